/- models of functions and their walks -/
import Derived.Test.YtdgejbbelmhbdaaDoorYt
import Derived.Test.YtdgejbbelmhbdaaDoorMm
import Derived.Test.YtdgejbbelmhbdaaDoorMd
import Derived.Test.YtdgejbbelmhbdaaDoorAs
import Derived.Test.YtdgejbbelmhbdaaDoorBu
import Derived.Test.YtdgejbbelmhbdaaDoorMove
import Derived.Test.YtdgejbbelmhbdaaDoorReft
import Derived.Test.YtdgejbbelmhbdaaDoorTeP
import Derived.Test.YtdgejbbelmhbdaaDoorIo
namespace Go.Proofs.YtdgejbbelmhbdaaDoor
open Go Go.RowKit Go.Eng
def enc_35 : Enc (Int × BitVec 128) := ⟨fun x => [Value.int .i64 (x.1), U (hi (x.2)), U (lo (x.2))], 3, by decide, fun _ => rfl, fun x v h => by simp only [List.mem_cons, List.not_mem_nil, or_false] at h; rcases h with rfl | rfl | rfl <;> rfl, True⟩
def slices_Clone___byte_byte__m (_ : Nat) (s : List UInt8) : Option (List UInt8) := ck ((([] : List UInt8)).length + (s).length ≤ 140737488355328) (some ((([] : List UInt8) ++ s)))
set_option maxRecDepth 100000 in
set_option maxHeartbeats 8000000 in
theorem slices_Clone___byte_byte__g (N : Nat) (s : List UInt8) (r : List UInt8) (hM : slices_Clone___byte_byte__m N s = some r) (ro : Addr → Option Value) (sv : Value) (hs : Rd encY ro sv s) : Does Tryd.prog 33 #[sv] ro [] (p1 (fun s_ => s_) 5 encY r) := by
  unfold slices_Clone___byte_byte__m at hM
  refine does_of_A follows Tryd.func33 rfl 8 rfl (upd (fun _ => undef) 0 (sv)) (by funext k; match k with | 0 => rfl | k + 1 => rfl) (fun base0_ => ?_)
  refine A_seq fun K1 hK1 => ?_
  refine A_reg ?_
  refine r_v (Value.slice none 0 0) rfl rfl rfl rfl ?_
  refine lx_nil ?_
  refine hK1 _ _ ?_; try clear hK1 K1
  refine A_seq fun K2 hK2 => ?_
  refine A_seq fun K3 hK3 => ?_
  refine A_reg ?_
  refine r_v (sv) rfl rfl rfl rfl ?_
  rcases nilS_or (Rd.shp hs) with ⟨hz4, hl5⟩ | hne6
  · obtain rfl := hz4; obtain rfl := List.eq_nil_of_length_eq_zero hl5
    replace hM : (some ([])) = some r := (by first | exact hM | (simp at hM ⊢; exact hM))
    refine r_v (.bool true) rfl rfl rfl rfl ?_
    refine lx_nil ?_
    refine hK3 _ _ ?_; try clear hK3 K3
    refine A_cond true rfl (fun _ => ?_) (fun h_ => nomatch h_)
    refine A_seq fun K15 hK15 => ?_
    refine A_reg ?_
    refine r_v (Value.slice none 0 0) rfl rfl rfl rfl ?_
    refine lx_nil ?_
    refine hK15 _ _ ?_; try clear hK15 K15
    obtain rfl := Option.some.inj hM
    refine A_ret (fun hn => ends1 (v0 := Value.slice none 0 0) Sl.nil (Sub.nil _) rfl (res1 rfl))
  · refine r_v (.bool false) rfl rfl rfl (ev_eqlNil rfl rfl rfl (Rd.shp hs) hne6) ?_
    refine lx_nil ?_
    refine hK3 _ _ ?_; try clear hK3 K3
    refine A_cond false rfl (fun h_ => nomatch h_) (fun _ => ?_)
    refine A_skip ?_
    refine hK2 _ _ ?_; try clear hK2 K2
    refine A_seq fun K7 hK7 => ?_
    refine A_regC [(some 5, false), (some 7, true)] (conG Tryd.prog []) ?_
    refine r_bs (cs0 := []) (Ls := []) 5 encY ([] : List UInt8) [] [] rfl rfl rfl rfl rfl rfl rfl (by kernel_rfl) (by kernel_rfl) rfl rfl rfl (fun s8 S9 H10 => ?_)
    refine r_v (sv) rfl rfl rfl rfl ?_
    replace hM := ck_some hM; obtain ⟨ck11, hM⟩ := hM
    refine r_app (cs0 := []) (Ls := [S9]) 0 (En := encY) rfl rfl rfl rfl rfl H10 rfl (rd_ro hs) rfl rfl rfl rfl rfl (app_b ck11 rfl) (app_m ck11 rfl) rfl (fun s12 S13 H14 => ?_)
    refine r_v (s12) rfl rfl rfl rfl ?_
    refine lx_nil ?_
    refine hK7 _ _ ?_; try clear hK7 K7
    obtain rfl := Option.some.inj hM
    refine A_ret (fun hn => ends1 (v0 := s12) H14 (sub_one (Sub.pick [S13] [0] rfl)) rfl (res1 rfl))
def vec_mayWidth_m (_ : Nat) (w : Int) : Option (Bool) := if (w : Int) ≥ 1 then some (decide ((w : Int) ≤ 128)) else some (false)
set_option maxRecDepth 100000 in
set_option maxHeartbeats 8000000 in
theorem vec_mayWidth_g (N : Nat) (w : Int) (r : Bool) (hM : vec_mayWidth_m N w = some r) : Gives Tryd.prog 56 #[Value.int .i64 (w)] (Value.bool (r)) := by
  unfold vec_mayWidth_m at hM
  refine gives_of_A follows Tryd.func56 rfl 9 rfl (upd (fun _ => undef) 0 (Value.int .i64 (w))) (by funext k; match k with | 0 => rfl | k + 1 => rfl) (fun base0_ => ?_)
  refine A_seq fun K1 hK1 => ?_
  refine A_reg ?_
  refine r_v (Value.bool (false)) rfl rfl rfl rfl ?_
  refine lx_nil ?_
  refine hK1 _ _ ?_; try clear hK1 K1
  refine A_seq fun K2 hK2 => ?_
  refine A_reg ?_
  refine r_v (Value.int .i64 (w)) rfl rfl rfl rfl ?_
  refine r_v (Value.bool (decide ((w : Int) ≥ 1))) rfl rfl rfl rfl ?_
  refine r_v (Value.bool (decide ((w : Int) ≥ 1))) rfl rfl rfl rfl ?_
  rcases hg3 : (decide ((w : Int) ≥ 1)) with _ | _
  · replace hM := ifn (of_decide_eq_false hg3) hM
    refine r_n false rfl (by decide) rfl ?_
    refine r_n false rfl (by decide) rfl ?_
    refine r_v (Value.bool (false)) rfl rfl rfl rfl ?_
    refine r_v (Value.bool (false)) rfl rfl rfl rfl ?_
    refine lx_nil ?_
    refine hK2 _ _ ?_; try clear hK2 K2
    obtain rfl := Option.some.inj hM
    refine A_ret (fun hn => ends_eq (v0 := Value.bool (false)) rfl (res1 rfl))
  · replace hM := ifp (of_decide_eq_true hg3) hM
    refine r_y rfl ?_
    refine r_v (Value.int .i64 (w)) rfl rfl rfl rfl ?_
    refine r_y rfl ?_
    refine r_v (Value.bool (decide ((w : Int) ≤ 128))) rfl rfl rfl rfl ?_
    refine r_v (Value.bool (decide ((w : Int) ≤ 128))) rfl rfl rfl rfl ?_
    refine r_v (Value.bool (decide ((w : Int) ≤ 128))) rfl rfl rfl rfl ?_
    refine lx_nil ?_
    refine hK2 _ _ ?_; try clear hK2 K2
    obtain rfl := Option.some.inj hM
    refine A_ret (fun hn => ends_eq (v0 := Value.bool (decide ((w : Int) ≤ 128))) rfl (res1 rfl))
def vec_Word_m (_ : Nat) (_ : Int) (v_1 : BitVec 128) : Option (BitVec 128) := some (v_1)
set_option maxRecDepth 100000 in
set_option maxHeartbeats 8000000 in
theorem vec_Word_g (N : Nat) (v_0 : Int) (v_1 : BitVec 128) (r : BitVec 128) (hM : vec_Word_m N v_0 v_1 = some r) : Gives Tryd.prog 53 #[Value.agg #[Value.int .i64 (v_0), U (hi (v_1)), U (lo (v_1))]] (Value.agg #[U (hi (r)), U (lo (r))]) := by
  unfold vec_Word_m at hM
  refine gives_of_A follows Tryd.func53 rfl 8 rfl (upd (fun _ => undef) 0 (Value.agg #[Value.int .i64 (v_0), U (hi (v_1)), U (lo (v_1))])) (by funext k; match k with | 0 => rfl | k + 1 => rfl) (fun base0_ => ?_)
  refine A_seq fun K1 hK1 => ?_
  refine A_reg ?_
  refine r_a (35, #[Value.int .i64 (v_0), U (hi (v_1)), U (lo (v_1))]) rfl rfl rfl (fun b2 => ?_) (.inr rfl)
  refine r_a (72, #[U (0#64), U (0#64)]) rfl rfl rfl (fun b3 => ?_) (.inr rfl)
  refine lx_nil ?_
  refine hK1 _ _ ?_; try clear hK1 K1
  refine A_seq fun K4 hK4 => ?_
  refine A_reg ?_
  refine r_v (Value.pointer (some ⟨b2, 1, none⟩)) rfl rfl rfl rfl ?_
  refine r_l (U (hi (v_1))) 1 _ _ _ _ rfl rfl rfl rfl rfl ?_
  refine r_v (Value.pointer (some ⟨b2, 2, none⟩)) rfl rfl rfl rfl ?_
  refine r_l (U (lo (v_1))) 1 _ _ _ _ rfl rfl rfl rfl rfl ?_
  refine r_v (Value.agg #[U (hi (v_1)), U (lo (v_1))]) rfl rfl rfl (ev_buildS rfl rfl rfl rfl) ?_
  refine r_s [(b3, 72, #[U (hi (v_1)), U (lo (v_1))]), (b2, 35, #[Value.int .i64 (v_0), U (hi (v_1)), U (lo (v_1))])] 0 _ _ _ (#[U (0#64), U (0#64)]) (#[U (hi (v_1)), U (lo (v_1))]) (#[U (hi (v_1)), U (lo (v_1))]) rfl rfl rfl rfl (.of rfl rfl) rfl rfl ?_
  refine lx_nil ?_
  refine hK4 _ _ ?_; try clear hK4 K4
  obtain rfl := Option.some.inj hM
  refine A_ret (fun hn => ends_eq (v0 := Value.agg #[U (hi (v_1)), U (lo (v_1))]) rfl (res1 (res_cell hn 0 rfl rfl rfl)))
def vec_May_m (N : Nat) (v_0 : Int) (v_1 : BitVec 128) : Option (Bool) := (vec_mayWidth_m N v_0).bind fun r4 => if (r4) = true then (vec_Word_m N v_0 v_1).bind fun r7 => some (decide ((((len128 (r7) : Nat) : Int) : Int) ≤ v_0)) else some (false)
set_option maxRecDepth 100000 in
set_option maxHeartbeats 8000000 in
theorem vec_May_g (N : Nat) (v_0 : Int) (v_1 : BitVec 128) (r : Bool) (hM : vec_May_m N v_0 v_1 = some r) : Gives Tryd.prog 50 #[Value.agg #[Value.int .i64 (v_0), U (hi (v_1)), U (lo (v_1))]] (Value.bool (r)) := by
  unfold vec_May_m at hM
  refine gives_of_A follows Tryd.func50 rfl 14 rfl (upd (fun _ => undef) 0 (Value.agg #[Value.int .i64 (v_0), U (hi (v_1)), U (lo (v_1))])) (by funext k; match k with | 0 => rfl | k + 1 => rfl) (fun base0_ => ?_)
  refine A_seq fun K1 hK1 => ?_
  refine A_reg ?_
  refine r_a (35, #[Value.int .i64 (v_0), U (hi (v_1)), U (lo (v_1))]) rfl rfl rfl (fun b2 => ?_) (.inr rfl)
  refine r_v (Value.bool (false)) rfl rfl rfl rfl ?_
  refine lx_nil ?_
  refine hK1 _ _ ?_; try clear hK1 K1
  refine A_seq fun K3 hK3 => ?_
  refine A_draw [] (by decide +kernel) (fun hn => sep_nil) ?_
  refine r_v (Value.pointer (some ⟨b2, 0, none⟩)) rfl rfl rfl rfl ?_
  refine r_l (Value.int .i64 (v_0)) 0 _ _ _ _ rfl rfl rfl rfl rfl ?_
  replace hM := bind_sm hM; obtain ⟨r4, hr5, hM⟩ := hM
  refine r_c (Value.bool (r4)) rfl _ _ (ev_callF rfl call_56 rfl) (vec_mayWidth_g N v_0 _ hr5) ?_
  refine r_v (Value.bool (r4)) rfl rfl rfl rfl ?_
  rcases hg6 : (r4) with _ | _
  · replace hM := ifn (Bool.eq_false_iff.1 hg6) hM
    refine r_n false rfl (by decide) rfl ?_
    refine r_n false rfl (by decide) rfl ?_
    refine r_n false rfl (by decide) rfl ?_
    refine r_n false rfl (by decide) rfl ?_
    refine r_n false rfl (by decide) rfl ?_
    refine r_n false rfl (by decide) rfl ?_
    refine r_v (Value.bool (false)) rfl rfl rfl rfl ?_
    refine r_v (Value.bool (false)) rfl rfl rfl rfl ?_
    refine lx_nil ?_
    refine hK3 _ _ ?_; try clear hK3 K3
    obtain rfl := Option.some.inj hM
    refine A_ret (fun hn => ends_eq (v0 := Value.bool (false)) rfl (res1 rfl))
  · replace hM := ifp hg6 hM
    refine r_y rfl ?_
    refine r_l (Value.agg #[Value.int .i64 (v_0), U (hi (v_1)), U (lo (v_1))]) 0 _ _ _ _ rfl rfl rfl rfl rfl ?_
    refine r_y rfl ?_
    replace hM := bind_sm hM; obtain ⟨r7, hr8, hM⟩ := hM
    refine r_c (Value.agg #[U (hi (r7)), U (lo (r7))]) rfl _ _ (ev_callF rfl call_53 rfl) (vec_Word_g N v_0 v_1 _ hr8) ?_
    refine r_y rfl ?_
    refine r_c (Value.int .i64 (((len128 (r7) : Nat) : Int))) rfl _ _ (ev_callF rfl call_62 rfl) (len_g (r7)) ?_
    refine r_y rfl ?_
    refine r_v (Value.pointer (some ⟨b2, 0, none⟩)) rfl rfl rfl rfl ?_
    refine r_y rfl ?_
    refine r_l (Value.int .i64 (v_0)) 0 _ _ _ _ rfl rfl rfl rfl rfl ?_
    refine r_y rfl ?_
    refine r_v (Value.bool (decide ((((len128 (r7) : Nat) : Int) : Int) ≤ v_0))) rfl rfl rfl rfl ?_
    refine r_v (Value.bool (decide ((((len128 (r7) : Nat) : Int) : Int) ≤ v_0))) rfl rfl rfl rfl ?_
    refine r_v (Value.bool (decide ((((len128 (r7) : Nat) : Int) : Int) ≤ v_0))) rfl rfl rfl rfl ?_
    refine lx_nil ?_
    refine hK3 _ _ ?_; try clear hK3 K3
    obtain rfl := Option.some.inj hM
    refine A_ret (fun hn => ends_eq (v0 := Value.bool (decide ((((len128 (r7) : Nat) : Int) : Int) ≤ v_0))) rfl (res1 rfl))
def wire_lowest_v1_l3 (x : BitVec 128) (count : Int) : Nat → List UInt8 → Int → Option (List UInt8)
  | 0, _, _ => none
  | n5 + 1, b1_, x2_ => if (x2_ : Int) < count then ck ((-9223372036854775808 ≤ (count - 1) ∧ (count - 1) ≤ 9223372036854775807)) (ck ((-9223372036854775808 ≤ ((count - 1) - x2_) ∧ ((count - 1) - x2_) ≤ 9223372036854775807)) (ck ((-9223372036854775808 ≤ (8 * ((count - 1) - x2_)) ∧ (8 * ((count - 1) - x2_)) ≤ 9223372036854775807)) (ck (-9223372036854775808 ≤ ((8 * ((count - 1) - x2_)) : Int) ∧ ((8 * ((count - 1) - x2_)) : Int) ≤ 9223372036854775807) (ck ((b1_).length + ([(byteU (lo (shiftI (x) (-((8 * ((count - 1) - x2_)))))))]).length ≤ 140737488355328) (ck ((-9223372036854775808 ≤ (x2_ + 1) ∧ (x2_ + 1) ≤ 9223372036854775807)) ((wire_lowest_v1_l3 x count n5) ((b1_ ++ ([(byteU (lo (shiftI (x) (-((8 * ((count - 1) - x2_)))))))]))) ((x2_ + 1)))))))) else some (b1_)
def wire_lowest_v1_m (N : Nat) (b : List UInt8) (x : BitVec 128) (count : Int) : Option (List UInt8) := wire_lowest_v1_l3 x count N (b) (0)
set_option maxRecDepth 100000 in
set_option maxHeartbeats 8000000 in
theorem wire_lowest_v1_g (N : Nat) (b : List UInt8) (x : BitVec 128) (count : Int) (r : List UInt8) (hM : wire_lowest_v1_m N b x count = some r) (ro : Addr → Option Value) (bv : Value) (Sb : List Bl) (hb : Sl 5 encY bv b Sb) : Does Tryd.prog 52 #[bv, Value.agg #[U (hi (x)), U (lo (x))], Value.int .i64 (count)] ro (List.flatten [Sb]) (pO (List.flatten [Sb]) (oS 5 encY r fun s_0 => (oE (s_0) []))) := by
  unfold wire_lowest_v1_m at hM
  refine doesO_of_A follows Tryd.func52 rfl 26 rfl (upd (upd (upd (fun _ => undef) 2 (Value.int .i64 (count))) 1 (Value.agg #[U (hi (x)), U (lo (x))])) 0 (bv)) (by funext k; match k with | 0 => rfl | 1 => rfl | 2 => rfl | k + 3 => rfl) (fun _ _ h_ _ => h_) (fun base0_ => ?_)
  refine A_seq fun K1 hK1 => ?_
  refine A_reg ?_
  refine r_a (72, #[U (hi (x)), U (lo (x))]) rfl rfl rfl (fun b2 => ?_) (.inr rfl)
  refine r_v (Value.slice none 0 0) rfl rfl rfl rfl ?_
  refine lx_nil ?_
  refine hK1 _ _ ?_; try clear hK1 K1
  refine A_seq fun K3 hK3 => ?_
  refine A_seq fun K4 hK4 => ?_
  refine A_reg ?_
  refine r_v (Value.int .i64 (count)) rfl rfl rfl rfl ?_
  refine r_v (Value.int .i64 (0)) rfl rfl rfl rfl ?_
  refine lx_nil ?_
  refine hK4 _ _ ?_; try clear hK4 K4
  refine A_block ?_
  refine A_forget _ (Sub.pick [[(b2, 72, #[U (hi (x)), U (lo (x))])], Sb] [0, 1] rfl) ?_
  refine A_loop (fun tt ll nn => ∃ (n5 : Nat) (b1_ : List UInt8) (x2_ : Int), (wire_lowest_v1_l3 x count n5 b1_ x2_ = some r) ∧ ∃ (vb1_ : Value) (Sb1_ : List Bl), Sl 5 encY vb1_ b1_ Sb1_ ∧ Is [(0, vb1_), (2, Value.int .i64 (count)), (4, Value.pointer (some ⟨b2, 0, none⟩)), (8, Value.int .i64 (count)), (9, Value.int .i64 (x2_))] (List.flatten [[(b2, 72, #[U (hi (x)), U (lo (x))])], Sb1_]) tt ll ∧ nn = n5 + 1) (N + 1) ?_ ?_
  · exact ⟨N, b, 0, hM, bv, Sb, hb, is_mk rfl rfl, rfl⟩
  · clear hM; rintro t l _ ⟨n5, b1_, x2_, hM, vb1_, Sb1_, hb1_, ⟨⟨T, rfl⟩, rfl⟩, rfl⟩
    rcases n5 with _ | n5
    · exact absurd hM (by simp [wire_lowest_v1_l3])
    rw [wire_lowest_v1_l3] at hM
    refine A_seq fun K6 hK6 => ?_
    refine A_reg ?_
    refine r_v (Value.bool (decide ((x2_ : Int) < count))) rfl rfl rfl rfl ?_
    refine lx_nil ?_
    refine hK6 _ _ ?_; try clear hK6 K6
    refine A_seq fun K7 hK7 => ?_
    refine A_cond (decide ((x2_ : Int) < count)) rfl (fun hc8 => ?_) (fun hc8 => ?_)
    · replace hM := ifp (of_decide_eq_true hc8) hM
      refine A_skip ?_
      refine hK7 _ _ ?_; try clear hK7 K7
      refine A_seq fun K9 hK9 => ?_
      refine A_block ?_
      refine A_seq fun K10 hK10 => ?_
      refine A_reg ?_
      refine r_v (Value.int .i64 (x2_)) rfl rfl rfl rfl ?_
      refine r_v (Value.int .i64 (x2_)) rfl rfl rfl rfl ?_
      refine lx_nil ?_
      refine hK10 _ _ ?_; try clear hK10 K10
      refine A_regC [(some 22, false), (some 23, true)] (conG Tryd.prog []) ?_
      refine r_v (vb1_) rfl rfl rfl rfl ?_
      refine r_l (Value.agg #[U (hi (x)), U (lo (x))]) 0 _ _ _ _ rfl rfl rfl rfl rfl ?_
      refine r_v (Value.int .i64 (count)) rfl rfl rfl rfl ?_
      replace hM := ck_some hM; obtain ⟨ck11, hM⟩ := hM
      refine r_v (Value.int .i64 ((count - 1))) rfl rfl (wi64 rfl ck11.1 ck11.2) rfl ?_
      refine r_v (Value.int .i64 (x2_)) rfl rfl rfl rfl ?_
      replace hM := ck_some hM; obtain ⟨ck12, hM⟩ := hM
      refine r_v (Value.int .i64 (((count - 1) - x2_))) rfl rfl (wi64 rfl ck12.1 ck12.2) rfl ?_
      replace hM := ck_some hM; obtain ⟨ck13, hM⟩ := hM
      refine r_v (Value.int .i64 ((8 * ((count - 1) - x2_)))) rfl rfl (wi64 rfl ck13.1 ck13.2) rfl ?_
      replace hM := ck_some hM; obtain ⟨ck14, hM⟩ := hM
      refine r_c (Value.agg #[U (hi (shiftI (x) (-((8 * ((count - 1) - x2_)))))), U (lo (shiftI (x) (-((8 * ((count - 1) - x2_))))))]) rfl _ _ (ev_callF rfl call_63 rfl) (shr_g (x) ((8 * ((count - 1) - x2_))) ck14.1 ck14.2) ?_
      refine r_v (U (lo (shiftI (x) (-((8 * ((count - 1) - x2_))))))) rfl rfl rfl rfl ?_
      refine r_w (Value.int .u8 ((((byteU (lo (shiftI (x) (-((8 * ((count - 1) - x2_))))))).toNat : Nat) : Int))) rfl rfl (u64_u8 (lo (shiftI (x) (-((8 * ((count - 1) - x2_))))))) (fun _ => rfl) ?_
      refine r_bs (cs0 := []) (Ls := [[(b2, 72, #[U (hi (x)), U (lo (x))])], Sb1_]) 5 encY [(byteU (lo (shiftI (x) (-((8 * ((count - 1) - x2_)))))))] [Value.int .u8 ((((byteU (lo (shiftI (x) (-((8 * ((count - 1) - x2_))))))).toNat : Nat) : Int))] [Value.int .u8 (0)] rfl rfl rfl rfl rfl rfl rfl (by kernel_rfl) (by kernel_rfl) rfl rfl rfl (fun s15 S16 H17 => ?_)
      replace hM := ck_some hM; obtain ⟨ck18, hM⟩ := hM
      refine r_app (cs0 := []) (Ls := [[(b2, 72, #[U (hi (x)), U (lo (x))])], Sb1_, S16]) 1 (En := encY) rfl rfl rfl rfl rfl hb1_ rfl (rd_own H17 (mem_chunk (Ls := [[(b2, 72, #[U (hi (x)), U (lo (x))])], Sb1_, S16]) (k := 2) rfl rfl)) rfl rfl rfl rfl rfl (app_b ck18 rfl) (app_m ck18 rfl) rfl (fun s19 S20 H21 => ?_)
      refine r_v (s19) rfl rfl rfl rfl ?_
      refine lx_nil ?_
      refine hK9 _ _ ?_; try clear hK9 K9
      refine A_reg ?_
      replace hM := ck_some hM; obtain ⟨ck22, hM⟩ := hM
      refine r_v (Value.int .i64 ((x2_ + 1))) rfl rfl (wi64 rfl ck22.1 ck22.2) rfl ?_
      refine r_v (Value.int .i64 ((x2_ + 1))) rfl rfl rfl rfl ?_
      refine lx_nil ?_
      refine fg _ (Sub.pick [[(b2, 72, #[U (hi (x)), U (lo (x))])], S20, S16] [0, 1] rfl) ?_
      exact ⟨n5 + 1, by omega, n5, (b1_ ++ ([(byteU (lo (shiftI (x) (-((8 * ((count - 1) - x2_)))))))])), (x2_ + 1), hM, s19, S20, H21, is_mk rfl rfl, rfl⟩
    · replace hM := ifn (of_decide_eq_false hc8) hM
      refine A_exit ?_
      refine hK3 _ _ ?_; try clear hK3 K3
      refine A_seq fun K23 hK23 => ?_
      refine A_reg ?_
      refine r_v (vb1_) rfl rfl rfl rfl ?_
      refine r_v (vb1_) rfl rfl rfl rfl ?_
      refine lx_nil ?_
      refine hK23 _ _ ?_; try clear hK23 K23
      obtain rfl := Option.some.inj hM
      refine A_ret (fun hn => endsO (v0 := vb1_) (O := [Sb1_]) (res1 rfl) (Sub.pick [[(b2, 72, #[U (hi (x)), U (lo (x))])], Sb1_] [1] rfl) ⟨vb1_, Sb1_, _, hb1_, ⟨rfl, rfl⟩, rfl⟩)
def wire_number_v1_m (N : Nat) (b : List UInt8) (n : Int) (count : Int) : Option (List UInt8) := (wire_lowest_v1_m N b ((0#64) ++ (BitVec.ofInt 64 (n))) count).bind fun r3 => some (r3)
set_option maxRecDepth 100000 in
set_option maxHeartbeats 8000000 in
theorem wire_number_v1_g (N : Nat) (b : List UInt8) (n : Int) (count : Int) (r : List UInt8) (hM : wire_number_v1_m N b n count = some r) (ro : Addr → Option Value) (bv : Value) (Sb : List Bl) (hb : Sl 5 encY bv b Sb) : Does Tryd.prog 51 #[bv, Value.int .i64 (n), Value.int .i64 (count)] ro (List.flatten [Sb]) (pO (List.flatten [Sb]) (oS 5 encY r fun s_0 => (oE (s_0) []))) := by
  unfold wire_number_v1_m at hM
  refine doesO_of_A follows Tryd.func51 rfl 13 rfl (upd (upd (upd (fun _ => undef) 2 (Value.int .i64 (count))) 1 (Value.int .i64 (n))) 0 (bv)) (by funext k; match k with | 0 => rfl | 1 => rfl | 2 => rfl | k + 3 => rfl) (fun _ _ h_ _ => h_) (fun base0_ => ?_)
  refine A_seq fun K1 hK1 => ?_
  refine A_reg ?_
  refine r_v (Value.slice none 0 0) rfl rfl rfl rfl ?_
  refine lx_nil ?_
  refine hK1 _ _ ?_; try clear hK1 K1
  refine A_seq fun K2 hK2 => ?_
  refine A_regC [(some 12, true)] (conG Tryd.prog [(12, fun _ _ v_ L_ U_ => ∀ u0_, wire_lowest_v1_m N b ((0#64) ++ (BitVec.ofInt 64 (n))) count = some u0_ → (pO (List.flatten [Sb]) (oS 5 encY u0_ fun s_0 => (oE (s_0) []))) v_ L_ U_)]) ?_
  refine r_v (bv) rfl rfl rfl rfl ?_
  refine r_v (Value.int .i64 (n)) rfl rfl rfl rfl ?_
  refine r_w (U (BitVec.ofInt 64 (n))) rfl rfl (U_wrapI (n)) (fun _ => rfl) ?_
  refine r_v (Value.agg #[U (0#64), U (BitVec.ofInt 64 (n))]) rfl rfl rfl (ev_buildS rfl rfl rfl rfl) ?_
  refine r_v (Value.int .i64 (count)) rfl rfl rfl rfl ?_
  replace hM := bind_sm hM; obtain ⟨r3, hr4, hM⟩ := hM
  refine r_gm (Ls := [Sb]) (FL := [Sb]) (RL := []) [0] (oS 5 encY r3 fun s_0 => (oE (s_0) [])) (some 12) 52 _ rfl rfl rfl rfl rfl (ev_callF rfl call_52 rfl) (fun own_ nw_ hn_ hs_ => (by have h_ := wire_lowest_v1_g N b ((0#64) ++ (BitVec.ofInt 64 (n))) count _ hr4 (sans hs_.view (([Sb]).flatten.map (·.1))) bv Sb hb; simp only [app_hl] at h_; exact h_)) (fun _ _ v_ L_ U_ => ⟨fun h_ => h_ _ hr4, fun h_ => by intro _ e_; cases Option.some.inj (e_.symm.trans hr4); exact h_⟩) (fun h_ => nomatch h_) ?_
  rintro s5 _ ⟨_, S6, _, H7, ⟨rfl, rfl⟩, rfl⟩
  refine lx_perm (Ls := [S6]) (Ls' := [S6]) [0] rfl rfl ?_
  refine r_v (s5) rfl rfl rfl rfl ?_
  refine lx_nil ?_
  refine hK2 _ _ ?_; try clear hK2 K2
  obtain rfl := Option.some.inj hM
  refine A_ret (fun hn => endsO (v0 := s5) (O := [S6]) (res1 rfl) (Sub.pick [S6] [0] rfl) ⟨s5, S6, _, H7, ⟨rfl, rfl⟩, rfl⟩)
def wire_holding_m (_ : Nat) (w : Int) : Option (Int) := ck ((-9223372036854775808 ≤ (w + 8) ∧ (w + 8) ≤ 9223372036854775807)) (ck ((-9223372036854775808 ≤ ((w + 8) - 1) ∧ ((w + 8) - 1) ≤ 9223372036854775807)) (ck (0 ≤ ((w + 8) - 1) ∧ ((w + 8) - 1) ≤ 9223372036854775807) (some ((((w + 8) - 1)) / 8))))
set_option maxRecDepth 100000 in
set_option maxHeartbeats 8000000 in
theorem wire_holding_g (N : Nat) (w : Int) (r : Int) (hM : wire_holding_m N w = some r) : Gives Tryd.prog 42 #[Value.int .i64 (w)] (Value.int .i64 (r)) := by
  unfold wire_holding_m at hM
  refine gives_of_A follows Tryd.func42 rfl 7 rfl (upd (fun _ => undef) 0 (Value.int .i64 (w))) (by funext k; match k with | 0 => rfl | k + 1 => rfl) (fun base0_ => ?_)
  refine A_seq fun K1 hK1 => ?_
  refine A_reg ?_
  refine r_v (Value.int .i64 (0)) rfl rfl rfl rfl ?_
  refine lx_nil ?_
  refine hK1 _ _ ?_; try clear hK1 K1
  refine A_seq fun K2 hK2 => ?_
  refine A_reg ?_
  refine r_v (Value.int .i64 (w)) rfl rfl rfl rfl ?_
  replace hM := ck_some hM; obtain ⟨ck3, hM⟩ := hM
  refine r_v (Value.int .i64 ((w + 8))) rfl rfl (wi64 rfl ck3.1 ck3.2) rfl ?_
  replace hM := ck_some hM; obtain ⟨ck4, hM⟩ := hM
  refine r_v (Value.int .i64 (((w + 8) - 1))) rfl rfl (wi64 rfl ck4.1 ck4.2) rfl ?_
  replace hM := ck_some hM; obtain ⟨ck5, hM⟩ := hM
  refine r_v (Value.int .i64 ((((w + 8) - 1)) / 8)) rfl rfl (quo_i64 ck5.1 (by decide) ck5.2) rfl ?_
  refine r_v (Value.int .i64 ((((w + 8) - 1)) / 8)) rfl rfl rfl rfl ?_
  refine lx_nil ?_
  refine hK2 _ _ ?_; try clear hK2 K2
  obtain rfl := Option.some.inj hM
  refine A_ret (fun hn => ends_eq (v0 := Value.int .i64 ((((w + 8) - 1)) / 8)) rfl (res1 rfl))
def wire_row_v1_m (N : Nat) (b : List UInt8) (v_0 : Int) (v_1 : BitVec 128) : Option (List UInt8) := (vec_May_m N v_0 v_1).bind fun r5 => if (r5) = true then (wire_number_v1_m N b v_0 1).bind fun r15 => (vec_Word_m N v_0 v_1).bind fun r20 => (wire_holding_m N v_0).bind fun r22 => (wire_lowest_v1_m N r15 r20 r22).bind fun r27 => some (r27) else (wire_number_v1_m N b 0 1).bind fun r9 => some (r9)
set_option maxRecDepth 100000 in
set_option maxHeartbeats 8000000 in
theorem wire_row_v1_g (N : Nat) (b : List UInt8) (v_0 : Int) (v_1 : BitVec 128) (r : List UInt8) (hM : wire_row_v1_m N b v_0 v_1 = some r) (ro : Addr → Option Value) (bv : Value) (Sb : List Bl) (hb : Sl 5 encY bv b Sb) : Does Tryd.prog 38 #[bv, Value.agg #[Value.int .i64 (v_0), U (hi (v_1)), U (lo (v_1))]] ro (List.flatten [Sb]) (pO (List.flatten [Sb]) (oS 5 encY r fun s_0 => (oE (s_0) []))) := by
  unfold wire_row_v1_m at hM
  refine doesO_of_A follows Tryd.func38 rfl 20 rfl (upd (upd (fun _ => undef) 1 (Value.agg #[Value.int .i64 (v_0), U (hi (v_1)), U (lo (v_1))])) 0 (bv)) (by funext k; match k with | 0 => rfl | 1 => rfl | k + 2 => rfl) (fun _ _ h_ _ => h_) (fun base0_ => ?_)
  refine A_seq fun K1 hK1 => ?_
  refine A_reg ?_
  refine r_a (35, #[Value.int .i64 (v_0), U (hi (v_1)), U (lo (v_1))]) rfl rfl rfl (fun b2 => ?_) (.inr rfl)
  refine r_v (Value.slice none 0 0) rfl rfl rfl rfl ?_
  refine lx_nil ?_
  refine hK1 _ _ ?_; try clear hK1 K1
  refine A_seq fun K3 hK3 => ?_
  refine A_seq fun K4 hK4 => ?_
  refine A_reg ?_
  refine r_l (Value.agg #[Value.int .i64 (v_0), U (hi (v_1)), U (lo (v_1))]) 0 _ _ _ _ rfl rfl rfl rfl rfl ?_
  replace hM := bind_sm hM; obtain ⟨r5, hr6, hM⟩ := hM
  refine r_c (Value.bool (r5)) rfl _ _ (ev_callF rfl call_50 rfl) (vec_May_g N v_0 v_1 _ hr6) ?_
  refine r_v (Value.bool (!(r5))) rfl rfl rfl rfl ?_
  refine lx_nil ?_
  refine hK4 _ _ ?_; try clear hK4 K4
  refine A_cond (!(r5)) rfl (fun hc7 => ?_) (fun hc7 => ?_)
  · replace hM := ifn (Bool.eq_false_iff.1 (not_t hc7)) hM
    refine A_seq fun K8 hK8 => ?_
    refine A_regC [(some 9, true)] (conG Tryd.prog [(9, fun _ _ v_ L_ U_ => ∀ u0_, wire_number_v1_m N b 0 1 = some u0_ → (pO (List.flatten [Sb]) (oS 5 encY u0_ fun s_0 => (oE (s_0) []))) v_ L_ U_)]) ?_
    refine r_v (bv) rfl rfl rfl rfl ?_
    replace hM := bind_sm hM; obtain ⟨r9, hr10, hM⟩ := hM
    refine r_gm (Ls := [[(b2, 35, #[Value.int .i64 (v_0), U (hi (v_1)), U (lo (v_1))])], Sb]) (FL := [Sb]) (RL := [[(b2, 35, #[Value.int .i64 (v_0), U (hi (v_1)), U (lo (v_1))])]]) [1] (oS 5 encY r9 fun s_0 => (oE (s_0) [])) (some 9) 51 _ rfl rfl rfl rfl rfl (ev_callF rfl call_51 rfl) (fun own_ nw_ hn_ hs_ => wire_number_v1_g N b 0 1 _ hr10 _ bv Sb hb) (fun _ _ v_ L_ U_ => ⟨fun h_ => h_ _ hr10, fun h_ => by intro _ e_; cases Option.some.inj (e_.symm.trans hr10); exact h_⟩) (fun h_ => nomatch h_) ?_
    rintro s11 _ ⟨_, S12, _, H13, ⟨rfl, rfl⟩, rfl⟩
    refine lx_perm (Ls := [[(b2, 35, #[Value.int .i64 (v_0), U (hi (v_1)), U (lo (v_1))])], S12]) (Ls' := [[(b2, 35, #[Value.int .i64 (v_0), U (hi (v_1)), U (lo (v_1))])], S12]) [0, 1] rfl rfl ?_
    refine r_v (s11) rfl rfl rfl rfl ?_
    refine lx_nil ?_
    refine hK8 _ _ ?_; try clear hK8 K8
    obtain rfl := Option.some.inj hM
    refine A_ret (fun hn => endsO (v0 := s11) (O := [S12]) (res1 rfl) (Sub.pick [[(b2, 35, #[Value.int .i64 (v_0), U (hi (v_1)), U (lo (v_1))])], S12] [1] rfl) ⟨s11, S12, _, H13, ⟨rfl, rfl⟩, rfl⟩)
  · replace hM := ifp (not_f hc7) hM
    refine A_skip ?_
    refine hK3 _ _ ?_; try clear hK3 K3
    refine A_seq fun K14 hK14 => ?_
    refine A_drawH (Ls := [[(b2, 35, #[Value.int .i64 (v_0), U (hi (v_1)), U (lo (v_1))])], Sb]) [(some 13, true), (some 19, true), (some 1000000014, true)] [(13, fun _ _ v_ L_ U_ => (pH ((List.flatten [Sb]).map (·.1)) (fun v_ L_ U_ => ∀ u0_, wire_number_v1_m N b v_0 1 = some u0_ → (pO (List.flatten [Sb]) (oS 5 encY u0_ fun s_0 => (oE (s_0) []))) v_ L_ U_) v_ L_ U_)), (19, fun a_ _ v_ L_ U_ => ∀ u0_, wire_number_v1_m N b v_0 1 = some u0_ → ∀ u1_, vec_Word_m N v_0 v_1 = some u1_ → ∀ u2_, wire_holding_m N v_0 = some u2_ → ∀ u3_, wire_lowest_v1_m N u0_ u1_ u2_ = some u3_ → (pN (List.flatten [blkS (argAt a_ 1)]) (oS 5 encY u3_ fun s_0 => (oE (s_0) []))) v_ L_ U_)] [1] [0] [] (by decide +kernel) (fun hn => sep_nil) (by decide +kernel) rfl (⟨.inr (fun _ _ _ _ _ h_ => pH_hid (pick_sub (Ls := [[(b2, 35, #[Value.int .i64 (v_0), U (hi (v_1)), U (lo (v_1))])], Sb]) (is := [1]) (js := [1]) rfl) h_), ⟨.inl rfl, trivial⟩⟩) (fun hnb_ => ?_)
    refine r_v (bv) rfl rfl rfl rfl ?_
    refine r_v (Value.pointer (some ⟨b2, 0, none⟩)) rfl rfl rfl rfl ?_
    refine r_lH (Value.int .i64 (v_0)) 0 _ _ _ _ rfl rfl rfl rfl rfl (hnb_ b2 (List.mem_of_getElem? (i := 0) rfl)) ?_
    replace hM := bind_sm hM; obtain ⟨r15, hr16, hM⟩ := hM
    refine r_gm (Ls := [[(b2, 35, #[Value.int .i64 (v_0), U (hi (v_1)), U (lo (v_1))])], Sb]) (FL := [Sb]) (RL := [[(b2, 35, #[Value.int .i64 (v_0), U (hi (v_1)), U (lo (v_1))])]]) [1] (oS 5 encY r15 fun s_0 => (oE (s_0) [])) (some 13) 51 _ rfl rfl rfl rfl rfl (ev_callF rfl call_51 rfl) (fun own_ nw_ hn_ hs_ => wire_number_v1_g N b v_0 1 _ hr16 _ bv Sb hb) (fun a_ c_ v_ L_ U_ => pH_iff (q := fun v_ L_ U_ => ∀ u0_, wire_number_v1_m N b v_0 1 = some u0_ → (pO (List.flatten [Sb]) (oS 5 encY u0_ fun s_0 => (oE (s_0) []))) v_ L_ U_) ((fun _ _ v_ L_ U_ => ⟨fun h_ => h_ _ hr16, fun h_ => by intro _ e_; cases Option.some.inj (e_.symm.trans hr16); exact h_⟩) a_ c_ v_ L_ U_)) (fun _ => (NiceO.sub (R := []) (niceS fun s_0 => (niceE rfl)) (Sub.pick [Sb] [] rfl))) ?_
    rintro s17 _ ⟨_, S18, _, H19, ⟨rfl, rfl⟩, rfl⟩
    refine lx_perm (Ls := [[(b2, 35, #[Value.int .i64 (v_0), U (hi (v_1)), U (lo (v_1))])], S18]) (Ls' := [[(b2, 35, #[Value.int .i64 (v_0), U (hi (v_1)), U (lo (v_1))])], S18]) [0, 1] rfl rfl ?_
    refine r_lH (Value.agg #[Value.int .i64 (v_0), U (hi (v_1)), U (lo (v_1))]) 0 _ _ _ _ rfl rfl rfl rfl rfl (hnb_ b2 (List.mem_of_getElem? (i := 0) rfl)) ?_
    replace hM := bind_sm hM; obtain ⟨r20, hr21, hM⟩ := hM
    refine r_c (Value.agg #[U (hi (r20)), U (lo (r20))]) rfl _ _ (ev_callF rfl call_53 rfl) (vec_Word_g N v_0 v_1 _ hr21) ?_
    refine r_v (Value.pointer (some ⟨b2, 0, none⟩)) rfl rfl rfl rfl ?_
    refine r_lH (Value.int .i64 (v_0)) 0 _ _ _ _ rfl rfl rfl rfl rfl (hnb_ b2 (List.mem_of_getElem? (i := 0) rfl)) ?_
    replace hM := bind_sm hM; obtain ⟨r22, hr23, hM⟩ := hM
    refine r_c (Value.int .i64 (r22)) rfl _ _ (ev_callF rfl call_42 rfl) (wire_holding_g N v_0 _ hr23) ?_
    refine lx_canon (Ls := [[(b2, 35, #[Value.int .i64 (v_0), U (hi (v_1)), U (lo (v_1))])], S18]) trivial 1 rfl H19 (fun S24 H25 hn26 => ?_)
    replace hM := bind_sm hM; obtain ⟨r27, hr28, hM⟩ := hM
    refine r_gmL (Ls := [[(b2, 35, #[Value.int .i64 (v_0), U (hi (v_1)), U (lo (v_1))])], S24]) (FL := [S24]) (RL := [[(b2, 35, #[Value.int .i64 (v_0), U (hi (v_1)), U (lo (v_1))])]]) [1] (oS 5 encY r27 fun s_0 => (oE (s_0) [])) (some 19) 52 _ (pc := fun a_ => pN (List.flatten [blkS (argAt a_ 1)]) (oS 5 encY r27 fun s_0 => (oE (s_0) []))) rfl rfl rfl rfl rfl (ev_callF rfl call_52 rfl) (fun own_ nw_ hn_ hs_ => wire_lowest_v1_g N r15 r20 r22 _ hr28 _ s17 S24 H25) (fun _ _ v_ L_ U_ => ⟨fun h_ => h_ _ hr16 _ hr21 _ hr23 _ hr28, fun h_ => by intro _ e_; cases Option.some.inj (e_.symm.trans hr16); intro _ e_; cases Option.some.inj (e_.symm.trans hr21); intro _ e_; cases Option.some.inj (e_.symm.trans hr23); intro _ e_; cases Option.some.inj (e_.symm.trans hr28); exact h_⟩) (fun _ _ _ => pN_iff (nmF (nmC hn26 nmN))) (fun _ => (NiceO.sub (R := []) (niceS fun s_0 => (niceE rfl)) (Sub.pick [S24] [] rfl))) ?_
    rintro s29 _ ⟨_, S30, _, H31, ⟨rfl, rfl⟩, rfl⟩
    refine lx_perm (Ls := [[(b2, 35, #[Value.int .i64 (v_0), U (hi (v_1)), U (lo (v_1))])], S30]) (Ls' := [[(b2, 35, #[Value.int .i64 (v_0), U (hi (v_1)), U (lo (v_1))])], S30]) [0, 1] rfl rfl ?_
    refine r_v (s29) rfl rfl rfl rfl ?_
    refine lx_nil ?_
    refine hK14 _ _ ?_; try clear hK14 K14
    obtain rfl := Option.some.inj hM
    refine A_ret (fun hn => endsO (v0 := s29) (O := [S30]) (res1 rfl) (Sub.pick [[(b2, 35, #[Value.int .i64 (v_0), U (hi (v_1)), U (lo (v_1))])], S30] [1] rfl) ⟨s29, S30, _, H31, ⟨rfl, rfl⟩, rfl⟩)
def wire_Vec_m (N : Nat) (b : List UInt8) (v_0 : Int) (v_1 : BitVec 128) : Option (List UInt8) := (slices_Clone___byte_byte__m N b).bind fun r4 => (wire_row_v1_m N r4 v_0 v_1).bind fun r12 => some (r12)
set_option maxRecDepth 100000 in
set_option maxHeartbeats 8000000 in
theorem wire_Vec_g (N : Nat) (b : List UInt8) (v_0 : Int) (v_1 : BitVec 128) (r : List UInt8) (hM : wire_Vec_m N b v_0 v_1 = some r) (ro : Addr → Option Value) (bv : Value) (hb : Rd encY ro bv b) : Does Tryd.prog 22 #[bv, Value.agg #[Value.int .i64 (v_0), U (hi (v_1)), U (lo (v_1))]] ro [] (p1 (fun s_ => s_) 5 encY r) := by
  unfold wire_Vec_m at hM
  refine does_of_A follows Tryd.func22 rfl 9 rfl (upd (upd (fun _ => undef) 1 (Value.agg #[Value.int .i64 (v_0), U (hi (v_1)), U (lo (v_1))])) 0 (bv)) (by funext k; match k with | 0 => rfl | 1 => rfl | k + 2 => rfl) (fun base0_ => ?_)
  refine A_seq fun K1 hK1 => ?_
  refine A_reg ?_
  refine r_a (35, #[Value.int .i64 (v_0), U (hi (v_1)), U (lo (v_1))]) rfl rfl rfl (fun b2 => ?_) (.inr rfl)
  refine r_v (Value.slice none 0 0) rfl rfl rfl rfl ?_
  refine lx_nil ?_
  refine hK1 _ _ ?_; try clear hK1 K1
  refine A_seq fun K3 hK3 => ?_
  refine A_drawR [(some 6, false), (some 8, true)] (conG Tryd.prog [(6, fun _ _ v_ L_ U_ => ∀ u0_, slices_Clone___byte_byte__m N b = some u0_ → (p1 (fun s_ => s_) 5 encY (u0_)) v_ L_ U_), (8, fun a_ _ v_ L_ U_ => ∀ u0_, slices_Clone___byte_byte__m N b = some u0_ → ∀ u1_, wire_row_v1_m N u0_ v_0 v_1 = some u1_ → (pN (List.flatten [blkS (argAt a_ 1)]) (oS 5 encY u1_ fun s_0 => (oE (s_0) []))) v_ L_ U_)]) [] (by decide +kernel) (fun hn => sep_nil) ?_
  refine r_v (bv) rfl rfl rfl rfl ?_
  replace hM := bind_sm hM; obtain ⟨r4, hr5, hM⟩ := hM
  refine r_g1 (Ls := [[(b2, 35, #[Value.int .i64 (v_0), U (hi (v_1)), U (lo (v_1))])]]) (fun s6 => s6) 5 encY (r4) 33 _ rfl rfl rfl (ev_callF rfl call_33 rfl) (fun own_ nw_ hs_ => slices_Clone___byte_byte__g N b _ hr5 hs_.view bv ((rd_ro hb) own_ nw_ hs_)) (fun _ _ v_ L_ U_ => ⟨fun h_ => h_ _ hr5, fun h_ => by intro _ e_; cases Option.some.inj (e_.symm.trans hr5); exact h_⟩) (fun s6 S7 H8 => ?_)
  refine r_l (Value.agg #[Value.int .i64 (v_0), U (hi (v_1)), U (lo (v_1))]) 0 _ _ _ _ rfl rfl rfl rfl rfl ?_
  refine lx_canon (Ls := [[(b2, 35, #[Value.int .i64 (v_0), U (hi (v_1)), U (lo (v_1))])], S7]) trivial 1 rfl H8 (fun S9 H10 hn11 => ?_)
  replace hM := bind_sm hM; obtain ⟨r12, hr13, hM⟩ := hM
  refine r_gmL (Ls := [[(b2, 35, #[Value.int .i64 (v_0), U (hi (v_1)), U (lo (v_1))])], S9]) (FL := [S9]) (RL := [[(b2, 35, #[Value.int .i64 (v_0), U (hi (v_1)), U (lo (v_1))])]]) [1] (oS 5 encY r12 fun s_0 => (oE (s_0) [])) (some 8) 38 _ (pc := fun a_ => pN (List.flatten [blkS (argAt a_ 1)]) (oS 5 encY r12 fun s_0 => (oE (s_0) []))) rfl rfl rfl rfl rfl (ev_callF rfl call_38 rfl) (fun own_ nw_ hn_ hs_ => wire_row_v1_g N r4 v_0 v_1 _ hr13 _ s6 S9 H10) (fun _ _ v_ L_ U_ => ⟨fun h_ => h_ _ hr5 _ hr13, fun h_ => by intro _ e_; cases Option.some.inj (e_.symm.trans hr5); intro _ e_; cases Option.some.inj (e_.symm.trans hr13); exact h_⟩) (fun _ _ _ => pN_iff (nmF (nmC hn11 nmN))) (fun _ => (NiceO.sub (R := []) (niceS fun s_0 => (niceE rfl)) (Sub.pick [S9] [] rfl))) ?_
  rintro s14 _ ⟨_, S15, _, H16, ⟨rfl, rfl⟩, rfl⟩
  refine lx_perm (Ls := [[(b2, 35, #[Value.int .i64 (v_0), U (hi (v_1)), U (lo (v_1))])], S15]) (Ls' := [[(b2, 35, #[Value.int .i64 (v_0), U (hi (v_1)), U (lo (v_1))])], S15]) [0, 1] rfl rfl ?_
  refine r_v (s14) rfl rfl rfl rfl ?_
  refine lx_nil ?_
  refine hK3 _ _ ?_; try clear hK3 K3
  obtain rfl := Option.some.inj hM
  refine A_ret (fun hn => ends1 (v0 := s14) H16 (sub_one (Sub.pick [[(b2, 35, #[Value.int .i64 (v_0), U (hi (v_1)), U (lo (v_1))])], S15] [1] rfl)) rfl (res1 rfl))
def shunterlaw07_lives_m (N : Nat) : Option (Bool) := (wire_Vec_m N ([]) 12 ((0#64) ++ (2748#64))).bind fun r3 => some ((r3) == (([12, 10, 188] : List UInt8)))
set_option maxRecDepth 100000 in
set_option maxHeartbeats 8000000 in
theorem shunterlaw07_lives_g (N : Nat) (r : Bool) (hM : shunterlaw07_lives_m N = some r) : Gives Tryd.prog 4 #[] (Value.bool (r)) := by
  unfold shunterlaw07_lives_m at hM
  refine gives_of_A follows Tryd.func4 rfl 7 rfl (fun _ => undef) (by funext k; rfl) (fun base0_ => ?_)
  refine A_seq fun K1 hK1 => ?_
  refine A_reg ?_
  refine r_v (Value.bool (false)) rfl rfl rfl rfl ?_
  refine lx_nil ?_
  refine hK1 _ _ ?_; try clear hK1 K1
  refine A_seq fun K2 hK2 => ?_
  refine A_regC [(some 3, false)] (conG Tryd.prog [(3, fun _ _ v_ L_ U_ => ∀ u0_, wire_Vec_m N ([]) 12 ((0#64) ++ (2748#64)) = some u0_ → (p1 (fun s_ => s_) 5 encY (u0_)) v_ L_ U_)]) ?_
  refine r_v (Value.agg #[Value.int .i64 (12), U (0#64), U (2748#64)]) rfl rfl rfl (ev_buildS rfl rfl rfl rfl) ?_
  replace hM := bind_sm hM; obtain ⟨r3, hr4, hM⟩ := hM
  refine r_g1 (Ls := []) (fun s5 => s5) 5 encY (r3) 22 _ rfl rfl rfl (ev_callF rfl call_22 rfl) (fun own_ nw_ hs_ => (by have h_ := wire_Vec_g N ([]) 12 ((0#64) ++ (2748#64)) _ hr4 hs_.view (Value.slice none 0 0) ((fun _ _ _ => .inl ⟨rfl, rfl⟩) own_ nw_ hs_); simp only [app_hl] at h_; exact h_)) (fun _ _ v_ L_ U_ => ⟨fun h_ => h_ _ hr4, fun h_ => by intro _ e_; cases Option.some.inj (e_.symm.trans hr4); exact h_⟩) (fun s5 S6 H7 => ?_)
  refine r_v (s5) rfl rfl rfl rfl ?_
  refine lx_nil ?_
  refine hK2 _ _ ?_; try clear hK2 K2
  refine A_seq fun K8 hK8 => ?_
  refine A_reg ?_
  refine r_v (s5) rfl rfl rfl rfl ?_
  refine r_stl (e := 5) (r3) rfl rfl rfl rfl rfl (rd_own H7 (mem_chunk (Ls := [S6]) (k := 0) rfl rfl)) ?_
  refine r_v (Value.bool ((r3) == (([12, 10, 188] : List UInt8)))) rfl rfl rfl (ev_eqS rfl rfl) ?_
  refine r_v (Value.bool ((r3) == (([12, 10, 188] : List UInt8)))) rfl rfl rfl rfl ?_
  refine lx_nil ?_
  refine hK8 _ _ ?_; try clear hK8 K8
  obtain rfl := Option.some.inj hM
  refine A_ret (fun hn => ends_eq (v0 := Value.bool ((r3) == (([12, 10, 188] : List UInt8)))) rfl (res1 rfl))
def wire_Reader_Fail_v1_m (_ : Nat) (_ : Int) : Option (Unit) := some (())
set_option maxRecDepth 100000 in
set_option maxHeartbeats 8000000 in
theorem wire_Reader_Fail_v1_g (N : Nat) (e' : Int) (r : Unit) (hM : wire_Reader_Fail_v1_m N e' = some r) (ro : Addr → Option Value)  : Does Tryd.prog 5 #[Value.pointer none, Value.int .i64 (e')] ro [] (pO [] (oE (Value.tuple #[]) [])) := by
  unfold wire_Reader_Fail_v1_m at hM
  refine doesO_of_A follows Tryd.func5 rfl 11 rfl (upd (upd (fun _ => undef) 1 (Value.int .i64 (e'))) 0 (Value.pointer none)) (by funext k; match k with | 0 => rfl | 1 => rfl | k + 2 => rfl) (fun _ _ h_ _ => h_) (fun base0_ => ?_)
  refine A_seq fun K1 hK1 => ?_
  refine A_reg ?_
  refine r_v (Value.pointer none) rfl rfl rfl rfl ?_
  refine r_v (Value.bool (false)) rfl rfl rfl rfl ?_
  refine lx_nil ?_
  refine hK1 _ _ ?_; try clear hK1 K1
  refine A_cond false rfl (fun h_ => nomatch h_) (fun _ => ?_)
  refine A_skip ?_
  obtain rfl := Option.some.inj hM
  refine endsN (v0 := Value.tuple #[]) (O := []) rfl (Sub.nil _) ⟨rfl, rfl⟩
def wire_Reader_Bad_v1_m (_ : Nat) : Option (Bool) := some (true)
set_option maxRecDepth 100000 in
set_option maxHeartbeats 8000000 in
theorem wire_Reader_Bad_v1_g (N : Nat) (r : Bool) (hM : wire_Reader_Bad_v1_m N = some r) : Gives Tryd.prog 6 #[Value.pointer none] (Value.bool (r)) := by
  unfold wire_Reader_Bad_v1_m at hM
  refine gives_of_A follows Tryd.func6 rfl 13 rfl (upd (fun _ => undef) 0 (Value.pointer none)) (by funext k; match k with | 0 => rfl | k + 1 => rfl) (fun base0_ => ?_)
  refine A_seq fun K1 hK1 => ?_
  refine A_reg ?_
  refine r_v (Value.bool (false)) rfl rfl rfl rfl ?_
  refine lx_nil ?_
  refine hK1 _ _ ?_; try clear hK1 K1
  refine A_seq fun K2 hK2 => ?_
  refine A_reg ?_
  refine r_v (Value.pointer none) rfl rfl rfl rfl ?_
  refine r_v (Value.bool (true)) rfl rfl rfl rfl ?_
  refine r_v (Value.bool (true)) rfl rfl rfl rfl ?_
  refine r_n true rfl (by decide) rfl ?_
  refine r_n true rfl (by decide) rfl ?_
  refine r_n true rfl (by decide) rfl ?_
  refine r_n true rfl (by decide) rfl ?_
  refine r_n true rfl (by decide) rfl ?_
  refine r_n true rfl (by decide) rfl ?_
  refine r_v (Value.bool (true)) rfl rfl rfl rfl ?_
  refine r_v (Value.bool (true)) rfl rfl rfl rfl ?_
  refine lx_nil ?_
  refine hK2 _ _ ?_; try clear hK2 K2
  obtain rfl := Option.some.inj hM
  refine A_ret (fun hn => ends_eq (v0 := Value.bool (true)) rfl (res1 rfl))
inductive Sum30 where
  | nil
  | t44 (x0 : Int) (x1 : Int)
  deriving Inhabited
def Sum30.on {β : Type} (x : Sum30) (a : β) (f44 : Int → Int → β) : β := match x with | .nil => a | .t44 x0 x1 => f44 x0 x1
theorem Sum30.on_nil {β : Type} {x : Sum30} {a r : β} {f44 : Int → Int → β} (h : x = .nil) (e : Sum30.on x a f44 = r) : a = r := by subst h; exact e
theorem Sum30.on_t44 {β : Type} {x : Sum30} {a r : β} {f44 : Int → Int → β} {x0 : Int} {x1 : Int} (h : x = .t44 x0 x1) (e : Sum30.on x a f44 = r) : f44 x0 x1 = r := by subst h; exact e
def Sum30.onP (x : Sum30) (a : PO) (f44 : Int → Int → PO) : PO := match x with | .nil => a | .t44 x0 x1 => f44 x0 x1
theorem Sum30.onP_nil {x : Sum30} {a : PO} {f44 : Int → Int → PO} {v : Value} {O : List (List Bl)} (h : x = .nil) (e : Sum30.onP x a f44 v O) : a v O := by subst h; exact e
theorem Sum30.onP_t44 {x : Sum30} {a : PO} {f44 : Int → Int → PO} {x0 : Int} {x1 : Int} {v : Value} {O : List (List Bl)} (h : x = .t44 x0 x1) (e : Sum30.onP x a f44 v O) : f44 x0 x1 v O := by subst h; exact e
theorem Sum30.cases (x : Sum30) : x = .nil ∨ (∃ x0 x1, x = .t44 x0 x1) := by cases x <;> simp
def wire_Reader_End_v1_m (_ : Nat) : Option (Sum30) := some ((.t44 1 0))
set_option maxRecDepth 100000 in
set_option maxHeartbeats 8000000 in
theorem wire_Reader_End_v1_g (N : Nat) (r : Sum30) (hM : wire_Reader_End_v1_m N = some r) (ro : Addr → Option Value)  : Does Tryd.prog 8 #[Value.pointer none] ro [] (pO [] (Sum30.onP r (oE (Value.nilIface) []) (fun y0_0 y0_1 => (oB 48 #[Value.int .i64 (y0_0), Value.int .i64 (y0_1)] fun bs_0 => (oE (Value.iface 44 (Value.pointer (some ⟨bs_0, 0, none⟩))) []))))) := by
  unfold wire_Reader_End_v1_m at hM
  refine doesO_of_A follows Tryd.func8 rfl 41 rfl (upd (fun _ => undef) 0 (Value.pointer none)) (by funext k; match k with | 0 => rfl | k + 1 => rfl) (fun _ _ h_ _ => h_) (fun base0_ => ?_)
  refine A_seq fun K1 hK1 => ?_
  refine A_reg ?_
  refine r_v (Value.nilIface) rfl rfl rfl rfl ?_
  refine lx_nil ?_
  refine hK1 _ _ ?_; try clear hK1 K1
  refine A_seq fun K2 hK2 => ?_
  refine A_block ?_
  refine A_seq fun K3 hK3 => ?_
  refine A_reg ?_
  refine r_v (Value.pointer none) rfl rfl rfl rfl ?_
  refine r_v (Value.bool (true)) rfl rfl rfl rfl ?_
  refine r_v (Value.bool (true)) rfl rfl rfl rfl ?_
  refine lx_nil ?_
  refine hK3 _ _ ?_; try clear hK3 K3
  refine A_cond true rfl (fun _ => ?_) (fun h_ => nomatch h_)
  refine A_seq fun K4 hK4 => ?_
  refine A_reg ?_
  refine r_v (Value.agg #[Value.int .i64 (1), Value.int .i64 (0)]) rfl rfl rfl (ev_buildS rfl rfl rfl rfl) ?_
  refine r_a (48, #[Value.int .i64 (1), Value.int .i64 (0)]) rfl rfl rfl (fun b5 => ?_) (.inr rfl)
  refine r_v (Value.iface 44 (Value.pointer (some ⟨b5, 0, none⟩))) rfl rfl rfl rfl ?_
  refine r_v (Value.iface 44 (Value.pointer (some ⟨b5, 0, none⟩))) rfl rfl rfl rfl ?_
  refine lx_nil ?_
  refine hK4 _ _ ?_; try clear hK4 K4
  obtain rfl := Option.some.inj hM
  refine A_ret (fun hn => endsO (v0 := Value.iface 44 (Value.pointer (some ⟨b5, 0, none⟩))) (O := [[(b5, 48, #[Value.int .i64 (1), Value.int .i64 (0)])]]) (res1 rfl) (Sub.pick [[(b5, 48, #[Value.int .i64 (1), Value.int .i64 (0)])]] [0] rfl) ⟨b5, _, ⟨rfl, rfl⟩, rfl⟩)
def wire_Why_v1_m (_ : Nat) : Option (Int × Int) := some (0, 0)
set_option maxRecDepth 100000 in
set_option maxHeartbeats 8000000 in
theorem wire_Why_v1_g (N : Nat) (r : Int × Int) (hM : wire_Why_v1_m N = some r) : Gives Tryd.prog 7 #[Value.nilIface] (Value.tuple #[Value.int .i64 (r.1), Value.int .i64 (r.2)]) := by
  unfold wire_Why_v1_m at hM
  refine gives_of_A follows Tryd.func7 rfl 27 rfl (upd (fun _ => undef) 0 (Value.nilIface)) (by funext k; match k with | 0 => rfl | k + 1 => rfl) (fun base0_ => ?_)
  refine A_seq fun K1 hK1 => ?_
  refine A_reg ?_
  refine r_v (Value.int .i64 (0)) rfl rfl rfl rfl ?_
  refine r_v (Value.int .i64 (0)) rfl rfl rfl rfl ?_
  refine lx_nil ?_
  refine hK1 _ _ ?_; try clear hK1 K1
  refine A_seq fun K2 hK2 => ?_
  refine A_seq fun K3 hK3 => ?_
  refine A_reg ?_
  refine r_v (Value.nilIface) rfl rfl rfl rfl ?_
  refine r_v (Value.bool (true)) rfl rfl rfl rfl ?_
  refine lx_nil ?_
  refine hK3 _ _ ?_; try clear hK3 K3
  refine A_cond true rfl (fun _ => ?_) (fun h_ => nomatch h_)
  refine A_seq fun K4 hK4 => ?_
  refine A_reg ?_
  refine r_v (Value.int .i64 (0)) rfl rfl rfl rfl ?_
  refine r_v (Value.int .i64 (0)) rfl rfl rfl rfl ?_
  refine lx_nil ?_
  refine hK4 _ _ ?_; try clear hK4 K4
  obtain rfl := Option.some.inj hM
  refine A_ret (fun hn => ends_eq (v0 := Value.tuple #[Value.int .i64 (0), Value.int .i64 (0)]) rfl (res2 rfl rfl))
def wire_take_int__v1_m (N : Nat) (_ : Int) (_ : Int) (_ : Int) : Option (Int) := (wire_Reader_Bad_v1_m N ).bind fun r5 => if (r5) = true then some (0) else none
set_option maxRecDepth 100000 in
set_option maxHeartbeats 8000000 in
theorem wire_take_int__v1_g (N : Nat) (first0_ : Int) (first1_ : Int) (first2_ : Int) (r : Int) (hM : wire_take_int__v1_m N first0_ first1_ first2_ = some r) (ro : Addr → Option Value) (bfirst0_ : Nat) (_hbfirst0_ : Blk ro bfirst0_ [Value.int .i64 (first0_)]) (bfirst1_ : Nat) (_hbfirst1_ : Blk ro bfirst1_ [Value.int .i64 (first1_)]) (bfirst2_ : Nat) (_hbfirst2_ : Blk ro bfirst2_ [Value.int .i64 (first2_)]) : Does Tryd.prog 39 #[Value.pointer none, Value.func (.func 40) #[] #[Value.pointer (some ⟨bfirst0_, 0, none⟩), Value.pointer (some ⟨bfirst1_, 0, none⟩), Value.pointer (some ⟨bfirst2_, 0, none⟩)]] ro [] (pV (Value.int .i64 (r))) := by
  unfold wire_take_int__v1_m at hM
  refine does_of_A follows Tryd.func39 rfl 47 rfl (upd (upd (fun _ => undef) 1 (Value.func (.func 40) #[] #[Value.pointer (some ⟨bfirst0_, 0, none⟩), Value.pointer (some ⟨bfirst1_, 0, none⟩), Value.pointer (some ⟨bfirst2_, 0, none⟩)])) 0 (Value.pointer none)) (by funext k; match k with | 0 => rfl | 1 => rfl | k + 2 => rfl) (fun base0_ => ?_)
  refine A_seq fun K1 hK1 => ?_
  refine A_reg ?_
  refine r_v (Value.int .i64 (0)) rfl rfl rfl rfl ?_
  refine lx_nil ?_
  refine hK1 _ _ ?_; try clear hK1 K1
  refine A_seq fun K2 hK2 => ?_
  refine A_reg ?_
  refine r_v (Value.int .i64 (0)) rfl rfl rfl rfl ?_
  refine lx_nil ?_
  refine hK2 _ _ ?_; try clear hK2 K2
  refine A_seq fun K3 hK3 => ?_
  refine A_seq fun K4 hK4 => ?_
  refine A_reg ?_
  refine r_v (Value.pointer none) rfl rfl rfl rfl ?_
  replace hM := bind_sm hM; obtain ⟨r5, hr6, hM⟩ := hM
  refine r_c (Value.bool (r5)) rfl _ _ (ev_callF rfl call_6 rfl) (wire_Reader_Bad_v1_g N  _ hr6) ?_
  refine lx_nil ?_
  refine hK4 _ _ ?_; try clear hK4 K4
  refine A_cond (r5) rfl (fun hc7 => ?_) (fun hc7 => ?_)
  · replace hM := ifp hc7 hM
    refine A_seq fun K8 hK8 => ?_
    refine A_reg ?_
    refine r_v (Value.int .i64 (0)) rfl rfl rfl rfl ?_
    refine r_v (Value.int .i64 (0)) rfl rfl rfl rfl ?_
    refine lx_nil ?_
    refine hK8 _ _ ?_; try clear hK8 K8
    obtain rfl := Option.some.inj hM
    refine A_ret (fun hn => endsV (v0 := Value.int .i64 (0)) rfl (res1 rfl))
  · replace hM := ifn (Bool.eq_false_iff.1 hc7) hM
    refine A_skip ?_
    refine hK3 _ _ ?_; try clear hK3 K3
    refine A_seq fun K9 hK9 => ?_
    refine A_draw [] (by decide +kernel) (fun hn => sep_nil) ?_
    refine r_v (Value.func (.func 40) #[] #[Value.pointer (some ⟨bfirst0_, 0, none⟩), Value.pointer (some ⟨bfirst1_, 0, none⟩), Value.pointer (some ⟨bfirst2_, 0, none⟩)]) rfl rfl rfl rfl ?_
    refine r_v (Value.pointer none) rfl rfl rfl rfl ?_
    cases hM
def wire_Reader_number_v1_m (N : Nat) (count : Int) (most : Int) (e' : Int) : Option (Int) := (wire_take_int__v1_m N count most e').bind fun r6 => some (r6)
set_option maxRecDepth 100000 in
set_option maxHeartbeats 8000000 in
theorem wire_Reader_number_v1_g (N : Nat) (count : Int) (most : Int) (e' : Int) (r : Int) (hM : wire_Reader_number_v1_m N count most e' = some r) : Gives Tryd.prog 25 #[Value.pointer none, Value.int .i64 (count), Value.int .i64 (most), Value.int .i64 (e')] (Value.int .i64 (r)) := by
  unfold wire_Reader_number_v1_m at hM
  refine gives_of_A follows Tryd.func25 rfl 12 rfl (upd (upd (upd (upd (fun _ => undef) 3 (Value.int .i64 (e'))) 2 (Value.int .i64 (most))) 1 (Value.int .i64 (count))) 0 (Value.pointer none)) (by funext k; match k with | 0 => rfl | 1 => rfl | 2 => rfl | 3 => rfl | k + 4 => rfl) (fun base0_ => ?_)
  refine A_seq fun K1 hK1 => ?_
  refine A_reg ?_
  refine r_a (3, #[Value.int .i64 (count)]) rfl rfl rfl (fun b2 => ?_) (.inr rfl)
  refine r_a (3, #[Value.int .i64 (most)]) rfl rfl rfl (fun b3 => ?_) (.inr rfl)
  refine r_a (26, #[Value.int .i64 (e')]) rfl rfl rfl (fun b4 => ?_) (.inr rfl)
  refine r_v (Value.int .i64 (0)) rfl rfl rfl rfl ?_
  refine lx_nil ?_
  refine hK1 _ _ ?_; try clear hK1 K1
  refine A_seq fun K5 hK5 => ?_
  refine A_regC [(some 11, false)] (conG Tryd.prog [(11, fun _ _ v_ L_ U_ => ∀ u0_, wire_take_int__v1_m N count most e' = some u0_ → (pV (Value.int .i64 (u0_))) v_ L_ U_)]) ?_
  refine r_v (Value.pointer none) rfl rfl rfl rfl ?_
  refine r_v (Value.func (.func 40) #[] #[Value.pointer (some ⟨b2, 0, none⟩), Value.pointer (some ⟨b3, 0, none⟩), Value.pointer (some ⟨b4, 0, none⟩)]) rfl rfl rfl (ev_mkF rfl) ?_
  replace hM := bind_sm hM; obtain ⟨r6, hr7, hM⟩ := hM
  refine r_gv (Value.int .i64 (r6)) 39 _ rfl rfl rfl (ev_callF rfl call_39 rfl) (fun own_ nw_ hs_ => wire_take_int__v1_g N count most e' _ hr7 hs_.view b2 (blk_own 2 rfl rfl own_ nw_ hs_) b3 (blk_own 1 rfl rfl own_ nw_ hs_) b4 (blk_own 0 rfl rfl own_ nw_ hs_)) (fun _ _ v_ L_ U_ => ⟨fun h_ => h_ _ hr7, fun h_ => by intro _ e_; cases Option.some.inj (e_.symm.trans hr7); exact h_⟩) ?_
  refine r_v (Value.int .i64 (r6)) rfl rfl rfl rfl ?_
  refine lx_nil ?_
  refine hK5 _ _ ?_; try clear hK5 K5
  obtain rfl := Option.some.inj hM
  refine A_ret (fun hn => ends_eq (v0 := Value.int .i64 (r6)) rfl (res1 rfl))
def wire_Reader_Byte_v1_m (N : Nat) (most : Int) : Option (Int) := (wire_Reader_number_v1_m N 1 most 7).bind fun r3 => some (r3)
set_option maxRecDepth 100000 in
set_option maxHeartbeats 8000000 in
theorem wire_Reader_Byte_v1_g (N : Nat) (most : Int) (r : Int) (hM : wire_Reader_Byte_v1_m N most = some r) : Gives Tryd.prog 9 #[Value.pointer none, Value.int .i64 (most)] (Value.int .i64 (r)) := by
  unfold wire_Reader_Byte_v1_m at hM
  refine gives_of_A follows Tryd.func9 rfl 8 rfl (upd (upd (fun _ => undef) 1 (Value.int .i64 (most))) 0 (Value.pointer none)) (by funext k; match k with | 0 => rfl | 1 => rfl | k + 2 => rfl) (fun base0_ => ?_)
  refine A_seq fun K1 hK1 => ?_
  refine A_reg ?_
  refine r_v (Value.int .i64 (0)) rfl rfl rfl rfl ?_
  refine lx_nil ?_
  refine hK1 _ _ ?_; try clear hK1 K1
  refine A_seq fun K2 hK2 => ?_
  refine A_reg ?_
  refine r_v (Value.pointer none) rfl rfl rfl rfl ?_
  refine r_v (Value.int .i64 (most)) rfl rfl rfl rfl ?_
  replace hM := bind_sm hM; obtain ⟨r3, hr4, hM⟩ := hM
  refine r_c (Value.int .i64 (r3)) rfl _ _ (ev_callF rfl call_25 rfl) (wire_Reader_number_v1_g N 1 most 7 _ hr4) ?_
  refine r_v (Value.int .i64 (r3)) rfl rfl rfl rfl ?_
  refine lx_nil ?_
  refine hK2 _ _ ?_; try clear hK2 K2
  obtain rfl := Option.some.inj hM
  refine A_ret (fun hn => ends_eq (v0 := Value.int .i64 (r3)) rfl (res1 rfl))
def wire_Reader_Two_v1_m (N : Nat) (most : Int) : Option (Int) := (wire_Reader_number_v1_m N 2 most 7).bind fun r3 => some (r3)
set_option maxRecDepth 100000 in
set_option maxHeartbeats 8000000 in
theorem wire_Reader_Two_v1_g (N : Nat) (most : Int) (r : Int) (hM : wire_Reader_Two_v1_m N most = some r) : Gives Tryd.prog 10 #[Value.pointer none, Value.int .i64 (most)] (Value.int .i64 (r)) := by
  unfold wire_Reader_Two_v1_m at hM
  refine gives_of_A follows Tryd.func10 rfl 8 rfl (upd (upd (fun _ => undef) 1 (Value.int .i64 (most))) 0 (Value.pointer none)) (by funext k; match k with | 0 => rfl | 1 => rfl | k + 2 => rfl) (fun base0_ => ?_)
  refine A_seq fun K1 hK1 => ?_
  refine A_reg ?_
  refine r_v (Value.int .i64 (0)) rfl rfl rfl rfl ?_
  refine lx_nil ?_
  refine hK1 _ _ ?_; try clear hK1 K1
  refine A_seq fun K2 hK2 => ?_
  refine A_reg ?_
  refine r_v (Value.pointer none) rfl rfl rfl rfl ?_
  refine r_v (Value.int .i64 (most)) rfl rfl rfl rfl ?_
  replace hM := bind_sm hM; obtain ⟨r3, hr4, hM⟩ := hM
  refine r_c (Value.int .i64 (r3)) rfl _ _ (ev_callF rfl call_25 rfl) (wire_Reader_number_v1_g N 2 most 7 _ hr4) ?_
  refine r_v (Value.int .i64 (r3)) rfl rfl rfl rfl ?_
  refine lx_nil ?_
  refine hK2 _ _ ?_; try clear hK2 K2
  obtain rfl := Option.some.inj hM
  refine A_ret (fun hn => ends_eq (v0 := Value.int .i64 (r3)) rfl (res1 rfl))
def wire_Reader_Four_v1_m (N : Nat) (most : Int) : Option (Int) := (wire_Reader_number_v1_m N 4 most 7).bind fun r3 => some (r3)
set_option maxRecDepth 100000 in
set_option maxHeartbeats 8000000 in
theorem wire_Reader_Four_v1_g (N : Nat) (most : Int) (r : Int) (hM : wire_Reader_Four_v1_m N most = some r) : Gives Tryd.prog 11 #[Value.pointer none, Value.int .i64 (most)] (Value.int .i64 (r)) := by
  unfold wire_Reader_Four_v1_m at hM
  refine gives_of_A follows Tryd.func11 rfl 8 rfl (upd (upd (fun _ => undef) 1 (Value.int .i64 (most))) 0 (Value.pointer none)) (by funext k; match k with | 0 => rfl | 1 => rfl | k + 2 => rfl) (fun base0_ => ?_)
  refine A_seq fun K1 hK1 => ?_
  refine A_reg ?_
  refine r_v (Value.int .i64 (0)) rfl rfl rfl rfl ?_
  refine lx_nil ?_
  refine hK1 _ _ ?_; try clear hK1 K1
  refine A_seq fun K2 hK2 => ?_
  refine A_reg ?_
  refine r_v (Value.pointer none) rfl rfl rfl rfl ?_
  refine r_v (Value.int .i64 (most)) rfl rfl rfl rfl ?_
  replace hM := bind_sm hM; obtain ⟨r3, hr4, hM⟩ := hM
  refine r_c (Value.int .i64 (r3)) rfl _ _ (ev_callF rfl call_25 rfl) (wire_Reader_number_v1_g N 4 most 7 _ hr4) ?_
  refine r_v (Value.int .i64 (r3)) rfl rfl rfl rfl ?_
  refine lx_nil ?_
  refine hK2 _ _ ?_; try clear hK2 K2
  obtain rfl := Option.some.inj hM
  refine A_ret (fun hn => ends_eq (v0 := Value.int .i64 (r3)) rfl (res1 rfl))
def wire_take_api_Vec__v1_m (N : Nat) : Option (Int × (BitVec 128)) := (wire_Reader_Bad_v1_m N ).bind fun r7 => if (r7) = true then some (0, (0#64) ++ (0#64)) else none
set_option maxRecDepth 100000 in
set_option maxHeartbeats 8000000 in
theorem wire_take_api_Vec__v1_g (N : Nat) (r : Int × (BitVec 128)) (hM : wire_take_api_Vec__v1_m N = some r) : Gives Tryd.prog 26 #[Value.pointer none, Value.func (.func 27) #[] #[]] (Value.agg #[Value.int .i64 (r.1), U (hi (r.2)), U (lo (r.2))]) := by
  unfold wire_take_api_Vec__v1_m at hM
  refine gives_of_A follows Tryd.func26 rfl 47 rfl (upd (upd (fun _ => undef) 1 (Value.func (.func 27) #[] #[])) 0 (Value.pointer none)) (by funext k; match k with | 0 => rfl | 1 => rfl | k + 2 => rfl) (fun base0_ => ?_)
  refine A_seq fun K1 hK1 => ?_
  refine A_reg ?_
  refine r_a (35, #[Value.int .i64 (0), U (0#64), U (0#64)]) rfl rfl rfl (fun b2 => ?_) (.inr rfl)
  refine lx_nil ?_
  refine hK1 _ _ ?_; try clear hK1 K1
  refine A_seq fun K3 hK3 => ?_
  refine A_reg ?_
  refine r_a (35, #[Value.int .i64 (0), U (0#64), U (0#64)]) rfl rfl rfl (fun b4 => ?_) (.inr rfl)
  refine lx_nil ?_
  refine hK3 _ _ ?_; try clear hK3 K3
  refine A_seq fun K5 hK5 => ?_
  refine A_seq fun K6 hK6 => ?_
  refine A_reg ?_
  refine r_v (Value.pointer none) rfl rfl rfl rfl ?_
  replace hM := bind_sm hM; obtain ⟨r7, hr8, hM⟩ := hM
  refine r_c (Value.bool (r7)) rfl _ _ (ev_callF rfl call_6 rfl) (wire_Reader_Bad_v1_g N  _ hr8) ?_
  refine lx_nil ?_
  refine hK6 _ _ ?_; try clear hK6 K6
  refine A_cond (r7) rfl (fun hc9 => ?_) (fun hc9 => ?_)
  · replace hM := ifp hc9 hM
    refine A_seq fun K10 hK10 => ?_
    refine A_reg ?_
    refine r_l (Value.agg #[Value.int .i64 (0), U (0#64), U (0#64)]) 0 _ _ _ _ rfl rfl rfl rfl rfl ?_
    refine r_s [(b4, 35, #[Value.int .i64 (0), U (0#64), U (0#64)]), (b2, 35, #[Value.int .i64 (0), U (0#64), U (0#64)])] 1 _ _ _ (#[Value.int .i64 (0), U (0#64), U (0#64)]) (#[Value.int .i64 (0), U (0#64), U (0#64)]) (#[Value.int .i64 (0), U (0#64), U (0#64)]) rfl rfl rfl rfl (.of rfl rfl) rfl rfl ?_
    refine lx_nil ?_
    refine hK10 _ _ ?_; try clear hK10 K10
    obtain rfl := Option.some.inj hM
    refine A_ret (fun hn => ends_eq (v0 := Value.agg #[Value.int .i64 (0), U (0#64), U (0#64)]) (by first | rfl | (simp only [app_hl]; done) | simp only [app_hl]) (res1 (res_cell hn 1 rfl rfl rfl)))
  · replace hM := ifn (Bool.eq_false_iff.1 hc9) hM
    refine A_skip ?_
    refine hK5 _ _ ?_; try clear hK5 K5
    refine A_seq fun K11 hK11 => ?_
    refine A_draw [] (by decide +kernel) (fun hn => sep_nil) ?_
    refine r_v (Value.func (.func 27) #[] #[]) rfl rfl rfl rfl ?_
    refine r_v (Value.pointer none) rfl rfl rfl rfl ?_
    cases hM
def wire_Reader_Vec_v1_m (N : Nat) : Option (Int × (BitVec 128)) := (wire_take_api_Vec__v1_m N ).bind fun r4 => some (r4.1, r4.2)
set_option maxRecDepth 100000 in
set_option maxHeartbeats 8000000 in
theorem wire_Reader_Vec_v1_g (N : Nat) (r : Int × (BitVec 128)) (hM : wire_Reader_Vec_v1_m N = some r) : Gives Tryd.prog 12 #[Value.pointer none] (Value.agg #[Value.int .i64 (r.1), U (hi (r.2)), U (lo (r.2))]) := by
  unfold wire_Reader_Vec_v1_m at hM
  refine gives_of_A follows Tryd.func12 rfl 5 rfl (upd (fun _ => undef) 0 (Value.pointer none)) (by funext k; match k with | 0 => rfl | k + 1 => rfl) (fun base0_ => ?_)
  refine A_seq fun K1 hK1 => ?_
  refine A_reg ?_
  refine r_a (35, #[Value.int .i64 (0), U (0#64), U (0#64)]) rfl rfl rfl (fun b2 => ?_) (.inr rfl)
  refine lx_nil ?_
  refine hK1 _ _ ?_; try clear hK1 K1
  refine A_seq fun K3 hK3 => ?_
  refine A_reg ?_
  refine r_v (Value.pointer none) rfl rfl rfl rfl ?_
  replace hM := bind_sm hM; obtain ⟨r4, hr5, hM⟩ := hM
  refine r_c (Value.agg #[Value.int .i64 (r4.1), U (hi (r4.2)), U (lo (r4.2))]) rfl _ _ (ev_callF rfl call_26 rfl) (wire_take_api_Vec__v1_g N  _ hr5) ?_
  refine r_s [(b2, 35, #[Value.int .i64 (r4.1), U (hi (r4.2)), U (lo (r4.2))])] 0 _ _ _ (#[Value.int .i64 (0), U (0#64), U (0#64)]) (#[Value.int .i64 (r4.1), U (hi (r4.2)), U (lo (r4.2))]) (#[Value.int .i64 (r4.1), U (hi (r4.2)), U (lo (r4.2))]) rfl rfl rfl rfl (.of rfl rfl) rfl rfl ?_
  refine lx_nil ?_
  refine hK3 _ _ ?_; try clear hK3 K3
  obtain rfl := Option.some.inj hM
  refine A_ret (fun hn => ends_eq (v0 := Value.agg #[Value.int .i64 (r4.1), U (hi (r4.2)), U (lo (r4.2))]) rfl (res1 (res_cell hn 0 rfl rfl rfl)))
def wire_take_string__v1_m (N : Nat) : Option (List UInt8) := (wire_Reader_Bad_v1_m N ).bind fun r5 => if (r5) = true then some ([]) else none
set_option maxRecDepth 100000 in
set_option maxHeartbeats 8000000 in
theorem wire_take_string__v1_g (N : Nat) (r : List UInt8) (hM : wire_take_string__v1_m N = some r) : Gives Tryd.prog 28 #[Value.pointer none, Value.func (.func 29) #[] #[]] (Value.string (⟨(r).toArray⟩)) := by
  unfold wire_take_string__v1_m at hM
  refine gives_of_A follows Tryd.func28 rfl 47 rfl (upd (upd (fun _ => undef) 1 (Value.func (.func 29) #[] #[])) 0 (Value.pointer none)) (by funext k; match k with | 0 => rfl | 1 => rfl | k + 2 => rfl) (fun base0_ => ?_)
  refine A_seq fun K1 hK1 => ?_
  refine A_reg ?_
  refine r_v (Value.string (⟨#[]⟩)) rfl rfl rfl rfl ?_
  refine lx_nil ?_
  refine hK1 _ _ ?_; try clear hK1 K1
  refine A_seq fun K2 hK2 => ?_
  refine A_reg ?_
  refine r_v (Value.string (⟨#[]⟩)) rfl rfl rfl rfl ?_
  refine lx_nil ?_
  refine hK2 _ _ ?_; try clear hK2 K2
  refine A_seq fun K3 hK3 => ?_
  refine A_seq fun K4 hK4 => ?_
  refine A_reg ?_
  refine r_v (Value.pointer none) rfl rfl rfl rfl ?_
  replace hM := bind_sm hM; obtain ⟨r5, hr6, hM⟩ := hM
  refine r_c (Value.bool (r5)) rfl _ _ (ev_callF rfl call_6 rfl) (wire_Reader_Bad_v1_g N  _ hr6) ?_
  refine lx_nil ?_
  refine hK4 _ _ ?_; try clear hK4 K4
  refine A_cond (r5) rfl (fun hc7 => ?_) (fun hc7 => ?_)
  · replace hM := ifp hc7 hM
    refine A_seq fun K8 hK8 => ?_
    refine A_reg ?_
    refine r_v (Value.string (⟨#[]⟩)) rfl rfl rfl rfl ?_
    refine r_v (Value.string (⟨#[]⟩)) rfl rfl rfl rfl ?_
    refine lx_nil ?_
    refine hK8 _ _ ?_; try clear hK8 K8
    obtain rfl := Option.some.inj hM
    refine A_ret (fun hn => ends_eq (v0 := Value.string (⟨#[]⟩)) rfl (res1 rfl))
  · replace hM := ifn (Bool.eq_false_iff.1 hc7) hM
    refine A_skip ?_
    refine hK3 _ _ ?_; try clear hK3 K3
    refine A_seq fun K9 hK9 => ?_
    refine A_draw [] (by decide +kernel) (fun hn => sep_nil) ?_
    refine r_v (Value.func (.func 29) #[] #[]) rfl rfl rfl rfl ?_
    refine r_v (Value.pointer none) rfl rfl rfl rfl ?_
    cases hM
def wire_Reader_Name_v1_m (N : Nat) : Option (List UInt8) := (wire_take_string__v1_m N ).bind fun r3 => some (r3)
set_option maxRecDepth 100000 in
set_option maxHeartbeats 8000000 in
theorem wire_Reader_Name_v1_g (N : Nat) (r : List UInt8) (hM : wire_Reader_Name_v1_m N = some r) : Gives Tryd.prog 13 #[Value.pointer none] (Value.string (⟨(r).toArray⟩)) := by
  unfold wire_Reader_Name_v1_m at hM
  refine gives_of_A follows Tryd.func13 rfl 5 rfl (upd (fun _ => undef) 0 (Value.pointer none)) (by funext k; match k with | 0 => rfl | k + 1 => rfl) (fun base0_ => ?_)
  refine A_seq fun K1 hK1 => ?_
  refine A_reg ?_
  refine r_v (Value.string (⟨#[]⟩)) rfl rfl rfl rfl ?_
  refine lx_nil ?_
  refine hK1 _ _ ?_; try clear hK1 K1
  refine A_seq fun K2 hK2 => ?_
  refine A_reg ?_
  refine r_v (Value.pointer none) rfl rfl rfl rfl ?_
  replace hM := bind_sm hM; obtain ⟨r3, hr4, hM⟩ := hM
  refine r_c (Value.string (⟨(r3).toArray⟩)) rfl _ _ (ev_callF rfl call_28 rfl) (wire_take_string__v1_g N  _ hr4) ?_
  refine r_v (Value.string (⟨(r3).toArray⟩)) rfl rfl rfl rfl ?_
  refine lx_nil ?_
  refine hK2 _ _ ?_; try clear hK2 K2
  obtain rfl := Option.some.inj hM
  refine A_ret (fun hn => ends_eq (v0 := Value.string (⟨(r3).toArray⟩)) rfl (res1 rfl))
def wire_listOf_api_Vec__v1_l3 (N : Nat) (r5 : Int) : Nat → List (Int × BitVec 128) → Int → Option (List (Int × BitVec 128))
  | 0, _, _ => none
  | n7 + 1, l1_, x2_ => if (x2_ : Int) < r5 then (wire_Reader_Vec_v1_m N ).bind fun r12 => ck ((l1_).length + ([(r12.1, r12.2)]).length ≤ 5864062014805) (ck ((-9223372036854775808 ≤ (x2_ + 1) ∧ (x2_ + 1) ≤ 9223372036854775807)) ((wire_listOf_api_Vec__v1_l3 N r5 n7) ((l1_ ++ ([(r12.1, r12.2)]))) ((x2_ + 1)))) else (wire_Reader_Bad_v1_m N ).bind fun r24 => if (r24) = true then some ([]) else some (l1_)
def wire_listOf_api_Vec__v1_m (N : Nat) (most : Int) : Option (List (Int × BitVec 128)) := (wire_Reader_number_v1_m N 1 most 2).bind fun r5 => wire_listOf_api_Vec__v1_l3 N r5 N ([]) (0)
set_option maxRecDepth 100000 in
set_option maxHeartbeats 8000000 in
theorem wire_listOf_api_Vec__v1_g (N : Nat) (most : Int) (r : List (Int × BitVec 128)) (hM : wire_listOf_api_Vec__v1_m N most = some r) (ro : Addr → Option Value)  : Does Tryd.prog 30 #[Value.pointer none, Value.int .i64 (most), Value.func (.func 12) #[Value.pointer none] #[]] ro [] (p1 (fun s_ => s_) 35 enc_35 r) := by
  unfold wire_listOf_api_Vec__v1_m at hM
  refine does_of_A follows Tryd.func30 rfl 22 rfl (upd (upd (upd (fun _ => undef) 2 (Value.func (.func 12) #[Value.pointer none] #[])) 1 (Value.int .i64 (most))) 0 (Value.pointer none)) (by funext k; match k with | 0 => rfl | 1 => rfl | 2 => rfl | k + 3 => rfl) (fun base0_ => ?_)
  refine A_seq fun K1 hK1 => ?_
  refine A_reg ?_
  refine r_v (Value.slice none 0 0) rfl rfl rfl rfl ?_
  refine lx_nil ?_
  refine hK1 _ _ ?_; try clear hK1 K1
  refine A_seq fun K2 hK2 => ?_
  refine A_reg ?_
  refine r_v (Value.slice none 0 0) rfl rfl rfl rfl ?_
  refine lx_nil ?_
  refine hK2 _ _ ?_; try clear hK2 K2
  refine A_seq fun K3 hK3 => ?_
  refine A_seq fun K4 hK4 => ?_
  refine A_reg ?_
  refine r_v (Value.pointer none) rfl rfl rfl rfl ?_
  refine r_v (Value.int .i64 (most)) rfl rfl rfl rfl ?_
  replace hM := bind_sm hM; obtain ⟨r5, hr6, hM⟩ := hM
  refine r_c (Value.int .i64 (r5)) rfl _ _ (ev_callF rfl call_25 rfl) (wire_Reader_number_v1_g N 1 most 2 _ hr6) ?_
  refine r_v (Value.int .i64 (0)) rfl rfl rfl rfl ?_
  refine lx_nil ?_
  refine hK4 _ _ ?_; try clear hK4 K4
  refine A_block ?_
  refine A_forget _ (Sub.pickE (Ls := [[]]) (Ls0 := []) rfl [0] rfl) ?_
  refine A_loop (fun tt ll nn => ∃ (n7 : Nat) (l1_ : List (Int × BitVec 128)) (x2_ : Int), (wire_listOf_api_Vec__v1_l3 N r5 n7 l1_ x2_ = some r) ∧ ∃ (vl1_ : Value) (Sl1_ : List Bl), Sl 35 enc_35 vl1_ l1_ Sl1_ ∧ Is [(0, Value.pointer none), (2, Value.func (.func 12) #[Value.pointer none] #[]), (7, vl1_), (10, Value.int .i64 (r5)), (11, Value.int .i64 (x2_))] (List.flatten [Sl1_]) tt ll ∧ nn = n7 + 1) (N + 1) ?_ ?_
  · exact ⟨N, [], 0, hM, Value.slice none 0 0, [], Sl.nil, is_mk rfl rfl, rfl⟩
  · clear hM; rintro t l _ ⟨n7, l1_, x2_, hM, vl1_, Sl1_, hl1_, ⟨⟨T, rfl⟩, rfl⟩, rfl⟩
    rcases n7 with _ | n7
    · exact absurd hM (by simp [wire_listOf_api_Vec__v1_l3])
    rw [wire_listOf_api_Vec__v1_l3] at hM
    refine A_seq fun K8 hK8 => ?_
    refine A_reg ?_
    refine r_v (Value.bool (decide ((x2_ : Int) < r5))) rfl rfl rfl rfl ?_
    refine lx_nil ?_
    refine hK8 _ _ ?_; try clear hK8 K8
    refine A_seq fun K9 hK9 => ?_
    refine A_cond (decide ((x2_ : Int) < r5)) rfl (fun hc10 => ?_) (fun hc10 => ?_)
    · replace hM := ifp (of_decide_eq_true hc10) hM
      refine A_skip ?_
      refine hK9 _ _ ?_; try clear hK9 K9
      refine A_seq fun K11 hK11 => ?_
      refine A_block ?_
      refine A_regC [(some 16, false), (some 17, true)] (conG Tryd.prog []) ?_
      refine r_v (vl1_) rfl rfl rfl rfl ?_
      refine r_v (Value.func (.func 12) #[Value.pointer none] #[]) rfl rfl rfl rfl ?_
      replace hM := bind_sm hM; obtain ⟨r12, hr13, hM⟩ := hM
      refine r_c (Value.agg #[Value.int .i64 (r12.1), U (hi (r12.2)), U (lo (r12.2))]) rfl _ _ (ev_callW (bd := [Value.pointer none]) (caps := []) rfl call_12 rfl) (wire_Reader_Vec_v1_g N  _ hr13) ?_
      refine r_bs (cs0 := []) (Ls := [Sl1_]) 35 enc_35 [(r12.1, r12.2)] [Value.int .i64 (r12.1), U (hi (r12.2)), U (lo (r12.2))] [Value.int .i64 (0), U (0#64), U (0#64)] rfl rfl rfl rfl rfl rfl rfl (by kernel_rfl) (by kernel_rfl) rfl rfl rfl (fun s14 S15 H16 => ?_)
      replace hM := ck_some hM; obtain ⟨ck17, hM⟩ := hM
      refine r_app (cs0 := []) (Ls := [Sl1_, S15]) 0 (En := enc_35) rfl rfl rfl rfl rfl hl1_ rfl (rd_own H16 (mem_chunk (Ls := [Sl1_, S15]) (k := 1) rfl rfl)) rfl rfl rfl rfl rfl (app_b ck17 rfl) (app_m ck17 rfl) rfl (fun s18 S19 H20 => ?_)
      refine r_v (s18) rfl rfl rfl rfl ?_
      refine lx_nil ?_
      refine hK11 _ _ ?_; try clear hK11 K11
      refine A_reg ?_
      replace hM := ck_some hM; obtain ⟨ck21, hM⟩ := hM
      refine r_v (Value.int .i64 ((x2_ + 1))) rfl rfl (wi64 rfl ck21.1 ck21.2) rfl ?_
      refine r_v (Value.int .i64 ((x2_ + 1))) rfl rfl rfl rfl ?_
      refine lx_nil ?_
      refine fg _ (Sub.pick [S19, S15] [0] rfl) ?_
      exact ⟨n7 + 1, by omega, n7, (l1_ ++ ([(r12.1, r12.2)])), (x2_ + 1), hM, s18, S19, H20, is_mk rfl rfl, rfl⟩
    · replace hM := ifn (of_decide_eq_false hc10) hM
      refine A_exit ?_
      refine hK3 _ _ ?_; try clear hK3 K3
      refine A_seq fun K22 hK22 => ?_
      refine A_seq fun K23 hK23 => ?_
      refine A_reg ?_
      refine r_v (Value.pointer none) rfl rfl rfl rfl ?_
      replace hM := bind_sm hM; obtain ⟨r24, hr25, hM⟩ := hM
      refine r_c (Value.bool (r24)) rfl _ _ (ev_callF rfl call_6 rfl) (wire_Reader_Bad_v1_g N  _ hr25) ?_
      refine lx_nil ?_
      refine hK23 _ _ ?_; try clear hK23 K23
      refine A_cond (r24) rfl (fun hc26 => ?_) (fun hc26 => ?_)
      · replace hM := ifp hc26 hM
        refine A_seq fun K27 hK27 => ?_
        refine A_reg ?_
        refine r_v (Value.slice none 0 0) rfl rfl rfl rfl ?_
        refine lx_nil ?_
        refine hK27 _ _ ?_; try clear hK27 K27
        obtain rfl := Option.some.inj hM
        refine A_ret (fun hn => ends1 (v0 := Value.slice none 0 0) Sl.nil (Sub.nil _) rfl (res1 rfl))
      · replace hM := ifn (Bool.eq_false_iff.1 hc26) hM
        refine A_skip ?_
        refine hK22 _ _ ?_; try clear hK22 K22
        refine A_seq fun K28 hK28 => ?_
        refine A_reg ?_
        refine r_v (vl1_) rfl rfl rfl rfl ?_
        refine r_v (vl1_) rfl rfl rfl rfl ?_
        refine lx_nil ?_
        refine hK28 _ _ ?_; try clear hK28 K28
        obtain rfl := Option.some.inj hM
        refine A_ret (fun hn => ends1 (v0 := vl1_) hl1_ (sub_one (Sub.pick [Sl1_] [0] rfl)) rfl (res1 rfl))
def wire_Reader_Vecs_v1_m (N : Nat) (most : Int) : Option (List (Int × BitVec 128)) := (wire_listOf_api_Vec__v1_m N most).bind fun r3 => some (r3)
set_option maxRecDepth 100000 in
set_option maxHeartbeats 8000000 in
theorem wire_Reader_Vecs_v1_g (N : Nat) (most : Int) (r : List (Int × BitVec 128)) (hM : wire_Reader_Vecs_v1_m N most = some r) (ro : Addr → Option Value)  : Does Tryd.prog 14 #[Value.pointer none, Value.int .i64 (most)] ro [] (p1 (fun s_ => s_) 35 enc_35 r) := by
  unfold wire_Reader_Vecs_v1_m at hM
  refine does_of_A follows Tryd.func14 rfl 10 rfl (upd (upd (fun _ => undef) 1 (Value.int .i64 (most))) 0 (Value.pointer none)) (by funext k; match k with | 0 => rfl | 1 => rfl | k + 2 => rfl) (fun base0_ => ?_)
  refine A_seq fun K1 hK1 => ?_
  refine A_reg ?_
  refine r_v (Value.slice none 0 0) rfl rfl rfl rfl ?_
  refine lx_nil ?_
  refine hK1 _ _ ?_; try clear hK1 K1
  refine A_seq fun K2 hK2 => ?_
  refine A_regC [(some 9, false)] (conG Tryd.prog [(9, fun _ _ v_ L_ U_ => ∀ u0_, wire_listOf_api_Vec__v1_m N most = some u0_ → (p1 (fun s_ => s_) 35 enc_35 (u0_)) v_ L_ U_)]) ?_
  refine r_v (Value.pointer none) rfl rfl rfl rfl ?_
  refine r_v (Value.int .i64 (most)) rfl rfl rfl rfl ?_
  refine r_v (Value.pointer none) rfl rfl rfl rfl ?_
  refine r_v (Value.func (.func 12) #[Value.pointer none] #[]) rfl rfl rfl (ev_mkB rfl rfl) ?_
  replace hM := bind_sm hM; obtain ⟨r3, hr4, hM⟩ := hM
  refine r_g1 (Ls := []) (fun s5 => s5) 35 enc_35 (r3) 30 _ rfl rfl rfl (ev_callF rfl call_30 rfl) (fun own_ nw_ hs_ => wire_listOf_api_Vec__v1_g N most _ hr4 hs_.view ) (fun _ _ v_ L_ U_ => ⟨fun h_ => h_ _ hr4, fun h_ => by intro _ e_; cases Option.some.inj (e_.symm.trans hr4); exact h_⟩) (fun s5 S6 H7 => ?_)
  refine r_v (s5) rfl rfl rfl rfl ?_
  refine lx_nil ?_
  refine hK2 _ _ ?_; try clear hK2 K2
  obtain rfl := Option.some.inj hM
  refine A_ret (fun hn => ends1 (v0 := s5) H7 (sub_one (Sub.pick [S6] [0] rfl)) rfl (res1 rfl))
def wire_Reader_Numbers_1_v1_m (N : Nat) (c1_ : Int) : Option (Int) := (wire_Reader_Byte_v1_m N c1_).bind fun r3 => some (r3)
set_option maxRecDepth 100000 in
set_option maxHeartbeats 8000000 in
theorem wire_Reader_Numbers_1_v1_g (N : Nat) (c1_ : Int) (r : Int) (hM : wire_Reader_Numbers_1_v1_m N c1_ = some r) (ro : Addr → Option Value) (bc0_ : Nat) (hbc0_ : Blk ro bc0_ [Value.pointer none]) (bc1_ : Nat) (hbc1_ : Blk ro bc1_ [Value.int .i64 (c1_)]) : Does Tryd.prog 32 #[Value.pointer (some ⟨bc0_, 0, none⟩), Value.pointer (some ⟨bc1_, 0, none⟩)] ro [] (pV (Value.int .i64 (r))) := by
  unfold wire_Reader_Numbers_1_v1_m at hM
  refine does_of_A follows Tryd.func32 rfl 6 rfl (upd (upd (fun _ => undef) 1 (Value.pointer (some ⟨bc1_, 0, none⟩))) 0 (Value.pointer (some ⟨bc0_, 0, none⟩))) (by funext k; match k with | 0 => rfl | 1 => rfl | k + 2 => rfl) (fun base0_ => ?_)
  refine A_seq fun K1 hK1 => ?_
  refine A_reg ?_
  refine r_v (Value.int .i64 (0)) rfl rfl rfl rfl ?_
  refine lx_nil ?_
  refine hK1 _ _ ?_; try clear hK1 K1
  refine A_seq fun K2 hK2 => ?_
  refine A_reg ?_
  refine r_lb (Value.pointer none) (vs := [Value.pointer none]) (o := 0) rfl rfl (blk_ro hbc0_) rfl ?_
  refine r_lb (Value.int .i64 (c1_)) (vs := [Value.int .i64 (c1_)]) (o := 0) rfl rfl (blk_ro hbc1_) rfl ?_
  replace hM := bind_sm hM; obtain ⟨r3, hr4, hM⟩ := hM
  refine r_c (Value.int .i64 (r3)) rfl _ _ (ev_callF rfl call_9 rfl) (wire_Reader_Byte_v1_g N c1_ _ hr4) ?_
  refine r_v (Value.int .i64 (r3)) rfl rfl rfl rfl ?_
  refine lx_nil ?_
  refine hK2 _ _ ?_; try clear hK2 K2
  obtain rfl := Option.some.inj hM
  refine A_ret (fun hn => endsV (v0 := Value.int .i64 (r3)) rfl (res1 rfl))
def wire_listOf_int__v1_l3 (N : Nat) (one1_ : Int) (r5 : Int) : Nat → List Int → Int → Option (List Int)
  | 0, _, _ => none
  | n7 + 1, l1_, x2_ => if (x2_ : Int) < r5 then (wire_Reader_Numbers_1_v1_m N one1_).bind fun r12 => ck ((l1_).length + ([r12]).length ≤ 17592186044416) (ck ((-9223372036854775808 ≤ (x2_ + 1) ∧ (x2_ + 1) ≤ 9223372036854775807)) ((wire_listOf_int__v1_l3 N one1_ r5 n7) ((l1_ ++ ([r12]))) ((x2_ + 1)))) else (wire_Reader_Bad_v1_m N ).bind fun r24 => if (r24) = true then some ([]) else some (l1_)
def wire_listOf_int__v1_m (N : Nat) (most : Int) (one1_ : Int) : Option (List Int) := (wire_Reader_number_v1_m N 1 most 2).bind fun r5 => wire_listOf_int__v1_l3 N one1_ r5 N ([]) (0)
set_option maxRecDepth 100000 in
set_option maxHeartbeats 8000000 in
theorem wire_listOf_int__v1_g (N : Nat) (most : Int) (one1_ : Int) (r : List Int) (hM : wire_listOf_int__v1_m N most one1_ = some r) (ro : Addr → Option Value) (bone0_ : Nat) (hbone0_ : Blk ro bone0_ [Value.pointer none]) (bone1_ : Nat) (hbone1_ : Blk ro bone1_ [Value.int .i64 (one1_)]) : Does Tryd.prog 31 #[Value.pointer none, Value.int .i64 (most), Value.func (.func 32) #[] #[Value.pointer (some ⟨bone0_, 0, none⟩), Value.pointer (some ⟨bone1_, 0, none⟩)]] ro [] (p1 (fun s_ => s_) 3 encI r) := by
  unfold wire_listOf_int__v1_m at hM
  refine does_of_A follows Tryd.func31 rfl 22 rfl (upd (upd (upd (fun _ => undef) 2 (Value.func (.func 32) #[] #[Value.pointer (some ⟨bone0_, 0, none⟩), Value.pointer (some ⟨bone1_, 0, none⟩)])) 1 (Value.int .i64 (most))) 0 (Value.pointer none)) (by funext k; match k with | 0 => rfl | 1 => rfl | 2 => rfl | k + 3 => rfl) (fun base0_ => ?_)
  refine A_seq fun K1 hK1 => ?_
  refine A_reg ?_
  refine r_v (Value.slice none 0 0) rfl rfl rfl rfl ?_
  refine lx_nil ?_
  refine hK1 _ _ ?_; try clear hK1 K1
  refine A_seq fun K2 hK2 => ?_
  refine A_reg ?_
  refine r_v (Value.slice none 0 0) rfl rfl rfl rfl ?_
  refine lx_nil ?_
  refine hK2 _ _ ?_; try clear hK2 K2
  refine A_seq fun K3 hK3 => ?_
  refine A_seq fun K4 hK4 => ?_
  refine A_reg ?_
  refine r_v (Value.pointer none) rfl rfl rfl rfl ?_
  refine r_v (Value.int .i64 (most)) rfl rfl rfl rfl ?_
  replace hM := bind_sm hM; obtain ⟨r5, hr6, hM⟩ := hM
  refine r_c (Value.int .i64 (r5)) rfl _ _ (ev_callF rfl call_25 rfl) (wire_Reader_number_v1_g N 1 most 2 _ hr6) ?_
  refine r_v (Value.int .i64 (0)) rfl rfl rfl rfl ?_
  refine lx_nil ?_
  refine hK4 _ _ ?_; try clear hK4 K4
  refine A_block ?_
  refine A_forget _ (Sub.pickE (Ls := [[]]) (Ls0 := []) rfl [0] rfl) ?_
  refine A_loop (fun tt ll nn => ∃ (n7 : Nat) (l1_ : List Int) (x2_ : Int), (wire_listOf_int__v1_l3 N one1_ r5 n7 l1_ x2_ = some r) ∧ ∃ (vl1_ : Value) (Sl1_ : List Bl), Sl 3 encI vl1_ l1_ Sl1_ ∧ Is [(0, Value.pointer none), (2, Value.func (.func 32) #[] #[Value.pointer (some ⟨bone0_, 0, none⟩), Value.pointer (some ⟨bone1_, 0, none⟩)]), (7, vl1_), (10, Value.int .i64 (r5)), (11, Value.int .i64 (x2_))] (List.flatten [Sl1_]) tt ll ∧ nn = n7 + 1) (N + 1) ?_ ?_
  · exact ⟨N, [], 0, hM, Value.slice none 0 0, [], Sl.nil, is_mk rfl rfl, rfl⟩
  · clear hM; rintro t l _ ⟨n7, l1_, x2_, hM, vl1_, Sl1_, hl1_, ⟨⟨T, rfl⟩, rfl⟩, rfl⟩
    rcases n7 with _ | n7
    · exact absurd hM (by simp [wire_listOf_int__v1_l3])
    rw [wire_listOf_int__v1_l3] at hM
    refine A_seq fun K8 hK8 => ?_
    refine A_reg ?_
    refine r_v (Value.bool (decide ((x2_ : Int) < r5))) rfl rfl rfl rfl ?_
    refine lx_nil ?_
    refine hK8 _ _ ?_; try clear hK8 K8
    refine A_seq fun K9 hK9 => ?_
    refine A_cond (decide ((x2_ : Int) < r5)) rfl (fun hc10 => ?_) (fun hc10 => ?_)
    · replace hM := ifp (of_decide_eq_true hc10) hM
      refine A_skip ?_
      refine hK9 _ _ ?_; try clear hK9 K9
      refine A_seq fun K11 hK11 => ?_
      refine A_block ?_
      refine A_regC [(some 15, false), (some 16, false), (some 17, true)] (conG Tryd.prog [(15, fun _ _ v_ L_ U_ => ∀ u0_, wire_Reader_Numbers_1_v1_m N one1_ = some u0_ → (pV (Value.int .i64 (u0_))) v_ L_ U_)]) ?_
      refine r_v (vl1_) rfl rfl rfl rfl ?_
      refine r_v (Value.func (.func 32) #[] #[Value.pointer (some ⟨bone0_, 0, none⟩), Value.pointer (some ⟨bone1_, 0, none⟩)]) rfl rfl rfl rfl ?_
      replace hM := bind_sm hM; obtain ⟨r12, hr13, hM⟩ := hM
      refine r_gv (Value.int .i64 (r12)) 32 _ rfl rfl rfl (ev_callV (caps := [Value.pointer (some ⟨bone0_, 0, none⟩), Value.pointer (some ⟨bone1_, 0, none⟩)]) rfl call_32 rfl) (fun own_ nw_ hs_ => wire_Reader_Numbers_1_v1_g N one1_ _ hr13 hs_.view bone0_ (blk_ro hbone0_ own_ nw_ hs_) bone1_ (blk_ro hbone1_ own_ nw_ hs_)) (fun _ _ v_ L_ U_ => ⟨fun h_ => h_ _ hr13, fun h_ => by intro _ e_; cases Option.some.inj (e_.symm.trans hr13); exact h_⟩) ?_
      refine r_bs (cs0 := [(15, fun _ _ v_ L_ U_ => ∀ u0_, wire_Reader_Numbers_1_v1_m N one1_ = some u0_ → (pV (Value.int .i64 (u0_))) v_ L_ U_)]) (Ls := [Sl1_]) 3 encI [r12] [Value.int .i64 (r12)] [Value.int .i64 (0)] rfl rfl rfl rfl rfl rfl rfl (by kernel_rfl) (by kernel_rfl) rfl rfl rfl (fun s14 S15 H16 => ?_)
      replace hM := ck_some hM; obtain ⟨ck17, hM⟩ := hM
      refine r_app (cs0 := [(15, fun _ _ v_ L_ U_ => ∀ u0_, wire_Reader_Numbers_1_v1_m N one1_ = some u0_ → (pV (Value.int .i64 (u0_))) v_ L_ U_)]) (Ls := [Sl1_, S15]) 0 (En := encI) rfl rfl rfl rfl rfl hl1_ rfl (rd_own H16 (mem_chunk (Ls := [Sl1_, S15]) (k := 1) rfl rfl)) rfl rfl rfl rfl rfl (app_b ck17 rfl) (app_m ck17 rfl) rfl (fun s18 S19 H20 => ?_)
      refine r_v (s18) rfl rfl rfl rfl ?_
      refine lx_nil ?_
      refine hK11 _ _ ?_; try clear hK11 K11
      refine A_reg ?_
      replace hM := ck_some hM; obtain ⟨ck21, hM⟩ := hM
      refine r_v (Value.int .i64 ((x2_ + 1))) rfl rfl (wi64 rfl ck21.1 ck21.2) rfl ?_
      refine r_v (Value.int .i64 ((x2_ + 1))) rfl rfl rfl rfl ?_
      refine lx_nil ?_
      refine fg _ (Sub.pick [S19, S15] [0] rfl) ?_
      exact ⟨n7 + 1, by omega, n7, (l1_ ++ ([r12])), (x2_ + 1), hM, s18, S19, H20, is_mk rfl rfl, rfl⟩
    · replace hM := ifn (of_decide_eq_false hc10) hM
      refine A_exit ?_
      refine hK3 _ _ ?_; try clear hK3 K3
      refine A_seq fun K22 hK22 => ?_
      refine A_seq fun K23 hK23 => ?_
      refine A_reg ?_
      refine r_v (Value.pointer none) rfl rfl rfl rfl ?_
      replace hM := bind_sm hM; obtain ⟨r24, hr25, hM⟩ := hM
      refine r_c (Value.bool (r24)) rfl _ _ (ev_callF rfl call_6 rfl) (wire_Reader_Bad_v1_g N  _ hr25) ?_
      refine lx_nil ?_
      refine hK23 _ _ ?_; try clear hK23 K23
      refine A_cond (r24) rfl (fun hc26 => ?_) (fun hc26 => ?_)
      · replace hM := ifp hc26 hM
        refine A_seq fun K27 hK27 => ?_
        refine A_reg ?_
        refine r_v (Value.slice none 0 0) rfl rfl rfl rfl ?_
        refine lx_nil ?_
        refine hK27 _ _ ?_; try clear hK27 K27
        obtain rfl := Option.some.inj hM
        refine A_ret (fun hn => ends1 (v0 := Value.slice none 0 0) Sl.nil (Sub.nil _) rfl (res1 rfl))
      · replace hM := ifn (Bool.eq_false_iff.1 hc26) hM
        refine A_skip ?_
        refine hK22 _ _ ?_; try clear hK22 K22
        refine A_seq fun K28 hK28 => ?_
        refine A_reg ?_
        refine r_v (vl1_) rfl rfl rfl rfl ?_
        refine r_v (vl1_) rfl rfl rfl rfl ?_
        refine lx_nil ?_
        refine hK28 _ _ ?_; try clear hK28 K28
        obtain rfl := Option.some.inj hM
        refine A_ret (fun hn => ends1 (v0 := vl1_) hl1_ (sub_one (Sub.pick [Sl1_] [0] rfl)) rfl (res1 rfl))
def wire_Reader_Numbers_v1_m (N : Nat) (count : Int) (most : Int) : Option (List Int) := (wire_listOf_int__v1_m N count most).bind fun r5 => some (r5)
set_option maxRecDepth 100000 in
set_option maxHeartbeats 8000000 in
theorem wire_Reader_Numbers_v1_g (N : Nat) (count : Int) (most : Int) (r : List Int) (hM : wire_Reader_Numbers_v1_m N count most = some r) (ro : Addr → Option Value)  : Does Tryd.prog 15 #[Value.pointer none, Value.int .i64 (count), Value.int .i64 (most)] ro [] (p1 (fun s_ => s_) 3 encI r) := by
  unfold wire_Reader_Numbers_v1_m at hM
  refine does_of_A follows Tryd.func15 rfl 11 rfl (upd (upd (upd (fun _ => undef) 2 (Value.int .i64 (most))) 1 (Value.int .i64 (count))) 0 (Value.pointer none)) (by funext k; match k with | 0 => rfl | 1 => rfl | 2 => rfl | k + 3 => rfl) (fun base0_ => ?_)
  refine A_seq fun K1 hK1 => ?_
  refine A_reg ?_
  refine r_a (24, #[Value.pointer none]) rfl rfl rfl (fun b2 => ?_) (.inr rfl)
  refine r_a (3, #[Value.int .i64 (most)]) rfl rfl rfl (fun b3 => ?_) (.inr rfl)
  refine r_v (Value.slice none 0 0) rfl rfl rfl rfl ?_
  refine lx_nil ?_
  refine hK1 _ _ ?_; try clear hK1 K1
  refine A_seq fun K4 hK4 => ?_
  refine A_regC [(some 10, false)] (conG Tryd.prog [(10, fun _ _ v_ L_ U_ => ∀ u0_, wire_listOf_int__v1_m N count most = some u0_ → (p1 (fun s_ => s_) 3 encI (u0_)) v_ L_ U_)]) ?_
  refine r_l (Value.pointer none) 1 _ _ _ _ rfl rfl rfl rfl rfl ?_
  refine r_v (Value.int .i64 (count)) rfl rfl rfl rfl ?_
  refine r_v (Value.func (.func 32) #[] #[Value.pointer (some ⟨b2, 0, none⟩), Value.pointer (some ⟨b3, 0, none⟩)]) rfl rfl rfl (ev_mkF rfl) ?_
  replace hM := bind_sm hM; obtain ⟨r5, hr6, hM⟩ := hM
  refine r_g1 (Ls := [[(b3, 3, #[Value.int .i64 (most)])], [(b2, 24, #[Value.pointer none])]]) (fun s7 => s7) 3 encI (r5) 31 _ rfl rfl rfl (ev_callF rfl call_31 rfl) (fun own_ nw_ hs_ => wire_listOf_int__v1_g N count most _ hr6 hs_.view b2 (blk_own 1 rfl rfl own_ nw_ hs_) b3 (blk_own 0 rfl rfl own_ nw_ hs_)) (fun _ _ v_ L_ U_ => ⟨fun h_ => h_ _ hr6, fun h_ => by intro _ e_; cases Option.some.inj (e_.symm.trans hr6); exact h_⟩) (fun s7 S8 H9 => ?_)
  refine r_v (s7) rfl rfl rfl rfl ?_
  refine lx_nil ?_
  refine hK4 _ _ ?_; try clear hK4 K4
  obtain rfl := Option.some.inj hM
  refine A_ret (fun hn => ends1 (v0 := s7) H9 (sub_one (Sub.pick [[(b3, 3, #[Value.int .i64 (most)])], [(b2, 24, #[Value.pointer none])], S8] [2] rfl)) rfl (res1 rfl))
def wire_Reader_At_v1_m (_ : Nat) : Option (Int) := some (0)
set_option maxRecDepth 100000 in
set_option maxHeartbeats 8000000 in
theorem wire_Reader_At_v1_g (N : Nat) (r : Int) (hM : wire_Reader_At_v1_m N = some r) : Gives Tryd.prog 16 #[Value.pointer none] (Value.int .i64 (r)) := by
  unfold wire_Reader_At_v1_m at hM
  refine gives_of_A follows Tryd.func16 rfl 10 rfl (upd (fun _ => undef) 0 (Value.pointer none)) (by funext k; match k with | 0 => rfl | k + 1 => rfl) (fun base0_ => ?_)
  refine A_seq fun K1 hK1 => ?_
  refine A_reg ?_
  refine r_v (Value.int .i64 (0)) rfl rfl rfl rfl ?_
  refine lx_nil ?_
  refine hK1 _ _ ?_; try clear hK1 K1
  refine A_seq fun K2 hK2 => ?_
  refine A_seq fun K3 hK3 => ?_
  refine A_reg ?_
  refine r_v (Value.pointer none) rfl rfl rfl rfl ?_
  refine r_v (Value.bool (true)) rfl rfl rfl rfl ?_
  refine lx_nil ?_
  refine hK3 _ _ ?_; try clear hK3 K3
  refine A_cond true rfl (fun _ => ?_) (fun h_ => nomatch h_)
  refine A_seq fun K4 hK4 => ?_
  refine A_reg ?_
  refine r_v (Value.int .i64 (0)) rfl rfl rfl rfl ?_
  refine lx_nil ?_
  refine hK4 _ _ ?_; try clear hK4 K4
  obtain rfl := Option.some.inj hM
  refine A_ret (fun hn => ends_eq (v0 := Value.int .i64 (0)) rfl (res1 rfl))
def wire_Reader_Left_v1_m (_ : Nat) : Option (Int) := some (0)
set_option maxRecDepth 100000 in
set_option maxHeartbeats 8000000 in
theorem wire_Reader_Left_v1_g (N : Nat) (r : Int) (hM : wire_Reader_Left_v1_m N = some r) : Gives Tryd.prog 17 #[Value.pointer none] (Value.int .i64 (r)) := by
  unfold wire_Reader_Left_v1_m at hM
  refine gives_of_A follows Tryd.func17 rfl 16 rfl (upd (fun _ => undef) 0 (Value.pointer none)) (by funext k; match k with | 0 => rfl | k + 1 => rfl) (fun base0_ => ?_)
  refine A_seq fun K1 hK1 => ?_
  refine A_reg ?_
  refine r_v (Value.int .i64 (0)) rfl rfl rfl rfl ?_
  refine lx_nil ?_
  refine hK1 _ _ ?_; try clear hK1 K1
  refine A_seq fun K2 hK2 => ?_
  refine A_seq fun K3 hK3 => ?_
  refine A_reg ?_
  refine r_v (Value.pointer none) rfl rfl rfl rfl ?_
  refine r_v (Value.bool (true)) rfl rfl rfl rfl ?_
  refine lx_nil ?_
  refine hK3 _ _ ?_; try clear hK3 K3
  refine A_cond true rfl (fun _ => ?_) (fun h_ => nomatch h_)
  refine A_seq fun K4 hK4 => ?_
  refine A_reg ?_
  refine r_v (Value.int .i64 (0)) rfl rfl rfl rfl ?_
  refine lx_nil ?_
  refine hK4 _ _ ?_; try clear hK4 K4
  obtain rfl := Option.some.inj hM
  refine A_ret (fun hn => ends_eq (v0 := Value.int .i64 (0)) rfl (res1 rfl))
def wire_Read_m (N : Nat) (b : List UInt8) : Option ((List UInt8) × Int × Int) := (slices_Clone___byte_byte__m N b).bind fun r3 => some (r3, 0, 0)
set_option maxRecDepth 100000 in
set_option maxHeartbeats 8000000 in
theorem wire_Read_g (N : Nat) (b : List UInt8) (r : (List UInt8) × Int × Int) (hM : wire_Read_m N b = some r) (ro : Addr → Option Value) (bv : Value) (hb : Rd encY ro bv b) : Does Tryd.prog 18 #[bv] ro [] (pO [] (oS 5 encY r.1 fun s_0 => (oB 55 #[s_0, Value.int .i64 (r.2.1), Value.int .i64 (r.2.2)] fun b_0 => (oE (Value.pointer (some ⟨b_0, 0, none⟩)) [])))) := by
  unfold wire_Read_m at hM
  refine doesO_of_A follows Tryd.func18 rfl 7 rfl (upd (fun _ => undef) 0 (bv)) (by funext k; match k with | 0 => rfl | k + 1 => rfl) (fun _ _ h_ _ => h_) (fun base0_ => ?_)
  refine A_seq fun K1 hK1 => ?_
  refine A_reg ?_
  refine r_v (Value.pointer none) rfl rfl rfl rfl ?_
  refine lx_nil ?_
  refine hK1 _ _ ?_; try clear hK1 K1
  refine A_seq fun K2 hK2 => ?_
  refine A_regC [(some 4, false)] (conG Tryd.prog [(4, fun _ _ v_ L_ U_ => ∀ u0_, slices_Clone___byte_byte__m N b = some u0_ → (p1 (fun s_ => s_) 5 encY (u0_)) v_ L_ U_)]) ?_
  refine r_v (bv) rfl rfl rfl rfl ?_
  replace hM := bind_sm hM; obtain ⟨r3, hr4, hM⟩ := hM
  refine r_g1 (Ls := []) (fun s5 => s5) 5 encY (r3) 33 _ rfl rfl rfl (ev_callF rfl call_33 rfl) (fun own_ nw_ hs_ => slices_Clone___byte_byte__g N b _ hr4 hs_.view bv ((rd_ro hb) own_ nw_ hs_)) (fun _ _ v_ L_ U_ => ⟨fun h_ => h_ _ hr4, fun h_ => by intro _ e_; cases Option.some.inj (e_.symm.trans hr4); exact h_⟩) (fun s5 S6 H7 => ?_)
  refine r_v (Value.agg #[s5, Value.int .i64 (0), Value.int .i64 (0)]) rfl rfl rfl (ev_buildSC rfl rfl rfl (pc_cons (cells_sl rfl (Sl.shp H7)) pc_nil) rfl) ?_
  refine r_a (55, #[s5, Value.int .i64 (0), Value.int .i64 (0)]) rfl rfl rfl (fun b8 => ?_) (.inr rfl)
  refine r_v (Value.pointer (some ⟨b8, 0, none⟩)) rfl rfl rfl rfl ?_
  refine lx_nil ?_
  refine hK2 _ _ ?_; try clear hK2 K2
  obtain rfl := Option.some.inj hM
  refine A_ret (fun hn => endsO (v0 := Value.pointer (some ⟨b8, 0, none⟩)) (O := [S6, [(b8, 55, #[s5, Value.int .i64 (0), Value.int .i64 (0)])]]) (res1 rfl) (Sub.pick [[(b8, 55, #[s5, Value.int .i64 (0), Value.int .i64 (0)])], S6] [1, 0] rfl) ⟨s5, S6, _, H7, ⟨b8, _, ⟨rfl, rfl⟩, rfl⟩, rfl⟩)
def wire_Reader_Bad_v2_m (_ : Nat) (_ : List UInt8) (_ : Int) (r_2 : Int) : Option (Bool) := some (((r_2 : Int) != 0))
set_option maxRecDepth 100000 in
set_option maxHeartbeats 8000000 in
theorem wire_Reader_Bad_v2_g (N : Nat) (r_0 : List UInt8) (r_1 : Int) (r_2 : Int) (r : Bool) (hM : wire_Reader_Bad_v2_m N r_0 r_1 r_2 = some r) (ro : Addr → Option Value) (br : Nat) (r_0v : Value) (_hr_0 : Rd encY ro r_0v r_0) (hbr : Blk ro br [r_0v, Value.int .i64 (r_1), Value.int .i64 (r_2)]) : Does Tryd.prog 6 #[Value.pointer (some ⟨br, 0, none⟩)] ro [] (pV (Value.bool (r))) := by
  unfold wire_Reader_Bad_v2_m at hM
  refine does_of_A follows Tryd.func6 rfl 13 rfl (upd (fun _ => undef) 0 (Value.pointer (some ⟨br, 0, none⟩))) (by funext k; match k with | 0 => rfl | k + 1 => rfl) (fun base0_ => ?_)
  refine A_seq fun K1 hK1 => ?_
  refine A_reg ?_
  refine r_v (Value.bool (false)) rfl rfl rfl rfl ?_
  refine lx_nil ?_
  refine hK1 _ _ ?_; try clear hK1 K1
  refine A_seq fun K2 hK2 => ?_
  refine A_reg ?_
  refine r_v (Value.pointer (some ⟨br, 0, none⟩)) rfl rfl rfl rfl ?_
  refine r_v (Value.bool (false)) rfl rfl rfl rfl ?_
  refine r_v (Value.bool (false)) rfl rfl rfl rfl ?_
  refine r_y rfl ?_
  refine r_v (Value.pointer (some ⟨br, 0, none⟩)) rfl rfl rfl rfl ?_
  refine r_y rfl ?_
  refine r_v (Value.pointer (some ⟨br, 0, none⟩)) rfl rfl rfl rfl ?_
  refine r_y rfl ?_
  refine r_v (Value.pointer (some ⟨br, 1, none⟩)) rfl rfl rfl rfl ?_
  refine r_y rfl ?_
  refine r_v (Value.pointer (some ⟨br, 2, none⟩)) rfl rfl rfl rfl ?_
  refine r_y rfl ?_
  refine r_lb (Value.int .i64 (r_2)) (vs := [r_0v, Value.int .i64 (r_1), Value.int .i64 (r_2)]) (o := 2) rfl rfl (blk_ro hbr) rfl ?_
  refine r_y rfl ?_
  refine r_v (Value.bool (((r_2 : Int) != 0))) rfl rfl rfl rfl ?_
  refine r_v (Value.bool (((r_2 : Int) != 0))) rfl rfl rfl rfl ?_
  refine r_v (Value.bool (((r_2 : Int) != 0))) rfl rfl rfl rfl ?_
  refine lx_nil ?_
  refine hK2 _ _ ?_; try clear hK2 K2
  obtain rfl := Option.some.inj hM
  refine A_ret (fun hn => endsV (v0 := Value.bool (((r_2 : Int) != 0))) rfl (res1 rfl))
def wire_wordOf_l3 (b : List UInt8) : Nat → Int → BitVec 128 → Option (BitVec 128)
  | 0, _, _ => none
  | n7 + 1, x1_, m2_ => if (x1_ : Int) < ((b).length : Int) then ck (0 ≤ x1_ ∧ x1_ < ((b).length : Int)) (ck (-9223372036854775808 ≤ (8 : Int) ∧ (8 : Int) ≤ 9223372036854775807) (ck ((-9223372036854775808 ≤ (x1_ + 1) ∧ (x1_ + 1) ≤ 9223372036854775807)) ((wire_wordOf_l3 b n7) ((x1_ + 1)) ((shiftI (m2_) (8)) ||| ((0#64) ++ (BitVec.ofNat 64 ((b)[(x1_).toNat]!).toNat)))))) else some (m2_)
def wire_wordOf_m (N : Nat) (b : List UInt8) : Option (BitVec 128) := wire_wordOf_l3 b N (0) ((0#64) ++ (0#64))
set_option maxRecDepth 100000 in
set_option maxHeartbeats 8000000 in
theorem wire_wordOf_g (N : Nat) (b : List UInt8) (r : BitVec 128) (hM : wire_wordOf_m N b = some r) (ro : Addr → Option Value) (bv : Value) (hb : Rd encY ro bv b) : Does Tryd.prog 41 #[bv] ro [] (pV (Value.agg #[U (hi (r)), U (lo (r))])) := by
  unfold wire_wordOf_m at hM
  refine does_of_A follows Tryd.func41 rfl 20 rfl (upd (fun _ => undef) 0 (bv)) (by funext k; match k with | 0 => rfl | k + 1 => rfl) (fun base0_ => ?_)
  refine A_seq fun K1 hK1 => ?_
  refine A_reg ?_
  refine r_a (72, #[U (0#64), U (0#64)]) rfl rfl rfl (fun b2 => ?_) (.inr rfl)
  refine lx_nil ?_
  refine hK1 _ _ ?_; try clear hK1 K1
  refine A_seq fun K3 hK3 => ?_
  refine A_reg ?_
  refine r_a (72, #[U (0#64), U (0#64)]) rfl rfl rfl (fun b4 => ?_) (.inr rfl)
  refine lx_nil ?_
  refine hK3 _ _ ?_; try clear hK3 K3
  refine A_seq fun K5 hK5 => ?_
  refine A_seq fun K6 hK6 => ?_
  refine A_reg ?_
  refine r_v (bv) rfl rfl rfl rfl ?_
  refine r_v (Value.int .i64 (((b).length : Int))) rfl rfl rfl (ev_lenSl rfl rfl rfl (Rd.shp hb)) ?_
  refine r_v (Value.int .i64 (0)) rfl rfl rfl rfl ?_
  refine lx_nil ?_
  refine hK6 _ _ ?_; try clear hK6 K6
  refine A_block ?_
  refine A_loop (fun tt ll nn => ∃ (n7 : Nat) (x1_ : Int) (m2_ : BitVec 128), (wire_wordOf_l3 b n7 x1_ m2_ = some r) ∧ Is [(2, Value.pointer (some ⟨b2, 0, none⟩)), (3, Value.pointer (some ⟨b4, 0, none⟩)), (6, bv), (7, Value.int .i64 (((b).length : Int))), (8, Value.int .i64 (x1_))] [(b4, 72, #[U (hi (m2_)), U (lo (m2_))]), (b2, 72, #[U (0#64), U (0#64)])] tt ll ∧ nn = n7 + 1) (N + 1) ?_ ?_
  · exact ⟨N, 0, (0#64) ++ (0#64), hM, is_mk rfl (by first | rfl | simp only [app_hl]), rfl⟩
  · clear hM; rintro t l _ ⟨n7, x1_, m2_, hM, ⟨⟨T, rfl⟩, rfl⟩, rfl⟩
    rcases n7 with _ | n7
    · exact absurd hM (by simp [wire_wordOf_l3])
    rw [wire_wordOf_l3] at hM
    refine A_seq fun K8 hK8 => ?_
    refine A_reg ?_
    refine r_v (Value.bool (decide ((x1_ : Int) < ((b).length : Int)))) rfl rfl rfl rfl ?_
    refine lx_nil ?_
    refine hK8 _ _ ?_; try clear hK8 K8
    refine A_seq fun K9 hK9 => ?_
    refine A_cond (decide ((x1_ : Int) < ((b).length : Int))) rfl (fun hc10 => ?_) (fun hc10 => ?_)
    · replace hM := ifp (of_decide_eq_true hc10) hM
      refine A_skip ?_
      refine hK9 _ _ ?_; try clear hK9 K9
      refine A_seq fun K11 hK11 => ?_
      refine A_block ?_
      refine A_seq fun K12 hK12 => ?_
      refine A_reg ?_
      replace hM := ck_some hM; obtain ⟨ck13, hM⟩ := hM
      refine r_v (elA bv ((x1_).toNat * 1)) rfl rfl rfl (ev_v (ev_idxSl rfl rfl rfl (Rd.shp hb) ck13)) ?_
      refine r_le (Value.int .u8 (((((b)[(x1_).toNat]!).toNat : Nat) : Int))) (En := encY) ((b)[(x1_).toNat]!) ((x1_).toNat) 0 rfl rfl (rd_ro hb) (get_of ck13) rfl ?_
      refine r_v (Value.int .u8 (((((b)[(x1_).toNat]!).toNat : Nat) : Int))) rfl rfl rfl rfl ?_
      refine lx_nil ?_
      refine hK12 _ _ ?_; try clear hK12 K12
      refine A_reg ?_
      refine r_l (Value.agg #[U (hi (m2_)), U (lo (m2_))]) 0 _ _ _ _ rfl rfl rfl rfl rfl ?_
      replace hM := ck_some hM; obtain ⟨ck14, hM⟩ := hM
      refine r_c (Value.agg #[U (hi (shiftI (m2_) (8))), U (lo (shiftI (m2_) (8)))]) rfl _ _ (ev_callF rfl call_55 rfl) (shl_g (m2_) (8) ck14.1 ck14.2) ?_
      refine r_v (Value.int .u8 (((((b)[(x1_).toNat]!).toNat : Nat) : Int))) rfl rfl rfl rfl ?_
      refine r_w (U (BitVec.ofNat 64 ((b)[(x1_).toNat]!).toNat)) rfl rfl (u8_u64 ((b)[(x1_).toNat]!)) (fun _ => rfl) ?_
      refine r_v (Value.agg #[U (0#64), U (BitVec.ofNat 64 ((b)[(x1_).toNat]!).toNat)]) rfl rfl rfl (ev_buildS rfl rfl rfl rfl) ?_
      refine r_c (Value.agg #[U (hi ((shiftI (m2_) (8)) ||| ((0#64) ++ (BitVec.ofNat 64 ((b)[(x1_).toNat]!).toNat)))), U (lo ((shiftI (m2_) (8)) ||| ((0#64) ++ (BitVec.ofNat 64 ((b)[(x1_).toNat]!).toNat))))]) rfl _ _ (ev_callF rfl call_54 rfl) (by have h_ := (or_g (shiftI (m2_) (8)) ((0#64) ++ (BitVec.ofNat 64 ((b)[(x1_).toNat]!).toNat))); simp only [app_hl] at h_; exact h_) ?_
      refine r_s [(b4, 72, #[U (hi ((shiftI (m2_) (8)) ||| ((0#64) ++ (BitVec.ofNat 64 ((b)[(x1_).toNat]!).toNat)))), U (lo ((shiftI (m2_) (8)) ||| ((0#64) ++ (BitVec.ofNat 64 ((b)[(x1_).toNat]!).toNat))))]), (b2, 72, #[U (0#64), U (0#64)])] 0 _ _ _ (#[U (hi (m2_)), U (lo (m2_))]) (#[U (hi ((shiftI (m2_) (8)) ||| ((0#64) ++ (BitVec.ofNat 64 ((b)[(x1_).toNat]!).toNat)))), U (lo ((shiftI (m2_) (8)) ||| ((0#64) ++ (BitVec.ofNat 64 ((b)[(x1_).toNat]!).toNat))))]) (#[U (hi ((shiftI (m2_) (8)) ||| ((0#64) ++ (BitVec.ofNat 64 ((b)[(x1_).toNat]!).toNat)))), U (lo ((shiftI (m2_) (8)) ||| ((0#64) ++ (BitVec.ofNat 64 ((b)[(x1_).toNat]!).toNat))))]) rfl rfl rfl rfl (.of rfl rfl) rfl rfl ?_
      refine lx_nil ?_
      refine hK11 _ _ ?_; try clear hK11 K11
      refine A_reg ?_
      replace hM := ck_some hM; obtain ⟨ck15, hM⟩ := hM
      refine r_v (Value.int .i64 ((x1_ + 1))) rfl rfl (wi64 rfl ck15.1 ck15.2) rfl ?_
      refine r_v (Value.int .i64 ((x1_ + 1))) rfl rfl rfl rfl ?_
      refine lx_nil ?_
      refine fg _ (Sub.of (List.Sublist.cons_cons _ (List.Sublist.cons_cons _ (List.Sublist.slnil)))) ?_
      exact ⟨n7 + 1, by omega, n7, (x1_ + 1), (shiftI (m2_) (8)) ||| ((0#64) ++ (BitVec.ofNat 64 ((b)[(x1_).toNat]!).toNat)), hM, is_mk rfl (by first | rfl | simp only [app_hl]), rfl⟩
    · replace hM := ifn (of_decide_eq_false hc10) hM
      refine A_exit ?_
      refine hK5 _ _ ?_; try clear hK5 K5
      refine A_seq fun K16 hK16 => ?_
      refine A_reg ?_
      refine r_l (Value.agg #[U (hi (m2_)), U (lo (m2_))]) 0 _ _ _ _ rfl rfl rfl rfl rfl ?_
      refine r_s [(b4, 72, #[U (hi (m2_)), U (lo (m2_))]), (b2, 72, #[U (hi (m2_)), U (lo (m2_))])] 1 _ _ _ (#[U (0#64), U (0#64)]) (#[U (hi (m2_)), U (lo (m2_))]) (#[U (hi (m2_)), U (lo (m2_))]) rfl rfl rfl rfl (.of rfl rfl) rfl rfl ?_
      refine lx_nil ?_
      refine hK16 _ _ ?_; try clear hK16 K16
      obtain rfl := Option.some.inj hM
      refine A_ret (fun hn => endsV (v0 := Value.agg #[U (hi (m2_)), U (lo (m2_))]) rfl (res1 (res_cell hn 1 rfl rfl rfl)))
def wire_Reader_number_1_v1_m (N : Nat) (b : List UInt8) (c1_ : Int) (c2_ : Int) (c3_ : Int) : Option (Int × Int × Int) := if (((b).length : Int) : Int) < c1_ then some (0, 0, 3) else ck (0 ≤ c1_ ∧ c1_ ≤ ((b).length : Int)) ((wire_wordOf_m N (((b).take ((c1_).toNat)).drop (0))).bind fun r8 => ck ((((lo (r8)).toNat : Nat) : Int) ≤ 9223372036854775807) (if ((((lo (r8)).toNat : Nat) : Int) : Int) > c2_ then some (0, 0, c3_) else some ((((lo (r8)).toNat : Nat) : Int), c1_, 0)))
set_option maxRecDepth 100000 in
set_option maxHeartbeats 8000000 in
theorem wire_Reader_number_1_v1_g (N : Nat) (b : List UInt8) (c1_ : Int) (c2_ : Int) (c3_ : Int) (r : Int × Int × Int) (hM : wire_Reader_number_1_v1_m N b c1_ c2_ c3_ = some r) (ro : Addr → Option Value) (bv : Value) (hb : Rd encY ro bv b) (bc1_ : Nat) (hbc1_ : Blk ro bc1_ [Value.int .i64 (c1_)]) (bc2_ : Nat) (hbc2_ : Blk ro bc2_ [Value.int .i64 (c2_)]) (bc3_ : Nat) (hbc3_ : Blk ro bc3_ [Value.int .i64 (c3_)]) : Does Tryd.prog 40 #[bv, Value.pointer (some ⟨bc1_, 0, none⟩), Value.pointer (some ⟨bc2_, 0, none⟩), Value.pointer (some ⟨bc3_, 0, none⟩)] ro [] (pV (Value.tuple #[Value.int .i64 (r.1), Value.int .i64 (r.2.1), Value.int .i64 (r.2.2)])) := by
  unfold wire_Reader_number_1_v1_m at hM
  refine does_of_A follows Tryd.func40 rfl 25 rfl (upd (upd (upd (upd (fun _ => undef) 3 (Value.pointer (some ⟨bc3_, 0, none⟩))) 2 (Value.pointer (some ⟨bc2_, 0, none⟩))) 1 (Value.pointer (some ⟨bc1_, 0, none⟩))) 0 (bv)) (by funext k; match k with | 0 => rfl | 1 => rfl | 2 => rfl | 3 => rfl | k + 4 => rfl) (fun base0_ => ?_)
  refine A_seq fun K1 hK1 => ?_
  refine A_reg ?_
  refine r_v (Value.int .i64 (0)) rfl rfl rfl rfl ?_
  refine r_v (Value.int .i64 (0)) rfl rfl rfl rfl ?_
  refine r_v (Value.int .i64 (0)) rfl rfl rfl rfl ?_
  refine lx_nil ?_
  refine hK1 _ _ ?_; try clear hK1 K1
  refine A_seq fun K2 hK2 => ?_
  refine A_seq fun K3 hK3 => ?_
  refine A_reg ?_
  refine r_v (bv) rfl rfl rfl rfl ?_
  refine r_v (Value.int .i64 (((b).length : Int))) rfl rfl rfl (ev_lenSl rfl rfl rfl (Rd.shp hb)) ?_
  refine r_lb (Value.int .i64 (c1_)) (vs := [Value.int .i64 (c1_)]) (o := 0) rfl rfl (blk_ro hbc1_) rfl ?_
  refine r_v (Value.bool (decide ((((b).length : Int) : Int) < c1_))) rfl rfl rfl rfl ?_
  refine lx_nil ?_
  refine hK3 _ _ ?_; try clear hK3 K3
  refine A_cond (decide ((((b).length : Int) : Int) < c1_)) rfl (fun hc4 => ?_) (fun hc4 => ?_)
  · replace hM := ifp (of_decide_eq_true hc4) hM
    refine A_seq fun K5 hK5 => ?_
    refine A_reg ?_
    refine r_v (Value.int .i64 (0)) rfl rfl rfl rfl ?_
    refine r_v (Value.int .i64 (0)) rfl rfl rfl rfl ?_
    refine r_v (Value.int .i64 (3)) rfl rfl rfl rfl ?_
    refine lx_nil ?_
    refine hK5 _ _ ?_; try clear hK5 K5
    obtain rfl := Option.some.inj hM
    refine A_ret (fun hn => endsV (v0 := Value.tuple #[Value.int .i64 (0), Value.int .i64 (0), Value.int .i64 (3)]) rfl (res3 rfl rfl rfl))
  · replace hM := ifn (of_decide_eq_false hc4) hM
    refine A_skip ?_
    refine hK2 _ _ ?_; try clear hK2 K2
    refine A_seq fun K6 hK6 => ?_
    refine A_regC [(some 16, false)] (conG Tryd.prog [(16, fun _ _ v_ L_ U_ => ∀ u0_, wire_wordOf_m N (((b).take ((c1_).toNat)).drop (0)) = some u0_ → (pV (Value.agg #[U (hi (u0_)), U (lo (u0_))])) v_ L_ U_)]) ?_
    refine r_v (bv) rfl rfl rfl rfl ?_
    refine r_lb (Value.int .i64 (c1_)) (vs := [Value.int .i64 (c1_)]) (o := 0) rfl rfl (blk_ro hbc1_) rfl ?_
    replace hM := ck_some hM; obtain ⟨ck7, hM⟩ := hM
    refine r_v (subA bv (0) ((c1_).toNat) 1) rfl rfl rfl (ev_v (ev_subSl2 rfl rfl rfl rfl (Rd.shp hb) ck7)) ?_
    replace hM := bind_sm hM; obtain ⟨r8, hr9, hM⟩ := hM
    refine r_gv (Value.agg #[U (hi (r8)), U (lo (r8))]) 41 _ rfl rfl rfl (ev_callF rfl call_41 rfl) (fun own_ nw_ hs_ => wire_wordOf_g N (((b).take ((c1_).toNat)).drop (0)) _ hr9 hs_.view (subA bv (0) ((c1_).toNat) 1) ((rd_sub (rd_ro hb) (Nat.zero_le _) (toNat_len ck7.2)) own_ nw_ hs_)) (fun _ _ v_ L_ U_ => ⟨fun h_ => h_ _ hr9, fun h_ => by intro _ e_; cases Option.some.inj (e_.symm.trans hr9); exact h_⟩) ?_
    refine r_v (U (lo (r8))) rfl rfl rfl rfl ?_
    replace hM := ck_some hM; obtain ⟨ck10, hM⟩ := hM
    refine r_w (Value.int .i64 ((((lo (r8)).toNat : Nat) : Int))) rfl rfl (wi64 rfl (by omega) ck10) (fun _ => rfl) ?_
    refine r_v (Value.int .i64 ((((lo (r8)).toNat : Nat) : Int))) rfl rfl rfl rfl ?_
    refine lx_nil ?_
    refine hK6 _ _ ?_; try clear hK6 K6
    refine A_seq fun K11 hK11 => ?_
    refine A_seq fun K12 hK12 => ?_
    refine A_reg ?_
    refine r_v (Value.int .i64 ((((lo (r8)).toNat : Nat) : Int))) rfl rfl rfl rfl ?_
    refine r_lb (Value.int .i64 (c2_)) (vs := [Value.int .i64 (c2_)]) (o := 0) rfl rfl (blk_ro hbc2_) rfl ?_
    refine r_v (Value.bool (decide (((((lo (r8)).toNat : Nat) : Int) : Int) > c2_))) rfl rfl rfl rfl ?_
    refine lx_nil ?_
    refine hK12 _ _ ?_; try clear hK12 K12
    refine A_cond (decide (((((lo (r8)).toNat : Nat) : Int) : Int) > c2_)) rfl (fun hc13 => ?_) (fun hc13 => ?_)
    · replace hM := ifp (of_decide_eq_true hc13) hM
      refine A_seq fun K14 hK14 => ?_
      refine A_draw [] (by decide +kernel) (fun hn => sep_nil) ?_
      refine r_lb (Value.int .i64 (c3_)) (vs := [Value.int .i64 (c3_)]) (o := 0) rfl rfl (blk_ro hbc3_) rfl ?_
      refine r_v (Value.int .i64 (0)) rfl rfl rfl rfl ?_
      refine r_v (Value.int .i64 (0)) rfl rfl rfl rfl ?_
      refine r_v (Value.int .i64 (c3_)) rfl rfl rfl rfl ?_
      refine lx_nil ?_
      refine hK14 _ _ ?_; try clear hK14 K14
      obtain rfl := Option.some.inj hM
      refine A_ret (fun hn => endsV (v0 := Value.tuple #[Value.int .i64 (0), Value.int .i64 (0), Value.int .i64 (c3_)]) rfl (res3 rfl rfl rfl))
    · replace hM := ifn (of_decide_eq_false hc13) hM
      refine A_skip ?_
      refine hK11 _ _ ?_; try clear hK11 K11
      refine A_seq fun K15 hK15 => ?_
      refine A_draw [] (by decide +kernel) (fun hn => sep_nil) ?_
      refine r_v (Value.int .i64 ((((lo (r8)).toNat : Nat) : Int))) rfl rfl rfl rfl ?_
      refine r_lb (Value.int .i64 (c1_)) (vs := [Value.int .i64 (c1_)]) (o := 0) rfl rfl (blk_ro hbc1_) rfl ?_
      refine r_v (Value.int .i64 ((((lo (r8)).toNat : Nat) : Int))) rfl rfl rfl rfl ?_
      refine r_v (Value.int .i64 (c1_)) rfl rfl rfl rfl ?_
      refine r_v (Value.int .i64 (0)) rfl rfl rfl rfl ?_
      refine lx_nil ?_
      refine hK15 _ _ ?_; try clear hK15 K15
      obtain rfl := Option.some.inj hM
      refine A_ret (fun hn => endsV (v0 := Value.tuple #[Value.int .i64 ((((lo (r8)).toNat : Nat) : Int)), Value.int .i64 (c1_), Value.int .i64 (0)]) rfl (res3 rfl rfl rfl))
def wire_spot_fail_v2_m (_ : Nat) (s_0 : List UInt8) (s_1 : Int) (s_2 : Int) (e' : Int) : Option ((List UInt8) × Int × Int) := if (s_2 : Int) = 0 then some (s_0, s_1, e') else some (s_0, s_1, s_2)
set_option maxRecDepth 100000 in
set_option maxHeartbeats 8000000 in
theorem wire_spot_fail_v2_g (N : Nat) (s_0 : List UInt8) (s_1 : Int) (s_2 : Int) (e' : Int) (r : (List UInt8) × Int × Int) (hM : wire_spot_fail_v2_m N s_0 s_1 s_2 e' = some r) (ro : Addr → Option Value) (bs : Nat) (s_0v : Value) (Ss_0 : List Bl) (hs_0 : Sl 5 encY s_0v s_0 Ss_0) : Does Tryd.prog 23 #[Value.pointer (some ⟨bs, 1, none⟩), Value.int .i64 (e')] ro (List.flatten [[(bs, 55, #[s_0v, Value.int .i64 (s_1), Value.int .i64 (s_2)])], Ss_0]) (pO (List.flatten [[(bs, 55, #[s_0v, Value.int .i64 (s_1), Value.int .i64 (s_2)])], Ss_0]) (oI 5 encY s_0v r.1 (oE (Value.tuple #[]) [[(bs, 55, #[s_0v, Value.int .i64 (r.2.1), Value.int .i64 (r.2.2)])]]))) := by
  unfold wire_spot_fail_v2_m at hM
  refine doesO_of_A follows Tryd.func23 rfl 13 rfl (upd (upd (fun _ => undef) 1 (Value.int .i64 (e'))) 0 (Value.pointer (some ⟨bs, 1, none⟩))) (by funext k; match k with | 0 => rfl | 1 => rfl | k + 2 => rfl) (fun _ _ h_ _ => h_) (fun base0_ => ?_)
  refine A_seq fun K1 hK1 => ?_
  refine A_reg ?_
  refine r_v (Value.pointer (some ⟨bs, 1, none⟩)) rfl rfl rfl rfl ?_
  refine r_v (Value.pointer (some ⟨bs, 1, none⟩)) rfl rfl rfl rfl ?_
  refine r_v (Value.pointer (some ⟨bs, 2, none⟩)) rfl rfl rfl rfl ?_
  refine r_l (Value.int .i64 (s_2)) 0 _ _ _ _ rfl rfl rfl rfl rfl ?_
  refine r_v (Value.bool (((s_2 : Int) == 0))) rfl rfl rfl rfl ?_
  refine lx_nil ?_
  refine hK1 _ _ ?_; try clear hK1 K1
  refine A_cond (((s_2 : Int) == 0)) rfl (fun hc2 => ?_) (fun hc2 => ?_)
  · replace hM := ifp (eq_of_beq hc2) hM
    refine A_reg ?_
    refine r_v (Value.pointer (some ⟨bs, 1, none⟩)) rfl rfl rfl rfl ?_
    refine r_v (Value.int .i64 (e')) rfl rfl rfl rfl ?_
    refine r_v (Value.pointer (some ⟨bs, 1, none⟩)) rfl rfl rfl rfl ?_
    refine r_v (Value.pointer (some ⟨bs, 2, none⟩)) rfl rfl rfl rfl ?_
    refine r_s (List.flatten [[(bs, 55, #[s_0v, Value.int .i64 (s_1), Value.int .i64 (e')])], Ss_0]) 0 _ _ _ (#[s_0v, Value.int .i64 (s_1), Value.int .i64 (s_2)]) (#[Value.int .i64 (e')]) (#[s_0v, Value.int .i64 (s_1), Value.int .i64 (e')]) rfl rfl rfl rfl (.of rfl rfl) rfl rfl ?_
    refine lx_nil ?_
    obtain rfl := Option.some.inj hM
    refine endsN (v0 := Value.tuple #[]) (O := [Ss_0, [(bs, 55, #[s_0v, Value.int .i64 (s_1), Value.int .i64 (e')])]]) rfl (Sub.pick [[(bs, 55, #[s_0v, Value.int .i64 (s_1), Value.int .i64 (e')])], Ss_0] [1, 0] rfl) ⟨Ss_0, _, hs_0, ⟨rfl, rfl⟩, rfl⟩
  · replace hM := ifn (ne_of_beq_false hc2) hM
    refine A_skip ?_
    obtain rfl := Option.some.inj hM
    refine endsN (v0 := Value.tuple #[]) (O := [Ss_0, [(bs, 55, #[s_0v, Value.int .i64 (s_1), Value.int .i64 (s_2)])]]) rfl (Sub.pick [[(bs, 55, #[s_0v, Value.int .i64 (s_1), Value.int .i64 (s_2)])], Ss_0] [1, 0] rfl) ⟨Ss_0, _, hs_0, ⟨rfl, rfl⟩, rfl⟩
def wire_take_int__v3_m (N : Nat) (r_0 : List UInt8) (r_1 : Int) (r_2 : Int) (first0_ : Int) (first1_ : Int) (first2_ : Int) : Option (Int × (List UInt8) × Int × Int) := (wire_Reader_Bad_v2_m N r_0 r_1 r_2).bind fun r5 => if (r5) = true then some (0, r_0, r_1, r_2) else ck (0 ≤ r_1 ∧ r_1 ≤ ((r_0).length : Int)) ((wire_Reader_number_1_v1_m N (((r_0).take ((r_0).length)).drop ((r_1).toNat)) first0_ first1_ first2_).bind fun r11 => if (r11.2.2 : Int) ≠ 0 then (wire_spot_fail_v2_m N r_0 r_1 r_2 r11.2.2).bind fun r17 => ck ((r17.1).length = (r_0).length) (some (0, r17.1, r17.2.1, r17.2.2)) else ck ((-9223372036854775808 ≤ (r_1 + r11.2.1) ∧ (r_1 + r11.2.1) ≤ 9223372036854775807)) (some (r11.1, r_0, (r_1 + r11.2.1), r_2)))
set_option maxRecDepth 100000 in
set_option maxHeartbeats 8000000 in
theorem wire_take_int__v3_g (N : Nat) (r_0 : List UInt8) (r_1 : Int) (r_2 : Int) (first0_ : Int) (first1_ : Int) (first2_ : Int) (r : Int × (List UInt8) × Int × Int) (hM : wire_take_int__v3_m N r_0 r_1 r_2 first0_ first1_ first2_ = some r) (ro : Addr → Option Value) (br : Nat) (r_0v : Value) (Sr_0 : List Bl) (hr_0 : Sl 5 encY r_0v r_0 Sr_0) (bfirst0_ : Nat) (hbfirst0_ : Blk ro bfirst0_ [Value.int .i64 (first0_)]) (bfirst1_ : Nat) (hbfirst1_ : Blk ro bfirst1_ [Value.int .i64 (first1_)]) (bfirst2_ : Nat) (hbfirst2_ : Blk ro bfirst2_ [Value.int .i64 (first2_)]) : Does Tryd.prog 39 #[Value.pointer (some ⟨br, 0, none⟩), Value.func (.func 40) #[] #[Value.pointer (some ⟨bfirst0_, 0, none⟩), Value.pointer (some ⟨bfirst1_, 0, none⟩), Value.pointer (some ⟨bfirst2_, 0, none⟩)]] ro (List.flatten [[(br, 55, #[r_0v, Value.int .i64 (r_1), Value.int .i64 (r_2)])], Sr_0]) (pO (List.flatten [[(br, 55, #[r_0v, Value.int .i64 (r_1), Value.int .i64 (r_2)])], Sr_0]) (oI 5 encY r_0v r.2.1 (oE (Value.int .i64 (r.1)) [[(br, 55, #[r_0v, Value.int .i64 (r.2.2.1), Value.int .i64 (r.2.2.2)])]]))) := by
  unfold wire_take_int__v3_m at hM
  refine doesO_of_A follows Tryd.func39 rfl 47 rfl (upd (upd (fun _ => undef) 1 (Value.func (.func 40) #[] #[Value.pointer (some ⟨bfirst0_, 0, none⟩), Value.pointer (some ⟨bfirst1_, 0, none⟩), Value.pointer (some ⟨bfirst2_, 0, none⟩)])) 0 (Value.pointer (some ⟨br, 0, none⟩))) (by funext k; match k with | 0 => rfl | 1 => rfl | k + 2 => rfl) (fun _ _ h_ _ => h_) (fun base0_ => ?_)
  refine A_seq fun K1 hK1 => ?_
  refine A_reg ?_
  refine r_v (Value.int .i64 (0)) rfl rfl rfl rfl ?_
  refine lx_nil ?_
  refine hK1 _ _ ?_; try clear hK1 K1
  refine A_seq fun K2 hK2 => ?_
  refine A_reg ?_
  refine r_v (Value.int .i64 (0)) rfl rfl rfl rfl ?_
  refine lx_nil ?_
  refine hK2 _ _ ?_; try clear hK2 K2
  refine A_seq fun K3 hK3 => ?_
  refine A_seq fun K4 hK4 => ?_
  refine A_regC [(some 10, false)] (conG Tryd.prog [(10, fun _ _ v_ L_ U_ => ∀ u0_, wire_Reader_Bad_v2_m N r_0 r_1 r_2 = some u0_ → (pV (Value.bool (u0_))) v_ L_ U_)]) ?_
  refine r_v (Value.pointer (some ⟨br, 0, none⟩)) rfl rfl rfl rfl ?_
  replace hM := bind_sm hM; obtain ⟨r5, hr6, hM⟩ := hM
  refine r_gv (Value.bool (r5)) 6 _ rfl rfl rfl (ev_callF rfl call_6 rfl) (fun own_ nw_ hs_ => wire_Reader_Bad_v2_g N r_0 r_1 r_2 _ hr6 hs_.view br r_0v ((rd_own hr_0 (mem_chunk (Ls := [[(br, 55, #[r_0v, Value.int .i64 (r_1), Value.int .i64 (r_2)])], Sr_0]) (k := 1) rfl rfl)) own_ nw_ hs_) (blk_own 0 rfl rfl own_ nw_ hs_)) (fun _ _ v_ L_ U_ => ⟨fun h_ => h_ _ hr6, fun h_ => by intro _ e_; cases Option.some.inj (e_.symm.trans hr6); exact h_⟩) ?_
  refine lx_nil ?_
  refine hK4 _ _ ?_; try clear hK4 K4
  refine A_cond (r5) rfl (fun hc7 => ?_) (fun hc7 => ?_)
  · replace hM := ifp hc7 hM
    refine A_seq fun K8 hK8 => ?_
    refine A_reg ?_
    refine r_v (Value.int .i64 (0)) rfl rfl rfl rfl ?_
    refine r_v (Value.int .i64 (0)) rfl rfl rfl rfl ?_
    refine lx_nil ?_
    refine hK8 _ _ ?_; try clear hK8 K8
    obtain rfl := Option.some.inj hM
    refine A_ret (fun hn => endsO (v0 := Value.int .i64 (0)) (O := [Sr_0, [(br, 55, #[r_0v, Value.int .i64 (r_1), Value.int .i64 (r_2)])]]) (res1 rfl) (Sub.pick [[(br, 55, #[r_0v, Value.int .i64 (r_1), Value.int .i64 (r_2)])], Sr_0] [1, 0] rfl) ⟨Sr_0, _, hr_0, ⟨rfl, rfl⟩, rfl⟩)
  · replace hM := ifn (Bool.eq_false_iff.1 hc7) hM
    refine A_skip ?_
    refine hK3 _ _ ?_; try clear hK3 K3
    refine A_seq fun K9 hK9 => ?_
    refine A_drawR [(some 24, false)] (conG Tryd.prog [(24, fun _ _ v_ L_ U_ => ∀ u0_, wire_Reader_number_1_v1_m N (((r_0).take ((r_0).length)).drop ((r_1).toNat)) first0_ first1_ first2_ = some u0_ → (pV (Value.tuple #[Value.int .i64 (u0_.1), Value.int .i64 (u0_.2.1), Value.int .i64 (u0_.2.2)])) v_ L_ U_)]) [] (by decide +kernel) (fun hn => sep_nil) ?_
    refine r_v (Value.func (.func 40) #[] #[Value.pointer (some ⟨bfirst0_, 0, none⟩), Value.pointer (some ⟨bfirst1_, 0, none⟩), Value.pointer (some ⟨bfirst2_, 0, none⟩)]) rfl rfl rfl rfl ?_
    refine r_v (Value.pointer (some ⟨br, 0, none⟩)) rfl rfl rfl rfl ?_
    refine r_v (Value.pointer (some ⟨br, 0, none⟩)) rfl rfl rfl rfl ?_
    refine r_v (Value.pointer (some ⟨br, 0, none⟩)) rfl rfl rfl rfl ?_
    refine r_l (r_0v) 0 _ _ _ _ rfl rfl rfl rfl rfl ?_
    refine r_v (Value.pointer (some ⟨br, 0, none⟩)) rfl rfl rfl rfl ?_
    refine r_v (Value.pointer (some ⟨br, 0, none⟩)) rfl rfl rfl rfl ?_
    refine r_v (Value.pointer (some ⟨br, 1, none⟩)) rfl rfl rfl rfl ?_
    refine r_v (Value.pointer (some ⟨br, 1, none⟩)) rfl rfl rfl rfl ?_
    refine r_l (Value.int .i64 (r_1)) 0 _ _ _ _ rfl rfl rfl rfl rfl ?_
    replace hM := ck_some hM; obtain ⟨ck10, hM⟩ := hM
    refine r_v (subA r_0v ((r_1).toNat) ((r_0).length) 1) rfl rfl rfl (ev_v (ev_subSl1 rfl rfl rfl rfl (Sl.shp hr_0) ck10)) ?_
    replace hM := bind_sm hM; obtain ⟨r11, hr12, hM⟩ := hM
    refine r_gv (Value.tuple #[Value.int .i64 (r11.1), Value.int .i64 (r11.2.1), Value.int .i64 (r11.2.2)]) 40 _ rfl rfl rfl (ev_callV (caps := [Value.pointer (some ⟨bfirst0_, 0, none⟩), Value.pointer (some ⟨bfirst1_, 0, none⟩), Value.pointer (some ⟨bfirst2_, 0, none⟩)]) rfl call_40 rfl) (fun own_ nw_ hs_ => wire_Reader_number_1_v1_g N (((r_0).take ((r_0).length)).drop ((r_1).toNat)) first0_ first1_ first2_ _ hr12 hs_.view (subA r_0v ((r_1).toNat) ((r_0).length) 1) ((rd_sub (rd_own hr_0 (mem_chunk (Ls := [[(br, 55, #[r_0v, Value.int .i64 (r_1), Value.int .i64 (r_2)])], Sr_0]) (k := 1) rfl rfl)) (toNat_len ck10.2) (Nat.le_refl _)) own_ nw_ hs_) bfirst0_ (blk_ro hbfirst0_ own_ nw_ hs_) bfirst1_ (blk_ro hbfirst1_ own_ nw_ hs_) bfirst2_ (blk_ro hbfirst2_ own_ nw_ hs_)) (fun _ _ v_ L_ U_ => ⟨fun h_ => h_ _ hr12, fun h_ => by intro _ e_; cases Option.some.inj (e_.symm.trans hr12); exact h_⟩) ?_
    refine r_v (Value.tuple #[Value.int .i64 (r11.1), Value.int .i64 (r11.2.1), Value.int .i64 (r11.2.2)]) rfl rfl rfl rfl ?_
    refine r_v (Value.int .i64 (r11.1)) rfl rfl rfl rfl ?_
    refine r_v (Value.int .i64 (r11.2.1)) rfl rfl rfl rfl ?_
    refine r_v (Value.int .i64 (r11.2.2)) rfl rfl rfl rfl ?_
    refine r_v (Value.int .i64 (r11.1)) rfl rfl rfl rfl ?_
    refine r_v (Value.int .i64 (r11.2.1)) rfl rfl rfl rfl ?_
    refine r_v (Value.int .i64 (r11.2.2)) rfl rfl rfl rfl ?_
    refine lx_nil ?_
    refine hK9 _ _ ?_; try clear hK9 K9
    refine A_seq fun K13 hK13 => ?_
    refine A_seq fun K14 hK14 => ?_
    refine A_reg ?_
    refine r_v (Value.int .i64 (r11.2.2)) rfl rfl rfl rfl ?_
    refine r_v (Value.bool (((r11.2.2 : Int) != 0))) rfl rfl rfl rfl ?_
    refine lx_nil ?_
    refine hK14 _ _ ?_; try clear hK14 K14
    refine A_cond (((r11.2.2 : Int) != 0)) rfl (fun hc15 => ?_) (fun hc15 => ?_)
    · replace hM := ifp (bne_iff_ne.1 hc15) hM
      refine A_seq fun K16 hK16 => ?_
      refine A_regC [(some 34, true)] (conG Tryd.prog [(34, fun _ _ v_ L_ U_ => ∀ u0_, wire_spot_fail_v2_m N r_0 r_1 r_2 r11.2.2 = some u0_ → (pO (List.flatten [[(br, 55, #[r_0v, Value.int .i64 (r_1), Value.int .i64 (r_2)])], Sr_0]) (oI 5 encY r_0v u0_.1 (oE (Value.tuple #[]) [[(br, 55, #[r_0v, Value.int .i64 (u0_.2.1), Value.int .i64 (u0_.2.2)])]]))) v_ L_ U_)]) ?_
      refine r_v (Value.pointer (some ⟨br, 0, none⟩)) rfl rfl rfl rfl ?_
      refine r_v (Value.pointer (some ⟨br, 0, none⟩)) rfl rfl rfl rfl ?_
      refine r_v (Value.pointer (some ⟨br, 1, none⟩)) rfl rfl rfl rfl ?_
      refine r_v (Value.int .i64 (r11.2.2)) rfl rfl rfl rfl ?_
      replace hM := bind_sm hM; obtain ⟨r17, hr18, hM⟩ := hM
      replace hM := ck_some hM; obtain ⟨ck19, hM⟩ := hM
      refine r_gm (Ls := [[(br, 55, #[r_0v, Value.int .i64 (r_1), Value.int .i64 (r_2)])], Sr_0]) (FL := [[(br, 55, #[r_0v, Value.int .i64 (r_1), Value.int .i64 (r_2)])], Sr_0]) (RL := []) [0, 1] (oI 5 encY r_0v r17.1 (oE (Value.tuple #[]) [[(br, 55, #[r_0v, Value.int .i64 (r17.2.1), Value.int .i64 (r17.2.2)])]])) (some 34) 23 _ rfl rfl rfl rfl rfl (ev_callF rfl call_23 rfl) (fun own_ nw_ hn_ hs_ => wire_spot_fail_v2_g N r_0 r_1 r_2 r11.2.2 _ hr18 _ br r_0v Sr_0 hr_0) (fun _ _ v_ L_ U_ => ⟨fun h_ => h_ _ hr18, fun h_ => by intro _ e_; cases Option.some.inj (e_.symm.trans hr18); exact h_⟩) (fun h_ => nomatch h_) ?_
      rintro _ _ ⟨S20, _, H21, ⟨rfl, rfl⟩, rfl⟩
      refine lx_perm (Ls := [S20, [(br, 55, #[r_0v, Value.int .i64 (r17.2.1), Value.int .i64 (r17.2.2)])]]) (Ls' := [[(br, 55, #[r_0v, Value.int .i64 (r17.2.1), Value.int .i64 (r17.2.2)])], S20]) [1, 0] rfl rfl ?_
      refine lx_nil ?_
      refine hK16 _ _ ?_; try clear hK16 K16
      refine A_gen [(5, Value.int .i64 (0))] rfl (fun T => ?_)
      refine A_seq fun K22 hK22 => ?_
      refine A_reg ?_
      refine r_v (Value.int .i64 (0)) rfl rfl rfl rfl ?_
      refine r_v (Value.int .i64 (0)) rfl rfl rfl rfl ?_
      refine lx_nil ?_
      refine hK22 _ _ ?_; try clear hK22 K22
      obtain rfl := Option.some.inj hM
      refine A_ret (fun hn => endsO (v0 := Value.int .i64 (0)) (O := [S20, [(br, 55, #[r_0v, Value.int .i64 (r17.2.1), Value.int .i64 (r17.2.2)])]]) (res1 rfl) (Sub.pick [[(br, 55, #[r_0v, Value.int .i64 (r17.2.1), Value.int .i64 (r17.2.2)])], S20] [1, 0] rfl) ⟨S20, _, H21, ⟨rfl, rfl⟩, rfl⟩)
    · replace hM := ifn (bne_f hc15) hM
      refine A_skip ?_
      refine hK13 _ _ ?_; try clear hK13 K13
      refine A_seq fun K23 hK23 => ?_
      refine A_reg ?_
      refine r_v (Value.pointer (some ⟨br, 0, none⟩)) rfl rfl rfl rfl ?_
      refine r_v (Value.pointer (some ⟨br, 0, none⟩)) rfl rfl rfl rfl ?_
      refine r_v (Value.pointer (some ⟨br, 1, none⟩)) rfl rfl rfl rfl ?_
      refine r_v (Value.pointer (some ⟨br, 1, none⟩)) rfl rfl rfl rfl ?_
      refine r_l (Value.int .i64 (r_1)) 0 _ _ _ _ rfl rfl rfl rfl rfl ?_
      refine r_v (Value.int .i64 (r11.2.1)) rfl rfl rfl rfl ?_
      replace hM := ck_some hM; obtain ⟨ck24, hM⟩ := hM
      refine r_v (Value.int .i64 ((r_1 + r11.2.1))) rfl rfl (wi64 rfl ck24.1 ck24.2) rfl ?_
      refine r_v (Value.pointer (some ⟨br, 0, none⟩)) rfl rfl rfl rfl ?_
      refine r_v (Value.pointer (some ⟨br, 1, none⟩)) rfl rfl rfl rfl ?_
      refine r_v (Value.pointer (some ⟨br, 1, none⟩)) rfl rfl rfl rfl ?_
      refine r_s (List.flatten [[(br, 55, #[r_0v, Value.int .i64 ((r_1 + r11.2.1)), Value.int .i64 (r_2)])], Sr_0]) 0 _ _ _ (#[r_0v, Value.int .i64 (r_1), Value.int .i64 (r_2)]) (#[Value.int .i64 ((r_1 + r11.2.1))]) (#[r_0v, Value.int .i64 ((r_1 + r11.2.1)), Value.int .i64 (r_2)]) rfl rfl rfl rfl (.of rfl rfl) rfl rfl ?_
      refine lx_nil ?_
      refine hK23 _ _ ?_; try clear hK23 K23
      refine A_gen [(6, Value.int .i64 (r11.1))] rfl (fun T => ?_)
      refine A_seq fun K25 hK25 => ?_
      refine A_reg ?_
      refine r_v (Value.int .i64 (r11.1)) rfl rfl rfl rfl ?_
      refine r_v (Value.int .i64 (r11.1)) rfl rfl rfl rfl ?_
      refine lx_nil ?_
      refine hK25 _ _ ?_; try clear hK25 K25
      obtain rfl := Option.some.inj hM
      refine A_ret (fun hn => endsO (v0 := Value.int .i64 (r11.1)) (O := [Sr_0, [(br, 55, #[r_0v, Value.int .i64 ((r_1 + r11.2.1)), Value.int .i64 (r_2)])]]) (res1 rfl) (Sub.pick [[(br, 55, #[r_0v, Value.int .i64 ((r_1 + r11.2.1)), Value.int .i64 (r_2)])], Sr_0] [1, 0] rfl) ⟨Sr_0, _, hr_0, ⟨rfl, rfl⟩, rfl⟩)
def wire_Reader_number_v3_m (N : Nat) (r_0 : List UInt8) (r_1 : Int) (r_2 : Int) (count : Int) (most : Int) (e' : Int) : Option (Int × (List UInt8) × Int × Int) := (wire_take_int__v3_m N r_0 r_1 r_2 count most e').bind fun r6 => ck ((r6.2.1).length = (r_0).length) (some (r6.1, r6.2.1, r6.2.2.1, r6.2.2.2))
set_option maxRecDepth 100000 in
set_option maxHeartbeats 8000000 in
theorem wire_Reader_number_v3_g (N : Nat) (r_0 : List UInt8) (r_1 : Int) (r_2 : Int) (count : Int) (most : Int) (e' : Int) (r : Int × (List UInt8) × Int × Int) (hM : wire_Reader_number_v3_m N r_0 r_1 r_2 count most e' = some r) (ro : Addr → Option Value) (br : Nat) (r_0v : Value) (Sr_0 : List Bl) (hr_0 : Sl 5 encY r_0v r_0 Sr_0) : Does Tryd.prog 25 #[Value.pointer (some ⟨br, 0, none⟩), Value.int .i64 (count), Value.int .i64 (most), Value.int .i64 (e')] ro (List.flatten [[(br, 55, #[r_0v, Value.int .i64 (r_1), Value.int .i64 (r_2)])], Sr_0]) (pO (List.flatten [[(br, 55, #[r_0v, Value.int .i64 (r_1), Value.int .i64 (r_2)])], Sr_0]) (oI 5 encY r_0v r.2.1 (oE (Value.int .i64 (r.1)) [[(br, 55, #[r_0v, Value.int .i64 (r.2.2.1), Value.int .i64 (r.2.2.2)])]]))) := by
  unfold wire_Reader_number_v3_m at hM
  refine doesO_of_A follows Tryd.func25 rfl 12 rfl (upd (upd (upd (upd (fun _ => undef) 3 (Value.int .i64 (e'))) 2 (Value.int .i64 (most))) 1 (Value.int .i64 (count))) 0 (Value.pointer (some ⟨br, 0, none⟩))) (by funext k; match k with | 0 => rfl | 1 => rfl | 2 => rfl | 3 => rfl | k + 4 => rfl) (fun _ _ h_ _ => h_) (fun base0_ => ?_)
  refine A_seq fun K1 hK1 => ?_
  refine A_reg ?_
  refine r_a (3, #[Value.int .i64 (count)]) rfl rfl rfl (fun b2 => ?_) (.inr rfl)
  refine r_a (3, #[Value.int .i64 (most)]) rfl rfl rfl (fun b3 => ?_) (.inr rfl)
  refine r_a (26, #[Value.int .i64 (e')]) rfl rfl rfl (fun b4 => ?_) (.inr rfl)
  refine r_v (Value.int .i64 (0)) rfl rfl rfl rfl ?_
  refine lx_nil ?_
  refine hK1 _ _ ?_; try clear hK1 K1
  refine A_seq fun K5 hK5 => ?_
  refine A_regC [(some 11, true)] (conG Tryd.prog [(11, fun _ _ v_ L_ U_ => ∀ u0_, wire_take_int__v3_m N r_0 r_1 r_2 count most e' = some u0_ → (pO (List.flatten [[(br, 55, #[r_0v, Value.int .i64 (r_1), Value.int .i64 (r_2)])], Sr_0]) (oI 5 encY r_0v u0_.2.1 (oE (Value.int .i64 (u0_.1)) [[(br, 55, #[r_0v, Value.int .i64 (u0_.2.2.1), Value.int .i64 (u0_.2.2.2)])]]))) v_ L_ U_)]) ?_
  refine r_v (Value.pointer (some ⟨br, 0, none⟩)) rfl rfl rfl rfl ?_
  refine r_v (Value.func (.func 40) #[] #[Value.pointer (some ⟨b2, 0, none⟩), Value.pointer (some ⟨b3, 0, none⟩), Value.pointer (some ⟨b4, 0, none⟩)]) rfl rfl rfl (ev_mkF rfl) ?_
  replace hM := bind_sm hM; obtain ⟨r6, hr7, hM⟩ := hM
  replace hM := ck_some hM; obtain ⟨ck8, hM⟩ := hM
  refine r_gm (Ls := [[(b4, 26, #[Value.int .i64 (e')])], [(b3, 3, #[Value.int .i64 (most)])], [(b2, 3, #[Value.int .i64 (count)])], [(br, 55, #[r_0v, Value.int .i64 (r_1), Value.int .i64 (r_2)])], Sr_0]) (FL := [[(br, 55, #[r_0v, Value.int .i64 (r_1), Value.int .i64 (r_2)])], Sr_0]) (RL := [[(b4, 26, #[Value.int .i64 (e')])], [(b3, 3, #[Value.int .i64 (most)])], [(b2, 3, #[Value.int .i64 (count)])]]) [3, 4] (oI 5 encY r_0v r6.2.1 (oE (Value.int .i64 (r6.1)) [[(br, 55, #[r_0v, Value.int .i64 (r6.2.2.1), Value.int .i64 (r6.2.2.2)])]])) (some 11) 39 _ rfl rfl rfl rfl rfl (ev_callF rfl call_39 rfl) (fun own_ nw_ hn_ hs_ => wire_take_int__v3_g N r_0 r_1 r_2 count most e' _ hr7 _ br r_0v Sr_0 hr_0 b2 (blk_sans (Ls := [[(b4, 26, #[Value.int .i64 (e')])], [(b3, 3, #[Value.int .i64 (most)])], [(b2, 3, #[Value.int .i64 (count)])], [(br, 55, #[r_0v, Value.int .i64 (r_1), Value.int .i64 (r_2)])], Sr_0]) (is := [3, 4]) 2 rfl rfl hn_ hs_) b3 (blk_sans (Ls := [[(b4, 26, #[Value.int .i64 (e')])], [(b3, 3, #[Value.int .i64 (most)])], [(b2, 3, #[Value.int .i64 (count)])], [(br, 55, #[r_0v, Value.int .i64 (r_1), Value.int .i64 (r_2)])], Sr_0]) (is := [3, 4]) 1 rfl rfl hn_ hs_) b4 (blk_sans (Ls := [[(b4, 26, #[Value.int .i64 (e')])], [(b3, 3, #[Value.int .i64 (most)])], [(b2, 3, #[Value.int .i64 (count)])], [(br, 55, #[r_0v, Value.int .i64 (r_1), Value.int .i64 (r_2)])], Sr_0]) (is := [3, 4]) 0 rfl rfl hn_ hs_)) (fun _ _ v_ L_ U_ => ⟨fun h_ => h_ _ hr7, fun h_ => by intro _ e_; cases Option.some.inj (e_.symm.trans hr7); exact h_⟩) (fun h_ => nomatch h_) ?_
  rintro _ _ ⟨S9, _, H10, ⟨rfl, rfl⟩, rfl⟩
  refine lx_perm (Ls := [[(b4, 26, #[Value.int .i64 (e')])], [(b3, 3, #[Value.int .i64 (most)])], [(b2, 3, #[Value.int .i64 (count)])], S9, [(br, 55, #[r_0v, Value.int .i64 (r6.2.2.1), Value.int .i64 (r6.2.2.2)])]]) (Ls' := [[(b4, 26, #[Value.int .i64 (e')])], [(b3, 3, #[Value.int .i64 (most)])], [(b2, 3, #[Value.int .i64 (count)])], [(br, 55, #[r_0v, Value.int .i64 (r6.2.2.1), Value.int .i64 (r6.2.2.2)])], S9]) [0, 1, 2, 4, 3] rfl rfl ?_
  refine r_v (Value.int .i64 (r6.1)) rfl rfl rfl rfl ?_
  refine lx_nil ?_
  refine hK5 _ _ ?_; try clear hK5 K5
  obtain rfl := Option.some.inj hM
  refine A_ret (fun hn => endsO (v0 := Value.int .i64 (r6.1)) (O := [S9, [(br, 55, #[r_0v, Value.int .i64 (r6.2.2.1), Value.int .i64 (r6.2.2.2)])]]) (res1 rfl) (Sub.pick [[(b4, 26, #[Value.int .i64 (e')])], [(b3, 3, #[Value.int .i64 (most)])], [(b2, 3, #[Value.int .i64 (count)])], [(br, 55, #[r_0v, Value.int .i64 (r6.2.2.1), Value.int .i64 (r6.2.2.2)])], S9] [4, 3] rfl) ⟨S9, _, H10, ⟨rfl, rfl⟩, rfl⟩)
def wire_Reader_Byte_v2_m (N : Nat) (r_0 : List UInt8) (r_1 : Int) (r_2 : Int) (most : Int) : Option (Int × (List UInt8) × Int × Int) := (wire_Reader_number_v3_m N r_0 r_1 r_2 1 most 7).bind fun r3 => ck ((r3.2.1).length = (r_0).length) (some (r3.1, r3.2.1, r3.2.2.1, r3.2.2.2))
set_option maxRecDepth 100000 in
set_option maxHeartbeats 8000000 in
theorem wire_Reader_Byte_v2_g (N : Nat) (r_0 : List UInt8) (r_1 : Int) (r_2 : Int) (most : Int) (r : Int × (List UInt8) × Int × Int) (hM : wire_Reader_Byte_v2_m N r_0 r_1 r_2 most = some r) (ro : Addr → Option Value) (br : Nat) (r_0v : Value) (Sr_0 : List Bl) (hr_0 : Sl 5 encY r_0v r_0 Sr_0) : Does Tryd.prog 9 #[Value.pointer (some ⟨br, 0, none⟩), Value.int .i64 (most)] ro (List.flatten [[(br, 55, #[r_0v, Value.int .i64 (r_1), Value.int .i64 (r_2)])], Sr_0]) (pO (List.flatten [[(br, 55, #[r_0v, Value.int .i64 (r_1), Value.int .i64 (r_2)])], Sr_0]) (oI 5 encY r_0v r.2.1 (oE (Value.int .i64 (r.1)) [[(br, 55, #[r_0v, Value.int .i64 (r.2.2.1), Value.int .i64 (r.2.2.2)])]]))) := by
  unfold wire_Reader_Byte_v2_m at hM
  refine doesO_of_A follows Tryd.func9 rfl 8 rfl (upd (upd (fun _ => undef) 1 (Value.int .i64 (most))) 0 (Value.pointer (some ⟨br, 0, none⟩))) (by funext k; match k with | 0 => rfl | 1 => rfl | k + 2 => rfl) (fun _ _ h_ _ => h_) (fun base0_ => ?_)
  refine A_seq fun K1 hK1 => ?_
  refine A_reg ?_
  refine r_v (Value.int .i64 (0)) rfl rfl rfl rfl ?_
  refine lx_nil ?_
  refine hK1 _ _ ?_; try clear hK1 K1
  refine A_seq fun K2 hK2 => ?_
  refine A_regC [(some 7, true)] (conG Tryd.prog [(7, fun _ _ v_ L_ U_ => ∀ u0_, wire_Reader_number_v3_m N r_0 r_1 r_2 1 most 7 = some u0_ → (pO (List.flatten [[(br, 55, #[r_0v, Value.int .i64 (r_1), Value.int .i64 (r_2)])], Sr_0]) (oI 5 encY r_0v u0_.2.1 (oE (Value.int .i64 (u0_.1)) [[(br, 55, #[r_0v, Value.int .i64 (u0_.2.2.1), Value.int .i64 (u0_.2.2.2)])]]))) v_ L_ U_)]) ?_
  refine r_v (Value.pointer (some ⟨br, 0, none⟩)) rfl rfl rfl rfl ?_
  refine r_v (Value.int .i64 (most)) rfl rfl rfl rfl ?_
  replace hM := bind_sm hM; obtain ⟨r3, hr4, hM⟩ := hM
  replace hM := ck_some hM; obtain ⟨ck5, hM⟩ := hM
  refine r_gm (Ls := [[(br, 55, #[r_0v, Value.int .i64 (r_1), Value.int .i64 (r_2)])], Sr_0]) (FL := [[(br, 55, #[r_0v, Value.int .i64 (r_1), Value.int .i64 (r_2)])], Sr_0]) (RL := []) [0, 1] (oI 5 encY r_0v r3.2.1 (oE (Value.int .i64 (r3.1)) [[(br, 55, #[r_0v, Value.int .i64 (r3.2.2.1), Value.int .i64 (r3.2.2.2)])]])) (some 7) 25 _ rfl rfl rfl rfl rfl (ev_callF rfl call_25 rfl) (fun own_ nw_ hn_ hs_ => wire_Reader_number_v3_g N r_0 r_1 r_2 1 most 7 _ hr4 _ br r_0v Sr_0 hr_0) (fun _ _ v_ L_ U_ => ⟨fun h_ => h_ _ hr4, fun h_ => by intro _ e_; cases Option.some.inj (e_.symm.trans hr4); exact h_⟩) (fun h_ => nomatch h_) ?_
  rintro _ _ ⟨S6, _, H7, ⟨rfl, rfl⟩, rfl⟩
  refine lx_perm (Ls := [S6, [(br, 55, #[r_0v, Value.int .i64 (r3.2.2.1), Value.int .i64 (r3.2.2.2)])]]) (Ls' := [[(br, 55, #[r_0v, Value.int .i64 (r3.2.2.1), Value.int .i64 (r3.2.2.2)])], S6]) [1, 0] rfl rfl ?_
  refine r_v (Value.int .i64 (r3.1)) rfl rfl rfl rfl ?_
  refine lx_nil ?_
  refine hK2 _ _ ?_; try clear hK2 K2
  obtain rfl := Option.some.inj hM
  refine A_ret (fun hn => endsO (v0 := Value.int .i64 (r3.1)) (O := [S6, [(br, 55, #[r_0v, Value.int .i64 (r3.2.2.1), Value.int .i64 (r3.2.2.2)])]]) (res1 rfl) (Sub.pick [[(br, 55, #[r_0v, Value.int .i64 (r3.2.2.1), Value.int .i64 (r3.2.2.2)])], S6] [1, 0] rfl) ⟨S6, _, H7, ⟨rfl, rfl⟩, rfl⟩)
def wire_Reader_At_v2_m (_ : Nat) (_ : List UInt8) (r_1 : Int) (_ : Int) : Option (Int) := some (r_1)
set_option maxRecDepth 100000 in
set_option maxHeartbeats 8000000 in
theorem wire_Reader_At_v2_g (N : Nat) (r_0 : List UInt8) (r_1 : Int) (r_2 : Int) (r : Int) (hM : wire_Reader_At_v2_m N r_0 r_1 r_2 = some r) (ro : Addr → Option Value) (br : Nat) (r_0v : Value) (_hr_0 : Rd encY ro r_0v r_0) (hbr : Blk ro br [r_0v, Value.int .i64 (r_1), Value.int .i64 (r_2)]) : Does Tryd.prog 16 #[Value.pointer (some ⟨br, 0, none⟩)] ro [] (pV (Value.int .i64 (r))) := by
  unfold wire_Reader_At_v2_m at hM
  refine does_of_A follows Tryd.func16 rfl 10 rfl (upd (fun _ => undef) 0 (Value.pointer (some ⟨br, 0, none⟩))) (by funext k; match k with | 0 => rfl | k + 1 => rfl) (fun base0_ => ?_)
  refine A_seq fun K1 hK1 => ?_
  refine A_reg ?_
  refine r_v (Value.int .i64 (0)) rfl rfl rfl rfl ?_
  refine lx_nil ?_
  refine hK1 _ _ ?_; try clear hK1 K1
  refine A_seq fun K2 hK2 => ?_
  refine A_seq fun K3 hK3 => ?_
  refine A_reg ?_
  refine r_v (Value.pointer (some ⟨br, 0, none⟩)) rfl rfl rfl rfl ?_
  refine r_v (Value.bool (false)) rfl rfl rfl rfl ?_
  refine lx_nil ?_
  refine hK3 _ _ ?_; try clear hK3 K3
  refine A_cond false rfl (fun h_ => nomatch h_) (fun _ => ?_)
  refine A_skip ?_
  refine hK2 _ _ ?_; try clear hK2 K2
  refine A_seq fun K4 hK4 => ?_
  refine A_reg ?_
  refine r_v (Value.pointer (some ⟨br, 0, none⟩)) rfl rfl rfl rfl ?_
  refine r_v (Value.pointer (some ⟨br, 0, none⟩)) rfl rfl rfl rfl ?_
  refine r_v (Value.pointer (some ⟨br, 1, none⟩)) rfl rfl rfl rfl ?_
  refine r_v (Value.pointer (some ⟨br, 1, none⟩)) rfl rfl rfl rfl ?_
  refine r_lb (Value.int .i64 (r_1)) (vs := [r_0v, Value.int .i64 (r_1), Value.int .i64 (r_2)]) (o := 1) rfl rfl (blk_ro hbr) rfl ?_
  refine r_v (Value.int .i64 (r_1)) rfl rfl rfl rfl ?_
  refine lx_nil ?_
  refine hK4 _ _ ?_; try clear hK4 K4
  obtain rfl := Option.some.inj hM
  refine A_ret (fun hn => endsV (v0 := Value.int .i64 (r_1)) rfl (res1 rfl))
def wire_Reader_Fail_v2_m (N : Nat) (r_0 : List UInt8) (r_1 : Int) (r_2 : Int) (e' : Int) : Option ((List UInt8) × Int × Int) := (wire_spot_fail_v2_m N r_0 r_1 r_2 e').bind fun r2 => ck ((r2.1).length = (r_0).length) (some (r2.1, r2.2.1, r2.2.2))
set_option maxRecDepth 100000 in
set_option maxHeartbeats 8000000 in
theorem wire_Reader_Fail_v2_g (N : Nat) (r_0 : List UInt8) (r_1 : Int) (r_2 : Int) (e' : Int) (r : (List UInt8) × Int × Int) (hM : wire_Reader_Fail_v2_m N r_0 r_1 r_2 e' = some r) (ro : Addr → Option Value) (br : Nat) (r_0v : Value) (Sr_0 : List Bl) (hr_0 : Sl 5 encY r_0v r_0 Sr_0) : Does Tryd.prog 5 #[Value.pointer (some ⟨br, 0, none⟩), Value.int .i64 (e')] ro (List.flatten [[(br, 55, #[r_0v, Value.int .i64 (r_1), Value.int .i64 (r_2)])], Sr_0]) (pO (List.flatten [[(br, 55, #[r_0v, Value.int .i64 (r_1), Value.int .i64 (r_2)])], Sr_0]) (oI 5 encY r_0v r.1 (oE (Value.tuple #[]) [[(br, 55, #[r_0v, Value.int .i64 (r.2.1), Value.int .i64 (r.2.2)])]]))) := by
  unfold wire_Reader_Fail_v2_m at hM
  refine doesO_of_A follows Tryd.func5 rfl 11 rfl (upd (upd (fun _ => undef) 1 (Value.int .i64 (e'))) 0 (Value.pointer (some ⟨br, 0, none⟩))) (by funext k; match k with | 0 => rfl | 1 => rfl | k + 2 => rfl) (fun _ _ h_ _ => h_) (fun base0_ => ?_)
  refine A_seq fun K1 hK1 => ?_
  refine A_reg ?_
  refine r_v (Value.pointer (some ⟨br, 0, none⟩)) rfl rfl rfl rfl ?_
  refine r_v (Value.bool (true)) rfl rfl rfl rfl ?_
  refine lx_nil ?_
  refine hK1 _ _ ?_; try clear hK1 K1
  refine A_cond true rfl (fun _ => ?_) (fun h_ => nomatch h_)
  refine A_regC [(some 10, true)] (conG Tryd.prog [(10, fun _ _ v_ L_ U_ => ∀ u0_, wire_spot_fail_v2_m N r_0 r_1 r_2 e' = some u0_ → (pO (List.flatten [[(br, 55, #[r_0v, Value.int .i64 (r_1), Value.int .i64 (r_2)])], Sr_0]) (oI 5 encY r_0v u0_.1 (oE (Value.tuple #[]) [[(br, 55, #[r_0v, Value.int .i64 (u0_.2.1), Value.int .i64 (u0_.2.2)])]]))) v_ L_ U_)]) ?_
  refine r_v (Value.pointer (some ⟨br, 0, none⟩)) rfl rfl rfl rfl ?_
  refine r_v (Value.pointer (some ⟨br, 0, none⟩)) rfl rfl rfl rfl ?_
  refine r_v (Value.pointer (some ⟨br, 1, none⟩)) rfl rfl rfl rfl ?_
  refine r_v (Value.int .i64 (e')) rfl rfl rfl rfl ?_
  replace hM := bind_sm hM; obtain ⟨r2, hr3, hM⟩ := hM
  replace hM := ck_some hM; obtain ⟨ck4, hM⟩ := hM
  refine r_gm (Ls := [[(br, 55, #[r_0v, Value.int .i64 (r_1), Value.int .i64 (r_2)])], Sr_0]) (FL := [[(br, 55, #[r_0v, Value.int .i64 (r_1), Value.int .i64 (r_2)])], Sr_0]) (RL := []) [0, 1] (oI 5 encY r_0v r2.1 (oE (Value.tuple #[]) [[(br, 55, #[r_0v, Value.int .i64 (r2.2.1), Value.int .i64 (r2.2.2)])]])) (some 10) 23 _ rfl rfl rfl rfl rfl (ev_callF rfl call_23 rfl) (fun own_ nw_ hn_ hs_ => wire_spot_fail_v2_g N r_0 r_1 r_2 e' _ hr3 _ br r_0v Sr_0 hr_0) (fun _ _ v_ L_ U_ => ⟨fun h_ => h_ _ hr3, fun h_ => by intro _ e_; cases Option.some.inj (e_.symm.trans hr3); exact h_⟩) (fun h_ => nomatch h_) ?_
  rintro _ _ ⟨S5, _, H6, ⟨rfl, rfl⟩, rfl⟩
  refine lx_perm (Ls := [S5, [(br, 55, #[r_0v, Value.int .i64 (r2.2.1), Value.int .i64 (r2.2.2)])]]) (Ls' := [[(br, 55, #[r_0v, Value.int .i64 (r2.2.1), Value.int .i64 (r2.2.2)])], S5]) [1, 0] rfl rfl ?_
  refine lx_nil ?_
  obtain rfl := Option.some.inj hM
  refine endsN (v0 := Value.tuple #[]) (O := [S5, [(br, 55, #[r_0v, Value.int .i64 (r2.2.1), Value.int .i64 (r2.2.2)])]]) rfl (Sub.pick [[(br, 55, #[r_0v, Value.int .i64 (r2.2.1), Value.int .i64 (r2.2.2)])], S5] [1, 0] rfl) ⟨S5, _, H6, ⟨rfl, rfl⟩, rfl⟩
def wire_Reader_Left_v2_m (_ : Nat) (r_0 : List UInt8) (r_1 : Int) (_ : Int) : Option (Int) := ck ((-9223372036854775808 ≤ (((r_0).length : Int) - r_1) ∧ (((r_0).length : Int) - r_1) ≤ 9223372036854775807)) (some ((((r_0).length : Int) - r_1)))
set_option maxRecDepth 100000 in
set_option maxHeartbeats 8000000 in
theorem wire_Reader_Left_v2_g (N : Nat) (r_0 : List UInt8) (r_1 : Int) (r_2 : Int) (r : Int) (hM : wire_Reader_Left_v2_m N r_0 r_1 r_2 = some r) (ro : Addr → Option Value) (br : Nat) (r_0v : Value) (hr_0 : Rd encY ro r_0v r_0) (hbr : Blk ro br [r_0v, Value.int .i64 (r_1), Value.int .i64 (r_2)]) : Does Tryd.prog 17 #[Value.pointer (some ⟨br, 0, none⟩)] ro [] (pV (Value.int .i64 (r))) := by
  unfold wire_Reader_Left_v2_m at hM
  refine does_of_A follows Tryd.func17 rfl 16 rfl (upd (fun _ => undef) 0 (Value.pointer (some ⟨br, 0, none⟩))) (by funext k; match k with | 0 => rfl | k + 1 => rfl) (fun base0_ => ?_)
  refine A_seq fun K1 hK1 => ?_
  refine A_reg ?_
  refine r_v (Value.int .i64 (0)) rfl rfl rfl rfl ?_
  refine lx_nil ?_
  refine hK1 _ _ ?_; try clear hK1 K1
  refine A_seq fun K2 hK2 => ?_
  refine A_seq fun K3 hK3 => ?_
  refine A_reg ?_
  refine r_v (Value.pointer (some ⟨br, 0, none⟩)) rfl rfl rfl rfl ?_
  refine r_v (Value.bool (false)) rfl rfl rfl rfl ?_
  refine lx_nil ?_
  refine hK3 _ _ ?_; try clear hK3 K3
  refine A_cond false rfl (fun h_ => nomatch h_) (fun _ => ?_)
  refine A_skip ?_
  refine hK2 _ _ ?_; try clear hK2 K2
  refine A_seq fun K4 hK4 => ?_
  refine A_draw [] (by decide +kernel) (fun hn => sep_nil) ?_
  refine r_v (Value.pointer (some ⟨br, 0, none⟩)) rfl rfl rfl rfl ?_
  refine r_v (Value.pointer (some ⟨br, 0, none⟩)) rfl rfl rfl rfl ?_
  refine r_v (Value.pointer (some ⟨br, 0, none⟩)) rfl rfl rfl rfl ?_
  refine r_lb (r_0v) (vs := [r_0v, Value.int .i64 (r_1), Value.int .i64 (r_2)]) (o := 0) rfl rfl (blk_ro hbr) rfl ?_
  refine r_v (Value.int .i64 (((r_0).length : Int))) rfl rfl rfl (ev_lenSl rfl rfl rfl (Rd.shp hr_0)) ?_
  refine r_v (Value.pointer (some ⟨br, 0, none⟩)) rfl rfl rfl rfl ?_
  refine r_v (Value.pointer (some ⟨br, 0, none⟩)) rfl rfl rfl rfl ?_
  refine r_v (Value.pointer (some ⟨br, 1, none⟩)) rfl rfl rfl rfl ?_
  refine r_v (Value.pointer (some ⟨br, 1, none⟩)) rfl rfl rfl rfl ?_
  refine r_lb (Value.int .i64 (r_1)) (vs := [r_0v, Value.int .i64 (r_1), Value.int .i64 (r_2)]) (o := 1) rfl rfl (blk_ro hbr) rfl ?_
  replace hM := ck_some hM; obtain ⟨ck5, hM⟩ := hM
  refine r_v (Value.int .i64 ((((r_0).length : Int) - r_1))) rfl rfl (wi64 rfl ck5.1 ck5.2) rfl ?_
  refine r_v (Value.int .i64 ((((r_0).length : Int) - r_1))) rfl rfl rfl rfl ?_
  refine lx_nil ?_
  refine hK4 _ _ ?_; try clear hK4 K4
  obtain rfl := Option.some.inj hM
  refine A_ret (fun hn => endsV (v0 := Value.int .i64 ((((r_0).length : Int) - r_1))) rfl (res1 rfl))
def wire_Reader_End_v2_m (N : Nat) (r_0 : List UInt8) (r_1 : Int) (r_2 : Int) : Option (Sum30) := if (r_2 : Int) ≠ 0 then some ((.t44 r_2 r_1)) else (wire_Reader_Left_v2_m N r_0 r_1 r_2).bind fun r9 => if (r9 : Int) > 0 then some ((.t44 2 r_1)) else some (.nil)
set_option maxRecDepth 100000 in
set_option maxHeartbeats 8000000 in
theorem wire_Reader_End_v2_g (N : Nat) (r_0 : List UInt8) (r_1 : Int) (r_2 : Int) (r : Sum30) (hM : wire_Reader_End_v2_m N r_0 r_1 r_2 = some r) (ro : Addr → Option Value) (br : Nat) (r_0v : Value) (hr_0 : Rd encY ro r_0v r_0) (hbr : Blk ro br [r_0v, Value.int .i64 (r_1), Value.int .i64 (r_2)]) : Does Tryd.prog 8 #[Value.pointer (some ⟨br, 0, none⟩)] ro [] (pO [] (Sum30.onP r (oE (Value.nilIface) []) (fun y0_0 y0_1 => (oB 48 #[Value.int .i64 (y0_0), Value.int .i64 (y0_1)] fun bs_0 => (oE (Value.iface 44 (Value.pointer (some ⟨bs_0, 0, none⟩))) []))))) := by
  unfold wire_Reader_End_v2_m at hM
  refine doesO_of_A follows Tryd.func8 rfl 41 rfl (upd (fun _ => undef) 0 (Value.pointer (some ⟨br, 0, none⟩))) (by funext k; match k with | 0 => rfl | k + 1 => rfl) (fun _ _ h_ _ => h_) (fun base0_ => ?_)
  refine A_seq fun K1 hK1 => ?_
  refine A_reg ?_
  refine r_v (Value.nilIface) rfl rfl rfl rfl ?_
  refine lx_nil ?_
  refine hK1 _ _ ?_; try clear hK1 K1
  refine A_seq fun K2 hK2 => ?_
  refine A_block ?_
  refine A_seq fun K3 hK3 => ?_
  refine A_reg ?_
  refine r_v (Value.pointer (some ⟨br, 0, none⟩)) rfl rfl rfl rfl ?_
  refine r_v (Value.bool (false)) rfl rfl rfl rfl ?_
  refine r_v (Value.bool (false)) rfl rfl rfl rfl ?_
  refine lx_nil ?_
  refine hK3 _ _ ?_; try clear hK3 K3
  refine A_cond false rfl (fun h_ => nomatch h_) (fun _ => ?_)
  refine A_seq fun K4 hK4 => ?_
  refine A_reg ?_
  refine r_v (Value.pointer (some ⟨br, 0, none⟩)) rfl rfl rfl rfl ?_
  refine r_v (Value.pointer (some ⟨br, 0, none⟩)) rfl rfl rfl rfl ?_
  refine r_v (Value.pointer (some ⟨br, 1, none⟩)) rfl rfl rfl rfl ?_
  refine r_v (Value.pointer (some ⟨br, 2, none⟩)) rfl rfl rfl rfl ?_
  refine r_lb (Value.int .i64 (r_2)) (vs := [r_0v, Value.int .i64 (r_1), Value.int .i64 (r_2)]) (o := 2) rfl rfl (blk_ro hbr) rfl ?_
  refine r_v (Value.bool (((r_2 : Int) != 0))) rfl rfl rfl rfl ?_
  refine r_v (Value.bool (((r_2 : Int) != 0))) rfl rfl rfl rfl ?_
  refine lx_nil ?_
  refine hK4 _ _ ?_; try clear hK4 K4
  refine A_cond (((r_2 : Int) != 0)) rfl (fun hc5 => ?_) (fun hc5 => ?_)
  · replace hM := ifp (bne_iff_ne.1 hc5) hM
    refine A_seq fun K6 hK6 => ?_
    refine A_draw [] (by decide +kernel) (fun hn => sep_nil) ?_
    refine r_v (Value.pointer (some ⟨br, 0, none⟩)) rfl rfl rfl rfl ?_
    refine r_v (Value.pointer (some ⟨br, 0, none⟩)) rfl rfl rfl rfl ?_
    refine r_v (Value.pointer (some ⟨br, 1, none⟩)) rfl rfl rfl rfl ?_
    refine r_v (Value.pointer (some ⟨br, 2, none⟩)) rfl rfl rfl rfl ?_
    refine r_lb (Value.int .i64 (r_2)) (vs := [r_0v, Value.int .i64 (r_1), Value.int .i64 (r_2)]) (o := 2) rfl rfl (blk_ro hbr) rfl ?_
    refine r_v (Value.pointer (some ⟨br, 0, none⟩)) rfl rfl rfl rfl ?_
    refine r_v (Value.pointer (some ⟨br, 0, none⟩)) rfl rfl rfl rfl ?_
    refine r_v (Value.pointer (some ⟨br, 1, none⟩)) rfl rfl rfl rfl ?_
    refine r_v (Value.pointer (some ⟨br, 1, none⟩)) rfl rfl rfl rfl ?_
    refine r_lb (Value.int .i64 (r_1)) (vs := [r_0v, Value.int .i64 (r_1), Value.int .i64 (r_2)]) (o := 1) rfl rfl (blk_ro hbr) rfl ?_
    refine r_v (Value.agg #[Value.int .i64 (r_2), Value.int .i64 (r_1)]) rfl rfl rfl (ev_buildS rfl rfl rfl rfl) ?_
    refine r_a (48, #[Value.int .i64 (r_2), Value.int .i64 (r_1)]) rfl rfl rfl (fun b7 => ?_) (.inl rfl)
    refine r_v (Value.iface 44 (Value.pointer (some ⟨b7, 0, none⟩))) rfl rfl rfl rfl ?_
    refine r_v (Value.iface 44 (Value.pointer (some ⟨b7, 0, none⟩))) rfl rfl rfl rfl ?_
    refine lx_nil ?_
    refine hK6 _ _ ?_; try clear hK6 K6
    obtain rfl := Option.some.inj hM
    refine A_ret (fun hn => endsO (v0 := Value.iface 44 (Value.pointer (some ⟨b7, 0, none⟩))) (O := [[(b7, 48, #[Value.int .i64 (r_2), Value.int .i64 (r_1)])]]) (res1 rfl) (Sub.pick [[(b7, 48, #[Value.int .i64 (r_2), Value.int .i64 (r_1)])]] [0] rfl) ⟨b7, _, ⟨rfl, rfl⟩, rfl⟩)
  · replace hM := ifn (bne_f hc5) hM
    refine A_seq fun K8 hK8 => ?_
    refine A_regC [(some 31, false)] (conG Tryd.prog [(31, fun _ _ v_ L_ U_ => ∀ u0_, wire_Reader_Left_v2_m N r_0 r_1 r_2 = some u0_ → (pV (Value.int .i64 (u0_))) v_ L_ U_)]) ?_
    refine r_v (Value.pointer (some ⟨br, 0, none⟩)) rfl rfl rfl rfl ?_
    replace hM := bind_sm hM; obtain ⟨r9, hr10, hM⟩ := hM
    refine r_gv (Value.int .i64 (r9)) 17 _ rfl rfl rfl (ev_callF rfl call_17 rfl) (fun own_ nw_ hs_ => wire_Reader_Left_v2_g N r_0 r_1 r_2 _ hr10 hs_.view br r_0v ((rd_ro hr_0) own_ nw_ hs_) (blk_ro hbr own_ nw_ hs_)) (fun _ _ v_ L_ U_ => ⟨fun h_ => h_ _ hr10, fun h_ => by intro _ e_; cases Option.some.inj (e_.symm.trans hr10); exact h_⟩) ?_
    refine r_v (Value.bool (decide ((r9 : Int) > 0))) rfl rfl rfl rfl ?_
    refine r_v (Value.bool (decide ((r9 : Int) > 0))) rfl rfl rfl rfl ?_
    refine lx_nil ?_
    refine hK8 _ _ ?_; try clear hK8 K8
    refine A_cond (decide ((r9 : Int) > 0)) rfl (fun hc11 => ?_) (fun hc11 => ?_)
    · replace hM := ifp (of_decide_eq_true hc11) hM
      refine A_seq fun K12 hK12 => ?_
      refine A_reg ?_
      refine r_v (Value.pointer (some ⟨br, 0, none⟩)) rfl rfl rfl rfl ?_
      refine r_v (Value.pointer (some ⟨br, 0, none⟩)) rfl rfl rfl rfl ?_
      refine r_v (Value.pointer (some ⟨br, 1, none⟩)) rfl rfl rfl rfl ?_
      refine r_v (Value.pointer (some ⟨br, 1, none⟩)) rfl rfl rfl rfl ?_
      refine r_lb (Value.int .i64 (r_1)) (vs := [r_0v, Value.int .i64 (r_1), Value.int .i64 (r_2)]) (o := 1) rfl rfl (blk_ro hbr) rfl ?_
      refine r_v (Value.agg #[Value.int .i64 (2), Value.int .i64 (r_1)]) rfl rfl rfl (ev_buildS rfl rfl rfl rfl) ?_
      refine r_a (48, #[Value.int .i64 (2), Value.int .i64 (r_1)]) rfl rfl rfl (fun b13 => ?_) (.inr rfl)
      refine r_v (Value.iface 44 (Value.pointer (some ⟨b13, 0, none⟩))) rfl rfl rfl rfl ?_
      refine r_v (Value.iface 44 (Value.pointer (some ⟨b13, 0, none⟩))) rfl rfl rfl rfl ?_
      refine lx_nil ?_
      refine hK12 _ _ ?_; try clear hK12 K12
      obtain rfl := Option.some.inj hM
      refine A_ret (fun hn => endsO (v0 := Value.iface 44 (Value.pointer (some ⟨b13, 0, none⟩))) (O := [[(b13, 48, #[Value.int .i64 (2), Value.int .i64 (r_1)])]]) (res1 rfl) (Sub.pick [[(b13, 48, #[Value.int .i64 (2), Value.int .i64 (r_1)])]] [0] rfl) ⟨b13, _, ⟨rfl, rfl⟩, rfl⟩)
    · replace hM := ifn (of_decide_eq_false hc11) hM
      refine A_skip ?_
      refine hK2 _ _ ?_; try clear hK2 K2
      refine A_seq fun K14 hK14 => ?_
      refine A_reg ?_
      refine r_v (Value.nilIface) rfl rfl rfl rfl ?_
      refine lx_nil ?_
      refine hK14 _ _ ?_; try clear hK14 K14
      obtain rfl := Option.some.inj hM
      refine A_ret (fun hn => endsO (v0 := Value.nilIface) (O := []) (res1 rfl) (Sub.nil _) ⟨rfl, rfl⟩)
end Go.Proofs.YtdgejbbelmhbdaaDoor
