/- models of functions and their walks -/
import Derived.Test.YtomcfndpnnjihaaDoorVb
namespace Go.Proofs.YtomcfndpnnjihaaDoor
open Go Go.RowKit Go.Eng
def shunterref02_One_k21 (out7_ : List Bool) (i9_ : Int) (rec_shunterref02_One_l10 : List Bool → Bool → Int → Option (Int × (BitVec 128) × Int)) (carry15_ : Bool) (bit20_ : Bool) : Option (Int × (BitVec 128) × Int) := ck ((out7_).length + ([bit20_]).length ≤ 140737488355328) (ck ((-9223372036854775808 ≤ (i9_ + 1) ∧ (i9_ + 1) ≤ 9223372036854775807)) (rec_shunterref02_One_l10 ((out7_ ++ ([bit20_]))) (carry15_) ((i9_ + 1))))
def shunterref02_One_k19 (op : List UInt8) (n : Int) (r11 : List Bool) (w5_ : Int) (out7_ : List Bool) (i9_ : Int) (rec_shunterref02_One_l10 : List Bool → Bool → Int → Option (Int × (BitVec 128) × Int)) (carry15_ : Bool) (bit18_ : Bool) : Option (Int × (BitVec 128) × Int) := if (op) = (([115, 104, 114] : List UInt8)) then ck ((-9223372036854775808 ≤ (w5_ - i9_) ∧ (w5_ - i9_) ≤ 9223372036854775807)) (if (n : Int) < (w5_ - i9_) then ck ((-9223372036854775808 ≤ (i9_ + min (n) (w5_)) ∧ (i9_ + min (n) (w5_)) ≤ 9223372036854775807)) (ck ((-9223372036854775808 ≤ (w5_ - 1) ∧ (w5_ - 1) ≤ 9223372036854775807)) (ck (0 ≤ min ((i9_ + min (n) (w5_))) ((w5_ - 1)) ∧ min ((i9_ + min (n) (w5_))) ((w5_ - 1)) < ((r11).length : Int)) (shunterref02_One_k21 out7_ i9_ rec_shunterref02_One_l10 carry15_ ((r11)[(min ((i9_ + min (n) (w5_))) ((w5_ - 1))).toNat]!)))) else shunterref02_One_k21 out7_ i9_ rec_shunterref02_One_l10 carry15_ (false)) else shunterref02_One_k21 out7_ i9_ rec_shunterref02_One_l10 carry15_ (bit18_)
def shunterref02_One_k17 (op : List UInt8) (n : Int) (r11 : List Bool) (w5_ : Int) (out7_ : List Bool) (i9_ : Int) (rec_shunterref02_One_l10 : List Bool → Bool → Int → Option (Int × (BitVec 128) × Int)) (carry15_ : Bool) (bit16_ : Bool) : Option (Int × (BitVec 128) × Int) := if (op) = (([115, 104, 108] : List UInt8)) then if (n : Int) ≤ i9_ then ck ((-9223372036854775808 ≤ (i9_ - min (n) (i9_)) ∧ (i9_ - min (n) (i9_)) ≤ 9223372036854775807)) (ck (0 ≤ (i9_ - min (n) (i9_)) ∧ (i9_ - min (n) (i9_)) < ((r11).length : Int)) (shunterref02_One_k19 op n r11 w5_ out7_ i9_ rec_shunterref02_One_l10 carry15_ ((r11)[((i9_ - min (n) (i9_))).toNat]!))) else shunterref02_One_k19 op n r11 w5_ out7_ i9_ rec_shunterref02_One_l10 carry15_ (false) else shunterref02_One_k19 op n r11 w5_ out7_ i9_ rec_shunterref02_One_l10 carry15_ (bit16_)
def shunterref02_One_k14 (op : List UInt8) (n : Int) (r11 : List Bool) (w5_ : Int) (out7_ : List Bool) (carry8_ : Bool) (i9_ : Int) (rec_shunterref02_One_l10 : List Bool → Bool → Int → Option (Int × (BitVec 128) × Int)) (bit13_ : Bool) : Option (Int × (BitVec 128) × Int) := if (op) = (([110, 101, 103] : List UInt8)) then if (bit13_) = true then shunterref02_One_k17 op n r11 w5_ out7_ i9_ rec_shunterref02_One_l10 (false) ((false) != (carry8_)) else shunterref02_One_k17 op n r11 w5_ out7_ i9_ rec_shunterref02_One_l10 (carry8_) ((true) != (carry8_)) else shunterref02_One_k17 op n r11 w5_ out7_ i9_ rec_shunterref02_One_l10 (carry8_) (bit13_)
def shunterref02_One_k12 (op : List UInt8) (n : Int) (r11 : List Bool) (w5_ : Int) (out7_ : List Bool) (carry8_ : Bool) (i9_ : Int) (rec_shunterref02_One_l10 : List Bool → Bool → Int → Option (Int × (BitVec 128) × Int)) (bit11_ : Bool) : Option (Int × (BitVec 128) × Int) := if (op) = (([110, 111, 116] : List UInt8)) then shunterref02_One_k14 op n r11 w5_ out7_ carry8_ i9_ rec_shunterref02_One_l10 (!(bit11_)) else shunterref02_One_k14 op n r11 w5_ out7_ carry8_ i9_ rec_shunterref02_One_l10 (bit11_)
def shunterref02_One_l10 (N : Nat) (op : List UInt8) (n : Int) (r11 : List Bool) (w5_ : Int) : Nat → List Bool → Bool → Int → Option (Int × (BitVec 128) × Int)
  | 0, _, _, _ => none
  | n21 + 1, out7_, carry8_, i9_ => if (i9_ : Int) < w5_ then if (i9_ : Int) < ((r11).length : Int) then ck (0 ≤ i9_ ∧ i9_ < ((r11).length : Int)) (shunterref02_One_k12 op n r11 w5_ out7_ carry8_ i9_ (shunterref02_One_l10 N op n r11 w5_ n21) ((r11)[(i9_).toNat]!)) else shunterref02_One_k12 op n r11 w5_ out7_ carry8_ i9_ (shunterref02_One_l10 N op n r11 w5_ n21) (false) else (shunterref02_Of_m N out7_).bind fun r56 => some (r56.1, r56.2, 0)
def shunterref02_One_k6 (N : Nat) (op : List UInt8) (n : Int) (r11 : List Bool) (w5_ : Int) : Option (Int × (BitVec 128) × Int) := shunterref02_One_l10 N op n r11 w5_ N ([]) (true) (0)
def shunterref02_One_k4 (N : Nat) (op : List UInt8) (a_0 : Int) (a_1 : BitVec 128) (n : Int) (_ : Int) (_ : BitVec 128) : Option (Int × (BitVec 128) × Int) := (shunterref02_Bits_m N a_0 a_1).bind fun r11 => if (op) = (([99, 97, 115, 116] : List UInt8)) then shunterref02_One_k6 N op n r11 (n) else shunterref02_One_k6 N op n r11 (((r11).length : Int))
def shunterref02_One_k2 (N : Nat) (op : List UInt8) (a_0 : Int) (a_1 : BitVec 128) (n : Int) (m1__0 : Int) (m1__1 : BitVec 128) : Option (Int × (BitVec 128) × Int) := if (op) = (([99, 97, 115, 116] : List UInt8)) then if (n : Int) < 1 then some (0, (0#64) ++ (0#64), 9) else if (n : Int) > 128 then some (0, (0#64) ++ (0#64), 9) else shunterref02_One_k4 N op a_0 a_1 n (m1__0) (m1__1) else shunterref02_One_k4 N op a_0 a_1 n (m1__0) (m1__1)
def shunterref02_One_m (N : Nat) (op : List UInt8) (a_0 : Int) (a_1 : BitVec 128) (n : Int) : Option (Int × (BitVec 128) × Int) := (shunterref02_May_m N (a_0) (a_1)).bind fun r6 => if (r6) = true then if (op) = (([115, 104, 108] : List UInt8)) then if (n : Int) < 0 then some (0, (0#64) ++ (0#64), 7) else shunterref02_One_k2 N op a_0 a_1 n (0) ((0#64) ++ (0#64)) else if (op) = (([115, 104, 114] : List UInt8)) then if (n : Int) < 0 then some (0, (0#64) ++ (0#64), 7) else shunterref02_One_k2 N op a_0 a_1 n (0) ((0#64) ++ (0#64)) else shunterref02_One_k2 N op a_0 a_1 n (0) ((0#64) ++ (0#64)) else some (0, (0#64) ++ (0#64), 1)
set_option maxRecDepth 100000 in
set_option maxHeartbeats 400000 in
theorem shunterref02_One_g (N : Nat) (op : List UInt8) (a_0 : Int) (a_1 : BitVec 128) (n : Int) (r : Int × (BitVec 128) × Int) (hM : shunterref02_One_m N op a_0 a_1 n = some r) : Gives Tryd.prog 34 #[Value.string (⟨(op).toArray⟩), Value.agg #[Value.int .i64 (a_0), U (hi (a_1)), U (lo (a_1))], Value.int .i64 (n)] (Value.tuple #[Value.agg #[Value.int .i64 (r.1), U (hi (r.2.1)), U (lo (r.2.1))], Value.int .i64 (r.2.2)]) := by
  unfold shunterref02_One_m at hM
  refine gives_of_A follows Tryd.func34 rfl 119 rfl (upd (upd (upd (fun _ => undef) 2 (Value.int .i64 (n))) 1 (Value.agg #[Value.int .i64 (a_0), U (hi (a_1)), U (lo (a_1))])) 0 (Value.string (⟨(op).toArray⟩))) (by funext k; match k with | 0 => rfl | 1 => rfl | 2 => rfl | k + 3 => rfl) (fun base0_ => ?_)
  refine A_seq fun K1 hK1 => ?_
  refine A_reg ?_
  refine r_a (24, #[Value.int .i64 (a_0), U (hi (a_1)), U (lo (a_1))]) rfl rfl rfl (fun b2 => ?_) (.inr rfl)
  refine r_a (24, #[Value.int .i64 (0), U (0#64), U (0#64)]) rfl rfl rfl (fun b3 => ?_) (.inr rfl)
  refine r_v (Value.int .i64 (0)) rfl rfl rfl rfl ?_
  refine lx_nil ?_
  refine hK1 _ _ ?_; try clear hK1 K1
  refine A_seq fun K4 hK4 => ?_
  refine A_seq fun K5 hK5 => ?_
  refine A_reg ?_
  refine r_l (Value.agg #[Value.int .i64 (a_0), U (hi (a_1)), U (lo (a_1))]) 1 _ _ _ _ rfl rfl rfl rfl rfl ?_
  replace hM := bind_sm hM; obtain ⟨r6, hr7, hM⟩ := hM
  refine r_c (Value.bool (r6)) rfl _ _ (ev_callF rfl call_10 rfl) (shunterref02_May_g N (a_0) (a_1) _ hr7) ?_
  refine r_v (Value.bool (!(r6))) rfl rfl rfl rfl ?_
  refine lx_nil ?_
  refine hK5 _ _ ?_; try clear hK5 K5
  refine A_cond (!(r6)) rfl (fun hc8 => ?_) (fun hc8 => ?_)
  · replace hM := ifn (Bool.eq_false_iff.1 (not_t hc8)) hM
    refine A_seq fun K9 hK9 => ?_
    refine A_reg ?_
    refine r_v (Value.agg #[Value.int .i64 (0), U (0#64), U (0#64)]) rfl rfl rfl (ev_buildS rfl rfl rfl rfl) ?_
    refine r_s [(b3, 24, #[Value.int .i64 (0), U (0#64), U (0#64)]), (b2, 24, #[Value.int .i64 (a_0), U (hi (a_1)), U (lo (a_1))])] 0 _ _ _ (#[Value.int .i64 (0), U (0#64), U (0#64)]) (#[Value.int .i64 (0), U (0#64), U (0#64)]) (#[Value.int .i64 (0), U (0#64), U (0#64)]) rfl rfl rfl rfl (.of rfl rfl) rfl rfl ?_
    refine r_v (Value.int .i64 (1)) rfl rfl rfl rfl ?_
    refine lx_nil ?_
    refine hK9 _ _ ?_; try clear hK9 K9
    obtain rfl := Option.some.inj hM
    refine A_ret (fun hn => ends_eq (v0 := Value.tuple #[Value.agg #[Value.int .i64 (0), U (0#64), U (0#64)], Value.int .i64 (1)]) (by first | rfl | simp only [app_hl]) (res2 (res_cell hn 0 rfl rfl rfl) rfl))
  · replace hM := ifp (not_f hc8) hM
    refine A_skip ?_
    refine hK4 _ _ ?_; try clear hK4 K4
    refine A_cut (fun tt ll => ∃ (m1__0 : Int) (m1__1 : BitVec 128), (shunterref02_One_k2 N op a_0 a_1 n m1__0 m1__1 = some r) ∧ Is [(0, Value.string (⟨(op).toArray⟩)), (2, Value.int .i64 (n)), (4, Value.pointer (some ⟨b2, 0, none⟩)), (6, Value.pointer (some ⟨b3, 0, none⟩))] [(b3, 24, #[Value.int .i64 (m1__0), U (hi (m1__1)), U (lo (m1__1))]), (b2, 24, #[Value.int .i64 (a_0), U (hi (a_1)), U (lo (a_1))])] tt ll) ?_ ?_
    · refine A_seq fun K66 hK66 => ?_
      refine A_reg ?_
      refine r_v (Value.string (⟨(op).toArray⟩)) rfl rfl rfl rfl ?_
      refine r_v (Value.bool ((op) == (([115, 104, 108] : List UInt8)))) rfl rfl rfl (ev_eqS rfl rfl) ?_
      refine r_v (Value.bool ((op) == (([115, 104, 108] : List UInt8)))) rfl rfl rfl rfl ?_
      rcases hg67 : ((op) == (([115, 104, 108] : List UInt8))) with _ | _
      · replace hM := ifn (ne_of_beq_false hg67) hM
        refine r_y rfl ?_
        refine r_v (Value.string (⟨(op).toArray⟩)) rfl rfl rfl rfl ?_
        refine r_y rfl ?_
        refine r_v (Value.bool ((op) == (([115, 104, 114] : List UInt8)))) rfl rfl rfl (ev_eqS rfl rfl) ?_
        refine r_v (Value.bool ((op) == (([115, 104, 114] : List UInt8)))) rfl rfl rfl rfl ?_
        refine r_v (Value.bool ((op) == (([115, 104, 114] : List UInt8)))) rfl rfl rfl rfl ?_
        rcases hg68 : ((op) == (([115, 104, 114] : List UInt8))) with _ | _
        · replace hM := ifn (ne_of_beq_false hg68) hM
          refine r_n false rfl (by decide) rfl ?_
          refine r_n false rfl (by decide) rfl ?_
          refine r_v (Value.bool (false)) rfl rfl rfl rfl ?_
          refine lx_nil ?_
          refine hK66 _ _ ?_; try clear hK66 K66
          refine A_cond false rfl (fun h_ => nomatch h_) (fun _ => ?_)
          refine A_skip ?_
          refine fg _ (Sub.of (List.Sublist.cons_cons _ (List.Sublist.cons_cons _ (List.Sublist.slnil)))) ?_
          exact ⟨0, (0#64) ++ (0#64), hM, is_mk rfl (by first | rfl | simp only [app_hl])⟩
        · replace hM := ifp (eq_of_beq hg68) hM
          refine r_y rfl ?_
          refine r_v (Value.int .i64 (n)) rfl rfl rfl rfl ?_
          refine r_y rfl ?_
          refine r_v (Value.bool (decide ((n : Int) < 0))) rfl rfl rfl rfl ?_
          refine r_v (Value.bool (decide ((n : Int) < 0))) rfl rfl rfl rfl ?_
          refine lx_nil ?_
          refine hK66 _ _ ?_; try clear hK66 K66
          refine A_cond (decide ((n : Int) < 0)) rfl (fun hc69 => ?_) (fun hc69 => ?_)
          · replace hM := ifp (of_decide_eq_true hc69) hM
            refine A_seq fun K70 hK70 => ?_
            refine A_reg ?_
            refine r_v (Value.agg #[Value.int .i64 (0), U (0#64), U (0#64)]) rfl rfl rfl (ev_buildS rfl rfl rfl rfl) ?_
            refine r_s [(b3, 24, #[Value.int .i64 (0), U (0#64), U (0#64)]), (b2, 24, #[Value.int .i64 (a_0), U (hi (a_1)), U (lo (a_1))])] 0 _ _ _ (#[Value.int .i64 (0), U (0#64), U (0#64)]) (#[Value.int .i64 (0), U (0#64), U (0#64)]) (#[Value.int .i64 (0), U (0#64), U (0#64)]) rfl rfl rfl rfl (.of rfl rfl) rfl rfl ?_
            refine r_v (Value.int .i64 (7)) rfl rfl rfl rfl ?_
            refine lx_nil ?_
            refine hK70 _ _ ?_; try clear hK70 K70
            obtain rfl := Option.some.inj hM
            refine A_ret (fun hn => ends_eq (v0 := Value.tuple #[Value.agg #[Value.int .i64 (0), U (0#64), U (0#64)], Value.int .i64 (7)]) (by first | rfl | simp only [app_hl]) (res2 (res_cell hn 0 rfl rfl rfl) rfl))
          · replace hM := ifn (of_decide_eq_false hc69) hM
            refine A_skip ?_
            refine fg _ (Sub.of (List.Sublist.cons_cons _ (List.Sublist.cons_cons _ (List.Sublist.slnil)))) ?_
            exact ⟨0, (0#64) ++ (0#64), hM, is_mk rfl (by first | rfl | simp only [app_hl])⟩
      · replace hM := ifp (eq_of_beq hg67) hM
        refine r_n true rfl (by decide) rfl ?_
        refine r_n true rfl (by decide) rfl ?_
        refine r_v (Value.bool (true)) rfl rfl rfl rfl ?_
        refine r_v (Value.bool (true)) rfl rfl rfl rfl ?_
        refine r_y rfl ?_
        refine r_v (Value.int .i64 (n)) rfl rfl rfl rfl ?_
        refine r_y rfl ?_
        refine r_v (Value.bool (decide ((n : Int) < 0))) rfl rfl rfl rfl ?_
        refine r_v (Value.bool (decide ((n : Int) < 0))) rfl rfl rfl rfl ?_
        refine lx_nil ?_
        refine hK66 _ _ ?_; try clear hK66 K66
        refine A_cond (decide ((n : Int) < 0)) rfl (fun hc71 => ?_) (fun hc71 => ?_)
        · replace hM := ifp (of_decide_eq_true hc71) hM
          refine A_seq fun K72 hK72 => ?_
          refine A_reg ?_
          refine r_v (Value.agg #[Value.int .i64 (0), U (0#64), U (0#64)]) rfl rfl rfl (ev_buildS rfl rfl rfl rfl) ?_
          refine r_s [(b3, 24, #[Value.int .i64 (0), U (0#64), U (0#64)]), (b2, 24, #[Value.int .i64 (a_0), U (hi (a_1)), U (lo (a_1))])] 0 _ _ _ (#[Value.int .i64 (0), U (0#64), U (0#64)]) (#[Value.int .i64 (0), U (0#64), U (0#64)]) (#[Value.int .i64 (0), U (0#64), U (0#64)]) rfl rfl rfl rfl (.of rfl rfl) rfl rfl ?_
          refine r_v (Value.int .i64 (7)) rfl rfl rfl rfl ?_
          refine lx_nil ?_
          refine hK72 _ _ ?_; try clear hK72 K72
          obtain rfl := Option.some.inj hM
          refine A_ret (fun hn => ends_eq (v0 := Value.tuple #[Value.agg #[Value.int .i64 (0), U (0#64), U (0#64)], Value.int .i64 (7)]) (by first | rfl | simp only [app_hl]) (res2 (res_cell hn 0 rfl rfl rfl) rfl))
        · replace hM := ifn (of_decide_eq_false hc71) hM
          refine A_skip ?_
          refine fg _ (Sub.of (List.Sublist.cons_cons _ (List.Sublist.cons_cons _ (List.Sublist.slnil)))) ?_
          exact ⟨0, (0#64) ++ (0#64), hM, is_mk rfl (by first | rfl | simp only [app_hl])⟩
    · clear hM; rintro t l ⟨m1__0, m1__1, hM, ⟨T, rfl⟩, rfl⟩
      unfold shunterref02_One_k2 at hM
      refine A_cut (fun tt ll => ∃ (m3__0 : Int) (m3__1 : BitVec 128), (shunterref02_One_k4 N op a_0 a_1 n m3__0 m3__1 = some r) ∧ Is [(0, Value.string (⟨(op).toArray⟩)), (2, Value.int .i64 (n)), (4, Value.pointer (some ⟨b2, 0, none⟩)), (6, Value.pointer (some ⟨b3, 0, none⟩))] [(b3, 24, #[Value.int .i64 (m3__0), U (hi (m3__1)), U (lo (m3__1))]), (b2, 24, #[Value.int .i64 (a_0), U (hi (a_1)), U (lo (a_1))])] tt ll) ?_ ?_
      · refine A_seq fun K60 hK60 => ?_
        refine A_reg ?_
        refine r_v (Value.string (⟨(op).toArray⟩)) rfl rfl rfl rfl ?_
        refine r_v (Value.bool ((op) == (([99, 97, 115, 116] : List UInt8)))) rfl rfl rfl (ev_eqS rfl rfl) ?_
        refine r_v (Value.bool ((op) == (([99, 97, 115, 116] : List UInt8)))) rfl rfl rfl rfl ?_
        rcases hg61 : ((op) == (([99, 97, 115, 116] : List UInt8))) with _ | _
        · replace hM := ifn (ne_of_beq_false hg61) hM
          refine r_n false rfl (by decide) rfl ?_
          refine r_n false rfl (by decide) rfl ?_
          refine r_n false rfl (by decide) rfl ?_
          refine r_nu rfl rfl ?_
          refine r_nu rfl rfl ?_
          refine r_n false rfl (by decide) rfl ?_
          refine r_v (Value.bool (false)) rfl rfl rfl rfl ?_
          refine lx_nil ?_
          refine hK60 _ _ ?_; try clear hK60 K60
          refine A_cond false rfl (fun h_ => nomatch h_) (fun _ => ?_)
          refine A_skip ?_
          refine fg _ (Sub.of (List.Sublist.cons_cons _ (List.Sublist.cons_cons _ (List.Sublist.slnil)))) ?_
          exact ⟨m1__0, m1__1, hM, is_mk rfl rfl⟩
        · replace hM := ifp (eq_of_beq hg61) hM
          refine r_y rfl ?_
          refine r_v (Value.int .i64 (n)) rfl rfl rfl rfl ?_
          refine r_y rfl ?_
          refine r_v (Value.bool (decide ((n : Int) < 1))) rfl rfl rfl rfl ?_
          refine r_y rfl ?_
          refine r_v (Value.bool (decide ((n : Int) < 1))) rfl rfl rfl rfl ?_
          rcases hg62 : (decide ((n : Int) < 1)) with _ | _
          · replace hM := ifn (of_decide_eq_false hg62) hM
            refine r_y rfl ?_
            refine r_v (Value.int .i64 (n)) rfl rfl rfl rfl ?_
            refine r_y rfl ?_
            refine r_v (Value.bool (decide ((n : Int) > 128))) rfl rfl rfl rfl ?_
            refine r_y rfl ?_
            refine r_v (Value.bool (decide ((n : Int) > 128))) rfl rfl rfl rfl ?_
            refine r_v (Value.bool (decide ((n : Int) > 128))) rfl rfl rfl rfl ?_
            refine lx_nil ?_
            refine hK60 _ _ ?_; try clear hK60 K60
            refine A_cond (decide ((n : Int) > 128)) rfl (fun hc63 => ?_) (fun hc63 => ?_)
            · replace hM := ifp (of_decide_eq_true hc63) hM
              refine A_seq fun K64 hK64 => ?_
              refine A_reg ?_
              refine r_v (Value.agg #[Value.int .i64 (0), U (0#64), U (0#64)]) rfl rfl rfl (ev_buildS rfl rfl rfl rfl) ?_
              refine r_s [(b3, 24, #[Value.int .i64 (0), U (0#64), U (0#64)]), (b2, 24, #[Value.int .i64 (a_0), U (hi (a_1)), U (lo (a_1))])] 0 _ _ _ (#[Value.int .i64 (m1__0), U (hi (m1__1)), U (lo (m1__1))]) (#[Value.int .i64 (0), U (0#64), U (0#64)]) (#[Value.int .i64 (0), U (0#64), U (0#64)]) rfl rfl rfl rfl (.of rfl rfl) rfl rfl ?_
              refine r_v (Value.int .i64 (9)) rfl rfl rfl rfl ?_
              refine lx_nil ?_
              refine hK64 _ _ ?_; try clear hK64 K64
              obtain rfl := Option.some.inj hM
              refine A_ret (fun hn => ends_eq (v0 := Value.tuple #[Value.agg #[Value.int .i64 (0), U (0#64), U (0#64)], Value.int .i64 (9)]) (by first | rfl | simp only [app_hl]) (res2 (res_cell hn 0 rfl rfl rfl) rfl))
            · replace hM := ifn (of_decide_eq_false hc63) hM
              refine A_skip ?_
              refine fg _ (Sub.of (List.Sublist.cons_cons _ (List.Sublist.cons_cons _ (List.Sublist.slnil)))) ?_
              exact ⟨m1__0, m1__1, hM, is_mk rfl rfl⟩
          · replace hM := ifp (of_decide_eq_true hg62) hM
            refine r_n true rfl (by decide) rfl ?_
            refine r_n true rfl (by decide) rfl ?_
            refine r_y rfl ?_
            refine r_v (Value.bool (true)) rfl rfl rfl rfl ?_
            refine r_v (Value.bool (true)) rfl rfl rfl rfl ?_
            refine lx_nil ?_
            refine hK60 _ _ ?_; try clear hK60 K60
            refine A_cond true rfl (fun _ => ?_) (fun h_ => nomatch h_)
            refine A_seq fun K65 hK65 => ?_
            refine A_reg ?_
            refine r_v (Value.agg #[Value.int .i64 (0), U (0#64), U (0#64)]) rfl rfl rfl (ev_buildS rfl rfl rfl rfl) ?_
            refine r_s [(b3, 24, #[Value.int .i64 (0), U (0#64), U (0#64)]), (b2, 24, #[Value.int .i64 (a_0), U (hi (a_1)), U (lo (a_1))])] 0 _ _ _ (#[Value.int .i64 (m1__0), U (hi (m1__1)), U (lo (m1__1))]) (#[Value.int .i64 (0), U (0#64), U (0#64)]) (#[Value.int .i64 (0), U (0#64), U (0#64)]) rfl rfl rfl rfl (.of rfl rfl) rfl rfl ?_
            refine r_v (Value.int .i64 (9)) rfl rfl rfl rfl ?_
            refine lx_nil ?_
            refine hK65 _ _ ?_; try clear hK65 K65
            obtain rfl := Option.some.inj hM
            refine A_ret (fun hn => ends_eq (v0 := Value.tuple #[Value.agg #[Value.int .i64 (0), U (0#64), U (0#64)], Value.int .i64 (9)]) (by first | rfl | simp only [app_hl]) (res2 (res_cell hn 0 rfl rfl rfl) rfl))
      · clear hM; rintro t l ⟨m3__0, m3__1, hM, ⟨T, rfl⟩, rfl⟩
        unfold shunterref02_One_k4 at hM
        refine A_seq fun K10 hK10 => ?_
        refine A_regC [(some 42, false)] (conG Tryd.prog [(42, fun v_ L_ U_ => ∀ u0_, shunterref02_Bits_m N a_0 a_1 = some u0_ → (p1 (fun s_ => s_) 4 encB (u0_)) v_ L_ U_)]) ?_
        refine r_l (Value.agg #[Value.int .i64 (a_0), U (hi (a_1)), U (lo (a_1))]) 1 _ _ _ _ rfl rfl rfl rfl rfl ?_
        replace hM := bind_sm hM; obtain ⟨r11, hr12, hM⟩ := hM
        refine r_g1 (Ls := [[(b3, 24, #[Value.int .i64 (m3__0), U (hi (m3__1)), U (lo (m3__1))])], [(b2, 24, #[Value.int .i64 (a_0), U (hi (a_1)), U (lo (a_1))])]]) (fun s13 => s13) 4 encB (r11) 17 _ rfl rfl rfl (ev_callF rfl call_17 rfl) (fun own_ nw_ hs_ => shunterref02_Bits_g N a_0 a_1 _ hr12 hs_.view ) (fun _ _ v_ L_ U_ => ⟨fun h_ => h_ _ hr12, fun h_ => by intro _ e_; cases Option.some.inj (e_.symm.trans hr12); exact h_⟩) (fun s13 S14 H15 => ?_)
        refine r_v (s13) rfl rfl rfl rfl ?_
        refine lx_nil ?_
        refine hK10 _ _ ?_; try clear hK10 K10
        refine A_seq fun K16 hK16 => ?_
        refine A_reg ?_
        refine r_v (s13) rfl rfl rfl rfl ?_
        refine r_v (Value.int .i64 (((r11).length : Int))) rfl rfl rfl (ev_lenSl rfl rfl rfl (Sl.shp H15)) ?_
        refine r_v (Value.int .i64 (((r11).length : Int))) rfl rfl rfl rfl ?_
        refine lx_nil ?_
        refine hK16 _ _ ?_; try clear hK16 K16
        refine A_cut (fun tt ll => ∃ (w5_ : Int), (shunterref02_One_k6 N op n r11 w5_ = some r) ∧ Is [(0, Value.string (⟨(op).toArray⟩)), (2, Value.int .i64 (n)), (6, Value.pointer (some ⟨b3, 0, none⟩)), (8, s13), (9, Value.int .i64 (w5_))] (List.flatten [[(b3, 24, #[Value.int .i64 (m3__0), U (hi (m3__1)), U (lo (m3__1))])], S14]) tt ll) ?_ ?_
        · refine A_seq fun K58 hK58 => ?_
          refine A_reg ?_
          refine r_v (Value.string (⟨(op).toArray⟩)) rfl rfl rfl rfl ?_
          refine r_v (Value.bool ((op) == (([99, 97, 115, 116] : List UInt8)))) rfl rfl rfl (ev_eqS rfl rfl) ?_
          refine lx_nil ?_
          refine hK58 _ _ ?_; try clear hK58 K58
          refine A_cond ((op) == (([99, 97, 115, 116] : List UInt8))) rfl (fun hc59 => ?_) (fun hc59 => ?_)
          · replace hM := ifp (eq_of_beq hc59) hM
            refine A_reg ?_
            refine r_v (Value.int .i64 (n)) rfl rfl rfl rfl ?_
            refine r_v (Value.int .i64 (n)) rfl rfl rfl rfl ?_
            refine lx_nil ?_
            refine fg _ (Sub.pick [[(b3, 24, #[Value.int .i64 (m3__0), U (hi (m3__1)), U (lo (m3__1))])], [(b2, 24, #[Value.int .i64 (a_0), U (hi (a_1)), U (lo (a_1))])], S14] [0, 2] rfl) ?_
            exact ⟨n, hM, is_mk rfl rfl⟩
          · replace hM := ifn (ne_of_beq_false hc59) hM
            refine A_skip ?_
            refine fg _ (Sub.pick [[(b3, 24, #[Value.int .i64 (m3__0), U (hi (m3__1)), U (lo (m3__1))])], [(b2, 24, #[Value.int .i64 (a_0), U (hi (a_1)), U (lo (a_1))])], S14] [0, 2] rfl) ?_
            exact ⟨((r11).length : Int), hM, is_mk rfl rfl⟩
        · clear hM; rintro t l ⟨w5_, hM, ⟨T, rfl⟩, rfl⟩
          unfold shunterref02_One_k6 at hM
          refine A_seq fun K17 hK17 => ?_
          refine A_reg ?_
          refine r_v (Value.slice none 0 0) rfl rfl rfl rfl ?_
          refine lx_nil ?_
          refine hK17 _ _ ?_; try clear hK17 K17
          refine A_seq fun K18 hK18 => ?_
          refine A_reg ?_
          refine r_v (Value.bool (true)) rfl rfl rfl rfl ?_
          refine lx_nil ?_
          refine hK18 _ _ ?_; try clear hK18 K18
          refine A_seq fun K19 hK19 => ?_
          refine A_seq fun K20 hK20 => ?_
          refine A_reg ?_
          refine r_v (Value.int .i64 (0)) rfl rfl rfl rfl ?_
          refine lx_nil ?_
          refine hK20 _ _ ?_; try clear hK20 K20
          refine A_block ?_
          refine A_forget _ (Sub.pick [[(b3, 24, #[Value.int .i64 (m3__0), U (hi (m3__1)), U (lo (m3__1))])], S14] [0, 1] rfl) ?_
          refine A_loop (fun tt ll nn => ∃ (n21 : Nat) (out7_ : List Bool) (carry8_ : Bool) (i9_ : Int), (shunterref02_One_l10 N op n r11 w5_ n21 out7_ carry8_ i9_ = some r) ∧ ∃ (vout7_ : Value) (Sout7_ : List Bl), Sl 4 encB vout7_ out7_ Sout7_ ∧ Is [(0, Value.string (⟨(op).toArray⟩)), (2, Value.int .i64 (n)), (6, Value.pointer (some ⟨b3, 0, none⟩)), (8, s13), (9, Value.int .i64 (w5_)), (10, vout7_), (11, Value.bool (carry8_)), (12, Value.int .i64 (i9_))] (List.flatten [[(b3, 24, #[Value.int .i64 (m3__0), U (hi (m3__1)), U (lo (m3__1))])], S14, Sout7_]) tt ll ∧ nn = n21 + 1) (N + 1) ?_ ?_
          · exact ⟨N, [], true, 0, hM, Value.slice none 0 0, [], Sl.nil, is_mk rfl rfl, rfl⟩
          · clear hM; rintro t l _ ⟨n21, out7_, carry8_, i9_, hM, vout7_, Sout7_, hout7_, ⟨⟨T, rfl⟩, rfl⟩, rfl⟩
            rcases n21 with _ | n21
            · exact absurd hM (by simp [shunterref02_One_l10])
            rw [shunterref02_One_l10] at hM
            refine A_seq fun K22 hK22 => ?_
            refine A_seq fun K23 hK23 => ?_
            refine A_reg ?_
            refine r_v (Value.int .i64 (i9_)) rfl rfl rfl rfl ?_
            refine r_v (Value.int .i64 (w5_)) rfl rfl rfl rfl ?_
            refine r_v (Value.bool (decide ((i9_ : Int) < w5_))) rfl rfl rfl rfl ?_
            refine lx_nil ?_
            refine hK23 _ _ ?_; try clear hK23 K23
            refine A_cond (decide ((i9_ : Int) < w5_)) rfl (fun hc24 => ?_) (fun hc24 => ?_)
            · replace hM := ifp (of_decide_eq_true hc24) hM
              refine A_skip ?_
              refine hK22 _ _ ?_; try clear hK22 K22
              refine A_seq fun K25 hK25 => ?_
              refine A_block ?_
              refine A_cut (fun tt ll => ∃ (bit11_ : Bool), (shunterref02_One_k12 op n r11 w5_ out7_ carry8_ i9_ (shunterref02_One_l10 N op n r11 w5_ n21) bit11_ = some r) ∧ Is [(0, Value.string (⟨(op).toArray⟩)), (2, Value.int .i64 (n)), (6, Value.pointer (some ⟨b3, 0, none⟩)), (8, s13), (9, Value.int .i64 (w5_)), (10, vout7_), (11, Value.bool (carry8_)), (12, Value.int .i64 (i9_)), (13, Value.bool (bit11_))] (List.flatten [[(b3, 24, #[Value.int .i64 (m3__0), U (hi (m3__1)), U (lo (m3__1))])], S14, Sout7_]) tt ll) ?_ ?_
              · refine A_reg ?_
                refine r_v (Value.int .i64 (i9_)) rfl rfl rfl rfl ?_
                refine r_v (s13) rfl rfl rfl rfl ?_
                refine r_v (Value.int .i64 (((r11).length : Int))) rfl rfl rfl (ev_lenSl rfl rfl rfl (Sl.shp H15)) ?_
                refine r_v (Value.bool (decide ((i9_ : Int) < ((r11).length : Int)))) rfl rfl rfl rfl ?_
                refine r_v (Value.bool (decide ((i9_ : Int) < ((r11).length : Int)))) rfl rfl rfl rfl ?_
                rcases hg53 : (decide ((i9_ : Int) < ((r11).length : Int))) with _ | _
                · replace hM := ifn (of_decide_eq_false hg53) hM
                  refine r_n false rfl (by decide) rfl ?_
                  refine r_n false rfl (by decide) rfl ?_
                  refine r_n false rfl (by decide) rfl ?_
                  refine r_n false rfl (by decide) rfl ?_
                  refine r_v (Value.bool (false)) rfl rfl rfl rfl ?_
                  refine r_v (Value.bool (false)) rfl rfl rfl rfl ?_
                  refine lx_nil ?_
                  refine fg _ (Sub.pick [[(b3, 24, #[Value.int .i64 (m3__0), U (hi (m3__1)), U (lo (m3__1))])], S14, Sout7_] [0, 1, 2] rfl) ?_
                  exact ⟨false, hM, is_mk rfl rfl⟩
                · replace hM := ifp (of_decide_eq_true hg53) hM
                  refine r_y rfl ?_
                  refine r_v (s13) rfl rfl rfl rfl ?_
                  refine r_y rfl ?_
                  refine r_v (Value.int .i64 (i9_)) rfl rfl rfl rfl ?_
                  refine r_y rfl ?_
                  replace hM := ck_some hM; obtain ⟨ck54, hM⟩ := hM
                  refine r_v (elA s13 ((i9_).toNat * 1)) rfl rfl rfl (ev_v (ev_idxSl rfl rfl rfl (Sl.shp H15) ck54)) ?_
                  refine r_y rfl ?_
                  refine r_le (Value.bool ((r11)[(i9_).toNat]!)) (En := encB) ((r11)[(i9_).toNat]!) ((i9_).toNat) 0 rfl rfl (rd_own H15 (mem_chunk (Ls := [[(b3, 24, #[Value.int .i64 (m3__0), U (hi (m3__1)), U (lo (m3__1))])], S14, Sout7_]) (k := 1) rfl rfl)) (get_of ck54) rfl ?_
                  refine r_v (Value.bool ((r11)[(i9_).toNat]!)) rfl rfl rfl rfl ?_
                  refine r_v (Value.bool ((r11)[(i9_).toNat]!)) rfl rfl rfl rfl ?_
                  refine lx_nil ?_
                  refine fg _ (Sub.pick [[(b3, 24, #[Value.int .i64 (m3__0), U (hi (m3__1)), U (lo (m3__1))])], S14, Sout7_] [0, 1, 2] rfl) ?_
                  exact ⟨(r11)[(i9_).toNat]!, hM, is_mk rfl rfl⟩
              · clear hM; rintro t l ⟨bit11_, hM, ⟨T, rfl⟩, rfl⟩
                unfold shunterref02_One_k12 at hM
                refine A_cut (fun tt ll => ∃ (bit13_ : Bool), (shunterref02_One_k14 op n r11 w5_ out7_ carry8_ i9_ (shunterref02_One_l10 N op n r11 w5_ n21) bit13_ = some r) ∧ Is [(0, Value.string (⟨(op).toArray⟩)), (2, Value.int .i64 (n)), (6, Value.pointer (some ⟨b3, 0, none⟩)), (8, s13), (9, Value.int .i64 (w5_)), (10, vout7_), (11, Value.bool (carry8_)), (12, Value.int .i64 (i9_)), (13, Value.bool (bit13_))] (List.flatten [[(b3, 24, #[Value.int .i64 (m3__0), U (hi (m3__1)), U (lo (m3__1))])], S14, Sout7_]) tt ll) ?_ ?_
                · refine A_seq fun K51 hK51 => ?_
                  refine A_reg ?_
                  refine r_v (Value.string (⟨(op).toArray⟩)) rfl rfl rfl rfl ?_
                  refine r_v (Value.bool ((op) == (([110, 111, 116] : List UInt8)))) rfl rfl rfl (ev_eqS rfl rfl) ?_
                  refine lx_nil ?_
                  refine hK51 _ _ ?_; try clear hK51 K51
                  refine A_cond ((op) == (([110, 111, 116] : List UInt8))) rfl (fun hc52 => ?_) (fun hc52 => ?_)
                  · replace hM := ifp (eq_of_beq hc52) hM
                    refine A_reg ?_
                    refine r_v (Value.bool (bit11_)) rfl rfl rfl rfl ?_
                    refine r_v (Value.bool (!(bit11_))) rfl rfl rfl rfl ?_
                    refine r_v (Value.bool (!(bit11_))) rfl rfl rfl rfl ?_
                    refine lx_nil ?_
                    refine fg _ (Sub.pick [[(b3, 24, #[Value.int .i64 (m3__0), U (hi (m3__1)), U (lo (m3__1))])], S14, Sout7_] [0, 1, 2] rfl) ?_
                    exact ⟨!(bit11_), hM, is_mk rfl rfl⟩
                  · replace hM := ifn (ne_of_beq_false hc52) hM
                    refine A_skip ?_
                    refine fg _ (Sub.pick [[(b3, 24, #[Value.int .i64 (m3__0), U (hi (m3__1)), U (lo (m3__1))])], S14, Sout7_] [0, 1, 2] rfl) ?_
                    exact ⟨bit11_, hM, is_mk rfl rfl⟩
                · clear hM; rintro t l ⟨bit13_, hM, ⟨T, rfl⟩, rfl⟩
                  unfold shunterref02_One_k14 at hM
                  refine A_cut (fun tt ll => ∃ (carry15_ : Bool) (bit16_ : Bool), (shunterref02_One_k17 op n r11 w5_ out7_ i9_ (shunterref02_One_l10 N op n r11 w5_ n21) carry15_ bit16_ = some r) ∧ Is [(0, Value.string (⟨(op).toArray⟩)), (2, Value.int .i64 (n)), (6, Value.pointer (some ⟨b3, 0, none⟩)), (8, s13), (9, Value.int .i64 (w5_)), (10, vout7_), (11, Value.bool (carry15_)), (12, Value.int .i64 (i9_)), (13, Value.bool (bit16_))] (List.flatten [[(b3, 24, #[Value.int .i64 (m3__0), U (hi (m3__1)), U (lo (m3__1))])], S14, Sout7_]) tt ll) ?_ ?_
                  · refine A_seq fun K46 hK46 => ?_
                    refine A_reg ?_
                    refine r_v (Value.string (⟨(op).toArray⟩)) rfl rfl rfl rfl ?_
                    refine r_v (Value.bool ((op) == (([110, 101, 103] : List UInt8)))) rfl rfl rfl (ev_eqS rfl rfl) ?_
                    refine lx_nil ?_
                    refine hK46 _ _ ?_; try clear hK46 K46
                    refine A_cond ((op) == (([110, 101, 103] : List UInt8))) rfl (fun hc47 => ?_) (fun hc47 => ?_)
                    · replace hM := ifp (eq_of_beq hc47) hM
                      refine A_seq fun K48 hK48 => ?_
                      refine A_reg ?_
                      refine r_v (Value.bool (bit13_)) rfl rfl rfl rfl ?_
                      refine r_v (Value.bool (!(bit13_))) rfl rfl rfl rfl ?_
                      refine r_v (Value.bool (!(bit13_))) rfl rfl rfl rfl ?_
                      refine lx_nil ?_
                      refine hK48 _ _ ?_; try clear hK48 K48
                      refine A_seq fun K49 hK49 => ?_
                      refine A_reg ?_
                      refine r_v (Value.bool (!(bit13_))) rfl rfl rfl rfl ?_
                      refine r_v (Value.bool (carry8_)) rfl rfl rfl rfl ?_
                      refine r_v (Value.bool ((!(bit13_)) != (carry8_))) rfl rfl rfl (ev_binBn rfl rfl rfl) ?_
                      refine r_v (Value.bool ((!(bit13_)) != (carry8_))) rfl rfl rfl rfl ?_
                      refine lx_nil ?_
                      refine hK49 _ _ ?_; try clear hK49 K49
                      refine A_reg ?_
                      refine r_v (Value.bool (!(bit13_))) rfl rfl rfl rfl ?_
                      refine r_v (Value.bool (!(bit13_))) rfl rfl rfl rfl ?_
                      rcases hg50 : (!(bit13_)) with _ | _
                      · replace hM := ifp (not_f hg50) hM
                        refine r_n false rfl (by decide) rfl ?_
                        refine r_v (Value.bool (false)) rfl rfl rfl rfl ?_
                        refine r_v (Value.bool (false)) rfl rfl rfl rfl ?_
                        refine lx_nil ?_
                        refine fg _ (Sub.pick [[(b3, 24, #[Value.int .i64 (m3__0), U (hi (m3__1)), U (lo (m3__1))])], S14, Sout7_] [0, 1, 2] rfl) ?_
                        exact ⟨false, (false) != (carry8_), hM, is_mk rfl rfl⟩
                      · replace hM := ifn (Bool.eq_false_iff.1 (not_t hg50)) hM
                        refine r_y rfl ?_
                        refine r_v (Value.bool (carry8_)) rfl rfl rfl rfl ?_
                        refine r_v (Value.bool (carry8_)) rfl rfl rfl rfl ?_
                        refine r_v (Value.bool (carry8_)) rfl rfl rfl rfl ?_
                        refine lx_nil ?_
                        refine fg _ (Sub.pick [[(b3, 24, #[Value.int .i64 (m3__0), U (hi (m3__1)), U (lo (m3__1))])], S14, Sout7_] [0, 1, 2] rfl) ?_
                        exact ⟨carry8_, (true) != (carry8_), hM, is_mk rfl rfl⟩
                    · replace hM := ifn (ne_of_beq_false hc47) hM
                      refine A_skip ?_
                      refine fg _ (Sub.pick [[(b3, 24, #[Value.int .i64 (m3__0), U (hi (m3__1)), U (lo (m3__1))])], S14, Sout7_] [0, 1, 2] rfl) ?_
                      exact ⟨carry8_, bit13_, hM, is_mk rfl rfl⟩
                  · clear hM; rintro t l ⟨carry15_, bit16_, hM, ⟨T, rfl⟩, rfl⟩
                    unfold shunterref02_One_k17 at hM
                    refine A_cut (fun tt ll => ∃ (bit18_ : Bool), (shunterref02_One_k19 op n r11 w5_ out7_ i9_ (shunterref02_One_l10 N op n r11 w5_ n21) carry15_ bit18_ = some r) ∧ Is [(0, Value.string (⟨(op).toArray⟩)), (2, Value.int .i64 (n)), (6, Value.pointer (some ⟨b3, 0, none⟩)), (8, s13), (9, Value.int .i64 (w5_)), (10, vout7_), (11, Value.bool (carry15_)), (12, Value.int .i64 (i9_)), (13, Value.bool (bit18_))] (List.flatten [[(b3, 24, #[Value.int .i64 (m3__0), U (hi (m3__1)), U (lo (m3__1))])], S14, Sout7_]) tt ll) ?_ ?_
                    · refine A_seq fun K41 hK41 => ?_
                      refine A_reg ?_
                      refine r_v (Value.string (⟨(op).toArray⟩)) rfl rfl rfl rfl ?_
                      refine r_v (Value.bool ((op) == (([115, 104, 108] : List UInt8)))) rfl rfl rfl (ev_eqS rfl rfl) ?_
                      refine lx_nil ?_
                      refine hK41 _ _ ?_; try clear hK41 K41
                      refine A_cond ((op) == (([115, 104, 108] : List UInt8))) rfl (fun hc42 => ?_) (fun hc42 => ?_)
                      · replace hM := ifp (eq_of_beq hc42) hM
                        refine A_reg ?_
                        refine r_v (Value.int .i64 (n)) rfl rfl rfl rfl ?_
                        refine r_v (Value.int .i64 (i9_)) rfl rfl rfl rfl ?_
                        refine r_v (Value.bool (decide ((n : Int) ≤ i9_))) rfl rfl rfl rfl ?_
                        refine r_v (Value.bool (decide ((n : Int) ≤ i9_))) rfl rfl rfl rfl ?_
                        rcases hg43 : (decide ((n : Int) ≤ i9_)) with _ | _
                        · replace hM := ifn (of_decide_eq_false hg43) hM
                          refine r_n false rfl (by decide) rfl ?_
                          refine r_n false rfl (by decide) rfl ?_
                          refine r_n false rfl (by decide) rfl ?_
                          refine r_n false rfl (by decide) rfl ?_
                          refine r_n false rfl (by decide) rfl ?_
                          refine r_n false rfl (by decide) rfl ?_
                          refine r_n false rfl (by decide) rfl ?_
                          refine r_n false rfl (by decide) rfl ?_
                          refine r_v (Value.bool (false)) rfl rfl rfl rfl ?_
                          refine r_v (Value.bool (false)) rfl rfl rfl rfl ?_
                          refine lx_nil ?_
                          refine fg _ (Sub.pick [[(b3, 24, #[Value.int .i64 (m3__0), U (hi (m3__1)), U (lo (m3__1))])], S14, Sout7_] [0, 1, 2] rfl) ?_
                          exact ⟨false, hM, is_mk rfl rfl⟩
                        · replace hM := ifp (of_decide_eq_true hg43) hM
                          refine r_y rfl ?_
                          refine r_v (s13) rfl rfl rfl rfl ?_
                          refine r_y rfl ?_
                          refine r_v (Value.int .i64 (i9_)) rfl rfl rfl rfl ?_
                          refine r_y rfl ?_
                          refine r_v (Value.int .i64 (n)) rfl rfl rfl rfl ?_
                          refine r_y rfl ?_
                          refine r_v (Value.int .i64 (i9_)) rfl rfl rfl rfl ?_
                          refine r_y rfl ?_
                          refine r_v (Value.int .i64 (min (n) (i9_))) rfl rfl rfl (ev_min rfl rfl) ?_
                          refine r_y rfl ?_
                          replace hM := ck_some hM; obtain ⟨ck44, hM⟩ := hM
                          refine r_v (Value.int .i64 ((i9_ - min (n) (i9_)))) rfl rfl (wi64 rfl ck44.1 ck44.2) rfl ?_
                          refine r_y rfl ?_
                          replace hM := ck_some hM; obtain ⟨ck45, hM⟩ := hM
                          refine r_v (elA s13 (((i9_ - min (n) (i9_))).toNat * 1)) rfl rfl rfl (ev_v (ev_idxSl rfl rfl rfl (Sl.shp H15) ck45)) ?_
                          refine r_y rfl ?_
                          refine r_le (Value.bool ((r11)[((i9_ - min (n) (i9_))).toNat]!)) (En := encB) ((r11)[((i9_ - min (n) (i9_))).toNat]!) (((i9_ - min (n) (i9_))).toNat) 0 rfl rfl (rd_own H15 (mem_chunk (Ls := [[(b3, 24, #[Value.int .i64 (m3__0), U (hi (m3__1)), U (lo (m3__1))])], S14, Sout7_]) (k := 1) rfl rfl)) (get_of ck45) rfl ?_
                          refine r_v (Value.bool ((r11)[((i9_ - min (n) (i9_))).toNat]!)) rfl rfl rfl rfl ?_
                          refine r_v (Value.bool ((r11)[((i9_ - min (n) (i9_))).toNat]!)) rfl rfl rfl rfl ?_
                          refine lx_nil ?_
                          refine fg _ (Sub.pick [[(b3, 24, #[Value.int .i64 (m3__0), U (hi (m3__1)), U (lo (m3__1))])], S14, Sout7_] [0, 1, 2] rfl) ?_
                          exact ⟨(r11)[((i9_ - min (n) (i9_))).toNat]!, hM, is_mk rfl rfl⟩
                      · replace hM := ifn (ne_of_beq_false hc42) hM
                        refine A_skip ?_
                        refine fg _ (Sub.pick [[(b3, 24, #[Value.int .i64 (m3__0), U (hi (m3__1)), U (lo (m3__1))])], S14, Sout7_] [0, 1, 2] rfl) ?_
                        exact ⟨bit16_, hM, is_mk rfl rfl⟩
                    · clear hM; rintro t l ⟨bit18_, hM, ⟨T, rfl⟩, rfl⟩
                      unfold shunterref02_One_k19 at hM
                      refine A_cut (fun tt ll => ∃ (bit20_ : Bool), (shunterref02_One_k21 out7_ i9_ (shunterref02_One_l10 N op n r11 w5_ n21) carry15_ bit20_ = some r) ∧ Is [(0, Value.string (⟨(op).toArray⟩)), (2, Value.int .i64 (n)), (6, Value.pointer (some ⟨b3, 0, none⟩)), (8, s13), (9, Value.int .i64 (w5_)), (10, vout7_), (11, Value.bool (carry15_)), (12, Value.int .i64 (i9_)), (13, Value.bool (bit20_))] (List.flatten [[(b3, 24, #[Value.int .i64 (m3__0), U (hi (m3__1)), U (lo (m3__1))])], S14, Sout7_]) tt ll) ?_ ?_
                      · refine A_seq fun K34 hK34 => ?_
                        refine A_reg ?_
                        refine r_v (Value.string (⟨(op).toArray⟩)) rfl rfl rfl rfl ?_
                        refine r_v (Value.bool ((op) == (([115, 104, 114] : List UInt8)))) rfl rfl rfl (ev_eqS rfl rfl) ?_
                        refine lx_nil ?_
                        refine hK34 _ _ ?_; try clear hK34 K34
                        refine A_cond ((op) == (([115, 104, 114] : List UInt8))) rfl (fun hc35 => ?_) (fun hc35 => ?_)
                        · replace hM := ifp (eq_of_beq hc35) hM
                          refine A_reg ?_
                          refine r_v (Value.int .i64 (n)) rfl rfl rfl rfl ?_
                          refine r_v (Value.int .i64 (w5_)) rfl rfl rfl rfl ?_
                          refine r_v (Value.int .i64 (i9_)) rfl rfl rfl rfl ?_
                          replace hM := ck_some hM; obtain ⟨ck36, hM⟩ := hM
                          refine r_v (Value.int .i64 ((w5_ - i9_))) rfl rfl (wi64 rfl ck36.1 ck36.2) rfl ?_
                          refine r_v (Value.bool (decide ((n : Int) < (w5_ - i9_)))) rfl rfl rfl rfl ?_
                          refine r_v (Value.bool (decide ((n : Int) < (w5_ - i9_)))) rfl rfl rfl rfl ?_
                          rcases hg37 : (decide ((n : Int) < (w5_ - i9_))) with _ | _
                          · replace hM := ifn (of_decide_eq_false hg37) hM
                            refine r_n false rfl (by decide) rfl ?_
                            refine r_n false rfl (by decide) rfl ?_
                            refine r_n false rfl (by decide) rfl ?_
                            refine r_n false rfl (by decide) rfl ?_
                            refine r_n false rfl (by decide) rfl ?_
                            refine r_n false rfl (by decide) rfl ?_
                            refine r_n false rfl (by decide) rfl ?_
                            refine r_n false rfl (by decide) rfl ?_
                            refine r_n false rfl (by decide) rfl ?_
                            refine r_n false rfl (by decide) rfl ?_
                            refine r_n false rfl (by decide) rfl ?_
                            refine r_v (Value.bool (false)) rfl rfl rfl rfl ?_
                            refine r_v (Value.bool (false)) rfl rfl rfl rfl ?_
                            refine lx_nil ?_
                            refine fg _ (Sub.pick [[(b3, 24, #[Value.int .i64 (m3__0), U (hi (m3__1)), U (lo (m3__1))])], S14, Sout7_] [0, 1, 2] rfl) ?_
                            exact ⟨false, hM, is_mk rfl rfl⟩
                          · replace hM := ifp (of_decide_eq_true hg37) hM
                            refine r_y rfl ?_
                            refine r_v (s13) rfl rfl rfl rfl ?_
                            refine r_y rfl ?_
                            refine r_v (Value.int .i64 (i9_)) rfl rfl rfl rfl ?_
                            refine r_y rfl ?_
                            refine r_v (Value.int .i64 (n)) rfl rfl rfl rfl ?_
                            refine r_y rfl ?_
                            refine r_v (Value.int .i64 (w5_)) rfl rfl rfl rfl ?_
                            refine r_y rfl ?_
                            refine r_v (Value.int .i64 (min (n) (w5_))) rfl rfl rfl (ev_min rfl rfl) ?_
                            refine r_y rfl ?_
                            replace hM := ck_some hM; obtain ⟨ck38, hM⟩ := hM
                            refine r_v (Value.int .i64 ((i9_ + min (n) (w5_)))) rfl rfl (wi64 rfl ck38.1 ck38.2) rfl ?_
                            refine r_y rfl ?_
                            refine r_v (Value.int .i64 (w5_)) rfl rfl rfl rfl ?_
                            refine r_y rfl ?_
                            replace hM := ck_some hM; obtain ⟨ck39, hM⟩ := hM
                            refine r_v (Value.int .i64 ((w5_ - 1))) rfl rfl (wi64 rfl ck39.1 ck39.2) rfl ?_
                            refine r_y rfl ?_
                            refine r_v (Value.int .i64 (min ((i9_ + min (n) (w5_))) ((w5_ - 1)))) rfl rfl rfl (ev_min rfl rfl) ?_
                            refine r_y rfl ?_
                            replace hM := ck_some hM; obtain ⟨ck40, hM⟩ := hM
                            refine r_v (elA s13 ((min ((i9_ + min (n) (w5_))) ((w5_ - 1))).toNat * 1)) rfl rfl rfl (ev_v (ev_idxSl rfl rfl rfl (Sl.shp H15) ck40)) ?_
                            refine r_y rfl ?_
                            refine r_le (Value.bool ((r11)[(min ((i9_ + min (n) (w5_))) ((w5_ - 1))).toNat]!)) (En := encB) ((r11)[(min ((i9_ + min (n) (w5_))) ((w5_ - 1))).toNat]!) ((min ((i9_ + min (n) (w5_))) ((w5_ - 1))).toNat) 0 rfl rfl (rd_own H15 (mem_chunk (Ls := [[(b3, 24, #[Value.int .i64 (m3__0), U (hi (m3__1)), U (lo (m3__1))])], S14, Sout7_]) (k := 1) rfl rfl)) (get_of ck40) rfl ?_
                            refine r_v (Value.bool ((r11)[(min ((i9_ + min (n) (w5_))) ((w5_ - 1))).toNat]!)) rfl rfl rfl rfl ?_
                            refine r_v (Value.bool ((r11)[(min ((i9_ + min (n) (w5_))) ((w5_ - 1))).toNat]!)) rfl rfl rfl rfl ?_
                            refine lx_nil ?_
                            refine fg _ (Sub.pick [[(b3, 24, #[Value.int .i64 (m3__0), U (hi (m3__1)), U (lo (m3__1))])], S14, Sout7_] [0, 1, 2] rfl) ?_
                            exact ⟨(r11)[(min ((i9_ + min (n) (w5_))) ((w5_ - 1))).toNat]!, hM, is_mk rfl rfl⟩
                        · replace hM := ifn (ne_of_beq_false hc35) hM
                          refine A_skip ?_
                          refine fg _ (Sub.pick [[(b3, 24, #[Value.int .i64 (m3__0), U (hi (m3__1)), U (lo (m3__1))])], S14, Sout7_] [0, 1, 2] rfl) ?_
                          exact ⟨bit18_, hM, is_mk rfl rfl⟩
                      · clear hM; rintro t l ⟨bit20_, hM, ⟨T, rfl⟩, rfl⟩
                        unfold shunterref02_One_k21 at hM
                        refine A_regC [(some 115, false), (some 116, true)] (conG Tryd.prog []) ?_
                        refine r_v (vout7_) rfl rfl rfl rfl ?_
                        refine r_v (Value.bool (bit20_)) rfl rfl rfl rfl ?_
                        refine r_bs (cs0 := []) (Ls := [[(b3, 24, #[Value.int .i64 (m3__0), U (hi (m3__1)), U (lo (m3__1))])], S14, Sout7_]) 4 encB [bit20_] [Value.bool (bit20_)] [Value.bool (false)] rfl rfl rfl rfl rfl rfl rfl rfl (by kernel_rfl) (by kernel_rfl) rfl rfl rfl (fun s26 S27 H28 => ?_)
                        replace hM := ck_some hM; obtain ⟨ck29, hM⟩ := hM
                        refine r_app (cs0 := []) (Ls := [[(b3, 24, #[Value.int .i64 (m3__0), U (hi (m3__1)), U (lo (m3__1))])], S14, Sout7_, S27]) 2 (En := encB) rfl rfl rfl rfl rfl hout7_ rfl (rd_own H28 (mem_chunk (Ls := [[(b3, 24, #[Value.int .i64 (m3__0), U (hi (m3__1)), U (lo (m3__1))])], S14, Sout7_, S27]) (k := 3) rfl rfl)) rfl rfl rfl rfl rfl (app_b ck29 rfl) (app_m ck29 rfl) rfl (fun s30 S31 H32 => ?_)
                        refine r_v (s30) rfl rfl rfl rfl ?_
                        refine lx_nil ?_
                        refine hK25 _ _ ?_; try clear hK25 K25
                        refine A_reg ?_
                        refine r_v (Value.int .i64 (i9_)) rfl rfl rfl rfl ?_
                        replace hM := ck_some hM; obtain ⟨ck33, hM⟩ := hM
                        refine r_v (Value.int .i64 ((i9_ + 1))) rfl rfl (wi64 rfl ck33.1 ck33.2) rfl ?_
                        refine r_v (Value.int .i64 ((i9_ + 1))) rfl rfl rfl rfl ?_
                        refine lx_nil ?_
                        refine fg _ (Sub.pick [[(b3, 24, #[Value.int .i64 (m3__0), U (hi (m3__1)), U (lo (m3__1))])], S14, S31, S27] [0, 1, 2] rfl) ?_
                        exact ⟨n21 + 1, by omega, n21, (out7_ ++ ([bit20_])), carry15_, (i9_ + 1), hM, s30, S31, H32, is_mk rfl rfl, rfl⟩
            · replace hM := ifn (of_decide_eq_false hc24) hM
              refine A_exit ?_
              refine hK19 _ _ ?_; try clear hK19 K19
              refine A_seq fun K55 hK55 => ?_
              refine A_regC [(some 118, false)] (conG Tryd.prog [(118, fun v_ L_ U_ => ∀ u0_, shunterref02_Of_m N out7_ = some u0_ → (pV (Value.agg #[Value.int .i64 (u0_.1), U (hi (u0_.2)), U (lo (u0_.2))])) v_ L_ U_)]) ?_
              refine r_v (vout7_) rfl rfl rfl rfl ?_
              replace hM := bind_sm hM; obtain ⟨r56, hr57, hM⟩ := hM
              refine r_gv (Value.agg #[Value.int .i64 (r56.1), U (hi (r56.2)), U (lo (r56.2))]) 18 _ rfl rfl rfl (ev_callF rfl call_18 rfl) (fun own_ nw_ hs_ => shunterref02_Of_g N out7_ _ hr57 hs_.view vout7_ ((rd_own hout7_ (mem_chunk (Ls := [[(b3, 24, #[Value.int .i64 (m3__0), U (hi (m3__1)), U (lo (m3__1))])], S14, Sout7_]) (k := 2) rfl rfl)) own_ nw_ hs_)) (fun _ _ v_ L_ U_ => ⟨fun h_ => h_ _ hr57, fun h_ => by intro _ e_; cases Option.some.inj (e_.symm.trans hr57); exact h_⟩) ?_
              refine r_s (List.flatten [[(b3, 24, #[Value.int .i64 (r56.1), U (hi (r56.2)), U (lo (r56.2))])], S14, Sout7_]) 0 _ _ _ (#[Value.int .i64 (m3__0), U (hi (m3__1)), U (lo (m3__1))]) (#[Value.int .i64 (r56.1), U (hi (r56.2)), U (lo (r56.2))]) (#[Value.int .i64 (r56.1), U (hi (r56.2)), U (lo (r56.2))]) rfl rfl rfl rfl (.of rfl rfl) rfl rfl ?_
              refine r_v (Value.int .i64 (0)) rfl rfl rfl rfl ?_
              refine lx_nil ?_
              refine hK55 _ _ ?_; try clear hK55 K55
              obtain rfl := Option.some.inj hM
              refine A_ret (fun hn => ends_eq (v0 := Value.tuple #[Value.agg #[Value.int .i64 (r56.1), U (hi (r56.2)), U (lo (r56.2))], Value.int .i64 (0)]) rfl (res2 (res_cell hn 0 rfl rfl rfl) rfl))
def shunterref02_Two_k26 (out9_ : List Bool) (i11_ : Int) (rec_shunterref02_Two_l12 : List Bool → Bool → Int → Option (Int × (BitVec 128) × Int)) (n19_ : Int) (bit25_ : Bool) : Option (Int × (BitVec 128) × Int) := ck ((out9_).length + ([bit25_]).length ≤ 140737488355328) (ck ((-9223372036854775808 ≤ (i11_ + 1) ∧ (i11_ + 1) ≤ 9223372036854775807)) (rec_shunterref02_Two_l12 ((out9_ ++ ([bit25_]))) (decide ((n19_ : Int) ≥ 2)) ((i11_ + 1))))
def shunterref02_Two_k24 (op : List UInt8) (r10 : List Bool) (out9_ : List Bool) (i11_ : Int) (rec_shunterref02_Two_l12 : List Bool → Bool → Int → Option (Int × (BitVec 128) × Int)) (q13_ : Bool) (n19_ : Int) (bit23_ : Bool) : Option (Int × (BitVec 128) × Int) := if (op) = (([120, 111, 114] : List UInt8)) then shunterref02_Two_k26 out9_ i11_ rec_shunterref02_Two_l12 n19_ (((r10)[(i11_).toNat]!) != (q13_)) else shunterref02_Two_k26 out9_ i11_ rec_shunterref02_Two_l12 n19_ (bit23_)
def shunterref02_Two_k22 (op : List UInt8) (r10 : List Bool) (out9_ : List Bool) (i11_ : Int) (rec_shunterref02_Two_l12 : List Bool → Bool → Int → Option (Int × (BitVec 128) × Int)) (q13_ : Bool) (n19_ : Int) (bit21_ : Bool) : Option (Int × (BitVec 128) × Int) := if (op) = (([111, 114] : List UInt8)) then if ((r10)[(i11_).toNat]!) = true then shunterref02_Two_k24 op r10 out9_ i11_ rec_shunterref02_Two_l12 q13_ n19_ (true) else shunterref02_Two_k24 op r10 out9_ i11_ rec_shunterref02_Two_l12 q13_ n19_ (q13_) else shunterref02_Two_k24 op r10 out9_ i11_ rec_shunterref02_Two_l12 q13_ n19_ (bit21_)
def shunterref02_Two_k20 (op : List UInt8) (r10 : List Bool) (out9_ : List Bool) (i11_ : Int) (rec_shunterref02_Two_l12 : List Bool → Bool → Int → Option (Int × (BitVec 128) × Int)) (q13_ : Bool) (n19_ : Int) : Option (Int × (BitVec 128) × Int) := ck (0 ≤ n19_ ∧ n19_ ≤ 9223372036854775807) (if (op) = (([97, 110, 100] : List UInt8)) then if ((r10)[(i11_).toNat]!) = true then shunterref02_Two_k22 op r10 out9_ i11_ rec_shunterref02_Two_l12 q13_ n19_ (q13_) else shunterref02_Two_k22 op r10 out9_ i11_ rec_shunterref02_Two_l12 q13_ n19_ (false) else shunterref02_Two_k22 op r10 out9_ i11_ rec_shunterref02_Two_l12 q13_ n19_ ((((n19_) % 2 : Int) == 1)))
def shunterref02_Two_k18 (op : List UInt8) (r10 : List Bool) (out9_ : List Bool) (carry10_ : Bool) (i11_ : Int) (rec_shunterref02_Two_l12 : List Bool → Bool → Int → Option (Int × (BitVec 128) × Int)) (q13_ : Bool) (n17_ : Int) : Option (Int × (BitVec 128) × Int) := if (carry10_) = true then ck ((-9223372036854775808 ≤ (n17_ + 1) ∧ (n17_ + 1) ≤ 9223372036854775807)) (shunterref02_Two_k20 op r10 out9_ i11_ rec_shunterref02_Two_l12 q13_ ((n17_ + 1))) else shunterref02_Two_k20 op r10 out9_ i11_ rec_shunterref02_Two_l12 q13_ (n17_)
def shunterref02_Two_k16 (op : List UInt8) (r10 : List Bool) (out9_ : List Bool) (carry10_ : Bool) (i11_ : Int) (rec_shunterref02_Two_l12 : List Bool → Bool → Int → Option (Int × (BitVec 128) × Int)) (q13_ : Bool) (n15_ : Int) : Option (Int × (BitVec 128) × Int) := if (q13_) = true then ck ((-9223372036854775808 ≤ (n15_ + 1) ∧ (n15_ + 1) ≤ 9223372036854775807)) (shunterref02_Two_k18 op r10 out9_ carry10_ i11_ rec_shunterref02_Two_l12 q13_ ((n15_ + 1))) else shunterref02_Two_k18 op r10 out9_ carry10_ i11_ rec_shunterref02_Two_l12 q13_ (n15_)
def shunterref02_Two_k14 (op : List UInt8) (r10 : List Bool) (out9_ : List Bool) (carry10_ : Bool) (i11_ : Int) (rec_shunterref02_Two_l12 : List Bool → Bool → Int → Option (Int × (BitVec 128) × Int)) (q13_ : Bool) : Option (Int × (BitVec 128) × Int) := if ((r10)[(i11_).toNat]!) = true then shunterref02_Two_k16 op r10 out9_ carry10_ i11_ rec_shunterref02_Two_l12 q13_ (1) else shunterref02_Two_k16 op r10 out9_ carry10_ i11_ rec_shunterref02_Two_l12 q13_ (0)
def shunterref02_Two_k31 (op : List UInt8) (less3_ : Bool) (i28_ : Int) (rec_shunterref02_Two_l29 : List Bool → Int → Option (Int × (BitVec 128) × Int)) (out30_ : List Bool) : Option (Int × (BitVec 128) × Int) := if (op) = (([115, 117, 98, 115, 97, 116] : List UInt8)) then if (less3_) = true then ck (0 ≤ i28_ ∧ i28_ < ((out30_).length : Int)) (ck ((-9223372036854775808 ≤ (i28_ + 1) ∧ (i28_ + 1) ≤ 9223372036854775807)) (rec_shunterref02_Two_l29 ((out30_).set ((i28_).toNat) (false)) ((i28_ + 1)))) else ck ((-9223372036854775808 ≤ (i28_ + 1) ∧ (i28_ + 1) ≤ 9223372036854775807)) (rec_shunterref02_Two_l29 (out30_) ((i28_ + 1))) else ck ((-9223372036854775808 ≤ (i28_ + 1) ∧ (i28_ + 1) ≤ 9223372036854775807)) (rec_shunterref02_Two_l29 (out30_) ((i28_ + 1)))
def shunterref02_Two_l29 (N : Nat) (op : List UInt8) (less3_ : Bool) (carry10_ : Bool) : Nat → List Bool → Int → Option (Int × (BitVec 128) × Int)
  | 0, _, _ => none
  | n98 + 1, out27_, i28_ => if (i28_ : Int) < ((out27_).length : Int) then if (op) = (([97, 100, 100, 115, 97, 116] : List UInt8)) then if (carry10_) = true then ck (0 ≤ i28_ ∧ i28_ < ((out27_).length : Int)) (shunterref02_Two_k31 op less3_ i28_ (shunterref02_Two_l29 N op less3_ carry10_ n98) ((out27_).set ((i28_).toNat) (true))) else shunterref02_Two_k31 op less3_ i28_ (shunterref02_Two_l29 N op less3_ carry10_ n98) (out27_) else shunterref02_Two_k31 op less3_ i28_ (shunterref02_Two_l29 N op less3_ carry10_ n98) (out27_) else (shunterref02_Of_m N out27_).bind fun r119 => some (r119.1, r119.2, 0)
def shunterref02_Two_l12 (N : Nat) (op : List UInt8) (r10 : List Bool) (r15 : List Bool) (less3_ : Bool) : Nat → List Bool → Bool → Int → Option (Int × (BitVec 128) × Int)
  | 0, _, _, _ => none
  | n57 + 1, out9_, carry10_, i11_ => if (i11_ : Int) < ((r10).length : Int) then ck (0 ≤ i11_ ∧ i11_ < ((r10).length : Int)) (ck (0 ≤ i11_ ∧ i11_ < ((r15).length : Int)) (if (op) = (([115, 117, 98] : List UInt8)) then shunterref02_Two_k14 op r10 out9_ carry10_ i11_ (shunterref02_Two_l12 N op r10 r15 less3_ n57) (!((r15)[(i11_).toNat]!)) else if (op) = (([115, 117, 98, 115, 97, 116] : List UInt8)) then shunterref02_Two_k14 op r10 out9_ carry10_ i11_ (shunterref02_Two_l12 N op r10 r15 less3_ n57) (!((r15)[(i11_).toNat]!)) else shunterref02_Two_k14 op r10 out9_ carry10_ i11_ (shunterref02_Two_l12 N op r10 r15 less3_ n57) ((r15)[(i11_).toNat]!))) else shunterref02_Two_l29 N op less3_ carry10_ N (out9_) (0)
def shunterref02_Two_k8 (N : Nat) (op : List UInt8) (r10 : List Bool) (r15 : List Bool) (less3_ : Bool) (carry7_ : Bool) : Option (Int × (BitVec 128) × Int) := shunterref02_Two_l12 N op r10 r15 less3_ N ([]) (carry7_) (0)
def shunterref02_Two_l6 (N : Nat) (op : List UInt8) (r10 : List Bool) (r15 : List Bool) : Nat → Bool → Bool → Int → Option (Int × (BitVec 128) × Int)
  | 0, _, _, _ => none
  | n23 + 1, less3_, same4_, i5_ => if (i5_ : Int) < ((r10).length : Int) then ck (0 ≤ i5_ ∧ i5_ < ((r10).length : Int)) (ck (0 ≤ i5_ ∧ i5_ < ((r15).length : Int)) (if ((r10)[(i5_).toNat]!) ≠ ((r15)[(i5_).toNat]!) then ck (0 ≤ i5_ ∧ i5_ < ((r15).length : Int)) (ck ((-9223372036854775808 ≤ (i5_ + 1) ∧ (i5_ + 1) ≤ 9223372036854775807)) ((shunterref02_Two_l6 N op r10 r15 n23) ((r15)[(i5_).toNat]!) (false) ((i5_ + 1)))) else ck ((-9223372036854775808 ≤ (i5_ + 1) ∧ (i5_ + 1) ≤ 9223372036854775807)) ((shunterref02_Two_l6 N op r10 r15 n23) (less3_) (same4_) ((i5_ + 1))))) else if (op) = (([101, 113] : List UInt8)) then (shunterref02_Of_m N ([same4_])).bind fun r43 => some (r43.1, r43.2, 0) else if (op) = (([108, 101, 115, 115] : List UInt8)) then (shunterref02_Of_m N ([less3_])).bind fun r52 => some (r52.1, r52.2, 0) else if (op) = (([115, 117, 98] : List UInt8)) then shunterref02_Two_k8 N op r10 r15 less3_ (true) else shunterref02_Two_k8 N op r10 r15 less3_ ((op) == (([115, 117, 98, 115, 97, 116] : List UInt8)))
def shunterref02_Two_k2 (N : Nat) (op : List UInt8) (a_0 : Int) (a_1 : BitVec 128) (b_0 : Int) (b_1 : BitVec 128) (_ : Int) (_ : BitVec 128) : Option (Int × (BitVec 128) × Int) := if (a_0 : Int) ≠ b_0 then some (0, (0#64) ++ (0#64), 9) else (shunterref02_Bits_m N a_0 a_1).bind fun r10 => (shunterref02_Bits_m N b_0 b_1).bind fun r15 => shunterref02_Two_l6 N op r10 r15 N (false) (true) (0)
def shunterref02_Two_m (N : Nat) (op : List UInt8) (a_0 : Int) (a_1 : BitVec 128) (b_0 : Int) (b_1 : BitVec 128) : Option (Int × (BitVec 128) × Int) := (shunterref02_May_m N (a_0) (a_1)).bind fun r123 => if (r123) = true then (shunterref02_May_m N (b_0) (b_1)).bind fun r126 => if (r126) = true then shunterref02_Two_k2 N op a_0 a_1 b_0 b_1 (0) ((0#64) ++ (0#64)) else some (0, (0#64) ++ (0#64), 1) else some (0, (0#64) ++ (0#64), 1)
set_option maxRecDepth 100000 in
set_option maxHeartbeats 400000 in
theorem shunterref02_Two_g (N : Nat) (op : List UInt8) (a_0 : Int) (a_1 : BitVec 128) (b_0 : Int) (b_1 : BitVec 128) (r : Int × (BitVec 128) × Int) (hM : shunterref02_Two_m N op a_0 a_1 b_0 b_1 = some r) : Gives Tryd.prog 28 #[Value.string (⟨(op).toArray⟩), Value.agg #[Value.int .i64 (a_0), U (hi (a_1)), U (lo (a_1))], Value.agg #[Value.int .i64 (b_0), U (hi (b_1)), U (lo (b_1))]] (Value.tuple #[Value.agg #[Value.int .i64 (r.1), U (hi (r.2.1)), U (lo (r.2.1))], Value.int .i64 (r.2.2)]) := by
  unfold shunterref02_Two_m at hM
  refine gives_of_A follows Tryd.func28 rfl 156 rfl (upd (upd (upd (fun _ => undef) 2 (Value.agg #[Value.int .i64 (b_0), U (hi (b_1)), U (lo (b_1))])) 1 (Value.agg #[Value.int .i64 (a_0), U (hi (a_1)), U (lo (a_1))])) 0 (Value.string (⟨(op).toArray⟩))) (by funext k; match k with | 0 => rfl | 1 => rfl | 2 => rfl | k + 3 => rfl) (fun base0_ => ?_)
  refine A_seq fun K1 hK1 => ?_
  refine A_reg ?_
  refine r_a (24, #[Value.int .i64 (a_0), U (hi (a_1)), U (lo (a_1))]) rfl rfl rfl (fun b2 => ?_) (.inr rfl)
  refine r_a (24, #[Value.int .i64 (b_0), U (hi (b_1)), U (lo (b_1))]) rfl rfl rfl (fun b3 => ?_) (.inr rfl)
  refine r_a (24, #[Value.int .i64 (0), U (0#64), U (0#64)]) rfl rfl rfl (fun b4 => ?_) (.inr rfl)
  refine r_v (Value.int .i64 (0)) rfl rfl rfl rfl ?_
  refine lx_nil ?_
  refine hK1 _ _ ?_; try clear hK1 K1
  refine A_cut (fun tt ll => ∃ (m1__0 : Int) (m1__1 : BitVec 128), (shunterref02_Two_k2 N op a_0 a_1 b_0 b_1 m1__0 m1__1 = some r) ∧ Is [(0, Value.string (⟨(op).toArray⟩)), (4, Value.pointer (some ⟨b2, 0, none⟩)), (5, Value.pointer (some ⟨b3, 0, none⟩)), (6, Value.pointer (some ⟨b4, 0, none⟩))] [(b4, 24, #[Value.int .i64 (m1__0), U (hi (m1__1)), U (lo (m1__1))]), (b3, 24, #[Value.int .i64 (b_0), U (hi (b_1)), U (lo (b_1))]), (b2, 24, #[Value.int .i64 (a_0), U (hi (a_1)), U (lo (a_1))])] tt ll) ?_ ?_
  · refine A_seq fun K122 hK122 => ?_
    refine A_reg ?_
    refine r_l (Value.agg #[Value.int .i64 (a_0), U (hi (a_1)), U (lo (a_1))]) 2 _ _ _ _ rfl rfl rfl rfl rfl ?_
    replace hM := bind_sm hM; obtain ⟨r123, hr124, hM⟩ := hM
    refine r_c (Value.bool (r123)) rfl _ _ (ev_callF rfl call_10 rfl) (shunterref02_May_g N (a_0) (a_1) _ hr124) ?_
    refine r_v (Value.bool (!(r123))) rfl rfl rfl rfl ?_
    refine r_v (Value.bool (!(r123))) rfl rfl rfl rfl ?_
    rcases hg125 : (!(r123)) with _ | _
    · replace hM := ifp (not_f hg125) hM
      refine r_y rfl ?_
      refine r_l (Value.agg #[Value.int .i64 (b_0), U (hi (b_1)), U (lo (b_1))]) 1 _ _ _ _ rfl rfl rfl rfl rfl ?_
      refine r_y rfl ?_
      replace hM := bind_sm hM; obtain ⟨r126, hr127, hM⟩ := hM
      refine r_c (Value.bool (r126)) rfl _ _ (ev_callF rfl call_10 rfl) (shunterref02_May_g N (b_0) (b_1) _ hr127) ?_
      refine r_y rfl ?_
      refine r_v (Value.bool (!(r126))) rfl rfl rfl rfl ?_
      refine r_v (Value.bool (!(r126))) rfl rfl rfl rfl ?_
      refine lx_nil ?_
      refine hK122 _ _ ?_; try clear hK122 K122
      refine A_cond (!(r126)) rfl (fun hc128 => ?_) (fun hc128 => ?_)
      · replace hM := ifn (Bool.eq_false_iff.1 (not_t hc128)) hM
        refine A_seq fun K129 hK129 => ?_
        refine A_reg ?_
        refine r_v (Value.agg #[Value.int .i64 (0), U (0#64), U (0#64)]) rfl rfl rfl (ev_buildS rfl rfl rfl rfl) ?_
        refine r_s [(b4, 24, #[Value.int .i64 (0), U (0#64), U (0#64)]), (b3, 24, #[Value.int .i64 (b_0), U (hi (b_1)), U (lo (b_1))]), (b2, 24, #[Value.int .i64 (a_0), U (hi (a_1)), U (lo (a_1))])] 0 _ _ _ (#[Value.int .i64 (0), U (0#64), U (0#64)]) (#[Value.int .i64 (0), U (0#64), U (0#64)]) (#[Value.int .i64 (0), U (0#64), U (0#64)]) rfl rfl rfl rfl (.of rfl rfl) rfl rfl ?_
        refine r_v (Value.int .i64 (1)) rfl rfl rfl rfl ?_
        refine lx_nil ?_
        refine hK129 _ _ ?_; try clear hK129 K129
        obtain rfl := Option.some.inj hM
        refine A_ret (fun hn => ends_eq (v0 := Value.tuple #[Value.agg #[Value.int .i64 (0), U (0#64), U (0#64)], Value.int .i64 (1)]) (by first | rfl | simp only [app_hl]) (res2 (res_cell hn 0 rfl rfl rfl) rfl))
      · replace hM := ifp (not_f hc128) hM
        refine A_skip ?_
        refine fg _ (Sub.of (List.Sublist.cons_cons _ (List.Sublist.cons_cons _ (List.Sublist.cons_cons _ (List.Sublist.slnil))))) ?_
        exact ⟨0, (0#64) ++ (0#64), hM, is_mk rfl (by first | rfl | simp only [app_hl])⟩
    · replace hM := ifn (Bool.eq_false_iff.1 (not_t hg125)) hM
      refine r_n true rfl (by decide) rfl ?_
      refine r_n true rfl (by decide) rfl ?_
      refine r_n true rfl (by decide) rfl ?_
      refine r_v (Value.bool (true)) rfl rfl rfl rfl ?_
      refine lx_nil ?_
      refine hK122 _ _ ?_; try clear hK122 K122
      refine A_cond true rfl (fun _ => ?_) (fun h_ => nomatch h_)
      refine A_seq fun K130 hK130 => ?_
      refine A_reg ?_
      refine r_v (Value.agg #[Value.int .i64 (0), U (0#64), U (0#64)]) rfl rfl rfl (ev_buildS rfl rfl rfl rfl) ?_
      refine r_s [(b4, 24, #[Value.int .i64 (0), U (0#64), U (0#64)]), (b3, 24, #[Value.int .i64 (b_0), U (hi (b_1)), U (lo (b_1))]), (b2, 24, #[Value.int .i64 (a_0), U (hi (a_1)), U (lo (a_1))])] 0 _ _ _ (#[Value.int .i64 (0), U (0#64), U (0#64)]) (#[Value.int .i64 (0), U (0#64), U (0#64)]) (#[Value.int .i64 (0), U (0#64), U (0#64)]) rfl rfl rfl rfl (.of rfl rfl) rfl rfl ?_
      refine r_v (Value.int .i64 (1)) rfl rfl rfl rfl ?_
      refine lx_nil ?_
      refine hK130 _ _ ?_; try clear hK130 K130
      obtain rfl := Option.some.inj hM
      refine A_ret (fun hn => ends_eq (v0 := Value.tuple #[Value.agg #[Value.int .i64 (0), U (0#64), U (0#64)], Value.int .i64 (1)]) (by first | rfl | simp only [app_hl]) (res2 (res_cell hn 0 rfl rfl rfl) rfl))
  · clear hM; rintro t l ⟨m1__0, m1__1, hM, ⟨T, rfl⟩, rfl⟩
    unfold shunterref02_Two_k2 at hM
    refine A_seq fun K5 hK5 => ?_
    refine A_seq fun K6 hK6 => ?_
    refine A_reg ?_
    refine r_v (Value.pointer (some ⟨b2, 0, none⟩)) rfl rfl rfl rfl ?_
    refine r_l (Value.int .i64 (a_0)) 2 _ _ _ _ rfl rfl rfl rfl rfl ?_
    refine r_v (Value.pointer (some ⟨b3, 0, none⟩)) rfl rfl rfl rfl ?_
    refine r_l (Value.int .i64 (b_0)) 1 _ _ _ _ rfl rfl rfl rfl rfl ?_
    refine r_v (Value.bool (((a_0 : Int) != b_0))) rfl rfl rfl rfl ?_
    refine lx_nil ?_
    refine hK6 _ _ ?_; try clear hK6 K6
    refine A_cond (((a_0 : Int) != b_0)) rfl (fun hc7 => ?_) (fun hc7 => ?_)
    · replace hM := ifp (bne_iff_ne.1 hc7) hM
      refine A_seq fun K8 hK8 => ?_
      refine A_reg ?_
      refine r_v (Value.agg #[Value.int .i64 (0), U (0#64), U (0#64)]) rfl rfl rfl (ev_buildS rfl rfl rfl rfl) ?_
      refine r_s [(b4, 24, #[Value.int .i64 (0), U (0#64), U (0#64)]), (b3, 24, #[Value.int .i64 (b_0), U (hi (b_1)), U (lo (b_1))]), (b2, 24, #[Value.int .i64 (a_0), U (hi (a_1)), U (lo (a_1))])] 0 _ _ _ (#[Value.int .i64 (m1__0), U (hi (m1__1)), U (lo (m1__1))]) (#[Value.int .i64 (0), U (0#64), U (0#64)]) (#[Value.int .i64 (0), U (0#64), U (0#64)]) rfl rfl rfl rfl (.of rfl rfl) rfl rfl ?_
      refine r_v (Value.int .i64 (9)) rfl rfl rfl rfl ?_
      refine lx_nil ?_
      refine hK8 _ _ ?_; try clear hK8 K8
      obtain rfl := Option.some.inj hM
      refine A_ret (fun hn => ends_eq (v0 := Value.tuple #[Value.agg #[Value.int .i64 (0), U (0#64), U (0#64)], Value.int .i64 (9)]) (by first | rfl | simp only [app_hl]) (res2 (res_cell hn 0 rfl rfl rfl) rfl))
    · replace hM := ifn (bne_f hc7) hM
      refine A_skip ?_
      refine hK5 _ _ ?_; try clear hK5 K5
      refine A_seq fun K9 hK9 => ?_
      refine A_drawR [(some 37, false), (some 39, false)] (conG Tryd.prog [(37, fun v_ L_ U_ => ∀ u0_, shunterref02_Bits_m N a_0 a_1 = some u0_ → (p1 (fun s_ => s_) 4 encB (u0_)) v_ L_ U_), (39, fun v_ L_ U_ => ∀ u0_, shunterref02_Bits_m N b_0 b_1 = some u0_ → (p1 (fun s_ => s_) 4 encB (u0_)) v_ L_ U_)]) [] (by decide +kernel) (fun hn => sep_nil) ?_
      refine r_l (Value.agg #[Value.int .i64 (a_0), U (hi (a_1)), U (lo (a_1))]) 2 _ _ _ _ rfl rfl rfl rfl rfl ?_
      replace hM := bind_sm hM; obtain ⟨r10, hr11, hM⟩ := hM
      refine r_g1 (Ls := [[(b4, 24, #[Value.int .i64 (m1__0), U (hi (m1__1)), U (lo (m1__1))])], [(b3, 24, #[Value.int .i64 (b_0), U (hi (b_1)), U (lo (b_1))])], [(b2, 24, #[Value.int .i64 (a_0), U (hi (a_1)), U (lo (a_1))])]]) (fun s12 => s12) 4 encB (r10) 17 _ rfl rfl rfl (ev_callF rfl call_17 rfl) (fun own_ nw_ hs_ => shunterref02_Bits_g N a_0 a_1 _ hr11 hs_.view ) (fun _ _ v_ L_ U_ => ⟨fun h_ => h_ _ hr11, fun h_ => by intro _ e_; cases Option.some.inj (e_.symm.trans hr11); exact h_⟩) (fun s12 S13 H14 => ?_)
      refine r_l (Value.agg #[Value.int .i64 (b_0), U (hi (b_1)), U (lo (b_1))]) 1 _ _ _ _ rfl rfl rfl rfl rfl ?_
      replace hM := bind_sm hM; obtain ⟨r15, hr16, hM⟩ := hM
      refine r_g1 (Ls := [[(b4, 24, #[Value.int .i64 (m1__0), U (hi (m1__1)), U (lo (m1__1))])], [(b3, 24, #[Value.int .i64 (b_0), U (hi (b_1)), U (lo (b_1))])], [(b2, 24, #[Value.int .i64 (a_0), U (hi (a_1)), U (lo (a_1))])], S13]) (fun s17 => s17) 4 encB (r15) 17 _ rfl rfl rfl (ev_callF rfl call_17 rfl) (fun own_ nw_ hs_ => shunterref02_Bits_g N b_0 b_1 _ hr16 hs_.view ) (fun _ _ v_ L_ U_ => ⟨fun h_ => h_ _ hr16, fun h_ => by intro _ e_; cases Option.some.inj (e_.symm.trans hr16); exact h_⟩) (fun s17 S18 H19 => ?_)
      refine r_v (s12) rfl rfl rfl rfl ?_
      refine r_v (s17) rfl rfl rfl rfl ?_
      refine lx_nil ?_
      refine hK9 _ _ ?_; try clear hK9 K9
      refine A_seq fun K20 hK20 => ?_
      refine A_reg ?_
      refine r_v (Value.bool (false)) rfl rfl rfl rfl ?_
      refine r_v (Value.bool (true)) rfl rfl rfl rfl ?_
      refine lx_nil ?_
      refine hK20 _ _ ?_; try clear hK20 K20
      refine A_seq fun K21 hK21 => ?_
      refine A_seq fun K22 hK22 => ?_
      refine A_reg ?_
      refine r_v (Value.int .i64 (0)) rfl rfl rfl rfl ?_
      refine lx_nil ?_
      refine hK22 _ _ ?_; try clear hK22 K22
      refine A_block ?_
      refine A_forget _ (Sub.pick [[(b4, 24, #[Value.int .i64 (m1__0), U (hi (m1__1)), U (lo (m1__1))])], [(b3, 24, #[Value.int .i64 (b_0), U (hi (b_1)), U (lo (b_1))])], [(b2, 24, #[Value.int .i64 (a_0), U (hi (a_1)), U (lo (a_1))])], S13, S18] [0, 3, 4] rfl) ?_
      refine A_loop (fun tt ll nn => ∃ (n23 : Nat) (less3_ : Bool) (same4_ : Bool) (i5_ : Int), (shunterref02_Two_l6 N op r10 r15 n23 less3_ same4_ i5_ = some r) ∧ Is [(0, Value.string (⟨(op).toArray⟩)), (6, Value.pointer (some ⟨b4, 0, none⟩)), (8, s12), (9, s17), (10, Value.bool (less3_)), (11, Value.bool (same4_)), (12, Value.int .i64 (i5_))] (List.flatten [[(b4, 24, #[Value.int .i64 (m1__0), U (hi (m1__1)), U (lo (m1__1))])], S13, S18]) tt ll ∧ nn = n23 + 1) (N + 1) ?_ ?_
      · exact ⟨N, false, true, 0, hM, is_mk rfl rfl, rfl⟩
      · clear hM; rintro t l _ ⟨n23, less3_, same4_, i5_, hM, ⟨⟨T, rfl⟩, rfl⟩, rfl⟩
        rcases n23 with _ | n23
        · exact absurd hM (by simp [shunterref02_Two_l6])
        rw [shunterref02_Two_l6] at hM
        refine A_seq fun K24 hK24 => ?_
        refine A_seq fun K25 hK25 => ?_
        refine A_reg ?_
        refine r_v (Value.int .i64 (i5_)) rfl rfl rfl rfl ?_
        refine r_v (s12) rfl rfl rfl rfl ?_
        refine r_v (Value.int .i64 (((r10).length : Int))) rfl rfl rfl (ev_lenSl rfl rfl rfl (Sl.shp H14)) ?_
        refine r_v (Value.bool (decide ((i5_ : Int) < ((r10).length : Int)))) rfl rfl rfl rfl ?_
        refine lx_nil ?_
        refine hK25 _ _ ?_; try clear hK25 K25
        refine A_cond (decide ((i5_ : Int) < ((r10).length : Int))) rfl (fun hc26 => ?_) (fun hc26 => ?_)
        · replace hM := ifp (of_decide_eq_true hc26) hM
          refine A_skip ?_
          refine hK24 _ _ ?_; try clear hK24 K24
          refine A_seq fun K27 hK27 => ?_
          refine A_block ?_
          refine A_seq fun K28 hK28 => ?_
          refine A_draw [] (by decide +kernel) (fun hn => sep_nil) ?_
          refine r_v (s12) rfl rfl rfl rfl ?_
          refine r_v (Value.int .i64 (i5_)) rfl rfl rfl rfl ?_
          replace hM := ck_some hM; obtain ⟨ck29, hM⟩ := hM
          refine r_v (elA s12 ((i5_).toNat * 1)) rfl rfl rfl (ev_v (ev_idxSl rfl rfl rfl (Sl.shp H14) ck29)) ?_
          refine r_le (Value.bool ((r10)[(i5_).toNat]!)) (En := encB) ((r10)[(i5_).toNat]!) ((i5_).toNat) 0 rfl rfl (rd_own H14 (mem_chunk (Ls := [[(b4, 24, #[Value.int .i64 (m1__0), U (hi (m1__1)), U (lo (m1__1))])], S13, S18]) (k := 1) rfl rfl)) (get_of ck29) rfl ?_
          refine r_v (s17) rfl rfl rfl rfl ?_
          refine r_v (Value.int .i64 (i5_)) rfl rfl rfl rfl ?_
          replace hM := ck_some hM; obtain ⟨ck30, hM⟩ := hM
          refine r_v (elA s17 ((i5_).toNat * 1)) rfl rfl rfl (ev_v (ev_idxSl rfl rfl rfl (Sl.shp H19) ck30)) ?_
          refine r_le (Value.bool ((r15)[(i5_).toNat]!)) (En := encB) ((r15)[(i5_).toNat]!) ((i5_).toNat) 0 rfl rfl (rd_own H19 (mem_chunk (Ls := [[(b4, 24, #[Value.int .i64 (m1__0), U (hi (m1__1)), U (lo (m1__1))])], S13, S18]) (k := 2) rfl rfl)) (get_of ck30) rfl ?_
          refine r_v (Value.bool (((r10)[(i5_).toNat]!) != ((r15)[(i5_).toNat]!))) rfl rfl rfl (ev_binBn rfl rfl rfl) ?_
          refine lx_nil ?_
          refine hK28 _ _ ?_; try clear hK28 K28
          refine A_cond (((r10)[(i5_).toNat]!) != ((r15)[(i5_).toNat]!)) rfl (fun hc31 => ?_) (fun hc31 => ?_)
          · replace hM := ifp (bne_iff_ne.1 hc31) hM
            refine A_seq fun K32 hK32 => ?_
            refine A_reg ?_
            refine r_v (s17) rfl rfl rfl rfl ?_
            refine r_v (Value.int .i64 (i5_)) rfl rfl rfl rfl ?_
            replace hM := ck_some hM; obtain ⟨ck33, hM⟩ := hM
            refine r_v (elA s17 ((i5_).toNat * 1)) rfl rfl rfl (ev_v (ev_idxSl rfl rfl rfl (Sl.shp H19) ck33)) ?_
            refine r_le (Value.bool ((r15)[(i5_).toNat]!)) (En := encB) ((r15)[(i5_).toNat]!) ((i5_).toNat) 0 rfl rfl (rd_own H19 (mem_chunk (Ls := [[(b4, 24, #[Value.int .i64 (m1__0), U (hi (m1__1)), U (lo (m1__1))])], S13, S18]) (k := 2) rfl rfl)) (get_of ck33) rfl ?_
            refine r_v (Value.bool ((r15)[(i5_).toNat]!)) rfl rfl rfl rfl ?_
            refine lx_nil ?_
            refine hK32 _ _ ?_; try clear hK32 K32
            refine A_reg ?_
            refine r_v (Value.bool (false)) rfl rfl rfl rfl ?_
            refine lx_nil ?_
            refine hK27 _ _ ?_; try clear hK27 K27
            refine A_reg ?_
            refine r_v (Value.int .i64 (i5_)) rfl rfl rfl rfl ?_
            replace hM := ck_some hM; obtain ⟨ck34, hM⟩ := hM
            refine r_v (Value.int .i64 ((i5_ + 1))) rfl rfl (wi64 rfl ck34.1 ck34.2) rfl ?_
            refine r_v (Value.int .i64 ((i5_ + 1))) rfl rfl rfl rfl ?_
            refine lx_nil ?_
            refine fg _ (Sub.pick [[(b4, 24, #[Value.int .i64 (m1__0), U (hi (m1__1)), U (lo (m1__1))])], S13, S18] [0, 1, 2] rfl) ?_
            exact ⟨n23 + 1, by omega, n23, (r15)[(i5_).toNat]!, false, (i5_ + 1), hM, is_mk rfl rfl, rfl⟩
          · replace hM := ifn (bne_f hc31) hM
            refine A_skip ?_
            refine hK27 _ _ ?_; try clear hK27 K27
            refine A_reg ?_
            refine r_v (Value.int .i64 (i5_)) rfl rfl rfl rfl ?_
            replace hM := ck_some hM; obtain ⟨ck35, hM⟩ := hM
            refine r_v (Value.int .i64 ((i5_ + 1))) rfl rfl (wi64 rfl ck35.1 ck35.2) rfl ?_
            refine r_v (Value.int .i64 ((i5_ + 1))) rfl rfl rfl rfl ?_
            refine lx_nil ?_
            refine fg _ (Sub.pick [[(b4, 24, #[Value.int .i64 (m1__0), U (hi (m1__1)), U (lo (m1__1))])], S13, S18] [0, 1, 2] rfl) ?_
            exact ⟨n23 + 1, by omega, n23, less3_, same4_, (i5_ + 1), hM, is_mk rfl rfl, rfl⟩
        · replace hM := ifn (of_decide_eq_false hc26) hM
          refine A_exit ?_
          refine hK21 _ _ ?_; try clear hK21 K21
          refine A_seq fun K36 hK36 => ?_
          refine A_seq fun K37 hK37 => ?_
          refine A_reg ?_
          refine r_v (Value.string (⟨(op).toArray⟩)) rfl rfl rfl rfl ?_
          refine r_v (Value.bool ((op) == (([101, 113] : List UInt8)))) rfl rfl rfl (ev_eqS rfl rfl) ?_
          refine lx_nil ?_
          refine hK37 _ _ ?_; try clear hK37 K37
          refine A_cond ((op) == (([101, 113] : List UInt8))) rfl (fun hc38 => ?_) (fun hc38 => ?_)
          · replace hM := ifp (eq_of_beq hc38) hM
            refine A_seq fun K39 hK39 => ?_
            refine A_regC [(some 62, false), (some 63, false)] (conG Tryd.prog [(63, fun v_ L_ U_ => ∀ u0_, shunterref02_Of_m N ([same4_]) = some u0_ → (pV (Value.agg #[Value.int .i64 (u0_.1), U (hi (u0_.2)), U (lo (u0_.2))])) v_ L_ U_)]) ?_
            refine r_v (Value.bool (same4_)) rfl rfl rfl rfl ?_
            refine r_bs (cs0 := [(63, fun v_ L_ U_ => ∀ u0_, shunterref02_Of_m N ([same4_]) = some u0_ → (pV (Value.agg #[Value.int .i64 (u0_.1), U (hi (u0_.2)), U (lo (u0_.2))])) v_ L_ U_)]) (Ls := [[(b4, 24, #[Value.int .i64 (m1__0), U (hi (m1__1)), U (lo (m1__1))])], S13, S18]) 4 encB [same4_] [Value.bool (same4_)] [Value.bool (false)] rfl rfl rfl rfl rfl rfl rfl rfl (by kernel_rfl) (by kernel_rfl) rfl rfl rfl (fun s40 S41 H42 => ?_)
            replace hM := bind_sm hM; obtain ⟨r43, hr44, hM⟩ := hM
            refine r_gv (Value.agg #[Value.int .i64 (r43.1), U (hi (r43.2)), U (lo (r43.2))]) 18 _ rfl rfl rfl (ev_callF rfl call_18 rfl) (fun own_ nw_ hs_ => shunterref02_Of_g N ([same4_]) _ hr44 hs_.view s40 ((rd_own H42 (mem_chunk (Ls := [[(b4, 24, #[Value.int .i64 (m1__0), U (hi (m1__1)), U (lo (m1__1))])], S13, S18, S41]) (k := 3) rfl rfl)) own_ nw_ hs_)) (fun _ _ v_ L_ U_ => ⟨fun h_ => h_ _ hr44, fun h_ => by intro _ e_; cases Option.some.inj (e_.symm.trans hr44); exact h_⟩) ?_
            refine r_s (List.flatten [[(b4, 24, #[Value.int .i64 (r43.1), U (hi (r43.2)), U (lo (r43.2))])], S13, S18, S41]) 0 _ _ _ (#[Value.int .i64 (m1__0), U (hi (m1__1)), U (lo (m1__1))]) (#[Value.int .i64 (r43.1), U (hi (r43.2)), U (lo (r43.2))]) (#[Value.int .i64 (r43.1), U (hi (r43.2)), U (lo (r43.2))]) rfl rfl rfl rfl (.of rfl rfl) rfl rfl ?_
            refine r_v (Value.int .i64 (0)) rfl rfl rfl rfl ?_
            refine lx_nil ?_
            refine hK39 _ _ ?_; try clear hK39 K39
            obtain rfl := Option.some.inj hM
            refine A_ret (fun hn => ends_eq (v0 := Value.tuple #[Value.agg #[Value.int .i64 (r43.1), U (hi (r43.2)), U (lo (r43.2))], Value.int .i64 (0)]) rfl (res2 (res_cell hn 0 rfl rfl rfl) rfl))
          · replace hM := ifn (ne_of_beq_false hc38) hM
            refine A_skip ?_
            refine hK36 _ _ ?_; try clear hK36 K36
            refine A_seq fun K45 hK45 => ?_
            refine A_seq fun K46 hK46 => ?_
            refine A_reg ?_
            refine r_v (Value.string (⟨(op).toArray⟩)) rfl rfl rfl rfl ?_
            refine r_v (Value.bool ((op) == (([108, 101, 115, 115] : List UInt8)))) rfl rfl rfl (ev_eqS rfl rfl) ?_
            refine lx_nil ?_
            refine hK46 _ _ ?_; try clear hK46 K46
            refine A_cond ((op) == (([108, 101, 115, 115] : List UInt8))) rfl (fun hc47 => ?_) (fun hc47 => ?_)
            · replace hM := ifp (eq_of_beq hc47) hM
              refine A_seq fun K48 hK48 => ?_
              refine A_regC [(some 67, false), (some 68, false)] (conG Tryd.prog [(68, fun v_ L_ U_ => ∀ u0_, shunterref02_Of_m N ([less3_]) = some u0_ → (pV (Value.agg #[Value.int .i64 (u0_.1), U (hi (u0_.2)), U (lo (u0_.2))])) v_ L_ U_)]) ?_
              refine r_v (Value.bool (less3_)) rfl rfl rfl rfl ?_
              refine r_bs (cs0 := [(68, fun v_ L_ U_ => ∀ u0_, shunterref02_Of_m N ([less3_]) = some u0_ → (pV (Value.agg #[Value.int .i64 (u0_.1), U (hi (u0_.2)), U (lo (u0_.2))])) v_ L_ U_)]) (Ls := [[(b4, 24, #[Value.int .i64 (m1__0), U (hi (m1__1)), U (lo (m1__1))])], S13, S18]) 4 encB [less3_] [Value.bool (less3_)] [Value.bool (false)] rfl rfl rfl rfl rfl rfl rfl rfl (by kernel_rfl) (by kernel_rfl) rfl rfl rfl (fun s49 S50 H51 => ?_)
              replace hM := bind_sm hM; obtain ⟨r52, hr53, hM⟩ := hM
              refine r_gv (Value.agg #[Value.int .i64 (r52.1), U (hi (r52.2)), U (lo (r52.2))]) 18 _ rfl rfl rfl (ev_callF rfl call_18 rfl) (fun own_ nw_ hs_ => shunterref02_Of_g N ([less3_]) _ hr53 hs_.view s49 ((rd_own H51 (mem_chunk (Ls := [[(b4, 24, #[Value.int .i64 (m1__0), U (hi (m1__1)), U (lo (m1__1))])], S13, S18, S50]) (k := 3) rfl rfl)) own_ nw_ hs_)) (fun _ _ v_ L_ U_ => ⟨fun h_ => h_ _ hr53, fun h_ => by intro _ e_; cases Option.some.inj (e_.symm.trans hr53); exact h_⟩) ?_
              refine r_s (List.flatten [[(b4, 24, #[Value.int .i64 (r52.1), U (hi (r52.2)), U (lo (r52.2))])], S13, S18, S50]) 0 _ _ _ (#[Value.int .i64 (m1__0), U (hi (m1__1)), U (lo (m1__1))]) (#[Value.int .i64 (r52.1), U (hi (r52.2)), U (lo (r52.2))]) (#[Value.int .i64 (r52.1), U (hi (r52.2)), U (lo (r52.2))]) rfl rfl rfl rfl (.of rfl rfl) rfl rfl ?_
              refine r_v (Value.int .i64 (0)) rfl rfl rfl rfl ?_
              refine lx_nil ?_
              refine hK48 _ _ ?_; try clear hK48 K48
              obtain rfl := Option.some.inj hM
              refine A_ret (fun hn => ends_eq (v0 := Value.tuple #[Value.agg #[Value.int .i64 (r52.1), U (hi (r52.2)), U (lo (r52.2))], Value.int .i64 (0)]) rfl (res2 (res_cell hn 0 rfl rfl rfl) rfl))
            · replace hM := ifn (ne_of_beq_false hc47) hM
              refine A_skip ?_
              refine hK45 _ _ ?_; try clear hK45 K45
              refine A_seq fun K54 hK54 => ?_
              refine A_reg ?_
              refine r_v (Value.slice none 0 0) rfl rfl rfl rfl ?_
              refine lx_nil ?_
              refine hK54 _ _ ?_; try clear hK54 K54
              refine A_cut (fun tt ll => ∃ (carry7_ : Bool), (shunterref02_Two_k8 N op r10 r15 less3_ carry7_ = some r) ∧ Is [(0, Value.string (⟨(op).toArray⟩)), (6, Value.pointer (some ⟨b4, 0, none⟩)), (8, s12), (9, s17), (10, Value.bool (less3_)), (13, Value.slice none 0 0), (14, Value.bool (carry7_))] (List.flatten [[(b4, 24, #[Value.int .i64 (m1__0), U (hi (m1__1)), U (lo (m1__1))])], S13, S18]) tt ll) ?_ ?_
              · refine A_reg ?_
                refine r_v (Value.string (⟨(op).toArray⟩)) rfl rfl rfl rfl ?_
                refine r_v (Value.bool ((op) == (([115, 117, 98] : List UInt8)))) rfl rfl rfl (ev_eqS rfl rfl) ?_
                refine r_v (Value.bool ((op) == (([115, 117, 98] : List UInt8)))) rfl rfl rfl rfl ?_
                rcases hg121 : ((op) == (([115, 117, 98] : List UInt8))) with _ | _
                · replace hM := ifn (ne_of_beq_false hg121) hM
                  refine r_y rfl ?_
                  refine r_v (Value.string (⟨(op).toArray⟩)) rfl rfl rfl rfl ?_
                  refine r_y rfl ?_
                  refine r_v (Value.bool ((op) == (([115, 117, 98, 115, 97, 116] : List UInt8)))) rfl rfl rfl (ev_eqS rfl rfl) ?_
                  refine r_v (Value.bool ((op) == (([115, 117, 98, 115, 97, 116] : List UInt8)))) rfl rfl rfl rfl ?_
                  refine r_v (Value.bool ((op) == (([115, 117, 98, 115, 97, 116] : List UInt8)))) rfl rfl rfl rfl ?_
                  refine lx_nil ?_
                  refine fg _ (Sub.pick [[(b4, 24, #[Value.int .i64 (m1__0), U (hi (m1__1)), U (lo (m1__1))])], S13, S18] [0, 1, 2] rfl) ?_
                  exact ⟨(op) == (([115, 117, 98, 115, 97, 116] : List UInt8)), hM, is_mk rfl rfl⟩
                · replace hM := ifp (eq_of_beq hg121) hM
                  refine r_n true rfl (by decide) rfl ?_
                  refine r_n true rfl (by decide) rfl ?_
                  refine r_v (Value.bool (true)) rfl rfl rfl rfl ?_
                  refine r_v (Value.bool (true)) rfl rfl rfl rfl ?_
                  refine lx_nil ?_
                  refine fg _ (Sub.pick [[(b4, 24, #[Value.int .i64 (m1__0), U (hi (m1__1)), U (lo (m1__1))])], S13, S18] [0, 1, 2] rfl) ?_
                  exact ⟨true, hM, is_mk rfl rfl⟩
              · clear hM; rintro t l ⟨carry7_, hM, ⟨T, rfl⟩, rfl⟩
                unfold shunterref02_Two_k8 at hM
                refine A_seq fun K55 hK55 => ?_
                refine A_seq fun K56 hK56 => ?_
                refine A_reg ?_
                refine r_v (Value.int .i64 (0)) rfl rfl rfl rfl ?_
                refine lx_nil ?_
                refine hK56 _ _ ?_; try clear hK56 K56
                refine A_block ?_
                refine A_forget _ (Sub.pick [[(b4, 24, #[Value.int .i64 (m1__0), U (hi (m1__1)), U (lo (m1__1))])], S13, S18] [0, 1, 2] rfl) ?_
                refine A_loop (fun tt ll nn => ∃ (n57 : Nat) (out9_ : List Bool) (carry10_ : Bool) (i11_ : Int), (shunterref02_Two_l12 N op r10 r15 less3_ n57 out9_ carry10_ i11_ = some r) ∧ ∃ (vout9_ : Value) (Sout9_ : List Bl), Sl 4 encB vout9_ out9_ Sout9_ ∧ Is [(0, Value.string (⟨(op).toArray⟩)), (6, Value.pointer (some ⟨b4, 0, none⟩)), (8, s12), (9, s17), (10, Value.bool (less3_)), (13, vout9_), (14, Value.bool (carry10_)), (15, Value.int .i64 (i11_))] (List.flatten [[(b4, 24, #[Value.int .i64 (m1__0), U (hi (m1__1)), U (lo (m1__1))])], S13, S18, Sout9_]) tt ll ∧ nn = n57 + 1) (N + 1) ?_ ?_
                · exact ⟨N, [], carry7_, 0, hM, Value.slice none 0 0, [], Sl.nil, is_mk rfl rfl, rfl⟩
                · clear hM; rintro t l _ ⟨n57, out9_, carry10_, i11_, hM, vout9_, Sout9_, hout9_, ⟨⟨T, rfl⟩, rfl⟩, rfl⟩
                  rcases n57 with _ | n57
                  · exact absurd hM (by simp [shunterref02_Two_l12])
                  rw [shunterref02_Two_l12] at hM
                  refine A_seq fun K58 hK58 => ?_
                  refine A_seq fun K59 hK59 => ?_
                  refine A_reg ?_
                  refine r_v (Value.int .i64 (i11_)) rfl rfl rfl rfl ?_
                  refine r_v (s12) rfl rfl rfl rfl ?_
                  refine r_v (Value.int .i64 (((r10).length : Int))) rfl rfl rfl (ev_lenSl rfl rfl rfl (Sl.shp H14)) ?_
                  refine r_v (Value.bool (decide ((i11_ : Int) < ((r10).length : Int)))) rfl rfl rfl rfl ?_
                  refine lx_nil ?_
                  refine hK59 _ _ ?_; try clear hK59 K59
                  refine A_cond (decide ((i11_ : Int) < ((r10).length : Int))) rfl (fun hc60 => ?_) (fun hc60 => ?_)
                  · replace hM := ifp (of_decide_eq_true hc60) hM
                    refine A_skip ?_
                    refine hK58 _ _ ?_; try clear hK58 K58
                    refine A_seq fun K61 hK61 => ?_
                    refine A_block ?_
                    refine A_seq fun K62 hK62 => ?_
                    refine A_draw [] (by decide +kernel) (fun hn => sep_nil) ?_
                    refine r_v (s12) rfl rfl rfl rfl ?_
                    refine r_v (Value.int .i64 (i11_)) rfl rfl rfl rfl ?_
                    replace hM := ck_some hM; obtain ⟨ck63, hM⟩ := hM
                    refine r_v (elA s12 ((i11_).toNat * 1)) rfl rfl rfl (ev_v (ev_idxSl rfl rfl rfl (Sl.shp H14) ck63)) ?_
                    refine r_le (Value.bool ((r10)[(i11_).toNat]!)) (En := encB) ((r10)[(i11_).toNat]!) ((i11_).toNat) 0 rfl rfl (rd_own H14 (mem_chunk (Ls := [[(b4, 24, #[Value.int .i64 (m1__0), U (hi (m1__1)), U (lo (m1__1))])], S13, S18, Sout9_]) (k := 1) rfl rfl)) (get_of ck63) rfl ?_
                    refine r_v (s17) rfl rfl rfl rfl ?_
                    refine r_v (Value.int .i64 (i11_)) rfl rfl rfl rfl ?_
                    replace hM := ck_some hM; obtain ⟨ck64, hM⟩ := hM
                    refine r_v (elA s17 ((i11_).toNat * 1)) rfl rfl rfl (ev_v (ev_idxSl rfl rfl rfl (Sl.shp H19) ck64)) ?_
                    refine r_le (Value.bool ((r15)[(i11_).toNat]!)) (En := encB) ((r15)[(i11_).toNat]!) ((i11_).toNat) 0 rfl rfl (rd_own H19 (mem_chunk (Ls := [[(b4, 24, #[Value.int .i64 (m1__0), U (hi (m1__1)), U (lo (m1__1))])], S13, S18, Sout9_]) (k := 2) rfl rfl)) (get_of ck64) rfl ?_
                    refine r_v (Value.bool ((r10)[(i11_).toNat]!)) rfl rfl rfl rfl ?_
                    refine r_v (Value.bool ((r15)[(i11_).toNat]!)) rfl rfl rfl rfl ?_
                    refine lx_nil ?_
                    refine hK62 _ _ ?_; try clear hK62 K62
                    refine A_cut (fun tt ll => ∃ (q13_ : Bool), (shunterref02_Two_k14 op r10 out9_ carry10_ i11_ (shunterref02_Two_l12 N op r10 r15 less3_ n57) q13_ = some r) ∧ Is [(0, Value.string (⟨(op).toArray⟩)), (6, Value.pointer (some ⟨b4, 0, none⟩)), (8, s12), (9, s17), (10, Value.bool (less3_)), (13, vout9_), (14, Value.bool (carry10_)), (15, Value.int .i64 (i11_)), (16, Value.bool ((r10)[(i11_).toNat]!)), (17, Value.bool (q13_))] (List.flatten [[(b4, 24, #[Value.int .i64 (m1__0), U (hi (m1__1)), U (lo (m1__1))])], S13, S18, Sout9_]) tt ll) ?_ ?_
                    · refine A_seq fun K93 hK93 => ?_
                      refine A_reg ?_
                      refine r_v (Value.string (⟨(op).toArray⟩)) rfl rfl rfl rfl ?_
                      refine r_v (Value.bool ((op) == (([115, 117, 98] : List UInt8)))) rfl rfl rfl (ev_eqS rfl rfl) ?_
                      refine r_v (Value.bool ((op) == (([115, 117, 98] : List UInt8)))) rfl rfl rfl rfl ?_
                      rcases hg94 : ((op) == (([115, 117, 98] : List UInt8))) with _ | _
                      · replace hM := ifn (ne_of_beq_false hg94) hM
                        refine r_y rfl ?_
                        refine r_v (Value.string (⟨(op).toArray⟩)) rfl rfl rfl rfl ?_
                        refine r_y rfl ?_
                        refine r_v (Value.bool ((op) == (([115, 117, 98, 115, 97, 116] : List UInt8)))) rfl rfl rfl (ev_eqS rfl rfl) ?_
                        refine r_v (Value.bool ((op) == (([115, 117, 98, 115, 97, 116] : List UInt8)))) rfl rfl rfl rfl ?_
                        refine lx_nil ?_
                        refine hK93 _ _ ?_; try clear hK93 K93
                        refine A_cond ((op) == (([115, 117, 98, 115, 97, 116] : List UInt8))) rfl (fun hc95 => ?_) (fun hc95 => ?_)
                        · replace hM := ifp (eq_of_beq hc95) hM
                          refine A_reg ?_
                          refine r_v (Value.bool ((r15)[(i11_).toNat]!)) rfl rfl rfl rfl ?_
                          refine r_v (Value.bool (!((r15)[(i11_).toNat]!))) rfl rfl rfl rfl ?_
                          refine r_v (Value.bool (!((r15)[(i11_).toNat]!))) rfl rfl rfl rfl ?_
                          refine lx_nil ?_
                          refine fg _ (Sub.pick [[(b4, 24, #[Value.int .i64 (m1__0), U (hi (m1__1)), U (lo (m1__1))])], S13, S18, Sout9_] [0, 1, 2, 3] rfl) ?_
                          exact ⟨!((r15)[(i11_).toNat]!), hM, is_mk rfl rfl⟩
                        · replace hM := ifn (ne_of_beq_false hc95) hM
                          refine A_skip ?_
                          refine fg _ (Sub.pick [[(b4, 24, #[Value.int .i64 (m1__0), U (hi (m1__1)), U (lo (m1__1))])], S13, S18, Sout9_] [0, 1, 2, 3] rfl) ?_
                          exact ⟨(r15)[(i11_).toNat]!, hM, is_mk rfl rfl⟩
                      · replace hM := ifp (eq_of_beq hg94) hM
                        refine r_n true rfl (by decide) rfl ?_
                        refine r_n true rfl (by decide) rfl ?_
                        refine r_v (Value.bool (true)) rfl rfl rfl rfl ?_
                        refine lx_nil ?_
                        refine hK93 _ _ ?_; try clear hK93 K93
                        refine A_cond true rfl (fun _ => ?_) (fun h_ => nomatch h_)
                        refine A_reg ?_
                        refine r_v (Value.bool ((r15)[(i11_).toNat]!)) rfl rfl rfl rfl ?_
                        refine r_v (Value.bool (!((r15)[(i11_).toNat]!))) rfl rfl rfl rfl ?_
                        refine r_v (Value.bool (!((r15)[(i11_).toNat]!))) rfl rfl rfl rfl ?_
                        refine lx_nil ?_
                        refine fg _ (Sub.pick [[(b4, 24, #[Value.int .i64 (m1__0), U (hi (m1__1)), U (lo (m1__1))])], S13, S18, Sout9_] [0, 1, 2, 3] rfl) ?_
                        exact ⟨!((r15)[(i11_).toNat]!), hM, is_mk rfl rfl⟩
                    · clear hM; rintro t l ⟨q13_, hM, ⟨T, rfl⟩, rfl⟩
                      unfold shunterref02_Two_k14 at hM
                      refine A_seq fun K65 hK65 => ?_
                      refine A_reg ?_
                      refine r_v (Value.int .i64 (0)) rfl rfl rfl rfl ?_
                      refine lx_nil ?_
                      refine hK65 _ _ ?_; try clear hK65 K65
                      refine A_cut (fun tt ll => ∃ (n15_ : Int), (shunterref02_Two_k16 op r10 out9_ carry10_ i11_ (shunterref02_Two_l12 N op r10 r15 less3_ n57) q13_ n15_ = some r) ∧ Is [(0, Value.string (⟨(op).toArray⟩)), (6, Value.pointer (some ⟨b4, 0, none⟩)), (8, s12), (9, s17), (10, Value.bool (less3_)), (13, vout9_), (14, Value.bool (carry10_)), (15, Value.int .i64 (i11_)), (16, Value.bool ((r10)[(i11_).toNat]!)), (17, Value.bool (q13_)), (18, Value.int .i64 (n15_))] (List.flatten [[(b4, 24, #[Value.int .i64 (m1__0), U (hi (m1__1)), U (lo (m1__1))])], S13, S18, Sout9_]) tt ll) ?_ ?_
                      · refine A_seq fun K91 hK91 => ?_
                        refine A_reg ?_
                        refine r_v (Value.bool ((r10)[(i11_).toNat]!)) rfl rfl rfl rfl ?_
                        refine lx_nil ?_
                        refine hK91 _ _ ?_; try clear hK91 K91
                        refine A_cond ((r10)[(i11_).toNat]!) rfl (fun hc92 => ?_) (fun hc92 => ?_)
                        · replace hM := ifp hc92 hM
                          refine A_reg ?_
                          refine r_v (Value.int .i64 (0)) rfl rfl rfl rfl ?_
                          refine r_v (Value.int .i64 (1)) rfl rfl (wi64 rfl (by decide) (by decide)) rfl ?_
                          refine r_v (Value.int .i64 (1)) rfl rfl rfl rfl ?_
                          refine lx_nil ?_
                          refine fg _ (Sub.pick [[(b4, 24, #[Value.int .i64 (m1__0), U (hi (m1__1)), U (lo (m1__1))])], S13, S18, Sout9_] [0, 1, 2, 3] rfl) ?_
                          exact ⟨1, hM, is_mk rfl rfl⟩
                        · replace hM := ifn (Bool.eq_false_iff.1 hc92) hM
                          refine A_skip ?_
                          refine fg _ (Sub.pick [[(b4, 24, #[Value.int .i64 (m1__0), U (hi (m1__1)), U (lo (m1__1))])], S13, S18, Sout9_] [0, 1, 2, 3] rfl) ?_
                          exact ⟨0, hM, is_mk rfl rfl⟩
                      · clear hM; rintro t l ⟨n15_, hM, ⟨T, rfl⟩, rfl⟩
                        unfold shunterref02_Two_k16 at hM
                        refine A_cut (fun tt ll => ∃ (n17_ : Int), (shunterref02_Two_k18 op r10 out9_ carry10_ i11_ (shunterref02_Two_l12 N op r10 r15 less3_ n57) q13_ n17_ = some r) ∧ Is [(0, Value.string (⟨(op).toArray⟩)), (6, Value.pointer (some ⟨b4, 0, none⟩)), (8, s12), (9, s17), (10, Value.bool (less3_)), (13, vout9_), (14, Value.bool (carry10_)), (15, Value.int .i64 (i11_)), (16, Value.bool ((r10)[(i11_).toNat]!)), (17, Value.bool (q13_)), (18, Value.int .i64 (n17_))] (List.flatten [[(b4, 24, #[Value.int .i64 (m1__0), U (hi (m1__1)), U (lo (m1__1))])], S13, S18, Sout9_]) tt ll) ?_ ?_
                        · refine A_seq fun K88 hK88 => ?_
                          refine A_reg ?_
                          refine r_v (Value.bool (q13_)) rfl rfl rfl rfl ?_
                          refine lx_nil ?_
                          refine hK88 _ _ ?_; try clear hK88 K88
                          refine A_cond (q13_) rfl (fun hc89 => ?_) (fun hc89 => ?_)
                          · replace hM := ifp hc89 hM
                            refine A_reg ?_
                            refine r_v (Value.int .i64 (n15_)) rfl rfl rfl rfl ?_
                            replace hM := ck_some hM; obtain ⟨ck90, hM⟩ := hM
                            refine r_v (Value.int .i64 ((n15_ + 1))) rfl rfl (wi64 rfl ck90.1 ck90.2) rfl ?_
                            refine r_v (Value.int .i64 ((n15_ + 1))) rfl rfl rfl rfl ?_
                            refine lx_nil ?_
                            refine fg _ (Sub.pick [[(b4, 24, #[Value.int .i64 (m1__0), U (hi (m1__1)), U (lo (m1__1))])], S13, S18, Sout9_] [0, 1, 2, 3] rfl) ?_
                            exact ⟨(n15_ + 1), hM, is_mk rfl rfl⟩
                          · replace hM := ifn (Bool.eq_false_iff.1 hc89) hM
                            refine A_skip ?_
                            refine fg _ (Sub.pick [[(b4, 24, #[Value.int .i64 (m1__0), U (hi (m1__1)), U (lo (m1__1))])], S13, S18, Sout9_] [0, 1, 2, 3] rfl) ?_
                            exact ⟨n15_, hM, is_mk rfl rfl⟩
                        · clear hM; rintro t l ⟨n17_, hM, ⟨T, rfl⟩, rfl⟩
                          unfold shunterref02_Two_k18 at hM
                          refine A_cut (fun tt ll => ∃ (n19_ : Int), (shunterref02_Two_k20 op r10 out9_ i11_ (shunterref02_Two_l12 N op r10 r15 less3_ n57) q13_ n19_ = some r) ∧ Is [(0, Value.string (⟨(op).toArray⟩)), (6, Value.pointer (some ⟨b4, 0, none⟩)), (8, s12), (9, s17), (10, Value.bool (less3_)), (13, vout9_), (15, Value.int .i64 (i11_)), (16, Value.bool ((r10)[(i11_).toNat]!)), (17, Value.bool (q13_)), (18, Value.int .i64 (n19_))] (List.flatten [[(b4, 24, #[Value.int .i64 (m1__0), U (hi (m1__1)), U (lo (m1__1))])], S13, S18, Sout9_]) tt ll) ?_ ?_
                          · refine A_seq fun K85 hK85 => ?_
                            refine A_reg ?_
                            refine r_v (Value.bool (carry10_)) rfl rfl rfl rfl ?_
                            refine lx_nil ?_
                            refine hK85 _ _ ?_; try clear hK85 K85
                            refine A_cond (carry10_) rfl (fun hc86 => ?_) (fun hc86 => ?_)
                            · replace hM := ifp hc86 hM
                              refine A_reg ?_
                              refine r_v (Value.int .i64 (n17_)) rfl rfl rfl rfl ?_
                              replace hM := ck_some hM; obtain ⟨ck87, hM⟩ := hM
                              refine r_v (Value.int .i64 ((n17_ + 1))) rfl rfl (wi64 rfl ck87.1 ck87.2) rfl ?_
                              refine r_v (Value.int .i64 ((n17_ + 1))) rfl rfl rfl rfl ?_
                              refine lx_nil ?_
                              refine fg _ (Sub.pick [[(b4, 24, #[Value.int .i64 (m1__0), U (hi (m1__1)), U (lo (m1__1))])], S13, S18, Sout9_] [0, 1, 2, 3] rfl) ?_
                              exact ⟨(n17_ + 1), hM, is_mk rfl rfl⟩
                            · replace hM := ifn (Bool.eq_false_iff.1 hc86) hM
                              refine A_skip ?_
                              refine fg _ (Sub.pick [[(b4, 24, #[Value.int .i64 (m1__0), U (hi (m1__1)), U (lo (m1__1))])], S13, S18, Sout9_] [0, 1, 2, 3] rfl) ?_
                              exact ⟨n17_, hM, is_mk rfl rfl⟩
                          · clear hM; rintro t l ⟨n19_, hM, ⟨T, rfl⟩, rfl⟩
                            unfold shunterref02_Two_k20 at hM
                            refine A_seq fun K66 hK66 => ?_
                            refine A_reg ?_
                            refine r_v (Value.int .i64 (n19_)) rfl rfl rfl rfl ?_
                            replace hM := ck_some hM; obtain ⟨ck67, hM⟩ := hM
                            refine r_v (Value.int .i64 ((n19_) % 2)) rfl rfl (rem_i64 ck67.1) rfl ?_
                            refine r_v (Value.bool ((((n19_) % 2 : Int) == 1))) rfl rfl rfl rfl ?_
                            refine r_v (Value.bool ((((n19_) % 2 : Int) == 1))) rfl rfl rfl rfl ?_
                            refine lx_nil ?_
                            refine hK66 _ _ ?_; try clear hK66 K66
                            refine A_seq fun K68 hK68 => ?_
                            refine A_reg ?_
                            refine r_v (Value.int .i64 (n19_)) rfl rfl rfl rfl ?_
                            refine r_v (Value.bool (decide ((n19_ : Int) ≥ 2))) rfl rfl rfl rfl ?_
                            refine r_v (Value.bool (decide ((n19_ : Int) ≥ 2))) rfl rfl rfl rfl ?_
                            refine lx_nil ?_
                            refine hK68 _ _ ?_; try clear hK68 K68
                            refine A_cut (fun tt ll => ∃ (bit21_ : Bool), (shunterref02_Two_k22 op r10 out9_ i11_ (shunterref02_Two_l12 N op r10 r15 less3_ n57) q13_ n19_ bit21_ = some r) ∧ Is [(0, Value.string (⟨(op).toArray⟩)), (6, Value.pointer (some ⟨b4, 0, none⟩)), (8, s12), (9, s17), (10, Value.bool (less3_)), (13, vout9_), (14, Value.bool (decide ((n19_ : Int) ≥ 2))), (15, Value.int .i64 (i11_)), (16, Value.bool ((r10)[(i11_).toNat]!)), (17, Value.bool (q13_)), (19, Value.bool (bit21_))] (List.flatten [[(b4, 24, #[Value.int .i64 (m1__0), U (hi (m1__1)), U (lo (m1__1))])], S13, S18, Sout9_]) tt ll) ?_ ?_
                            · refine A_seq fun K82 hK82 => ?_
                              refine A_reg ?_
                              refine r_v (Value.string (⟨(op).toArray⟩)) rfl rfl rfl rfl ?_
                              refine r_v (Value.bool ((op) == (([97, 110, 100] : List UInt8)))) rfl rfl rfl (ev_eqS rfl rfl) ?_
                              refine lx_nil ?_
                              refine hK82 _ _ ?_; try clear hK82 K82
                              refine A_cond ((op) == (([97, 110, 100] : List UInt8))) rfl (fun hc83 => ?_) (fun hc83 => ?_)
                              · replace hM := ifp (eq_of_beq hc83) hM
                                refine A_reg ?_
                                refine r_v (Value.bool ((r10)[(i11_).toNat]!)) rfl rfl rfl rfl ?_
                                refine r_v (Value.bool ((r10)[(i11_).toNat]!)) rfl rfl rfl rfl ?_
                                rcases hg84 : ((r10)[(i11_).toNat]!) with _ | _
                                · replace hM := ifn (Bool.eq_false_iff.1 hg84) hM
                                  refine r_n false rfl (by decide) rfl ?_
                                  refine r_v (Value.bool (false)) rfl rfl rfl rfl ?_
                                  refine r_v (Value.bool (false)) rfl rfl rfl rfl ?_
                                  refine lx_nil ?_
                                  refine fg _ (Sub.pick [[(b4, 24, #[Value.int .i64 (m1__0), U (hi (m1__1)), U (lo (m1__1))])], S13, S18, Sout9_] [0, 1, 2, 3] rfl) ?_
                                  exact ⟨false, hM, is_mk rfl rfl⟩
                                · replace hM := ifp hg84 hM
                                  refine r_y rfl ?_
                                  refine r_v (Value.bool (q13_)) rfl rfl rfl rfl ?_
                                  refine r_v (Value.bool (q13_)) rfl rfl rfl rfl ?_
                                  refine r_v (Value.bool (q13_)) rfl rfl rfl rfl ?_
                                  refine lx_nil ?_
                                  refine fg _ (Sub.pick [[(b4, 24, #[Value.int .i64 (m1__0), U (hi (m1__1)), U (lo (m1__1))])], S13, S18, Sout9_] [0, 1, 2, 3] rfl) ?_
                                  exact ⟨q13_, hM, is_mk rfl rfl⟩
                              · replace hM := ifn (ne_of_beq_false hc83) hM
                                refine A_skip ?_
                                refine fg _ (Sub.pick [[(b4, 24, #[Value.int .i64 (m1__0), U (hi (m1__1)), U (lo (m1__1))])], S13, S18, Sout9_] [0, 1, 2, 3] rfl) ?_
                                exact ⟨(((n19_) % 2 : Int) == 1), hM, is_mk rfl rfl⟩
                            · clear hM; rintro t l ⟨bit21_, hM, ⟨T, rfl⟩, rfl⟩
                              unfold shunterref02_Two_k22 at hM
                              refine A_cut (fun tt ll => ∃ (bit23_ : Bool), (shunterref02_Two_k24 op r10 out9_ i11_ (shunterref02_Two_l12 N op r10 r15 less3_ n57) q13_ n19_ bit23_ = some r) ∧ Is [(0, Value.string (⟨(op).toArray⟩)), (6, Value.pointer (some ⟨b4, 0, none⟩)), (8, s12), (9, s17), (10, Value.bool (less3_)), (13, vout9_), (14, Value.bool (decide ((n19_ : Int) ≥ 2))), (15, Value.int .i64 (i11_)), (16, Value.bool ((r10)[(i11_).toNat]!)), (17, Value.bool (q13_)), (19, Value.bool (bit23_))] (List.flatten [[(b4, 24, #[Value.int .i64 (m1__0), U (hi (m1__1)), U (lo (m1__1))])], S13, S18, Sout9_]) tt ll) ?_ ?_
                              · refine A_seq fun K79 hK79 => ?_
                                refine A_reg ?_
                                refine r_v (Value.string (⟨(op).toArray⟩)) rfl rfl rfl rfl ?_
                                refine r_v (Value.bool ((op) == (([111, 114] : List UInt8)))) rfl rfl rfl (ev_eqS rfl rfl) ?_
                                refine lx_nil ?_
                                refine hK79 _ _ ?_; try clear hK79 K79
                                refine A_cond ((op) == (([111, 114] : List UInt8))) rfl (fun hc80 => ?_) (fun hc80 => ?_)
                                · replace hM := ifp (eq_of_beq hc80) hM
                                  refine A_reg ?_
                                  refine r_v (Value.bool ((r10)[(i11_).toNat]!)) rfl rfl rfl rfl ?_
                                  refine r_v (Value.bool ((r10)[(i11_).toNat]!)) rfl rfl rfl rfl ?_
                                  rcases hg81 : ((r10)[(i11_).toNat]!) with _ | _
                                  · replace hM := ifn (Bool.eq_false_iff.1 hg81) hM
                                    refine r_y rfl ?_
                                    refine r_v (Value.bool (q13_)) rfl rfl rfl rfl ?_
                                    refine r_v (Value.bool (q13_)) rfl rfl rfl rfl ?_
                                    refine r_v (Value.bool (q13_)) rfl rfl rfl rfl ?_
                                    refine lx_nil ?_
                                    refine fg _ (Sub.pick [[(b4, 24, #[Value.int .i64 (m1__0), U (hi (m1__1)), U (lo (m1__1))])], S13, S18, Sout9_] [0, 1, 2, 3] rfl) ?_
                                    exact ⟨q13_, hM, is_mk rfl rfl⟩
                                  · replace hM := ifp hg81 hM
                                    refine r_n true rfl (by decide) rfl ?_
                                    refine r_v (Value.bool (true)) rfl rfl rfl rfl ?_
                                    refine r_v (Value.bool (true)) rfl rfl rfl rfl ?_
                                    refine lx_nil ?_
                                    refine fg _ (Sub.pick [[(b4, 24, #[Value.int .i64 (m1__0), U (hi (m1__1)), U (lo (m1__1))])], S13, S18, Sout9_] [0, 1, 2, 3] rfl) ?_
                                    exact ⟨true, hM, is_mk rfl rfl⟩
                                · replace hM := ifn (ne_of_beq_false hc80) hM
                                  refine A_skip ?_
                                  refine fg _ (Sub.pick [[(b4, 24, #[Value.int .i64 (m1__0), U (hi (m1__1)), U (lo (m1__1))])], S13, S18, Sout9_] [0, 1, 2, 3] rfl) ?_
                                  exact ⟨bit21_, hM, is_mk rfl rfl⟩
                              · clear hM; rintro t l ⟨bit23_, hM, ⟨T, rfl⟩, rfl⟩
                                unfold shunterref02_Two_k24 at hM
                                refine A_cut (fun tt ll => ∃ (bit25_ : Bool), (shunterref02_Two_k26 out9_ i11_ (shunterref02_Two_l12 N op r10 r15 less3_ n57) n19_ bit25_ = some r) ∧ Is [(0, Value.string (⟨(op).toArray⟩)), (6, Value.pointer (some ⟨b4, 0, none⟩)), (8, s12), (9, s17), (10, Value.bool (less3_)), (13, vout9_), (14, Value.bool (decide ((n19_ : Int) ≥ 2))), (15, Value.int .i64 (i11_)), (19, Value.bool (bit25_))] (List.flatten [[(b4, 24, #[Value.int .i64 (m1__0), U (hi (m1__1)), U (lo (m1__1))])], S13, S18, Sout9_]) tt ll) ?_ ?_
                                · refine A_seq fun K77 hK77 => ?_
                                  refine A_reg ?_
                                  refine r_v (Value.string (⟨(op).toArray⟩)) rfl rfl rfl rfl ?_
                                  refine r_v (Value.bool ((op) == (([120, 111, 114] : List UInt8)))) rfl rfl rfl (ev_eqS rfl rfl) ?_
                                  refine lx_nil ?_
                                  refine hK77 _ _ ?_; try clear hK77 K77
                                  refine A_cond ((op) == (([120, 111, 114] : List UInt8))) rfl (fun hc78 => ?_) (fun hc78 => ?_)
                                  · replace hM := ifp (eq_of_beq hc78) hM
                                    refine A_reg ?_
                                    refine r_v (Value.bool ((r10)[(i11_).toNat]!)) rfl rfl rfl rfl ?_
                                    refine r_v (Value.bool (q13_)) rfl rfl rfl rfl ?_
                                    refine r_v (Value.bool (((r10)[(i11_).toNat]!) != (q13_))) rfl rfl rfl (ev_binBn rfl rfl rfl) ?_
                                    refine r_v (Value.bool (((r10)[(i11_).toNat]!) != (q13_))) rfl rfl rfl rfl ?_
                                    refine lx_nil ?_
                                    refine fg _ (Sub.pick [[(b4, 24, #[Value.int .i64 (m1__0), U (hi (m1__1)), U (lo (m1__1))])], S13, S18, Sout9_] [0, 1, 2, 3] rfl) ?_
                                    exact ⟨((r10)[(i11_).toNat]!) != (q13_), hM, is_mk rfl rfl⟩
                                  · replace hM := ifn (ne_of_beq_false hc78) hM
                                    refine A_skip ?_
                                    refine fg _ (Sub.pick [[(b4, 24, #[Value.int .i64 (m1__0), U (hi (m1__1)), U (lo (m1__1))])], S13, S18, Sout9_] [0, 1, 2, 3] rfl) ?_
                                    exact ⟨bit23_, hM, is_mk rfl rfl⟩
                                · clear hM; rintro t l ⟨bit25_, hM, ⟨T, rfl⟩, rfl⟩
                                  unfold shunterref02_Two_k26 at hM
                                  refine A_regC [(some 130, false), (some 131, true)] (conG Tryd.prog []) ?_
                                  refine r_v (vout9_) rfl rfl rfl rfl ?_
                                  refine r_v (Value.bool (bit25_)) rfl rfl rfl rfl ?_
                                  refine r_bs (cs0 := []) (Ls := [[(b4, 24, #[Value.int .i64 (m1__0), U (hi (m1__1)), U (lo (m1__1))])], S13, S18, Sout9_]) 4 encB [bit25_] [Value.bool (bit25_)] [Value.bool (false)] rfl rfl rfl rfl rfl rfl rfl rfl (by kernel_rfl) (by kernel_rfl) rfl rfl rfl (fun s69 S70 H71 => ?_)
                                  replace hM := ck_some hM; obtain ⟨ck72, hM⟩ := hM
                                  refine r_app (cs0 := []) (Ls := [[(b4, 24, #[Value.int .i64 (m1__0), U (hi (m1__1)), U (lo (m1__1))])], S13, S18, Sout9_, S70]) 3 (En := encB) rfl rfl rfl rfl rfl hout9_ rfl (rd_own H71 (mem_chunk (Ls := [[(b4, 24, #[Value.int .i64 (m1__0), U (hi (m1__1)), U (lo (m1__1))])], S13, S18, Sout9_, S70]) (k := 4) rfl rfl)) rfl rfl rfl rfl rfl (app_b ck72 rfl) (app_m ck72 rfl) rfl (fun s73 S74 H75 => ?_)
                                  refine r_v (s73) rfl rfl rfl rfl ?_
                                  refine lx_nil ?_
                                  refine hK61 _ _ ?_; try clear hK61 K61
                                  refine A_reg ?_
                                  refine r_v (Value.int .i64 (i11_)) rfl rfl rfl rfl ?_
                                  replace hM := ck_some hM; obtain ⟨ck76, hM⟩ := hM
                                  refine r_v (Value.int .i64 ((i11_ + 1))) rfl rfl (wi64 rfl ck76.1 ck76.2) rfl ?_
                                  refine r_v (Value.int .i64 ((i11_ + 1))) rfl rfl rfl rfl ?_
                                  refine lx_nil ?_
                                  refine fg _ (Sub.pick [[(b4, 24, #[Value.int .i64 (m1__0), U (hi (m1__1)), U (lo (m1__1))])], S13, S18, S74, S70] [0, 1, 2, 3] rfl) ?_
                                  exact ⟨n57 + 1, by omega, n57, (out9_ ++ ([bit25_])), decide ((n19_ : Int) ≥ 2), (i11_ + 1), hM, s73, S74, H75, is_mk rfl rfl, rfl⟩
                  · replace hM := ifn (of_decide_eq_false hc60) hM
                    refine A_exit ?_
                    refine hK55 _ _ ?_; try clear hK55 K55
                    refine A_seq fun K96 hK96 => ?_
                    refine A_seq fun K97 hK97 => ?_
                    refine A_reg ?_
                    refine r_v (Value.int .i64 (0)) rfl rfl rfl rfl ?_
                    refine lx_nil ?_
                    refine hK97 _ _ ?_; try clear hK97 K97
                    refine A_block ?_
                    refine A_forget _ (Sub.pick [[(b4, 24, #[Value.int .i64 (m1__0), U (hi (m1__1)), U (lo (m1__1))])], S13, S18, Sout9_] [0, 3] rfl) ?_
                    refine A_loop (fun tt ll nn => ∃ (n98 : Nat) (out27_ : List Bool) (i28_ : Int), (shunterref02_Two_l29 N op less3_ carry10_ n98 out27_ i28_ = some r) ∧ ∃ (vout27_ : Value) (Sout27_ : List Bl), Sl 4 encB vout27_ out27_ Sout27_ ∧ Is [(0, Value.string (⟨(op).toArray⟩)), (6, Value.pointer (some ⟨b4, 0, none⟩)), (10, Value.bool (less3_)), (13, vout27_), (14, Value.bool (carry10_)), (20, Value.int .i64 (i28_))] (List.flatten [[(b4, 24, #[Value.int .i64 (m1__0), U (hi (m1__1)), U (lo (m1__1))])], Sout27_]) tt ll ∧ nn = n98 + 1) (N + 1) ?_ ?_
                    · exact ⟨N, out9_, 0, hM, vout9_, Sout9_, hout9_, is_mk rfl rfl, rfl⟩
                    · clear hM; rintro t l _ ⟨n98, out27_, i28_, hM, vout27_, Sout27_, hout27_, ⟨⟨T, rfl⟩, rfl⟩, rfl⟩
                      rcases n98 with _ | n98
                      · exact absurd hM (by simp [shunterref02_Two_l29])
                      rw [shunterref02_Two_l29] at hM
                      refine A_seq fun K99 hK99 => ?_
                      refine A_seq fun K100 hK100 => ?_
                      refine A_reg ?_
                      refine r_v (Value.int .i64 (i28_)) rfl rfl rfl rfl ?_
                      refine r_v (vout27_) rfl rfl rfl rfl ?_
                      refine r_v (Value.int .i64 (((out27_).length : Int))) rfl rfl rfl (ev_lenSl rfl rfl rfl (Sl.shp hout27_)) ?_
                      refine r_v (Value.bool (decide ((i28_ : Int) < ((out27_).length : Int)))) rfl rfl rfl rfl ?_
                      refine lx_nil ?_
                      refine hK100 _ _ ?_; try clear hK100 K100
                      refine A_cond (decide ((i28_ : Int) < ((out27_).length : Int))) rfl (fun hc101 => ?_) (fun hc101 => ?_)
                      · replace hM := ifp (of_decide_eq_true hc101) hM
                        refine A_skip ?_
                        refine hK99 _ _ ?_; try clear hK99 K99
                        refine A_seq fun K102 hK102 => ?_
                        refine A_block ?_
                        refine A_cut (fun tt ll => ∃ (out30_ : List Bool), (shunterref02_Two_k31 op less3_ i28_ (shunterref02_Two_l29 N op less3_ carry10_ n98) out30_ = some r) ∧ ∃ (vout30_ : Value) (Sout30_ : List Bl), Sl 4 encB vout30_ out30_ Sout30_ ∧ Is [(0, Value.string (⟨(op).toArray⟩)), (6, Value.pointer (some ⟨b4, 0, none⟩)), (10, Value.bool (less3_)), (13, vout30_), (14, Value.bool (carry10_)), (20, Value.int .i64 (i28_))] (List.flatten [[(b4, 24, #[Value.int .i64 (m1__0), U (hi (m1__1)), U (lo (m1__1))])], Sout30_]) tt ll) ?_ ?_
                        · refine A_seq fun K112 hK112 => ?_
                          refine A_reg ?_
                          refine r_v (Value.string (⟨(op).toArray⟩)) rfl rfl rfl rfl ?_
                          refine r_v (Value.bool ((op) == (([97, 100, 100, 115, 97, 116] : List UInt8)))) rfl rfl rfl (ev_eqS rfl rfl) ?_
                          refine r_v (Value.bool ((op) == (([97, 100, 100, 115, 97, 116] : List UInt8)))) rfl rfl rfl rfl ?_
                          rcases hg113 : ((op) == (([97, 100, 100, 115, 97, 116] : List UInt8))) with _ | _
                          · replace hM := ifn (ne_of_beq_false hg113) hM
                            refine r_n false rfl (by decide) rfl ?_
                            refine r_v (Value.bool (false)) rfl rfl rfl rfl ?_
                            refine lx_nil ?_
                            refine hK112 _ _ ?_; try clear hK112 K112
                            refine A_cond false rfl (fun h_ => nomatch h_) (fun _ => ?_)
                            refine A_skip ?_
                            refine fg _ (Sub.pick [[(b4, 24, #[Value.int .i64 (m1__0), U (hi (m1__1)), U (lo (m1__1))])], Sout27_] [0, 1] rfl) ?_
                            exact ⟨out27_, hM, vout27_, Sout27_, hout27_, is_mk rfl rfl⟩
                          · replace hM := ifp (eq_of_beq hg113) hM
                            refine r_y rfl ?_
                            refine r_v (Value.bool (carry10_)) rfl rfl rfl rfl ?_
                            refine r_v (Value.bool (carry10_)) rfl rfl rfl rfl ?_
                            refine lx_nil ?_
                            refine hK112 _ _ ?_; try clear hK112 K112
                            refine A_cond (carry10_) rfl (fun hc114 => ?_) (fun hc114 => ?_)
                            · replace hM := ifp hc114 hM
                              refine A_reg ?_
                              refine r_v (vout27_) rfl rfl rfl rfl ?_
                              refine r_v (Value.int .i64 (i28_)) rfl rfl rfl rfl ?_
                              replace hM := ck_some hM; obtain ⟨ck115, hM⟩ := hM
                              refine r_v (elA vout27_ ((i28_).toNat * 1)) rfl rfl rfl (ev_v (ev_idxSl rfl rfl rfl (Sl.shp hout27_) ck115)) ?_
                              refine r_se (Ls := [[(b4, 24, #[Value.int .i64 (m1__0), U (hi (m1__1)), U (lo (m1__1))])], Sout27_]) 1 (En := encB) ((out27_)[(i28_).toNat]!) (true) ((i28_).toNat) 0 rfl rfl rfl hout27_ (get_of ck115) rfl rfl rfl (one_all rfl) rfl (fun S116 H117 => ?_)
                              refine lx_nil ?_
                              refine fg _ (Sub.pick [[(b4, 24, #[Value.int .i64 (m1__0), U (hi (m1__1)), U (lo (m1__1))])], S116] [0, 1] rfl) ?_
                              exact ⟨(out27_).set ((i28_).toNat) (true), hM, vout27_, S116, H117, is_mk rfl rfl⟩
                            · replace hM := ifn (Bool.eq_false_iff.1 hc114) hM
                              refine A_skip ?_
                              refine fg _ (Sub.pick [[(b4, 24, #[Value.int .i64 (m1__0), U (hi (m1__1)), U (lo (m1__1))])], Sout27_] [0, 1] rfl) ?_
                              exact ⟨out27_, hM, vout27_, Sout27_, hout27_, is_mk rfl rfl⟩
                        · clear hM; rintro t l ⟨out30_, hM, vout30_, Sout30_, hout30_, ⟨T, rfl⟩, rfl⟩
                          unfold shunterref02_Two_k31 at hM
                          refine A_seq fun K103 hK103 => ?_
                          refine A_reg ?_
                          refine r_v (Value.string (⟨(op).toArray⟩)) rfl rfl rfl rfl ?_
                          refine r_v (Value.bool ((op) == (([115, 117, 98, 115, 97, 116] : List UInt8)))) rfl rfl rfl (ev_eqS rfl rfl) ?_
                          refine r_v (Value.bool ((op) == (([115, 117, 98, 115, 97, 116] : List UInt8)))) rfl rfl rfl rfl ?_
                          rcases hg104 : ((op) == (([115, 117, 98, 115, 97, 116] : List UInt8))) with _ | _
                          · replace hM := ifn (ne_of_beq_false hg104) hM
                            refine r_n false rfl (by decide) rfl ?_
                            refine r_v (Value.bool (false)) rfl rfl rfl rfl ?_
                            refine lx_nil ?_
                            refine hK103 _ _ ?_; try clear hK103 K103
                            refine A_cond false rfl (fun h_ => nomatch h_) (fun _ => ?_)
                            refine A_skip ?_
                            refine hK102 _ _ ?_; try clear hK102 K102
                            refine A_reg ?_
                            refine r_v (Value.int .i64 (i28_)) rfl rfl rfl rfl ?_
                            replace hM := ck_some hM; obtain ⟨ck105, hM⟩ := hM
                            refine r_v (Value.int .i64 ((i28_ + 1))) rfl rfl (wi64 rfl ck105.1 ck105.2) rfl ?_
                            refine r_v (Value.int .i64 ((i28_ + 1))) rfl rfl rfl rfl ?_
                            refine lx_nil ?_
                            refine fg _ (Sub.pick [[(b4, 24, #[Value.int .i64 (m1__0), U (hi (m1__1)), U (lo (m1__1))])], Sout30_] [0, 1] rfl) ?_
                            exact ⟨n98 + 1, by omega, n98, out30_, (i28_ + 1), hM, vout30_, Sout30_, hout30_, is_mk rfl rfl, rfl⟩
                          · replace hM := ifp (eq_of_beq hg104) hM
                            refine r_y rfl ?_
                            refine r_v (Value.bool (less3_)) rfl rfl rfl rfl ?_
                            refine r_v (Value.bool (less3_)) rfl rfl rfl rfl ?_
                            refine lx_nil ?_
                            refine hK103 _ _ ?_; try clear hK103 K103
                            refine A_cond (less3_) rfl (fun hc106 => ?_) (fun hc106 => ?_)
                            · replace hM := ifp hc106 hM
                              refine A_reg ?_
                              refine r_v (vout30_) rfl rfl rfl rfl ?_
                              refine r_v (Value.int .i64 (i28_)) rfl rfl rfl rfl ?_
                              replace hM := ck_some hM; obtain ⟨ck107, hM⟩ := hM
                              refine r_v (elA vout30_ ((i28_).toNat * 1)) rfl rfl rfl (ev_v (ev_idxSl rfl rfl rfl (Sl.shp hout30_) ck107)) ?_
                              refine r_se (Ls := [[(b4, 24, #[Value.int .i64 (m1__0), U (hi (m1__1)), U (lo (m1__1))])], Sout30_]) 1 (En := encB) ((out30_)[(i28_).toNat]!) (false) ((i28_).toNat) 0 rfl rfl rfl hout30_ (get_of ck107) rfl rfl rfl (one_all rfl) rfl (fun S108 H109 => ?_)
                              refine lx_nil ?_
                              refine hK102 _ _ ?_; try clear hK102 K102
                              refine A_reg ?_
                              refine r_v (Value.int .i64 (i28_)) rfl rfl rfl rfl ?_
                              replace hM := ck_some hM; obtain ⟨ck110, hM⟩ := hM
                              refine r_v (Value.int .i64 ((i28_ + 1))) rfl rfl (wi64 rfl ck110.1 ck110.2) rfl ?_
                              refine r_v (Value.int .i64 ((i28_ + 1))) rfl rfl rfl rfl ?_
                              refine lx_nil ?_
                              refine fg _ (Sub.pick [[(b4, 24, #[Value.int .i64 (m1__0), U (hi (m1__1)), U (lo (m1__1))])], S108] [0, 1] rfl) ?_
                              exact ⟨n98 + 1, by omega, n98, (out30_).set ((i28_).toNat) (false), (i28_ + 1), hM, vout30_, S108, H109, is_mk rfl rfl, rfl⟩
                            · replace hM := ifn (Bool.eq_false_iff.1 hc106) hM
                              refine A_skip ?_
                              refine hK102 _ _ ?_; try clear hK102 K102
                              refine A_reg ?_
                              refine r_v (Value.int .i64 (i28_)) rfl rfl rfl rfl ?_
                              replace hM := ck_some hM; obtain ⟨ck111, hM⟩ := hM
                              refine r_v (Value.int .i64 ((i28_ + 1))) rfl rfl (wi64 rfl ck111.1 ck111.2) rfl ?_
                              refine r_v (Value.int .i64 ((i28_ + 1))) rfl rfl rfl rfl ?_
                              refine lx_nil ?_
                              refine fg _ (Sub.pick [[(b4, 24, #[Value.int .i64 (m1__0), U (hi (m1__1)), U (lo (m1__1))])], Sout30_] [0, 1] rfl) ?_
                              exact ⟨n98 + 1, by omega, n98, out30_, (i28_ + 1), hM, vout30_, Sout30_, hout30_, is_mk rfl rfl, rfl⟩
                      · replace hM := ifn (of_decide_eq_false hc101) hM
                        refine A_exit ?_
                        refine hK96 _ _ ?_; try clear hK96 K96
                        refine A_seq fun K118 hK118 => ?_
                        refine A_regC [(some 155, false)] (conG Tryd.prog [(155, fun v_ L_ U_ => ∀ u0_, shunterref02_Of_m N out27_ = some u0_ → (pV (Value.agg #[Value.int .i64 (u0_.1), U (hi (u0_.2)), U (lo (u0_.2))])) v_ L_ U_)]) ?_
                        refine r_v (vout27_) rfl rfl rfl rfl ?_
                        replace hM := bind_sm hM; obtain ⟨r119, hr120, hM⟩ := hM
                        refine r_gv (Value.agg #[Value.int .i64 (r119.1), U (hi (r119.2)), U (lo (r119.2))]) 18 _ rfl rfl rfl (ev_callF rfl call_18 rfl) (fun own_ nw_ hs_ => shunterref02_Of_g N out27_ _ hr120 hs_.view vout27_ ((rd_own hout27_ (mem_chunk (Ls := [[(b4, 24, #[Value.int .i64 (m1__0), U (hi (m1__1)), U (lo (m1__1))])], Sout27_]) (k := 1) rfl rfl)) own_ nw_ hs_)) (fun _ _ v_ L_ U_ => ⟨fun h_ => h_ _ hr120, fun h_ => by intro _ e_; cases Option.some.inj (e_.symm.trans hr120); exact h_⟩) ?_
                        refine r_s (List.flatten [[(b4, 24, #[Value.int .i64 (r119.1), U (hi (r119.2)), U (lo (r119.2))])], Sout27_]) 0 _ _ _ (#[Value.int .i64 (m1__0), U (hi (m1__1)), U (lo (m1__1))]) (#[Value.int .i64 (r119.1), U (hi (r119.2)), U (lo (r119.2))]) (#[Value.int .i64 (r119.1), U (hi (r119.2)), U (lo (r119.2))]) rfl rfl rfl rfl (.of rfl rfl) rfl rfl ?_
                        refine r_v (Value.int .i64 (0)) rfl rfl rfl rfl ?_
                        refine lx_nil ?_
                        refine hK118 _ _ ?_; try clear hK118 K118
                        obtain rfl := Option.some.inj hM
                        refine A_ret (fun hn => ends_eq (v0 := Value.tuple #[Value.agg #[Value.int .i64 (r119.1), U (hi (r119.2)), U (lo (r119.2))], Value.int .i64 (0)]) rfl (res2 (res_cell hn 0 rfl rfl rfl) rfl))
def shunterref02_Within_m (N : Nat) (a_0 : Int) (a_1 : BitVec 128) (lo_0 : Int) (lo_1 : BitVec 128) (hi_0 : Int) (hi_1 : BitVec 128) : Option (Bool) := (shunterref02_Two_m N (([108, 101, 115, 115] : List UInt8)) (a_0) (a_1) (lo_0) (lo_1)).bind fun r6 => (shunterref02_Two_m N (([108, 101, 115, 115] : List UInt8)) (hi_0) (hi_1) (a_0) (a_1)).bind fun r10 => if (r6.2.2 : Int) = 0 then if (r10.2.2 : Int) = 0 then if (lo (r6.2.1)) = (0#64) then some ((lo (r10.2.1)) == (0#64)) else some (false) else some (false) else some (false)
set_option maxRecDepth 100000 in
set_option maxHeartbeats 400000 in
theorem shunterref02_Within_g (N : Nat) (a_0 : Int) (a_1 : BitVec 128) (lo_0 : Int) (lo_1 : BitVec 128) (hi_0 : Int) (hi_1 : BitVec 128) (r : Bool) (hM : shunterref02_Within_m N a_0 a_1 lo_0 lo_1 hi_0 hi_1 = some r) : Gives Tryd.prog 44 #[Value.agg #[Value.int .i64 (a_0), U (hi (a_1)), U (lo (a_1))], Value.agg #[Value.int .i64 (lo_0), U (hi (lo_1)), U (lo (lo_1))], Value.agg #[Value.int .i64 (hi_0), U (hi (hi_1)), U (lo (hi_1))]] (Value.bool (r)) := by
  unfold shunterref02_Within_m at hM
  refine gives_of_A follows Tryd.func44 rfl 39 rfl (upd (upd (upd (fun _ => undef) 2 (Value.agg #[Value.int .i64 (hi_0), U (hi (hi_1)), U (lo (hi_1))])) 1 (Value.agg #[Value.int .i64 (lo_0), U (hi (lo_1)), U (lo (lo_1))])) 0 (Value.agg #[Value.int .i64 (a_0), U (hi (a_1)), U (lo (a_1))])) (by funext k; match k with | 0 => rfl | 1 => rfl | 2 => rfl | k + 3 => rfl) (fun base0_ => ?_)
  refine A_seq fun K1 hK1 => ?_
  refine A_reg ?_
  refine r_a (24, #[Value.int .i64 (a_0), U (hi (a_1)), U (lo (a_1))]) rfl rfl rfl (fun b2 => ?_) (.inr rfl)
  refine r_a (24, #[Value.int .i64 (lo_0), U (hi (lo_1)), U (lo (lo_1))]) rfl rfl rfl (fun b3 => ?_) (.inr rfl)
  refine r_a (24, #[Value.int .i64 (hi_0), U (hi (hi_1)), U (lo (hi_1))]) rfl rfl rfl (fun b4 => ?_) (.inr rfl)
  refine r_v (Value.bool (false)) rfl rfl rfl rfl ?_
  refine lx_nil ?_
  refine hK1 _ _ ?_; try clear hK1 K1
  refine A_seq fun K5 hK5 => ?_
  refine A_reg ?_
  refine r_l (Value.agg #[Value.int .i64 (a_0), U (hi (a_1)), U (lo (a_1))]) 2 _ _ _ _ rfl rfl rfl rfl rfl ?_
  refine r_l (Value.agg #[Value.int .i64 (lo_0), U (hi (lo_1)), U (lo (lo_1))]) 1 _ _ _ _ rfl rfl rfl rfl rfl ?_
  replace hM := bind_sm hM; obtain ⟨r6, hr7, hM⟩ := hM
  refine r_c (Value.tuple #[Value.agg #[Value.int .i64 (r6.1), U (hi (r6.2.1)), U (lo (r6.2.1))], Value.int .i64 (r6.2.2)]) rfl _ _ (ev_callF rfl call_28 rfl) (shunterref02_Two_g N (([108, 101, 115, 115] : List UInt8)) (a_0) (a_1) (lo_0) (lo_1) _ hr7) ?_
  refine r_v (Value.tuple #[Value.agg #[Value.int .i64 (r6.1), U (hi (r6.2.1)), U (lo (r6.2.1))], Value.int .i64 (r6.2.2)]) rfl rfl rfl rfl ?_
  refine r_v (Value.agg #[Value.int .i64 (r6.1), U (hi (r6.2.1)), U (lo (r6.2.1))]) rfl rfl rfl rfl ?_
  refine r_v (Value.int .i64 (r6.2.2)) rfl rfl rfl rfl ?_
  refine r_a (24, #[Value.int .i64 (0), U (0#64), U (0#64)]) rfl rfl rfl (fun b8 => ?_) (.inr rfl)
  refine r_s [(b8, 24, #[Value.int .i64 (r6.1), U (hi (r6.2.1)), U (lo (r6.2.1))]), (b4, 24, #[Value.int .i64 (hi_0), U (hi (hi_1)), U (lo (hi_1))]), (b3, 24, #[Value.int .i64 (lo_0), U (hi (lo_1)), U (lo (lo_1))]), (b2, 24, #[Value.int .i64 (a_0), U (hi (a_1)), U (lo (a_1))])] 0 _ _ _ (#[Value.int .i64 (0), U (0#64), U (0#64)]) (#[Value.int .i64 (r6.1), U (hi (r6.2.1)), U (lo (r6.2.1))]) (#[Value.int .i64 (r6.1), U (hi (r6.2.1)), U (lo (r6.2.1))]) rfl rfl rfl rfl (.of rfl rfl) rfl rfl ?_
  refine r_v (Value.int .i64 (r6.2.2)) rfl rfl rfl rfl ?_
  refine lx_nil ?_
  refine hK5 _ _ ?_; try clear hK5 K5
  refine A_seq fun K9 hK9 => ?_
  refine A_reg ?_
  refine r_l (Value.agg #[Value.int .i64 (hi_0), U (hi (hi_1)), U (lo (hi_1))]) 1 _ _ _ _ rfl rfl rfl rfl rfl ?_
  refine r_l (Value.agg #[Value.int .i64 (a_0), U (hi (a_1)), U (lo (a_1))]) 3 _ _ _ _ rfl rfl rfl rfl rfl ?_
  replace hM := bind_sm hM; obtain ⟨r10, hr11, hM⟩ := hM
  refine r_c (Value.tuple #[Value.agg #[Value.int .i64 (r10.1), U (hi (r10.2.1)), U (lo (r10.2.1))], Value.int .i64 (r10.2.2)]) rfl _ _ (ev_callF rfl call_28 rfl) (shunterref02_Two_g N (([108, 101, 115, 115] : List UInt8)) (hi_0) (hi_1) (a_0) (a_1) _ hr11) ?_
  refine r_v (Value.tuple #[Value.agg #[Value.int .i64 (r10.1), U (hi (r10.2.1)), U (lo (r10.2.1))], Value.int .i64 (r10.2.2)]) rfl rfl rfl rfl ?_
  refine r_v (Value.agg #[Value.int .i64 (r10.1), U (hi (r10.2.1)), U (lo (r10.2.1))]) rfl rfl rfl rfl ?_
  refine r_v (Value.int .i64 (r10.2.2)) rfl rfl rfl rfl ?_
  refine r_a (24, #[Value.int .i64 (0), U (0#64), U (0#64)]) rfl rfl rfl (fun b12 => ?_) (.inr rfl)
  refine r_s [(b12, 24, #[Value.int .i64 (r10.1), U (hi (r10.2.1)), U (lo (r10.2.1))]), (b8, 24, #[Value.int .i64 (r6.1), U (hi (r6.2.1)), U (lo (r6.2.1))]), (b4, 24, #[Value.int .i64 (hi_0), U (hi (hi_1)), U (lo (hi_1))]), (b3, 24, #[Value.int .i64 (lo_0), U (hi (lo_1)), U (lo (lo_1))]), (b2, 24, #[Value.int .i64 (a_0), U (hi (a_1)), U (lo (a_1))])] 0 _ _ _ (#[Value.int .i64 (0), U (0#64), U (0#64)]) (#[Value.int .i64 (r10.1), U (hi (r10.2.1)), U (lo (r10.2.1))]) (#[Value.int .i64 (r10.1), U (hi (r10.2.1)), U (lo (r10.2.1))]) rfl rfl rfl rfl (.of rfl rfl) rfl rfl ?_
  refine r_v (Value.int .i64 (r10.2.2)) rfl rfl rfl rfl ?_
  refine lx_nil ?_
  refine hK9 _ _ ?_; try clear hK9 K9
  refine A_seq fun K13 hK13 => ?_
  refine A_reg ?_
  refine r_v (Value.int .i64 (r6.2.2)) rfl rfl rfl rfl ?_
  refine r_v (Value.bool (((r6.2.2 : Int) == 0))) rfl rfl rfl rfl ?_
  refine r_v (Value.bool (((r6.2.2 : Int) == 0))) rfl rfl rfl rfl ?_
  rcases hg14 : (((r6.2.2 : Int) == 0)) with _ | _
  · replace hM := ifn (ne_of_beq_false hg14) hM
    refine r_n false rfl (by decide) rfl ?_
    refine r_n false rfl (by decide) rfl ?_
    refine r_v (Value.bool (false)) rfl rfl rfl rfl ?_
    refine r_v (Value.bool (false)) rfl rfl rfl rfl ?_
    refine r_n false rfl (by decide) rfl ?_
    refine r_n false rfl (by decide) rfl ?_
    refine r_n false rfl (by decide) rfl ?_
    refine r_v (Value.bool (false)) rfl rfl rfl rfl ?_
    refine r_v (Value.bool (false)) rfl rfl rfl rfl ?_
    refine r_n false rfl (by decide) rfl ?_
    refine r_n false rfl (by decide) rfl ?_
    refine r_n false rfl (by decide) rfl ?_
    refine r_v (Value.bool (false)) rfl rfl rfl rfl ?_
    refine r_v (Value.bool (false)) rfl rfl rfl rfl ?_
    refine lx_nil ?_
    refine hK13 _ _ ?_; try clear hK13 K13
    refine A_gen [(6, Value.bool (false))] rfl (fun T => ?_)
    obtain rfl := Option.some.inj hM
    refine A_ret (fun hn => ends_eq (v0 := Value.bool (false)) rfl (res1 rfl))
  · replace hM := ifp (eq_of_beq hg14) hM
    refine r_y rfl ?_
    refine r_v (Value.int .i64 (r10.2.2)) rfl rfl rfl rfl ?_
    refine r_y rfl ?_
    refine r_v (Value.bool (((r10.2.2 : Int) == 0))) rfl rfl rfl rfl ?_
    refine r_v (Value.bool (((r10.2.2 : Int) == 0))) rfl rfl rfl rfl ?_
    refine r_v (Value.bool (((r10.2.2 : Int) == 0))) rfl rfl rfl rfl ?_
    rcases hg15 : (((r10.2.2 : Int) == 0)) with _ | _
    · replace hM := ifn (ne_of_beq_false hg15) hM
      refine r_n false rfl (by decide) rfl ?_
      refine r_n false rfl (by decide) rfl ?_
      refine r_n false rfl (by decide) rfl ?_
      refine r_v (Value.bool (false)) rfl rfl rfl rfl ?_
      refine r_v (Value.bool (false)) rfl rfl rfl rfl ?_
      refine r_n false rfl (by decide) rfl ?_
      refine r_n false rfl (by decide) rfl ?_
      refine r_n false rfl (by decide) rfl ?_
      refine r_v (Value.bool (false)) rfl rfl rfl rfl ?_
      refine r_v (Value.bool (false)) rfl rfl rfl rfl ?_
      refine lx_nil ?_
      refine hK13 _ _ ?_; try clear hK13 K13
      refine A_gen [(6, Value.bool (false))] rfl (fun T => ?_)
      obtain rfl := Option.some.inj hM
      refine A_ret (fun hn => ends_eq (v0 := Value.bool (false)) rfl (res1 rfl))
    · replace hM := ifp (eq_of_beq hg15) hM
      refine r_y rfl ?_
      refine r_v (Value.pointer (some ⟨b8, 2, none⟩)) rfl rfl rfl rfl ?_
      refine r_y rfl ?_
      refine r_l (U (lo (r6.2.1))) 1 _ _ _ _ rfl rfl rfl rfl rfl ?_
      refine r_y rfl ?_
      refine r_v (Value.bool ((lo (r6.2.1)) == (0#64))) rfl rfl (U_eq (lo (r6.2.1)) (0#64)) rfl ?_
      refine r_v (Value.bool ((lo (r6.2.1)) == (0#64))) rfl rfl rfl rfl ?_
      refine r_v (Value.bool ((lo (r6.2.1)) == (0#64))) rfl rfl rfl rfl ?_
      rcases hg16 : ((lo (r6.2.1)) == (0#64)) with _ | _
      · replace hM := ifn (ne_of_beq_false hg16) hM
        refine r_n false rfl (by decide) rfl ?_
        refine r_n false rfl (by decide) rfl ?_
        refine r_n false rfl (by decide) rfl ?_
        refine r_v (Value.bool (false)) rfl rfl rfl rfl ?_
        refine r_v (Value.bool (false)) rfl rfl rfl rfl ?_
        refine lx_nil ?_
        refine hK13 _ _ ?_; try clear hK13 K13
        refine A_gen [(6, Value.bool (false))] rfl (fun T => ?_)
        obtain rfl := Option.some.inj hM
        refine A_ret (fun hn => ends_eq (v0 := Value.bool (false)) rfl (res1 rfl))
      · replace hM := ifp (eq_of_beq hg16) hM
        refine r_y rfl ?_
        refine r_v (Value.pointer (some ⟨b12, 2, none⟩)) rfl rfl rfl rfl ?_
        refine r_y rfl ?_
        refine r_l (U (lo (r10.2.1))) 0 _ _ _ _ rfl rfl rfl rfl rfl ?_
        refine r_y rfl ?_
        refine r_v (Value.bool ((lo (r10.2.1)) == (0#64))) rfl rfl (U_eq (lo (r10.2.1)) (0#64)) rfl ?_
        refine r_v (Value.bool ((lo (r10.2.1)) == (0#64))) rfl rfl rfl rfl ?_
        refine r_v (Value.bool ((lo (r10.2.1)) == (0#64))) rfl rfl rfl rfl ?_
        refine lx_nil ?_
        refine hK13 _ _ ?_; try clear hK13 K13
        refine A_gen [(6, Value.bool ((lo (r10.2.1)) == (0#64)))] rfl (fun T => ?_)
        obtain rfl := Option.some.inj hM
        refine A_ret (fun hn => ends_eq (v0 := Value.bool ((lo (r10.2.1)) == (0#64))) rfl (res1 rfl))
end Go.Proofs.YtomcfndpnnjihaaDoor
