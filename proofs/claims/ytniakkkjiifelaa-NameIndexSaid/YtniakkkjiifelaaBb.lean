/- models of functions and their walks -/
import Derived.Test.YtniakkkjiifelaaBa
namespace Go.Proofs.Ytniakkkjiifelaa
open Go Go.RowKit Go.Eng
def internal_stringslite_Clone_m (_ : Nat) (s : List UInt8) : Option (List UInt8) := if (((s).length : Int) : Int) = 0 then some ([]) else ck (0 ≤ ((s).length : Int) ∧ ((s).length : Int) ≤ 140737488355328) (ck (0 ≤ (0 : Int) ∧ (0 : Int) < ((((s).take ((List.replicate (((s).length : Int)).toNat (0 : UInt8))).length ++ ((List.replicate (((s).length : Int)).toNat (0 : UInt8))).drop (s).length)).length : Int)) (ck ((((s).take ((List.replicate (((s).length : Int)).toNat (0 : UInt8))).length ++ ((List.replicate (((s).length : Int)).toNat (0 : UInt8))).drop (s).length)).length ≤ 140737488355328) (some (((s).take ((List.replicate (((s).length : Int)).toNat (0 : UInt8))).length ++ ((List.replicate (((s).length : Int)).toNat (0 : UInt8))).drop (s).length)))))
set_option maxRecDepth 100000 in
set_option maxHeartbeats 400000 in
theorem internal_stringslite_Clone_g (N : Nat) (s : List UInt8) (r : List UInt8) (hM : internal_stringslite_Clone_m N s = some r) : Gives Try.prog 42 #[Value.string (⟨(s).toArray⟩)] (Value.string (⟨(r).toArray⟩)) := by
  unfold internal_stringslite_Clone_m at hM
  refine gives_of_A follows Try.func42 rfl 18 rfl (upd (fun _ => undef) 0 (Value.string (⟨(s).toArray⟩))) (by funext k; match k with | 0 => rfl | k + 1 => rfl) (fun base0_ => ?_)
  refine A_seq fun K1 hK1 => ?_
  refine A_reg ?_
  refine r_v (Value.string (⟨#[]⟩)) rfl rfl rfl rfl ?_
  refine lx_nil ?_
  refine hK1 _ _ ?_; try clear hK1 K1
  refine A_seq fun K2 hK2 => ?_
  refine A_seq fun K3 hK3 => ?_
  refine A_reg ?_
  refine r_v (Value.string (⟨(s).toArray⟩)) rfl rfl rfl rfl ?_
  refine r_v (Value.int .i64 (((s).length : Int))) rfl rfl rfl (ev_lenS rfl rfl rfl) ?_
  refine r_v (Value.bool (((((s).length : Int) : Int) == 0))) rfl rfl rfl rfl ?_
  refine lx_nil ?_
  refine hK3 _ _ ?_; try clear hK3 K3
  refine A_cond (((((s).length : Int) : Int) == 0)) rfl (fun hc4 => ?_) (fun hc4 => ?_)
  · replace hM := ifp (eq_of_beq hc4) hM
    refine A_seq fun K5 hK5 => ?_
    refine A_reg ?_
    refine r_v (Value.string (⟨#[]⟩)) rfl rfl rfl rfl ?_
    refine lx_nil ?_
    refine hK5 _ _ ?_; try clear hK5 K5
    obtain rfl := Option.some.inj hM
    refine A_ret (fun hn => ends_eq (v0 := Value.string (⟨#[]⟩)) rfl (res1 rfl))
  · replace hM := ifn (ne_of_beq_false hc4) hM
    refine A_skip ?_
    refine hK2 _ _ ?_; try clear hK2 K2
    refine A_seq fun K6 hK6 => ?_
    refine A_regC [(some 9, false)] (conG Try.prog [(9, fun v_ L_ U_ => (p1 (fun v => v) 5 encY (List.replicate (((s).length : Int)).toNat (0 : UInt8))) v_ L_ U_)]) ?_
    refine r_v (Value.string (⟨(s).toArray⟩)) rfl rfl rfl rfl ?_
    refine r_v (Value.int .i64 (((s).length : Int))) rfl rfl rfl (ev_lenS rfl rfl rfl) ?_
    replace hM := ck_some hM; obtain ⟨ck7, hM⟩ := hM
    refine r_mk (Ls := []) 5 encY ((0 : UInt8)) (((s).length : Int)) rfl rfl rfl rfl rfl rfl rfl rfl rfl rfl 140737488355328 rfl ck7 (fun _ _ _ _ _ => Iff.rfl) (fun s8 S9 H10 => ?_)
    refine r_v (s8) rfl rfl rfl rfl ?_
    refine lx_nil ?_
    refine hK6 _ _ ?_; try clear hK6 K6
    refine A_seq fun K11 hK11 => ?_
    refine A_regC [(some 12, true)] (conG Try.prog [(12, fun v_ L_ U_ => (pUp (fun v_ U_ => v_ = .int .i64 ((min (s).length ((List.replicate (((s).length : Int)).toNat (0 : UInt8))).length : Nat) : Int) ∧ Sl 5 encY s8 ((s).take ((List.replicate (((s).length : Int)).toNat (0 : UInt8))).length ++ ((List.replicate (((s).length : Int)).toNat (0 : UInt8))).drop (s).length) U_ ∧ U_.map (·.1) = S9.map (·.1))) v_ L_ U_)]) ?_
    refine r_v (s8) rfl rfl rfl rfl ?_
    refine r_v (Value.string (⟨(s).toArray⟩)) rfl rfl rfl rfl ?_
    refine r_cpys (Lo := True) (Ls := [S9]) 0 (s) rfl rfl rfl rfl rfl rfl H10 rfl rfl rfl (fun _ _ _ _ _ => Iff.rfl) (fun S12 H13 => ?_)
    refine lx_nil ?_
    refine hK11 _ _ ?_; try clear hK11 K11
    refine A_seq fun K14 hK14 => ?_
    refine A_regC [(some 17, true)] (conG Try.prog [(17, fun v_ L_ U_ => (pUp (fun v_ U_ => v_ = .string ⟨(((s).take ((List.replicate (((s).length : Int)).toNat (0 : UInt8))).length ++ ((List.replicate (((s).length : Int)).toNat (0 : UInt8))).drop (s).length)).toArray⟩ ∧ U_ = deadB S12)) v_ L_ U_)]) ?_
    refine r_v (s8) rfl rfl rfl rfl ?_
    replace hM := ck_some hM; obtain ⟨ck15, hM⟩ := hM
    refine r_v (elA s8 (((0 : Int)).toNat * 1)) rfl rfl rfl (ev_v (ev_idxSl rfl rfl rfl (Sl.shp H13) ck15)) ?_
    refine r_v (s8) rfl rfl rfl rfl ?_
    refine r_v (Value.int .i64 (((((s).take ((List.replicate (((s).length : Int)).toNat (0 : UInt8))).length ++ ((List.replicate (((s).length : Int)).toNat (0 : UInt8))).drop (s).length)).length : Int))) rfl rfl rfl (ev_lenSl rfl rfl rfl (Sl.shp H13)) ?_
    replace hM := ck_some hM; obtain ⟨ck16, hM⟩ := hM
    refine r_uss (Ls := [S12]) 0 (xs := ((s).take ((List.replicate (((s).length : Int)).toNat (0 : UInt8))).length ++ ((List.replicate (((s).length : Int)).toNat (0 : UInt8))).drop (s).length)) rfl rfl rfl rfl rfl rfl (Sl.strict H13 (pos_of ck15)) (usd_of s8 (Sl.strict H13 (pos_of ck15)) (pos_of ck15)) rfl (by kernel_rfl) rfl ck16 (fun _ _ _ _ _ => Iff.rfl) ?_
    refine lx_perm (Ls := [deadB S12]) (Ls' := []) [] rfl rfl ?_
    refine r_v (Value.string (⟨(((s).take ((List.replicate (((s).length : Int)).toNat (0 : UInt8))).length ++ ((List.replicate (((s).length : Int)).toNat (0 : UInt8))).drop (s).length)).toArray⟩)) rfl rfl rfl rfl ?_
    refine lx_nil ?_
    refine hK14 _ _ ?_; try clear hK14 K14
    obtain rfl := Option.some.inj hM
    refine A_ret (fun hn => ends_eq (v0 := Value.string (⟨(((s).take ((List.replicate (((s).length : Int)).toNat (0 : UInt8))).length ++ ((List.replicate (((s).length : Int)).toNat (0 : UInt8))).drop (s).length)).toArray⟩)) rfl (res1 rfl))
def strings_Clone_m (N : Nat) (s : List UInt8) : Option (List UInt8) := (internal_stringslite_Clone_m N s).bind fun r3 => some (r3)
set_option maxRecDepth 100000 in
set_option maxHeartbeats 400000 in
theorem strings_Clone_g (N : Nat) (s : List UInt8) (r : List UInt8) (hM : strings_Clone_m N s = some r) : Gives Try.prog 32 #[Value.string (⟨(s).toArray⟩)] (Value.string (⟨(r).toArray⟩)) := by
  unfold strings_Clone_m at hM
  refine gives_of_A follows Try.func32 rfl 5 rfl (upd (fun _ => undef) 0 (Value.string (⟨(s).toArray⟩))) (by funext k; match k with | 0 => rfl | k + 1 => rfl) (fun base0_ => ?_)
  refine A_seq fun K1 hK1 => ?_
  refine A_reg ?_
  refine r_v (Value.string (⟨#[]⟩)) rfl rfl rfl rfl ?_
  refine lx_nil ?_
  refine hK1 _ _ ?_; try clear hK1 K1
  refine A_seq fun K2 hK2 => ?_
  refine A_reg ?_
  refine r_v (Value.string (⟨(s).toArray⟩)) rfl rfl rfl rfl ?_
  replace hM := bind_sm hM; obtain ⟨r3, hr4, hM⟩ := hM
  refine r_c (Value.string (⟨(r3).toArray⟩)) rfl _ _ (ev_callF rfl call_42 rfl) (internal_stringslite_Clone_g N s _ hr4) ?_
  refine r_v (Value.string (⟨(r3).toArray⟩)) rfl rfl rfl rfl ?_
  refine lx_nil ?_
  refine hK2 _ _ ?_; try clear hK2 K2
  obtain rfl := Option.some.inj hM
  refine A_ret (fun hn => ends_eq (v0 := Value.string (⟨(r3).toArray⟩)) rfl (res1 rfl))
def name_Clip_m (N : Nat) (s : List UInt8) (n : Int) : Option (List UInt8) := (name_end_m N s n).bind fun r3 => ck (0 ≤ r3 ∧ r3 ≤ ((s).length : Int)) ((strings_Clone_m N ((s).take (r3).toNat)).bind fun r6 => some (r6))
set_option maxRecDepth 100000 in
set_option maxHeartbeats 400000 in
theorem name_Clip_g (N : Nat) (s : List UInt8) (n : Int) (r : List UInt8) (hM : name_Clip_m N s n = some r) : Gives Try.prog 13 #[Value.string (⟨(s).toArray⟩), Value.int .i64 (n)] (Value.string (⟨(r).toArray⟩)) := by
  unfold name_Clip_m at hM
  refine gives_of_A follows Try.func13 rfl 11 rfl (upd (upd (fun _ => undef) 1 (Value.int .i64 (n))) 0 (Value.string (⟨(s).toArray⟩))) (by funext k; match k with | 0 => rfl | 1 => rfl | k + 2 => rfl) (fun base0_ => ?_)
  refine A_seq fun K1 hK1 => ?_
  refine A_reg ?_
  refine r_v (Value.string (⟨#[]⟩)) rfl rfl rfl rfl ?_
  refine lx_nil ?_
  refine hK1 _ _ ?_; try clear hK1 K1
  refine A_seq fun K2 hK2 => ?_
  refine A_reg ?_
  refine r_v (Value.string (⟨(s).toArray⟩)) rfl rfl rfl rfl ?_
  refine r_v (Value.string (⟨(s).toArray⟩)) rfl rfl rfl rfl ?_
  refine r_v (Value.int .i64 (n)) rfl rfl rfl rfl ?_
  replace hM := bind_sm hM; obtain ⟨r3, hr4, hM⟩ := hM
  refine r_c (Value.int .i64 (r3)) rfl _ _ (ev_callF rfl call_33 rfl) (name_end_g N s n _ hr4) ?_
  replace hM := ck_some hM; obtain ⟨ck5, hM⟩ := hM
  refine r_v (Value.string (⟨((s).take (r3).toNat).toArray⟩)) rfl rfl rfl (ev_v (ev_sliceS2 rfl ck5)) ?_
  replace hM := bind_sm hM; obtain ⟨r6, hr7, hM⟩ := hM
  refine r_c (Value.string (⟨(r6).toArray⟩)) rfl _ _ (ev_callF rfl call_32 rfl) (strings_Clone_g N ((s).take (r3).toNat) _ hr7) ?_
  refine r_v (Value.string (⟨(r6).toArray⟩)) rfl rfl rfl rfl ?_
  refine lx_nil ?_
  refine hK2 _ _ ?_; try clear hK2 K2
  obtain rfl := Option.some.inj hM
  refine A_ret (fun hn => ends_eq (v0 := Value.string (⟨(r6).toArray⟩)) rfl (res1 rfl))
def shunterref05_Clip_k4 (N : Nat) (s : List UInt8) (n1_ : Int) (at2_ : Int) (rec_shunterref05_Clip_l3 : Int → Int → Option (List UInt8)) : Option (List UInt8) := ck (0 ≤ at2_ ∧ at2_ ≤ ((s).length : Int)) ((shunterref05_First_m N ((s).drop (at2_).toNat)).bind fun r7 => ck ((-9223372036854775808 ≤ (at2_ + r7.2) ∧ (at2_ + r7.2) ≤ 9223372036854775807)) (ck ((-9223372036854775808 ≤ (n1_ - 1) ∧ (n1_ - 1) ≤ 9223372036854775807)) (rec_shunterref05_Clip_l3 ((n1_ - 1)) ((at2_ + r7.2)))))
def shunterref05_Clip_l3 (N : Nat) (s : List UInt8) : Nat → Int → Int → Option (List UInt8)
  | 0, _, _ => none
  | n4 + 1, n1_, at2_ => if (at2_ : Int) < ((s).length : Int) then if (n1_ : Int) > 0 then shunterref05_Clip_k4 N s n1_ at2_ (shunterref05_Clip_l3 N s n4)  else ck (0 ≤ at2_ ∧ at2_ ≤ ((s).length : Int)) (some ((s).take (at2_).toNat)) else ck (0 ≤ at2_ ∧ at2_ ≤ ((s).length : Int)) (some ((s).take (at2_).toNat))
def shunterref05_Clip_m (N : Nat) (s : List UInt8) (n : Int) : Option (List UInt8) := shunterref05_Clip_l3 N s N (n) (0)
set_option maxRecDepth 100000 in
set_option maxHeartbeats 400000 in
theorem shunterref05_Clip_g (N : Nat) (s : List UInt8) (n : Int) (r : List UInt8) (hM : shunterref05_Clip_m N s n = some r) : Gives Try.prog 14 #[Value.string (⟨(s).toArray⟩), Value.int .i64 (n)] (Value.string (⟨(r).toArray⟩)) := by
  unfold shunterref05_Clip_m at hM
  refine gives_of_A follows Try.func14 rfl 31 rfl (upd (upd (fun _ => undef) 1 (Value.int .i64 (n))) 0 (Value.string (⟨(s).toArray⟩))) (by funext k; match k with | 0 => rfl | 1 => rfl | k + 2 => rfl) (fun base0_ => ?_)
  refine A_seq fun K1 hK1 => ?_
  refine A_reg ?_
  refine r_v (Value.string (⟨#[]⟩)) rfl rfl rfl rfl ?_
  refine lx_nil ?_
  refine hK1 _ _ ?_; try clear hK1 K1
  refine A_seq fun K2 hK2 => ?_
  refine A_reg ?_
  refine r_v (Value.int .i64 (0)) rfl rfl rfl rfl ?_
  refine lx_nil ?_
  refine hK2 _ _ ?_; try clear hK2 K2
  refine A_seq fun K3 hK3 => ?_
  refine A_block ?_
  refine A_loop (fun tt ll nn => ∃ (n4 : Nat) (n1_ : Int) (at2_ : Int), (shunterref05_Clip_l3 N s n4 n1_ at2_ = some r) ∧ Is [(0, Value.string (⟨(s).toArray⟩)), (1, Value.int .i64 (n1_)), (5, Value.int .i64 (at2_))] [] tt ll ∧ nn = n4 + 1) (N + 1) ?_ ?_
  · exact ⟨N, n, 0, hM, is_mk rfl rfl, rfl⟩
  · clear hM; rintro t l _ ⟨n4, n1_, at2_, hM, ⟨⟨T, rfl⟩, rfl⟩, rfl⟩
    rcases n4 with _ | n4
    · exact absurd hM (by simp [shunterref05_Clip_l3])
    rw [shunterref05_Clip_l3] at hM
    refine A_cut (fun tt ll => (shunterref05_Clip_k4 N s n1_ at2_ (shunterref05_Clip_l3 N s n4)  = some r) ∧ Is [(0, Value.string (⟨(s).toArray⟩)), (1, Value.int .i64 (n1_)), (5, Value.int .i64 (at2_))] [] tt ll) ?_ ?_
    · refine A_seq fun K12 hK12 => ?_
      refine A_reg ?_
      refine r_v (Value.int .i64 (at2_)) rfl rfl rfl rfl ?_
      refine r_v (Value.string (⟨(s).toArray⟩)) rfl rfl rfl rfl ?_
      refine r_v (Value.int .i64 (((s).length : Int))) rfl rfl rfl (ev_lenS rfl rfl rfl) ?_
      refine r_v (Value.bool (decide ((at2_ : Int) < ((s).length : Int)))) rfl rfl rfl rfl ?_
      refine r_v (Value.bool (decide ((at2_ : Int) < ((s).length : Int)))) rfl rfl rfl rfl ?_
      rcases hg13 : (decide ((at2_ : Int) < ((s).length : Int))) with _ | _
      · replace hM := ifn (of_decide_eq_false hg13) hM
        refine r_n false rfl (by decide) rfl ?_
        refine r_n false rfl (by decide) rfl ?_
        refine r_v (Value.bool (false)) rfl rfl rfl rfl ?_
        refine lx_nil ?_
        refine hK12 _ _ ?_; try clear hK12 K12
        refine A_cond false rfl (fun h_ => nomatch h_) (fun _ => ?_)
        refine A_exit ?_
        refine hK3 _ _ ?_; try clear hK3 K3
        refine A_seq fun K14 hK14 => ?_
        refine A_reg ?_
        refine r_v (Value.string (⟨(s).toArray⟩)) rfl rfl rfl rfl ?_
        refine r_v (Value.int .i64 (at2_)) rfl rfl rfl rfl ?_
        replace hM := ck_some hM; obtain ⟨ck15, hM⟩ := hM
        refine r_v (Value.string (⟨((s).take (at2_).toNat).toArray⟩)) rfl rfl rfl (ev_v (ev_sliceS2 rfl ck15)) ?_
        refine r_v (Value.string (⟨((s).take (at2_).toNat).toArray⟩)) rfl rfl rfl rfl ?_
        refine lx_nil ?_
        refine hK14 _ _ ?_; try clear hK14 K14
        obtain rfl := Option.some.inj hM
        refine A_ret (fun hn => ends_eq (v0 := Value.string (⟨((s).take (at2_).toNat).toArray⟩)) rfl (res1 rfl))
      · replace hM := ifp (of_decide_eq_true hg13) hM
        refine r_y rfl ?_
        refine r_v (Value.int .i64 (n1_)) rfl rfl rfl rfl ?_
        refine r_y rfl ?_
        refine r_v (Value.bool (decide ((n1_ : Int) > 0))) rfl rfl rfl rfl ?_
        refine r_v (Value.bool (decide ((n1_ : Int) > 0))) rfl rfl rfl rfl ?_
        refine lx_nil ?_
        refine hK12 _ _ ?_; try clear hK12 K12
        refine A_cond (decide ((n1_ : Int) > 0)) rfl (fun hc16 => ?_) (fun hc16 => ?_)
        · replace hM := ifp (of_decide_eq_true hc16) hM
          refine A_skip ?_
          refine fg _ (Sub.of (List.Sublist.slnil)) ?_
          exact ⟨hM, is_mk rfl rfl⟩
        · replace hM := ifn (of_decide_eq_false hc16) hM
          refine A_exit ?_
          refine hK3 _ _ ?_; try clear hK3 K3
          refine A_seq fun K17 hK17 => ?_
          refine A_reg ?_
          refine r_v (Value.string (⟨(s).toArray⟩)) rfl rfl rfl rfl ?_
          refine r_v (Value.int .i64 (at2_)) rfl rfl rfl rfl ?_
          replace hM := ck_some hM; obtain ⟨ck18, hM⟩ := hM
          refine r_v (Value.string (⟨((s).take (at2_).toNat).toArray⟩)) rfl rfl rfl (ev_v (ev_sliceS2 rfl ck18)) ?_
          refine r_v (Value.string (⟨((s).take (at2_).toNat).toArray⟩)) rfl rfl rfl rfl ?_
          refine lx_nil ?_
          refine hK17 _ _ ?_; try clear hK17 K17
          obtain rfl := Option.some.inj hM
          refine A_ret (fun hn => ends_eq (v0 := Value.string (⟨((s).take (at2_).toNat).toArray⟩)) rfl (res1 rfl))
    · clear hM; rintro t l ⟨hM, ⟨T, rfl⟩, rfl⟩
      unfold shunterref05_Clip_k4 at hM
      refine A_block ?_
      refine A_seq fun K5 hK5 => ?_
      refine A_reg ?_
      refine r_v (Value.string (⟨(s).toArray⟩)) rfl rfl rfl rfl ?_
      refine r_v (Value.int .i64 (at2_)) rfl rfl rfl rfl ?_
      replace hM := ck_some hM; obtain ⟨ck6, hM⟩ := hM
      refine r_v (Value.string (⟨((s).drop (at2_).toNat).toArray⟩)) rfl rfl rfl (ev_v (ev_sliceS1 rfl ck6)) ?_
      replace hM := bind_sm hM; obtain ⟨r7, hr8, hM⟩ := hM
      refine r_c (Value.tuple #[Value.int .i64 (r7.1), Value.int .i64 (r7.2)]) rfl _ _ (ev_callF rfl call_31 rfl) (shunterref05_First_g N ((s).drop (at2_).toNat) _ hr8) ?_
      refine r_v (Value.tuple #[Value.int .i64 (r7.1), Value.int .i64 (r7.2)]) rfl rfl rfl rfl ?_
      refine r_v (Value.int .i64 (r7.1)) rfl rfl rfl rfl ?_
      refine r_v (Value.int .i64 (r7.2)) rfl rfl rfl rfl ?_
      refine r_v (Value.int .i64 (r7.1)) rfl rfl rfl rfl ?_
      refine r_v (Value.int .i64 (r7.2)) rfl rfl rfl rfl ?_
      refine lx_nil ?_
      refine hK5 _ _ ?_; try clear hK5 K5
      refine A_seq fun K9 hK9 => ?_
      refine A_reg ?_
      refine r_v (Value.int .i64 (at2_)) rfl rfl rfl rfl ?_
      refine r_v (Value.int .i64 (r7.2)) rfl rfl rfl rfl ?_
      replace hM := ck_some hM; obtain ⟨ck10, hM⟩ := hM
      refine r_v (Value.int .i64 ((at2_ + r7.2))) rfl rfl (wi64 rfl ck10.1 ck10.2) rfl ?_
      refine r_v (Value.int .i64 ((at2_ + r7.2))) rfl rfl rfl rfl ?_
      refine lx_nil ?_
      refine hK9 _ _ ?_; try clear hK9 K9
      refine A_reg ?_
      refine r_v (Value.int .i64 (n1_)) rfl rfl rfl rfl ?_
      replace hM := ck_some hM; obtain ⟨ck11, hM⟩ := hM
      refine r_v (Value.int .i64 ((n1_ - 1))) rfl rfl (wi64 rfl ck11.1 ck11.2) rfl ?_
      refine r_v (Value.int .i64 ((n1_ - 1))) rfl rfl rfl rfl ?_
      refine lx_nil ?_
      refine fg _ (Sub.of (List.Sublist.slnil)) ?_
      exact ⟨n4 + 1, by omega, n4, (n1_ - 1), (at2_ + r7.2), hM, is_mk rfl rfl, rfl⟩
def shunterref05_Letter_k2 (c : Int) : Option (Bool) := if (c : Int) ≥ 192 then if (c : Int) ≤ 591 then some (true) else if (c : Int) ≥ 913 then if (c : Int) ≤ 969 then some (true) else if (c : Int) ≥ 1024 then some (decide ((c : Int) ≤ 1279)) else some (false) else if (c : Int) ≥ 1024 then some (decide ((c : Int) ≤ 1279)) else some (false) else if (c : Int) ≥ 913 then if (c : Int) ≤ 969 then some (true) else if (c : Int) ≥ 1024 then some (decide ((c : Int) ≤ 1279)) else some (false) else if (c : Int) ≥ 1024 then some (decide ((c : Int) ≤ 1279)) else some (false)
def shunterref05_Letter_k1 (c : Int) : Option (Bool) := if (c : Int) = 215 then some (false) else if (c : Int) = 247 then some (false) else if (c : Int) = 930 then some (false) else shunterref05_Letter_k2 c 
def shunterref05_Letter_m (_ : Nat) (c : Int) : Option (Bool) := if (c : Int) ≥ 65 then if (c : Int) ≤ 90 then some (true) else if (c : Int) ≥ 97 then if (c : Int) ≤ 122 then some (true) else if (c : Int) = 95 then some (true) else shunterref05_Letter_k1 c  else if (c : Int) = 95 then some (true) else shunterref05_Letter_k1 c  else if (c : Int) ≥ 97 then if (c : Int) ≤ 122 then some (true) else if (c : Int) = 95 then some (true) else shunterref05_Letter_k1 c  else if (c : Int) = 95 then some (true) else shunterref05_Letter_k1 c 
set_option maxRecDepth 100000 in
set_option maxHeartbeats 400000 in
theorem shunterref05_Letter_g (N : Nat) (c : Int) (r : Bool) (hM : shunterref05_Letter_m N c = some r) : Gives Try.prog 18 #[Value.int .i64 (c)] (Value.bool (r)) := by
  unfold shunterref05_Letter_m at hM
  refine gives_of_A follows Try.func18 rfl 53 rfl (upd (fun _ => undef) 0 (Value.int .i64 (c))) (by funext k; match k with | 0 => rfl | k + 1 => rfl) (fun base0_ => ?_)
  refine A_seq fun K1 hK1 => ?_
  refine A_reg ?_
  refine r_v (Value.bool (false)) rfl rfl rfl rfl ?_
  refine lx_nil ?_
  refine hK1 _ _ ?_; try clear hK1 K1
  refine A_cut (fun tt ll => (shunterref05_Letter_k1 c  = some r) ∧ Is [(0, Value.int .i64 (c))] [] tt ll) ?_ ?_
  · refine A_seq fun K20 hK20 => ?_
    refine A_reg ?_
    refine r_v (Value.int .i64 (c)) rfl rfl rfl rfl ?_
    refine r_v (Value.bool (decide ((c : Int) ≥ 65))) rfl rfl rfl rfl ?_
    refine r_v (Value.bool (decide ((c : Int) ≥ 65))) rfl rfl rfl rfl ?_
    rcases hg21 : (decide ((c : Int) ≥ 65)) with _ | _
    · replace hM := ifn (of_decide_eq_false hg21) hM
      refine r_n false rfl (by decide) rfl ?_
      refine r_n false rfl (by decide) rfl ?_
      refine r_v (Value.bool (false)) rfl rfl rfl rfl ?_
      refine r_v (Value.bool (false)) rfl rfl rfl rfl ?_
      refine r_y rfl ?_
      refine r_v (Value.int .i64 (c)) rfl rfl rfl rfl ?_
      refine r_y rfl ?_
      refine r_v (Value.bool (decide ((c : Int) ≥ 97))) rfl rfl rfl rfl ?_
      refine r_y rfl ?_
      refine r_v (Value.bool (decide ((c : Int) ≥ 97))) rfl rfl rfl rfl ?_
      rcases hg22 : (decide ((c : Int) ≥ 97)) with _ | _
      · replace hM := ifn (of_decide_eq_false hg22) hM
        refine r_n false rfl (by decide) rfl ?_
        refine r_n false rfl (by decide) rfl ?_
        refine r_y rfl ?_
        refine r_v (Value.bool (false)) rfl rfl rfl rfl ?_
        refine r_v (Value.bool (false)) rfl rfl rfl rfl ?_
        refine r_v (Value.bool (false)) rfl rfl rfl rfl ?_
        refine r_y rfl ?_
        refine r_v (Value.int .i64 (c)) rfl rfl rfl rfl ?_
        refine r_y rfl ?_
        refine r_v (Value.bool (((c : Int) == 95))) rfl rfl rfl rfl ?_
        refine r_v (Value.bool (((c : Int) == 95))) rfl rfl rfl rfl ?_
        refine lx_nil ?_
        refine hK20 _ _ ?_; try clear hK20 K20
        refine A_cond (((c : Int) == 95)) rfl (fun hc23 => ?_) (fun hc23 => ?_)
        · replace hM := ifp (eq_of_beq hc23) hM
          refine A_seq fun K24 hK24 => ?_
          refine A_reg ?_
          refine r_v (Value.bool (true)) rfl rfl rfl rfl ?_
          refine lx_nil ?_
          refine hK24 _ _ ?_; try clear hK24 K24
          obtain rfl := Option.some.inj hM
          refine A_ret (fun hn => ends_eq (v0 := Value.bool (true)) rfl (res1 rfl))
        · replace hM := ifn (ne_of_beq_false hc23) hM
          refine A_skip ?_
          refine fg _ (Sub.of (List.Sublist.slnil)) ?_
          exact ⟨hM, is_mk rfl rfl⟩
      · replace hM := ifp (of_decide_eq_true hg22) hM
        refine r_y rfl ?_
        refine r_v (Value.int .i64 (c)) rfl rfl rfl rfl ?_
        refine r_y rfl ?_
        refine r_v (Value.bool (decide ((c : Int) ≤ 122))) rfl rfl rfl rfl ?_
        refine r_y rfl ?_
        refine r_v (Value.bool (decide ((c : Int) ≤ 122))) rfl rfl rfl rfl ?_
        refine r_v (Value.bool (decide ((c : Int) ≤ 122))) rfl rfl rfl rfl ?_
        refine r_v (Value.bool (decide ((c : Int) ≤ 122))) rfl rfl rfl rfl ?_
        rcases hg25 : (decide ((c : Int) ≤ 122)) with _ | _
        · replace hM := ifn (of_decide_eq_false hg25) hM
          refine r_y rfl ?_
          refine r_v (Value.int .i64 (c)) rfl rfl rfl rfl ?_
          refine r_y rfl ?_
          refine r_v (Value.bool (((c : Int) == 95))) rfl rfl rfl rfl ?_
          refine r_v (Value.bool (((c : Int) == 95))) rfl rfl rfl rfl ?_
          refine lx_nil ?_
          refine hK20 _ _ ?_; try clear hK20 K20
          refine A_cond (((c : Int) == 95)) rfl (fun hc26 => ?_) (fun hc26 => ?_)
          · replace hM := ifp (eq_of_beq hc26) hM
            refine A_seq fun K27 hK27 => ?_
            refine A_reg ?_
            refine r_v (Value.bool (true)) rfl rfl rfl rfl ?_
            refine lx_nil ?_
            refine hK27 _ _ ?_; try clear hK27 K27
            obtain rfl := Option.some.inj hM
            refine A_ret (fun hn => ends_eq (v0 := Value.bool (true)) rfl (res1 rfl))
          · replace hM := ifn (ne_of_beq_false hc26) hM
            refine A_skip ?_
            refine fg _ (Sub.of (List.Sublist.slnil)) ?_
            exact ⟨hM, is_mk rfl rfl⟩
        · replace hM := ifp (of_decide_eq_true hg25) hM
          refine r_n true rfl (by decide) rfl ?_
          refine r_n true rfl (by decide) rfl ?_
          refine r_v (Value.bool (true)) rfl rfl rfl rfl ?_
          refine lx_nil ?_
          refine hK20 _ _ ?_; try clear hK20 K20
          refine A_cond true rfl (fun _ => ?_) (fun h_ => nomatch h_)
          refine A_seq fun K28 hK28 => ?_
          refine A_reg ?_
          refine r_v (Value.bool (true)) rfl rfl rfl rfl ?_
          refine lx_nil ?_
          refine hK28 _ _ ?_; try clear hK28 K28
          obtain rfl := Option.some.inj hM
          refine A_ret (fun hn => ends_eq (v0 := Value.bool (true)) rfl (res1 rfl))
    · replace hM := ifp (of_decide_eq_true hg21) hM
      refine r_y rfl ?_
      refine r_v (Value.int .i64 (c)) rfl rfl rfl rfl ?_
      refine r_y rfl ?_
      refine r_v (Value.bool (decide ((c : Int) ≤ 90))) rfl rfl rfl rfl ?_
      refine r_v (Value.bool (decide ((c : Int) ≤ 90))) rfl rfl rfl rfl ?_
      refine r_v (Value.bool (decide ((c : Int) ≤ 90))) rfl rfl rfl rfl ?_
      rcases hg29 : (decide ((c : Int) ≤ 90)) with _ | _
      · replace hM := ifn (of_decide_eq_false hg29) hM
        refine r_y rfl ?_
        refine r_v (Value.int .i64 (c)) rfl rfl rfl rfl ?_
        refine r_y rfl ?_
        refine r_v (Value.bool (decide ((c : Int) ≥ 97))) rfl rfl rfl rfl ?_
        refine r_y rfl ?_
        refine r_v (Value.bool (decide ((c : Int) ≥ 97))) rfl rfl rfl rfl ?_
        rcases hg30 : (decide ((c : Int) ≥ 97)) with _ | _
        · replace hM := ifn (of_decide_eq_false hg30) hM
          refine r_n false rfl (by decide) rfl ?_
          refine r_n false rfl (by decide) rfl ?_
          refine r_y rfl ?_
          refine r_v (Value.bool (false)) rfl rfl rfl rfl ?_
          refine r_v (Value.bool (false)) rfl rfl rfl rfl ?_
          refine r_v (Value.bool (false)) rfl rfl rfl rfl ?_
          refine r_y rfl ?_
          refine r_v (Value.int .i64 (c)) rfl rfl rfl rfl ?_
          refine r_y rfl ?_
          refine r_v (Value.bool (((c : Int) == 95))) rfl rfl rfl rfl ?_
          refine r_v (Value.bool (((c : Int) == 95))) rfl rfl rfl rfl ?_
          refine lx_nil ?_
          refine hK20 _ _ ?_; try clear hK20 K20
          refine A_cond (((c : Int) == 95)) rfl (fun hc31 => ?_) (fun hc31 => ?_)
          · replace hM := ifp (eq_of_beq hc31) hM
            refine A_seq fun K32 hK32 => ?_
            refine A_reg ?_
            refine r_v (Value.bool (true)) rfl rfl rfl rfl ?_
            refine lx_nil ?_
            refine hK32 _ _ ?_; try clear hK32 K32
            obtain rfl := Option.some.inj hM
            refine A_ret (fun hn => ends_eq (v0 := Value.bool (true)) rfl (res1 rfl))
          · replace hM := ifn (ne_of_beq_false hc31) hM
            refine A_skip ?_
            refine fg _ (Sub.of (List.Sublist.slnil)) ?_
            exact ⟨hM, is_mk rfl rfl⟩
        · replace hM := ifp (of_decide_eq_true hg30) hM
          refine r_y rfl ?_
          refine r_v (Value.int .i64 (c)) rfl rfl rfl rfl ?_
          refine r_y rfl ?_
          refine r_v (Value.bool (decide ((c : Int) ≤ 122))) rfl rfl rfl rfl ?_
          refine r_y rfl ?_
          refine r_v (Value.bool (decide ((c : Int) ≤ 122))) rfl rfl rfl rfl ?_
          refine r_v (Value.bool (decide ((c : Int) ≤ 122))) rfl rfl rfl rfl ?_
          refine r_v (Value.bool (decide ((c : Int) ≤ 122))) rfl rfl rfl rfl ?_
          rcases hg33 : (decide ((c : Int) ≤ 122)) with _ | _
          · replace hM := ifn (of_decide_eq_false hg33) hM
            refine r_y rfl ?_
            refine r_v (Value.int .i64 (c)) rfl rfl rfl rfl ?_
            refine r_y rfl ?_
            refine r_v (Value.bool (((c : Int) == 95))) rfl rfl rfl rfl ?_
            refine r_v (Value.bool (((c : Int) == 95))) rfl rfl rfl rfl ?_
            refine lx_nil ?_
            refine hK20 _ _ ?_; try clear hK20 K20
            refine A_cond (((c : Int) == 95)) rfl (fun hc34 => ?_) (fun hc34 => ?_)
            · replace hM := ifp (eq_of_beq hc34) hM
              refine A_seq fun K35 hK35 => ?_
              refine A_reg ?_
              refine r_v (Value.bool (true)) rfl rfl rfl rfl ?_
              refine lx_nil ?_
              refine hK35 _ _ ?_; try clear hK35 K35
              obtain rfl := Option.some.inj hM
              refine A_ret (fun hn => ends_eq (v0 := Value.bool (true)) rfl (res1 rfl))
            · replace hM := ifn (ne_of_beq_false hc34) hM
              refine A_skip ?_
              refine fg _ (Sub.of (List.Sublist.slnil)) ?_
              exact ⟨hM, is_mk rfl rfl⟩
          · replace hM := ifp (of_decide_eq_true hg33) hM
            refine r_n true rfl (by decide) rfl ?_
            refine r_n true rfl (by decide) rfl ?_
            refine r_v (Value.bool (true)) rfl rfl rfl rfl ?_
            refine lx_nil ?_
            refine hK20 _ _ ?_; try clear hK20 K20
            refine A_cond true rfl (fun _ => ?_) (fun h_ => nomatch h_)
            refine A_seq fun K36 hK36 => ?_
            refine A_reg ?_
            refine r_v (Value.bool (true)) rfl rfl rfl rfl ?_
            refine lx_nil ?_
            refine hK36 _ _ ?_; try clear hK36 K36
            obtain rfl := Option.some.inj hM
            refine A_ret (fun hn => ends_eq (v0 := Value.bool (true)) rfl (res1 rfl))
      · replace hM := ifp (of_decide_eq_true hg29) hM
        refine r_n true rfl (by decide) rfl ?_
        refine r_n true rfl (by decide) rfl ?_
        refine r_n true rfl (by decide) rfl ?_
        refine r_nu rfl rfl ?_
        refine r_nu rfl rfl ?_
        refine r_n true rfl (by decide) rfl ?_
        refine r_v (Value.bool (true)) rfl rfl rfl rfl ?_
        refine r_v (Value.bool (true)) rfl rfl rfl rfl ?_
        refine r_n true rfl (by decide) rfl ?_
        refine r_n true rfl (by decide) rfl ?_
        refine r_v (Value.bool (true)) rfl rfl rfl rfl ?_
        refine lx_nil ?_
        refine hK20 _ _ ?_; try clear hK20 K20
        refine A_cond true rfl (fun _ => ?_) (fun h_ => nomatch h_)
        refine A_seq fun K37 hK37 => ?_
        refine A_reg ?_
        refine r_v (Value.bool (true)) rfl rfl rfl rfl ?_
        refine lx_nil ?_
        refine hK37 _ _ ?_; try clear hK37 K37
        obtain rfl := Option.some.inj hM
        refine A_ret (fun hn => ends_eq (v0 := Value.bool (true)) rfl (res1 rfl))
  · clear hM; rintro t l ⟨hM, ⟨T, rfl⟩, rfl⟩
    unfold shunterref05_Letter_k1 at hM
    refine A_cut (fun tt ll => (shunterref05_Letter_k2 c  = some r) ∧ Is [(0, Value.int .i64 (c))] [] tt ll) ?_ ?_
    · refine A_seq fun K13 hK13 => ?_
      refine A_reg ?_
      refine r_v (Value.int .i64 (c)) rfl rfl rfl rfl ?_
      refine r_v (Value.bool (((c : Int) == 215))) rfl rfl rfl rfl ?_
      refine r_v (Value.bool (((c : Int) == 215))) rfl rfl rfl rfl ?_
      rcases hg14 : (((c : Int) == 215)) with _ | _
      · replace hM := ifn (ne_of_beq_false hg14) hM
        refine r_y rfl ?_
        refine r_v (Value.int .i64 (c)) rfl rfl rfl rfl ?_
        refine r_y rfl ?_
        refine r_v (Value.bool (((c : Int) == 247))) rfl rfl rfl rfl ?_
        refine r_v (Value.bool (((c : Int) == 247))) rfl rfl rfl rfl ?_
        refine r_v (Value.bool (((c : Int) == 247))) rfl rfl rfl rfl ?_
        rcases hg15 : (((c : Int) == 247)) with _ | _
        · replace hM := ifn (ne_of_beq_false hg15) hM
          refine r_y rfl ?_
          refine r_v (Value.int .i64 (c)) rfl rfl rfl rfl ?_
          refine r_y rfl ?_
          refine r_v (Value.bool (((c : Int) == 930))) rfl rfl rfl rfl ?_
          refine r_v (Value.bool (((c : Int) == 930))) rfl rfl rfl rfl ?_
          refine lx_nil ?_
          refine hK13 _ _ ?_; try clear hK13 K13
          refine A_cond (((c : Int) == 930)) rfl (fun hc16 => ?_) (fun hc16 => ?_)
          · replace hM := ifp (eq_of_beq hc16) hM
            refine A_seq fun K17 hK17 => ?_
            refine A_reg ?_
            refine r_v (Value.bool (false)) rfl rfl rfl rfl ?_
            refine lx_nil ?_
            refine hK17 _ _ ?_; try clear hK17 K17
            obtain rfl := Option.some.inj hM
            refine A_ret (fun hn => ends_eq (v0 := Value.bool (false)) rfl (res1 rfl))
          · replace hM := ifn (ne_of_beq_false hc16) hM
            refine A_skip ?_
            refine fg _ (Sub.of (List.Sublist.slnil)) ?_
            exact ⟨hM, is_mk rfl rfl⟩
        · replace hM := ifp (eq_of_beq hg15) hM
          refine r_n true rfl (by decide) rfl ?_
          refine r_n true rfl (by decide) rfl ?_
          refine r_v (Value.bool (true)) rfl rfl rfl rfl ?_
          refine lx_nil ?_
          refine hK13 _ _ ?_; try clear hK13 K13
          refine A_cond true rfl (fun _ => ?_) (fun h_ => nomatch h_)
          refine A_seq fun K18 hK18 => ?_
          refine A_reg ?_
          refine r_v (Value.bool (false)) rfl rfl rfl rfl ?_
          refine lx_nil ?_
          refine hK18 _ _ ?_; try clear hK18 K18
          obtain rfl := Option.some.inj hM
          refine A_ret (fun hn => ends_eq (v0 := Value.bool (false)) rfl (res1 rfl))
      · replace hM := ifp (eq_of_beq hg14) hM
        refine r_n true rfl (by decide) rfl ?_
        refine r_n true rfl (by decide) rfl ?_
        refine r_v (Value.bool (true)) rfl rfl rfl rfl ?_
        refine r_v (Value.bool (true)) rfl rfl rfl rfl ?_
        refine r_n true rfl (by decide) rfl ?_
        refine r_n true rfl (by decide) rfl ?_
        refine r_v (Value.bool (true)) rfl rfl rfl rfl ?_
        refine lx_nil ?_
        refine hK13 _ _ ?_; try clear hK13 K13
        refine A_cond true rfl (fun _ => ?_) (fun h_ => nomatch h_)
        refine A_seq fun K19 hK19 => ?_
        refine A_reg ?_
        refine r_v (Value.bool (false)) rfl rfl rfl rfl ?_
        refine lx_nil ?_
        refine hK19 _ _ ?_; try clear hK19 K19
        obtain rfl := Option.some.inj hM
        refine A_ret (fun hn => ends_eq (v0 := Value.bool (false)) rfl (res1 rfl))
    · clear hM; rintro t l ⟨hM, ⟨T, rfl⟩, rfl⟩
      unfold shunterref05_Letter_k2 at hM
      refine A_seq fun K2 hK2 => ?_
      refine A_reg ?_
      refine r_v (Value.int .i64 (c)) rfl rfl rfl rfl ?_
      refine r_v (Value.bool (decide ((c : Int) ≥ 192))) rfl rfl rfl rfl ?_
      refine r_v (Value.bool (decide ((c : Int) ≥ 192))) rfl rfl rfl rfl ?_
      rcases hg3 : (decide ((c : Int) ≥ 192)) with _ | _
      · replace hM := ifn (of_decide_eq_false hg3) hM
        refine r_n false rfl (by decide) rfl ?_
        refine r_n false rfl (by decide) rfl ?_
        refine r_v (Value.bool (false)) rfl rfl rfl rfl ?_
        refine r_v (Value.bool (false)) rfl rfl rfl rfl ?_
        refine r_y rfl ?_
        refine r_v (Value.int .i64 (c)) rfl rfl rfl rfl ?_
        refine r_y rfl ?_
        refine r_v (Value.bool (decide ((c : Int) ≥ 913))) rfl rfl rfl rfl ?_
        refine r_y rfl ?_
        refine r_v (Value.bool (decide ((c : Int) ≥ 913))) rfl rfl rfl rfl ?_
        rcases hg4 : (decide ((c : Int) ≥ 913)) with _ | _
        · replace hM := ifn (of_decide_eq_false hg4) hM
          refine r_n false rfl (by decide) rfl ?_
          refine r_n false rfl (by decide) rfl ?_
          refine r_y rfl ?_
          refine r_v (Value.bool (false)) rfl rfl rfl rfl ?_
          refine r_v (Value.bool (false)) rfl rfl rfl rfl ?_
          refine r_v (Value.bool (false)) rfl rfl rfl rfl ?_
          refine r_y rfl ?_
          refine r_v (Value.int .i64 (c)) rfl rfl rfl rfl ?_
          refine r_y rfl ?_
          refine r_v (Value.bool (decide ((c : Int) ≥ 1024))) rfl rfl rfl rfl ?_
          refine r_y rfl ?_
          refine r_v (Value.bool (decide ((c : Int) ≥ 1024))) rfl rfl rfl rfl ?_
          rcases hg5 : (decide ((c : Int) ≥ 1024)) with _ | _
          · replace hM := ifn (of_decide_eq_false hg5) hM
            refine r_n false rfl (by decide) rfl ?_
            refine r_n false rfl (by decide) rfl ?_
            refine r_y rfl ?_
            refine r_v (Value.bool (false)) rfl rfl rfl rfl ?_
            refine r_v (Value.bool (false)) rfl rfl rfl rfl ?_
            refine r_v (Value.bool (false)) rfl rfl rfl rfl ?_
            refine lx_nil ?_
            refine hK2 _ _ ?_; try clear hK2 K2
            obtain rfl := Option.some.inj hM
            refine A_ret (fun hn => ends_eq (v0 := Value.bool (false)) rfl (res1 rfl))
          · replace hM := ifp (of_decide_eq_true hg5) hM
            refine r_y rfl ?_
            refine r_v (Value.int .i64 (c)) rfl rfl rfl rfl ?_
            refine r_y rfl ?_
            refine r_v (Value.bool (decide ((c : Int) ≤ 1279))) rfl rfl rfl rfl ?_
            refine r_y rfl ?_
            refine r_v (Value.bool (decide ((c : Int) ≤ 1279))) rfl rfl rfl rfl ?_
            refine r_v (Value.bool (decide ((c : Int) ≤ 1279))) rfl rfl rfl rfl ?_
            refine r_v (Value.bool (decide ((c : Int) ≤ 1279))) rfl rfl rfl rfl ?_
            refine lx_nil ?_
            refine hK2 _ _ ?_; try clear hK2 K2
            obtain rfl := Option.some.inj hM
            refine A_ret (fun hn => ends_eq (v0 := Value.bool (decide ((c : Int) ≤ 1279))) rfl (res1 rfl))
        · replace hM := ifp (of_decide_eq_true hg4) hM
          refine r_y rfl ?_
          refine r_v (Value.int .i64 (c)) rfl rfl rfl rfl ?_
          refine r_y rfl ?_
          refine r_v (Value.bool (decide ((c : Int) ≤ 969))) rfl rfl rfl rfl ?_
          refine r_y rfl ?_
          refine r_v (Value.bool (decide ((c : Int) ≤ 969))) rfl rfl rfl rfl ?_
          refine r_v (Value.bool (decide ((c : Int) ≤ 969))) rfl rfl rfl rfl ?_
          refine r_v (Value.bool (decide ((c : Int) ≤ 969))) rfl rfl rfl rfl ?_
          rcases hg6 : (decide ((c : Int) ≤ 969)) with _ | _
          · replace hM := ifn (of_decide_eq_false hg6) hM
            refine r_y rfl ?_
            refine r_v (Value.int .i64 (c)) rfl rfl rfl rfl ?_
            refine r_y rfl ?_
            refine r_v (Value.bool (decide ((c : Int) ≥ 1024))) rfl rfl rfl rfl ?_
            refine r_y rfl ?_
            refine r_v (Value.bool (decide ((c : Int) ≥ 1024))) rfl rfl rfl rfl ?_
            rcases hg7 : (decide ((c : Int) ≥ 1024)) with _ | _
            · replace hM := ifn (of_decide_eq_false hg7) hM
              refine r_n false rfl (by decide) rfl ?_
              refine r_n false rfl (by decide) rfl ?_
              refine r_y rfl ?_
              refine r_v (Value.bool (false)) rfl rfl rfl rfl ?_
              refine r_v (Value.bool (false)) rfl rfl rfl rfl ?_
              refine r_v (Value.bool (false)) rfl rfl rfl rfl ?_
              refine lx_nil ?_
              refine hK2 _ _ ?_; try clear hK2 K2
              obtain rfl := Option.some.inj hM
              refine A_ret (fun hn => ends_eq (v0 := Value.bool (false)) rfl (res1 rfl))
            · replace hM := ifp (of_decide_eq_true hg7) hM
              refine r_y rfl ?_
              refine r_v (Value.int .i64 (c)) rfl rfl rfl rfl ?_
              refine r_y rfl ?_
              refine r_v (Value.bool (decide ((c : Int) ≤ 1279))) rfl rfl rfl rfl ?_
              refine r_y rfl ?_
              refine r_v (Value.bool (decide ((c : Int) ≤ 1279))) rfl rfl rfl rfl ?_
              refine r_v (Value.bool (decide ((c : Int) ≤ 1279))) rfl rfl rfl rfl ?_
              refine r_v (Value.bool (decide ((c : Int) ≤ 1279))) rfl rfl rfl rfl ?_
              refine lx_nil ?_
              refine hK2 _ _ ?_; try clear hK2 K2
              obtain rfl := Option.some.inj hM
              refine A_ret (fun hn => ends_eq (v0 := Value.bool (decide ((c : Int) ≤ 1279))) rfl (res1 rfl))
          · replace hM := ifp (of_decide_eq_true hg6) hM
            refine r_n true rfl (by decide) rfl ?_
            refine r_n true rfl (by decide) rfl ?_
            refine r_n true rfl (by decide) rfl ?_
            refine r_nu rfl rfl ?_
            refine r_nu rfl rfl ?_
            refine r_n true rfl (by decide) rfl ?_
            refine r_v (Value.bool (true)) rfl rfl rfl rfl ?_
            refine r_v (Value.bool (true)) rfl rfl rfl rfl ?_
            refine lx_nil ?_
            refine hK2 _ _ ?_; try clear hK2 K2
            obtain rfl := Option.some.inj hM
            refine A_ret (fun hn => ends_eq (v0 := Value.bool (true)) rfl (res1 rfl))
      · replace hM := ifp (of_decide_eq_true hg3) hM
        refine r_y rfl ?_
        refine r_v (Value.int .i64 (c)) rfl rfl rfl rfl ?_
        refine r_y rfl ?_
        refine r_v (Value.bool (decide ((c : Int) ≤ 591))) rfl rfl rfl rfl ?_
        refine r_v (Value.bool (decide ((c : Int) ≤ 591))) rfl rfl rfl rfl ?_
        refine r_v (Value.bool (decide ((c : Int) ≤ 591))) rfl rfl rfl rfl ?_
        rcases hg8 : (decide ((c : Int) ≤ 591)) with _ | _
        · replace hM := ifn (of_decide_eq_false hg8) hM
          refine r_y rfl ?_
          refine r_v (Value.int .i64 (c)) rfl rfl rfl rfl ?_
          refine r_y rfl ?_
          refine r_v (Value.bool (decide ((c : Int) ≥ 913))) rfl rfl rfl rfl ?_
          refine r_y rfl ?_
          refine r_v (Value.bool (decide ((c : Int) ≥ 913))) rfl rfl rfl rfl ?_
          rcases hg9 : (decide ((c : Int) ≥ 913)) with _ | _
          · replace hM := ifn (of_decide_eq_false hg9) hM
            refine r_n false rfl (by decide) rfl ?_
            refine r_n false rfl (by decide) rfl ?_
            refine r_y rfl ?_
            refine r_v (Value.bool (false)) rfl rfl rfl rfl ?_
            refine r_v (Value.bool (false)) rfl rfl rfl rfl ?_
            refine r_v (Value.bool (false)) rfl rfl rfl rfl ?_
            refine r_y rfl ?_
            refine r_v (Value.int .i64 (c)) rfl rfl rfl rfl ?_
            refine r_y rfl ?_
            refine r_v (Value.bool (decide ((c : Int) ≥ 1024))) rfl rfl rfl rfl ?_
            refine r_y rfl ?_
            refine r_v (Value.bool (decide ((c : Int) ≥ 1024))) rfl rfl rfl rfl ?_
            rcases hg10 : (decide ((c : Int) ≥ 1024)) with _ | _
            · replace hM := ifn (of_decide_eq_false hg10) hM
              refine r_n false rfl (by decide) rfl ?_
              refine r_n false rfl (by decide) rfl ?_
              refine r_y rfl ?_
              refine r_v (Value.bool (false)) rfl rfl rfl rfl ?_
              refine r_v (Value.bool (false)) rfl rfl rfl rfl ?_
              refine r_v (Value.bool (false)) rfl rfl rfl rfl ?_
              refine lx_nil ?_
              refine hK2 _ _ ?_; try clear hK2 K2
              obtain rfl := Option.some.inj hM
              refine A_ret (fun hn => ends_eq (v0 := Value.bool (false)) rfl (res1 rfl))
            · replace hM := ifp (of_decide_eq_true hg10) hM
              refine r_y rfl ?_
              refine r_v (Value.int .i64 (c)) rfl rfl rfl rfl ?_
              refine r_y rfl ?_
              refine r_v (Value.bool (decide ((c : Int) ≤ 1279))) rfl rfl rfl rfl ?_
              refine r_y rfl ?_
              refine r_v (Value.bool (decide ((c : Int) ≤ 1279))) rfl rfl rfl rfl ?_
              refine r_v (Value.bool (decide ((c : Int) ≤ 1279))) rfl rfl rfl rfl ?_
              refine r_v (Value.bool (decide ((c : Int) ≤ 1279))) rfl rfl rfl rfl ?_
              refine lx_nil ?_
              refine hK2 _ _ ?_; try clear hK2 K2
              obtain rfl := Option.some.inj hM
              refine A_ret (fun hn => ends_eq (v0 := Value.bool (decide ((c : Int) ≤ 1279))) rfl (res1 rfl))
          · replace hM := ifp (of_decide_eq_true hg9) hM
            refine r_y rfl ?_
            refine r_v (Value.int .i64 (c)) rfl rfl rfl rfl ?_
            refine r_y rfl ?_
            refine r_v (Value.bool (decide ((c : Int) ≤ 969))) rfl rfl rfl rfl ?_
            refine r_y rfl ?_
            refine r_v (Value.bool (decide ((c : Int) ≤ 969))) rfl rfl rfl rfl ?_
            refine r_v (Value.bool (decide ((c : Int) ≤ 969))) rfl rfl rfl rfl ?_
            refine r_v (Value.bool (decide ((c : Int) ≤ 969))) rfl rfl rfl rfl ?_
            rcases hg11 : (decide ((c : Int) ≤ 969)) with _ | _
            · replace hM := ifn (of_decide_eq_false hg11) hM
              refine r_y rfl ?_
              refine r_v (Value.int .i64 (c)) rfl rfl rfl rfl ?_
              refine r_y rfl ?_
              refine r_v (Value.bool (decide ((c : Int) ≥ 1024))) rfl rfl rfl rfl ?_
              refine r_y rfl ?_
              refine r_v (Value.bool (decide ((c : Int) ≥ 1024))) rfl rfl rfl rfl ?_
              rcases hg12 : (decide ((c : Int) ≥ 1024)) with _ | _
              · replace hM := ifn (of_decide_eq_false hg12) hM
                refine r_n false rfl (by decide) rfl ?_
                refine r_n false rfl (by decide) rfl ?_
                refine r_y rfl ?_
                refine r_v (Value.bool (false)) rfl rfl rfl rfl ?_
                refine r_v (Value.bool (false)) rfl rfl rfl rfl ?_
                refine r_v (Value.bool (false)) rfl rfl rfl rfl ?_
                refine lx_nil ?_
                refine hK2 _ _ ?_; try clear hK2 K2
                obtain rfl := Option.some.inj hM
                refine A_ret (fun hn => ends_eq (v0 := Value.bool (false)) rfl (res1 rfl))
              · replace hM := ifp (of_decide_eq_true hg12) hM
                refine r_y rfl ?_
                refine r_v (Value.int .i64 (c)) rfl rfl rfl rfl ?_
                refine r_y rfl ?_
                refine r_v (Value.bool (decide ((c : Int) ≤ 1279))) rfl rfl rfl rfl ?_
                refine r_y rfl ?_
                refine r_v (Value.bool (decide ((c : Int) ≤ 1279))) rfl rfl rfl rfl ?_
                refine r_v (Value.bool (decide ((c : Int) ≤ 1279))) rfl rfl rfl rfl ?_
                refine r_v (Value.bool (decide ((c : Int) ≤ 1279))) rfl rfl rfl rfl ?_
                refine lx_nil ?_
                refine hK2 _ _ ?_; try clear hK2 K2
                obtain rfl := Option.some.inj hM
                refine A_ret (fun hn => ends_eq (v0 := Value.bool (decide ((c : Int) ≤ 1279))) rfl (res1 rfl))
            · replace hM := ifp (of_decide_eq_true hg11) hM
              refine r_n true rfl (by decide) rfl ?_
              refine r_n true rfl (by decide) rfl ?_
              refine r_n true rfl (by decide) rfl ?_
              refine r_nu rfl rfl ?_
              refine r_nu rfl rfl ?_
              refine r_n true rfl (by decide) rfl ?_
              refine r_v (Value.bool (true)) rfl rfl rfl rfl ?_
              refine r_v (Value.bool (true)) rfl rfl rfl rfl ?_
              refine lx_nil ?_
              refine hK2 _ _ ?_; try clear hK2 K2
              obtain rfl := Option.some.inj hM
              refine A_ret (fun hn => ends_eq (v0 := Value.bool (true)) rfl (res1 rfl))
        · replace hM := ifp (of_decide_eq_true hg8) hM
          refine r_n true rfl (by decide) rfl ?_
          refine r_n true rfl (by decide) rfl ?_
          refine r_n true rfl (by decide) rfl ?_
          refine r_nu rfl rfl ?_
          refine r_nu rfl rfl ?_
          refine r_n true rfl (by decide) rfl ?_
          refine r_v (Value.bool (true)) rfl rfl rfl rfl ?_
          refine r_v (Value.bool (true)) rfl rfl rfl rfl ?_
          refine r_n true rfl (by decide) rfl ?_
          refine r_n true rfl (by decide) rfl ?_
          refine r_n true rfl (by decide) rfl ?_
          refine r_nu rfl rfl ?_
          refine r_nu rfl rfl ?_
          refine r_n true rfl (by decide) rfl ?_
          refine r_v (Value.bool (true)) rfl rfl rfl rfl ?_
          refine r_v (Value.bool (true)) rfl rfl rfl rfl ?_
          refine lx_nil ?_
          refine hK2 _ _ ?_; try clear hK2 K2
          obtain rfl := Option.some.inj hM
          refine A_ret (fun hn => ends_eq (v0 := Value.bool (true)) rfl (res1 rfl))
def shunterref05_May_l3 (N : Nat) (r3 : List Int) : Nat → Int → Option (Bool)
  | 0, _ => none
  | n10 + 1, i2_ => if (i2_ : Int) < ((r3).length : Int) then ck (0 ≤ i2_ ∧ i2_ < ((r3).length : Int)) ((shunterref05_Letter_m N ((r3)[(i2_).toNat]!)).bind fun r17 => if (r17) = true then ck ((-9223372036854775808 ≤ (i2_ + 1) ∧ (i2_ + 1) ≤ 9223372036854775807)) ((shunterref05_May_l3 N r3 n10) ((i2_ + 1))) else ck (0 ≤ i2_ ∧ i2_ < ((r3).length : Int)) (if ((r3)[(i2_).toNat]! : Int) ≥ 48 then ck (0 ≤ i2_ ∧ i2_ < ((r3).length : Int)) (if ((r3)[(i2_).toNat]! : Int) ≤ 57 then ck ((-9223372036854775808 ≤ (i2_ + 1) ∧ (i2_ + 1) ≤ 9223372036854775807)) ((shunterref05_May_l3 N r3 n10) ((i2_ + 1))) else ck (0 ≤ i2_ ∧ i2_ < ((r3).length : Int)) (if ((r3)[(i2_).toNat]! : Int) ≠ 45 then ck (0 ≤ i2_ ∧ i2_ < ((r3).length : Int)) (if ((r3)[(i2_).toNat]! : Int) ≠ 46 then some (false) else ck ((-9223372036854775808 ≤ (i2_ + 1) ∧ (i2_ + 1) ≤ 9223372036854775807)) ((shunterref05_May_l3 N r3 n10) ((i2_ + 1)))) else ck ((-9223372036854775808 ≤ (i2_ + 1) ∧ (i2_ + 1) ≤ 9223372036854775807)) ((shunterref05_May_l3 N r3 n10) ((i2_ + 1))))) else ck (0 ≤ i2_ ∧ i2_ < ((r3).length : Int)) (if ((r3)[(i2_).toNat]! : Int) ≠ 45 then ck (0 ≤ i2_ ∧ i2_ < ((r3).length : Int)) (if ((r3)[(i2_).toNat]! : Int) ≠ 46 then some (false) else ck ((-9223372036854775808 ≤ (i2_ + 1) ∧ (i2_ + 1) ≤ 9223372036854775807)) ((shunterref05_May_l3 N r3 n10) ((i2_ + 1)))) else ck ((-9223372036854775808 ≤ (i2_ + 1) ∧ (i2_ + 1) ≤ 9223372036854775807)) ((shunterref05_May_l3 N r3 n10) ((i2_ + 1)))))) else some (true)
def shunterref05_May_k1 (N : Nat) (r3 : List Int) : Option (Bool) := shunterref05_May_l3 N r3 N (0)
def shunterref05_May_m (N : Nat) (s : List UInt8) : Option (Bool) := (shunterref05_Runes_m N s).bind fun r3 => if (((r3).length : Int) : Int) < 1 then some (false) else if (((r3).length : Int) : Int) > 24 then some (false) else ck (0 ≤ (0 : Int) ∧ (0 : Int) < ((r3).length : Int)) ((shunterref05_Letter_m N ((r3)[((0 : Int)).toNat]!)).bind fun r45 => if (r45) = true then shunterref05_May_k1 N r3  else some (false))
set_option maxRecDepth 100000 in
set_option maxHeartbeats 400000 in
theorem shunterref05_May_g (N : Nat) (s : List UInt8) (r : Bool) (hM : shunterref05_May_m N s = some r) : Gives Try.prog 16 #[Value.string (⟨(s).toArray⟩)] (Value.bool (r)) := by
  unfold shunterref05_May_m at hM
  refine gives_of_A follows Try.func16 rfl 63 rfl (upd (fun _ => undef) 0 (Value.string (⟨(s).toArray⟩))) (by funext k; match k with | 0 => rfl | k + 1 => rfl) (fun base0_ => ?_)
  refine A_seq fun K1 hK1 => ?_
  refine A_reg ?_
  refine r_v (Value.bool (false)) rfl rfl rfl rfl ?_
  refine lx_nil ?_
  refine hK1 _ _ ?_; try clear hK1 K1
  refine A_seq fun K2 hK2 => ?_
  refine A_regC [(some 6, false)] (conG Try.prog [(6, fun v_ L_ U_ => ∀ u0_, shunterref05_Runes_m N s = some u0_ → (p1 (fun s_ => s_) 3 encI (u0_)) v_ L_ U_)]) ?_
  refine r_v (Value.string (⟨(s).toArray⟩)) rfl rfl rfl rfl ?_
  replace hM := bind_sm hM; obtain ⟨r3, hr4, hM⟩ := hM
  refine r_g1 (Ls := []) (fun s5 => s5) 3 encI (r3) 10 _ rfl rfl rfl (ev_callF rfl call_10 rfl) (fun own_ nw_ hs_ => shunterref05_Runes_g N s _ hr4 hs_.view ) (fun _ _ v_ L_ U_ => ⟨fun h_ => h_ _ hr4, fun h_ => by intro _ e_; cases Option.some.inj (e_.symm.trans hr4); exact h_⟩) (fun s5 S6 H7 => ?_)
  refine r_v (s5) rfl rfl rfl rfl ?_
  refine lx_nil ?_
  refine hK2 _ _ ?_; try clear hK2 K2
  refine A_cut (fun tt ll => (shunterref05_May_k1 N r3  = some r) ∧ Is [(3, s5)] (List.flatten [S6]) tt ll) ?_ ?_
  · refine A_seq fun K41 hK41 => ?_
    refine A_reg ?_
    refine r_v (s5) rfl rfl rfl rfl ?_
    refine r_v (Value.int .i64 (((r3).length : Int))) rfl rfl rfl (ev_lenSl rfl rfl rfl (Sl.shp H7)) ?_
    refine r_v (Value.bool (decide ((((r3).length : Int) : Int) < 1))) rfl rfl rfl rfl ?_
    refine r_v (Value.bool (decide ((((r3).length : Int) : Int) < 1))) rfl rfl rfl rfl ?_
    rcases hg42 : (decide ((((r3).length : Int) : Int) < 1)) with _ | _
    · replace hM := ifn (of_decide_eq_false hg42) hM
      refine r_y rfl ?_
      refine r_v (s5) rfl rfl rfl rfl ?_
      refine r_y rfl ?_
      refine r_v (Value.int .i64 (((r3).length : Int))) rfl rfl rfl (ev_lenSl rfl rfl rfl (Sl.shp H7)) ?_
      refine r_y rfl ?_
      refine r_v (Value.bool (decide ((((r3).length : Int) : Int) > 24))) rfl rfl rfl rfl ?_
      refine r_v (Value.bool (decide ((((r3).length : Int) : Int) > 24))) rfl rfl rfl rfl ?_
      refine r_v (Value.bool (decide ((((r3).length : Int) : Int) > 24))) rfl rfl rfl rfl ?_
      rcases hg43 : (decide ((((r3).length : Int) : Int) > 24)) with _ | _
      · replace hM := ifn (of_decide_eq_false hg43) hM
        refine r_y rfl ?_
        refine r_v (s5) rfl rfl rfl rfl ?_
        refine r_y rfl ?_
        replace hM := ck_some hM; obtain ⟨ck44, hM⟩ := hM
        refine r_v (elA s5 (((0 : Int)).toNat * 1)) rfl rfl rfl (ev_v (ev_idxSl rfl rfl rfl (Sl.shp H7) ck44)) ?_
        refine r_y rfl ?_
        refine r_le (Value.int .i64 ((r3)[((0 : Int)).toNat]!)) (En := encI) ((r3)[((0 : Int)).toNat]!) (((0 : Int)).toNat) 0 rfl rfl (rd_own H7 (mem_chunk (Ls := [S6]) (k := 0) rfl rfl)) (get_of ck44) rfl ?_
        refine r_y rfl ?_
        replace hM := bind_sm hM; obtain ⟨r45, hr46, hM⟩ := hM
        refine r_c (Value.bool (r45)) rfl _ _ (ev_callF rfl call_18 rfl) (shunterref05_Letter_g N ((r3)[((0 : Int)).toNat]!) _ hr46) ?_
        refine r_y rfl ?_
        refine r_v (Value.bool (!(r45))) rfl rfl rfl rfl ?_
        refine r_v (Value.bool (!(r45))) rfl rfl rfl rfl ?_
        refine lx_nil ?_
        refine hK41 _ _ ?_; try clear hK41 K41
        refine A_cond (!(r45)) rfl (fun hc47 => ?_) (fun hc47 => ?_)
        · replace hM := ifn (Bool.eq_false_iff.1 (not_t hc47)) hM
          refine A_seq fun K48 hK48 => ?_
          refine A_reg ?_
          refine r_v (Value.bool (false)) rfl rfl rfl rfl ?_
          refine lx_nil ?_
          refine hK48 _ _ ?_; try clear hK48 K48
          obtain rfl := Option.some.inj hM
          refine A_ret (fun hn => ends_eq (v0 := Value.bool (false)) rfl (res1 rfl))
        · replace hM := ifp (not_f hc47) hM
          refine A_skip ?_
          refine fg _ (Sub.pick [S6] [0] rfl) ?_
          exact ⟨hM, is_mk rfl rfl⟩
      · replace hM := ifp (of_decide_eq_true hg43) hM
        refine r_n true rfl (by decide) rfl ?_
        refine r_n true rfl (by decide) rfl ?_
        refine r_n true rfl (by decide) rfl ?_
        refine r_n true rfl (by decide) rfl ?_
        refine r_n true rfl (by decide) rfl ?_
        refine r_v (Value.bool (true)) rfl rfl rfl rfl ?_
        refine lx_nil ?_
        refine hK41 _ _ ?_; try clear hK41 K41
        refine A_cond true rfl (fun _ => ?_) (fun h_ => nomatch h_)
        refine A_seq fun K49 hK49 => ?_
        refine A_reg ?_
        refine r_v (Value.bool (false)) rfl rfl rfl rfl ?_
        refine lx_nil ?_
        refine hK49 _ _ ?_; try clear hK49 K49
        obtain rfl := Option.some.inj hM
        refine A_ret (fun hn => ends_eq (v0 := Value.bool (false)) rfl (res1 rfl))
    · replace hM := ifp (of_decide_eq_true hg42) hM
      refine r_n true rfl (by decide) rfl ?_
      refine r_n true rfl (by decide) rfl ?_
      refine r_n true rfl (by decide) rfl ?_
      refine r_v (Value.bool (true)) rfl rfl rfl rfl ?_
      refine r_v (Value.bool (true)) rfl rfl rfl rfl ?_
      refine r_n true rfl (by decide) rfl ?_
      refine r_n true rfl (by decide) rfl ?_
      refine r_n true rfl (by decide) rfl ?_
      refine r_n true rfl (by decide) rfl ?_
      refine r_n true rfl (by decide) rfl ?_
      refine r_v (Value.bool (true)) rfl rfl rfl rfl ?_
      refine lx_nil ?_
      refine hK41 _ _ ?_; try clear hK41 K41
      refine A_cond true rfl (fun _ => ?_) (fun h_ => nomatch h_)
      refine A_seq fun K50 hK50 => ?_
      refine A_reg ?_
      refine r_v (Value.bool (false)) rfl rfl rfl rfl ?_
      refine lx_nil ?_
      refine hK50 _ _ ?_; try clear hK50 K50
      obtain rfl := Option.some.inj hM
      refine A_ret (fun hn => ends_eq (v0 := Value.bool (false)) rfl (res1 rfl))
  · clear hM; rintro t l ⟨hM, ⟨T, rfl⟩, rfl⟩
    unfold shunterref05_May_k1 at hM
    refine A_seq fun K8 hK8 => ?_
    refine A_seq fun K9 hK9 => ?_
    refine A_reg ?_
    refine r_v (Value.int .i64 (0)) rfl rfl rfl rfl ?_
    refine lx_nil ?_
    refine hK9 _ _ ?_; try clear hK9 K9
    refine A_block ?_
    refine A_forget _ (Sub.pick [S6] [0] rfl) ?_
    refine A_loop (fun tt ll nn => ∃ (n10 : Nat) (i2_ : Int), (shunterref05_May_l3 N r3 n10 i2_ = some r) ∧ Is [(3, s5), (4, Value.int .i64 (i2_))] (List.flatten [S6]) tt ll ∧ nn = n10 + 1) (N + 1) ?_ ?_
    · exact ⟨N, 0, hM, is_mk rfl rfl, rfl⟩
    · clear hM; rintro t l _ ⟨n10, i2_, hM, ⟨⟨T, rfl⟩, rfl⟩, rfl⟩
      rcases n10 with _ | n10
      · exact absurd hM (by simp [shunterref05_May_l3])
      rw [shunterref05_May_l3] at hM
      refine A_seq fun K11 hK11 => ?_
      refine A_seq fun K12 hK12 => ?_
      refine A_reg ?_
      refine r_v (Value.int .i64 (i2_)) rfl rfl rfl rfl ?_
      refine r_v (s5) rfl rfl rfl rfl ?_
      refine r_v (Value.int .i64 (((r3).length : Int))) rfl rfl rfl (ev_lenSl rfl rfl rfl (Sl.shp H7)) ?_
      refine r_v (Value.bool (decide ((i2_ : Int) < ((r3).length : Int)))) rfl rfl rfl rfl ?_
      refine lx_nil ?_
      refine hK12 _ _ ?_; try clear hK12 K12
      refine A_cond (decide ((i2_ : Int) < ((r3).length : Int))) rfl (fun hc13 => ?_) (fun hc13 => ?_)
      · replace hM := ifp (of_decide_eq_true hc13) hM
        refine A_skip ?_
        refine hK11 _ _ ?_; try clear hK11 K11
        refine A_seq fun K14 hK14 => ?_
        refine A_block ?_
        refine A_seq fun K15 hK15 => ?_
        refine A_reg ?_
        refine r_v (s5) rfl rfl rfl rfl ?_
        refine r_v (Value.int .i64 (i2_)) rfl rfl rfl rfl ?_
        replace hM := ck_some hM; obtain ⟨ck16, hM⟩ := hM
        refine r_v (elA s5 ((i2_).toNat * 1)) rfl rfl rfl (ev_v (ev_idxSl rfl rfl rfl (Sl.shp H7) ck16)) ?_
        refine r_le (Value.int .i64 ((r3)[(i2_).toNat]!)) (En := encI) ((r3)[(i2_).toNat]!) ((i2_).toNat) 0 rfl rfl (rd_own H7 (mem_chunk (Ls := [S6]) (k := 0) rfl rfl)) (get_of ck16) rfl ?_
        replace hM := bind_sm hM; obtain ⟨r17, hr18, hM⟩ := hM
        refine r_c (Value.bool (r17)) rfl _ _ (ev_callF rfl call_18 rfl) (shunterref05_Letter_g N ((r3)[(i2_).toNat]!) _ hr18) ?_
        refine r_v (Value.bool (!(r17))) rfl rfl rfl rfl ?_
        refine r_v (Value.bool (!(r17))) rfl rfl rfl rfl ?_
        rcases hg19 : (!(r17)) with _ | _
        · replace hM := ifp (not_f hg19) hM
          refine r_n false rfl (by decide) rfl ?_
          refine r_n false rfl (by decide) rfl ?_
          refine r_n false rfl (by decide) rfl ?_
          refine r_n false rfl (by decide) rfl ?_
          refine r_n false rfl (by decide) rfl ?_
          refine r_n false rfl (by decide) rfl ?_
          refine r_nu rfl rfl ?_
          refine r_nu rfl rfl ?_
          refine r_nu rfl rfl ?_
          refine r_nu rfl rfl ?_
          refine r_nu rfl rfl ?_
          refine r_n false rfl (by decide) rfl ?_
          refine r_n false rfl (by decide) rfl ?_
          refine r_v (Value.bool (false)) rfl rfl rfl rfl ?_
          refine r_v (Value.bool (false)) rfl rfl rfl rfl ?_
          refine r_n false rfl (by decide) rfl ?_
          refine r_n false rfl (by decide) rfl ?_
          refine r_n false rfl (by decide) rfl ?_
          refine r_n false rfl (by decide) rfl ?_
          refine r_n false rfl (by decide) rfl ?_
          refine r_v (Value.bool (false)) rfl rfl rfl rfl ?_
          refine r_v (Value.bool (false)) rfl rfl rfl rfl ?_
          refine r_n false rfl (by decide) rfl ?_
          refine r_n false rfl (by decide) rfl ?_
          refine r_n false rfl (by decide) rfl ?_
          refine r_n false rfl (by decide) rfl ?_
          refine r_n false rfl (by decide) rfl ?_
          refine r_v (Value.bool (false)) rfl rfl rfl rfl ?_
          refine lx_nil ?_
          refine hK15 _ _ ?_; try clear hK15 K15
          refine A_gen [(3, s5), (4, Value.int .i64 (i2_)), (62, Value.bool (false))] rfl (fun T => ?_)
          refine A_cond false rfl (fun h_ => nomatch h_) (fun _ => ?_)
          refine A_skip ?_
          refine hK14 _ _ ?_; try clear hK14 K14
          refine A_reg ?_
          refine r_v (Value.int .i64 (i2_)) rfl rfl rfl rfl ?_
          replace hM := ck_some hM; obtain ⟨ck20, hM⟩ := hM
          refine r_v (Value.int .i64 ((i2_ + 1))) rfl rfl (wi64 rfl ck20.1 ck20.2) rfl ?_
          refine r_v (Value.int .i64 ((i2_ + 1))) rfl rfl rfl rfl ?_
          refine lx_nil ?_
          refine fg _ (Sub.pick [S6] [0] rfl) ?_
          exact ⟨n10 + 1, by omega, n10, (i2_ + 1), hM, is_mk (by first | rfl | (simp only [hg19]; done) | (simp only [hg19]; rfl) | (simp only [app_hl]; rfl)) rfl, rfl⟩
        · replace hM := ifn (Bool.eq_false_iff.1 (not_t hg19)) hM
          refine r_y rfl ?_
          refine r_v (s5) rfl rfl rfl rfl ?_
          refine r_y rfl ?_
          refine r_v (Value.int .i64 (i2_)) rfl rfl rfl rfl ?_
          refine r_y rfl ?_
          replace hM := ck_some hM; obtain ⟨ck21, hM⟩ := hM
          refine r_v (elA s5 ((i2_).toNat * 1)) rfl rfl rfl (ev_v (ev_idxSl rfl rfl rfl (Sl.shp H7) ck21)) ?_
          refine r_y rfl ?_
          refine r_le (Value.int .i64 ((r3)[(i2_).toNat]!)) (En := encI) ((r3)[(i2_).toNat]!) ((i2_).toNat) 0 rfl rfl (rd_own H7 (mem_chunk (Ls := [S6]) (k := 0) rfl rfl)) (get_of ck21) rfl ?_
          refine r_y rfl ?_
          refine r_v (Value.bool (decide (((r3)[(i2_).toNat]! : Int) ≥ 48))) rfl rfl rfl rfl ?_
          refine r_y rfl ?_
          refine r_v (Value.bool (decide (((r3)[(i2_).toNat]! : Int) ≥ 48))) rfl rfl rfl rfl ?_
          rcases hg22 : (decide (((r3)[(i2_).toNat]! : Int) ≥ 48)) with _ | _
          · replace hM := ifn (of_decide_eq_false hg22) hM
            refine r_n false rfl (by decide) rfl ?_
            refine r_n false rfl (by decide) rfl ?_
            refine r_n false rfl (by decide) rfl ?_
            refine r_n false rfl (by decide) rfl ?_
            refine r_n false rfl (by decide) rfl ?_
            refine r_y rfl ?_
            refine r_v (Value.bool (false)) rfl rfl rfl rfl ?_
            refine r_y rfl ?_
            refine r_v (Value.bool (true)) rfl rfl rfl rfl ?_
            refine r_v (Value.bool (true)) rfl rfl rfl rfl ?_
            refine r_v (Value.bool (true)) rfl rfl rfl rfl ?_
            refine r_y rfl ?_
            refine r_v (s5) rfl rfl rfl rfl ?_
            refine r_y rfl ?_
            refine r_v (Value.int .i64 (i2_)) rfl rfl rfl rfl ?_
            refine r_y rfl ?_
            replace hM := ck_some hM; obtain ⟨ck23, hM⟩ := hM
            refine r_v (elA s5 ((i2_).toNat * 1)) rfl rfl rfl (ev_v (ev_idxSl rfl rfl rfl (Sl.shp H7) ck23)) ?_
            refine r_y rfl ?_
            refine r_le (Value.int .i64 ((r3)[(i2_).toNat]!)) (En := encI) ((r3)[(i2_).toNat]!) ((i2_).toNat) 0 rfl rfl (rd_own H7 (mem_chunk (Ls := [S6]) (k := 0) rfl rfl)) (get_of ck23) rfl ?_
            refine r_y rfl ?_
            refine r_v (Value.bool ((((r3)[(i2_).toNat]! : Int) != 45))) rfl rfl rfl rfl ?_
            refine r_v (Value.bool ((((r3)[(i2_).toNat]! : Int) != 45))) rfl rfl rfl rfl ?_
            refine r_v (Value.bool ((((r3)[(i2_).toNat]! : Int) != 45))) rfl rfl rfl rfl ?_
            rcases hg24 : ((((r3)[(i2_).toNat]! : Int) != 45)) with _ | _
            · replace hM := ifn (bne_f hg24) hM
              refine r_n false rfl (by decide) rfl ?_
              refine r_n false rfl (by decide) rfl ?_
              refine r_n false rfl (by decide) rfl ?_
              refine r_n false rfl (by decide) rfl ?_
              refine r_n false rfl (by decide) rfl ?_
              refine r_v (Value.bool (false)) rfl rfl rfl rfl ?_
              refine lx_nil ?_
              refine hK15 _ _ ?_; try clear hK15 K15
              refine A_gen [(3, s5), (4, Value.int .i64 (i2_)), (62, Value.bool (false))] rfl (fun T => ?_)
              refine A_cond false rfl (fun h_ => nomatch h_) (fun _ => ?_)
              refine A_skip ?_
              refine hK14 _ _ ?_; try clear hK14 K14
              refine A_reg ?_
              refine r_v (Value.int .i64 (i2_)) rfl rfl rfl rfl ?_
              replace hM := ck_some hM; obtain ⟨ck25, hM⟩ := hM
              refine r_v (Value.int .i64 ((i2_ + 1))) rfl rfl (wi64 rfl ck25.1 ck25.2) rfl ?_
              refine r_v (Value.int .i64 ((i2_ + 1))) rfl rfl rfl rfl ?_
              refine lx_nil ?_
              refine fg _ (Sub.pick [S6] [0] rfl) ?_
              exact ⟨n10 + 1, by omega, n10, (i2_ + 1), hM, is_mk (by first | rfl | (simp only [hg19, hg22, hg24]; done) | (simp only [hg19, hg22, hg24]; rfl) | (simp only [app_hl]; rfl)) rfl, rfl⟩
            · replace hM := ifp (bne_iff_ne.1 hg24) hM
              refine r_y rfl ?_
              refine r_v (s5) rfl rfl rfl rfl ?_
              refine r_y rfl ?_
              refine r_v (Value.int .i64 (i2_)) rfl rfl rfl rfl ?_
              refine r_y rfl ?_
              replace hM := ck_some hM; obtain ⟨ck26, hM⟩ := hM
              refine r_v (elA s5 ((i2_).toNat * 1)) rfl rfl rfl (ev_v (ev_idxSl rfl rfl rfl (Sl.shp H7) ck26)) ?_
              refine r_y rfl ?_
              refine r_le (Value.int .i64 ((r3)[(i2_).toNat]!)) (En := encI) ((r3)[(i2_).toNat]!) ((i2_).toNat) 0 rfl rfl (rd_own H7 (mem_chunk (Ls := [S6]) (k := 0) rfl rfl)) (get_of ck26) rfl ?_
              refine r_y rfl ?_
              refine r_v (Value.bool ((((r3)[(i2_).toNat]! : Int) != 46))) rfl rfl rfl rfl ?_
              refine r_v (Value.bool ((((r3)[(i2_).toNat]! : Int) != 46))) rfl rfl rfl rfl ?_
              refine lx_nil ?_
              refine hK15 _ _ ?_; try clear hK15 K15
              refine A_gen [(3, s5), (4, Value.int .i64 (i2_)), (62, Value.bool ((((r3)[(i2_).toNat]! : Int) != 46)))] rfl (fun T => ?_)
              refine A_cond ((((r3)[(i2_).toNat]! : Int) != 46)) rfl (fun hc27 => ?_) (fun hc27 => ?_)
              · replace hM := ifp (bne_iff_ne.1 hc27) hM
                refine A_seq fun K28 hK28 => ?_
                refine A_reg ?_
                refine r_v (Value.bool (false)) rfl rfl rfl rfl ?_
                refine lx_nil ?_
                refine hK28 _ _ ?_; try clear hK28 K28
                obtain rfl := Option.some.inj hM
                refine A_ret (fun hn => ends_eq (v0 := Value.bool (false)) rfl (res1 rfl))
              · replace hM := ifn (bne_f hc27) hM
                refine A_skip ?_
                refine hK14 _ _ ?_; try clear hK14 K14
                refine A_reg ?_
                refine r_v (Value.int .i64 (i2_)) rfl rfl rfl rfl ?_
                replace hM := ck_some hM; obtain ⟨ck29, hM⟩ := hM
                refine r_v (Value.int .i64 ((i2_ + 1))) rfl rfl (wi64 rfl ck29.1 ck29.2) rfl ?_
                refine r_v (Value.int .i64 ((i2_ + 1))) rfl rfl rfl rfl ?_
                refine lx_nil ?_
                refine fg _ (Sub.pick [S6] [0] rfl) ?_
                exact ⟨n10 + 1, by omega, n10, (i2_ + 1), hM, is_mk (by first | rfl | (simp only [hg19, hg22, hg24]; done) | (simp only [hg19, hg22, hg24]; rfl) | (simp only [app_hl]; rfl)) rfl, rfl⟩
          · replace hM := ifp (of_decide_eq_true hg22) hM
            refine r_y rfl ?_
            refine r_v (s5) rfl rfl rfl rfl ?_
            refine r_y rfl ?_
            refine r_v (Value.int .i64 (i2_)) rfl rfl rfl rfl ?_
            refine r_y rfl ?_
            replace hM := ck_some hM; obtain ⟨ck30, hM⟩ := hM
            refine r_v (elA s5 ((i2_).toNat * 1)) rfl rfl rfl (ev_v (ev_idxSl rfl rfl rfl (Sl.shp H7) ck30)) ?_
            refine r_y rfl ?_
            refine r_le (Value.int .i64 ((r3)[(i2_).toNat]!)) (En := encI) ((r3)[(i2_).toNat]!) ((i2_).toNat) 0 rfl rfl (rd_own H7 (mem_chunk (Ls := [S6]) (k := 0) rfl rfl)) (get_of ck30) rfl ?_
            refine r_y rfl ?_
            refine r_v (Value.bool (decide (((r3)[(i2_).toNat]! : Int) ≤ 57))) rfl rfl rfl rfl ?_
            refine r_y rfl ?_
            refine r_v (Value.bool (decide (((r3)[(i2_).toNat]! : Int) ≤ 57))) rfl rfl rfl rfl ?_
            refine r_y rfl ?_
            refine r_v (Value.bool (!(decide (((r3)[(i2_).toNat]! : Int) ≤ 57)))) rfl rfl rfl rfl ?_
            refine r_v (Value.bool (!(decide (((r3)[(i2_).toNat]! : Int) ≤ 57)))) rfl rfl rfl rfl ?_
            refine r_v (Value.bool (!(decide (((r3)[(i2_).toNat]! : Int) ≤ 57)))) rfl rfl rfl rfl ?_
            rcases hg31 : (!(decide (((r3)[(i2_).toNat]! : Int) ≤ 57))) with _ | _
            · replace hM := ifp (of_decide_eq_true (not_f hg31)) hM
              refine r_n false rfl (by decide) rfl ?_
              refine r_n false rfl (by decide) rfl ?_
              refine r_n false rfl (by decide) rfl ?_
              refine r_n false rfl (by decide) rfl ?_
              refine r_n false rfl (by decide) rfl ?_
              refine r_v (Value.bool (false)) rfl rfl rfl rfl ?_
              refine r_v (Value.bool (false)) rfl rfl rfl rfl ?_
              refine r_n false rfl (by decide) rfl ?_
              refine r_n false rfl (by decide) rfl ?_
              refine r_n false rfl (by decide) rfl ?_
              refine r_n false rfl (by decide) rfl ?_
              refine r_n false rfl (by decide) rfl ?_
              refine r_v (Value.bool (false)) rfl rfl rfl rfl ?_
              refine lx_nil ?_
              refine hK15 _ _ ?_; try clear hK15 K15
              refine A_gen [(3, s5), (4, Value.int .i64 (i2_)), (62, Value.bool (false))] rfl (fun T => ?_)
              refine A_cond false rfl (fun h_ => nomatch h_) (fun _ => ?_)
              refine A_skip ?_
              refine hK14 _ _ ?_; try clear hK14 K14
              refine A_reg ?_
              refine r_v (Value.int .i64 (i2_)) rfl rfl rfl rfl ?_
              replace hM := ck_some hM; obtain ⟨ck32, hM⟩ := hM
              refine r_v (Value.int .i64 ((i2_ + 1))) rfl rfl (wi64 rfl ck32.1 ck32.2) rfl ?_
              refine r_v (Value.int .i64 ((i2_ + 1))) rfl rfl rfl rfl ?_
              refine lx_nil ?_
              refine fg _ (Sub.pick [S6] [0] rfl) ?_
              exact ⟨n10 + 1, by omega, n10, (i2_ + 1), hM, is_mk (by first | rfl | (simp only [hg19, hg22, hg31]; done) | (simp only [hg19, hg22, hg31]; rfl) | (simp only [app_hl]; rfl)) rfl, rfl⟩
            · replace hM := ifn (of_decide_eq_false (not_t hg31)) hM
              refine r_y rfl ?_
              refine r_v (s5) rfl rfl rfl rfl ?_
              refine r_y rfl ?_
              refine r_v (Value.int .i64 (i2_)) rfl rfl rfl rfl ?_
              refine r_y rfl ?_
              replace hM := ck_some hM; obtain ⟨ck33, hM⟩ := hM
              refine r_v (elA s5 ((i2_).toNat * 1)) rfl rfl rfl (ev_v (ev_idxSl rfl rfl rfl (Sl.shp H7) ck33)) ?_
              refine r_y rfl ?_
              refine r_le (Value.int .i64 ((r3)[(i2_).toNat]!)) (En := encI) ((r3)[(i2_).toNat]!) ((i2_).toNat) 0 rfl rfl (rd_own H7 (mem_chunk (Ls := [S6]) (k := 0) rfl rfl)) (get_of ck33) rfl ?_
              refine r_y rfl ?_
              refine r_v (Value.bool ((((r3)[(i2_).toNat]! : Int) != 45))) rfl rfl rfl rfl ?_
              refine r_v (Value.bool ((((r3)[(i2_).toNat]! : Int) != 45))) rfl rfl rfl rfl ?_
              refine r_v (Value.bool ((((r3)[(i2_).toNat]! : Int) != 45))) rfl rfl rfl rfl ?_
              rcases hg34 : ((((r3)[(i2_).toNat]! : Int) != 45)) with _ | _
              · replace hM := ifn (bne_f hg34) hM
                refine r_n false rfl (by decide) rfl ?_
                refine r_n false rfl (by decide) rfl ?_
                refine r_n false rfl (by decide) rfl ?_
                refine r_n false rfl (by decide) rfl ?_
                refine r_n false rfl (by decide) rfl ?_
                refine r_v (Value.bool (false)) rfl rfl rfl rfl ?_
                refine lx_nil ?_
                refine hK15 _ _ ?_; try clear hK15 K15
                refine A_gen [(3, s5), (4, Value.int .i64 (i2_)), (62, Value.bool (false))] rfl (fun T => ?_)
                refine A_cond false rfl (fun h_ => nomatch h_) (fun _ => ?_)
                refine A_skip ?_
                refine hK14 _ _ ?_; try clear hK14 K14
                refine A_reg ?_
                refine r_v (Value.int .i64 (i2_)) rfl rfl rfl rfl ?_
                replace hM := ck_some hM; obtain ⟨ck35, hM⟩ := hM
                refine r_v (Value.int .i64 ((i2_ + 1))) rfl rfl (wi64 rfl ck35.1 ck35.2) rfl ?_
                refine r_v (Value.int .i64 ((i2_ + 1))) rfl rfl rfl rfl ?_
                refine lx_nil ?_
                refine fg _ (Sub.pick [S6] [0] rfl) ?_
                exact ⟨n10 + 1, by omega, n10, (i2_ + 1), hM, is_mk (by first | rfl | (simp only [hg19, hg22, hg31, hg34]; done) | (simp only [hg19, hg22, hg31, hg34]; rfl) | (simp only [app_hl]; rfl)) rfl, rfl⟩
              · replace hM := ifp (bne_iff_ne.1 hg34) hM
                refine r_y rfl ?_
                refine r_v (s5) rfl rfl rfl rfl ?_
                refine r_y rfl ?_
                refine r_v (Value.int .i64 (i2_)) rfl rfl rfl rfl ?_
                refine r_y rfl ?_
                replace hM := ck_some hM; obtain ⟨ck36, hM⟩ := hM
                refine r_v (elA s5 ((i2_).toNat * 1)) rfl rfl rfl (ev_v (ev_idxSl rfl rfl rfl (Sl.shp H7) ck36)) ?_
                refine r_y rfl ?_
                refine r_le (Value.int .i64 ((r3)[(i2_).toNat]!)) (En := encI) ((r3)[(i2_).toNat]!) ((i2_).toNat) 0 rfl rfl (rd_own H7 (mem_chunk (Ls := [S6]) (k := 0) rfl rfl)) (get_of ck36) rfl ?_
                refine r_y rfl ?_
                refine r_v (Value.bool ((((r3)[(i2_).toNat]! : Int) != 46))) rfl rfl rfl rfl ?_
                refine r_v (Value.bool ((((r3)[(i2_).toNat]! : Int) != 46))) rfl rfl rfl rfl ?_
                refine lx_nil ?_
                refine hK15 _ _ ?_; try clear hK15 K15
                refine A_gen [(3, s5), (4, Value.int .i64 (i2_)), (62, Value.bool ((((r3)[(i2_).toNat]! : Int) != 46)))] rfl (fun T => ?_)
                refine A_cond ((((r3)[(i2_).toNat]! : Int) != 46)) rfl (fun hc37 => ?_) (fun hc37 => ?_)
                · replace hM := ifp (bne_iff_ne.1 hc37) hM
                  refine A_seq fun K38 hK38 => ?_
                  refine A_reg ?_
                  refine r_v (Value.bool (false)) rfl rfl rfl rfl ?_
                  refine lx_nil ?_
                  refine hK38 _ _ ?_; try clear hK38 K38
                  obtain rfl := Option.some.inj hM
                  refine A_ret (fun hn => ends_eq (v0 := Value.bool (false)) rfl (res1 rfl))
                · replace hM := ifn (bne_f hc37) hM
                  refine A_skip ?_
                  refine hK14 _ _ ?_; try clear hK14 K14
                  refine A_reg ?_
                  refine r_v (Value.int .i64 (i2_)) rfl rfl rfl rfl ?_
                  replace hM := ck_some hM; obtain ⟨ck39, hM⟩ := hM
                  refine r_v (Value.int .i64 ((i2_ + 1))) rfl rfl (wi64 rfl ck39.1 ck39.2) rfl ?_
                  refine r_v (Value.int .i64 ((i2_ + 1))) rfl rfl rfl rfl ?_
                  refine lx_nil ?_
                  refine fg _ (Sub.pick [S6] [0] rfl) ?_
                  exact ⟨n10 + 1, by omega, n10, (i2_ + 1), hM, is_mk (by first | rfl | (simp only [hg19, hg22, hg31, hg34]; done) | (simp only [hg19, hg22, hg31, hg34]; rfl) | (simp only [app_hl]; rfl)) rfl, rfl⟩
      · replace hM := ifn (of_decide_eq_false hc13) hM
        refine A_exit ?_
        refine hK8 _ _ ?_; try clear hK8 K8
        refine A_seq fun K40 hK40 => ?_
        refine A_reg ?_
        refine r_v (Value.bool (true)) rfl rfl rfl rfl ?_
        refine lx_nil ?_
        refine hK40 _ _ ?_; try clear hK40 K40
        obtain rfl := Option.some.inj hM
        refine A_ret (fun hn => ends_eq (v0 := Value.bool (true)) rfl (res1 rfl))
def shunterref05_Fold_k2 (c : Int) : Option (Int) := if (c : Int) = 962 then some (963) else some (c)
def shunterref05_Fold_k1 (c : Int) : Option (Int) := if (c : Int) ≥ 1024 then if (c : Int) ≤ 1039 then ck ((-9223372036854775808 ≤ (c + 80) ∧ (c + 80) ≤ 9223372036854775807)) (some ((c + 80))) else shunterref05_Fold_k2 c  else shunterref05_Fold_k2 c 
def shunterref05_Fold_m (_ : Nat) (c : Int) : Option (Int) := if (c : Int) ≥ 65 then if (c : Int) ≤ 90 then ck ((-9223372036854775808 ≤ (c + 32) ∧ (c + 32) ≤ 9223372036854775807)) (some ((c + 32))) else if (c : Int) ≥ 192 then if (c : Int) ≤ 222 then if (c : Int) ≠ 215 then ck ((-9223372036854775808 ≤ (c + 32) ∧ (c + 32) ≤ 9223372036854775807)) (some ((c + 32))) else if (c : Int) ≥ 913 then if (c : Int) ≤ 937 then if (c : Int) ≠ 930 then ck ((-9223372036854775808 ≤ (c + 32) ∧ (c + 32) ≤ 9223372036854775807)) (some ((c + 32))) else if (c : Int) ≥ 1040 then if (c : Int) ≤ 1071 then ck ((-9223372036854775808 ≤ (c + 32) ∧ (c + 32) ≤ 9223372036854775807)) (some ((c + 32))) else shunterref05_Fold_k1 c  else shunterref05_Fold_k1 c  else if (c : Int) ≥ 1040 then if (c : Int) ≤ 1071 then ck ((-9223372036854775808 ≤ (c + 32) ∧ (c + 32) ≤ 9223372036854775807)) (some ((c + 32))) else shunterref05_Fold_k1 c  else shunterref05_Fold_k1 c  else if (c : Int) ≥ 1040 then if (c : Int) ≤ 1071 then ck ((-9223372036854775808 ≤ (c + 32) ∧ (c + 32) ≤ 9223372036854775807)) (some ((c + 32))) else shunterref05_Fold_k1 c  else shunterref05_Fold_k1 c  else if (c : Int) ≥ 913 then if (c : Int) ≤ 937 then if (c : Int) ≠ 930 then ck ((-9223372036854775808 ≤ (c + 32) ∧ (c + 32) ≤ 9223372036854775807)) (some ((c + 32))) else if (c : Int) ≥ 1040 then if (c : Int) ≤ 1071 then ck ((-9223372036854775808 ≤ (c + 32) ∧ (c + 32) ≤ 9223372036854775807)) (some ((c + 32))) else shunterref05_Fold_k1 c  else shunterref05_Fold_k1 c  else if (c : Int) ≥ 1040 then if (c : Int) ≤ 1071 then ck ((-9223372036854775808 ≤ (c + 32) ∧ (c + 32) ≤ 9223372036854775807)) (some ((c + 32))) else shunterref05_Fold_k1 c  else shunterref05_Fold_k1 c  else if (c : Int) ≥ 1040 then if (c : Int) ≤ 1071 then ck ((-9223372036854775808 ≤ (c + 32) ∧ (c + 32) ≤ 9223372036854775807)) (some ((c + 32))) else shunterref05_Fold_k1 c  else shunterref05_Fold_k1 c  else if (c : Int) ≥ 913 then if (c : Int) ≤ 937 then if (c : Int) ≠ 930 then ck ((-9223372036854775808 ≤ (c + 32) ∧ (c + 32) ≤ 9223372036854775807)) (some ((c + 32))) else if (c : Int) ≥ 1040 then if (c : Int) ≤ 1071 then ck ((-9223372036854775808 ≤ (c + 32) ∧ (c + 32) ≤ 9223372036854775807)) (some ((c + 32))) else shunterref05_Fold_k1 c  else shunterref05_Fold_k1 c  else if (c : Int) ≥ 1040 then if (c : Int) ≤ 1071 then ck ((-9223372036854775808 ≤ (c + 32) ∧ (c + 32) ≤ 9223372036854775807)) (some ((c + 32))) else shunterref05_Fold_k1 c  else shunterref05_Fold_k1 c  else if (c : Int) ≥ 1040 then if (c : Int) ≤ 1071 then ck ((-9223372036854775808 ≤ (c + 32) ∧ (c + 32) ≤ 9223372036854775807)) (some ((c + 32))) else shunterref05_Fold_k1 c  else shunterref05_Fold_k1 c  else if (c : Int) ≥ 192 then if (c : Int) ≤ 222 then if (c : Int) ≠ 215 then ck ((-9223372036854775808 ≤ (c + 32) ∧ (c + 32) ≤ 9223372036854775807)) (some ((c + 32))) else if (c : Int) ≥ 913 then if (c : Int) ≤ 937 then if (c : Int) ≠ 930 then ck ((-9223372036854775808 ≤ (c + 32) ∧ (c + 32) ≤ 9223372036854775807)) (some ((c + 32))) else if (c : Int) ≥ 1040 then if (c : Int) ≤ 1071 then ck ((-9223372036854775808 ≤ (c + 32) ∧ (c + 32) ≤ 9223372036854775807)) (some ((c + 32))) else shunterref05_Fold_k1 c  else shunterref05_Fold_k1 c  else if (c : Int) ≥ 1040 then if (c : Int) ≤ 1071 then ck ((-9223372036854775808 ≤ (c + 32) ∧ (c + 32) ≤ 9223372036854775807)) (some ((c + 32))) else shunterref05_Fold_k1 c  else shunterref05_Fold_k1 c  else if (c : Int) ≥ 1040 then if (c : Int) ≤ 1071 then ck ((-9223372036854775808 ≤ (c + 32) ∧ (c + 32) ≤ 9223372036854775807)) (some ((c + 32))) else shunterref05_Fold_k1 c  else shunterref05_Fold_k1 c  else if (c : Int) ≥ 913 then if (c : Int) ≤ 937 then if (c : Int) ≠ 930 then ck ((-9223372036854775808 ≤ (c + 32) ∧ (c + 32) ≤ 9223372036854775807)) (some ((c + 32))) else if (c : Int) ≥ 1040 then if (c : Int) ≤ 1071 then ck ((-9223372036854775808 ≤ (c + 32) ∧ (c + 32) ≤ 9223372036854775807)) (some ((c + 32))) else shunterref05_Fold_k1 c  else shunterref05_Fold_k1 c  else if (c : Int) ≥ 1040 then if (c : Int) ≤ 1071 then ck ((-9223372036854775808 ≤ (c + 32) ∧ (c + 32) ≤ 9223372036854775807)) (some ((c + 32))) else shunterref05_Fold_k1 c  else shunterref05_Fold_k1 c  else if (c : Int) ≥ 1040 then if (c : Int) ≤ 1071 then ck ((-9223372036854775808 ≤ (c + 32) ∧ (c + 32) ≤ 9223372036854775807)) (some ((c + 32))) else shunterref05_Fold_k1 c  else shunterref05_Fold_k1 c  else if (c : Int) ≥ 913 then if (c : Int) ≤ 937 then if (c : Int) ≠ 930 then ck ((-9223372036854775808 ≤ (c + 32) ∧ (c + 32) ≤ 9223372036854775807)) (some ((c + 32))) else if (c : Int) ≥ 1040 then if (c : Int) ≤ 1071 then ck ((-9223372036854775808 ≤ (c + 32) ∧ (c + 32) ≤ 9223372036854775807)) (some ((c + 32))) else shunterref05_Fold_k1 c  else shunterref05_Fold_k1 c  else if (c : Int) ≥ 1040 then if (c : Int) ≤ 1071 then ck ((-9223372036854775808 ≤ (c + 32) ∧ (c + 32) ≤ 9223372036854775807)) (some ((c + 32))) else shunterref05_Fold_k1 c  else shunterref05_Fold_k1 c  else if (c : Int) ≥ 1040 then if (c : Int) ≤ 1071 then ck ((-9223372036854775808 ≤ (c + 32) ∧ (c + 32) ≤ 9223372036854775807)) (some ((c + 32))) else shunterref05_Fold_k1 c  else shunterref05_Fold_k1 c 
set_option maxRecDepth 100000 in
set_option maxHeartbeats 400000 in
theorem shunterref05_Fold_g (N : Nat) (c : Int) (r : Int) (hM : shunterref05_Fold_m N c = some r) : Gives Try.prog 21 #[Value.int .i64 (c)] (Value.int .i64 (r)) := by
  unfold shunterref05_Fold_m at hM
  refine gives_of_A follows Try.func21 rfl 54 rfl (upd (fun _ => undef) 0 (Value.int .i64 (c))) (by funext k; match k with | 0 => rfl | k + 1 => rfl) (fun base0_ => ?_)
  refine A_seq fun K1 hK1 => ?_
  refine A_reg ?_
  refine r_v (Value.int .i64 (0)) rfl rfl rfl rfl ?_
  refine lx_nil ?_
  refine hK1 _ _ ?_; try clear hK1 K1
  refine A_cut (fun tt ll => (shunterref05_Fold_k1 c  = some r) ∧ Is [(0, Value.int .i64 (c))] [] tt ll) ?_ ?_
  · refine A_seq fun K12 hK12 => ?_
    refine A_reg ?_
    refine r_v (Value.int .i64 (c)) rfl rfl rfl rfl ?_
    refine r_v (Value.bool (decide ((c : Int) ≥ 65))) rfl rfl rfl rfl ?_
    refine r_v (Value.bool (decide ((c : Int) ≥ 65))) rfl rfl rfl rfl ?_
    rcases hg13 : (decide ((c : Int) ≥ 65)) with _ | _
    · replace hM := ifn (of_decide_eq_false hg13) hM
      refine r_n false rfl (by decide) rfl ?_
      refine r_n false rfl (by decide) rfl ?_
      refine r_v (Value.bool (false)) rfl rfl rfl rfl ?_
      refine r_v (Value.bool (false)) rfl rfl rfl rfl ?_
      refine r_y rfl ?_
      refine r_v (Value.int .i64 (c)) rfl rfl rfl rfl ?_
      refine r_y rfl ?_
      refine r_v (Value.bool (decide ((c : Int) ≥ 192))) rfl rfl rfl rfl ?_
      refine r_y rfl ?_
      refine r_v (Value.bool (decide ((c : Int) ≥ 192))) rfl rfl rfl rfl ?_
      rcases hg14 : (decide ((c : Int) ≥ 192)) with _ | _
      · replace hM := ifn (of_decide_eq_false hg14) hM
        refine r_n false rfl (by decide) rfl ?_
        refine r_n false rfl (by decide) rfl ?_
        refine r_y rfl ?_
        refine r_v (Value.bool (false)) rfl rfl rfl rfl ?_
        refine r_y rfl ?_
        refine r_v (Value.bool (false)) rfl rfl rfl rfl ?_
        refine r_n false rfl (by decide) rfl ?_
        refine r_n false rfl (by decide) rfl ?_
        refine r_y rfl ?_
        refine r_v (Value.bool (false)) rfl rfl rfl rfl ?_
        refine r_v (Value.bool (false)) rfl rfl rfl rfl ?_
        refine r_v (Value.bool (false)) rfl rfl rfl rfl ?_
        refine r_y rfl ?_
        refine r_v (Value.int .i64 (c)) rfl rfl rfl rfl ?_
        refine r_y rfl ?_
        refine r_v (Value.bool (decide ((c : Int) ≥ 913))) rfl rfl rfl rfl ?_
        refine r_y rfl ?_
        refine r_v (Value.bool (decide ((c : Int) ≥ 913))) rfl rfl rfl rfl ?_
        rcases hg15 : (decide ((c : Int) ≥ 913)) with _ | _
        · replace hM := ifn (of_decide_eq_false hg15) hM
          refine r_n false rfl (by decide) rfl ?_
          refine r_n false rfl (by decide) rfl ?_
          refine r_y rfl ?_
          refine r_v (Value.bool (false)) rfl rfl rfl rfl ?_
          refine r_y rfl ?_
          refine r_v (Value.bool (false)) rfl rfl rfl rfl ?_
          refine r_n false rfl (by decide) rfl ?_
          refine r_n false rfl (by decide) rfl ?_
          refine r_y rfl ?_
          refine r_v (Value.bool (false)) rfl rfl rfl rfl ?_
          refine r_v (Value.bool (false)) rfl rfl rfl rfl ?_
          refine r_v (Value.bool (false)) rfl rfl rfl rfl ?_
          refine r_y rfl ?_
          refine r_v (Value.int .i64 (c)) rfl rfl rfl rfl ?_
          refine r_y rfl ?_
          refine r_v (Value.bool (decide ((c : Int) ≥ 1040))) rfl rfl rfl rfl ?_
          refine r_y rfl ?_
          refine r_v (Value.bool (decide ((c : Int) ≥ 1040))) rfl rfl rfl rfl ?_
          rcases hg16 : (decide ((c : Int) ≥ 1040)) with _ | _
          · replace hM := ifn (of_decide_eq_false hg16) hM
            refine r_n false rfl (by decide) rfl ?_
            refine r_n false rfl (by decide) rfl ?_
            refine r_y rfl ?_
            refine r_v (Value.bool (false)) rfl rfl rfl rfl ?_
            refine r_v (Value.bool (false)) rfl rfl rfl rfl ?_
            refine lx_nil ?_
            refine hK12 _ _ ?_; try clear hK12 K12
            refine A_gen [(0, Value.int .i64 (c)), (40, Value.bool (false))] rfl (fun T => ?_)
            refine A_cond false rfl (fun h_ => nomatch h_) (fun _ => ?_)
            refine A_skip ?_
            refine fg _ (Sub.of (List.Sublist.slnil)) ?_
            exact ⟨hM, is_mk rfl rfl⟩
          · replace hM := ifp (of_decide_eq_true hg16) hM
            refine r_y rfl ?_
            refine r_v (Value.int .i64 (c)) rfl rfl rfl rfl ?_
            refine r_y rfl ?_
            refine r_v (Value.bool (decide ((c : Int) ≤ 1071))) rfl rfl rfl rfl ?_
            refine r_y rfl ?_
            refine r_v (Value.bool (decide ((c : Int) ≤ 1071))) rfl rfl rfl rfl ?_
            refine r_v (Value.bool (decide ((c : Int) ≤ 1071))) rfl rfl rfl rfl ?_
            refine lx_nil ?_
            refine hK12 _ _ ?_; try clear hK12 K12
            refine A_gen [(0, Value.int .i64 (c)), (40, Value.bool (decide ((c : Int) ≤ 1071)))] rfl (fun T => ?_)
            refine A_cond (decide ((c : Int) ≤ 1071)) rfl (fun hc17 => ?_) (fun hc17 => ?_)
            · replace hM := ifp (of_decide_eq_true hc17) hM
              refine A_seq fun K18 hK18 => ?_
              refine A_reg ?_
              refine r_v (Value.int .i64 (c)) rfl rfl rfl rfl ?_
              replace hM := ck_some hM; obtain ⟨ck19, hM⟩ := hM
              refine r_v (Value.int .i64 ((c + 32))) rfl rfl (wi64 rfl ck19.1 ck19.2) rfl ?_
              refine r_v (Value.int .i64 ((c + 32))) rfl rfl rfl rfl ?_
              refine lx_nil ?_
              refine hK18 _ _ ?_; try clear hK18 K18
              obtain rfl := Option.some.inj hM
              refine A_ret (fun hn => ends_eq (v0 := Value.int .i64 ((c + 32))) rfl (res1 rfl))
            · replace hM := ifn (of_decide_eq_false hc17) hM
              refine A_skip ?_
              refine fg _ (Sub.of (List.Sublist.slnil)) ?_
              exact ⟨hM, is_mk rfl rfl⟩
        · replace hM := ifp (of_decide_eq_true hg15) hM
          refine r_y rfl ?_
          refine r_v (Value.int .i64 (c)) rfl rfl rfl rfl ?_
          refine r_y rfl ?_
          refine r_v (Value.bool (decide ((c : Int) ≤ 937))) rfl rfl rfl rfl ?_
          refine r_y rfl ?_
          refine r_v (Value.bool (decide ((c : Int) ≤ 937))) rfl rfl rfl rfl ?_
          refine r_y rfl ?_
          refine r_v (Value.bool (decide ((c : Int) ≤ 937))) rfl rfl rfl rfl ?_
          rcases hg20 : (decide ((c : Int) ≤ 937)) with _ | _
          · replace hM := ifn (of_decide_eq_false hg20) hM
            refine r_n false rfl (by decide) rfl ?_
            refine r_n false rfl (by decide) rfl ?_
            refine r_y rfl ?_
            refine r_v (Value.bool (false)) rfl rfl rfl rfl ?_
            refine r_v (Value.bool (false)) rfl rfl rfl rfl ?_
            refine r_v (Value.bool (false)) rfl rfl rfl rfl ?_
            refine r_y rfl ?_
            refine r_v (Value.int .i64 (c)) rfl rfl rfl rfl ?_
            refine r_y rfl ?_
            refine r_v (Value.bool (decide ((c : Int) ≥ 1040))) rfl rfl rfl rfl ?_
            refine r_y rfl ?_
            refine r_v (Value.bool (decide ((c : Int) ≥ 1040))) rfl rfl rfl rfl ?_
            rcases hg21 : (decide ((c : Int) ≥ 1040)) with _ | _
            · replace hM := ifn (of_decide_eq_false hg21) hM
              refine r_n false rfl (by decide) rfl ?_
              refine r_n false rfl (by decide) rfl ?_
              refine r_y rfl ?_
              refine r_v (Value.bool (false)) rfl rfl rfl rfl ?_
              refine r_v (Value.bool (false)) rfl rfl rfl rfl ?_
              refine lx_nil ?_
              refine hK12 _ _ ?_; try clear hK12 K12
              refine A_gen [(0, Value.int .i64 (c)), (40, Value.bool (false))] rfl (fun T => ?_)
              refine A_cond false rfl (fun h_ => nomatch h_) (fun _ => ?_)
              refine A_skip ?_
              refine fg _ (Sub.of (List.Sublist.slnil)) ?_
              exact ⟨hM, is_mk rfl rfl⟩
            · replace hM := ifp (of_decide_eq_true hg21) hM
              refine r_y rfl ?_
              refine r_v (Value.int .i64 (c)) rfl rfl rfl rfl ?_
              refine r_y rfl ?_
              refine r_v (Value.bool (decide ((c : Int) ≤ 1071))) rfl rfl rfl rfl ?_
              refine r_y rfl ?_
              refine r_v (Value.bool (decide ((c : Int) ≤ 1071))) rfl rfl rfl rfl ?_
              refine r_v (Value.bool (decide ((c : Int) ≤ 1071))) rfl rfl rfl rfl ?_
              refine lx_nil ?_
              refine hK12 _ _ ?_; try clear hK12 K12
              refine A_gen [(0, Value.int .i64 (c)), (40, Value.bool (decide ((c : Int) ≤ 1071)))] rfl (fun T => ?_)
              refine A_cond (decide ((c : Int) ≤ 1071)) rfl (fun hc22 => ?_) (fun hc22 => ?_)
              · replace hM := ifp (of_decide_eq_true hc22) hM
                refine A_seq fun K23 hK23 => ?_
                refine A_reg ?_
                refine r_v (Value.int .i64 (c)) rfl rfl rfl rfl ?_
                replace hM := ck_some hM; obtain ⟨ck24, hM⟩ := hM
                refine r_v (Value.int .i64 ((c + 32))) rfl rfl (wi64 rfl ck24.1 ck24.2) rfl ?_
                refine r_v (Value.int .i64 ((c + 32))) rfl rfl rfl rfl ?_
                refine lx_nil ?_
                refine hK23 _ _ ?_; try clear hK23 K23
                obtain rfl := Option.some.inj hM
                refine A_ret (fun hn => ends_eq (v0 := Value.int .i64 ((c + 32))) rfl (res1 rfl))
              · replace hM := ifn (of_decide_eq_false hc22) hM
                refine A_skip ?_
                refine fg _ (Sub.of (List.Sublist.slnil)) ?_
                exact ⟨hM, is_mk rfl rfl⟩
          · replace hM := ifp (of_decide_eq_true hg20) hM
            refine r_y rfl ?_
            refine r_v (Value.int .i64 (c)) rfl rfl rfl rfl ?_
            refine r_y rfl ?_
            refine r_v (Value.bool (((c : Int) != 930))) rfl rfl rfl rfl ?_
            refine r_y rfl ?_
            refine r_v (Value.bool (((c : Int) != 930))) rfl rfl rfl rfl ?_
            refine r_v (Value.bool (((c : Int) != 930))) rfl rfl rfl rfl ?_
            refine r_v (Value.bool (((c : Int) != 930))) rfl rfl rfl rfl ?_
            rcases hg25 : (((c : Int) != 930)) with _ | _
            · replace hM := ifn (bne_f hg25) hM
              refine r_y rfl ?_
              refine r_v (Value.int .i64 (c)) rfl rfl rfl rfl ?_
              refine r_y rfl ?_
              refine r_v (Value.bool (decide ((c : Int) ≥ 1040))) rfl rfl rfl rfl ?_
              refine r_y rfl ?_
              refine r_v (Value.bool (decide ((c : Int) ≥ 1040))) rfl rfl rfl rfl ?_
              rcases hg26 : (decide ((c : Int) ≥ 1040)) with _ | _
              · replace hM := ifn (of_decide_eq_false hg26) hM
                refine r_n false rfl (by decide) rfl ?_
                refine r_n false rfl (by decide) rfl ?_
                refine r_y rfl ?_
                refine r_v (Value.bool (false)) rfl rfl rfl rfl ?_
                refine r_v (Value.bool (false)) rfl rfl rfl rfl ?_
                refine lx_nil ?_
                refine hK12 _ _ ?_; try clear hK12 K12
                refine A_gen [(0, Value.int .i64 (c)), (40, Value.bool (false))] rfl (fun T => ?_)
                refine A_cond false rfl (fun h_ => nomatch h_) (fun _ => ?_)
                refine A_skip ?_
                refine fg _ (Sub.of (List.Sublist.slnil)) ?_
                exact ⟨hM, is_mk rfl rfl⟩
              · replace hM := ifp (of_decide_eq_true hg26) hM
                refine r_y rfl ?_
                refine r_v (Value.int .i64 (c)) rfl rfl rfl rfl ?_
                refine r_y rfl ?_
                refine r_v (Value.bool (decide ((c : Int) ≤ 1071))) rfl rfl rfl rfl ?_
                refine r_y rfl ?_
                refine r_v (Value.bool (decide ((c : Int) ≤ 1071))) rfl rfl rfl rfl ?_
                refine r_v (Value.bool (decide ((c : Int) ≤ 1071))) rfl rfl rfl rfl ?_
                refine lx_nil ?_
                refine hK12 _ _ ?_; try clear hK12 K12
                refine A_gen [(0, Value.int .i64 (c)), (40, Value.bool (decide ((c : Int) ≤ 1071)))] rfl (fun T => ?_)
                refine A_cond (decide ((c : Int) ≤ 1071)) rfl (fun hc27 => ?_) (fun hc27 => ?_)
                · replace hM := ifp (of_decide_eq_true hc27) hM
                  refine A_seq fun K28 hK28 => ?_
                  refine A_reg ?_
                  refine r_v (Value.int .i64 (c)) rfl rfl rfl rfl ?_
                  replace hM := ck_some hM; obtain ⟨ck29, hM⟩ := hM
                  refine r_v (Value.int .i64 ((c + 32))) rfl rfl (wi64 rfl ck29.1 ck29.2) rfl ?_
                  refine r_v (Value.int .i64 ((c + 32))) rfl rfl rfl rfl ?_
                  refine lx_nil ?_
                  refine hK28 _ _ ?_; try clear hK28 K28
                  obtain rfl := Option.some.inj hM
                  refine A_ret (fun hn => ends_eq (v0 := Value.int .i64 ((c + 32))) rfl (res1 rfl))
                · replace hM := ifn (of_decide_eq_false hc27) hM
                  refine A_skip ?_
                  refine fg _ (Sub.of (List.Sublist.slnil)) ?_
                  exact ⟨hM, is_mk rfl rfl⟩
            · replace hM := ifp (bne_iff_ne.1 hg25) hM
              refine r_n true rfl (by decide) rfl ?_
              refine r_n true rfl (by decide) rfl ?_
              refine r_n true rfl (by decide) rfl ?_
              refine r_nu rfl rfl ?_
              refine r_nu rfl rfl ?_
              refine r_n true rfl (by decide) rfl ?_
              refine r_v (Value.bool (true)) rfl rfl rfl rfl ?_
              refine lx_nil ?_
              refine hK12 _ _ ?_; try clear hK12 K12
              refine A_gen [(0, Value.int .i64 (c)), (40, Value.bool (true))] rfl (fun T => ?_)
              refine A_cond true rfl (fun _ => ?_) (fun h_ => nomatch h_)
              refine A_seq fun K30 hK30 => ?_
              refine A_reg ?_
              refine r_v (Value.int .i64 (c)) rfl rfl rfl rfl ?_
              replace hM := ck_some hM; obtain ⟨ck31, hM⟩ := hM
              refine r_v (Value.int .i64 ((c + 32))) rfl rfl (wi64 rfl ck31.1 ck31.2) rfl ?_
              refine r_v (Value.int .i64 ((c + 32))) rfl rfl rfl rfl ?_
              refine lx_nil ?_
              refine hK30 _ _ ?_; try clear hK30 K30
              obtain rfl := Option.some.inj hM
              refine A_ret (fun hn => ends_eq (v0 := Value.int .i64 ((c + 32))) rfl (res1 rfl))
      · replace hM := ifp (of_decide_eq_true hg14) hM
        refine r_y rfl ?_
        refine r_v (Value.int .i64 (c)) rfl rfl rfl rfl ?_
        refine r_y rfl ?_
        refine r_v (Value.bool (decide ((c : Int) ≤ 222))) rfl rfl rfl rfl ?_
        refine r_y rfl ?_
        refine r_v (Value.bool (decide ((c : Int) ≤ 222))) rfl rfl rfl rfl ?_
        refine r_y rfl ?_
        refine r_v (Value.bool (decide ((c : Int) ≤ 222))) rfl rfl rfl rfl ?_
        rcases hg32 : (decide ((c : Int) ≤ 222)) with _ | _
        · replace hM := ifn (of_decide_eq_false hg32) hM
          refine r_n false rfl (by decide) rfl ?_
          refine r_n false rfl (by decide) rfl ?_
          refine r_y rfl ?_
          refine r_v (Value.bool (false)) rfl rfl rfl rfl ?_
          refine r_v (Value.bool (false)) rfl rfl rfl rfl ?_
          refine r_v (Value.bool (false)) rfl rfl rfl rfl ?_
          refine r_y rfl ?_
          refine r_v (Value.int .i64 (c)) rfl rfl rfl rfl ?_
          refine r_y rfl ?_
          refine r_v (Value.bool (decide ((c : Int) ≥ 913))) rfl rfl rfl rfl ?_
          refine r_y rfl ?_
          refine r_v (Value.bool (decide ((c : Int) ≥ 913))) rfl rfl rfl rfl ?_
          rcases hg33 : (decide ((c : Int) ≥ 913)) with _ | _
          · replace hM := ifn (of_decide_eq_false hg33) hM
            refine r_n false rfl (by decide) rfl ?_
            refine r_n false rfl (by decide) rfl ?_
            refine r_y rfl ?_
            refine r_v (Value.bool (false)) rfl rfl rfl rfl ?_
            refine r_y rfl ?_
            refine r_v (Value.bool (false)) rfl rfl rfl rfl ?_
            refine r_n false rfl (by decide) rfl ?_
            refine r_n false rfl (by decide) rfl ?_
            refine r_y rfl ?_
            refine r_v (Value.bool (false)) rfl rfl rfl rfl ?_
            refine r_v (Value.bool (false)) rfl rfl rfl rfl ?_
            refine r_v (Value.bool (false)) rfl rfl rfl rfl ?_
            refine r_y rfl ?_
            refine r_v (Value.int .i64 (c)) rfl rfl rfl rfl ?_
            refine r_y rfl ?_
            refine r_v (Value.bool (decide ((c : Int) ≥ 1040))) rfl rfl rfl rfl ?_
            refine r_y rfl ?_
            refine r_v (Value.bool (decide ((c : Int) ≥ 1040))) rfl rfl rfl rfl ?_
            rcases hg34 : (decide ((c : Int) ≥ 1040)) with _ | _
            · replace hM := ifn (of_decide_eq_false hg34) hM
              refine r_n false rfl (by decide) rfl ?_
              refine r_n false rfl (by decide) rfl ?_
              refine r_y rfl ?_
              refine r_v (Value.bool (false)) rfl rfl rfl rfl ?_
              refine r_v (Value.bool (false)) rfl rfl rfl rfl ?_
              refine lx_nil ?_
              refine hK12 _ _ ?_; try clear hK12 K12
              refine A_gen [(0, Value.int .i64 (c)), (40, Value.bool (false))] rfl (fun T => ?_)
              refine A_cond false rfl (fun h_ => nomatch h_) (fun _ => ?_)
              refine A_skip ?_
              refine fg _ (Sub.of (List.Sublist.slnil)) ?_
              exact ⟨hM, is_mk rfl rfl⟩
            · replace hM := ifp (of_decide_eq_true hg34) hM
              refine r_y rfl ?_
              refine r_v (Value.int .i64 (c)) rfl rfl rfl rfl ?_
              refine r_y rfl ?_
              refine r_v (Value.bool (decide ((c : Int) ≤ 1071))) rfl rfl rfl rfl ?_
              refine r_y rfl ?_
              refine r_v (Value.bool (decide ((c : Int) ≤ 1071))) rfl rfl rfl rfl ?_
              refine r_v (Value.bool (decide ((c : Int) ≤ 1071))) rfl rfl rfl rfl ?_
              refine lx_nil ?_
              refine hK12 _ _ ?_; try clear hK12 K12
              refine A_gen [(0, Value.int .i64 (c)), (40, Value.bool (decide ((c : Int) ≤ 1071)))] rfl (fun T => ?_)
              refine A_cond (decide ((c : Int) ≤ 1071)) rfl (fun hc35 => ?_) (fun hc35 => ?_)
              · replace hM := ifp (of_decide_eq_true hc35) hM
                refine A_seq fun K36 hK36 => ?_
                refine A_reg ?_
                refine r_v (Value.int .i64 (c)) rfl rfl rfl rfl ?_
                replace hM := ck_some hM; obtain ⟨ck37, hM⟩ := hM
                refine r_v (Value.int .i64 ((c + 32))) rfl rfl (wi64 rfl ck37.1 ck37.2) rfl ?_
                refine r_v (Value.int .i64 ((c + 32))) rfl rfl rfl rfl ?_
                refine lx_nil ?_
                refine hK36 _ _ ?_; try clear hK36 K36
                obtain rfl := Option.some.inj hM
                refine A_ret (fun hn => ends_eq (v0 := Value.int .i64 ((c + 32))) rfl (res1 rfl))
              · replace hM := ifn (of_decide_eq_false hc35) hM
                refine A_skip ?_
                refine fg _ (Sub.of (List.Sublist.slnil)) ?_
                exact ⟨hM, is_mk rfl rfl⟩
          · replace hM := ifp (of_decide_eq_true hg33) hM
            refine r_y rfl ?_
            refine r_v (Value.int .i64 (c)) rfl rfl rfl rfl ?_
            refine r_y rfl ?_
            refine r_v (Value.bool (decide ((c : Int) ≤ 937))) rfl rfl rfl rfl ?_
            refine r_y rfl ?_
            refine r_v (Value.bool (decide ((c : Int) ≤ 937))) rfl rfl rfl rfl ?_
            refine r_y rfl ?_
            refine r_v (Value.bool (decide ((c : Int) ≤ 937))) rfl rfl rfl rfl ?_
            rcases hg38 : (decide ((c : Int) ≤ 937)) with _ | _
            · replace hM := ifn (of_decide_eq_false hg38) hM
              refine r_n false rfl (by decide) rfl ?_
              refine r_n false rfl (by decide) rfl ?_
              refine r_y rfl ?_
              refine r_v (Value.bool (false)) rfl rfl rfl rfl ?_
              refine r_v (Value.bool (false)) rfl rfl rfl rfl ?_
              refine r_v (Value.bool (false)) rfl rfl rfl rfl ?_
              refine r_y rfl ?_
              refine r_v (Value.int .i64 (c)) rfl rfl rfl rfl ?_
              refine r_y rfl ?_
              refine r_v (Value.bool (decide ((c : Int) ≥ 1040))) rfl rfl rfl rfl ?_
              refine r_y rfl ?_
              refine r_v (Value.bool (decide ((c : Int) ≥ 1040))) rfl rfl rfl rfl ?_
              rcases hg39 : (decide ((c : Int) ≥ 1040)) with _ | _
              · replace hM := ifn (of_decide_eq_false hg39) hM
                refine r_n false rfl (by decide) rfl ?_
                refine r_n false rfl (by decide) rfl ?_
                refine r_y rfl ?_
                refine r_v (Value.bool (false)) rfl rfl rfl rfl ?_
                refine r_v (Value.bool (false)) rfl rfl rfl rfl ?_
                refine lx_nil ?_
                refine hK12 _ _ ?_; try clear hK12 K12
                refine A_gen [(0, Value.int .i64 (c)), (40, Value.bool (false))] rfl (fun T => ?_)
                refine A_cond false rfl (fun h_ => nomatch h_) (fun _ => ?_)
                refine A_skip ?_
                refine fg _ (Sub.of (List.Sublist.slnil)) ?_
                exact ⟨hM, is_mk rfl rfl⟩
              · replace hM := ifp (of_decide_eq_true hg39) hM
                refine r_y rfl ?_
                refine r_v (Value.int .i64 (c)) rfl rfl rfl rfl ?_
                refine r_y rfl ?_
                refine r_v (Value.bool (decide ((c : Int) ≤ 1071))) rfl rfl rfl rfl ?_
                refine r_y rfl ?_
                refine r_v (Value.bool (decide ((c : Int) ≤ 1071))) rfl rfl rfl rfl ?_
                refine r_v (Value.bool (decide ((c : Int) ≤ 1071))) rfl rfl rfl rfl ?_
                refine lx_nil ?_
                refine hK12 _ _ ?_; try clear hK12 K12
                refine A_gen [(0, Value.int .i64 (c)), (40, Value.bool (decide ((c : Int) ≤ 1071)))] rfl (fun T => ?_)
                refine A_cond (decide ((c : Int) ≤ 1071)) rfl (fun hc40 => ?_) (fun hc40 => ?_)
                · replace hM := ifp (of_decide_eq_true hc40) hM
                  refine A_seq fun K41 hK41 => ?_
                  refine A_reg ?_
                  refine r_v (Value.int .i64 (c)) rfl rfl rfl rfl ?_
                  replace hM := ck_some hM; obtain ⟨ck42, hM⟩ := hM
                  refine r_v (Value.int .i64 ((c + 32))) rfl rfl (wi64 rfl ck42.1 ck42.2) rfl ?_
                  refine r_v (Value.int .i64 ((c + 32))) rfl rfl rfl rfl ?_
                  refine lx_nil ?_
                  refine hK41 _ _ ?_; try clear hK41 K41
                  obtain rfl := Option.some.inj hM
                  refine A_ret (fun hn => ends_eq (v0 := Value.int .i64 ((c + 32))) rfl (res1 rfl))
                · replace hM := ifn (of_decide_eq_false hc40) hM
                  refine A_skip ?_
                  refine fg _ (Sub.of (List.Sublist.slnil)) ?_
                  exact ⟨hM, is_mk rfl rfl⟩
            · replace hM := ifp (of_decide_eq_true hg38) hM
              refine r_y rfl ?_
              refine r_v (Value.int .i64 (c)) rfl rfl rfl rfl ?_
              refine r_y rfl ?_
              refine r_v (Value.bool (((c : Int) != 930))) rfl rfl rfl rfl ?_
              refine r_y rfl ?_
              refine r_v (Value.bool (((c : Int) != 930))) rfl rfl rfl rfl ?_
              refine r_v (Value.bool (((c : Int) != 930))) rfl rfl rfl rfl ?_
              refine r_v (Value.bool (((c : Int) != 930))) rfl rfl rfl rfl ?_
              rcases hg43 : (((c : Int) != 930)) with _ | _
              · replace hM := ifn (bne_f hg43) hM
                refine r_y rfl ?_
                refine r_v (Value.int .i64 (c)) rfl rfl rfl rfl ?_
                refine r_y rfl ?_
                refine r_v (Value.bool (decide ((c : Int) ≥ 1040))) rfl rfl rfl rfl ?_
                refine r_y rfl ?_
                refine r_v (Value.bool (decide ((c : Int) ≥ 1040))) rfl rfl rfl rfl ?_
                rcases hg44 : (decide ((c : Int) ≥ 1040)) with _ | _
                · replace hM := ifn (of_decide_eq_false hg44) hM
                  refine r_n false rfl (by decide) rfl ?_
                  refine r_n false rfl (by decide) rfl ?_
                  refine r_y rfl ?_
                  refine r_v (Value.bool (false)) rfl rfl rfl rfl ?_
                  refine r_v (Value.bool (false)) rfl rfl rfl rfl ?_
                  refine lx_nil ?_
                  refine hK12 _ _ ?_; try clear hK12 K12
                  refine A_gen [(0, Value.int .i64 (c)), (40, Value.bool (false))] rfl (fun T => ?_)
                  refine A_cond false rfl (fun h_ => nomatch h_) (fun _ => ?_)
                  refine A_skip ?_
                  refine fg _ (Sub.of (List.Sublist.slnil)) ?_
                  exact ⟨hM, is_mk rfl rfl⟩
                · replace hM := ifp (of_decide_eq_true hg44) hM
                  refine r_y rfl ?_
                  refine r_v (Value.int .i64 (c)) rfl rfl rfl rfl ?_
                  refine r_y rfl ?_
                  refine r_v (Value.bool (decide ((c : Int) ≤ 1071))) rfl rfl rfl rfl ?_
                  refine r_y rfl ?_
                  refine r_v (Value.bool (decide ((c : Int) ≤ 1071))) rfl rfl rfl rfl ?_
                  refine r_v (Value.bool (decide ((c : Int) ≤ 1071))) rfl rfl rfl rfl ?_
                  refine lx_nil ?_
                  refine hK12 _ _ ?_; try clear hK12 K12
                  refine A_gen [(0, Value.int .i64 (c)), (40, Value.bool (decide ((c : Int) ≤ 1071)))] rfl (fun T => ?_)
                  refine A_cond (decide ((c : Int) ≤ 1071)) rfl (fun hc45 => ?_) (fun hc45 => ?_)
                  · replace hM := ifp (of_decide_eq_true hc45) hM
                    refine A_seq fun K46 hK46 => ?_
                    refine A_reg ?_
                    refine r_v (Value.int .i64 (c)) rfl rfl rfl rfl ?_
                    replace hM := ck_some hM; obtain ⟨ck47, hM⟩ := hM
                    refine r_v (Value.int .i64 ((c + 32))) rfl rfl (wi64 rfl ck47.1 ck47.2) rfl ?_
                    refine r_v (Value.int .i64 ((c + 32))) rfl rfl rfl rfl ?_
                    refine lx_nil ?_
                    refine hK46 _ _ ?_; try clear hK46 K46
                    obtain rfl := Option.some.inj hM
                    refine A_ret (fun hn => ends_eq (v0 := Value.int .i64 ((c + 32))) rfl (res1 rfl))
                  · replace hM := ifn (of_decide_eq_false hc45) hM
                    refine A_skip ?_
                    refine fg _ (Sub.of (List.Sublist.slnil)) ?_
                    exact ⟨hM, is_mk rfl rfl⟩
              · replace hM := ifp (bne_iff_ne.1 hg43) hM
                refine r_n true rfl (by decide) rfl ?_
                refine r_n true rfl (by decide) rfl ?_
                refine r_n true rfl (by decide) rfl ?_
                refine r_nu rfl rfl ?_
                refine r_nu rfl rfl ?_
                refine r_n true rfl (by decide) rfl ?_
                refine r_v (Value.bool (true)) rfl rfl rfl rfl ?_
                refine lx_nil ?_
                refine hK12 _ _ ?_; try clear hK12 K12
                refine A_gen [(0, Value.int .i64 (c)), (40, Value.bool (true))] rfl (fun T => ?_)
                refine A_cond true rfl (fun _ => ?_) (fun h_ => nomatch h_)
                refine A_seq fun K48 hK48 => ?_
                refine A_reg ?_
                refine r_v (Value.int .i64 (c)) rfl rfl rfl rfl ?_
                replace hM := ck_some hM; obtain ⟨ck49, hM⟩ := hM
                refine r_v (Value.int .i64 ((c + 32))) rfl rfl (wi64 rfl ck49.1 ck49.2) rfl ?_
                refine r_v (Value.int .i64 ((c + 32))) rfl rfl rfl rfl ?_
                refine lx_nil ?_
                refine hK48 _ _ ?_; try clear hK48 K48
                obtain rfl := Option.some.inj hM
                refine A_ret (fun hn => ends_eq (v0 := Value.int .i64 ((c + 32))) rfl (res1 rfl))
        · replace hM := ifp (of_decide_eq_true hg32) hM
          refine r_y rfl ?_
          refine r_v (Value.int .i64 (c)) rfl rfl rfl rfl ?_
          refine r_y rfl ?_
          refine r_v (Value.bool (((c : Int) != 215))) rfl rfl rfl rfl ?_
          refine r_y rfl ?_
          refine r_v (Value.bool (((c : Int) != 215))) rfl rfl rfl rfl ?_
          refine r_v (Value.bool (((c : Int) != 215))) rfl rfl rfl rfl ?_
          refine r_v (Value.bool (((c : Int) != 215))) rfl rfl rfl rfl ?_
          rcases hg50 : (((c : Int) != 215)) with _ | _
          · replace hM := ifn (bne_f hg50) hM
            refine r_y rfl ?_
            refine r_v (Value.int .i64 (c)) rfl rfl rfl rfl ?_
            refine r_y rfl ?_
            refine r_v (Value.bool (decide ((c : Int) ≥ 913))) rfl rfl rfl rfl ?_
            refine r_y rfl ?_
            refine r_v (Value.bool (decide ((c : Int) ≥ 913))) rfl rfl rfl rfl ?_
            rcases hg51 : (decide ((c : Int) ≥ 913)) with _ | _
            · replace hM := ifn (of_decide_eq_false hg51) hM
              refine r_n false rfl (by decide) rfl ?_
              refine r_n false rfl (by decide) rfl ?_
              refine r_y rfl ?_
              refine r_v (Value.bool (false)) rfl rfl rfl rfl ?_
              refine r_y rfl ?_
              refine r_v (Value.bool (false)) rfl rfl rfl rfl ?_
              refine r_n false rfl (by decide) rfl ?_
              refine r_n false rfl (by decide) rfl ?_
              refine r_y rfl ?_
              refine r_v (Value.bool (false)) rfl rfl rfl rfl ?_
              refine r_v (Value.bool (false)) rfl rfl rfl rfl ?_
              refine r_v (Value.bool (false)) rfl rfl rfl rfl ?_
              refine r_y rfl ?_
              refine r_v (Value.int .i64 (c)) rfl rfl rfl rfl ?_
              refine r_y rfl ?_
              refine r_v (Value.bool (decide ((c : Int) ≥ 1040))) rfl rfl rfl rfl ?_
              refine r_y rfl ?_
              refine r_v (Value.bool (decide ((c : Int) ≥ 1040))) rfl rfl rfl rfl ?_
              rcases hg52 : (decide ((c : Int) ≥ 1040)) with _ | _
              · replace hM := ifn (of_decide_eq_false hg52) hM
                refine r_n false rfl (by decide) rfl ?_
                refine r_n false rfl (by decide) rfl ?_
                refine r_y rfl ?_
                refine r_v (Value.bool (false)) rfl rfl rfl rfl ?_
                refine r_v (Value.bool (false)) rfl rfl rfl rfl ?_
                refine lx_nil ?_
                refine hK12 _ _ ?_; try clear hK12 K12
                refine A_gen [(0, Value.int .i64 (c)), (40, Value.bool (false))] rfl (fun T => ?_)
                refine A_cond false rfl (fun h_ => nomatch h_) (fun _ => ?_)
                refine A_skip ?_
                refine fg _ (Sub.of (List.Sublist.slnil)) ?_
                exact ⟨hM, is_mk rfl rfl⟩
              · replace hM := ifp (of_decide_eq_true hg52) hM
                refine r_y rfl ?_
                refine r_v (Value.int .i64 (c)) rfl rfl rfl rfl ?_
                refine r_y rfl ?_
                refine r_v (Value.bool (decide ((c : Int) ≤ 1071))) rfl rfl rfl rfl ?_
                refine r_y rfl ?_
                refine r_v (Value.bool (decide ((c : Int) ≤ 1071))) rfl rfl rfl rfl ?_
                refine r_v (Value.bool (decide ((c : Int) ≤ 1071))) rfl rfl rfl rfl ?_
                refine lx_nil ?_
                refine hK12 _ _ ?_; try clear hK12 K12
                refine A_gen [(0, Value.int .i64 (c)), (40, Value.bool (decide ((c : Int) ≤ 1071)))] rfl (fun T => ?_)
                refine A_cond (decide ((c : Int) ≤ 1071)) rfl (fun hc53 => ?_) (fun hc53 => ?_)
                · replace hM := ifp (of_decide_eq_true hc53) hM
                  refine A_seq fun K54 hK54 => ?_
                  refine A_reg ?_
                  refine r_v (Value.int .i64 (c)) rfl rfl rfl rfl ?_
                  replace hM := ck_some hM; obtain ⟨ck55, hM⟩ := hM
                  refine r_v (Value.int .i64 ((c + 32))) rfl rfl (wi64 rfl ck55.1 ck55.2) rfl ?_
                  refine r_v (Value.int .i64 ((c + 32))) rfl rfl rfl rfl ?_
                  refine lx_nil ?_
                  refine hK54 _ _ ?_; try clear hK54 K54
                  obtain rfl := Option.some.inj hM
                  refine A_ret (fun hn => ends_eq (v0 := Value.int .i64 ((c + 32))) rfl (res1 rfl))
                · replace hM := ifn (of_decide_eq_false hc53) hM
                  refine A_skip ?_
                  refine fg _ (Sub.of (List.Sublist.slnil)) ?_
                  exact ⟨hM, is_mk rfl rfl⟩
            · replace hM := ifp (of_decide_eq_true hg51) hM
              refine r_y rfl ?_
              refine r_v (Value.int .i64 (c)) rfl rfl rfl rfl ?_
              refine r_y rfl ?_
              refine r_v (Value.bool (decide ((c : Int) ≤ 937))) rfl rfl rfl rfl ?_
              refine r_y rfl ?_
              refine r_v (Value.bool (decide ((c : Int) ≤ 937))) rfl rfl rfl rfl ?_
              refine r_y rfl ?_
              refine r_v (Value.bool (decide ((c : Int) ≤ 937))) rfl rfl rfl rfl ?_
              rcases hg56 : (decide ((c : Int) ≤ 937)) with _ | _
              · replace hM := ifn (of_decide_eq_false hg56) hM
                refine r_n false rfl (by decide) rfl ?_
                refine r_n false rfl (by decide) rfl ?_
                refine r_y rfl ?_
                refine r_v (Value.bool (false)) rfl rfl rfl rfl ?_
                refine r_v (Value.bool (false)) rfl rfl rfl rfl ?_
                refine r_v (Value.bool (false)) rfl rfl rfl rfl ?_
                refine r_y rfl ?_
                refine r_v (Value.int .i64 (c)) rfl rfl rfl rfl ?_
                refine r_y rfl ?_
                refine r_v (Value.bool (decide ((c : Int) ≥ 1040))) rfl rfl rfl rfl ?_
                refine r_y rfl ?_
                refine r_v (Value.bool (decide ((c : Int) ≥ 1040))) rfl rfl rfl rfl ?_
                rcases hg57 : (decide ((c : Int) ≥ 1040)) with _ | _
                · replace hM := ifn (of_decide_eq_false hg57) hM
                  refine r_n false rfl (by decide) rfl ?_
                  refine r_n false rfl (by decide) rfl ?_
                  refine r_y rfl ?_
                  refine r_v (Value.bool (false)) rfl rfl rfl rfl ?_
                  refine r_v (Value.bool (false)) rfl rfl rfl rfl ?_
                  refine lx_nil ?_
                  refine hK12 _ _ ?_; try clear hK12 K12
                  refine A_gen [(0, Value.int .i64 (c)), (40, Value.bool (false))] rfl (fun T => ?_)
                  refine A_cond false rfl (fun h_ => nomatch h_) (fun _ => ?_)
                  refine A_skip ?_
                  refine fg _ (Sub.of (List.Sublist.slnil)) ?_
                  exact ⟨hM, is_mk rfl rfl⟩
                · replace hM := ifp (of_decide_eq_true hg57) hM
                  refine r_y rfl ?_
                  refine r_v (Value.int .i64 (c)) rfl rfl rfl rfl ?_
                  refine r_y rfl ?_
                  refine r_v (Value.bool (decide ((c : Int) ≤ 1071))) rfl rfl rfl rfl ?_
                  refine r_y rfl ?_
                  refine r_v (Value.bool (decide ((c : Int) ≤ 1071))) rfl rfl rfl rfl ?_
                  refine r_v (Value.bool (decide ((c : Int) ≤ 1071))) rfl rfl rfl rfl ?_
                  refine lx_nil ?_
                  refine hK12 _ _ ?_; try clear hK12 K12
                  refine A_gen [(0, Value.int .i64 (c)), (40, Value.bool (decide ((c : Int) ≤ 1071)))] rfl (fun T => ?_)
                  refine A_cond (decide ((c : Int) ≤ 1071)) rfl (fun hc58 => ?_) (fun hc58 => ?_)
                  · replace hM := ifp (of_decide_eq_true hc58) hM
                    refine A_seq fun K59 hK59 => ?_
                    refine A_reg ?_
                    refine r_v (Value.int .i64 (c)) rfl rfl rfl rfl ?_
                    replace hM := ck_some hM; obtain ⟨ck60, hM⟩ := hM
                    refine r_v (Value.int .i64 ((c + 32))) rfl rfl (wi64 rfl ck60.1 ck60.2) rfl ?_
                    refine r_v (Value.int .i64 ((c + 32))) rfl rfl rfl rfl ?_
                    refine lx_nil ?_
                    refine hK59 _ _ ?_; try clear hK59 K59
                    obtain rfl := Option.some.inj hM
                    refine A_ret (fun hn => ends_eq (v0 := Value.int .i64 ((c + 32))) rfl (res1 rfl))
                  · replace hM := ifn (of_decide_eq_false hc58) hM
                    refine A_skip ?_
                    refine fg _ (Sub.of (List.Sublist.slnil)) ?_
                    exact ⟨hM, is_mk rfl rfl⟩
              · replace hM := ifp (of_decide_eq_true hg56) hM
                refine r_y rfl ?_
                refine r_v (Value.int .i64 (c)) rfl rfl rfl rfl ?_
                refine r_y rfl ?_
                refine r_v (Value.bool (((c : Int) != 930))) rfl rfl rfl rfl ?_
                refine r_y rfl ?_
                refine r_v (Value.bool (((c : Int) != 930))) rfl rfl rfl rfl ?_
                refine r_v (Value.bool (((c : Int) != 930))) rfl rfl rfl rfl ?_
                refine r_v (Value.bool (((c : Int) != 930))) rfl rfl rfl rfl ?_
                rcases hg61 : (((c : Int) != 930)) with _ | _
                · replace hM := ifn (bne_f hg61) hM
                  refine r_y rfl ?_
                  refine r_v (Value.int .i64 (c)) rfl rfl rfl rfl ?_
                  refine r_y rfl ?_
                  refine r_v (Value.bool (decide ((c : Int) ≥ 1040))) rfl rfl rfl rfl ?_
                  refine r_y rfl ?_
                  refine r_v (Value.bool (decide ((c : Int) ≥ 1040))) rfl rfl rfl rfl ?_
                  rcases hg62 : (decide ((c : Int) ≥ 1040)) with _ | _
                  · replace hM := ifn (of_decide_eq_false hg62) hM
                    refine r_n false rfl (by decide) rfl ?_
                    refine r_n false rfl (by decide) rfl ?_
                    refine r_y rfl ?_
                    refine r_v (Value.bool (false)) rfl rfl rfl rfl ?_
                    refine r_v (Value.bool (false)) rfl rfl rfl rfl ?_
                    refine lx_nil ?_
                    refine hK12 _ _ ?_; try clear hK12 K12
                    refine A_gen [(0, Value.int .i64 (c)), (40, Value.bool (false))] rfl (fun T => ?_)
                    refine A_cond false rfl (fun h_ => nomatch h_) (fun _ => ?_)
                    refine A_skip ?_
                    refine fg _ (Sub.of (List.Sublist.slnil)) ?_
                    exact ⟨hM, is_mk rfl rfl⟩
                  · replace hM := ifp (of_decide_eq_true hg62) hM
                    refine r_y rfl ?_
                    refine r_v (Value.int .i64 (c)) rfl rfl rfl rfl ?_
                    refine r_y rfl ?_
                    refine r_v (Value.bool (decide ((c : Int) ≤ 1071))) rfl rfl rfl rfl ?_
                    refine r_y rfl ?_
                    refine r_v (Value.bool (decide ((c : Int) ≤ 1071))) rfl rfl rfl rfl ?_
                    refine r_v (Value.bool (decide ((c : Int) ≤ 1071))) rfl rfl rfl rfl ?_
                    refine lx_nil ?_
                    refine hK12 _ _ ?_; try clear hK12 K12
                    refine A_gen [(0, Value.int .i64 (c)), (40, Value.bool (decide ((c : Int) ≤ 1071)))] rfl (fun T => ?_)
                    refine A_cond (decide ((c : Int) ≤ 1071)) rfl (fun hc63 => ?_) (fun hc63 => ?_)
                    · replace hM := ifp (of_decide_eq_true hc63) hM
                      refine A_seq fun K64 hK64 => ?_
                      refine A_reg ?_
                      refine r_v (Value.int .i64 (c)) rfl rfl rfl rfl ?_
                      replace hM := ck_some hM; obtain ⟨ck65, hM⟩ := hM
                      refine r_v (Value.int .i64 ((c + 32))) rfl rfl (wi64 rfl ck65.1 ck65.2) rfl ?_
                      refine r_v (Value.int .i64 ((c + 32))) rfl rfl rfl rfl ?_
                      refine lx_nil ?_
                      refine hK64 _ _ ?_; try clear hK64 K64
                      obtain rfl := Option.some.inj hM
                      refine A_ret (fun hn => ends_eq (v0 := Value.int .i64 ((c + 32))) rfl (res1 rfl))
                    · replace hM := ifn (of_decide_eq_false hc63) hM
                      refine A_skip ?_
                      refine fg _ (Sub.of (List.Sublist.slnil)) ?_
                      exact ⟨hM, is_mk rfl rfl⟩
                · replace hM := ifp (bne_iff_ne.1 hg61) hM
                  refine r_n true rfl (by decide) rfl ?_
                  refine r_n true rfl (by decide) rfl ?_
                  refine r_n true rfl (by decide) rfl ?_
                  refine r_nu rfl rfl ?_
                  refine r_nu rfl rfl ?_
                  refine r_n true rfl (by decide) rfl ?_
                  refine r_v (Value.bool (true)) rfl rfl rfl rfl ?_
                  refine lx_nil ?_
                  refine hK12 _ _ ?_; try clear hK12 K12
                  refine A_gen [(0, Value.int .i64 (c)), (40, Value.bool (true))] rfl (fun T => ?_)
                  refine A_cond true rfl (fun _ => ?_) (fun h_ => nomatch h_)
                  refine A_seq fun K66 hK66 => ?_
                  refine A_reg ?_
                  refine r_v (Value.int .i64 (c)) rfl rfl rfl rfl ?_
                  replace hM := ck_some hM; obtain ⟨ck67, hM⟩ := hM
                  refine r_v (Value.int .i64 ((c + 32))) rfl rfl (wi64 rfl ck67.1 ck67.2) rfl ?_
                  refine r_v (Value.int .i64 ((c + 32))) rfl rfl rfl rfl ?_
                  refine lx_nil ?_
                  refine hK66 _ _ ?_; try clear hK66 K66
                  obtain rfl := Option.some.inj hM
                  refine A_ret (fun hn => ends_eq (v0 := Value.int .i64 ((c + 32))) rfl (res1 rfl))
          · replace hM := ifp (bne_iff_ne.1 hg50) hM
            refine r_n true rfl (by decide) rfl ?_
            refine r_n true rfl (by decide) rfl ?_
            refine r_n true rfl (by decide) rfl ?_
            refine r_nu rfl rfl ?_
            refine r_nu rfl rfl ?_
            refine r_n true rfl (by decide) rfl ?_
            refine r_n true rfl (by decide) rfl ?_
            refine r_nu rfl rfl ?_
            refine r_nu rfl rfl ?_
            refine r_n true rfl (by decide) rfl ?_
            refine r_v (Value.bool (true)) rfl rfl rfl rfl ?_
            refine r_v (Value.bool (true)) rfl rfl rfl rfl ?_
            refine r_n true rfl (by decide) rfl ?_
            refine r_n true rfl (by decide) rfl ?_
            refine r_n true rfl (by decide) rfl ?_
            refine r_nu rfl rfl ?_
            refine r_nu rfl rfl ?_
            refine r_n true rfl (by decide) rfl ?_
            refine r_v (Value.bool (true)) rfl rfl rfl rfl ?_
            refine lx_nil ?_
            refine hK12 _ _ ?_; try clear hK12 K12
            refine A_gen [(0, Value.int .i64 (c)), (40, Value.bool (true))] rfl (fun T => ?_)
            refine A_cond true rfl (fun _ => ?_) (fun h_ => nomatch h_)
            refine A_seq fun K68 hK68 => ?_
            refine A_reg ?_
            refine r_v (Value.int .i64 (c)) rfl rfl rfl rfl ?_
            replace hM := ck_some hM; obtain ⟨ck69, hM⟩ := hM
            refine r_v (Value.int .i64 ((c + 32))) rfl rfl (wi64 rfl ck69.1 ck69.2) rfl ?_
            refine r_v (Value.int .i64 ((c + 32))) rfl rfl rfl rfl ?_
            refine lx_nil ?_
            refine hK68 _ _ ?_; try clear hK68 K68
            obtain rfl := Option.some.inj hM
            refine A_ret (fun hn => ends_eq (v0 := Value.int .i64 ((c + 32))) rfl (res1 rfl))
    · replace hM := ifp (of_decide_eq_true hg13) hM
      refine r_y rfl ?_
      refine r_v (Value.int .i64 (c)) rfl rfl rfl rfl ?_
      refine r_y rfl ?_
      refine r_v (Value.bool (decide ((c : Int) ≤ 90))) rfl rfl rfl rfl ?_
      refine r_v (Value.bool (decide ((c : Int) ≤ 90))) rfl rfl rfl rfl ?_
      refine r_v (Value.bool (decide ((c : Int) ≤ 90))) rfl rfl rfl rfl ?_
      rcases hg70 : (decide ((c : Int) ≤ 90)) with _ | _
      · replace hM := ifn (of_decide_eq_false hg70) hM
        refine r_y rfl ?_
        refine r_v (Value.int .i64 (c)) rfl rfl rfl rfl ?_
        refine r_y rfl ?_
        refine r_v (Value.bool (decide ((c : Int) ≥ 192))) rfl rfl rfl rfl ?_
        refine r_y rfl ?_
        refine r_v (Value.bool (decide ((c : Int) ≥ 192))) rfl rfl rfl rfl ?_
        rcases hg71 : (decide ((c : Int) ≥ 192)) with _ | _
        · replace hM := ifn (of_decide_eq_false hg71) hM
          refine r_n false rfl (by decide) rfl ?_
          refine r_n false rfl (by decide) rfl ?_
          refine r_y rfl ?_
          refine r_v (Value.bool (false)) rfl rfl rfl rfl ?_
          refine r_y rfl ?_
          refine r_v (Value.bool (false)) rfl rfl rfl rfl ?_
          refine r_n false rfl (by decide) rfl ?_
          refine r_n false rfl (by decide) rfl ?_
          refine r_y rfl ?_
          refine r_v (Value.bool (false)) rfl rfl rfl rfl ?_
          refine r_v (Value.bool (false)) rfl rfl rfl rfl ?_
          refine r_v (Value.bool (false)) rfl rfl rfl rfl ?_
          refine r_y rfl ?_
          refine r_v (Value.int .i64 (c)) rfl rfl rfl rfl ?_
          refine r_y rfl ?_
          refine r_v (Value.bool (decide ((c : Int) ≥ 913))) rfl rfl rfl rfl ?_
          refine r_y rfl ?_
          refine r_v (Value.bool (decide ((c : Int) ≥ 913))) rfl rfl rfl rfl ?_
          rcases hg72 : (decide ((c : Int) ≥ 913)) with _ | _
          · replace hM := ifn (of_decide_eq_false hg72) hM
            refine r_n false rfl (by decide) rfl ?_
            refine r_n false rfl (by decide) rfl ?_
            refine r_y rfl ?_
            refine r_v (Value.bool (false)) rfl rfl rfl rfl ?_
            refine r_y rfl ?_
            refine r_v (Value.bool (false)) rfl rfl rfl rfl ?_
            refine r_n false rfl (by decide) rfl ?_
            refine r_n false rfl (by decide) rfl ?_
            refine r_y rfl ?_
            refine r_v (Value.bool (false)) rfl rfl rfl rfl ?_
            refine r_v (Value.bool (false)) rfl rfl rfl rfl ?_
            refine r_v (Value.bool (false)) rfl rfl rfl rfl ?_
            refine r_y rfl ?_
            refine r_v (Value.int .i64 (c)) rfl rfl rfl rfl ?_
            refine r_y rfl ?_
            refine r_v (Value.bool (decide ((c : Int) ≥ 1040))) rfl rfl rfl rfl ?_
            refine r_y rfl ?_
            refine r_v (Value.bool (decide ((c : Int) ≥ 1040))) rfl rfl rfl rfl ?_
            rcases hg73 : (decide ((c : Int) ≥ 1040)) with _ | _
            · replace hM := ifn (of_decide_eq_false hg73) hM
              refine r_n false rfl (by decide) rfl ?_
              refine r_n false rfl (by decide) rfl ?_
              refine r_y rfl ?_
              refine r_v (Value.bool (false)) rfl rfl rfl rfl ?_
              refine r_v (Value.bool (false)) rfl rfl rfl rfl ?_
              refine lx_nil ?_
              refine hK12 _ _ ?_; try clear hK12 K12
              refine A_gen [(0, Value.int .i64 (c)), (40, Value.bool (false))] rfl (fun T => ?_)
              refine A_cond false rfl (fun h_ => nomatch h_) (fun _ => ?_)
              refine A_skip ?_
              refine fg _ (Sub.of (List.Sublist.slnil)) ?_
              exact ⟨hM, is_mk rfl rfl⟩
            · replace hM := ifp (of_decide_eq_true hg73) hM
              refine r_y rfl ?_
              refine r_v (Value.int .i64 (c)) rfl rfl rfl rfl ?_
              refine r_y rfl ?_
              refine r_v (Value.bool (decide ((c : Int) ≤ 1071))) rfl rfl rfl rfl ?_
              refine r_y rfl ?_
              refine r_v (Value.bool (decide ((c : Int) ≤ 1071))) rfl rfl rfl rfl ?_
              refine r_v (Value.bool (decide ((c : Int) ≤ 1071))) rfl rfl rfl rfl ?_
              refine lx_nil ?_
              refine hK12 _ _ ?_; try clear hK12 K12
              refine A_gen [(0, Value.int .i64 (c)), (40, Value.bool (decide ((c : Int) ≤ 1071)))] rfl (fun T => ?_)
              refine A_cond (decide ((c : Int) ≤ 1071)) rfl (fun hc74 => ?_) (fun hc74 => ?_)
              · replace hM := ifp (of_decide_eq_true hc74) hM
                refine A_seq fun K75 hK75 => ?_
                refine A_reg ?_
                refine r_v (Value.int .i64 (c)) rfl rfl rfl rfl ?_
                replace hM := ck_some hM; obtain ⟨ck76, hM⟩ := hM
                refine r_v (Value.int .i64 ((c + 32))) rfl rfl (wi64 rfl ck76.1 ck76.2) rfl ?_
                refine r_v (Value.int .i64 ((c + 32))) rfl rfl rfl rfl ?_
                refine lx_nil ?_
                refine hK75 _ _ ?_; try clear hK75 K75
                obtain rfl := Option.some.inj hM
                refine A_ret (fun hn => ends_eq (v0 := Value.int .i64 ((c + 32))) rfl (res1 rfl))
              · replace hM := ifn (of_decide_eq_false hc74) hM
                refine A_skip ?_
                refine fg _ (Sub.of (List.Sublist.slnil)) ?_
                exact ⟨hM, is_mk rfl rfl⟩
          · replace hM := ifp (of_decide_eq_true hg72) hM
            refine r_y rfl ?_
            refine r_v (Value.int .i64 (c)) rfl rfl rfl rfl ?_
            refine r_y rfl ?_
            refine r_v (Value.bool (decide ((c : Int) ≤ 937))) rfl rfl rfl rfl ?_
            refine r_y rfl ?_
            refine r_v (Value.bool (decide ((c : Int) ≤ 937))) rfl rfl rfl rfl ?_
            refine r_y rfl ?_
            refine r_v (Value.bool (decide ((c : Int) ≤ 937))) rfl rfl rfl rfl ?_
            rcases hg77 : (decide ((c : Int) ≤ 937)) with _ | _
            · replace hM := ifn (of_decide_eq_false hg77) hM
              refine r_n false rfl (by decide) rfl ?_
              refine r_n false rfl (by decide) rfl ?_
              refine r_y rfl ?_
              refine r_v (Value.bool (false)) rfl rfl rfl rfl ?_
              refine r_v (Value.bool (false)) rfl rfl rfl rfl ?_
              refine r_v (Value.bool (false)) rfl rfl rfl rfl ?_
              refine r_y rfl ?_
              refine r_v (Value.int .i64 (c)) rfl rfl rfl rfl ?_
              refine r_y rfl ?_
              refine r_v (Value.bool (decide ((c : Int) ≥ 1040))) rfl rfl rfl rfl ?_
              refine r_y rfl ?_
              refine r_v (Value.bool (decide ((c : Int) ≥ 1040))) rfl rfl rfl rfl ?_
              rcases hg78 : (decide ((c : Int) ≥ 1040)) with _ | _
              · replace hM := ifn (of_decide_eq_false hg78) hM
                refine r_n false rfl (by decide) rfl ?_
                refine r_n false rfl (by decide) rfl ?_
                refine r_y rfl ?_
                refine r_v (Value.bool (false)) rfl rfl rfl rfl ?_
                refine r_v (Value.bool (false)) rfl rfl rfl rfl ?_
                refine lx_nil ?_
                refine hK12 _ _ ?_; try clear hK12 K12
                refine A_gen [(0, Value.int .i64 (c)), (40, Value.bool (false))] rfl (fun T => ?_)
                refine A_cond false rfl (fun h_ => nomatch h_) (fun _ => ?_)
                refine A_skip ?_
                refine fg _ (Sub.of (List.Sublist.slnil)) ?_
                exact ⟨hM, is_mk rfl rfl⟩
              · replace hM := ifp (of_decide_eq_true hg78) hM
                refine r_y rfl ?_
                refine r_v (Value.int .i64 (c)) rfl rfl rfl rfl ?_
                refine r_y rfl ?_
                refine r_v (Value.bool (decide ((c : Int) ≤ 1071))) rfl rfl rfl rfl ?_
                refine r_y rfl ?_
                refine r_v (Value.bool (decide ((c : Int) ≤ 1071))) rfl rfl rfl rfl ?_
                refine r_v (Value.bool (decide ((c : Int) ≤ 1071))) rfl rfl rfl rfl ?_
                refine lx_nil ?_
                refine hK12 _ _ ?_; try clear hK12 K12
                refine A_gen [(0, Value.int .i64 (c)), (40, Value.bool (decide ((c : Int) ≤ 1071)))] rfl (fun T => ?_)
                refine A_cond (decide ((c : Int) ≤ 1071)) rfl (fun hc79 => ?_) (fun hc79 => ?_)
                · replace hM := ifp (of_decide_eq_true hc79) hM
                  refine A_seq fun K80 hK80 => ?_
                  refine A_reg ?_
                  refine r_v (Value.int .i64 (c)) rfl rfl rfl rfl ?_
                  replace hM := ck_some hM; obtain ⟨ck81, hM⟩ := hM
                  refine r_v (Value.int .i64 ((c + 32))) rfl rfl (wi64 rfl ck81.1 ck81.2) rfl ?_
                  refine r_v (Value.int .i64 ((c + 32))) rfl rfl rfl rfl ?_
                  refine lx_nil ?_
                  refine hK80 _ _ ?_; try clear hK80 K80
                  obtain rfl := Option.some.inj hM
                  refine A_ret (fun hn => ends_eq (v0 := Value.int .i64 ((c + 32))) rfl (res1 rfl))
                · replace hM := ifn (of_decide_eq_false hc79) hM
                  refine A_skip ?_
                  refine fg _ (Sub.of (List.Sublist.slnil)) ?_
                  exact ⟨hM, is_mk rfl rfl⟩
            · replace hM := ifp (of_decide_eq_true hg77) hM
              refine r_y rfl ?_
              refine r_v (Value.int .i64 (c)) rfl rfl rfl rfl ?_
              refine r_y rfl ?_
              refine r_v (Value.bool (((c : Int) != 930))) rfl rfl rfl rfl ?_
              refine r_y rfl ?_
              refine r_v (Value.bool (((c : Int) != 930))) rfl rfl rfl rfl ?_
              refine r_v (Value.bool (((c : Int) != 930))) rfl rfl rfl rfl ?_
              refine r_v (Value.bool (((c : Int) != 930))) rfl rfl rfl rfl ?_
              rcases hg82 : (((c : Int) != 930)) with _ | _
              · replace hM := ifn (bne_f hg82) hM
                refine r_y rfl ?_
                refine r_v (Value.int .i64 (c)) rfl rfl rfl rfl ?_
                refine r_y rfl ?_
                refine r_v (Value.bool (decide ((c : Int) ≥ 1040))) rfl rfl rfl rfl ?_
                refine r_y rfl ?_
                refine r_v (Value.bool (decide ((c : Int) ≥ 1040))) rfl rfl rfl rfl ?_
                rcases hg83 : (decide ((c : Int) ≥ 1040)) with _ | _
                · replace hM := ifn (of_decide_eq_false hg83) hM
                  refine r_n false rfl (by decide) rfl ?_
                  refine r_n false rfl (by decide) rfl ?_
                  refine r_y rfl ?_
                  refine r_v (Value.bool (false)) rfl rfl rfl rfl ?_
                  refine r_v (Value.bool (false)) rfl rfl rfl rfl ?_
                  refine lx_nil ?_
                  refine hK12 _ _ ?_; try clear hK12 K12
                  refine A_gen [(0, Value.int .i64 (c)), (40, Value.bool (false))] rfl (fun T => ?_)
                  refine A_cond false rfl (fun h_ => nomatch h_) (fun _ => ?_)
                  refine A_skip ?_
                  refine fg _ (Sub.of (List.Sublist.slnil)) ?_
                  exact ⟨hM, is_mk rfl rfl⟩
                · replace hM := ifp (of_decide_eq_true hg83) hM
                  refine r_y rfl ?_
                  refine r_v (Value.int .i64 (c)) rfl rfl rfl rfl ?_
                  refine r_y rfl ?_
                  refine r_v (Value.bool (decide ((c : Int) ≤ 1071))) rfl rfl rfl rfl ?_
                  refine r_y rfl ?_
                  refine r_v (Value.bool (decide ((c : Int) ≤ 1071))) rfl rfl rfl rfl ?_
                  refine r_v (Value.bool (decide ((c : Int) ≤ 1071))) rfl rfl rfl rfl ?_
                  refine lx_nil ?_
                  refine hK12 _ _ ?_; try clear hK12 K12
                  refine A_gen [(0, Value.int .i64 (c)), (40, Value.bool (decide ((c : Int) ≤ 1071)))] rfl (fun T => ?_)
                  refine A_cond (decide ((c : Int) ≤ 1071)) rfl (fun hc84 => ?_) (fun hc84 => ?_)
                  · replace hM := ifp (of_decide_eq_true hc84) hM
                    refine A_seq fun K85 hK85 => ?_
                    refine A_reg ?_
                    refine r_v (Value.int .i64 (c)) rfl rfl rfl rfl ?_
                    replace hM := ck_some hM; obtain ⟨ck86, hM⟩ := hM
                    refine r_v (Value.int .i64 ((c + 32))) rfl rfl (wi64 rfl ck86.1 ck86.2) rfl ?_
                    refine r_v (Value.int .i64 ((c + 32))) rfl rfl rfl rfl ?_
                    refine lx_nil ?_
                    refine hK85 _ _ ?_; try clear hK85 K85
                    obtain rfl := Option.some.inj hM
                    refine A_ret (fun hn => ends_eq (v0 := Value.int .i64 ((c + 32))) rfl (res1 rfl))
                  · replace hM := ifn (of_decide_eq_false hc84) hM
                    refine A_skip ?_
                    refine fg _ (Sub.of (List.Sublist.slnil)) ?_
                    exact ⟨hM, is_mk rfl rfl⟩
              · replace hM := ifp (bne_iff_ne.1 hg82) hM
                refine r_n true rfl (by decide) rfl ?_
                refine r_n true rfl (by decide) rfl ?_
                refine r_n true rfl (by decide) rfl ?_
                refine r_nu rfl rfl ?_
                refine r_nu rfl rfl ?_
                refine r_n true rfl (by decide) rfl ?_
                refine r_v (Value.bool (true)) rfl rfl rfl rfl ?_
                refine lx_nil ?_
                refine hK12 _ _ ?_; try clear hK12 K12
                refine A_gen [(0, Value.int .i64 (c)), (40, Value.bool (true))] rfl (fun T => ?_)
                refine A_cond true rfl (fun _ => ?_) (fun h_ => nomatch h_)
                refine A_seq fun K87 hK87 => ?_
                refine A_reg ?_
                refine r_v (Value.int .i64 (c)) rfl rfl rfl rfl ?_
                replace hM := ck_some hM; obtain ⟨ck88, hM⟩ := hM
                refine r_v (Value.int .i64 ((c + 32))) rfl rfl (wi64 rfl ck88.1 ck88.2) rfl ?_
                refine r_v (Value.int .i64 ((c + 32))) rfl rfl rfl rfl ?_
                refine lx_nil ?_
                refine hK87 _ _ ?_; try clear hK87 K87
                obtain rfl := Option.some.inj hM
                refine A_ret (fun hn => ends_eq (v0 := Value.int .i64 ((c + 32))) rfl (res1 rfl))
        · replace hM := ifp (of_decide_eq_true hg71) hM
          refine r_y rfl ?_
          refine r_v (Value.int .i64 (c)) rfl rfl rfl rfl ?_
          refine r_y rfl ?_
          refine r_v (Value.bool (decide ((c : Int) ≤ 222))) rfl rfl rfl rfl ?_
          refine r_y rfl ?_
          refine r_v (Value.bool (decide ((c : Int) ≤ 222))) rfl rfl rfl rfl ?_
          refine r_y rfl ?_
          refine r_v (Value.bool (decide ((c : Int) ≤ 222))) rfl rfl rfl rfl ?_
          rcases hg89 : (decide ((c : Int) ≤ 222)) with _ | _
          · replace hM := ifn (of_decide_eq_false hg89) hM
            refine r_n false rfl (by decide) rfl ?_
            refine r_n false rfl (by decide) rfl ?_
            refine r_y rfl ?_
            refine r_v (Value.bool (false)) rfl rfl rfl rfl ?_
            refine r_v (Value.bool (false)) rfl rfl rfl rfl ?_
            refine r_v (Value.bool (false)) rfl rfl rfl rfl ?_
            refine r_y rfl ?_
            refine r_v (Value.int .i64 (c)) rfl rfl rfl rfl ?_
            refine r_y rfl ?_
            refine r_v (Value.bool (decide ((c : Int) ≥ 913))) rfl rfl rfl rfl ?_
            refine r_y rfl ?_
            refine r_v (Value.bool (decide ((c : Int) ≥ 913))) rfl rfl rfl rfl ?_
            rcases hg90 : (decide ((c : Int) ≥ 913)) with _ | _
            · replace hM := ifn (of_decide_eq_false hg90) hM
              refine r_n false rfl (by decide) rfl ?_
              refine r_n false rfl (by decide) rfl ?_
              refine r_y rfl ?_
              refine r_v (Value.bool (false)) rfl rfl rfl rfl ?_
              refine r_y rfl ?_
              refine r_v (Value.bool (false)) rfl rfl rfl rfl ?_
              refine r_n false rfl (by decide) rfl ?_
              refine r_n false rfl (by decide) rfl ?_
              refine r_y rfl ?_
              refine r_v (Value.bool (false)) rfl rfl rfl rfl ?_
              refine r_v (Value.bool (false)) rfl rfl rfl rfl ?_
              refine r_v (Value.bool (false)) rfl rfl rfl rfl ?_
              refine r_y rfl ?_
              refine r_v (Value.int .i64 (c)) rfl rfl rfl rfl ?_
              refine r_y rfl ?_
              refine r_v (Value.bool (decide ((c : Int) ≥ 1040))) rfl rfl rfl rfl ?_
              refine r_y rfl ?_
              refine r_v (Value.bool (decide ((c : Int) ≥ 1040))) rfl rfl rfl rfl ?_
              rcases hg91 : (decide ((c : Int) ≥ 1040)) with _ | _
              · replace hM := ifn (of_decide_eq_false hg91) hM
                refine r_n false rfl (by decide) rfl ?_
                refine r_n false rfl (by decide) rfl ?_
                refine r_y rfl ?_
                refine r_v (Value.bool (false)) rfl rfl rfl rfl ?_
                refine r_v (Value.bool (false)) rfl rfl rfl rfl ?_
                refine lx_nil ?_
                refine hK12 _ _ ?_; try clear hK12 K12
                refine A_gen [(0, Value.int .i64 (c)), (40, Value.bool (false))] rfl (fun T => ?_)
                refine A_cond false rfl (fun h_ => nomatch h_) (fun _ => ?_)
                refine A_skip ?_
                refine fg _ (Sub.of (List.Sublist.slnil)) ?_
                exact ⟨hM, is_mk rfl rfl⟩
              · replace hM := ifp (of_decide_eq_true hg91) hM
                refine r_y rfl ?_
                refine r_v (Value.int .i64 (c)) rfl rfl rfl rfl ?_
                refine r_y rfl ?_
                refine r_v (Value.bool (decide ((c : Int) ≤ 1071))) rfl rfl rfl rfl ?_
                refine r_y rfl ?_
                refine r_v (Value.bool (decide ((c : Int) ≤ 1071))) rfl rfl rfl rfl ?_
                refine r_v (Value.bool (decide ((c : Int) ≤ 1071))) rfl rfl rfl rfl ?_
                refine lx_nil ?_
                refine hK12 _ _ ?_; try clear hK12 K12
                refine A_gen [(0, Value.int .i64 (c)), (40, Value.bool (decide ((c : Int) ≤ 1071)))] rfl (fun T => ?_)
                refine A_cond (decide ((c : Int) ≤ 1071)) rfl (fun hc92 => ?_) (fun hc92 => ?_)
                · replace hM := ifp (of_decide_eq_true hc92) hM
                  refine A_seq fun K93 hK93 => ?_
                  refine A_reg ?_
                  refine r_v (Value.int .i64 (c)) rfl rfl rfl rfl ?_
                  replace hM := ck_some hM; obtain ⟨ck94, hM⟩ := hM
                  refine r_v (Value.int .i64 ((c + 32))) rfl rfl (wi64 rfl ck94.1 ck94.2) rfl ?_
                  refine r_v (Value.int .i64 ((c + 32))) rfl rfl rfl rfl ?_
                  refine lx_nil ?_
                  refine hK93 _ _ ?_; try clear hK93 K93
                  obtain rfl := Option.some.inj hM
                  refine A_ret (fun hn => ends_eq (v0 := Value.int .i64 ((c + 32))) rfl (res1 rfl))
                · replace hM := ifn (of_decide_eq_false hc92) hM
                  refine A_skip ?_
                  refine fg _ (Sub.of (List.Sublist.slnil)) ?_
                  exact ⟨hM, is_mk rfl rfl⟩
            · replace hM := ifp (of_decide_eq_true hg90) hM
              refine r_y rfl ?_
              refine r_v (Value.int .i64 (c)) rfl rfl rfl rfl ?_
              refine r_y rfl ?_
              refine r_v (Value.bool (decide ((c : Int) ≤ 937))) rfl rfl rfl rfl ?_
              refine r_y rfl ?_
              refine r_v (Value.bool (decide ((c : Int) ≤ 937))) rfl rfl rfl rfl ?_
              refine r_y rfl ?_
              refine r_v (Value.bool (decide ((c : Int) ≤ 937))) rfl rfl rfl rfl ?_
              rcases hg95 : (decide ((c : Int) ≤ 937)) with _ | _
              · replace hM := ifn (of_decide_eq_false hg95) hM
                refine r_n false rfl (by decide) rfl ?_
                refine r_n false rfl (by decide) rfl ?_
                refine r_y rfl ?_
                refine r_v (Value.bool (false)) rfl rfl rfl rfl ?_
                refine r_v (Value.bool (false)) rfl rfl rfl rfl ?_
                refine r_v (Value.bool (false)) rfl rfl rfl rfl ?_
                refine r_y rfl ?_
                refine r_v (Value.int .i64 (c)) rfl rfl rfl rfl ?_
                refine r_y rfl ?_
                refine r_v (Value.bool (decide ((c : Int) ≥ 1040))) rfl rfl rfl rfl ?_
                refine r_y rfl ?_
                refine r_v (Value.bool (decide ((c : Int) ≥ 1040))) rfl rfl rfl rfl ?_
                rcases hg96 : (decide ((c : Int) ≥ 1040)) with _ | _
                · replace hM := ifn (of_decide_eq_false hg96) hM
                  refine r_n false rfl (by decide) rfl ?_
                  refine r_n false rfl (by decide) rfl ?_
                  refine r_y rfl ?_
                  refine r_v (Value.bool (false)) rfl rfl rfl rfl ?_
                  refine r_v (Value.bool (false)) rfl rfl rfl rfl ?_
                  refine lx_nil ?_
                  refine hK12 _ _ ?_; try clear hK12 K12
                  refine A_gen [(0, Value.int .i64 (c)), (40, Value.bool (false))] rfl (fun T => ?_)
                  refine A_cond false rfl (fun h_ => nomatch h_) (fun _ => ?_)
                  refine A_skip ?_
                  refine fg _ (Sub.of (List.Sublist.slnil)) ?_
                  exact ⟨hM, is_mk rfl rfl⟩
                · replace hM := ifp (of_decide_eq_true hg96) hM
                  refine r_y rfl ?_
                  refine r_v (Value.int .i64 (c)) rfl rfl rfl rfl ?_
                  refine r_y rfl ?_
                  refine r_v (Value.bool (decide ((c : Int) ≤ 1071))) rfl rfl rfl rfl ?_
                  refine r_y rfl ?_
                  refine r_v (Value.bool (decide ((c : Int) ≤ 1071))) rfl rfl rfl rfl ?_
                  refine r_v (Value.bool (decide ((c : Int) ≤ 1071))) rfl rfl rfl rfl ?_
                  refine lx_nil ?_
                  refine hK12 _ _ ?_; try clear hK12 K12
                  refine A_gen [(0, Value.int .i64 (c)), (40, Value.bool (decide ((c : Int) ≤ 1071)))] rfl (fun T => ?_)
                  refine A_cond (decide ((c : Int) ≤ 1071)) rfl (fun hc97 => ?_) (fun hc97 => ?_)
                  · replace hM := ifp (of_decide_eq_true hc97) hM
                    refine A_seq fun K98 hK98 => ?_
                    refine A_reg ?_
                    refine r_v (Value.int .i64 (c)) rfl rfl rfl rfl ?_
                    replace hM := ck_some hM; obtain ⟨ck99, hM⟩ := hM
                    refine r_v (Value.int .i64 ((c + 32))) rfl rfl (wi64 rfl ck99.1 ck99.2) rfl ?_
                    refine r_v (Value.int .i64 ((c + 32))) rfl rfl rfl rfl ?_
                    refine lx_nil ?_
                    refine hK98 _ _ ?_; try clear hK98 K98
                    obtain rfl := Option.some.inj hM
                    refine A_ret (fun hn => ends_eq (v0 := Value.int .i64 ((c + 32))) rfl (res1 rfl))
                  · replace hM := ifn (of_decide_eq_false hc97) hM
                    refine A_skip ?_
                    refine fg _ (Sub.of (List.Sublist.slnil)) ?_
                    exact ⟨hM, is_mk rfl rfl⟩
              · replace hM := ifp (of_decide_eq_true hg95) hM
                refine r_y rfl ?_
                refine r_v (Value.int .i64 (c)) rfl rfl rfl rfl ?_
                refine r_y rfl ?_
                refine r_v (Value.bool (((c : Int) != 930))) rfl rfl rfl rfl ?_
                refine r_y rfl ?_
                refine r_v (Value.bool (((c : Int) != 930))) rfl rfl rfl rfl ?_
                refine r_v (Value.bool (((c : Int) != 930))) rfl rfl rfl rfl ?_
                refine r_v (Value.bool (((c : Int) != 930))) rfl rfl rfl rfl ?_
                rcases hg100 : (((c : Int) != 930)) with _ | _
                · replace hM := ifn (bne_f hg100) hM
                  refine r_y rfl ?_
                  refine r_v (Value.int .i64 (c)) rfl rfl rfl rfl ?_
                  refine r_y rfl ?_
                  refine r_v (Value.bool (decide ((c : Int) ≥ 1040))) rfl rfl rfl rfl ?_
                  refine r_y rfl ?_
                  refine r_v (Value.bool (decide ((c : Int) ≥ 1040))) rfl rfl rfl rfl ?_
                  rcases hg101 : (decide ((c : Int) ≥ 1040)) with _ | _
                  · replace hM := ifn (of_decide_eq_false hg101) hM
                    refine r_n false rfl (by decide) rfl ?_
                    refine r_n false rfl (by decide) rfl ?_
                    refine r_y rfl ?_
                    refine r_v (Value.bool (false)) rfl rfl rfl rfl ?_
                    refine r_v (Value.bool (false)) rfl rfl rfl rfl ?_
                    refine lx_nil ?_
                    refine hK12 _ _ ?_; try clear hK12 K12
                    refine A_gen [(0, Value.int .i64 (c)), (40, Value.bool (false))] rfl (fun T => ?_)
                    refine A_cond false rfl (fun h_ => nomatch h_) (fun _ => ?_)
                    refine A_skip ?_
                    refine fg _ (Sub.of (List.Sublist.slnil)) ?_
                    exact ⟨hM, is_mk rfl rfl⟩
                  · replace hM := ifp (of_decide_eq_true hg101) hM
                    refine r_y rfl ?_
                    refine r_v (Value.int .i64 (c)) rfl rfl rfl rfl ?_
                    refine r_y rfl ?_
                    refine r_v (Value.bool (decide ((c : Int) ≤ 1071))) rfl rfl rfl rfl ?_
                    refine r_y rfl ?_
                    refine r_v (Value.bool (decide ((c : Int) ≤ 1071))) rfl rfl rfl rfl ?_
                    refine r_v (Value.bool (decide ((c : Int) ≤ 1071))) rfl rfl rfl rfl ?_
                    refine lx_nil ?_
                    refine hK12 _ _ ?_; try clear hK12 K12
                    refine A_gen [(0, Value.int .i64 (c)), (40, Value.bool (decide ((c : Int) ≤ 1071)))] rfl (fun T => ?_)
                    refine A_cond (decide ((c : Int) ≤ 1071)) rfl (fun hc102 => ?_) (fun hc102 => ?_)
                    · replace hM := ifp (of_decide_eq_true hc102) hM
                      refine A_seq fun K103 hK103 => ?_
                      refine A_reg ?_
                      refine r_v (Value.int .i64 (c)) rfl rfl rfl rfl ?_
                      replace hM := ck_some hM; obtain ⟨ck104, hM⟩ := hM
                      refine r_v (Value.int .i64 ((c + 32))) rfl rfl (wi64 rfl ck104.1 ck104.2) rfl ?_
                      refine r_v (Value.int .i64 ((c + 32))) rfl rfl rfl rfl ?_
                      refine lx_nil ?_
                      refine hK103 _ _ ?_; try clear hK103 K103
                      obtain rfl := Option.some.inj hM
                      refine A_ret (fun hn => ends_eq (v0 := Value.int .i64 ((c + 32))) rfl (res1 rfl))
                    · replace hM := ifn (of_decide_eq_false hc102) hM
                      refine A_skip ?_
                      refine fg _ (Sub.of (List.Sublist.slnil)) ?_
                      exact ⟨hM, is_mk rfl rfl⟩
                · replace hM := ifp (bne_iff_ne.1 hg100) hM
                  refine r_n true rfl (by decide) rfl ?_
                  refine r_n true rfl (by decide) rfl ?_
                  refine r_n true rfl (by decide) rfl ?_
                  refine r_nu rfl rfl ?_
                  refine r_nu rfl rfl ?_
                  refine r_n true rfl (by decide) rfl ?_
                  refine r_v (Value.bool (true)) rfl rfl rfl rfl ?_
                  refine lx_nil ?_
                  refine hK12 _ _ ?_; try clear hK12 K12
                  refine A_gen [(0, Value.int .i64 (c)), (40, Value.bool (true))] rfl (fun T => ?_)
                  refine A_cond true rfl (fun _ => ?_) (fun h_ => nomatch h_)
                  refine A_seq fun K105 hK105 => ?_
                  refine A_reg ?_
                  refine r_v (Value.int .i64 (c)) rfl rfl rfl rfl ?_
                  replace hM := ck_some hM; obtain ⟨ck106, hM⟩ := hM
                  refine r_v (Value.int .i64 ((c + 32))) rfl rfl (wi64 rfl ck106.1 ck106.2) rfl ?_
                  refine r_v (Value.int .i64 ((c + 32))) rfl rfl rfl rfl ?_
                  refine lx_nil ?_
                  refine hK105 _ _ ?_; try clear hK105 K105
                  obtain rfl := Option.some.inj hM
                  refine A_ret (fun hn => ends_eq (v0 := Value.int .i64 ((c + 32))) rfl (res1 rfl))
          · replace hM := ifp (of_decide_eq_true hg89) hM
            refine r_y rfl ?_
            refine r_v (Value.int .i64 (c)) rfl rfl rfl rfl ?_
            refine r_y rfl ?_
            refine r_v (Value.bool (((c : Int) != 215))) rfl rfl rfl rfl ?_
            refine r_y rfl ?_
            refine r_v (Value.bool (((c : Int) != 215))) rfl rfl rfl rfl ?_
            refine r_v (Value.bool (((c : Int) != 215))) rfl rfl rfl rfl ?_
            refine r_v (Value.bool (((c : Int) != 215))) rfl rfl rfl rfl ?_
            rcases hg107 : (((c : Int) != 215)) with _ | _
            · replace hM := ifn (bne_f hg107) hM
              refine r_y rfl ?_
              refine r_v (Value.int .i64 (c)) rfl rfl rfl rfl ?_
              refine r_y rfl ?_
              refine r_v (Value.bool (decide ((c : Int) ≥ 913))) rfl rfl rfl rfl ?_
              refine r_y rfl ?_
              refine r_v (Value.bool (decide ((c : Int) ≥ 913))) rfl rfl rfl rfl ?_
              rcases hg108 : (decide ((c : Int) ≥ 913)) with _ | _
              · replace hM := ifn (of_decide_eq_false hg108) hM
                refine r_n false rfl (by decide) rfl ?_
                refine r_n false rfl (by decide) rfl ?_
                refine r_y rfl ?_
                refine r_v (Value.bool (false)) rfl rfl rfl rfl ?_
                refine r_y rfl ?_
                refine r_v (Value.bool (false)) rfl rfl rfl rfl ?_
                refine r_n false rfl (by decide) rfl ?_
                refine r_n false rfl (by decide) rfl ?_
                refine r_y rfl ?_
                refine r_v (Value.bool (false)) rfl rfl rfl rfl ?_
                refine r_v (Value.bool (false)) rfl rfl rfl rfl ?_
                refine r_v (Value.bool (false)) rfl rfl rfl rfl ?_
                refine r_y rfl ?_
                refine r_v (Value.int .i64 (c)) rfl rfl rfl rfl ?_
                refine r_y rfl ?_
                refine r_v (Value.bool (decide ((c : Int) ≥ 1040))) rfl rfl rfl rfl ?_
                refine r_y rfl ?_
                refine r_v (Value.bool (decide ((c : Int) ≥ 1040))) rfl rfl rfl rfl ?_
                rcases hg109 : (decide ((c : Int) ≥ 1040)) with _ | _
                · replace hM := ifn (of_decide_eq_false hg109) hM
                  refine r_n false rfl (by decide) rfl ?_
                  refine r_n false rfl (by decide) rfl ?_
                  refine r_y rfl ?_
                  refine r_v (Value.bool (false)) rfl rfl rfl rfl ?_
                  refine r_v (Value.bool (false)) rfl rfl rfl rfl ?_
                  refine lx_nil ?_
                  refine hK12 _ _ ?_; try clear hK12 K12
                  refine A_gen [(0, Value.int .i64 (c)), (40, Value.bool (false))] rfl (fun T => ?_)
                  refine A_cond false rfl (fun h_ => nomatch h_) (fun _ => ?_)
                  refine A_skip ?_
                  refine fg _ (Sub.of (List.Sublist.slnil)) ?_
                  exact ⟨hM, is_mk rfl rfl⟩
                · replace hM := ifp (of_decide_eq_true hg109) hM
                  refine r_y rfl ?_
                  refine r_v (Value.int .i64 (c)) rfl rfl rfl rfl ?_
                  refine r_y rfl ?_
                  refine r_v (Value.bool (decide ((c : Int) ≤ 1071))) rfl rfl rfl rfl ?_
                  refine r_y rfl ?_
                  refine r_v (Value.bool (decide ((c : Int) ≤ 1071))) rfl rfl rfl rfl ?_
                  refine r_v (Value.bool (decide ((c : Int) ≤ 1071))) rfl rfl rfl rfl ?_
                  refine lx_nil ?_
                  refine hK12 _ _ ?_; try clear hK12 K12
                  refine A_gen [(0, Value.int .i64 (c)), (40, Value.bool (decide ((c : Int) ≤ 1071)))] rfl (fun T => ?_)
                  refine A_cond (decide ((c : Int) ≤ 1071)) rfl (fun hc110 => ?_) (fun hc110 => ?_)
                  · replace hM := ifp (of_decide_eq_true hc110) hM
                    refine A_seq fun K111 hK111 => ?_
                    refine A_reg ?_
                    refine r_v (Value.int .i64 (c)) rfl rfl rfl rfl ?_
                    replace hM := ck_some hM; obtain ⟨ck112, hM⟩ := hM
                    refine r_v (Value.int .i64 ((c + 32))) rfl rfl (wi64 rfl ck112.1 ck112.2) rfl ?_
                    refine r_v (Value.int .i64 ((c + 32))) rfl rfl rfl rfl ?_
                    refine lx_nil ?_
                    refine hK111 _ _ ?_; try clear hK111 K111
                    obtain rfl := Option.some.inj hM
                    refine A_ret (fun hn => ends_eq (v0 := Value.int .i64 ((c + 32))) rfl (res1 rfl))
                  · replace hM := ifn (of_decide_eq_false hc110) hM
                    refine A_skip ?_
                    refine fg _ (Sub.of (List.Sublist.slnil)) ?_
                    exact ⟨hM, is_mk rfl rfl⟩
              · replace hM := ifp (of_decide_eq_true hg108) hM
                refine r_y rfl ?_
                refine r_v (Value.int .i64 (c)) rfl rfl rfl rfl ?_
                refine r_y rfl ?_
                refine r_v (Value.bool (decide ((c : Int) ≤ 937))) rfl rfl rfl rfl ?_
                refine r_y rfl ?_
                refine r_v (Value.bool (decide ((c : Int) ≤ 937))) rfl rfl rfl rfl ?_
                refine r_y rfl ?_
                refine r_v (Value.bool (decide ((c : Int) ≤ 937))) rfl rfl rfl rfl ?_
                rcases hg113 : (decide ((c : Int) ≤ 937)) with _ | _
                · replace hM := ifn (of_decide_eq_false hg113) hM
                  refine r_n false rfl (by decide) rfl ?_
                  refine r_n false rfl (by decide) rfl ?_
                  refine r_y rfl ?_
                  refine r_v (Value.bool (false)) rfl rfl rfl rfl ?_
                  refine r_v (Value.bool (false)) rfl rfl rfl rfl ?_
                  refine r_v (Value.bool (false)) rfl rfl rfl rfl ?_
                  refine r_y rfl ?_
                  refine r_v (Value.int .i64 (c)) rfl rfl rfl rfl ?_
                  refine r_y rfl ?_
                  refine r_v (Value.bool (decide ((c : Int) ≥ 1040))) rfl rfl rfl rfl ?_
                  refine r_y rfl ?_
                  refine r_v (Value.bool (decide ((c : Int) ≥ 1040))) rfl rfl rfl rfl ?_
                  rcases hg114 : (decide ((c : Int) ≥ 1040)) with _ | _
                  · replace hM := ifn (of_decide_eq_false hg114) hM
                    refine r_n false rfl (by decide) rfl ?_
                    refine r_n false rfl (by decide) rfl ?_
                    refine r_y rfl ?_
                    refine r_v (Value.bool (false)) rfl rfl rfl rfl ?_
                    refine r_v (Value.bool (false)) rfl rfl rfl rfl ?_
                    refine lx_nil ?_
                    refine hK12 _ _ ?_; try clear hK12 K12
                    refine A_gen [(0, Value.int .i64 (c)), (40, Value.bool (false))] rfl (fun T => ?_)
                    refine A_cond false rfl (fun h_ => nomatch h_) (fun _ => ?_)
                    refine A_skip ?_
                    refine fg _ (Sub.of (List.Sublist.slnil)) ?_
                    exact ⟨hM, is_mk rfl rfl⟩
                  · replace hM := ifp (of_decide_eq_true hg114) hM
                    refine r_y rfl ?_
                    refine r_v (Value.int .i64 (c)) rfl rfl rfl rfl ?_
                    refine r_y rfl ?_
                    refine r_v (Value.bool (decide ((c : Int) ≤ 1071))) rfl rfl rfl rfl ?_
                    refine r_y rfl ?_
                    refine r_v (Value.bool (decide ((c : Int) ≤ 1071))) rfl rfl rfl rfl ?_
                    refine r_v (Value.bool (decide ((c : Int) ≤ 1071))) rfl rfl rfl rfl ?_
                    refine lx_nil ?_
                    refine hK12 _ _ ?_; try clear hK12 K12
                    refine A_gen [(0, Value.int .i64 (c)), (40, Value.bool (decide ((c : Int) ≤ 1071)))] rfl (fun T => ?_)
                    refine A_cond (decide ((c : Int) ≤ 1071)) rfl (fun hc115 => ?_) (fun hc115 => ?_)
                    · replace hM := ifp (of_decide_eq_true hc115) hM
                      refine A_seq fun K116 hK116 => ?_
                      refine A_reg ?_
                      refine r_v (Value.int .i64 (c)) rfl rfl rfl rfl ?_
                      replace hM := ck_some hM; obtain ⟨ck117, hM⟩ := hM
                      refine r_v (Value.int .i64 ((c + 32))) rfl rfl (wi64 rfl ck117.1 ck117.2) rfl ?_
                      refine r_v (Value.int .i64 ((c + 32))) rfl rfl rfl rfl ?_
                      refine lx_nil ?_
                      refine hK116 _ _ ?_; try clear hK116 K116
                      obtain rfl := Option.some.inj hM
                      refine A_ret (fun hn => ends_eq (v0 := Value.int .i64 ((c + 32))) rfl (res1 rfl))
                    · replace hM := ifn (of_decide_eq_false hc115) hM
                      refine A_skip ?_
                      refine fg _ (Sub.of (List.Sublist.slnil)) ?_
                      exact ⟨hM, is_mk rfl rfl⟩
                · replace hM := ifp (of_decide_eq_true hg113) hM
                  refine r_y rfl ?_
                  refine r_v (Value.int .i64 (c)) rfl rfl rfl rfl ?_
                  refine r_y rfl ?_
                  refine r_v (Value.bool (((c : Int) != 930))) rfl rfl rfl rfl ?_
                  refine r_y rfl ?_
                  refine r_v (Value.bool (((c : Int) != 930))) rfl rfl rfl rfl ?_
                  refine r_v (Value.bool (((c : Int) != 930))) rfl rfl rfl rfl ?_
                  refine r_v (Value.bool (((c : Int) != 930))) rfl rfl rfl rfl ?_
                  rcases hg118 : (((c : Int) != 930)) with _ | _
                  · replace hM := ifn (bne_f hg118) hM
                    refine r_y rfl ?_
                    refine r_v (Value.int .i64 (c)) rfl rfl rfl rfl ?_
                    refine r_y rfl ?_
                    refine r_v (Value.bool (decide ((c : Int) ≥ 1040))) rfl rfl rfl rfl ?_
                    refine r_y rfl ?_
                    refine r_v (Value.bool (decide ((c : Int) ≥ 1040))) rfl rfl rfl rfl ?_
                    rcases hg119 : (decide ((c : Int) ≥ 1040)) with _ | _
                    · replace hM := ifn (of_decide_eq_false hg119) hM
                      refine r_n false rfl (by decide) rfl ?_
                      refine r_n false rfl (by decide) rfl ?_
                      refine r_y rfl ?_
                      refine r_v (Value.bool (false)) rfl rfl rfl rfl ?_
                      refine r_v (Value.bool (false)) rfl rfl rfl rfl ?_
                      refine lx_nil ?_
                      refine hK12 _ _ ?_; try clear hK12 K12
                      refine A_gen [(0, Value.int .i64 (c)), (40, Value.bool (false))] rfl (fun T => ?_)
                      refine A_cond false rfl (fun h_ => nomatch h_) (fun _ => ?_)
                      refine A_skip ?_
                      refine fg _ (Sub.of (List.Sublist.slnil)) ?_
                      exact ⟨hM, is_mk rfl rfl⟩
                    · replace hM := ifp (of_decide_eq_true hg119) hM
                      refine r_y rfl ?_
                      refine r_v (Value.int .i64 (c)) rfl rfl rfl rfl ?_
                      refine r_y rfl ?_
                      refine r_v (Value.bool (decide ((c : Int) ≤ 1071))) rfl rfl rfl rfl ?_
                      refine r_y rfl ?_
                      refine r_v (Value.bool (decide ((c : Int) ≤ 1071))) rfl rfl rfl rfl ?_
                      refine r_v (Value.bool (decide ((c : Int) ≤ 1071))) rfl rfl rfl rfl ?_
                      refine lx_nil ?_
                      refine hK12 _ _ ?_; try clear hK12 K12
                      refine A_gen [(0, Value.int .i64 (c)), (40, Value.bool (decide ((c : Int) ≤ 1071)))] rfl (fun T => ?_)
                      refine A_cond (decide ((c : Int) ≤ 1071)) rfl (fun hc120 => ?_) (fun hc120 => ?_)
                      · replace hM := ifp (of_decide_eq_true hc120) hM
                        refine A_seq fun K121 hK121 => ?_
                        refine A_reg ?_
                        refine r_v (Value.int .i64 (c)) rfl rfl rfl rfl ?_
                        replace hM := ck_some hM; obtain ⟨ck122, hM⟩ := hM
                        refine r_v (Value.int .i64 ((c + 32))) rfl rfl (wi64 rfl ck122.1 ck122.2) rfl ?_
                        refine r_v (Value.int .i64 ((c + 32))) rfl rfl rfl rfl ?_
                        refine lx_nil ?_
                        refine hK121 _ _ ?_; try clear hK121 K121
                        obtain rfl := Option.some.inj hM
                        refine A_ret (fun hn => ends_eq (v0 := Value.int .i64 ((c + 32))) rfl (res1 rfl))
                      · replace hM := ifn (of_decide_eq_false hc120) hM
                        refine A_skip ?_
                        refine fg _ (Sub.of (List.Sublist.slnil)) ?_
                        exact ⟨hM, is_mk rfl rfl⟩
                  · replace hM := ifp (bne_iff_ne.1 hg118) hM
                    refine r_n true rfl (by decide) rfl ?_
                    refine r_n true rfl (by decide) rfl ?_
                    refine r_n true rfl (by decide) rfl ?_
                    refine r_nu rfl rfl ?_
                    refine r_nu rfl rfl ?_
                    refine r_n true rfl (by decide) rfl ?_
                    refine r_v (Value.bool (true)) rfl rfl rfl rfl ?_
                    refine lx_nil ?_
                    refine hK12 _ _ ?_; try clear hK12 K12
                    refine A_gen [(0, Value.int .i64 (c)), (40, Value.bool (true))] rfl (fun T => ?_)
                    refine A_cond true rfl (fun _ => ?_) (fun h_ => nomatch h_)
                    refine A_seq fun K123 hK123 => ?_
                    refine A_reg ?_
                    refine r_v (Value.int .i64 (c)) rfl rfl rfl rfl ?_
                    replace hM := ck_some hM; obtain ⟨ck124, hM⟩ := hM
                    refine r_v (Value.int .i64 ((c + 32))) rfl rfl (wi64 rfl ck124.1 ck124.2) rfl ?_
                    refine r_v (Value.int .i64 ((c + 32))) rfl rfl rfl rfl ?_
                    refine lx_nil ?_
                    refine hK123 _ _ ?_; try clear hK123 K123
                    obtain rfl := Option.some.inj hM
                    refine A_ret (fun hn => ends_eq (v0 := Value.int .i64 ((c + 32))) rfl (res1 rfl))
            · replace hM := ifp (bne_iff_ne.1 hg107) hM
              refine r_n true rfl (by decide) rfl ?_
              refine r_n true rfl (by decide) rfl ?_
              refine r_n true rfl (by decide) rfl ?_
              refine r_nu rfl rfl ?_
              refine r_nu rfl rfl ?_
              refine r_n true rfl (by decide) rfl ?_
              refine r_n true rfl (by decide) rfl ?_
              refine r_nu rfl rfl ?_
              refine r_nu rfl rfl ?_
              refine r_n true rfl (by decide) rfl ?_
              refine r_v (Value.bool (true)) rfl rfl rfl rfl ?_
              refine r_v (Value.bool (true)) rfl rfl rfl rfl ?_
              refine r_n true rfl (by decide) rfl ?_
              refine r_n true rfl (by decide) rfl ?_
              refine r_n true rfl (by decide) rfl ?_
              refine r_nu rfl rfl ?_
              refine r_nu rfl rfl ?_
              refine r_n true rfl (by decide) rfl ?_
              refine r_v (Value.bool (true)) rfl rfl rfl rfl ?_
              refine lx_nil ?_
              refine hK12 _ _ ?_; try clear hK12 K12
              refine A_gen [(0, Value.int .i64 (c)), (40, Value.bool (true))] rfl (fun T => ?_)
              refine A_cond true rfl (fun _ => ?_) (fun h_ => nomatch h_)
              refine A_seq fun K125 hK125 => ?_
              refine A_reg ?_
              refine r_v (Value.int .i64 (c)) rfl rfl rfl rfl ?_
              replace hM := ck_some hM; obtain ⟨ck126, hM⟩ := hM
              refine r_v (Value.int .i64 ((c + 32))) rfl rfl (wi64 rfl ck126.1 ck126.2) rfl ?_
              refine r_v (Value.int .i64 ((c + 32))) rfl rfl rfl rfl ?_
              refine lx_nil ?_
              refine hK125 _ _ ?_; try clear hK125 K125
              obtain rfl := Option.some.inj hM
              refine A_ret (fun hn => ends_eq (v0 := Value.int .i64 ((c + 32))) rfl (res1 rfl))
      · replace hM := ifp (of_decide_eq_true hg70) hM
        refine r_n true rfl (by decide) rfl ?_
        refine r_n true rfl (by decide) rfl ?_
        refine r_n true rfl (by decide) rfl ?_
        refine r_nu rfl rfl ?_
        refine r_nu rfl rfl ?_
        refine r_n true rfl (by decide) rfl ?_
        refine r_n true rfl (by decide) rfl ?_
        refine r_nu rfl rfl ?_
        refine r_nu rfl rfl ?_
        refine r_n true rfl (by decide) rfl ?_
        refine r_v (Value.bool (true)) rfl rfl rfl rfl ?_
        refine r_v (Value.bool (true)) rfl rfl rfl rfl ?_
        refine r_n true rfl (by decide) rfl ?_
        refine r_n true rfl (by decide) rfl ?_
        refine r_n true rfl (by decide) rfl ?_
        refine r_nu rfl rfl ?_
        refine r_nu rfl rfl ?_
        refine r_n true rfl (by decide) rfl ?_
        refine r_n true rfl (by decide) rfl ?_
        refine r_nu rfl rfl ?_
        refine r_nu rfl rfl ?_
        refine r_n true rfl (by decide) rfl ?_
        refine r_v (Value.bool (true)) rfl rfl rfl rfl ?_
        refine r_v (Value.bool (true)) rfl rfl rfl rfl ?_
        refine r_n true rfl (by decide) rfl ?_
        refine r_n true rfl (by decide) rfl ?_
        refine r_n true rfl (by decide) rfl ?_
        refine r_nu rfl rfl ?_
        refine r_nu rfl rfl ?_
        refine r_n true rfl (by decide) rfl ?_
        refine r_v (Value.bool (true)) rfl rfl rfl rfl ?_
        refine lx_nil ?_
        refine hK12 _ _ ?_; try clear hK12 K12
        refine A_gen [(0, Value.int .i64 (c)), (40, Value.bool (true))] rfl (fun T => ?_)
        refine A_cond true rfl (fun _ => ?_) (fun h_ => nomatch h_)
        refine A_seq fun K127 hK127 => ?_
        refine A_reg ?_
        refine r_v (Value.int .i64 (c)) rfl rfl rfl rfl ?_
        replace hM := ck_some hM; obtain ⟨ck128, hM⟩ := hM
        refine r_v (Value.int .i64 ((c + 32))) rfl rfl (wi64 rfl ck128.1 ck128.2) rfl ?_
        refine r_v (Value.int .i64 ((c + 32))) rfl rfl rfl rfl ?_
        refine lx_nil ?_
        refine hK127 _ _ ?_; try clear hK127 K127
        obtain rfl := Option.some.inj hM
        refine A_ret (fun hn => ends_eq (v0 := Value.int .i64 ((c + 32))) rfl (res1 rfl))
  · clear hM; rintro t l ⟨hM, ⟨T, rfl⟩, rfl⟩
    unfold shunterref05_Fold_k1 at hM
    refine A_cut (fun tt ll => (shunterref05_Fold_k2 c  = some r) ∧ Is [(0, Value.int .i64 (c))] [] tt ll) ?_ ?_
    · refine A_seq fun K7 hK7 => ?_
      refine A_reg ?_
      refine r_v (Value.int .i64 (c)) rfl rfl rfl rfl ?_
      refine r_v (Value.bool (decide ((c : Int) ≥ 1024))) rfl rfl rfl rfl ?_
      refine r_v (Value.bool (decide ((c : Int) ≥ 1024))) rfl rfl rfl rfl ?_
      rcases hg8 : (decide ((c : Int) ≥ 1024)) with _ | _
      · replace hM := ifn (of_decide_eq_false hg8) hM
        refine r_n false rfl (by decide) rfl ?_
        refine r_n false rfl (by decide) rfl ?_
        refine r_v (Value.bool (false)) rfl rfl rfl rfl ?_
        refine lx_nil ?_
        refine hK7 _ _ ?_; try clear hK7 K7
        refine A_cond false rfl (fun h_ => nomatch h_) (fun _ => ?_)
        refine A_skip ?_
        refine fg _ (Sub.of (List.Sublist.slnil)) ?_
        exact ⟨hM, is_mk rfl rfl⟩
      · replace hM := ifp (of_decide_eq_true hg8) hM
        refine r_y rfl ?_
        refine r_v (Value.int .i64 (c)) rfl rfl rfl rfl ?_
        refine r_y rfl ?_
        refine r_v (Value.bool (decide ((c : Int) ≤ 1039))) rfl rfl rfl rfl ?_
        refine r_v (Value.bool (decide ((c : Int) ≤ 1039))) rfl rfl rfl rfl ?_
        refine lx_nil ?_
        refine hK7 _ _ ?_; try clear hK7 K7
        refine A_cond (decide ((c : Int) ≤ 1039)) rfl (fun hc9 => ?_) (fun hc9 => ?_)
        · replace hM := ifp (of_decide_eq_true hc9) hM
          refine A_seq fun K10 hK10 => ?_
          refine A_reg ?_
          refine r_v (Value.int .i64 (c)) rfl rfl rfl rfl ?_
          replace hM := ck_some hM; obtain ⟨ck11, hM⟩ := hM
          refine r_v (Value.int .i64 ((c + 80))) rfl rfl (wi64 rfl ck11.1 ck11.2) rfl ?_
          refine r_v (Value.int .i64 ((c + 80))) rfl rfl rfl rfl ?_
          refine lx_nil ?_
          refine hK10 _ _ ?_; try clear hK10 K10
          obtain rfl := Option.some.inj hM
          refine A_ret (fun hn => ends_eq (v0 := Value.int .i64 ((c + 80))) rfl (res1 rfl))
        · replace hM := ifn (of_decide_eq_false hc9) hM
          refine A_skip ?_
          refine fg _ (Sub.of (List.Sublist.slnil)) ?_
          exact ⟨hM, is_mk rfl rfl⟩
    · clear hM; rintro t l ⟨hM, ⟨T, rfl⟩, rfl⟩
      unfold shunterref05_Fold_k2 at hM
      refine A_seq fun K2 hK2 => ?_
      refine A_seq fun K3 hK3 => ?_
      refine A_reg ?_
      refine r_v (Value.int .i64 (c)) rfl rfl rfl rfl ?_
      refine r_v (Value.bool (((c : Int) == 962))) rfl rfl rfl rfl ?_
      refine lx_nil ?_
      refine hK3 _ _ ?_; try clear hK3 K3
      refine A_cond (((c : Int) == 962)) rfl (fun hc4 => ?_) (fun hc4 => ?_)
      · replace hM := ifp (eq_of_beq hc4) hM
        refine A_seq fun K5 hK5 => ?_
        refine A_reg ?_
        refine r_v (Value.int .i64 (963)) rfl rfl rfl rfl ?_
        refine lx_nil ?_
        refine hK5 _ _ ?_; try clear hK5 K5
        obtain rfl := Option.some.inj hM
        refine A_ret (fun hn => ends_eq (v0 := Value.int .i64 (963)) rfl (res1 rfl))
      · replace hM := ifn (ne_of_beq_false hc4) hM
        refine A_skip ?_
        refine hK2 _ _ ?_; try clear hK2 K2
        refine A_seq fun K6 hK6 => ?_
        refine A_reg ?_
        refine r_v (Value.int .i64 (c)) rfl rfl rfl rfl ?_
        refine r_v (Value.int .i64 (c)) rfl rfl rfl rfl ?_
        refine lx_nil ?_
        refine hK6 _ _ ?_; try clear hK6 K6
        obtain rfl := Option.some.inj hM
        refine A_ret (fun hn => ends_eq (v0 := Value.int .i64 (c)) rfl (res1 rfl))
def shunterref05_Keys_l3 (N : Nat) : Nat → List Int → Int → Option (List Int)
  | 0, _, _ => none
  | n10 + 1, s1_, i2_ => if (i2_ : Int) < ((s1_).length : Int) then ck (0 ≤ i2_ ∧ i2_ < ((s1_).length : Int)) ((shunterref05_Fold_m N ((s1_)[(i2_).toNat]!)).bind fun r16 => ck (0 ≤ i2_ ∧ i2_ < ((s1_).length : Int)) (ck ((-9223372036854775808 ≤ (i2_ + 1) ∧ (i2_ + 1) ≤ 9223372036854775807)) ((shunterref05_Keys_l3 N n10) ((s1_).set ((i2_).toNat) (r16)) ((i2_ + 1))))) else some (s1_)
def shunterref05_Keys_m (N : Nat) (s : List UInt8) : Option (List Int) := (shunterref05_Runes_m N s).bind fun r3 => shunterref05_Keys_l3 N N (r3) (0)
set_option maxRecDepth 100000 in
set_option maxHeartbeats 400000 in
theorem shunterref05_Keys_g (N : Nat) (s : List UInt8) (r : List Int) (hM : shunterref05_Keys_m N s = some r) (ro : Addr → Option Value)  : Does Try.prog 22 #[Value.string (⟨(s).toArray⟩)] ro [] (p1 (fun s_ => s_) 3 encI r) := by
  unfold shunterref05_Keys_m at hM
  refine does_of_A follows Try.func22 rfl 22 rfl (upd (fun _ => undef) 0 (Value.string (⟨(s).toArray⟩))) (by funext k; match k with | 0 => rfl | k + 1 => rfl) (fun base0_ => ?_)
  refine A_seq fun K1 hK1 => ?_
  refine A_reg ?_
  refine r_v (Value.slice none 0 0) rfl rfl rfl rfl ?_
  refine lx_nil ?_
  refine hK1 _ _ ?_; try clear hK1 K1
  refine A_seq fun K2 hK2 => ?_
  refine A_regC [(some 6, false)] (conG Try.prog [(6, fun v_ L_ U_ => ∀ u0_, shunterref05_Runes_m N s = some u0_ → (p1 (fun s_ => s_) 3 encI (u0_)) v_ L_ U_)]) ?_
  refine r_v (Value.string (⟨(s).toArray⟩)) rfl rfl rfl rfl ?_
  replace hM := bind_sm hM; obtain ⟨r3, hr4, hM⟩ := hM
  refine r_g1 (Ls := []) (fun s5 => s5) 3 encI (r3) 10 _ rfl rfl rfl (ev_callF rfl call_10 rfl) (fun own_ nw_ hs_ => shunterref05_Runes_g N s _ hr4 hs_.view ) (fun _ _ v_ L_ U_ => ⟨fun h_ => h_ _ hr4, fun h_ => by intro _ e_; cases Option.some.inj (e_.symm.trans hr4); exact h_⟩) (fun s5 S6 H7 => ?_)
  refine r_v (s5) rfl rfl rfl rfl ?_
  refine lx_nil ?_
  refine hK2 _ _ ?_; try clear hK2 K2
  refine A_seq fun K8 hK8 => ?_
  refine A_seq fun K9 hK9 => ?_
  refine A_reg ?_
  refine r_v (Value.int .i64 (0)) rfl rfl rfl rfl ?_
  refine lx_nil ?_
  refine hK9 _ _ ?_; try clear hK9 K9
  refine A_block ?_
  refine A_forget _ (Sub.pick [S6] [0] rfl) ?_
  refine A_loop (fun tt ll nn => ∃ (n10 : Nat) (s1_ : List Int) (i2_ : Int), (shunterref05_Keys_l3 N n10 s1_ i2_ = some r) ∧ ∃ (Ss1_ : List Bl), Sl 3 encI s5 s1_ Ss1_ ∧ Is [(3, s5), (4, Value.int .i64 (i2_))] (List.flatten [Ss1_]) tt ll ∧ nn = n10 + 1) (N + 1) ?_ ?_
  · exact ⟨N, r3, 0, hM, S6, H7, is_mk rfl rfl, rfl⟩
  · clear hM; rintro t l _ ⟨n10, s1_, i2_, hM, Ss1_, hs1_, ⟨⟨T, rfl⟩, rfl⟩, rfl⟩
    rcases n10 with _ | n10
    · exact absurd hM (by simp [shunterref05_Keys_l3])
    rw [shunterref05_Keys_l3] at hM
    refine A_seq fun K11 hK11 => ?_
    refine A_seq fun K12 hK12 => ?_
    refine A_reg ?_
    refine r_v (Value.int .i64 (i2_)) rfl rfl rfl rfl ?_
    refine r_v (s5) rfl rfl rfl rfl ?_
    refine r_v (Value.int .i64 (((s1_).length : Int))) rfl rfl rfl (ev_lenSl rfl rfl rfl (Sl.shp hs1_)) ?_
    refine r_v (Value.bool (decide ((i2_ : Int) < ((s1_).length : Int)))) rfl rfl rfl rfl ?_
    refine lx_nil ?_
    refine hK12 _ _ ?_; try clear hK12 K12
    refine A_cond (decide ((i2_ : Int) < ((s1_).length : Int))) rfl (fun hc13 => ?_) (fun hc13 => ?_)
    · replace hM := ifp (of_decide_eq_true hc13) hM
      refine A_skip ?_
      refine hK11 _ _ ?_; try clear hK11 K11
      refine A_seq fun K14 hK14 => ?_
      refine A_block ?_
      refine A_reg ?_
      refine r_v (s5) rfl rfl rfl rfl ?_
      refine r_v (Value.int .i64 (i2_)) rfl rfl rfl rfl ?_
      refine r_v (s5) rfl rfl rfl rfl ?_
      refine r_v (Value.int .i64 (i2_)) rfl rfl rfl rfl ?_
      replace hM := ck_some hM; obtain ⟨ck15, hM⟩ := hM
      refine r_v (elA s5 ((i2_).toNat * 1)) rfl rfl rfl (ev_v (ev_idxSl rfl rfl rfl (Sl.shp hs1_) ck15)) ?_
      refine r_le (Value.int .i64 ((s1_)[(i2_).toNat]!)) (En := encI) ((s1_)[(i2_).toNat]!) ((i2_).toNat) 0 rfl rfl (rd_own hs1_ (mem_chunk (Ls := [Ss1_]) (k := 0) rfl rfl)) (get_of ck15) rfl ?_
      replace hM := bind_sm hM; obtain ⟨r16, hr17, hM⟩ := hM
      refine r_c (Value.int .i64 (r16)) rfl _ _ (ev_callF rfl call_21 rfl) (shunterref05_Fold_g N ((s1_)[(i2_).toNat]!) _ hr17) ?_
      replace hM := ck_some hM; obtain ⟨ck18, hM⟩ := hM
      refine r_v (elA s5 ((i2_).toNat * 1)) rfl rfl rfl (ev_v (ev_idxSl rfl rfl rfl (Sl.shp hs1_) ck18)) ?_
      refine r_se (Ls := [Ss1_]) 0 (En := encI) ((s1_)[(i2_).toNat]!) (r16) ((i2_).toNat) 0 rfl rfl rfl hs1_ (get_of ck18) rfl rfl rfl (one_all rfl) rfl (fun S19 H20 => ?_)
      refine lx_nil ?_
      refine hK14 _ _ ?_; try clear hK14 K14
      refine A_reg ?_
      refine r_v (Value.int .i64 (i2_)) rfl rfl rfl rfl ?_
      replace hM := ck_some hM; obtain ⟨ck21, hM⟩ := hM
      refine r_v (Value.int .i64 ((i2_ + 1))) rfl rfl (wi64 rfl ck21.1 ck21.2) rfl ?_
      refine r_v (Value.int .i64 ((i2_ + 1))) rfl rfl rfl rfl ?_
      refine lx_nil ?_
      refine fg _ (Sub.pick [S19] [0] rfl) ?_
      exact ⟨n10 + 1, by omega, n10, (s1_).set ((i2_).toNat) (r16), (i2_ + 1), hM, S19, H20, is_mk rfl rfl, rfl⟩
    · replace hM := ifn (of_decide_eq_false hc13) hM
      refine A_exit ?_
      refine hK8 _ _ ?_; try clear hK8 K8
      refine A_seq fun K22 hK22 => ?_
      refine A_reg ?_
      refine r_v (s5) rfl rfl rfl rfl ?_
      refine r_v (s5) rfl rfl rfl rfl ?_
      refine lx_nil ?_
      refine hK22 _ _ ?_; try clear hK22 K22
      obtain rfl := Option.some.inj hM
      refine A_ret (fun hn => ends1 (v0 := s5) hs1_ (sub_one (Sub.pick [Ss1_] [0] rfl)) rfl (res1 rfl))
def shunterref05_Order_k1 (a : List Int) (b : List Int) : Option (Int) := if (((a).length : Int) : Int) < ((b).length : Int) then some (-1) else if (((a).length : Int) : Int) > ((b).length : Int) then some (1) else some (0)
def shunterref05_Order_k4 (a : List Int) (b : List Int) (i2_ : Int) (rec_shunterref05_Order_l3 : Int → Option (Int)) : Option (Int) := ck (0 ≤ i2_ ∧ i2_ < ((a).length : Int)) (ck (0 ≤ i2_ ∧ i2_ < ((b).length : Int)) (if ((a)[(i2_).toNat]! : Int) < (b)[(i2_).toNat]! then some (-1) else ck (0 ≤ i2_ ∧ i2_ < ((a).length : Int)) (ck (0 ≤ i2_ ∧ i2_ < ((b).length : Int)) (if ((a)[(i2_).toNat]! : Int) > (b)[(i2_).toNat]! then some (1) else ck ((-9223372036854775808 ≤ (i2_ + 1) ∧ (i2_ + 1) ≤ 9223372036854775807)) (rec_shunterref05_Order_l3 ((i2_ + 1)))))))
def shunterref05_Order_l3 (a : List Int) (b : List Int) : Nat → Int → Option (Int)
  | 0, _ => none
  | n12 + 1, i2_ => if (i2_ : Int) < ((a).length : Int) then if (i2_ : Int) < ((b).length : Int) then shunterref05_Order_k4 a b i2_ (shunterref05_Order_l3 a b n12)  else shunterref05_Order_k1 a b  else shunterref05_Order_k1 a b 
def shunterref05_Order_m (N : Nat) (a : List Int) (b : List Int) : Option (Int) := shunterref05_Order_l3 a b N (0)
set_option maxRecDepth 100000 in
set_option maxHeartbeats 400000 in
theorem shunterref05_Order_g (N : Nat) (a : List Int) (b : List Int) (r : Int) (hM : shunterref05_Order_m N a b = some r) (ro : Addr → Option Value) (av : Value) (ha : Rd encI ro av a) (bv : Value) (hb : Rd encI ro bv b) : Does Try.prog 24 #[av, bv] ro [] (pV (Value.int .i64 (r))) := by
  unfold shunterref05_Order_m at hM
  refine does_of_A follows Try.func24 rfl 46 rfl (upd (upd (fun _ => undef) 1 (bv)) 0 (av)) (by funext k; match k with | 0 => rfl | 1 => rfl | k + 2 => rfl) (fun base0_ => ?_)
  refine A_seq fun K1 hK1 => ?_
  refine A_reg ?_
  refine r_v (Value.int .i64 (0)) rfl rfl rfl rfl ?_
  refine lx_nil ?_
  refine hK1 _ _ ?_; try clear hK1 K1
  refine A_cut (fun tt ll => (shunterref05_Order_k1 a b  = some r) ∧ Is [(0, av), (1, bv)] [] tt ll) ?_ ?_
  · refine A_seq fun K11 hK11 => ?_
    refine A_reg ?_
    refine r_v (Value.int .i64 (0)) rfl rfl rfl rfl ?_
    refine lx_nil ?_
    refine hK11 _ _ ?_; try clear hK11 K11
    refine A_block ?_
    refine A_loop (fun tt ll nn => ∃ (n12 : Nat) (i2_ : Int), (shunterref05_Order_l3 a b n12 i2_ = some r) ∧ Is [(0, av), (1, bv), (5, Value.int .i64 (i2_))] [] tt ll ∧ nn = n12 + 1) (N + 1) ?_ ?_
    · exact ⟨N, 0, hM, is_mk rfl rfl, rfl⟩
    · clear hM; rintro t l _ ⟨n12, i2_, hM, ⟨⟨T, rfl⟩, rfl⟩, rfl⟩
      rcases n12 with _ | n12
      · exact absurd hM (by simp [shunterref05_Order_l3])
      rw [shunterref05_Order_l3] at hM
      refine A_cut (fun tt ll => (shunterref05_Order_k4 a b i2_ (shunterref05_Order_l3 a b n12)  = some r) ∧ Is [(0, av), (1, bv), (5, Value.int .i64 (i2_))] [] tt ll) ?_ ?_
      · refine A_seq fun K26 hK26 => ?_
        refine A_reg ?_
        refine r_v (Value.int .i64 (i2_)) rfl rfl rfl rfl ?_
        refine r_v (av) rfl rfl rfl rfl ?_
        refine r_v (Value.int .i64 (((a).length : Int))) rfl rfl rfl (ev_lenSl rfl rfl rfl (Rd.shp ha)) ?_
        refine r_v (Value.bool (decide ((i2_ : Int) < ((a).length : Int)))) rfl rfl rfl rfl ?_
        refine r_v (Value.bool (decide ((i2_ : Int) < ((a).length : Int)))) rfl rfl rfl rfl ?_
        rcases hg27 : (decide ((i2_ : Int) < ((a).length : Int))) with _ | _
        · replace hM := ifn (of_decide_eq_false hg27) hM
          refine r_n false rfl (by decide) rfl ?_
          refine r_n false rfl (by decide) rfl ?_
          refine r_n false rfl (by decide) rfl ?_
          refine r_n false rfl (by decide) rfl ?_
          refine r_v (Value.bool (false)) rfl rfl rfl rfl ?_
          refine lx_nil ?_
          refine hK26 _ _ ?_; try clear hK26 K26
          refine A_cond false rfl (fun h_ => nomatch h_) (fun _ => ?_)
          refine A_exit ?_
          refine fg _ (Sub.of (List.Sublist.slnil)) ?_
          exact ⟨hM, is_mk rfl rfl⟩
        · replace hM := ifp (of_decide_eq_true hg27) hM
          refine r_y rfl ?_
          refine r_v (Value.int .i64 (i2_)) rfl rfl rfl rfl ?_
          refine r_y rfl ?_
          refine r_v (bv) rfl rfl rfl rfl ?_
          refine r_y rfl ?_
          refine r_v (Value.int .i64 (((b).length : Int))) rfl rfl rfl (ev_lenSl rfl rfl rfl (Rd.shp hb)) ?_
          refine r_y rfl ?_
          refine r_v (Value.bool (decide ((i2_ : Int) < ((b).length : Int)))) rfl rfl rfl rfl ?_
          refine r_v (Value.bool (decide ((i2_ : Int) < ((b).length : Int)))) rfl rfl rfl rfl ?_
          refine lx_nil ?_
          refine hK26 _ _ ?_; try clear hK26 K26
          refine A_cond (decide ((i2_ : Int) < ((b).length : Int))) rfl (fun hc28 => ?_) (fun hc28 => ?_)
          · replace hM := ifp (of_decide_eq_true hc28) hM
            refine A_skip ?_
            refine fg _ (Sub.of (List.Sublist.slnil)) ?_
            exact ⟨hM, is_mk rfl rfl⟩
          · replace hM := ifn (of_decide_eq_false hc28) hM
            refine A_exit ?_
            refine fg _ (Sub.of (List.Sublist.slnil)) ?_
            exact ⟨hM, is_mk rfl rfl⟩
      · clear hM; rintro t l ⟨hM, ⟨T, rfl⟩, rfl⟩
        unfold shunterref05_Order_k4 at hM
        refine A_seq fun K13 hK13 => ?_
        refine A_block ?_
        refine A_seq fun K14 hK14 => ?_
        refine A_seq fun K15 hK15 => ?_
        refine A_draw [] (by decide +kernel) (fun hn => sep_nil) ?_
        refine r_v (av) rfl rfl rfl rfl ?_
        refine r_v (Value.int .i64 (i2_)) rfl rfl rfl rfl ?_
        replace hM := ck_some hM; obtain ⟨ck16, hM⟩ := hM
        refine r_v (elA av ((i2_).toNat * 1)) rfl rfl rfl (ev_v (ev_idxSl rfl rfl rfl (Rd.shp ha) ck16)) ?_
        refine r_le (Value.int .i64 ((a)[(i2_).toNat]!)) (En := encI) ((a)[(i2_).toNat]!) ((i2_).toNat) 0 rfl rfl (rd_ro ha) (get_of ck16) rfl ?_
        refine r_v (bv) rfl rfl rfl rfl ?_
        refine r_v (Value.int .i64 (i2_)) rfl rfl rfl rfl ?_
        replace hM := ck_some hM; obtain ⟨ck17, hM⟩ := hM
        refine r_v (elA bv ((i2_).toNat * 1)) rfl rfl rfl (ev_v (ev_idxSl rfl rfl rfl (Rd.shp hb) ck17)) ?_
        refine r_le (Value.int .i64 ((b)[(i2_).toNat]!)) (En := encI) ((b)[(i2_).toNat]!) ((i2_).toNat) 0 rfl rfl (rd_ro hb) (get_of ck17) rfl ?_
        refine r_v (Value.bool (decide (((a)[(i2_).toNat]! : Int) < (b)[(i2_).toNat]!))) rfl rfl rfl rfl ?_
        refine lx_nil ?_
        refine hK15 _ _ ?_; try clear hK15 K15
        refine A_cond (decide (((a)[(i2_).toNat]! : Int) < (b)[(i2_).toNat]!)) rfl (fun hc18 => ?_) (fun hc18 => ?_)
        · replace hM := ifp (of_decide_eq_true hc18) hM
          refine A_seq fun K19 hK19 => ?_
          refine A_reg ?_
          refine r_v (Value.int .i64 (-1)) rfl rfl rfl rfl ?_
          refine lx_nil ?_
          refine hK19 _ _ ?_; try clear hK19 K19
          obtain rfl := Option.some.inj hM
          refine A_ret (fun hn => endsV (v0 := Value.int .i64 (-1)) rfl (res1 rfl))
        · replace hM := ifn (of_decide_eq_false hc18) hM
          refine A_skip ?_
          refine hK14 _ _ ?_; try clear hK14 K14
          refine A_seq fun K20 hK20 => ?_
          refine A_draw [] (by decide +kernel) (fun hn => sep_nil) ?_
          refine r_v (av) rfl rfl rfl rfl ?_
          refine r_v (Value.int .i64 (i2_)) rfl rfl rfl rfl ?_
          replace hM := ck_some hM; obtain ⟨ck21, hM⟩ := hM
          refine r_v (elA av ((i2_).toNat * 1)) rfl rfl rfl (ev_v (ev_idxSl rfl rfl rfl (Rd.shp ha) ck21)) ?_
          refine r_le (Value.int .i64 ((a)[(i2_).toNat]!)) (En := encI) ((a)[(i2_).toNat]!) ((i2_).toNat) 0 rfl rfl (rd_ro ha) (get_of ck21) rfl ?_
          refine r_v (bv) rfl rfl rfl rfl ?_
          refine r_v (Value.int .i64 (i2_)) rfl rfl rfl rfl ?_
          replace hM := ck_some hM; obtain ⟨ck22, hM⟩ := hM
          refine r_v (elA bv ((i2_).toNat * 1)) rfl rfl rfl (ev_v (ev_idxSl rfl rfl rfl (Rd.shp hb) ck22)) ?_
          refine r_le (Value.int .i64 ((b)[(i2_).toNat]!)) (En := encI) ((b)[(i2_).toNat]!) ((i2_).toNat) 0 rfl rfl (rd_ro hb) (get_of ck22) rfl ?_
          refine r_v (Value.bool (decide (((a)[(i2_).toNat]! : Int) > (b)[(i2_).toNat]!))) rfl rfl rfl rfl ?_
          refine lx_nil ?_
          refine hK20 _ _ ?_; try clear hK20 K20
          refine A_cond (decide (((a)[(i2_).toNat]! : Int) > (b)[(i2_).toNat]!)) rfl (fun hc23 => ?_) (fun hc23 => ?_)
          · replace hM := ifp (of_decide_eq_true hc23) hM
            refine A_seq fun K24 hK24 => ?_
            refine A_reg ?_
            refine r_v (Value.int .i64 (1)) rfl rfl rfl rfl ?_
            refine lx_nil ?_
            refine hK24 _ _ ?_; try clear hK24 K24
            obtain rfl := Option.some.inj hM
            refine A_ret (fun hn => endsV (v0 := Value.int .i64 (1)) rfl (res1 rfl))
          · replace hM := ifn (of_decide_eq_false hc23) hM
            refine A_skip ?_
            refine hK13 _ _ ?_; try clear hK13 K13
            refine A_reg ?_
            refine r_v (Value.int .i64 (i2_)) rfl rfl rfl rfl ?_
            replace hM := ck_some hM; obtain ⟨ck25, hM⟩ := hM
            refine r_v (Value.int .i64 ((i2_ + 1))) rfl rfl (wi64 rfl ck25.1 ck25.2) rfl ?_
            refine r_v (Value.int .i64 ((i2_ + 1))) rfl rfl rfl rfl ?_
            refine lx_nil ?_
            refine fg _ (Sub.of (List.Sublist.slnil)) ?_
            exact ⟨n12 + 1, by omega, n12, (i2_ + 1), hM, is_mk rfl rfl, rfl⟩
  · clear hM; rintro t l ⟨hM, ⟨T, rfl⟩, rfl⟩
    unfold shunterref05_Order_k1 at hM
    refine A_seq fun K2 hK2 => ?_
    refine A_seq fun K3 hK3 => ?_
    refine A_reg ?_
    refine r_v (av) rfl rfl rfl rfl ?_
    refine r_v (Value.int .i64 (((a).length : Int))) rfl rfl rfl (ev_lenSl rfl rfl rfl (Rd.shp ha)) ?_
    refine r_v (bv) rfl rfl rfl rfl ?_
    refine r_v (Value.int .i64 (((b).length : Int))) rfl rfl rfl (ev_lenSl rfl rfl rfl (Rd.shp hb)) ?_
    refine r_v (Value.bool (decide ((((a).length : Int) : Int) < ((b).length : Int)))) rfl rfl rfl rfl ?_
    refine lx_nil ?_
    refine hK3 _ _ ?_; try clear hK3 K3
    refine A_cond (decide ((((a).length : Int) : Int) < ((b).length : Int))) rfl (fun hc4 => ?_) (fun hc4 => ?_)
    · replace hM := ifp (of_decide_eq_true hc4) hM
      refine A_seq fun K5 hK5 => ?_
      refine A_reg ?_
      refine r_v (Value.int .i64 (-1)) rfl rfl rfl rfl ?_
      refine lx_nil ?_
      refine hK5 _ _ ?_; try clear hK5 K5
      obtain rfl := Option.some.inj hM
      refine A_ret (fun hn => endsV (v0 := Value.int .i64 (-1)) rfl (res1 rfl))
    · replace hM := ifn (of_decide_eq_false hc4) hM
      refine A_skip ?_
      refine hK2 _ _ ?_; try clear hK2 K2
      refine A_seq fun K6 hK6 => ?_
      refine A_seq fun K7 hK7 => ?_
      refine A_reg ?_
      refine r_v (av) rfl rfl rfl rfl ?_
      refine r_v (Value.int .i64 (((a).length : Int))) rfl rfl rfl (ev_lenSl rfl rfl rfl (Rd.shp ha)) ?_
      refine r_v (bv) rfl rfl rfl rfl ?_
      refine r_v (Value.int .i64 (((b).length : Int))) rfl rfl rfl (ev_lenSl rfl rfl rfl (Rd.shp hb)) ?_
      refine r_v (Value.bool (decide ((((a).length : Int) : Int) > ((b).length : Int)))) rfl rfl rfl rfl ?_
      refine lx_nil ?_
      refine hK7 _ _ ?_; try clear hK7 K7
      refine A_cond (decide ((((a).length : Int) : Int) > ((b).length : Int))) rfl (fun hc8 => ?_) (fun hc8 => ?_)
      · replace hM := ifp (of_decide_eq_true hc8) hM
        refine A_seq fun K9 hK9 => ?_
        refine A_reg ?_
        refine r_v (Value.int .i64 (1)) rfl rfl rfl rfl ?_
        refine lx_nil ?_
        refine hK9 _ _ ?_; try clear hK9 K9
        obtain rfl := Option.some.inj hM
        refine A_ret (fun hn => endsV (v0 := Value.int .i64 (1)) rfl (res1 rfl))
      · replace hM := ifn (of_decide_eq_false hc8) hM
        refine A_skip ?_
        refine hK6 _ _ ?_; try clear hK6 K6
        refine A_seq fun K10 hK10 => ?_
        refine A_reg ?_
        refine r_v (Value.int .i64 (0)) rfl rfl rfl rfl ?_
        refine lx_nil ?_
        refine hK10 _ _ ?_; try clear hK10 K10
        obtain rfl := Option.some.inj hM
        refine A_ret (fun hn => endsV (v0 := Value.int .i64 (0)) rfl (res1 rfl))
def name_Less_m (N : Nat) (a : List UInt8) (b : List UInt8) : Option (Bool) := (name_Key_m N a).bind fun r4 => (name_Key_m N b).bind fun r6 => if (r4) ≠ (r6) then some ((Op.bytesLess r4 r6)) else some ((Op.bytesLess a b))
set_option maxRecDepth 100000 in
set_option maxHeartbeats 400000 in
theorem name_Less_g (N : Nat) (a : List UInt8) (b : List UInt8) (r : Bool) (hM : name_Less_m N a b = some r) : Gives Try.prog 26 #[Value.string (⟨(a).toArray⟩), Value.string (⟨(b).toArray⟩)] (Value.bool (r)) := by
  unfold name_Less_m at hM
  refine gives_of_A follows Try.func26 rfl 20 rfl (upd (upd (fun _ => undef) 1 (Value.string (⟨(b).toArray⟩))) 0 (Value.string (⟨(a).toArray⟩))) (by funext k; match k with | 0 => rfl | 1 => rfl | k + 2 => rfl) (fun base0_ => ?_)
  refine A_seq fun K1 hK1 => ?_
  refine A_reg ?_
  refine r_v (Value.bool (false)) rfl rfl rfl rfl ?_
  refine lx_nil ?_
  refine hK1 _ _ ?_; try clear hK1 K1
  refine A_seq fun K2 hK2 => ?_
  refine A_seq fun K3 hK3 => ?_
  refine A_reg ?_
  refine r_v (Value.string (⟨(a).toArray⟩)) rfl rfl rfl rfl ?_
  replace hM := bind_sm hM; obtain ⟨r4, hr5, hM⟩ := hM
  refine r_c (Value.string (⟨(r4).toArray⟩)) rfl _ _ (ev_callF rfl call_23 rfl) (name_Key_g N a _ hr5) ?_
  refine r_v (Value.string (⟨(b).toArray⟩)) rfl rfl rfl rfl ?_
  replace hM := bind_sm hM; obtain ⟨r6, hr7, hM⟩ := hM
  refine r_c (Value.string (⟨(r6).toArray⟩)) rfl _ _ (ev_callF rfl call_23 rfl) (name_Key_g N b _ hr7) ?_
  refine r_v (Value.string (⟨(r4).toArray⟩)) rfl rfl rfl rfl ?_
  refine r_v (Value.string (⟨(r6).toArray⟩)) rfl rfl rfl rfl ?_
  refine lx_nil ?_
  refine hK3 _ _ ?_; try clear hK3 K3
  refine A_seq fun K8 hK8 => ?_
  refine A_reg ?_
  refine r_v (Value.string (⟨(r4).toArray⟩)) rfl rfl rfl rfl ?_
  refine r_v (Value.string (⟨(r6).toArray⟩)) rfl rfl rfl rfl ?_
  refine r_v (Value.bool ((r4) != (r6))) rfl rfl rfl (ev_neS rfl rfl) ?_
  refine lx_nil ?_
  refine hK8 _ _ ?_; try clear hK8 K8
  refine A_cond ((r4) != (r6)) rfl (fun hc9 => ?_) (fun hc9 => ?_)
  · replace hM := ifp (bne_iff_ne.1 hc9) hM
    refine A_seq fun K10 hK10 => ?_
    refine A_reg ?_
    refine r_v (Value.string (⟨(r4).toArray⟩)) rfl rfl rfl rfl ?_
    refine r_v (Value.string (⟨(r6).toArray⟩)) rfl rfl rfl rfl ?_
    refine r_v (Value.bool ((Op.bytesLess r4 r6))) rfl rfl rfl (ev_lssS rfl rfl) ?_
    refine r_v (Value.bool ((Op.bytesLess r4 r6))) rfl rfl rfl rfl ?_
    refine lx_nil ?_
    refine hK10 _ _ ?_; try clear hK10 K10
    obtain rfl := Option.some.inj hM
    refine A_ret (fun hn => ends_eq (v0 := Value.bool ((Op.bytesLess r4 r6))) rfl (res1 rfl))
  · replace hM := ifn (bne_f hc9) hM
    refine A_skip ?_
    refine hK2 _ _ ?_; try clear hK2 K2
    refine A_seq fun K11 hK11 => ?_
    refine A_reg ?_
    refine r_v (Value.string (⟨(a).toArray⟩)) rfl rfl rfl rfl ?_
    refine r_v (Value.string (⟨(b).toArray⟩)) rfl rfl rfl rfl ?_
    refine r_v (Value.bool ((Op.bytesLess a b))) rfl rfl rfl (ev_lssS rfl rfl) ?_
    refine r_v (Value.bool ((Op.bytesLess a b))) rfl rfl rfl rfl ?_
    refine lx_nil ?_
    refine hK11 _ _ ?_; try clear hK11 K11
    obtain rfl := Option.some.inj hM
    refine A_ret (fun hn => ends_eq (v0 := Value.bool ((Op.bytesLess a b))) rfl (res1 rfl))
def shunterref05_Less_m (N : Nat) (a : List UInt8) (b : List UInt8) : Option (Bool) := (shunterref05_Keys_m N a).bind fun r3 => (shunterref05_Keys_m N b).bind fun r8 => (shunterref05_Order_m N r3 r8).bind fun r13 => if (r13 : Int) < 0 then some (true) else if (r13 : Int) = 0 then some ((Op.bytesLess a b)) else some (false)
set_option maxRecDepth 100000 in
set_option maxHeartbeats 400000 in
theorem shunterref05_Less_g (N : Nat) (a : List UInt8) (b : List UInt8) (r : Bool) (hM : shunterref05_Less_m N a b = some r) : Gives Try.prog 27 #[Value.string (⟨(a).toArray⟩), Value.string (⟨(b).toArray⟩)] (Value.bool (r)) := by
  unfold shunterref05_Less_m at hM
  refine gives_of_A follows Try.func27 rfl 22 rfl (upd (upd (fun _ => undef) 1 (Value.string (⟨(b).toArray⟩))) 0 (Value.string (⟨(a).toArray⟩))) (by funext k; match k with | 0 => rfl | 1 => rfl | k + 2 => rfl) (fun base0_ => ?_)
  refine A_seq fun K1 hK1 => ?_
  refine A_reg ?_
  refine r_v (Value.bool (false)) rfl rfl rfl rfl ?_
  refine lx_nil ?_
  refine hK1 _ _ ?_; try clear hK1 K1
  refine A_seq fun K2 hK2 => ?_
  refine A_regC [(some 7, false), (some 9, false), (some 10, false)] (conG Try.prog [(7, fun v_ L_ U_ => ∀ u0_, shunterref05_Keys_m N a = some u0_ → (p1 (fun s_ => s_) 3 encI (u0_)) v_ L_ U_), (9, fun v_ L_ U_ => ∀ u0_, shunterref05_Keys_m N b = some u0_ → (p1 (fun s_ => s_) 3 encI (u0_)) v_ L_ U_), (10, fun v_ L_ U_ => ∀ u0_, shunterref05_Keys_m N a = some u0_ → ∀ u1_, shunterref05_Keys_m N b = some u1_ → ∀ u2_, shunterref05_Order_m N u0_ u1_ = some u2_ → (pV (Value.int .i64 (u2_))) v_ L_ U_)]) ?_
  refine r_v (Value.string (⟨(a).toArray⟩)) rfl rfl rfl rfl ?_
  replace hM := bind_sm hM; obtain ⟨r3, hr4, hM⟩ := hM
  refine r_g1 (Ls := []) (fun s5 => s5) 3 encI (r3) 22 _ rfl rfl rfl (ev_callF rfl call_22 rfl) (fun own_ nw_ hs_ => shunterref05_Keys_g N a _ hr4 hs_.view ) (fun _ _ v_ L_ U_ => ⟨fun h_ => h_ _ hr4, fun h_ => by intro _ e_; cases Option.some.inj (e_.symm.trans hr4); exact h_⟩) (fun s5 S6 H7 => ?_)
  refine r_v (Value.string (⟨(b).toArray⟩)) rfl rfl rfl rfl ?_
  replace hM := bind_sm hM; obtain ⟨r8, hr9, hM⟩ := hM
  refine r_g1 (Ls := [S6]) (fun s10 => s10) 3 encI (r8) 22 _ rfl rfl rfl (ev_callF rfl call_22 rfl) (fun own_ nw_ hs_ => shunterref05_Keys_g N b _ hr9 hs_.view ) (fun _ _ v_ L_ U_ => ⟨fun h_ => h_ _ hr9, fun h_ => by intro _ e_; cases Option.some.inj (e_.symm.trans hr9); exact h_⟩) (fun s10 S11 H12 => ?_)
  replace hM := bind_sm hM; obtain ⟨r13, hr14, hM⟩ := hM
  refine r_gv (Value.int .i64 (r13)) 24 _ rfl rfl rfl (ev_callF rfl call_24 rfl) (fun own_ nw_ hs_ => shunterref05_Order_g N r3 r8 _ hr14 hs_.view s5 ((rd_own H7 (mem_chunk (Ls := [S6, S11]) (k := 0) rfl rfl)) own_ nw_ hs_) s10 ((rd_own H12 (mem_chunk (Ls := [S6, S11]) (k := 1) rfl rfl)) own_ nw_ hs_)) (fun _ _ v_ L_ U_ => ⟨fun h_ => h_ _ hr4 _ hr9 _ hr14, fun h_ => by intro _ e_; cases Option.some.inj (e_.symm.trans hr4); intro _ e_; cases Option.some.inj (e_.symm.trans hr9); intro _ e_; cases Option.some.inj (e_.symm.trans hr14); exact h_⟩) ?_
  refine r_v (Value.int .i64 (r13)) rfl rfl rfl rfl ?_
  refine lx_nil ?_
  refine hK2 _ _ ?_; try clear hK2 K2
  refine A_seq fun K15 hK15 => ?_
  refine A_reg ?_
  refine r_v (Value.int .i64 (r13)) rfl rfl rfl rfl ?_
  refine r_v (Value.bool (decide ((r13 : Int) < 0))) rfl rfl rfl rfl ?_
  refine r_v (Value.bool (decide ((r13 : Int) < 0))) rfl rfl rfl rfl ?_
  rcases hg16 : (decide ((r13 : Int) < 0)) with _ | _
  · replace hM := ifn (of_decide_eq_false hg16) hM
    refine r_y rfl ?_
    refine r_v (Value.int .i64 (r13)) rfl rfl rfl rfl ?_
    refine r_y rfl ?_
    refine r_v (Value.bool (((r13 : Int) == 0))) rfl rfl rfl rfl ?_
    refine r_y rfl ?_
    refine r_v (Value.bool (((r13 : Int) == 0))) rfl rfl rfl rfl ?_
    rcases hg17 : (((r13 : Int) == 0)) with _ | _
    · replace hM := ifn (ne_of_beq_false hg17) hM
      refine r_n false rfl (by decide) rfl ?_
      refine r_n false rfl (by decide) rfl ?_
      refine r_n false rfl (by decide) rfl ?_
      refine r_y rfl ?_
      refine r_v (Value.bool (false)) rfl rfl rfl rfl ?_
      refine r_v (Value.bool (false)) rfl rfl rfl rfl ?_
      refine r_v (Value.bool (false)) rfl rfl rfl rfl ?_
      refine lx_nil ?_
      refine hK15 _ _ ?_; try clear hK15 K15
      obtain rfl := Option.some.inj hM
      refine A_ret (fun hn => ends_eq (v0 := Value.bool (false)) rfl (res1 rfl))
    · replace hM := ifp (eq_of_beq hg17) hM
      refine r_y rfl ?_
      refine r_v (Value.string (⟨(a).toArray⟩)) rfl rfl rfl rfl ?_
      refine r_y rfl ?_
      refine r_v (Value.string (⟨(b).toArray⟩)) rfl rfl rfl rfl ?_
      refine r_y rfl ?_
      refine r_v (Value.bool ((Op.bytesLess a b))) rfl rfl rfl (ev_lssS rfl rfl) ?_
      refine r_y rfl ?_
      refine r_v (Value.bool ((Op.bytesLess a b))) rfl rfl rfl rfl ?_
      refine r_v (Value.bool ((Op.bytesLess a b))) rfl rfl rfl rfl ?_
      refine r_v (Value.bool ((Op.bytesLess a b))) rfl rfl rfl rfl ?_
      refine lx_nil ?_
      refine hK15 _ _ ?_; try clear hK15 K15
      obtain rfl := Option.some.inj hM
      refine A_ret (fun hn => ends_eq (v0 := Value.bool ((Op.bytesLess a b))) rfl (res1 rfl))
  · replace hM := ifp (of_decide_eq_true hg16) hM
    refine r_n true rfl (by decide) rfl ?_
    refine r_n true rfl (by decide) rfl ?_
    refine r_n true rfl (by decide) rfl ?_
    refine r_nu rfl rfl ?_
    refine r_nu rfl rfl ?_
    refine r_nu rfl rfl ?_
    refine r_n true rfl (by decide) rfl ?_
    refine r_v (Value.bool (true)) rfl rfl rfl rfl ?_
    refine r_v (Value.bool (true)) rfl rfl rfl rfl ?_
    refine lx_nil ?_
    refine hK15 _ _ ?_; try clear hK15 K15
    obtain rfl := Option.some.inj hM
    refine A_ret (fun hn => ends_eq (v0 := Value.bool (true)) rfl (res1 rfl))
def name_Place_l4 (s : List UInt8) (at' : Int) : Nat → Int → Int → Nat → Option (Int × Int)
  | 0, _, _, _ => none
  | n7 + 1, line1_, column2_, m3_ => if m3_ < ((s).take (min (max (at') (0)) (((s).length : Int))).toNat).length then ck (m3_ < ((s).take (min (max (at') (0)) (((s).length : Int))).toNat).length) (ck ((-9223372036854775808 ≤ (column2_ + 1) ∧ (column2_ + 1) ≤ 9223372036854775807)) (if (((runeAt ((s).take (min (max (at') (0)) (((s).length : Int))).toNat) (m3_) : Nat) : Int) : Int) = 10 then ck ((-9223372036854775808 ≤ (line1_ + 1) ∧ (line1_ + 1) ≤ 9223372036854775807)) ((name_Place_l4 s at' n7) ((line1_ + 1)) (1) (nextP ((s).take (min (max (at') (0)) (((s).length : Int))).toNat) (m3_))) else (name_Place_l4 s at' n7) (line1_) ((column2_ + 1)) (nextP ((s).take (min (max (at') (0)) (((s).length : Int))).toNat) (m3_)))) else some (line1_, column2_)
def name_Place_m (N : Nat) (s : List UInt8) (at' : Int) : Option (Int × Int) := ck (0 ≤ min (max (at') (0)) (((s).length : Int)) ∧ min (max (at') (0)) (((s).length : Int)) ≤ ((s).length : Int)) (name_Place_l4 s at' N (1) (1) (0))
set_option maxRecDepth 100000 in
set_option maxHeartbeats 400000 in
theorem name_Place_g (N : Nat) (s : List UInt8) (at' : Int) (r : Int × Int) (hM : name_Place_m N s at' = some r) : Gives Try.prog 28 #[Value.string (⟨(s).toArray⟩), Value.int .i64 (at')] (Value.tuple #[Value.int .i64 (r.1), Value.int .i64 (r.2)]) := by
  unfold name_Place_m at hM
  refine gives_of_A follows Try.func28 rfl 29 rfl (upd (upd (fun _ => undef) 1 (Value.int .i64 (at'))) 0 (Value.string (⟨(s).toArray⟩))) (by funext k; match k with | 0 => rfl | 1 => rfl | k + 2 => rfl) (fun base0_ => ?_)
  refine A_seq fun K1 hK1 => ?_
  refine A_reg ?_
  refine r_v (Value.int .i64 (0)) rfl rfl rfl rfl ?_
  refine r_v (Value.int .i64 (0)) rfl rfl rfl rfl ?_
  refine lx_nil ?_
  refine hK1 _ _ ?_; try clear hK1 K1
  refine A_seq fun K2 hK2 => ?_
  refine A_reg ?_
  refine r_v (Value.int .i64 (1)) rfl rfl rfl rfl ?_
  refine r_v (Value.int .i64 (1)) rfl rfl rfl rfl ?_
  refine lx_nil ?_
  refine hK2 _ _ ?_; try clear hK2 K2
  refine A_seq fun K3 hK3 => ?_
  refine A_seq fun K4 hK4 => ?_
  refine A_regC [(some 17, false)] (conG Try.prog [(17, fun v_ L_ U_ => (pIt ((s).take (min (max (at') (0)) (((s).length : Int))).toNat)) v_ L_ U_)]) ?_
  refine r_v (Value.string (⟨(s).toArray⟩)) rfl rfl rfl rfl ?_
  refine r_v (Value.int .i64 (at')) rfl rfl rfl rfl ?_
  refine r_v (Value.int .i64 (max (at') (0))) rfl rfl rfl (ev_max rfl rfl) ?_
  refine r_v (Value.string (⟨(s).toArray⟩)) rfl rfl rfl rfl ?_
  refine r_v (Value.int .i64 (((s).length : Int))) rfl rfl rfl (ev_lenS rfl rfl rfl) ?_
  refine r_v (Value.int .i64 (min (max (at') (0)) (((s).length : Int)))) rfl rfl rfl (ev_min rfl rfl) ?_
  replace hM := ck_some hM; obtain ⟨ck5, hM⟩ := hM
  refine r_v (Value.string (⟨((s).take (min (max (at') (0)) (((s).length : Int))).toNat).toArray⟩)) rfl rfl rfl (ev_v (ev_sliceS2 rfl ck5)) ?_
  refine r_range ((s).take (min (max (at') (0)) (((s).length : Int))).toNat) rfl rfl rfl rfl rfl (fun _ _ _ _ _ => Iff.rfl) (fun b6 => ?_)
  refine lx_nil ?_
  refine hK4 _ _ ?_; try clear hK4 K4
  refine A_block ?_
  refine A_loop (fun tt ll nn => ∃ (n7 : Nat) (line1_ : Int) (column2_ : Int) (m3_ : Nat), (name_Place_l4 s at' n7 line1_ column2_ m3_ = some r) ∧ Is [(6, Value.int .i64 (line1_)), (7, Value.int .i64 (column2_)), (17, Value.pointer (some ⟨b6, 0, none⟩))] [(b6, (itT ((s).take (min (max (at') (0)) (((s).length : Int))).toNat) (m3_)), #[])] tt ll ∧ nn = n7 + 1) (N + 1) ?_ ?_
  · exact ⟨N, 1, 1, 0, hM, is_mk rfl rfl, rfl⟩
  · clear hM; rintro t l _ ⟨n7, line1_, column2_, m3_, hM, ⟨⟨T, rfl⟩, rfl⟩, rfl⟩
    rcases n7 with _ | n7
    · exact absurd hM (by simp [name_Place_l4])
    rw [name_Place_l4] at hM
    refine A_seq fun K8 hK8 => ?_
    refine A_regC [(some 18, true)] (conG Try.prog [(18, fun v_ L_ U_ => (pNx b6 ((s).take (min (max (at') (0)) (((s).length : Int))).toNat) (m3_)) v_ L_ U_)]) ?_
    refine r_next (lN := [(b6, (itT ((s).take (min (max (at') (0)) (((s).length : Int))).toNat) (nextP ((s).take (min (max (at') (0)) (((s).length : Int))).toNat) (m3_))), #[])]) 0 b6 ((s).take (min (max (at') (0)) (((s).length : Int))).toNat) (m3_) rfl rfl rfl rfl rfl rfl (fun _ _ _ _ _ => Iff.rfl) rfl ?_
    refine r_v (Value.bool (decide (m3_ < ((s).take (min (max (at') (0)) (((s).length : Int))).toNat).length))) rfl rfl rfl (ev_v (ev_next0 ((s).take (min (max (at') (0)) (((s).length : Int))).toNat) (m3_))) ?_
    refine lx_nil ?_
    refine hK8 _ _ ?_; try clear hK8 K8
    refine A_seq fun K9 hK9 => ?_
    refine A_cond (decide (m3_ < ((s).take (min (max (at') (0)) (((s).length : Int))).toNat).length)) rfl (fun hc10 => ?_) (fun hc10 => ?_)
    · replace hM := ifp (of_decide_eq_true hc10) hM
      refine A_skip ?_
      refine hK9 _ _ ?_; try clear hK9 K9
      refine A_block ?_
      refine A_seq fun K11 hK11 => ?_
      refine A_reg ?_
      replace hM := ck_some hM; obtain ⟨ck12, hM⟩ := hM
      refine r_v (Value.int .i32 (((runeAt ((s).take (min (max (at') (0)) (((s).length : Int))).toNat) (m3_) : Nat) : Int))) rfl rfl rfl (ev_v (ev_next2 ck12)) ?_
      refine r_v (Value.int .i32 (((runeAt ((s).take (min (max (at') (0)) (((s).length : Int))).toNat) (m3_) : Nat) : Int))) rfl rfl rfl rfl ?_
      refine lx_nil ?_
      refine hK11 _ _ ?_; try clear hK11 K11
      refine A_seq fun K13 hK13 => ?_
      refine A_reg ?_
      refine r_v (Value.int .i64 (column2_)) rfl rfl rfl rfl ?_
      replace hM := ck_some hM; obtain ⟨ck14, hM⟩ := hM
      refine r_v (Value.int .i64 ((column2_ + 1))) rfl rfl (wi64 rfl ck14.1 ck14.2) rfl ?_
      refine r_v (Value.int .i64 ((column2_ + 1))) rfl rfl rfl rfl ?_
      refine lx_nil ?_
      refine hK13 _ _ ?_; try clear hK13 K13
      refine A_seq fun K15 hK15 => ?_
      refine A_reg ?_
      refine r_v (Value.int .i32 (((runeAt ((s).take (min (max (at') (0)) (((s).length : Int))).toNat) (m3_) : Nat) : Int))) rfl rfl rfl rfl ?_
      refine r_v (Value.bool (((((runeAt ((s).take (min (max (at') (0)) (((s).length : Int))).toNat) (m3_) : Nat) : Int) : Int) == 10))) rfl rfl rfl rfl ?_
      refine lx_nil ?_
      refine hK15 _ _ ?_; try clear hK15 K15
      refine A_cond (((((runeAt ((s).take (min (max (at') (0)) (((s).length : Int))).toNat) (m3_) : Nat) : Int) : Int) == 10)) rfl (fun hc16 => ?_) (fun hc16 => ?_)
      · replace hM := ifp (eq_of_beq hc16) hM
        refine A_reg ?_
        refine r_v (Value.int .i64 (line1_)) rfl rfl rfl rfl ?_
        replace hM := ck_some hM; obtain ⟨ck17, hM⟩ := hM
        refine r_v (Value.int .i64 ((line1_ + 1))) rfl rfl (wi64 rfl ck17.1 ck17.2) rfl ?_
        refine r_v (Value.int .i64 ((line1_ + 1))) rfl rfl rfl rfl ?_
        refine r_v (Value.int .i64 (1)) rfl rfl rfl rfl ?_
        refine lx_nil ?_
        refine fg _ (Sub.of (List.Sublist.cons_cons _ (List.Sublist.slnil))) ?_
        exact ⟨n7 + 1, by omega, n7, (line1_ + 1), 1, nextP ((s).take (min (max (at') (0)) (((s).length : Int))).toNat) (m3_), hM, is_mk rfl rfl, rfl⟩
      · replace hM := ifn (ne_of_beq_false hc16) hM
        refine A_skip ?_
        refine fg _ (Sub.of (List.Sublist.cons_cons _ (List.Sublist.slnil))) ?_
        exact ⟨n7 + 1, by omega, n7, line1_, (column2_ + 1), nextP ((s).take (min (max (at') (0)) (((s).length : Int))).toNat) (m3_), hM, is_mk rfl rfl, rfl⟩
    · replace hM := ifn (of_decide_eq_false hc10) hM
      refine A_exit ?_
      refine hK3 _ _ ?_; try clear hK3 K3
      refine A_seq fun K18 hK18 => ?_
      refine A_reg ?_
      refine r_v (Value.int .i64 (line1_)) rfl rfl rfl rfl ?_
      refine r_v (Value.int .i64 (column2_)) rfl rfl rfl rfl ?_
      refine r_v (Value.int .i64 (line1_)) rfl rfl rfl rfl ?_
      refine r_v (Value.int .i64 (column2_)) rfl rfl rfl rfl ?_
      refine lx_nil ?_
      refine hK18 _ _ ?_; try clear hK18 K18
      obtain rfl := Option.some.inj hM
      refine A_ret (fun hn => ends_eq (v0 := Value.tuple #[Value.int .i64 (line1_), Value.int .i64 (column2_)]) rfl (res2 rfl rfl))
end Go.Proofs.Ytniakkkjiifelaa
