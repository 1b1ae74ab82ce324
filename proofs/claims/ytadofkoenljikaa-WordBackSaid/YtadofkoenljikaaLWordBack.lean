/- models of functions and their walks -/
import Derived.Test.YtadofkoenljikaaText
import Derived.Test.YtadofkoenljikaaSb
namespace Go.Proofs.Ytadofkoenljikaa
open Go Go.RowKit Go.Eng
def shunterlaw01_lives_m (_ : Nat) : Option (Bool) := if (((0#64) ++ (18446744073709551615#64)) + ((0#64) ++ (1#64))) = ((1#64) ++ (0#64)) then if (BitVec.carry 128 ((0#64) ++ (18446744073709551615#64)) ((0#64) ++ (1#64)) false) = true then some (false) else some ((textI (16) (((0#64) ++ (18446744073709551615#64)) + ((0#64) ++ (1#64)))) == (([49, 48, 48, 48, 48, 48, 48, 48, 48, 48, 48, 48, 48, 48, 48, 48, 48] : List UInt8))) else some (false)
set_option maxRecDepth 100000 in
set_option maxHeartbeats 400000 in
theorem shunterlaw01_lives_g (N : Nat) (r : Bool) (hM : shunterlaw01_lives_m N = some r) : Gives Try.prog 5 #[] (Value.bool (r)) := by
  unfold shunterlaw01_lives_m at hM
  refine gives_of_A follows Try.func5 rfl 21 rfl (fun _ => undef) (by funext k; rfl) (fun base0_ => ?_)
  refine A_seq fun K1 hK1 => ?_
  refine A_reg ?_
  refine r_v (Value.bool (false)) rfl rfl rfl rfl ?_
  refine lx_nil ?_
  refine hK1 _ _ ?_; try clear hK1 K1
  refine A_seq fun K2 hK2 => ?_
  refine A_reg ?_
  refine r_v (Value.agg #[U (0#64), U (18446744073709551615#64)]) rfl rfl rfl (ev_buildS rfl rfl rfl rfl) ?_
  refine r_v (Value.agg #[U (0#64), U (1#64)]) rfl rfl rfl (ev_buildS rfl rfl rfl rfl) ?_
  refine r_c (Value.tuple #[Value.agg #[U (hi (((0#64) ++ (18446744073709551615#64)) + ((0#64) ++ (1#64)))), U (lo (((0#64) ++ (18446744073709551615#64)) + ((0#64) ++ (1#64))))], Value.bool (BitVec.carry 128 ((0#64) ++ (18446744073709551615#64)) ((0#64) ++ (1#64)) false)]) rfl _ _ (ev_callF rfl call_10 rfl) (by have h_ := (add_g ((0#64) ++ (18446744073709551615#64)) ((0#64) ++ (1#64))); simp only [app_hl] at h_; exact h_) ?_
  refine r_v (Value.tuple #[Value.agg #[U (hi (((0#64) ++ (18446744073709551615#64)) + ((0#64) ++ (1#64)))), U (lo (((0#64) ++ (18446744073709551615#64)) + ((0#64) ++ (1#64))))], Value.bool (BitVec.carry 128 ((0#64) ++ (18446744073709551615#64)) ((0#64) ++ (1#64)) false)]) rfl rfl rfl rfl ?_
  refine r_v (Value.agg #[U (hi (((0#64) ++ (18446744073709551615#64)) + ((0#64) ++ (1#64)))), U (lo (((0#64) ++ (18446744073709551615#64)) + ((0#64) ++ (1#64))))]) rfl rfl rfl rfl ?_
  refine r_v (Value.bool (BitVec.carry 128 ((0#64) ++ (18446744073709551615#64)) ((0#64) ++ (1#64)) false)) rfl rfl rfl rfl ?_
  refine r_a (24, #[U (0#64), U (0#64)]) rfl rfl rfl (fun b3 => ?_) (.inr rfl)
  refine r_s [(b3, 24, #[U (hi (((0#64) ++ (18446744073709551615#64)) + ((0#64) ++ (1#64)))), U (lo (((0#64) ++ (18446744073709551615#64)) + ((0#64) ++ (1#64))))])] 0 _ _ _ (#[U (0#64), U (0#64)]) (#[U (hi (((0#64) ++ (18446744073709551615#64)) + ((0#64) ++ (1#64)))), U (lo (((0#64) ++ (18446744073709551615#64)) + ((0#64) ++ (1#64))))]) (#[U (hi (((0#64) ++ (18446744073709551615#64)) + ((0#64) ++ (1#64)))), U (lo (((0#64) ++ (18446744073709551615#64)) + ((0#64) ++ (1#64))))]) rfl rfl rfl rfl (.of rfl rfl) rfl rfl ?_
  refine r_v (Value.bool (BitVec.carry 128 ((0#64) ++ (18446744073709551615#64)) ((0#64) ++ (1#64)) false)) rfl rfl rfl rfl ?_
  refine lx_nil ?_
  refine hK2 _ _ ?_; try clear hK2 K2
  refine A_seq fun K4 hK4 => ?_
  refine A_reg ?_
  refine r_l (Value.agg #[U (hi (((0#64) ++ (18446744073709551615#64)) + ((0#64) ++ (1#64)))), U (lo (((0#64) ++ (18446744073709551615#64)) + ((0#64) ++ (1#64))))]) 0 _ _ _ _ rfl rfl rfl rfl rfl ?_
  refine r_v (Value.agg #[U (1#64), U (0#64)]) rfl rfl rfl (ev_buildS rfl rfl rfl rfl) ?_
  refine r_v (Value.bool ((((0#64) ++ (18446744073709551615#64)) + ((0#64) ++ (1#64))) == ((1#64) ++ (0#64)))) rfl rfl rfl (ev_binEq rfl rfl eg_24 (by have h_ := fun c => eqword_24 (c := c) (((0#64) ++ (18446744073709551615#64)) + ((0#64) ++ (1#64))) ((1#64) ++ (0#64)); simp only [app_hl] at h_; exact h_ _)) ?_
  refine r_v (Value.bool ((((0#64) ++ (18446744073709551615#64)) + ((0#64) ++ (1#64))) == ((1#64) ++ (0#64)))) rfl rfl rfl rfl ?_
  rcases hg5 : ((((0#64) ++ (18446744073709551615#64)) + ((0#64) ++ (1#64))) == ((1#64) ++ (0#64))) with _ | _
  · replace hM := ifn (ne_of_beq_false hg5) hM
    refine r_n false rfl (by decide) rfl ?_
    refine r_n false rfl (by decide) rfl ?_
    refine r_v (Value.bool (false)) rfl rfl rfl rfl ?_
    refine r_v (Value.bool (false)) rfl rfl rfl rfl ?_
    refine r_n false rfl (by decide) rfl ?_
    refine r_n false rfl (by decide) rfl ?_
    refine r_n false rfl (by decide) rfl ?_
    refine r_v (Value.bool (false)) rfl rfl rfl rfl ?_
    refine r_v (Value.bool (false)) rfl rfl rfl rfl ?_
    refine lx_nil ?_
    refine hK4 _ _ ?_; try clear hK4 K4
    obtain rfl := Option.some.inj hM
    refine A_ret (fun hn => ends_eq (v0 := Value.bool (false)) rfl (res1 rfl))
  · replace hM := ifp (eq_of_beq hg5) hM
    refine r_y rfl ?_
    refine r_v (Value.bool (BitVec.carry 128 ((0#64) ++ (18446744073709551615#64)) ((0#64) ++ (1#64)) false)) rfl rfl rfl rfl ?_
    refine r_y rfl ?_
    refine r_v (Value.bool (!(BitVec.carry 128 ((0#64) ++ (18446744073709551615#64)) ((0#64) ++ (1#64)) false))) rfl rfl rfl rfl ?_
    refine r_v (Value.bool (!(BitVec.carry 128 ((0#64) ++ (18446744073709551615#64)) ((0#64) ++ (1#64)) false))) rfl rfl rfl rfl ?_
    refine r_v (Value.bool (!(BitVec.carry 128 ((0#64) ++ (18446744073709551615#64)) ((0#64) ++ (1#64)) false))) rfl rfl rfl rfl ?_
    rcases hg6 : (!(BitVec.carry 128 ((0#64) ++ (18446744073709551615#64)) ((0#64) ++ (1#64)) false)) with _ | _
    · replace hM := ifp (not_f hg6) hM
      refine r_n false rfl (by decide) rfl ?_
      refine r_n false rfl (by decide) rfl ?_
      refine r_n false rfl (by decide) rfl ?_
      refine r_v (Value.bool (false)) rfl rfl rfl rfl ?_
      refine r_v (Value.bool (false)) rfl rfl rfl rfl ?_
      refine lx_nil ?_
      refine hK4 _ _ ?_; try clear hK4 K4
      obtain rfl := Option.some.inj hM
      refine A_ret (fun hn => ends_eq (v0 := Value.bool (false)) rfl (res1 rfl))
    · replace hM := ifn (Bool.eq_false_iff.1 (not_t hg6)) hM
      refine r_y rfl ?_
      refine r_l (Value.agg #[U (hi (((0#64) ++ (18446744073709551615#64)) + ((0#64) ++ (1#64)))), U (lo (((0#64) ++ (18446744073709551615#64)) + ((0#64) ++ (1#64))))]) 0 _ _ _ _ rfl rfl rfl rfl rfl ?_
      refine r_y rfl ?_
      refine r_c (Value.string (⟨(textI (16) (((0#64) ++ (18446744073709551615#64)) + ((0#64) ++ (1#64)))).toArray⟩)) rfl _ _ (ev_callF rfl call_4 rfl) (text_t (((0#64) ++ (18446744073709551615#64)) + ((0#64) ++ (1#64))) (16)) ?_
      refine r_y rfl ?_
      refine r_v (Value.bool ((textI (16) (((0#64) ++ (18446744073709551615#64)) + ((0#64) ++ (1#64)))) == (([49, 48, 48, 48, 48, 48, 48, 48, 48, 48, 48, 48, 48, 48, 48, 48, 48] : List UInt8)))) rfl rfl rfl (ev_eqS rfl rfl) ?_
      refine r_v (Value.bool ((textI (16) (((0#64) ++ (18446744073709551615#64)) + ((0#64) ++ (1#64)))) == (([49, 48, 48, 48, 48, 48, 48, 48, 48, 48, 48, 48, 48, 48, 48, 48, 48] : List UInt8)))) rfl rfl rfl rfl ?_
      refine r_v (Value.bool ((textI (16) (((0#64) ++ (18446744073709551615#64)) + ((0#64) ++ (1#64)))) == (([49, 48, 48, 48, 48, 48, 48, 48, 48, 48, 48, 48, 48, 48, 48, 48, 48] : List UInt8)))) rfl rfl rfl rfl ?_
      refine lx_nil ?_
      refine hK4 _ _ ?_; try clear hK4 K4
      obtain rfl := Option.some.inj hM
      refine A_ret (fun hn => ends_eq (v0 := Value.bool ((textI (16) (((0#64) ++ (18446744073709551615#64)) + ((0#64) ++ (1#64)))) == (([49, 48, 48, 48, 48, 48, 48, 48, 48, 48, 48, 48, 48, 48, 48, 48, 48] : List UInt8)))) rfl (res1 rfl))
def shunterlaw01_WordBack_l5 (N : Nat) (a : BitVec 128) (base : Int) : Nat → List UInt8 → Int → Option (Bool)
  | 0, _, _ => none
  | n23 + 1, big3_, i4_ => if (i4_ : Int) < ((big3_).length : Int) then ck (0 ≤ i4_ ∧ i4_ < ((big3_).length : Int)) (if (((((big3_)[(i4_).toNat]!).toNat : Nat) : Int) : Int) ≥ 97 then ck (0 ≤ i4_ ∧ i4_ < ((big3_).length : Int)) (ck (0 ≤ i4_ ∧ i4_ < ((big3_).length : Int)) (ck ((-9223372036854775808 ≤ (i4_ + 1) ∧ (i4_ + 1) ≤ 9223372036854775807)) ((shunterlaw01_WordBack_l5 N a base n23) ((big3_).set ((i4_).toNat) ((((big3_)[(i4_).toNat]!) - 32))) ((i4_ + 1))))) else ck ((-9223372036854775808 ≤ (i4_ + 1) ∧ (i4_ + 1) ≤ 9223372036854775807)) ((shunterlaw01_WordBack_l5 N a base n23) (big3_) ((i4_ + 1)))) else ck ((big3_).length ≤ 4611686018427387904) (ck (((textI (base) (~~~((0#64) ++ (0#64)))).length : Int) + ((([48] : List UInt8)).length : Int) ≤ 9223372036854775807) (ck (((textI (base) (~~~((0#64) ++ (0#64)))) ++ (([48] : List UInt8))).length ≤ 4611686018427387904) (if (textI (base) (a)) = ([]) then some (false) else if ((parseR (textI (base) (a)) (base)).1) = (a) then if ((parseR (textI (base) (a)) (base)).2 : Int) = 0 then if ((parseR ((([48, 48] : List UInt8)) ++ (textI (base) (a))) (base)).1) = (a) then if ((parseR ((([48, 48] : List UInt8)) ++ (textI (base) (a))) (base)).2 : Int) = 0 then if ((parseR (big3_) (base)).1) = (a) then if ((parseR (big3_) (base)).2 : Int) = 0 then if ((parseR ((textI (base) (~~~((0#64) ++ (0#64)))) ++ (([48] : List UInt8))) (base)).2 : Int) = 7 then if (((textI (base) (a)).length : Int) : Int) = 1 then (shunterlaw01_lives_m N ).bind fun r61 => some (r61) else ck ((0 : Int) ≤ 0 ∧ 0 < ((textI (base) (a)).length : Int)) (if ((byteAt (textI (base) (a)) (0)) : Int) ≠ 48 then (shunterlaw01_lives_m N ).bind fun r59 => some (r59) else some (false)) else some (false) else some (false) else some (false) else some (false) else some (false) else some (false) else some (false))))
def shunterlaw01_WordBack_k2 (N : Nat) (a : BitVec 128) (base : Int) (x1_ : Bool) : Option (Bool) := if (x1_) = true then if (textI (base) (a)) = ([]) then (shunterlaw01_lives_m N ).bind fun r8 => some (r8) else some (false) else ck ((textI (base) (a)).length ≤ 4611686018427387904) (ck (((([48, 48] : List UInt8)).length : Int) + ((textI (base) (a)).length : Int) ≤ 9223372036854775807) (ck (((([48, 48] : List UInt8)) ++ (textI (base) (a))).length ≤ 4611686018427387904) (shunterlaw01_WordBack_l5 N a base N (textI (base) (a)) (0))))
def shunterlaw01_WordBack_m (N : Nat) (a : BitVec 128) (base : Int) : Option (Bool) := if (base : Int) < 2 then shunterlaw01_WordBack_k2 N a base (true) else shunterlaw01_WordBack_k2 N a base (decide ((base : Int) > 16))
set_option maxRecDepth 100000 in
set_option maxHeartbeats 400000 in
theorem shunterlaw01_WordBack_g (N : Nat) (a : BitVec 128) (base : Int) (r : Bool) (hM : shunterlaw01_WordBack_m N a base = some r) : Gives Try.prog 3 #[Value.agg #[U (hi (a)), U (lo (a))], Value.int .i64 (base)] (Value.bool (r)) := by
  unfold shunterlaw01_WordBack_m at hM
  refine gives_of_A follows Try.func3 rfl 125 rfl (upd (upd (fun _ => undef) 1 (Value.int .i64 (base))) 0 (Value.agg #[U (hi (a)), U (lo (a))])) (by funext k; match k with | 0 => rfl | 1 => rfl | k + 2 => rfl) (fun base0_ => ?_)
  refine A_seq fun K1 hK1 => ?_
  refine A_reg ?_
  refine r_a (24, #[U (hi (a)), U (lo (a))]) rfl rfl rfl (fun b2 => ?_) (.inr rfl)
  refine r_v (Value.bool (false)) rfl rfl rfl rfl ?_
  refine lx_nil ?_
  refine hK1 _ _ ?_; try clear hK1 K1
  refine A_seq fun K3 hK3 => ?_
  refine A_reg ?_
  refine r_l (Value.agg #[U (hi (a)), U (lo (a))]) 0 _ _ _ _ rfl rfl rfl rfl rfl ?_
  refine r_v (Value.int .i64 (base)) rfl rfl rfl rfl ?_
  refine r_c (Value.string (⟨(textI (base) (a)).toArray⟩)) rfl _ _ (ev_callF rfl call_4 rfl) (text_t (a) (base)) ?_
  refine r_v (Value.string (⟨(textI (base) (a)).toArray⟩)) rfl rfl rfl rfl ?_
  refine lx_nil ?_
  refine hK3 _ _ ?_; try clear hK3 K3
  refine A_seq fun K4 hK4 => ?_
  refine A_cut (fun tt ll => ∃ (x1_ : Bool), (shunterlaw01_WordBack_k2 N a base x1_ = some r) ∧ Is [(1, Value.int .i64 (base)), (2, Value.pointer (some ⟨b2, 0, none⟩)), (5, Value.string (⟨(textI (base) (a)).toArray⟩)), (24, Value.bool (x1_))] [(b2, 24, #[U (hi (a)), U (lo (a))])] tt ll) ?_ ?_
  · refine A_reg ?_
    refine r_v (Value.int .i64 (base)) rfl rfl rfl rfl ?_
    refine r_v (Value.bool (decide ((base : Int) < 2))) rfl rfl rfl rfl ?_
    refine r_v (Value.bool (decide ((base : Int) < 2))) rfl rfl rfl rfl ?_
    rcases hg63 : (decide ((base : Int) < 2)) with _ | _
    · replace hM := ifn (of_decide_eq_false hg63) hM
      refine r_y rfl ?_
      refine r_v (Value.int .i64 (base)) rfl rfl rfl rfl ?_
      refine r_y rfl ?_
      refine r_v (Value.bool (decide ((base : Int) > 16))) rfl rfl rfl rfl ?_
      refine r_v (Value.bool (decide ((base : Int) > 16))) rfl rfl rfl rfl ?_
      refine lx_nil ?_
      refine fg _ (Sub.of (List.Sublist.cons_cons _ (List.Sublist.slnil))) ?_
      exact ⟨decide ((base : Int) > 16), hM, is_mk rfl rfl⟩
    · replace hM := ifp (of_decide_eq_true hg63) hM
      refine r_n true rfl (by decide) rfl ?_
      refine r_n true rfl (by decide) rfl ?_
      refine r_v (Value.bool (true)) rfl rfl rfl rfl ?_
      refine lx_nil ?_
      refine fg _ (Sub.of (List.Sublist.cons_cons _ (List.Sublist.slnil))) ?_
      exact ⟨true, hM, is_mk rfl rfl⟩
  · clear hM; rintro t l ⟨x1_, hM, ⟨T, rfl⟩, rfl⟩
    unfold shunterlaw01_WordBack_k2 at hM
    refine A_cond (x1_) rfl (fun hc5 => ?_) (fun hc5 => ?_)
    · replace hM := ifp hc5 hM
      refine A_seq fun K6 hK6 => ?_
      refine A_reg ?_
      refine r_v (Value.string (⟨(textI (base) (a)).toArray⟩)) rfl rfl rfl rfl ?_
      refine r_v (Value.bool ((textI (base) (a)) == ([]))) rfl rfl rfl (ev_eqS rfl rfl) ?_
      refine r_v (Value.bool ((textI (base) (a)) == ([]))) rfl rfl rfl rfl ?_
      rcases hg7 : ((textI (base) (a)) == ([])) with _ | _
      · replace hM := ifn (ne_of_beq_false hg7) hM
        refine r_n false rfl (by decide) rfl ?_
        refine r_v (Value.bool (false)) rfl rfl rfl rfl ?_
        refine r_v (Value.bool (false)) rfl rfl rfl rfl ?_
        refine lx_nil ?_
        refine hK6 _ _ ?_; try clear hK6 K6
        obtain rfl := Option.some.inj hM
        refine A_ret (fun hn => ends_eq (v0 := Value.bool (false)) rfl (res1 rfl))
      · replace hM := ifp (eq_of_beq hg7) hM
        refine r_y rfl ?_
        replace hM := bind_sm hM; obtain ⟨r8, hr9, hM⟩ := hM
        refine r_c (Value.bool (r8)) rfl _ _ (ev_callF rfl call_5 rfl) (shunterlaw01_lives_g N  _ hr9) ?_
        refine r_v (Value.bool (r8)) rfl rfl rfl rfl ?_
        refine r_v (Value.bool (r8)) rfl rfl rfl rfl ?_
        refine lx_nil ?_
        refine hK6 _ _ ?_; try clear hK6 K6
        obtain rfl := Option.some.inj hM
        refine A_ret (fun hn => ends_eq (v0 := Value.bool (r8)) rfl (res1 rfl))
    · replace hM := ifn (Bool.eq_false_iff.1 hc5) hM
      refine A_skip ?_
      refine hK4 _ _ ?_; try clear hK4 K4
      refine A_seq fun K10 hK10 => ?_
      refine A_reg ?_
      refine r_v (Value.string (⟨(textI (base) (a)).toArray⟩)) rfl rfl rfl rfl ?_
      refine r_v (Value.int .i64 (base)) rfl rfl rfl rfl ?_
      replace hM := ck_some hM; obtain ⟨ck11, hM⟩ := hM
      refine r_c (Value.tuple #[Value.agg #[U (hi ((parseR (textI (base) (a)) (base)).1)), U (lo ((parseR (textI (base) (a)) (base)).1))], Value.int .i64 ((parseR (textI (base) (a)) (base)).2)]) rfl _ _ (ev_callF rfl call_6 rfl) (parse_t (textI (base) (a)) (base) ck11) ?_
      refine r_v (Value.tuple #[Value.agg #[U (hi ((parseR (textI (base) (a)) (base)).1)), U (lo ((parseR (textI (base) (a)) (base)).1))], Value.int .i64 ((parseR (textI (base) (a)) (base)).2)]) rfl rfl rfl rfl ?_
      refine r_v (Value.agg #[U (hi ((parseR (textI (base) (a)) (base)).1)), U (lo ((parseR (textI (base) (a)) (base)).1))]) rfl rfl rfl rfl ?_
      refine r_v (Value.int .i64 ((parseR (textI (base) (a)) (base)).2)) rfl rfl rfl rfl ?_
      refine r_a (24, #[U (0#64), U (0#64)]) rfl rfl rfl (fun b12 => ?_) (.inr rfl)
      refine r_s [(b12, 24, #[U (hi ((parseR (textI (base) (a)) (base)).1)), U (lo ((parseR (textI (base) (a)) (base)).1))]), (b2, 24, #[U (hi (a)), U (lo (a))])] 0 _ _ _ (#[U (0#64), U (0#64)]) (#[U (hi ((parseR (textI (base) (a)) (base)).1)), U (lo ((parseR (textI (base) (a)) (base)).1))]) (#[U (hi ((parseR (textI (base) (a)) (base)).1)), U (lo ((parseR (textI (base) (a)) (base)).1))]) rfl rfl rfl rfl (.of rfl rfl) rfl rfl ?_
      refine r_v (Value.int .i64 ((parseR (textI (base) (a)) (base)).2)) rfl rfl rfl rfl ?_
      refine lx_nil ?_
      refine hK10 _ _ ?_; try clear hK10 K10
      refine A_seq fun K13 hK13 => ?_
      refine A_reg ?_
      refine r_v (Value.string (⟨(textI (base) (a)).toArray⟩)) rfl rfl rfl rfl ?_
      replace hM := ck_some hM; obtain ⟨ck14, hM⟩ := hM
      refine r_v (Value.string (⟨((([48, 48] : List UInt8)) ++ (textI (base) (a))).toArray⟩)) rfl rfl rfl (ev_addS ck14 rfl rfl) ?_
      refine r_v (Value.int .i64 (base)) rfl rfl rfl rfl ?_
      replace hM := ck_some hM; obtain ⟨ck15, hM⟩ := hM
      refine r_c (Value.tuple #[Value.agg #[U (hi ((parseR ((([48, 48] : List UInt8)) ++ (textI (base) (a))) (base)).1)), U (lo ((parseR ((([48, 48] : List UInt8)) ++ (textI (base) (a))) (base)).1))], Value.int .i64 ((parseR ((([48, 48] : List UInt8)) ++ (textI (base) (a))) (base)).2)]) rfl _ _ (ev_callF rfl call_6 rfl) (parse_t ((([48, 48] : List UInt8)) ++ (textI (base) (a))) (base) ck15) ?_
      refine r_v (Value.tuple #[Value.agg #[U (hi ((parseR ((([48, 48] : List UInt8)) ++ (textI (base) (a))) (base)).1)), U (lo ((parseR ((([48, 48] : List UInt8)) ++ (textI (base) (a))) (base)).1))], Value.int .i64 ((parseR ((([48, 48] : List UInt8)) ++ (textI (base) (a))) (base)).2)]) rfl rfl rfl rfl ?_
      refine r_v (Value.agg #[U (hi ((parseR ((([48, 48] : List UInt8)) ++ (textI (base) (a))) (base)).1)), U (lo ((parseR ((([48, 48] : List UInt8)) ++ (textI (base) (a))) (base)).1))]) rfl rfl rfl rfl ?_
      refine r_v (Value.int .i64 ((parseR ((([48, 48] : List UInt8)) ++ (textI (base) (a))) (base)).2)) rfl rfl rfl rfl ?_
      refine r_a (24, #[U (0#64), U (0#64)]) rfl rfl rfl (fun b16 => ?_) (.inr rfl)
      refine r_s [(b16, 24, #[U (hi ((parseR ((([48, 48] : List UInt8)) ++ (textI (base) (a))) (base)).1)), U (lo ((parseR ((([48, 48] : List UInt8)) ++ (textI (base) (a))) (base)).1))]), (b12, 24, #[U (hi ((parseR (textI (base) (a)) (base)).1)), U (lo ((parseR (textI (base) (a)) (base)).1))]), (b2, 24, #[U (hi (a)), U (lo (a))])] 0 _ _ _ (#[U (0#64), U (0#64)]) (#[U (hi ((parseR ((([48, 48] : List UInt8)) ++ (textI (base) (a))) (base)).1)), U (lo ((parseR ((([48, 48] : List UInt8)) ++ (textI (base) (a))) (base)).1))]) (#[U (hi ((parseR ((([48, 48] : List UInt8)) ++ (textI (base) (a))) (base)).1)), U (lo ((parseR ((([48, 48] : List UInt8)) ++ (textI (base) (a))) (base)).1))]) rfl rfl rfl rfl (.of rfl rfl) rfl rfl ?_
      refine r_v (Value.int .i64 ((parseR ((([48, 48] : List UInt8)) ++ (textI (base) (a))) (base)).2)) rfl rfl rfl rfl ?_
      refine lx_nil ?_
      refine hK13 _ _ ?_; try clear hK13 K13
      refine A_seq fun K17 hK17 => ?_
      refine A_regC [(some 44, false)] (conG Try.prog [(44, fun v_ L_ U_ => (p1 (fun v => v) 5 encY (textI (base) (a))) v_ L_ U_)]) ?_
      refine r_v (Value.string (⟨(textI (base) (a)).toArray⟩)) rfl rfl rfl rfl ?_
      refine r_sb (Ls := [[(b16, 24, #[U (hi ((parseR ((([48, 48] : List UInt8)) ++ (textI (base) (a))) (base)).1)), U (lo ((parseR ((([48, 48] : List UInt8)) ++ (textI (base) (a))) (base)).1))])], [(b12, 24, #[U (hi ((parseR (textI (base) (a)) (base)).1)), U (lo ((parseR (textI (base) (a)) (base)).1))])], [(b2, 24, #[U (hi (a)), U (lo (a))])]]) 5 (textI (base) (a)) rfl rfl rfl rfl rfl rfl rfl (fun _ _ _ _ _ => Iff.rfl) (fun s18 S19 H20 => ?_)
      refine r_v (s18) rfl rfl rfl rfl ?_
      refine lx_nil ?_
      refine hK17 _ _ ?_; try clear hK17 K17
      refine A_seq fun K21 hK21 => ?_
      refine A_seq fun K22 hK22 => ?_
      refine A_reg ?_
      refine r_v (Value.int .i64 (0)) rfl rfl rfl rfl ?_
      refine lx_nil ?_
      refine hK22 _ _ ?_; try clear hK22 K22
      refine A_block ?_
      refine A_forget _ (Sub.pick [[(b16, 24, #[U (hi ((parseR ((([48, 48] : List UInt8)) ++ (textI (base) (a))) (base)).1)), U (lo ((parseR ((([48, 48] : List UInt8)) ++ (textI (base) (a))) (base)).1))])], [(b12, 24, #[U (hi ((parseR (textI (base) (a)) (base)).1)), U (lo ((parseR (textI (base) (a)) (base)).1))])], [(b2, 24, #[U (hi (a)), U (lo (a))])], S19] [0, 1, 2, 3] rfl) ?_
      refine A_loop (fun tt ll nn => ∃ (n23 : Nat) (big3_ : List UInt8) (i4_ : Int), (shunterlaw01_WordBack_l5 N a base n23 big3_ i4_ = some r) ∧ ∃ (vbig3_ : Value) (Sbig3_ : List Bl), Sl 5 encY vbig3_ big3_ Sbig3_ ∧ Is [(1, Value.int .i64 (base)), (2, Value.pointer (some ⟨b2, 0, none⟩)), (5, Value.string (⟨(textI (base) (a)).toArray⟩)), (6, Value.pointer (some ⟨b12, 0, none⟩)), (7, Value.int .i64 ((parseR (textI (base) (a)) (base)).2)), (8, Value.pointer (some ⟨b16, 0, none⟩)), (9, Value.int .i64 ((parseR ((([48, 48] : List UInt8)) ++ (textI (base) (a))) (base)).2)), (10, vbig3_), (11, Value.int .i64 (i4_))] (List.flatten [[(b16, 24, #[U (hi ((parseR ((([48, 48] : List UInt8)) ++ (textI (base) (a))) (base)).1)), U (lo ((parseR ((([48, 48] : List UInt8)) ++ (textI (base) (a))) (base)).1))])], [(b12, 24, #[U (hi ((parseR (textI (base) (a)) (base)).1)), U (lo ((parseR (textI (base) (a)) (base)).1))])], [(b2, 24, #[U (hi (a)), U (lo (a))])], Sbig3_]) tt ll ∧ nn = n23 + 1) (N + 1) ?_ ?_
      · exact ⟨N, textI (base) (a), 0, hM, s18, S19, H20, is_mk rfl rfl, rfl⟩
      · clear hM; rintro t l _ ⟨n23, big3_, i4_, hM, vbig3_, Sbig3_, hbig3_, ⟨⟨T, rfl⟩, rfl⟩, rfl⟩
        rcases n23 with _ | n23
        · exact absurd hM (by simp [shunterlaw01_WordBack_l5])
        rw [shunterlaw01_WordBack_l5] at hM
        refine A_seq fun K24 hK24 => ?_
        refine A_seq fun K25 hK25 => ?_
        refine A_reg ?_
        refine r_v (Value.int .i64 (i4_)) rfl rfl rfl rfl ?_
        refine r_v (vbig3_) rfl rfl rfl rfl ?_
        refine r_v (Value.int .i64 (((big3_).length : Int))) rfl rfl rfl (ev_lenSl rfl rfl rfl (Sl.shp hbig3_)) ?_
        refine r_v (Value.bool (decide ((i4_ : Int) < ((big3_).length : Int)))) rfl rfl rfl rfl ?_
        refine lx_nil ?_
        refine hK25 _ _ ?_; try clear hK25 K25
        refine A_cond (decide ((i4_ : Int) < ((big3_).length : Int))) rfl (fun hc26 => ?_) (fun hc26 => ?_)
        · replace hM := ifp (of_decide_eq_true hc26) hM
          refine A_skip ?_
          refine hK24 _ _ ?_; try clear hK24 K24
          refine A_seq fun K27 hK27 => ?_
          refine A_block ?_
          refine A_seq fun K28 hK28 => ?_
          refine A_reg ?_
          refine r_v (vbig3_) rfl rfl rfl rfl ?_
          refine r_v (Value.int .i64 (i4_)) rfl rfl rfl rfl ?_
          replace hM := ck_some hM; obtain ⟨ck29, hM⟩ := hM
          refine r_v (elA vbig3_ ((i4_).toNat * 1)) rfl rfl rfl (ev_v (ev_idxSl rfl rfl rfl (Sl.shp hbig3_) ck29)) ?_
          refine r_le (Value.int .u8 (((((big3_)[(i4_).toNat]!).toNat : Nat) : Int))) (En := encY) ((big3_)[(i4_).toNat]!) ((i4_).toNat) 0 rfl rfl (rd_own hbig3_ (mem_chunk (Ls := [[(b16, 24, #[U (hi ((parseR ((([48, 48] : List UInt8)) ++ (textI (base) (a))) (base)).1)), U (lo ((parseR ((([48, 48] : List UInt8)) ++ (textI (base) (a))) (base)).1))])], [(b12, 24, #[U (hi ((parseR (textI (base) (a)) (base)).1)), U (lo ((parseR (textI (base) (a)) (base)).1))])], [(b2, 24, #[U (hi (a)), U (lo (a))])], Sbig3_]) (k := 3) rfl rfl)) (get_of ck29) rfl ?_
          refine r_v (Value.bool (decide ((((((big3_)[(i4_).toNat]!).toNat : Nat) : Int) : Int) ≥ 97))) rfl rfl rfl rfl ?_
          refine lx_nil ?_
          refine hK28 _ _ ?_; try clear hK28 K28
          refine A_cond (decide ((((((big3_)[(i4_).toNat]!).toNat : Nat) : Int) : Int) ≥ 97)) rfl (fun hc30 => ?_) (fun hc30 => ?_)
          · replace hM := ifp (of_decide_eq_true hc30) hM
            refine A_reg ?_
            refine r_v (vbig3_) rfl rfl rfl rfl ?_
            refine r_v (Value.int .i64 (i4_)) rfl rfl rfl rfl ?_
            refine r_v (vbig3_) rfl rfl rfl rfl ?_
            refine r_v (Value.int .i64 (i4_)) rfl rfl rfl rfl ?_
            replace hM := ck_some hM; obtain ⟨ck31, hM⟩ := hM
            refine r_v (elA vbig3_ ((i4_).toNat * 1)) rfl rfl rfl (ev_v (ev_idxSl rfl rfl rfl (Sl.shp hbig3_) ck31)) ?_
            refine r_le (Value.int .u8 (((((big3_)[(i4_).toNat]!).toNat : Nat) : Int))) (En := encY) ((big3_)[(i4_).toNat]!) ((i4_).toNat) 0 rfl rfl (rd_own hbig3_ (mem_chunk (Ls := [[(b16, 24, #[U (hi ((parseR ((([48, 48] : List UInt8)) ++ (textI (base) (a))) (base)).1)), U (lo ((parseR ((([48, 48] : List UInt8)) ++ (textI (base) (a))) (base)).1))])], [(b12, 24, #[U (hi ((parseR (textI (base) (a)) (base)).1)), U (lo ((parseR (textI (base) (a)) (base)).1))])], [(b2, 24, #[U (hi (a)), U (lo (a))])], Sbig3_]) (k := 3) rfl rfl)) (get_of ck31) rfl ?_
            refine r_v (Value.int .u8 ((((((big3_)[(i4_).toNat]!) - 32).toNat : Nat) : Int))) rfl rfl (u8_sub (((big3_)[(i4_).toNat]!)) 32) rfl ?_
            replace hM := ck_some hM; obtain ⟨ck32, hM⟩ := hM
            refine r_v (elA vbig3_ ((i4_).toNat * 1)) rfl rfl rfl (ev_v (ev_idxSl rfl rfl rfl (Sl.shp hbig3_) ck32)) ?_
            refine r_se (Ls := [[(b16, 24, #[U (hi ((parseR ((([48, 48] : List UInt8)) ++ (textI (base) (a))) (base)).1)), U (lo ((parseR ((([48, 48] : List UInt8)) ++ (textI (base) (a))) (base)).1))])], [(b12, 24, #[U (hi ((parseR (textI (base) (a)) (base)).1)), U (lo ((parseR (textI (base) (a)) (base)).1))])], [(b2, 24, #[U (hi (a)), U (lo (a))])], Sbig3_]) 3 (En := encY) ((big3_)[(i4_).toNat]!) ((((big3_)[(i4_).toNat]!) - 32)) ((i4_).toNat) 0 rfl rfl rfl hbig3_ (get_of ck32) rfl rfl rfl (one_all rfl) rfl (fun S33 H34 => ?_)
            refine lx_nil ?_
            refine hK27 _ _ ?_; try clear hK27 K27
            refine A_reg ?_
            refine r_v (Value.int .i64 (i4_)) rfl rfl rfl rfl ?_
            replace hM := ck_some hM; obtain ⟨ck35, hM⟩ := hM
            refine r_v (Value.int .i64 ((i4_ + 1))) rfl rfl (wi64 rfl ck35.1 ck35.2) rfl ?_
            refine r_v (Value.int .i64 ((i4_ + 1))) rfl rfl rfl rfl ?_
            refine lx_nil ?_
            refine fg _ (Sub.pick [[(b16, 24, #[U (hi ((parseR ((([48, 48] : List UInt8)) ++ (textI (base) (a))) (base)).1)), U (lo ((parseR ((([48, 48] : List UInt8)) ++ (textI (base) (a))) (base)).1))])], [(b12, 24, #[U (hi ((parseR (textI (base) (a)) (base)).1)), U (lo ((parseR (textI (base) (a)) (base)).1))])], [(b2, 24, #[U (hi (a)), U (lo (a))])], S33] [0, 1, 2, 3] rfl) ?_
            exact ⟨n23 + 1, by omega, n23, (big3_).set ((i4_).toNat) ((((big3_)[(i4_).toNat]!) - 32)), (i4_ + 1), hM, vbig3_, S33, H34, is_mk rfl rfl, rfl⟩
          · replace hM := ifn (of_decide_eq_false hc30) hM
            refine A_skip ?_
            refine hK27 _ _ ?_; try clear hK27 K27
            refine A_reg ?_
            refine r_v (Value.int .i64 (i4_)) rfl rfl rfl rfl ?_
            replace hM := ck_some hM; obtain ⟨ck36, hM⟩ := hM
            refine r_v (Value.int .i64 ((i4_ + 1))) rfl rfl (wi64 rfl ck36.1 ck36.2) rfl ?_
            refine r_v (Value.int .i64 ((i4_ + 1))) rfl rfl rfl rfl ?_
            refine lx_nil ?_
            refine fg _ (Sub.pick [[(b16, 24, #[U (hi ((parseR ((([48, 48] : List UInt8)) ++ (textI (base) (a))) (base)).1)), U (lo ((parseR ((([48, 48] : List UInt8)) ++ (textI (base) (a))) (base)).1))])], [(b12, 24, #[U (hi ((parseR (textI (base) (a)) (base)).1)), U (lo ((parseR (textI (base) (a)) (base)).1))])], [(b2, 24, #[U (hi (a)), U (lo (a))])], Sbig3_] [0, 1, 2, 3] rfl) ?_
            exact ⟨n23 + 1, by omega, n23, big3_, (i4_ + 1), hM, vbig3_, Sbig3_, hbig3_, is_mk rfl rfl, rfl⟩
        · replace hM := ifn (of_decide_eq_false hc26) hM
          refine A_exit ?_
          refine hK21 _ _ ?_; try clear hK21 K21
          refine A_seq fun K37 hK37 => ?_
          refine A_regC [(some 66, false)] (conG Try.prog [(66, fun v_ L_ U_ => (pV (Value.string (⟨(big3_).toArray⟩))) v_ L_ U_)]) ?_
          refine r_v (vbig3_) rfl rfl rfl rfl ?_
          refine r_str (e := 5) (big3_) rfl rfl rfl rfl rfl rfl (rd_own hbig3_ (mem_chunk (Ls := [[(b16, 24, #[U (hi ((parseR ((([48, 48] : List UInt8)) ++ (textI (base) (a))) (base)).1)), U (lo ((parseR ((([48, 48] : List UInt8)) ++ (textI (base) (a))) (base)).1))])], [(b12, 24, #[U (hi ((parseR (textI (base) (a)) (base)).1)), U (lo ((parseR (textI (base) (a)) (base)).1))])], [(b2, 24, #[U (hi (a)), U (lo (a))])], Sbig3_]) (k := 3) rfl rfl)) (fun _ _ _ _ _ => Iff.rfl) ?_
          refine r_v (Value.int .i64 (base)) rfl rfl rfl rfl ?_
          replace hM := ck_some hM; obtain ⟨ck38, hM⟩ := hM
          refine r_c (Value.tuple #[Value.agg #[U (hi ((parseR (big3_) (base)).1)), U (lo ((parseR (big3_) (base)).1))], Value.int .i64 ((parseR (big3_) (base)).2)]) rfl _ _ (ev_callF rfl call_6 rfl) (parse_t (big3_) (base) ck38) ?_
          refine r_v (Value.tuple #[Value.agg #[U (hi ((parseR (big3_) (base)).1)), U (lo ((parseR (big3_) (base)).1))], Value.int .i64 ((parseR (big3_) (base)).2)]) rfl rfl rfl rfl ?_
          refine r_v (Value.agg #[U (hi ((parseR (big3_) (base)).1)), U (lo ((parseR (big3_) (base)).1))]) rfl rfl rfl rfl ?_
          refine r_v (Value.int .i64 ((parseR (big3_) (base)).2)) rfl rfl rfl rfl ?_
          refine r_a (24, #[U (0#64), U (0#64)]) rfl rfl rfl (fun b39 => ?_) (.inr rfl)
          refine r_s (List.flatten [[(b39, 24, #[U (hi ((parseR (big3_) (base)).1)), U (lo ((parseR (big3_) (base)).1))])], [(b16, 24, #[U (hi ((parseR ((([48, 48] : List UInt8)) ++ (textI (base) (a))) (base)).1)), U (lo ((parseR ((([48, 48] : List UInt8)) ++ (textI (base) (a))) (base)).1))])], [(b12, 24, #[U (hi ((parseR (textI (base) (a)) (base)).1)), U (lo ((parseR (textI (base) (a)) (base)).1))])], [(b2, 24, #[U (hi (a)), U (lo (a))])], Sbig3_]) 0 _ _ _ (#[U (0#64), U (0#64)]) (#[U (hi ((parseR (big3_) (base)).1)), U (lo ((parseR (big3_) (base)).1))]) (#[U (hi ((parseR (big3_) (base)).1)), U (lo ((parseR (big3_) (base)).1))]) rfl rfl rfl rfl (.of rfl rfl) rfl rfl ?_
          refine r_v (Value.int .i64 ((parseR (big3_) (base)).2)) rfl rfl rfl rfl ?_
          refine lx_nil ?_
          refine hK37 _ _ ?_; try clear hK37 K37
          refine A_seq fun K40 hK40 => ?_
          refine A_reg ?_
          refine r_v (Value.agg #[U (0#64), U (0#64)]) rfl rfl rfl (ev_buildS rfl rfl rfl rfl) ?_
          refine r_c (Value.agg #[U (hi (~~~((0#64) ++ (0#64)))), U (lo (~~~((0#64) ++ (0#64))))]) rfl _ _ (ev_callF rfl call_7 rfl) (by have h_ := (not_g ((0#64) ++ (0#64))); simp only [app_hl] at h_; exact h_) ?_
          refine r_v (Value.int .i64 (base)) rfl rfl rfl rfl ?_
          refine r_c (Value.string (⟨(textI (base) (~~~((0#64) ++ (0#64)))).toArray⟩)) rfl _ _ (ev_callF rfl call_4 rfl) (text_t (~~~((0#64) ++ (0#64))) (base)) ?_
          replace hM := ck_some hM; obtain ⟨ck41, hM⟩ := hM
          refine r_v (Value.string (⟨((textI (base) (~~~((0#64) ++ (0#64)))) ++ (([48] : List UInt8))).toArray⟩)) rfl rfl rfl (ev_addS ck41 rfl rfl) ?_
          refine r_v (Value.int .i64 (base)) rfl rfl rfl rfl ?_
          replace hM := ck_some hM; obtain ⟨ck42, hM⟩ := hM
          refine r_c (Value.tuple #[Value.agg #[U (hi ((parseR ((textI (base) (~~~((0#64) ++ (0#64)))) ++ (([48] : List UInt8))) (base)).1)), U (lo ((parseR ((textI (base) (~~~((0#64) ++ (0#64)))) ++ (([48] : List UInt8))) (base)).1))], Value.int .i64 ((parseR ((textI (base) (~~~((0#64) ++ (0#64)))) ++ (([48] : List UInt8))) (base)).2)]) rfl _ _ (ev_callF rfl call_6 rfl) (parse_t ((textI (base) (~~~((0#64) ++ (0#64)))) ++ (([48] : List UInt8))) (base) ck42) ?_
          refine r_v (Value.tuple #[Value.agg #[U (hi ((parseR ((textI (base) (~~~((0#64) ++ (0#64)))) ++ (([48] : List UInt8))) (base)).1)), U (lo ((parseR ((textI (base) (~~~((0#64) ++ (0#64)))) ++ (([48] : List UInt8))) (base)).1))], Value.int .i64 ((parseR ((textI (base) (~~~((0#64) ++ (0#64)))) ++ (([48] : List UInt8))) (base)).2)]) rfl rfl rfl rfl ?_
          refine r_v (Value.agg #[U (hi ((parseR ((textI (base) (~~~((0#64) ++ (0#64)))) ++ (([48] : List UInt8))) (base)).1)), U (lo ((parseR ((textI (base) (~~~((0#64) ++ (0#64)))) ++ (([48] : List UInt8))) (base)).1))]) rfl rfl rfl rfl ?_
          refine r_v (Value.int .i64 ((parseR ((textI (base) (~~~((0#64) ++ (0#64)))) ++ (([48] : List UInt8))) (base)).2)) rfl rfl rfl rfl ?_
          refine r_a (24, #[U (0#64), U (0#64)]) rfl rfl rfl (fun b43 => ?_) (.inr rfl)
          refine r_s (List.flatten [[(b43, 24, #[U (hi ((parseR ((textI (base) (~~~((0#64) ++ (0#64)))) ++ (([48] : List UInt8))) (base)).1)), U (lo ((parseR ((textI (base) (~~~((0#64) ++ (0#64)))) ++ (([48] : List UInt8))) (base)).1))])], [(b39, 24, #[U (hi ((parseR (big3_) (base)).1)), U (lo ((parseR (big3_) (base)).1))])], [(b16, 24, #[U (hi ((parseR ((([48, 48] : List UInt8)) ++ (textI (base) (a))) (base)).1)), U (lo ((parseR ((([48, 48] : List UInt8)) ++ (textI (base) (a))) (base)).1))])], [(b12, 24, #[U (hi ((parseR (textI (base) (a)) (base)).1)), U (lo ((parseR (textI (base) (a)) (base)).1))])], [(b2, 24, #[U (hi (a)), U (lo (a))])], Sbig3_]) 0 _ _ _ (#[U (0#64), U (0#64)]) (#[U (hi ((parseR ((textI (base) (~~~((0#64) ++ (0#64)))) ++ (([48] : List UInt8))) (base)).1)), U (lo ((parseR ((textI (base) (~~~((0#64) ++ (0#64)))) ++ (([48] : List UInt8))) (base)).1))]) (#[U (hi ((parseR ((textI (base) (~~~((0#64) ++ (0#64)))) ++ (([48] : List UInt8))) (base)).1)), U (lo ((parseR ((textI (base) (~~~((0#64) ++ (0#64)))) ++ (([48] : List UInt8))) (base)).1))]) rfl rfl rfl rfl (.of rfl rfl) rfl rfl ?_
          refine r_v (Value.int .i64 ((parseR ((textI (base) (~~~((0#64) ++ (0#64)))) ++ (([48] : List UInt8))) (base)).2)) rfl rfl rfl rfl ?_
          refine lx_nil ?_
          refine hK40 _ _ ?_; try clear hK40 K40
          refine A_seq fun K44 hK44 => ?_
          refine A_seq fun K45 hK45 => ?_
          refine A_reg ?_
          refine r_v (Value.string (⟨(textI (base) (a)).toArray⟩)) rfl rfl rfl rfl ?_
          refine r_v (Value.bool ((textI (base) (a)) == ([]))) rfl rfl rfl (ev_eqS rfl rfl) ?_
          refine lx_nil ?_
          refine hK45 _ _ ?_; try clear hK45 K45
          refine A_gen [(2, Value.pointer (some ⟨b2, 0, none⟩)), (5, Value.string (⟨(textI (base) (a)).toArray⟩)), (6, Value.pointer (some ⟨b12, 0, none⟩)), (7, Value.int .i64 ((parseR (textI (base) (a)) (base)).2)), (8, Value.pointer (some ⟨b16, 0, none⟩)), (9, Value.int .i64 ((parseR ((([48, 48] : List UInt8)) ++ (textI (base) (a))) (base)).2)), (12, Value.pointer (some ⟨b39, 0, none⟩)), (13, Value.int .i64 ((parseR (big3_) (base)).2)), (15, Value.int .i64 ((parseR ((textI (base) (~~~((0#64) ++ (0#64)))) ++ (([48] : List UInt8))) (base)).2)), (82, Value.bool ((textI (base) (a)) == ([])))] rfl (fun T => ?_)
          refine A_cond ((textI (base) (a)) == ([])) rfl (fun hc46 => ?_) (fun hc46 => ?_)
          · replace hM := ifp (eq_of_beq hc46) hM
            refine A_seq fun K47 hK47 => ?_
            refine A_reg ?_
            refine r_v (Value.bool (false)) rfl rfl rfl rfl ?_
            refine lx_nil ?_
            refine hK47 _ _ ?_; try clear hK47 K47
            obtain rfl := Option.some.inj hM
            refine A_ret (fun hn => ends_eq (v0 := Value.bool (false)) rfl (res1 rfl))
          · replace hM := ifn (ne_of_beq_false hc46) hM
            refine A_skip ?_
            refine hK44 _ _ ?_; try clear hK44 K44
            refine A_seq fun K48 hK48 => ?_
            refine A_reg ?_
            refine r_l (Value.agg #[U (hi ((parseR (textI (base) (a)) (base)).1)), U (lo ((parseR (textI (base) (a)) (base)).1))]) 3 _ _ _ _ rfl rfl rfl rfl rfl ?_
            refine r_l (Value.agg #[U (hi (a)), U (lo (a))]) 4 _ _ _ _ rfl rfl rfl rfl rfl ?_
            refine r_v (Value.bool (((parseR (textI (base) (a)) (base)).1) == (a))) rfl rfl rfl (ev_binEq rfl rfl eg_24 (eqword_24 ((parseR (textI (base) (a)) (base)).1) (a))) ?_
            refine r_v (Value.bool (((parseR (textI (base) (a)) (base)).1) == (a))) rfl rfl rfl rfl ?_
            rcases hg49 : (((parseR (textI (base) (a)) (base)).1) == (a)) with _ | _
            · replace hM := ifn (ne_of_beq_false hg49) hM
              refine r_n false rfl (by decide) rfl ?_
              refine r_n false rfl (by decide) rfl ?_
              refine r_v (Value.bool (false)) rfl rfl rfl rfl ?_
              refine r_v (Value.bool (false)) rfl rfl rfl rfl ?_
              refine r_n false rfl (by decide) rfl ?_
              refine r_n false rfl (by decide) rfl ?_
              refine r_n false rfl (by decide) rfl ?_
              refine r_v (Value.bool (false)) rfl rfl rfl rfl ?_
              refine r_v (Value.bool (false)) rfl rfl rfl rfl ?_
              refine r_n false rfl (by decide) rfl ?_
              refine r_n false rfl (by decide) rfl ?_
              refine r_v (Value.bool (false)) rfl rfl rfl rfl ?_
              refine r_v (Value.bool (false)) rfl rfl rfl rfl ?_
              refine r_n false rfl (by decide) rfl ?_
              refine r_n false rfl (by decide) rfl ?_
              refine r_n false rfl (by decide) rfl ?_
              refine r_v (Value.bool (false)) rfl rfl rfl rfl ?_
              refine r_v (Value.bool (false)) rfl rfl rfl rfl ?_
              refine r_n false rfl (by decide) rfl ?_
              refine r_n false rfl (by decide) rfl ?_
              refine r_v (Value.bool (false)) rfl rfl rfl rfl ?_
              refine r_v (Value.bool (false)) rfl rfl rfl rfl ?_
              refine r_n false rfl (by decide) rfl ?_
              refine r_n false rfl (by decide) rfl ?_
              refine r_v (Value.bool (false)) rfl rfl rfl rfl ?_
              refine r_v (Value.bool (false)) rfl rfl rfl rfl ?_
              refine r_n false rfl (by decide) rfl ?_
              refine r_n false rfl (by decide) rfl ?_
              refine r_n false rfl (by decide) rfl ?_
              refine r_n false rfl (by decide) rfl ?_
              refine r_nu rfl rfl ?_
              refine r_nu rfl rfl ?_
              refine r_nu rfl rfl ?_
              refine r_n false rfl (by decide) rfl ?_
              refine r_v (Value.bool (false)) rfl rfl rfl rfl ?_
              refine r_v (Value.bool (false)) rfl rfl rfl rfl ?_
              refine r_n false rfl (by decide) rfl ?_
              refine r_v (Value.bool (false)) rfl rfl rfl rfl ?_
              refine r_v (Value.bool (false)) rfl rfl rfl rfl ?_
              refine lx_nil ?_
              refine hK48 _ _ ?_; try clear hK48 K48
              refine A_gen [(4, Value.bool (false))] rfl (fun T => ?_)
              obtain rfl := Option.some.inj hM
              refine A_ret (fun hn => ends_eq (v0 := Value.bool (false)) rfl (res1 rfl))
            · replace hM := ifp (eq_of_beq hg49) hM
              refine r_y rfl ?_
              refine r_v (Value.int .i64 ((parseR (textI (base) (a)) (base)).2)) rfl rfl rfl rfl ?_
              refine r_y rfl ?_
              refine r_v (Value.bool ((((parseR (textI (base) (a)) (base)).2 : Int) == 0))) rfl rfl rfl rfl ?_
              refine r_v (Value.bool ((((parseR (textI (base) (a)) (base)).2 : Int) == 0))) rfl rfl rfl rfl ?_
              refine r_v (Value.bool ((((parseR (textI (base) (a)) (base)).2 : Int) == 0))) rfl rfl rfl rfl ?_
              rcases hg50 : ((((parseR (textI (base) (a)) (base)).2 : Int) == 0)) with _ | _
              · replace hM := ifn (ne_of_beq_false hg50) hM
                refine r_n false rfl (by decide) rfl ?_
                refine r_n false rfl (by decide) rfl ?_
                refine r_n false rfl (by decide) rfl ?_
                refine r_v (Value.bool (false)) rfl rfl rfl rfl ?_
                refine r_v (Value.bool (false)) rfl rfl rfl rfl ?_
                refine r_n false rfl (by decide) rfl ?_
                refine r_n false rfl (by decide) rfl ?_
                refine r_v (Value.bool (false)) rfl rfl rfl rfl ?_
                refine r_v (Value.bool (false)) rfl rfl rfl rfl ?_
                refine r_n false rfl (by decide) rfl ?_
                refine r_n false rfl (by decide) rfl ?_
                refine r_n false rfl (by decide) rfl ?_
                refine r_v (Value.bool (false)) rfl rfl rfl rfl ?_
                refine r_v (Value.bool (false)) rfl rfl rfl rfl ?_
                refine r_n false rfl (by decide) rfl ?_
                refine r_n false rfl (by decide) rfl ?_
                refine r_v (Value.bool (false)) rfl rfl rfl rfl ?_
                refine r_v (Value.bool (false)) rfl rfl rfl rfl ?_
                refine r_n false rfl (by decide) rfl ?_
                refine r_n false rfl (by decide) rfl ?_
                refine r_v (Value.bool (false)) rfl rfl rfl rfl ?_
                refine r_v (Value.bool (false)) rfl rfl rfl rfl ?_
                refine r_n false rfl (by decide) rfl ?_
                refine r_n false rfl (by decide) rfl ?_
                refine r_n false rfl (by decide) rfl ?_
                refine r_n false rfl (by decide) rfl ?_
                refine r_nu rfl rfl ?_
                refine r_nu rfl rfl ?_
                refine r_nu rfl rfl ?_
                refine r_n false rfl (by decide) rfl ?_
                refine r_v (Value.bool (false)) rfl rfl rfl rfl ?_
                refine r_v (Value.bool (false)) rfl rfl rfl rfl ?_
                refine r_n false rfl (by decide) rfl ?_
                refine r_v (Value.bool (false)) rfl rfl rfl rfl ?_
                refine r_v (Value.bool (false)) rfl rfl rfl rfl ?_
                refine lx_nil ?_
                refine hK48 _ _ ?_; try clear hK48 K48
                refine A_gen [(4, Value.bool (false))] rfl (fun T => ?_)
                obtain rfl := Option.some.inj hM
                refine A_ret (fun hn => ends_eq (v0 := Value.bool (false)) rfl (res1 rfl))
              · replace hM := ifp (eq_of_beq hg50) hM
                refine r_y rfl ?_
                refine r_l (Value.agg #[U (hi ((parseR ((([48, 48] : List UInt8)) ++ (textI (base) (a))) (base)).1)), U (lo ((parseR ((([48, 48] : List UInt8)) ++ (textI (base) (a))) (base)).1))]) 2 _ _ _ _ rfl rfl rfl rfl rfl ?_
                refine r_y rfl ?_
                refine r_l (Value.agg #[U (hi (a)), U (lo (a))]) 4 _ _ _ _ rfl rfl rfl rfl rfl ?_
                refine r_y rfl ?_
                refine r_v (Value.bool (((parseR ((([48, 48] : List UInt8)) ++ (textI (base) (a))) (base)).1) == (a))) rfl rfl rfl (ev_binEq rfl rfl eg_24 (eqword_24 ((parseR ((([48, 48] : List UInt8)) ++ (textI (base) (a))) (base)).1) (a))) ?_
                refine r_v (Value.bool (((parseR ((([48, 48] : List UInt8)) ++ (textI (base) (a))) (base)).1) == (a))) rfl rfl rfl rfl ?_
                refine r_v (Value.bool (((parseR ((([48, 48] : List UInt8)) ++ (textI (base) (a))) (base)).1) == (a))) rfl rfl rfl rfl ?_
                rcases hg51 : (((parseR ((([48, 48] : List UInt8)) ++ (textI (base) (a))) (base)).1) == (a)) with _ | _
                · replace hM := ifn (ne_of_beq_false hg51) hM
                  refine r_n false rfl (by decide) rfl ?_
                  refine r_n false rfl (by decide) rfl ?_
                  refine r_v (Value.bool (false)) rfl rfl rfl rfl ?_
                  refine r_v (Value.bool (false)) rfl rfl rfl rfl ?_
                  refine r_n false rfl (by decide) rfl ?_
                  refine r_n false rfl (by decide) rfl ?_
                  refine r_n false rfl (by decide) rfl ?_
                  refine r_v (Value.bool (false)) rfl rfl rfl rfl ?_
                  refine r_v (Value.bool (false)) rfl rfl rfl rfl ?_
                  refine r_n false rfl (by decide) rfl ?_
                  refine r_n false rfl (by decide) rfl ?_
                  refine r_v (Value.bool (false)) rfl rfl rfl rfl ?_
                  refine r_v (Value.bool (false)) rfl rfl rfl rfl ?_
                  refine r_n false rfl (by decide) rfl ?_
                  refine r_n false rfl (by decide) rfl ?_
                  refine r_v (Value.bool (false)) rfl rfl rfl rfl ?_
                  refine r_v (Value.bool (false)) rfl rfl rfl rfl ?_
                  refine r_n false rfl (by decide) rfl ?_
                  refine r_n false rfl (by decide) rfl ?_
                  refine r_n false rfl (by decide) rfl ?_
                  refine r_n false rfl (by decide) rfl ?_
                  refine r_nu rfl rfl ?_
                  refine r_nu rfl rfl ?_
                  refine r_nu rfl rfl ?_
                  refine r_n false rfl (by decide) rfl ?_
                  refine r_v (Value.bool (false)) rfl rfl rfl rfl ?_
                  refine r_v (Value.bool (false)) rfl rfl rfl rfl ?_
                  refine r_n false rfl (by decide) rfl ?_
                  refine r_v (Value.bool (false)) rfl rfl rfl rfl ?_
                  refine r_v (Value.bool (false)) rfl rfl rfl rfl ?_
                  refine lx_nil ?_
                  refine hK48 _ _ ?_; try clear hK48 K48
                  refine A_gen [(4, Value.bool (false))] rfl (fun T => ?_)
                  obtain rfl := Option.some.inj hM
                  refine A_ret (fun hn => ends_eq (v0 := Value.bool (false)) rfl (res1 rfl))
                · replace hM := ifp (eq_of_beq hg51) hM
                  refine r_y rfl ?_
                  refine r_v (Value.int .i64 ((parseR ((([48, 48] : List UInt8)) ++ (textI (base) (a))) (base)).2)) rfl rfl rfl rfl ?_
                  refine r_y rfl ?_
                  refine r_v (Value.bool ((((parseR ((([48, 48] : List UInt8)) ++ (textI (base) (a))) (base)).2 : Int) == 0))) rfl rfl rfl rfl ?_
                  refine r_v (Value.bool ((((parseR ((([48, 48] : List UInt8)) ++ (textI (base) (a))) (base)).2 : Int) == 0))) rfl rfl rfl rfl ?_
                  refine r_v (Value.bool ((((parseR ((([48, 48] : List UInt8)) ++ (textI (base) (a))) (base)).2 : Int) == 0))) rfl rfl rfl rfl ?_
                  rcases hg52 : ((((parseR ((([48, 48] : List UInt8)) ++ (textI (base) (a))) (base)).2 : Int) == 0)) with _ | _
                  · replace hM := ifn (ne_of_beq_false hg52) hM
                    refine r_n false rfl (by decide) rfl ?_
                    refine r_n false rfl (by decide) rfl ?_
                    refine r_n false rfl (by decide) rfl ?_
                    refine r_v (Value.bool (false)) rfl rfl rfl rfl ?_
                    refine r_v (Value.bool (false)) rfl rfl rfl rfl ?_
                    refine r_n false rfl (by decide) rfl ?_
                    refine r_n false rfl (by decide) rfl ?_
                    refine r_v (Value.bool (false)) rfl rfl rfl rfl ?_
                    refine r_v (Value.bool (false)) rfl rfl rfl rfl ?_
                    refine r_n false rfl (by decide) rfl ?_
                    refine r_n false rfl (by decide) rfl ?_
                    refine r_v (Value.bool (false)) rfl rfl rfl rfl ?_
                    refine r_v (Value.bool (false)) rfl rfl rfl rfl ?_
                    refine r_n false rfl (by decide) rfl ?_
                    refine r_n false rfl (by decide) rfl ?_
                    refine r_n false rfl (by decide) rfl ?_
                    refine r_n false rfl (by decide) rfl ?_
                    refine r_nu rfl rfl ?_
                    refine r_nu rfl rfl ?_
                    refine r_nu rfl rfl ?_
                    refine r_n false rfl (by decide) rfl ?_
                    refine r_v (Value.bool (false)) rfl rfl rfl rfl ?_
                    refine r_v (Value.bool (false)) rfl rfl rfl rfl ?_
                    refine r_n false rfl (by decide) rfl ?_
                    refine r_v (Value.bool (false)) rfl rfl rfl rfl ?_
                    refine r_v (Value.bool (false)) rfl rfl rfl rfl ?_
                    refine lx_nil ?_
                    refine hK48 _ _ ?_; try clear hK48 K48
                    refine A_gen [(4, Value.bool (false))] rfl (fun T => ?_)
                    obtain rfl := Option.some.inj hM
                    refine A_ret (fun hn => ends_eq (v0 := Value.bool (false)) rfl (res1 rfl))
                  · replace hM := ifp (eq_of_beq hg52) hM
                    refine r_y rfl ?_
                    refine r_l (Value.agg #[U (hi ((parseR (big3_) (base)).1)), U (lo ((parseR (big3_) (base)).1))]) 1 _ _ _ _ rfl rfl rfl rfl rfl ?_
                    refine r_y rfl ?_
                    refine r_l (Value.agg #[U (hi (a)), U (lo (a))]) 4 _ _ _ _ rfl rfl rfl rfl rfl ?_
                    refine r_y rfl ?_
                    refine r_v (Value.bool (((parseR (big3_) (base)).1) == (a))) rfl rfl rfl (ev_binEq rfl rfl eg_24 (eqword_24 ((parseR (big3_) (base)).1) (a))) ?_
                    refine r_v (Value.bool (((parseR (big3_) (base)).1) == (a))) rfl rfl rfl rfl ?_
                    refine r_v (Value.bool (((parseR (big3_) (base)).1) == (a))) rfl rfl rfl rfl ?_
                    rcases hg53 : (((parseR (big3_) (base)).1) == (a)) with _ | _
                    · replace hM := ifn (ne_of_beq_false hg53) hM
                      refine r_n false rfl (by decide) rfl ?_
                      refine r_n false rfl (by decide) rfl ?_
                      refine r_v (Value.bool (false)) rfl rfl rfl rfl ?_
                      refine r_v (Value.bool (false)) rfl rfl rfl rfl ?_
                      refine r_n false rfl (by decide) rfl ?_
                      refine r_n false rfl (by decide) rfl ?_
                      refine r_v (Value.bool (false)) rfl rfl rfl rfl ?_
                      refine r_v (Value.bool (false)) rfl rfl rfl rfl ?_
                      refine r_n false rfl (by decide) rfl ?_
                      refine r_n false rfl (by decide) rfl ?_
                      refine r_n false rfl (by decide) rfl ?_
                      refine r_n false rfl (by decide) rfl ?_
                      refine r_nu rfl rfl ?_
                      refine r_nu rfl rfl ?_
                      refine r_nu rfl rfl ?_
                      refine r_n false rfl (by decide) rfl ?_
                      refine r_v (Value.bool (false)) rfl rfl rfl rfl ?_
                      refine r_v (Value.bool (false)) rfl rfl rfl rfl ?_
                      refine r_n false rfl (by decide) rfl ?_
                      refine r_v (Value.bool (false)) rfl rfl rfl rfl ?_
                      refine r_v (Value.bool (false)) rfl rfl rfl rfl ?_
                      refine lx_nil ?_
                      refine hK48 _ _ ?_; try clear hK48 K48
                      refine A_gen [(4, Value.bool (false))] rfl (fun T => ?_)
                      obtain rfl := Option.some.inj hM
                      refine A_ret (fun hn => ends_eq (v0 := Value.bool (false)) rfl (res1 rfl))
                    · replace hM := ifp (eq_of_beq hg53) hM
                      refine r_y rfl ?_
                      refine r_v (Value.int .i64 ((parseR (big3_) (base)).2)) rfl rfl rfl rfl ?_
                      refine r_y rfl ?_
                      refine r_v (Value.bool ((((parseR (big3_) (base)).2 : Int) == 0))) rfl rfl rfl rfl ?_
                      refine r_v (Value.bool ((((parseR (big3_) (base)).2 : Int) == 0))) rfl rfl rfl rfl ?_
                      refine r_v (Value.bool ((((parseR (big3_) (base)).2 : Int) == 0))) rfl rfl rfl rfl ?_
                      rcases hg54 : ((((parseR (big3_) (base)).2 : Int) == 0)) with _ | _
                      · replace hM := ifn (ne_of_beq_false hg54) hM
                        refine r_n false rfl (by decide) rfl ?_
                        refine r_n false rfl (by decide) rfl ?_
                        refine r_v (Value.bool (false)) rfl rfl rfl rfl ?_
                        refine r_v (Value.bool (false)) rfl rfl rfl rfl ?_
                        refine r_n false rfl (by decide) rfl ?_
                        refine r_n false rfl (by decide) rfl ?_
                        refine r_n false rfl (by decide) rfl ?_
                        refine r_n false rfl (by decide) rfl ?_
                        refine r_nu rfl rfl ?_
                        refine r_nu rfl rfl ?_
                        refine r_nu rfl rfl ?_
                        refine r_n false rfl (by decide) rfl ?_
                        refine r_v (Value.bool (false)) rfl rfl rfl rfl ?_
                        refine r_v (Value.bool (false)) rfl rfl rfl rfl ?_
                        refine r_n false rfl (by decide) rfl ?_
                        refine r_v (Value.bool (false)) rfl rfl rfl rfl ?_
                        refine r_v (Value.bool (false)) rfl rfl rfl rfl ?_
                        refine lx_nil ?_
                        refine hK48 _ _ ?_; try clear hK48 K48
                        refine A_gen [(4, Value.bool (false))] rfl (fun T => ?_)
                        obtain rfl := Option.some.inj hM
                        refine A_ret (fun hn => ends_eq (v0 := Value.bool (false)) rfl (res1 rfl))
                      · replace hM := ifp (eq_of_beq hg54) hM
                        refine r_y rfl ?_
                        refine r_v (Value.int .i64 ((parseR ((textI (base) (~~~((0#64) ++ (0#64)))) ++ (([48] : List UInt8))) (base)).2)) rfl rfl rfl rfl ?_
                        refine r_y rfl ?_
                        refine r_v (Value.bool ((((parseR ((textI (base) (~~~((0#64) ++ (0#64)))) ++ (([48] : List UInt8))) (base)).2 : Int) == 7))) rfl rfl rfl rfl ?_
                        refine r_v (Value.bool ((((parseR ((textI (base) (~~~((0#64) ++ (0#64)))) ++ (([48] : List UInt8))) (base)).2 : Int) == 7))) rfl rfl rfl rfl ?_
                        refine r_v (Value.bool ((((parseR ((textI (base) (~~~((0#64) ++ (0#64)))) ++ (([48] : List UInt8))) (base)).2 : Int) == 7))) rfl rfl rfl rfl ?_
                        rcases hg55 : ((((parseR ((textI (base) (~~~((0#64) ++ (0#64)))) ++ (([48] : List UInt8))) (base)).2 : Int) == 7)) with _ | _
                        · replace hM := ifn (ne_of_beq_false hg55) hM
                          refine r_n false rfl (by decide) rfl ?_
                          refine r_n false rfl (by decide) rfl ?_
                          refine r_n false rfl (by decide) rfl ?_
                          refine r_n false rfl (by decide) rfl ?_
                          refine r_nu rfl rfl ?_
                          refine r_nu rfl rfl ?_
                          refine r_nu rfl rfl ?_
                          refine r_n false rfl (by decide) rfl ?_
                          refine r_v (Value.bool (false)) rfl rfl rfl rfl ?_
                          refine r_v (Value.bool (false)) rfl rfl rfl rfl ?_
                          refine r_n false rfl (by decide) rfl ?_
                          refine r_v (Value.bool (false)) rfl rfl rfl rfl ?_
                          refine r_v (Value.bool (false)) rfl rfl rfl rfl ?_
                          refine lx_nil ?_
                          refine hK48 _ _ ?_; try clear hK48 K48
                          refine A_gen [(4, Value.bool (false))] rfl (fun T => ?_)
                          obtain rfl := Option.some.inj hM
                          refine A_ret (fun hn => ends_eq (v0 := Value.bool (false)) rfl (res1 rfl))
                        · replace hM := ifp (eq_of_beq hg55) hM
                          refine r_y rfl ?_
                          refine r_v (Value.string (⟨(textI (base) (a)).toArray⟩)) rfl rfl rfl rfl ?_
                          refine r_y rfl ?_
                          refine r_v (Value.int .i64 (((textI (base) (a)).length : Int))) rfl rfl rfl (ev_lenS rfl rfl rfl) ?_
                          refine r_y rfl ?_
                          refine r_v (Value.bool (((((textI (base) (a)).length : Int) : Int) == 1))) rfl rfl rfl rfl ?_
                          refine r_y rfl ?_
                          refine r_v (Value.bool (((((textI (base) (a)).length : Int) : Int) == 1))) rfl rfl rfl rfl ?_
                          rcases hg56 : (((((textI (base) (a)).length : Int) : Int) == 1)) with _ | _
                          · replace hM := ifn (ne_of_beq_false hg56) hM
                            refine r_y rfl ?_
                            refine r_v (Value.string (⟨(textI (base) (a)).toArray⟩)) rfl rfl rfl rfl ?_
                            refine r_y rfl ?_
                            replace hM := ck_some hM; obtain ⟨ck57, hM⟩ := hM
                            refine r_v (Value.int .u8 ((byteAt (textI (base) (a)) (0)))) rfl rfl rfl (ev_v (ev_indexS rfl ck57)) ?_
                            refine r_y rfl ?_
                            refine r_v (Value.bool ((((byteAt (textI (base) (a)) (0)) : Int) != 48))) rfl rfl rfl rfl ?_
                            refine r_y rfl ?_
                            refine r_v (Value.bool ((((byteAt (textI (base) (a)) (0)) : Int) != 48))) rfl rfl rfl rfl ?_
                            refine r_v (Value.bool ((((byteAt (textI (base) (a)) (0)) : Int) != 48))) rfl rfl rfl rfl ?_
                            refine r_v (Value.bool ((((byteAt (textI (base) (a)) (0)) : Int) != 48))) rfl rfl rfl rfl ?_
                            rcases hg58 : ((((byteAt (textI (base) (a)) (0)) : Int) != 48)) with _ | _
                            · replace hM := ifn (bne_f hg58) hM
                              refine r_n false rfl (by decide) rfl ?_
                              refine r_v (Value.bool (false)) rfl rfl rfl rfl ?_
                              refine r_v (Value.bool (false)) rfl rfl rfl rfl ?_
                              refine lx_nil ?_
                              refine hK48 _ _ ?_; try clear hK48 K48
                              refine A_gen [(4, Value.bool (false))] rfl (fun T => ?_)
                              obtain rfl := Option.some.inj hM
                              refine A_ret (fun hn => ends_eq (v0 := Value.bool (false)) rfl (res1 rfl))
                            · replace hM := ifp (bne_iff_ne.1 hg58) hM
                              refine r_y rfl ?_
                              replace hM := bind_sm hM; obtain ⟨r59, hr60, hM⟩ := hM
                              refine r_c (Value.bool (r59)) rfl _ _ (ev_callF rfl call_5 rfl) (shunterlaw01_lives_g N  _ hr60) ?_
                              refine r_v (Value.bool (r59)) rfl rfl rfl rfl ?_
                              refine r_v (Value.bool (r59)) rfl rfl rfl rfl ?_
                              refine lx_nil ?_
                              refine hK48 _ _ ?_; try clear hK48 K48
                              refine A_gen [(4, Value.bool (r59))] rfl (fun T => ?_)
                              obtain rfl := Option.some.inj hM
                              refine A_ret (fun hn => ends_eq (v0 := Value.bool (r59)) rfl (res1 rfl))
                          · replace hM := ifp (eq_of_beq hg56) hM
                            refine r_n true rfl (by decide) rfl ?_
                            refine r_n true rfl (by decide) rfl ?_
                            refine r_n true rfl (by decide) rfl ?_
                            refine r_y rfl ?_
                            refine r_v (Value.bool (true)) rfl rfl rfl rfl ?_
                            refine r_v (Value.bool (true)) rfl rfl rfl rfl ?_
                            refine r_v (Value.bool (true)) rfl rfl rfl rfl ?_
                            refine r_y rfl ?_
                            replace hM := bind_sm hM; obtain ⟨r61, hr62, hM⟩ := hM
                            refine r_c (Value.bool (r61)) rfl _ _ (ev_callF rfl call_5 rfl) (shunterlaw01_lives_g N  _ hr62) ?_
                            refine r_v (Value.bool (r61)) rfl rfl rfl rfl ?_
                            refine r_v (Value.bool (r61)) rfl rfl rfl rfl ?_
                            refine lx_nil ?_
                            refine hK48 _ _ ?_; try clear hK48 K48
                            refine A_gen [(4, Value.bool (r61))] rfl (fun T => ?_)
                            obtain rfl := Option.some.inj hM
                            refine A_ret (fun hn => ends_eq (v0 := Value.bool (r61)) rfl (res1 rfl))
end Go.Proofs.Ytadofkoenljikaa
