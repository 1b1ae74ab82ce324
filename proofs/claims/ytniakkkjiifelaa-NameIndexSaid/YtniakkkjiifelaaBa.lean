/- models of functions and their walks -/
import Derived.Test.YtniakkkjiifelaaIt
import Derived.Test.YtniakkkjiifelaaBase
namespace Go.Proofs.Ytniakkkjiifelaa
open Go Go.RowKit Go.Eng
def name_within_m (_ : Nat) (c : Int) (first : Int) (last : Int) : Option (Bool) := if (c : Int) ≥ first then some (decide ((c : Int) ≤ last)) else some (false)
set_option maxRecDepth 100000 in
set_option maxHeartbeats 400000 in
theorem name_within_g (N : Nat) (c : Int) (first : Int) (last : Int) (r : Bool) (hM : name_within_m N c first last = some r) : Gives Try.prog 35 #[Value.int .i32 (c), Value.int .i32 (first), Value.int .i32 (last)] (Value.bool (r)) := by
  unfold name_within_m at hM
  refine gives_of_A follows Try.func35 rfl 15 rfl (upd (upd (upd (fun _ => undef) 2 (Value.int .i32 (last))) 1 (Value.int .i32 (first))) 0 (Value.int .i32 (c))) (by funext k; match k with | 0 => rfl | 1 => rfl | 2 => rfl | k + 3 => rfl) (fun base0_ => ?_)
  refine A_seq fun K1 hK1 => ?_
  refine A_reg ?_
  refine r_v (Value.bool (false)) rfl rfl rfl rfl ?_
  refine lx_nil ?_
  refine hK1 _ _ ?_; try clear hK1 K1
  refine A_seq fun K2 hK2 => ?_
  refine A_reg ?_
  refine r_v (Value.int .i32 (c)) rfl rfl rfl rfl ?_
  refine r_v (Value.int .i32 (first)) rfl rfl rfl rfl ?_
  refine r_v (Value.bool (decide ((c : Int) ≥ first))) rfl rfl rfl rfl ?_
  refine r_v (Value.bool (decide ((c : Int) ≥ first))) rfl rfl rfl rfl ?_
  rcases hg3 : (decide ((c : Int) ≥ first)) with _ | _
  · replace hM := ifn (of_decide_eq_false hg3) hM
    refine r_n false rfl (by decide) rfl ?_
    refine r_n false rfl (by decide) rfl ?_
    refine r_n false rfl (by decide) rfl ?_
    refine r_v (Value.bool (false)) rfl rfl rfl rfl ?_
    refine r_v (Value.bool (false)) rfl rfl rfl rfl ?_
    refine lx_nil ?_
    refine hK2 _ _ ?_; try clear hK2 K2
    obtain rfl := Option.some.inj hM
    refine A_ret (fun hn => ends_eq (v0 := Value.bool (false)) rfl (res1 rfl))
  · replace hM := ifp (of_decide_eq_true hg3) hM
    refine r_y rfl ?_
    refine r_v (Value.int .i32 (c)) rfl rfl rfl rfl ?_
    refine r_y rfl ?_
    refine r_v (Value.int .i32 (last)) rfl rfl rfl rfl ?_
    refine r_y rfl ?_
    refine r_v (Value.bool (decide ((c : Int) ≤ last))) rfl rfl rfl rfl ?_
    refine r_v (Value.bool (decide ((c : Int) ≤ last))) rfl rfl rfl rfl ?_
    refine r_v (Value.bool (decide ((c : Int) ≤ last))) rfl rfl rfl rfl ?_
    refine lx_nil ?_
    refine hK2 _ _ ?_; try clear hK2 K2
    obtain rfl := Option.some.inj hM
    refine A_ret (fun hn => ends_eq (v0 := Value.bool (decide ((c : Int) ≤ last))) rfl (res1 rfl))
def name_Letter_k1 (N : Nat) (c : Int) : Option (Bool) := (name_within_m N c 65 90).bind fun r3 => if (r3) = true then some (true) else (name_within_m N c 97 122).bind fun r6 => if (r6) = true then some (true) else if (c : Int) = 95 then some (true) else (name_within_m N c 192 591).bind fun r10 => if (r10) = true then some (true) else (name_within_m N c 913 969).bind fun r13 => if (r13) = true then some (true) else (name_within_m N c 1024 1279).bind fun r16 => some (r16)
def name_Letter_m (N : Nat) (c : Int) : Option (Bool) := if (c : Int) = 215 then if (c : Int) = 215 then some (false) else name_Letter_k1 N c  else if (c : Int) = 247 then if (c : Int) = 247 then some (false) else name_Letter_k1 N c  else if (c : Int) = 930 then some (false) else name_Letter_k1 N c 
set_option maxRecDepth 100000 in
set_option maxHeartbeats 400000 in
theorem name_Letter_g (N : Nat) (c : Int) (r : Bool) (hM : name_Letter_m N c = some r) : Gives Try.prog 17 #[Value.int .i32 (c)] (Value.bool (r)) := by
  unfold name_Letter_m at hM
  refine gives_of_A follows Try.func17 rfl 30 rfl (upd (fun _ => undef) 0 (Value.int .i32 (c))) (by funext k; match k with | 0 => rfl | k + 1 => rfl) (fun base0_ => ?_)
  refine A_seq fun K1 hK1 => ?_
  refine A_reg ?_
  refine r_v (Value.bool (false)) rfl rfl rfl rfl ?_
  refine lx_nil ?_
  refine hK1 _ _ ?_; try clear hK1 K1
  refine A_cut (fun tt ll => (name_Letter_k1 N c  = some r) ∧ Is [(0, Value.int .i32 (c))] [] tt ll) ?_ ?_
  · refine A_seq fun K18 hK18 => ?_
    refine A_reg ?_
    refine r_v (Value.int .i32 (c)) rfl rfl rfl rfl ?_
    refine lx_nil ?_
    refine hK18 _ _ ?_; try clear hK18 K18
    refine A_block ?_
    refine A_seq fun K19 hK19 => ?_
    refine A_seq fun K20 hK20 => ?_
    refine A_reg ?_
    refine r_v (Value.bool (((c : Int) == 215))) rfl rfl rfl rfl ?_
    refine r_v (Value.bool (((c : Int) == 215))) rfl rfl rfl rfl ?_
    refine lx_nil ?_
    refine hK20 _ _ ?_; try clear hK20 K20
    refine A_cond (((c : Int) == 215)) rfl (fun hc21 => ?_) (fun hc21 => ?_)
    · replace hM := ifp (eq_of_beq hc21) hM
      refine A_skip ?_
      refine hK19 _ _ ?_; try clear hK19 K19
      refine A_cond (((c : Int) == 215)) rfl (fun hc22 => ?_) (fun hc22 => ?_)
      · replace hM := ifp (eq_of_beq hc22) hM
        refine A_seq fun K23 hK23 => ?_
        refine A_reg ?_
        refine r_v (Value.bool (false)) rfl rfl rfl rfl ?_
        refine lx_nil ?_
        refine hK23 _ _ ?_; try clear hK23 K23
        obtain rfl := Option.some.inj hM
        refine A_ret (fun hn => ends_eq (v0 := Value.bool (false)) rfl (res1 rfl))
      · replace hM := ifn (ne_of_beq_false hc22) hM
        refine A_skip ?_
        refine fg _ (Sub.of (List.Sublist.slnil)) ?_
        exact ⟨hM, is_mk rfl rfl⟩
    · replace hM := ifn (ne_of_beq_false hc21) hM
      refine A_seq fun K24 hK24 => ?_
      refine A_reg ?_
      refine r_v (Value.bool (((c : Int) == 247))) rfl rfl rfl rfl ?_
      refine r_v (Value.bool (((c : Int) == 247))) rfl rfl rfl rfl ?_
      refine lx_nil ?_
      refine hK24 _ _ ?_; try clear hK24 K24
      refine A_cond (((c : Int) == 247)) rfl (fun hc25 => ?_) (fun hc25 => ?_)
      · replace hM := ifp (eq_of_beq hc25) hM
        refine A_skip ?_
        refine hK19 _ _ ?_; try clear hK19 K19
        refine A_cond (((c : Int) == 247)) rfl (fun hc26 => ?_) (fun hc26 => ?_)
        · replace hM := ifp (eq_of_beq hc26) hM
          refine A_seq fun K27 hK27 => ?_
          refine A_reg ?_
          refine r_v (Value.bool (false)) rfl rfl rfl rfl ?_
          refine lx_nil ?_
          refine hK27 _ _ ?_; try clear hK27 K27
          obtain rfl := Option.some.inj hM
          refine A_ret (fun hn => ends_eq (v0 := Value.bool (false)) rfl (res1 rfl))
        · replace hM := ifn (ne_of_beq_false hc26) hM
          refine A_skip ?_
          refine fg _ (Sub.of (List.Sublist.slnil)) ?_
          exact ⟨hM, is_mk rfl rfl⟩
      · replace hM := ifn (ne_of_beq_false hc25) hM
        refine A_reg ?_
        refine r_v (Value.bool (((c : Int) == 930))) rfl rfl rfl rfl ?_
        refine r_v (Value.bool (((c : Int) == 930))) rfl rfl rfl rfl ?_
        refine lx_nil ?_
        refine hK19 _ _ ?_; try clear hK19 K19
        refine A_cond (((c : Int) == 930)) rfl (fun hc28 => ?_) (fun hc28 => ?_)
        · replace hM := ifp (eq_of_beq hc28) hM
          refine A_seq fun K29 hK29 => ?_
          refine A_reg ?_
          refine r_v (Value.bool (false)) rfl rfl rfl rfl ?_
          refine lx_nil ?_
          refine hK29 _ _ ?_; try clear hK29 K29
          obtain rfl := Option.some.inj hM
          refine A_ret (fun hn => ends_eq (v0 := Value.bool (false)) rfl (res1 rfl))
        · replace hM := ifn (ne_of_beq_false hc28) hM
          refine A_skip ?_
          refine fg _ (Sub.of (List.Sublist.slnil)) ?_
          exact ⟨hM, is_mk rfl rfl⟩
  · clear hM; rintro t l ⟨hM, ⟨T, rfl⟩, rfl⟩
    unfold name_Letter_k1 at hM
    refine A_seq fun K2 hK2 => ?_
    refine A_reg ?_
    refine r_v (Value.int .i32 (c)) rfl rfl rfl rfl ?_
    replace hM := bind_sm hM; obtain ⟨r3, hr4, hM⟩ := hM
    refine r_c (Value.bool (r3)) rfl _ _ (ev_callF rfl call_35 rfl) (name_within_g N c 65 90 _ hr4) ?_
    refine r_v (Value.bool (r3)) rfl rfl rfl rfl ?_
    rcases hg5 : (r3) with _ | _
    · replace hM := ifn (Bool.eq_false_iff.1 hg5) hM
      refine r_y rfl ?_
      refine r_v (Value.int .i32 (c)) rfl rfl rfl rfl ?_
      refine r_y rfl ?_
      replace hM := bind_sm hM; obtain ⟨r6, hr7, hM⟩ := hM
      refine r_c (Value.bool (r6)) rfl _ _ (ev_callF rfl call_35 rfl) (name_within_g N c 97 122 _ hr7) ?_
      refine r_v (Value.bool (r6)) rfl rfl rfl rfl ?_
      refine r_v (Value.bool (r6)) rfl rfl rfl rfl ?_
      rcases hg8 : (r6) with _ | _
      · replace hM := ifn (Bool.eq_false_iff.1 hg8) hM
        refine r_y rfl ?_
        refine r_v (Value.int .i32 (c)) rfl rfl rfl rfl ?_
        refine r_y rfl ?_
        refine r_v (Value.bool (((c : Int) == 95))) rfl rfl rfl rfl ?_
        refine r_v (Value.bool (((c : Int) == 95))) rfl rfl rfl rfl ?_
        refine r_v (Value.bool (((c : Int) == 95))) rfl rfl rfl rfl ?_
        rcases hg9 : (((c : Int) == 95)) with _ | _
        · replace hM := ifn (ne_of_beq_false hg9) hM
          refine r_y rfl ?_
          refine r_v (Value.int .i32 (c)) rfl rfl rfl rfl ?_
          refine r_y rfl ?_
          replace hM := bind_sm hM; obtain ⟨r10, hr11, hM⟩ := hM
          refine r_c (Value.bool (r10)) rfl _ _ (ev_callF rfl call_35 rfl) (name_within_g N c 192 591 _ hr11) ?_
          refine r_v (Value.bool (r10)) rfl rfl rfl rfl ?_
          refine r_v (Value.bool (r10)) rfl rfl rfl rfl ?_
          rcases hg12 : (r10) with _ | _
          · replace hM := ifn (Bool.eq_false_iff.1 hg12) hM
            refine r_y rfl ?_
            refine r_v (Value.int .i32 (c)) rfl rfl rfl rfl ?_
            refine r_y rfl ?_
            replace hM := bind_sm hM; obtain ⟨r13, hr14, hM⟩ := hM
            refine r_c (Value.bool (r13)) rfl _ _ (ev_callF rfl call_35 rfl) (name_within_g N c 913 969 _ hr14) ?_
            refine r_v (Value.bool (r13)) rfl rfl rfl rfl ?_
            refine r_v (Value.bool (r13)) rfl rfl rfl rfl ?_
            rcases hg15 : (r13) with _ | _
            · replace hM := ifn (Bool.eq_false_iff.1 hg15) hM
              refine r_y rfl ?_
              refine r_v (Value.int .i32 (c)) rfl rfl rfl rfl ?_
              refine r_y rfl ?_
              replace hM := bind_sm hM; obtain ⟨r16, hr17, hM⟩ := hM
              refine r_c (Value.bool (r16)) rfl _ _ (ev_callF rfl call_35 rfl) (name_within_g N c 1024 1279 _ hr17) ?_
              refine r_v (Value.bool (r16)) rfl rfl rfl rfl ?_
              refine r_v (Value.bool (r16)) rfl rfl rfl rfl ?_
              refine lx_nil ?_
              refine hK2 _ _ ?_; try clear hK2 K2
              obtain rfl := Option.some.inj hM
              refine A_ret (fun hn => ends_eq (v0 := Value.bool (r16)) rfl (res1 rfl))
            · replace hM := ifp hg15 hM
              refine r_n true rfl (by decide) rfl ?_
              refine r_n true rfl (by decide) rfl ?_
              refine r_v (Value.bool (true)) rfl rfl rfl rfl ?_
              refine r_v (Value.bool (true)) rfl rfl rfl rfl ?_
              refine lx_nil ?_
              refine hK2 _ _ ?_; try clear hK2 K2
              obtain rfl := Option.some.inj hM
              refine A_ret (fun hn => ends_eq (v0 := Value.bool (true)) rfl (res1 rfl))
          · replace hM := ifp hg12 hM
            refine r_n true rfl (by decide) rfl ?_
            refine r_n true rfl (by decide) rfl ?_
            refine r_v (Value.bool (true)) rfl rfl rfl rfl ?_
            refine r_v (Value.bool (true)) rfl rfl rfl rfl ?_
            refine r_n true rfl (by decide) rfl ?_
            refine r_n true rfl (by decide) rfl ?_
            refine r_v (Value.bool (true)) rfl rfl rfl rfl ?_
            refine r_v (Value.bool (true)) rfl rfl rfl rfl ?_
            refine lx_nil ?_
            refine hK2 _ _ ?_; try clear hK2 K2
            obtain rfl := Option.some.inj hM
            refine A_ret (fun hn => ends_eq (v0 := Value.bool (true)) rfl (res1 rfl))
        · replace hM := ifp (eq_of_beq hg9) hM
          refine r_n true rfl (by decide) rfl ?_
          refine r_n true rfl (by decide) rfl ?_
          refine r_v (Value.bool (true)) rfl rfl rfl rfl ?_
          refine r_v (Value.bool (true)) rfl rfl rfl rfl ?_
          refine r_n true rfl (by decide) rfl ?_
          refine r_n true rfl (by decide) rfl ?_
          refine r_v (Value.bool (true)) rfl rfl rfl rfl ?_
          refine r_v (Value.bool (true)) rfl rfl rfl rfl ?_
          refine r_n true rfl (by decide) rfl ?_
          refine r_n true rfl (by decide) rfl ?_
          refine r_v (Value.bool (true)) rfl rfl rfl rfl ?_
          refine r_v (Value.bool (true)) rfl rfl rfl rfl ?_
          refine lx_nil ?_
          refine hK2 _ _ ?_; try clear hK2 K2
          obtain rfl := Option.some.inj hM
          refine A_ret (fun hn => ends_eq (v0 := Value.bool (true)) rfl (res1 rfl))
      · replace hM := ifp hg8 hM
        refine r_n true rfl (by decide) rfl ?_
        refine r_n true rfl (by decide) rfl ?_
        refine r_v (Value.bool (true)) rfl rfl rfl rfl ?_
        refine r_v (Value.bool (true)) rfl rfl rfl rfl ?_
        refine r_n true rfl (by decide) rfl ?_
        refine r_n true rfl (by decide) rfl ?_
        refine r_v (Value.bool (true)) rfl rfl rfl rfl ?_
        refine r_v (Value.bool (true)) rfl rfl rfl rfl ?_
        refine r_n true rfl (by decide) rfl ?_
        refine r_n true rfl (by decide) rfl ?_
        refine r_v (Value.bool (true)) rfl rfl rfl rfl ?_
        refine r_v (Value.bool (true)) rfl rfl rfl rfl ?_
        refine r_n true rfl (by decide) rfl ?_
        refine r_n true rfl (by decide) rfl ?_
        refine r_v (Value.bool (true)) rfl rfl rfl rfl ?_
        refine r_v (Value.bool (true)) rfl rfl rfl rfl ?_
        refine lx_nil ?_
        refine hK2 _ _ ?_; try clear hK2 K2
        obtain rfl := Option.some.inj hM
        refine A_ret (fun hn => ends_eq (v0 := Value.bool (true)) rfl (res1 rfl))
    · replace hM := ifp hg5 hM
      refine r_n true rfl (by decide) rfl ?_
      refine r_n true rfl (by decide) rfl ?_
      refine r_v (Value.bool (true)) rfl rfl rfl rfl ?_
      refine r_v (Value.bool (true)) rfl rfl rfl rfl ?_
      refine r_n true rfl (by decide) rfl ?_
      refine r_n true rfl (by decide) rfl ?_
      refine r_v (Value.bool (true)) rfl rfl rfl rfl ?_
      refine r_v (Value.bool (true)) rfl rfl rfl rfl ?_
      refine r_n true rfl (by decide) rfl ?_
      refine r_n true rfl (by decide) rfl ?_
      refine r_v (Value.bool (true)) rfl rfl rfl rfl ?_
      refine r_v (Value.bool (true)) rfl rfl rfl rfl ?_
      refine r_n true rfl (by decide) rfl ?_
      refine r_n true rfl (by decide) rfl ?_
      refine r_v (Value.bool (true)) rfl rfl rfl rfl ?_
      refine r_v (Value.bool (true)) rfl rfl rfl rfl ?_
      refine r_n true rfl (by decide) rfl ?_
      refine r_n true rfl (by decide) rfl ?_
      refine r_v (Value.bool (true)) rfl rfl rfl rfl ?_
      refine r_v (Value.bool (true)) rfl rfl rfl rfl ?_
      refine lx_nil ?_
      refine hK2 _ _ ?_; try clear hK2 K2
      obtain rfl := Option.some.inj hM
      refine A_ret (fun hn => ends_eq (v0 := Value.bool (true)) rfl (res1 rfl))
def name_Digit_m (N : Nat) (c : Int) : Option (Bool) := (name_within_m N c 48 57).bind fun r3 => some (r3)
set_option maxRecDepth 100000 in
set_option maxHeartbeats 400000 in
theorem name_Digit_g (N : Nat) (c : Int) (r : Bool) (hM : name_Digit_m N c = some r) : Gives Try.prog 19 #[Value.int .i32 (c)] (Value.bool (r)) := by
  unfold name_Digit_m at hM
  refine gives_of_A follows Try.func19 rfl 5 rfl (upd (fun _ => undef) 0 (Value.int .i32 (c))) (by funext k; match k with | 0 => rfl | k + 1 => rfl) (fun base0_ => ?_)
  refine A_seq fun K1 hK1 => ?_
  refine A_reg ?_
  refine r_v (Value.bool (false)) rfl rfl rfl rfl ?_
  refine lx_nil ?_
  refine hK1 _ _ ?_; try clear hK1 K1
  refine A_seq fun K2 hK2 => ?_
  refine A_reg ?_
  refine r_v (Value.int .i32 (c)) rfl rfl rfl rfl ?_
  replace hM := bind_sm hM; obtain ⟨r3, hr4, hM⟩ := hM
  refine r_c (Value.bool (r3)) rfl _ _ (ev_callF rfl call_35 rfl) (name_within_g N c 48 57 _ hr4) ?_
  refine r_v (Value.bool (r3)) rfl rfl rfl rfl ?_
  refine lx_nil ?_
  refine hK2 _ _ ?_; try clear hK2 K2
  obtain rfl := Option.some.inj hM
  refine A_ret (fun hn => ends_eq (v0 := Value.bool (r3)) rfl (res1 rfl))
def name_mayStand_m (N : Nat) (c : Int) (ahead : Int) : Option (Bool) := (name_Letter_m N c).bind fun r3 => if (r3) = true then some (true) else if (ahead : Int) > 0 then (name_Digit_m N c).bind fun r7 => if (r7) = true then some (true) else if (c : Int) = 45 then some (true) else some (((c : Int) == 46)) else some (false)
set_option maxRecDepth 100000 in
set_option maxHeartbeats 400000 in
theorem name_mayStand_g (N : Nat) (c : Int) (ahead : Int) (r : Bool) (hM : name_mayStand_m N c ahead = some r) : Gives Try.prog 34 #[Value.int .i32 (c), Value.int .i64 (ahead)] (Value.bool (r)) := by
  unfold name_mayStand_m at hM
  refine gives_of_A follows Try.func34 rfl 23 rfl (upd (upd (fun _ => undef) 1 (Value.int .i64 (ahead))) 0 (Value.int .i32 (c))) (by funext k; match k with | 0 => rfl | 1 => rfl | k + 2 => rfl) (fun base0_ => ?_)
  refine A_seq fun K1 hK1 => ?_
  refine A_reg ?_
  refine r_v (Value.bool (false)) rfl rfl rfl rfl ?_
  refine lx_nil ?_
  refine hK1 _ _ ?_; try clear hK1 K1
  refine A_seq fun K2 hK2 => ?_
  refine A_reg ?_
  refine r_v (Value.int .i32 (c)) rfl rfl rfl rfl ?_
  replace hM := bind_sm hM; obtain ⟨r3, hr4, hM⟩ := hM
  refine r_c (Value.bool (r3)) rfl _ _ (ev_callF rfl call_17 rfl) (name_Letter_g N c _ hr4) ?_
  refine r_v (Value.bool (r3)) rfl rfl rfl rfl ?_
  rcases hg5 : (r3) with _ | _
  · replace hM := ifn (Bool.eq_false_iff.1 hg5) hM
    refine r_y rfl ?_
    refine r_v (Value.int .i64 (ahead)) rfl rfl rfl rfl ?_
    refine r_y rfl ?_
    refine r_v (Value.bool (decide ((ahead : Int) > 0))) rfl rfl rfl rfl ?_
    refine r_y rfl ?_
    refine r_v (Value.bool (decide ((ahead : Int) > 0))) rfl rfl rfl rfl ?_
    rcases hg6 : (decide ((ahead : Int) > 0)) with _ | _
    · replace hM := ifn (of_decide_eq_false hg6) hM
      refine r_n false rfl (by decide) rfl ?_
      refine r_n false rfl (by decide) rfl ?_
      refine r_n false rfl (by decide) rfl ?_
      refine r_nu rfl rfl ?_
      refine r_nu rfl rfl ?_
      refine r_n false rfl (by decide) rfl ?_
      refine r_n false rfl (by decide) rfl ?_
      refine r_nu rfl rfl ?_
      refine r_nu rfl rfl ?_
      refine r_n false rfl (by decide) rfl ?_
      refine r_y rfl ?_
      refine r_v (Value.bool (false)) rfl rfl rfl rfl ?_
      refine r_v (Value.bool (false)) rfl rfl rfl rfl ?_
      refine r_v (Value.bool (false)) rfl rfl rfl rfl ?_
      refine lx_nil ?_
      refine hK2 _ _ ?_; try clear hK2 K2
      obtain rfl := Option.some.inj hM
      refine A_ret (fun hn => ends_eq (v0 := Value.bool (false)) rfl (res1 rfl))
    · replace hM := ifp (of_decide_eq_true hg6) hM
      refine r_y rfl ?_
      refine r_v (Value.int .i32 (c)) rfl rfl rfl rfl ?_
      refine r_y rfl ?_
      replace hM := bind_sm hM; obtain ⟨r7, hr8, hM⟩ := hM
      refine r_c (Value.bool (r7)) rfl _ _ (ev_callF rfl call_19 rfl) (name_Digit_g N c _ hr8) ?_
      refine r_y rfl ?_
      refine r_v (Value.bool (r7)) rfl rfl rfl rfl ?_
      rcases hg9 : (r7) with _ | _
      · replace hM := ifn (Bool.eq_false_iff.1 hg9) hM
        refine r_y rfl ?_
        refine r_v (Value.int .i32 (c)) rfl rfl rfl rfl ?_
        refine r_y rfl ?_
        refine r_v (Value.bool (((c : Int) == 45))) rfl rfl rfl rfl ?_
        refine r_y rfl ?_
        refine r_v (Value.bool (((c : Int) == 45))) rfl rfl rfl rfl ?_
        refine r_y rfl ?_
        refine r_v (Value.bool (((c : Int) == 45))) rfl rfl rfl rfl ?_
        rcases hg10 : (((c : Int) == 45)) with _ | _
        · replace hM := ifn (ne_of_beq_false hg10) hM
          refine r_y rfl ?_
          refine r_v (Value.int .i32 (c)) rfl rfl rfl rfl ?_
          refine r_y rfl ?_
          refine r_v (Value.bool (((c : Int) == 46))) rfl rfl rfl rfl ?_
          refine r_y rfl ?_
          refine r_v (Value.bool (((c : Int) == 46))) rfl rfl rfl rfl ?_
          refine r_y rfl ?_
          refine r_v (Value.bool (((c : Int) == 46))) rfl rfl rfl rfl ?_
          refine r_v (Value.bool (((c : Int) == 46))) rfl rfl rfl rfl ?_
          refine r_v (Value.bool (((c : Int) == 46))) rfl rfl rfl rfl ?_
          refine lx_nil ?_
          refine hK2 _ _ ?_; try clear hK2 K2
          obtain rfl := Option.some.inj hM
          refine A_ret (fun hn => ends_eq (v0 := Value.bool (((c : Int) == 46))) rfl (res1 rfl))
        · replace hM := ifp (eq_of_beq hg10) hM
          refine r_n true rfl (by decide) rfl ?_
          refine r_n true rfl (by decide) rfl ?_
          refine r_y rfl ?_
          refine r_v (Value.bool (true)) rfl rfl rfl rfl ?_
          refine r_y rfl ?_
          refine r_v (Value.bool (true)) rfl rfl rfl rfl ?_
          refine r_v (Value.bool (true)) rfl rfl rfl rfl ?_
          refine r_v (Value.bool (true)) rfl rfl rfl rfl ?_
          refine lx_nil ?_
          refine hK2 _ _ ?_; try clear hK2 K2
          obtain rfl := Option.some.inj hM
          refine A_ret (fun hn => ends_eq (v0 := Value.bool (true)) rfl (res1 rfl))
      · replace hM := ifp hg9 hM
        refine r_n true rfl (by decide) rfl ?_
        refine r_n true rfl (by decide) rfl ?_
        refine r_y rfl ?_
        refine r_v (Value.bool (true)) rfl rfl rfl rfl ?_
        refine r_y rfl ?_
        refine r_v (Value.bool (true)) rfl rfl rfl rfl ?_
        refine r_n true rfl (by decide) rfl ?_
        refine r_n true rfl (by decide) rfl ?_
        refine r_y rfl ?_
        refine r_v (Value.bool (true)) rfl rfl rfl rfl ?_
        refine r_y rfl ?_
        refine r_v (Value.bool (true)) rfl rfl rfl rfl ?_
        refine r_v (Value.bool (true)) rfl rfl rfl rfl ?_
        refine r_v (Value.bool (true)) rfl rfl rfl rfl ?_
        refine lx_nil ?_
        refine hK2 _ _ ?_; try clear hK2 K2
        obtain rfl := Option.some.inj hM
        refine A_ret (fun hn => ends_eq (v0 := Value.bool (true)) rfl (res1 rfl))
  · replace hM := ifp hg5 hM
    refine r_n true rfl (by decide) rfl ?_
    refine r_n true rfl (by decide) rfl ?_
    refine r_n true rfl (by decide) rfl ?_
    refine r_nu rfl rfl ?_
    refine r_nu rfl rfl ?_
    refine r_nu rfl rfl ?_
    refine r_nu rfl rfl ?_
    refine r_nu rfl rfl ?_
    refine r_nu rfl rfl ?_
    refine r_nu rfl rfl ?_
    refine r_nu rfl rfl ?_
    refine r_nu rfl rfl ?_
    refine r_nu rfl rfl ?_
    refine r_n true rfl (by decide) rfl ?_
    refine r_v (Value.bool (true)) rfl rfl rfl rfl ?_
    refine r_v (Value.bool (true)) rfl rfl rfl rfl ?_
    refine lx_nil ?_
    refine hK2 _ _ ?_; try clear hK2 K2
    obtain rfl := Option.some.inj hM
    refine A_ret (fun hn => ends_eq (v0 := Value.bool (true)) rfl (res1 rfl))
def name_May_l3 (N : Nat) (s : List UInt8) : Nat → Int → Nat → Option (Bool)
  | 0, _, _ => none
  | n6 + 1, count1_, m2_ => if m2_ < (s).length then ck (m2_ < (s).length) (if (count1_ : Int) = 24 then some (false) else (name_mayStand_m N ((runeAt (s) (m2_) : Nat) : Int) count1_).bind fun r15 => if (r15) = true then ck ((-9223372036854775808 ≤ (count1_ + 1) ∧ (count1_ + 1) ≤ 9223372036854775807)) ((name_May_l3 N s n6) ((count1_ + 1)) (nextP (s) (m2_))) else some (false)) else some (decide ((count1_ : Int) > 0))
def name_May_m (N : Nat) (s : List UInt8) : Option (Bool) := name_May_l3 N s N (0) (0)
set_option maxRecDepth 100000 in
set_option maxHeartbeats 400000 in
theorem name_May_g (N : Nat) (s : List UInt8) (r : Bool) (hM : name_May_m N s = some r) : Gives Try.prog 15 #[Value.string (⟨(s).toArray⟩)] (Value.bool (r)) := by
  unfold name_May_m at hM
  refine gives_of_A follows Try.func15 rfl 23 rfl (upd (fun _ => undef) 0 (Value.string (⟨(s).toArray⟩))) (by funext k; match k with | 0 => rfl | k + 1 => rfl) (fun base0_ => ?_)
  refine A_seq fun K1 hK1 => ?_
  refine A_reg ?_
  refine r_v (Value.bool (false)) rfl rfl rfl rfl ?_
  refine lx_nil ?_
  refine hK1 _ _ ?_; try clear hK1 K1
  refine A_seq fun K2 hK2 => ?_
  refine A_reg ?_
  refine r_v (Value.int .i64 (0)) rfl rfl rfl rfl ?_
  refine lx_nil ?_
  refine hK2 _ _ ?_; try clear hK2 K2
  refine A_seq fun K3 hK3 => ?_
  refine A_seq fun K4 hK4 => ?_
  refine A_regC [(some 7, false)] (conG Try.prog [(7, fun v_ L_ U_ => (pIt (s)) v_ L_ U_)]) ?_
  refine r_v (Value.string (⟨(s).toArray⟩)) rfl rfl rfl rfl ?_
  refine r_range (s) rfl rfl rfl rfl rfl (fun _ _ _ _ _ => Iff.rfl) (fun b5 => ?_)
  refine lx_nil ?_
  refine hK4 _ _ ?_; try clear hK4 K4
  refine A_block ?_
  refine A_loop (fun tt ll nn => ∃ (n6 : Nat) (count1_ : Int) (m2_ : Nat), (name_May_l3 N s n6 count1_ m2_ = some r) ∧ Is [(3, Value.int .i64 (count1_)), (7, Value.pointer (some ⟨b5, 0, none⟩))] [(b5, (itT (s) (m2_)), #[])] tt ll ∧ nn = n6 + 1) (N + 1) ?_ ?_
  · exact ⟨N, 0, 0, hM, is_mk rfl rfl, rfl⟩
  · clear hM; rintro t l _ ⟨n6, count1_, m2_, hM, ⟨⟨T, rfl⟩, rfl⟩, rfl⟩
    rcases n6 with _ | n6
    · exact absurd hM (by simp [name_May_l3])
    rw [name_May_l3] at hM
    refine A_seq fun K7 hK7 => ?_
    refine A_regC [(some 8, true)] (conG Try.prog [(8, fun v_ L_ U_ => (pNx b5 (s) (m2_)) v_ L_ U_)]) ?_
    refine r_next (lN := [(b5, (itT (s) (nextP (s) (m2_))), #[])]) 0 b5 (s) (m2_) rfl rfl rfl rfl rfl rfl (fun _ _ _ _ _ => Iff.rfl) rfl ?_
    refine r_v (Value.bool (decide (m2_ < (s).length))) rfl rfl rfl (ev_v (ev_next0 (s) (m2_))) ?_
    refine lx_nil ?_
    refine hK7 _ _ ?_; try clear hK7 K7
    refine A_seq fun K8 hK8 => ?_
    refine A_cond (decide (m2_ < (s).length)) rfl (fun hc9 => ?_) (fun hc9 => ?_)
    · replace hM := ifp (of_decide_eq_true hc9) hM
      refine A_skip ?_
      refine hK8 _ _ ?_; try clear hK8 K8
      refine A_block ?_
      refine A_seq fun K10 hK10 => ?_
      refine A_reg ?_
      replace hM := ck_some hM; obtain ⟨ck11, hM⟩ := hM
      refine r_v (Value.int .i32 (((runeAt (s) (m2_) : Nat) : Int))) rfl rfl rfl (ev_v (ev_next2 ck11)) ?_
      refine r_v (Value.int .i32 (((runeAt (s) (m2_) : Nat) : Int))) rfl rfl rfl rfl ?_
      refine lx_nil ?_
      refine hK10 _ _ ?_; try clear hK10 K10
      refine A_seq fun K12 hK12 => ?_
      refine A_seq fun K13 hK13 => ?_
      refine A_reg ?_
      refine r_v (Value.int .i64 (count1_)) rfl rfl rfl rfl ?_
      refine r_v (Value.bool (((count1_ : Int) == 24))) rfl rfl rfl rfl ?_
      refine r_v (Value.bool (((count1_ : Int) == 24))) rfl rfl rfl rfl ?_
      rcases hg14 : (((count1_ : Int) == 24)) with _ | _
      · replace hM := ifn (ne_of_beq_false hg14) hM
        refine r_y rfl ?_
        refine r_v (Value.int .i32 (((runeAt (s) (m2_) : Nat) : Int))) rfl rfl rfl rfl ?_
        refine r_y rfl ?_
        refine r_v (Value.int .i64 (count1_)) rfl rfl rfl rfl ?_
        refine r_y rfl ?_
        replace hM := bind_sm hM; obtain ⟨r15, hr16, hM⟩ := hM
        refine r_c (Value.bool (r15)) rfl _ _ (ev_callF rfl call_34 rfl) (name_mayStand_g N ((runeAt (s) (m2_) : Nat) : Int) count1_ _ hr16) ?_
        refine r_y rfl ?_
        refine r_v (Value.bool (!(r15))) rfl rfl rfl rfl ?_
        refine r_v (Value.bool (!(r15))) rfl rfl rfl rfl ?_
        refine lx_nil ?_
        refine hK13 _ _ ?_; try clear hK13 K13
        refine A_cond (!(r15)) rfl (fun hc17 => ?_) (fun hc17 => ?_)
        · replace hM := ifn (Bool.eq_false_iff.1 (not_t hc17)) hM
          refine A_seq fun K18 hK18 => ?_
          refine A_reg ?_
          refine r_v (Value.bool (false)) rfl rfl rfl rfl ?_
          refine lx_nil ?_
          refine hK18 _ _ ?_; try clear hK18 K18
          obtain rfl := Option.some.inj hM
          refine A_ret (fun hn => ends_eq (v0 := Value.bool (false)) rfl (res1 rfl))
        · replace hM := ifp (not_f hc17) hM
          refine A_skip ?_
          refine hK12 _ _ ?_; try clear hK12 K12
          refine A_reg ?_
          refine r_v (Value.int .i64 (count1_)) rfl rfl rfl rfl ?_
          replace hM := ck_some hM; obtain ⟨ck19, hM⟩ := hM
          refine r_v (Value.int .i64 ((count1_ + 1))) rfl rfl (wi64 rfl ck19.1 ck19.2) rfl ?_
          refine r_v (Value.int .i64 ((count1_ + 1))) rfl rfl rfl rfl ?_
          refine lx_nil ?_
          refine fg _ (Sub.of (List.Sublist.cons_cons _ (List.Sublist.slnil))) ?_
          exact ⟨n6 + 1, by omega, n6, (count1_ + 1), nextP (s) (m2_), hM, is_mk (by first | rfl | (simp only [hg14]; done) | (simp only [hg14]; rfl) | (simp only [app_hl]; rfl)) rfl, rfl⟩
      · replace hM := ifp (eq_of_beq hg14) hM
        refine r_n true rfl (by decide) rfl ?_
        refine r_n true rfl (by decide) rfl ?_
        refine r_n true rfl (by decide) rfl ?_
        refine r_n true rfl (by decide) rfl ?_
        refine r_v (Value.bool (true)) rfl rfl rfl rfl ?_
        refine lx_nil ?_
        refine hK13 _ _ ?_; try clear hK13 K13
        refine A_cond true rfl (fun _ => ?_) (fun h_ => nomatch h_)
        refine A_seq fun K20 hK20 => ?_
        refine A_reg ?_
        refine r_v (Value.bool (false)) rfl rfl rfl rfl ?_
        refine lx_nil ?_
        refine hK20 _ _ ?_; try clear hK20 K20
        obtain rfl := Option.some.inj hM
        refine A_ret (fun hn => ends_eq (v0 := Value.bool (false)) rfl (res1 rfl))
    · replace hM := ifn (of_decide_eq_false hc9) hM
      refine A_exit ?_
      refine hK3 _ _ ?_; try clear hK3 K3
      refine A_seq fun K21 hK21 => ?_
      refine A_reg ?_
      refine r_v (Value.int .i64 (count1_)) rfl rfl rfl rfl ?_
      refine r_v (Value.bool (decide ((count1_ : Int) > 0))) rfl rfl rfl rfl ?_
      refine r_v (Value.bool (decide ((count1_ : Int) > 0))) rfl rfl rfl rfl ?_
      refine lx_nil ?_
      refine hK21 _ _ ?_; try clear hK21 K21
      obtain rfl := Option.some.inj hM
      refine A_ret (fun hn => ends_eq (v0 := Value.bool (decide ((count1_ : Int) > 0))) rfl (res1 rfl))
def name_Len_l3 (s : List UInt8) : Nat → Int → Nat → Option (Int)
  | 0, _, _ => none
  | n6 + 1, count1_, m2_ => if m2_ < (s).length then ck ((-9223372036854775808 ≤ (count1_ + 1) ∧ (count1_ + 1) ≤ 9223372036854775807)) ((name_Len_l3 s n6) ((count1_ + 1)) (nextP (s) (m2_))) else some (count1_)
def name_Len_m (N : Nat) (s : List UInt8) : Option (Int) := name_Len_l3 s N (0) (0)
set_option maxRecDepth 100000 in
set_option maxHeartbeats 400000 in
theorem name_Len_g (N : Nat) (s : List UInt8) (r : Int) (hM : name_Len_m N s = some r) : Gives Try.prog 12 #[Value.string (⟨(s).toArray⟩)] (Value.int .i64 (r)) := by
  unfold name_Len_m at hM
  refine gives_of_A follows Try.func12 rfl 11 rfl (upd (fun _ => undef) 0 (Value.string (⟨(s).toArray⟩))) (by funext k; match k with | 0 => rfl | k + 1 => rfl) (fun base0_ => ?_)
  refine A_seq fun K1 hK1 => ?_
  refine A_reg ?_
  refine r_v (Value.int .i64 (0)) rfl rfl rfl rfl ?_
  refine lx_nil ?_
  refine hK1 _ _ ?_; try clear hK1 K1
  refine A_seq fun K2 hK2 => ?_
  refine A_reg ?_
  refine r_v (Value.int .i64 (0)) rfl rfl rfl rfl ?_
  refine lx_nil ?_
  refine hK2 _ _ ?_; try clear hK2 K2
  refine A_seq fun K3 hK3 => ?_
  refine A_seq fun K4 hK4 => ?_
  refine A_regC [(some 5, false)] (conG Try.prog [(5, fun v_ L_ U_ => (pIt (s)) v_ L_ U_)]) ?_
  refine r_v (Value.string (⟨(s).toArray⟩)) rfl rfl rfl rfl ?_
  refine r_range (s) rfl rfl rfl rfl rfl (fun _ _ _ _ _ => Iff.rfl) (fun b5 => ?_)
  refine lx_nil ?_
  refine hK4 _ _ ?_; try clear hK4 K4
  refine A_block ?_
  refine A_loop (fun tt ll nn => ∃ (n6 : Nat) (count1_ : Int) (m2_ : Nat), (name_Len_l3 s n6 count1_ m2_ = some r) ∧ Is [(3, Value.int .i64 (count1_)), (5, Value.pointer (some ⟨b5, 0, none⟩))] [(b5, (itT (s) (m2_)), #[])] tt ll ∧ nn = n6 + 1) (N + 1) ?_ ?_
  · exact ⟨N, 0, 0, hM, is_mk rfl rfl, rfl⟩
  · clear hM; rintro t l _ ⟨n6, count1_, m2_, hM, ⟨⟨T, rfl⟩, rfl⟩, rfl⟩
    rcases n6 with _ | n6
    · exact absurd hM (by simp [name_Len_l3])
    rw [name_Len_l3] at hM
    refine A_seq fun K7 hK7 => ?_
    refine A_regC [(some 6, true)] (conG Try.prog [(6, fun v_ L_ U_ => (pNx b5 (s) (m2_)) v_ L_ U_)]) ?_
    refine r_next (lN := [(b5, (itT (s) (nextP (s) (m2_))), #[])]) 0 b5 (s) (m2_) rfl rfl rfl rfl rfl rfl (fun _ _ _ _ _ => Iff.rfl) rfl ?_
    refine r_v (Value.bool (decide (m2_ < (s).length))) rfl rfl rfl (ev_v (ev_next0 (s) (m2_))) ?_
    refine lx_nil ?_
    refine hK7 _ _ ?_; try clear hK7 K7
    refine A_seq fun K8 hK8 => ?_
    refine A_cond (decide (m2_ < (s).length)) rfl (fun hc9 => ?_) (fun hc9 => ?_)
    · replace hM := ifp (of_decide_eq_true hc9) hM
      refine A_skip ?_
      refine hK8 _ _ ?_; try clear hK8 K8
      refine A_block ?_
      refine A_reg ?_
      refine r_v (Value.int .i64 (count1_)) rfl rfl rfl rfl ?_
      replace hM := ck_some hM; obtain ⟨ck10, hM⟩ := hM
      refine r_v (Value.int .i64 ((count1_ + 1))) rfl rfl (wi64 rfl ck10.1 ck10.2) rfl ?_
      refine r_v (Value.int .i64 ((count1_ + 1))) rfl rfl rfl rfl ?_
      refine lx_nil ?_
      refine fg _ (Sub.of (List.Sublist.cons_cons _ (List.Sublist.slnil))) ?_
      exact ⟨n6 + 1, by omega, n6, (count1_ + 1), nextP (s) (m2_), hM, is_mk rfl rfl, rfl⟩
    · replace hM := ifn (of_decide_eq_false hc9) hM
      refine A_exit ?_
      refine hK3 _ _ ?_; try clear hK3 K3
      refine A_seq fun K11 hK11 => ?_
      refine A_reg ?_
      refine r_v (Value.int .i64 (count1_)) rfl rfl rfl rfl ?_
      refine r_v (Value.int .i64 (count1_)) rfl rfl rfl rfl ?_
      refine lx_nil ?_
      refine hK11 _ _ ?_; try clear hK11 K11
      obtain rfl := Option.some.inj hM
      refine A_ret (fun hn => ends_eq (v0 := Value.int .i64 (count1_)) rfl (res1 rfl))
def strings_Builder_copyCheck_v1_m (_ : Nat) : Option (Unit) := some (())
set_option maxRecDepth 100000 in
set_option maxHeartbeats 400000 in
theorem strings_Builder_copyCheck_v1_g (N : Nat) (r : Unit) (hM : strings_Builder_copyCheck_v1_m N = some r) (ro : Addr → Option Value) (bb : Nat) : Does Try.prog 43 #[Value.pointer (some ⟨bb, 0, none⟩)] ro [(bb, 52, #[Value.pointer none, Value.slice none 0 0])] (pO [(bb, 52, #[Value.pointer none, Value.slice none 0 0])] (oE (Value.tuple #[]) [[(bb, 52, #[Value.pointer (some ⟨bb, 0, none⟩), Value.slice none 0 0])]])) := by
  unfold strings_Builder_copyCheck_v1_m at hM
  refine doesO_of_A follows Try.func43 rfl 20 rfl (upd (fun _ => undef) 0 (Value.pointer (some ⟨bb, 0, none⟩))) (by funext k; match k with | 0 => rfl | k + 1 => rfl) (fun _ _ h_ _ => h_) (fun base0_ => ?_)
  refine A_seq fun K1 hK1 => ?_
  refine A_reg ?_
  refine r_v (Value.pointer (some ⟨bb, 0, none⟩)) rfl rfl rfl rfl ?_
  refine r_v (Value.pointer (some ⟨bb, 0, none⟩)) rfl rfl rfl rfl ?_
  refine r_v (Value.pointer (some ⟨bb, 0, none⟩)) rfl rfl rfl rfl ?_
  refine r_l (Value.pointer none) 0 _ _ _ _ rfl rfl rfl rfl rfl ?_
  refine r_v (Value.bool (true)) rfl rfl rfl rfl ?_
  refine lx_nil ?_
  refine hK1 _ _ ?_; try clear hK1 K1
  refine A_cond true rfl (fun _ => ?_) (fun h_ => nomatch h_)
  refine A_regC [(some 9, true), (some 10, true), (some 11, true)] (conG Try.prog [(9, fun v_ L_ U_ => (pUp (fun v_ U_ => v_ = Value.pointer (some ⟨bb, 0, none⟩) ∧ U_ = [(bb, 52, #[Value.pointer none, Value.slice none 0 0])])) v_ L_ U_), (10, fun v_ L_ U_ => (pUp (fun v_ U_ => v_ = Value.pointer (some ⟨bb, 0, none⟩) ∧ U_ = [(bb, 52, #[Value.pointer none, Value.slice none 0 0])])) v_ L_ U_), (11, fun v_ L_ U_ => (pUp (fun v_ U_ => v_ = Value.pointer (some ⟨bb, 0, none⟩) ∧ U_ = [(bb, 52, #[Value.pointer none, Value.slice none 0 0])])) v_ L_ U_)]) ?_
  refine r_v (Value.pointer (some ⟨bb, 0, none⟩)) rfl rfl rfl rfl ?_
  refine r_v (Value.pointer (some ⟨bb, 0, none⟩)) rfl rfl rfl rfl ?_
  refine r_hv (Ls := [[(bb, 52, #[Value.pointer none, Value.slice none 0 0])]]) (Value.pointer (some ⟨bb, 0, none⟩)) 0 rfl rfl rfl rfl rfl (run_toU (TB := 52) (cs := #[Value.pointer none, Value.slice none 0 0]) rfl rfl rfl rfl rfl rfl rfl (List.mem_singleton.2 rfl)) (fun _ _ _ _ _ => Iff.rfl) ?_
  refine r_hv (Ls := [[(bb, 52, #[Value.pointer none, Value.slice none 0 0])]]) (Value.pointer (some ⟨bb, 0, none⟩)) 0 rfl rfl rfl rfl rfl (fun w_ _ => run_ext (args := #[Value.pointer (some ⟨bb, 0, none⟩)]) (e := Extern.AbiNoEscape.same) (w' := w_) (exec_fn rfl) Try.func46 (by kernel_rfl) (by kernel_rfl) (by kernel_rfl) (by kernel_rfl) rfl) (fun _ _ _ _ _ => Iff.rfl) ?_
  refine r_hv (Ls := [[(bb, 52, #[Value.pointer none, Value.slice none 0 0])]]) (Value.pointer (some ⟨bb, 0, none⟩)) 0 rfl rfl rfl rfl rfl (run_fromU (TB := 52) (cs := #[Value.pointer none, Value.slice none 0 0]) 2 rfl rfl rfl rfl rfl (List.mem_singleton.2 rfl) rfl (by kernel_rfl)) (fun _ _ _ _ _ => Iff.rfl) ?_
  refine r_v (Value.pointer (some ⟨bb, 0, none⟩)) rfl rfl rfl rfl ?_
  refine r_v (Value.pointer (some ⟨bb, 0, none⟩)) rfl rfl rfl rfl ?_
  refine r_s [(bb, 52, #[Value.pointer (some ⟨bb, 0, none⟩), Value.slice none 0 0])] 0 _ _ _ (#[Value.pointer none, Value.slice none 0 0]) (#[Value.pointer (some ⟨bb, 0, none⟩)]) (#[Value.pointer (some ⟨bb, 0, none⟩), Value.slice none 0 0]) rfl rfl rfl rfl (.of rfl rfl) rfl rfl ?_
  refine lx_nil ?_
  obtain rfl := Option.some.inj hM
  refine endsN (v0 := Value.tuple #[]) (O := [[(bb, 52, #[Value.pointer (some ⟨bb, 0, none⟩), Value.slice none 0 0])]]) rfl (Sub.pick [[(bb, 52, #[Value.pointer (some ⟨bb, 0, none⟩), Value.slice none 0 0])]] [0] rfl) ⟨rfl, rfl⟩
def strings_Builder_grow_v1_m (_ : Nat) (n : Int) : Option (List UInt8) := ck ((-9223372036854775808 ≤ (0 + n) ∧ (0 + n) ≤ 9223372036854775807)) (ck (0 ≤ (0 + n) ∧ (0 + n) ≤ 140737488355328) (some (((([] : List UInt8)).take (([] : List UInt8)).length ++ (([] : List UInt8)).drop (([] : List UInt8)).length))))
set_option maxRecDepth 100000 in
set_option maxHeartbeats 400000 in
theorem strings_Builder_grow_v1_g (N : Nat) (n : Int) (r : List UInt8) (hM : strings_Builder_grow_v1_m N n = some r) (ro : Addr → Option Value) (bb : Nat) : Does Try.prog 44 #[Value.pointer (some ⟨bb, 0, none⟩), Value.int .i64 (n)] ro [(bb, 52, #[Value.pointer (some ⟨bb, 0, none⟩), Value.slice none 0 0])] (pO [(bb, 52, #[Value.pointer (some ⟨bb, 0, none⟩), Value.slice none 0 0])] (oS 5 encYs r fun s_0 => (oE (Value.tuple #[]) [[(bb, 52, #[Value.pointer (some ⟨bb, 0, none⟩), s_0])]]))) := by
  unfold strings_Builder_grow_v1_m at hM
  refine doesO_of_A follows Try.func44 rfl 30 rfl (upd (upd (fun _ => undef) 1 (Value.int .i64 (n))) 0 (Value.pointer (some ⟨bb, 0, none⟩))) (by funext k; match k with | 0 => rfl | 1 => rfl | k + 2 => rfl) (fun _ _ h_ _ => h_) (fun base0_ => ?_)
  refine A_seq fun K1 hK1 => ?_
  refine A_drawR [(some 13, false)] (conG Try.prog [(13, fun v_ L_ U_ => (pMnz 5 ((0 + n)).toNat) v_ L_ U_)]) [] (by decide +kernel) (fun hn => sep_nil) ?_
  refine r_v (Value.pointer (some ⟨bb, 0, none⟩)) rfl rfl rfl rfl ?_
  refine r_v (Value.pointer (some ⟨bb, 0, none⟩)) rfl rfl rfl rfl ?_
  refine r_v (Value.pointer (some ⟨bb, 1, none⟩)) rfl rfl rfl rfl ?_
  refine r_l (Value.slice none 0 0) 0 _ _ _ _ rfl rfl rfl rfl rfl ?_
  refine r_v (Value.int .i64 (0)) rfl rfl rfl (ev_cap0 rfl rfl rfl) ?_
  refine r_v (Value.int .i64 (0)) rfl rfl (wi64 rfl (by decide) (by decide)) rfl ?_
  refine r_v (Value.int .i64 (n)) rfl rfl rfl rfl ?_
  replace hM := ck_some hM; obtain ⟨ck2, hM⟩ := hM
  refine r_v (Value.int .i64 ((0 + n))) rfl rfl (wi64 rfl ck2.1 ck2.2) rfl ?_
  replace hM := ck_some hM; obtain ⟨ck3, hM⟩ := hM
  refine r_mnz (Ls := [[(bb, 52, #[Value.pointer (some ⟨bb, 0, none⟩), Value.slice none 0 0])]]) (ps := #[3]) (t := 50) 5 ((0 + n)) rfl rfl rfl (exec_fn rfl) Try.func47 (by kernel_rfl) (by kernel_rfl) (by kernel_rfl) (by kernel_rfl) rfl ck3 (fun _ _ _ _ _ => Iff.rfl) (fun s5 S6 xs4 _ H7 => ?_)
  refine r_v (Value.pointer (some ⟨bb, 0, none⟩)) rfl rfl rfl rfl ?_
  refine r_v (Value.pointer (some ⟨bb, 0, none⟩)) rfl rfl rfl rfl ?_
  refine r_v (Value.pointer (some ⟨bb, 1, none⟩)) rfl rfl rfl rfl ?_
  refine r_l (Value.slice none 0 0) 0 _ _ _ _ rfl rfl rfl rfl rfl ?_
  refine r_v (Value.int .i64 (((([] : List UInt8)).length : Int))) rfl rfl rfl (ev_lenSl rfl rfl rfl (.inl ⟨rfl, rfl⟩)) ?_
  refine r_v (subA s5 0 ((((([] : List UInt8)).length : Int)).toNat) 1) rfl rfl rfl (ev_v (ev_subSl2 rfl rfl rfl rfl (Sl.shp H7) (by exact ⟨by decide, Int.natCast_nonneg _⟩))) ?_
  refine r_v (subA s5 0 ((((([] : List UInt8)).length : Int)).toNat) 1) rfl rfl rfl rfl ?_
  refine lx_nil ?_
  refine hK1 _ _ ?_; try clear hK1 K1
  refine A_seq fun K8 hK8 => ?_
  refine A_regC [(some 25, true)] (conG Try.prog [(25, fun v_ L_ U_ => (pUp (fun v_ U_ => v_ = .int .i64 ((min (([] : List UInt8)).length (([] : List UInt8)).length : Nat) : Int) ∧ Sl 5 encYs (subA s5 0 ((((([] : List UInt8)).length : Int)).toNat) 1) ((([] : List UInt8)).take (([] : List UInt8)).length ++ (([] : List UInt8)).drop (([] : List UInt8)).length) U_ ∧ U_.map (·.1) = S6.map (·.1))) v_ L_ U_)]) ?_
  refine r_v (subA s5 0 ((((([] : List UInt8)).length : Int)).toNat) 1) rfl rfl rfl rfl ?_
  refine r_v (Value.pointer (some ⟨bb, 0, none⟩)) rfl rfl rfl rfl ?_
  refine r_v (Value.pointer (some ⟨bb, 0, none⟩)) rfl rfl rfl rfl ?_
  refine r_v (Value.pointer (some ⟨bb, 1, none⟩)) rfl rfl rfl rfl ?_
  refine r_l (Value.slice none 0 0) 0 _ _ _ _ rfl rfl rfl rfl rfl ?_
  refine r_cpy (Ls := [[(bb, 52, #[Value.pointer (some ⟨bb, 0, none⟩), Value.slice none 0 0])], S6]) 1 (En := encYs) (ys := ([] : List UInt8)) rfl rfl rfl rfl rfl rfl (Sl.take00 H7) (.inl ⟨rfl, rfl⟩) (fun _ _ _ => .inl ⟨rfl, rfl⟩) rfl rfl rfl rfl (fun _ _ _ _ _ => Iff.rfl) (fun S9 H10 => ?_)
  refine lx_nil ?_
  refine hK8 _ _ ?_; try clear hK8 K8
  refine A_reg ?_
  refine r_v (Value.pointer (some ⟨bb, 0, none⟩)) rfl rfl rfl rfl ?_
  refine r_v (subA s5 0 ((((([] : List UInt8)).length : Int)).toNat) 1) rfl rfl rfl rfl ?_
  refine r_v (Value.pointer (some ⟨bb, 0, none⟩)) rfl rfl rfl rfl ?_
  refine r_v (Value.pointer (some ⟨bb, 1, none⟩)) rfl rfl rfl rfl ?_
  refine r_s (List.flatten [[(bb, 52, #[Value.pointer (some ⟨bb, 0, none⟩), subA s5 0 ((((([] : List UInt8)).length : Int)).toNat) 1])], S9]) 0 _ _ _ (#[Value.pointer (some ⟨bb, 0, none⟩), Value.slice none 0 0]) (#[subA s5 0 ((((([] : List UInt8)).length : Int)).toNat) 1]) (#[Value.pointer (some ⟨bb, 0, none⟩), subA s5 0 ((((([] : List UInt8)).length : Int)).toNat) 1]) rfl rfl rfl (cells_sl rfl (Sl.shp H10)) (.ofS rfl rfl (all_cons' (Shp.one (Sl.shp H10)) all_nil')) rfl rfl ?_
  refine lx_nil ?_
  obtain rfl := Option.some.inj hM
  refine endsN (v0 := Value.tuple #[]) (O := [S9, [(bb, 52, #[Value.pointer (some ⟨bb, 0, none⟩), subA s5 0 ((((([] : List UInt8)).length : Int)).toNat) 1])]]) rfl (Sub.pick [[(bb, 52, #[Value.pointer (some ⟨bb, 0, none⟩), subA s5 0 ((((([] : List UInt8)).length : Int)).toNat) 1])], S9] [1, 0] rfl) ⟨subA s5 0 ((((([] : List UInt8)).length : Int)).toNat) 1, S9, _, H10, ⟨rfl, rfl⟩, rfl⟩
def strings_Builder_Grow_v1_k1 (N : Nat) (n : Int) : Option (List UInt8) := ck ((-9223372036854775808 ≤ (0 - ((([] : List UInt8)).length : Int)) ∧ (0 - ((([] : List UInt8)).length : Int)) ≤ 9223372036854775807)) (if ((0 - ((([] : List UInt8)).length : Int)) : Int) < n then (strings_Builder_grow_v1_m N n).bind fun r7 => some (r7) else some (([] : List UInt8)))
def strings_Builder_Grow_v1_m (N : Nat) (n : Int) : Option (List UInt8) := (strings_Builder_copyCheck_v1_m N ).bind fun r2 => if (n : Int) < 0 then none else strings_Builder_Grow_v1_k1 N n 
set_option maxRecDepth 100000 in
set_option maxHeartbeats 400000 in
theorem strings_Builder_Grow_v1_g (N : Nat) (n : Int) (r : List UInt8) (hM : strings_Builder_Grow_v1_m N n = some r) (ro : Addr → Option Value) (bb : Nat) : Does Try.prog 36 #[Value.pointer (some ⟨bb, 0, none⟩), Value.int .i64 (n)] ro [(bb, 52, #[Value.pointer none, Value.slice none 0 0])] (pO [(bb, 52, #[Value.pointer none, Value.slice none 0 0])] (oS 5 encYs r fun s_0 => (oE (Value.tuple #[]) [[(bb, 52, #[Value.pointer (some ⟨bb, 0, none⟩), s_0])]]))) := by
  unfold strings_Builder_Grow_v1_m at hM
  refine doesO_of_A follows Try.func36 rfl 25 rfl (upd (upd (fun _ => undef) 1 (Value.int .i64 (n))) 0 (Value.pointer (some ⟨bb, 0, none⟩))) (by funext k; match k with | 0 => rfl | 1 => rfl | k + 2 => rfl) (fun _ _ h_ _ => h_) (fun base0_ => ?_)
  refine A_seq fun K1 hK1 => ?_
  refine A_regC [(some 5, true)] (conG Try.prog [(5, fun v_ L_ U_ => (pO (List.flatten [[(bb, 52, #[Value.pointer none, Value.slice none 0 0])]]) (oE (Value.tuple #[]) [[(bb, 52, #[Value.pointer (some ⟨bb, 0, none⟩), Value.slice none 0 0])]])) v_ L_ U_)]) ?_
  refine r_v (Value.pointer (some ⟨bb, 0, none⟩)) rfl rfl rfl rfl ?_
  replace hM := bind_sm hM; obtain ⟨r2, hr3, hM⟩ := hM
  refine r_gm (Ls := [[(bb, 52, #[Value.pointer none, Value.slice none 0 0])]]) (FL := [[(bb, 52, #[Value.pointer none, Value.slice none 0 0])]]) (RL := []) [0] (oE (Value.tuple #[]) [[(bb, 52, #[Value.pointer (some ⟨bb, 0, none⟩), Value.slice none 0 0])]]) (some 5) 43 _ rfl rfl rfl rfl rfl (ev_callF rfl call_43 rfl) (fun own_ nw_ hn_ hs_ => strings_Builder_copyCheck_v1_g N  _ hr3 _ bb) (fun _ _ _ _ _ => Iff.rfl) (NiceO.sub (R := ([(bb, 52, #[Value.pointer none, Value.slice none 0 0])] ++ [])) (niceE rfl) (Sub.pick [[(bb, 52, #[Value.pointer none, Value.slice none 0 0])]] [0] rfl)) ?_
  rintro _ _ ⟨rfl, rfl⟩
  refine lx_perm (Ls := [[(bb, 52, #[Value.pointer (some ⟨bb, 0, none⟩), Value.slice none 0 0])]]) (Ls' := [[(bb, 52, #[Value.pointer (some ⟨bb, 0, none⟩), Value.slice none 0 0])]]) [0] rfl rfl ?_
  refine lx_nil ?_
  refine hK1 _ _ ?_; try clear hK1 K1
  refine A_cut (fun tt ll => (strings_Builder_Grow_v1_k1 N n  = some r) ∧ Is [(0, Value.pointer (some ⟨bb, 0, none⟩)), (1, Value.int .i64 (n))] [(bb, 52, #[Value.pointer (some ⟨bb, 0, none⟩), Value.slice none 0 0])] tt ll) ?_ ?_
  · refine A_seq fun K12 hK12 => ?_
    refine A_reg ?_
    refine r_v (Value.int .i64 (n)) rfl rfl rfl rfl ?_
    refine r_v (Value.bool (decide ((n : Int) < 0))) rfl rfl rfl rfl ?_
    refine lx_nil ?_
    refine hK12 _ _ ?_; try clear hK12 K12
    refine A_cond (decide ((n : Int) < 0)) rfl (fun hc13 => ?_) (fun hc13 => ?_)
    · replace hM := ifp (of_decide_eq_true hc13) hM
      refine A_reg ?_
      refine r_v (Value.iface 9 (Value.string (⟨#[115, 116, 114, 105, 110, 103, 115, 46, 66, 117, 105, 108, 100, 101, 114, 46, 71, 114, 111, 119, 58, 32, 110, 101, 103, 97, 116, 105, 118, 101, 32, 99, 111, 117, 110, 116]⟩))) rfl rfl rfl rfl ?_
      cases hM
    · replace hM := ifn (of_decide_eq_false hc13) hM
      refine A_skip ?_
      refine fg _ (Sub.of (List.Sublist.cons_cons _ (List.Sublist.slnil))) ?_
      exact ⟨hM, is_mk rfl rfl⟩
  · clear hM; rintro t l ⟨hM, ⟨T, rfl⟩, rfl⟩
    unfold strings_Builder_Grow_v1_k1 at hM
    refine A_seq fun K4 hK4 => ?_
    refine A_draw [] (by decide +kernel) (fun hn => sep_nil) ?_
    refine r_v (Value.pointer (some ⟨bb, 0, none⟩)) rfl rfl rfl rfl ?_
    refine r_v (Value.pointer (some ⟨bb, 0, none⟩)) rfl rfl rfl rfl ?_
    refine r_v (Value.pointer (some ⟨bb, 1, none⟩)) rfl rfl rfl rfl ?_
    refine r_l (Value.slice none 0 0) 0 _ _ _ _ rfl rfl rfl rfl rfl ?_
    refine r_v (Value.int .i64 (0)) rfl rfl rfl (ev_cap0 rfl rfl rfl) ?_
    refine r_v (Value.pointer (some ⟨bb, 0, none⟩)) rfl rfl rfl rfl ?_
    refine r_v (Value.pointer (some ⟨bb, 0, none⟩)) rfl rfl rfl rfl ?_
    refine r_v (Value.pointer (some ⟨bb, 1, none⟩)) rfl rfl rfl rfl ?_
    refine r_l (Value.slice none 0 0) 0 _ _ _ _ rfl rfl rfl rfl rfl ?_
    refine r_v (Value.int .i64 (((([] : List UInt8)).length : Int))) rfl rfl rfl (ev_lenSl rfl rfl rfl (.inl ⟨rfl, rfl⟩)) ?_
    replace hM := ck_some hM; obtain ⟨ck5, hM⟩ := hM
    refine r_v (Value.int .i64 ((0 - ((([] : List UInt8)).length : Int)))) rfl rfl (wi64 rfl ck5.1 ck5.2) rfl ?_
    refine r_v (Value.int .i64 (n)) rfl rfl rfl rfl ?_
    refine r_v (Value.bool (decide (((0 - ((([] : List UInt8)).length : Int)) : Int) < n))) rfl rfl rfl rfl ?_
    refine lx_nil ?_
    refine hK4 _ _ ?_; try clear hK4 K4
    refine A_cond (decide (((0 - ((([] : List UInt8)).length : Int)) : Int) < n)) rfl (fun hc6 => ?_) (fun hc6 => ?_)
    · replace hM := ifp (of_decide_eq_true hc6) hM
      refine A_regC [(some 24, true)] (conG Try.prog [(24, fun v_ L_ U_ => ∀ u0_, strings_Builder_grow_v1_m N n = some u0_ → (pO (List.flatten [[(bb, 52, #[Value.pointer (some ⟨bb, 0, none⟩), Value.slice none 0 0])]]) (oS 5 encYs u0_ fun s_0 => (oE (Value.tuple #[]) [[(bb, 52, #[Value.pointer (some ⟨bb, 0, none⟩), s_0])]]))) v_ L_ U_)]) ?_
      refine r_v (Value.pointer (some ⟨bb, 0, none⟩)) rfl rfl rfl rfl ?_
      refine r_v (Value.int .i64 (n)) rfl rfl rfl rfl ?_
      replace hM := bind_sm hM; obtain ⟨r7, hr8, hM⟩ := hM
      refine r_gm (Ls := [[(bb, 52, #[Value.pointer (some ⟨bb, 0, none⟩), Value.slice none 0 0])]]) (FL := [[(bb, 52, #[Value.pointer (some ⟨bb, 0, none⟩), Value.slice none 0 0])]]) (RL := []) [0] (oS 5 encYs r7 fun s_0 => (oE (Value.tuple #[]) [[(bb, 52, #[Value.pointer (some ⟨bb, 0, none⟩), s_0])]])) (some 24) 44 _ rfl rfl rfl rfl rfl (ev_callF rfl call_44 rfl) (fun own_ nw_ hn_ hs_ => strings_Builder_grow_v1_g N n _ hr8 _ bb) (fun _ _ v_ L_ U_ => ⟨fun h_ => h_ _ hr8, fun h_ => by intro _ e_; cases Option.some.inj (e_.symm.trans hr8); exact h_⟩) (NiceO.sub (R := ([(bb, 52, #[Value.pointer (some ⟨bb, 0, none⟩), Value.slice none 0 0])] ++ [])) (niceS fun s_0 => (niceE rfl)) (Sub.pick [[(bb, 52, #[Value.pointer (some ⟨bb, 0, none⟩), Value.slice none 0 0])]] [0] rfl)) ?_
      rintro _ _ ⟨s9, S10, _, H11, ⟨rfl, rfl⟩, rfl⟩
      refine lx_perm (Ls := [S10, [(bb, 52, #[Value.pointer (some ⟨bb, 0, none⟩), s9])]]) (Ls' := [[(bb, 52, #[Value.pointer (some ⟨bb, 0, none⟩), s9])], S10]) [1, 0] rfl rfl ?_
      refine lx_nil ?_
      obtain rfl := Option.some.inj hM
      refine endsN (v0 := Value.tuple #[]) (O := [S10, [(bb, 52, #[Value.pointer (some ⟨bb, 0, none⟩), s9])]]) rfl (Sub.pick [[(bb, 52, #[Value.pointer (some ⟨bb, 0, none⟩), s9])], S10] [1, 0] rfl) ⟨s9, S10, _, H11, ⟨rfl, rfl⟩, rfl⟩
    · replace hM := ifn (of_decide_eq_false hc6) hM
      refine A_skip ?_
      obtain rfl := Option.some.inj hM
      refine endsN (v0 := Value.tuple #[]) (O := [[], [(bb, 52, #[Value.pointer (some ⟨bb, 0, none⟩), Value.slice none 0 0])]]) rfl (Sub.pickE (Ls := [[(bb, 52, #[Value.pointer (some ⟨bb, 0, none⟩), Value.slice none 0 0])], []]) (Ls0 := [[(bb, 52, #[Value.pointer (some ⟨bb, 0, none⟩), Value.slice none 0 0])]]) rfl [1, 0] rfl) ⟨Value.slice none 0 0, [], _, Sl.nil, ⟨rfl, rfl⟩, rfl⟩
def name_Fold_k2 (N : Nat) (c : Int) (x1_ : Bool) : Option (Int) := if (x1_) = true then some ((IntKind.i32.wrap (c + 32))) else (name_within_m N c 1024 1039).bind fun r11 => if (r11) = true then some ((IntKind.i32.wrap (c + 80))) else if (c : Int) = 962 then some (963) else some (c)
def name_Fold_m (N : Nat) (c : Int) : Option (Int) := (name_Letter_m N c).bind fun r4 => if (r4) = true then (name_within_m N c 65 90).bind fun r20 => if (r20) = true then name_Fold_k2 N c (r20) else (name_within_m N c 192 222).bind fun r24 => if (r24) = true then name_Fold_k2 N c (r24) else (name_within_m N c 913 937).bind fun r28 => if (r28) = true then name_Fold_k2 N c (r28) else (name_within_m N c 1040 1071).bind fun r31 => name_Fold_k2 N c (r31) else some (c)
set_option maxRecDepth 100000 in
set_option maxHeartbeats 400000 in
theorem name_Fold_g (N : Nat) (c : Int) (r : Int) (hM : name_Fold_m N c = some r) : Gives Try.prog 20 #[Value.int .i32 (c)] (Value.int .i32 (r)) := by
  unfold name_Fold_m at hM
  refine gives_of_A follows Try.func20 rfl 28 rfl (upd (fun _ => undef) 0 (Value.int .i32 (c))) (by funext k; match k with | 0 => rfl | k + 1 => rfl) (fun base0_ => ?_)
  refine A_seq fun K1 hK1 => ?_
  refine A_reg ?_
  refine r_v (Value.int .i32 (0)) rfl rfl rfl rfl ?_
  refine lx_nil ?_
  refine hK1 _ _ ?_; try clear hK1 K1
  refine A_seq fun K2 hK2 => ?_
  refine A_block ?_
  refine A_seq fun K3 hK3 => ?_
  refine A_reg ?_
  refine r_v (Value.int .i32 (c)) rfl rfl rfl rfl ?_
  replace hM := bind_sm hM; obtain ⟨r4, hr5, hM⟩ := hM
  refine r_c (Value.bool (r4)) rfl _ _ (ev_callF rfl call_17 rfl) (name_Letter_g N c _ hr5) ?_
  refine r_v (Value.bool (!(r4))) rfl rfl rfl rfl ?_
  refine r_v (Value.bool (!(r4))) rfl rfl rfl rfl ?_
  refine lx_nil ?_
  refine hK3 _ _ ?_; try clear hK3 K3
  refine A_cond (!(r4)) rfl (fun hc6 => ?_) (fun hc6 => ?_)
  · replace hM := ifn (Bool.eq_false_iff.1 (not_t hc6)) hM
    refine A_seq fun K7 hK7 => ?_
    refine A_reg ?_
    refine r_v (Value.int .i32 (c)) rfl rfl rfl rfl ?_
    refine r_v (Value.int .i32 (c)) rfl rfl rfl rfl ?_
    refine lx_nil ?_
    refine hK7 _ _ ?_; try clear hK7 K7
    obtain rfl := Option.some.inj hM
    refine A_ret (fun hn => ends_eq (v0 := Value.int .i32 (c)) rfl (res1 rfl))
  · replace hM := ifp (not_f hc6) hM
    refine A_cut (fun tt ll => ∃ (x1_ : Bool), (name_Fold_k2 N c x1_ = some r) ∧ Is [(0, Value.int .i32 (c)), (8, Value.bool (x1_))] [] tt ll) ?_ ?_
    · refine A_seq fun K19 hK19 => ?_
      refine A_reg ?_
      refine r_v (Value.int .i32 (c)) rfl rfl rfl rfl ?_
      replace hM := bind_sm hM; obtain ⟨r20, hr21, hM⟩ := hM
      refine r_c (Value.bool (r20)) rfl _ _ (ev_callF rfl call_35 rfl) (name_within_g N c 65 90 _ hr21) ?_
      refine r_v (Value.bool (r20)) rfl rfl rfl rfl ?_
      refine lx_nil ?_
      refine hK19 _ _ ?_; try clear hK19 K19
      refine A_cond (r20) rfl (fun hc22 => ?_) (fun hc22 => ?_)
      · replace hM := ifp hc22 hM
        refine A_skip ?_
        refine fg _ (Sub.of (List.Sublist.slnil)) ?_
        exact ⟨r20, hM, is_mk rfl rfl⟩
      · replace hM := ifn (Bool.eq_false_iff.1 hc22) hM
        refine A_seq fun K23 hK23 => ?_
        refine A_reg ?_
        refine r_v (Value.int .i32 (c)) rfl rfl rfl rfl ?_
        replace hM := bind_sm hM; obtain ⟨r24, hr25, hM⟩ := hM
        refine r_c (Value.bool (r24)) rfl _ _ (ev_callF rfl call_35 rfl) (name_within_g N c 192 222 _ hr25) ?_
        refine r_v (Value.bool (r24)) rfl rfl rfl rfl ?_
        refine lx_nil ?_
        refine hK23 _ _ ?_; try clear hK23 K23
        refine A_cond (r24) rfl (fun hc26 => ?_) (fun hc26 => ?_)
        · replace hM := ifp hc26 hM
          refine A_skip ?_
          refine fg _ (Sub.of (List.Sublist.slnil)) ?_
          exact ⟨r24, hM, is_mk rfl rfl⟩
        · replace hM := ifn (Bool.eq_false_iff.1 hc26) hM
          refine A_seq fun K27 hK27 => ?_
          refine A_reg ?_
          refine r_v (Value.int .i32 (c)) rfl rfl rfl rfl ?_
          replace hM := bind_sm hM; obtain ⟨r28, hr29, hM⟩ := hM
          refine r_c (Value.bool (r28)) rfl _ _ (ev_callF rfl call_35 rfl) (name_within_g N c 913 937 _ hr29) ?_
          refine r_v (Value.bool (r28)) rfl rfl rfl rfl ?_
          refine lx_nil ?_
          refine hK27 _ _ ?_; try clear hK27 K27
          refine A_cond (r28) rfl (fun hc30 => ?_) (fun hc30 => ?_)
          · replace hM := ifp hc30 hM
            refine A_skip ?_
            refine fg _ (Sub.of (List.Sublist.slnil)) ?_
            exact ⟨r28, hM, is_mk rfl rfl⟩
          · replace hM := ifn (Bool.eq_false_iff.1 hc30) hM
            refine A_reg ?_
            refine r_v (Value.int .i32 (c)) rfl rfl rfl rfl ?_
            replace hM := bind_sm hM; obtain ⟨r31, hr32, hM⟩ := hM
            refine r_c (Value.bool (r31)) rfl _ _ (ev_callF rfl call_35 rfl) (name_within_g N c 1040 1071 _ hr32) ?_
            refine r_v (Value.bool (r31)) rfl rfl rfl rfl ?_
            refine lx_nil ?_
            refine fg _ (Sub.of (List.Sublist.slnil)) ?_
            exact ⟨r31, hM, is_mk rfl rfl⟩
    · clear hM; rintro t l ⟨x1_, hM, ⟨T, rfl⟩, rfl⟩
      unfold name_Fold_k2 at hM
      refine A_cond (x1_) rfl (fun hc8 => ?_) (fun hc8 => ?_)
      · replace hM := ifp hc8 hM
        refine A_seq fun K9 hK9 => ?_
        refine A_reg ?_
        refine r_v (Value.int .i32 (c)) rfl rfl rfl rfl ?_
        refine r_v (Value.int .i32 ((IntKind.i32.wrap (c + 32)))) rfl rfl rfl rfl ?_
        refine r_v (Value.int .i32 ((IntKind.i32.wrap (c + 32)))) rfl rfl rfl rfl ?_
        refine lx_nil ?_
        refine hK9 _ _ ?_; try clear hK9 K9
        obtain rfl := Option.some.inj hM
        refine A_ret (fun hn => ends_eq (v0 := Value.int .i32 ((IntKind.i32.wrap (c + 32)))) rfl (res1 rfl))
      · replace hM := ifn (Bool.eq_false_iff.1 hc8) hM
        refine A_seq fun K10 hK10 => ?_
        refine A_reg ?_
        refine r_v (Value.int .i32 (c)) rfl rfl rfl rfl ?_
        replace hM := bind_sm hM; obtain ⟨r11, hr12, hM⟩ := hM
        refine r_c (Value.bool (r11)) rfl _ _ (ev_callF rfl call_35 rfl) (name_within_g N c 1024 1039 _ hr12) ?_
        refine r_v (Value.bool (r11)) rfl rfl rfl rfl ?_
        refine lx_nil ?_
        refine hK10 _ _ ?_; try clear hK10 K10
        refine A_cond (r11) rfl (fun hc13 => ?_) (fun hc13 => ?_)
        · replace hM := ifp hc13 hM
          refine A_seq fun K14 hK14 => ?_
          refine A_reg ?_
          refine r_v (Value.int .i32 (c)) rfl rfl rfl rfl ?_
          refine r_v (Value.int .i32 ((IntKind.i32.wrap (c + 80)))) rfl rfl rfl rfl ?_
          refine r_v (Value.int .i32 ((IntKind.i32.wrap (c + 80)))) rfl rfl rfl rfl ?_
          refine lx_nil ?_
          refine hK14 _ _ ?_; try clear hK14 K14
          obtain rfl := Option.some.inj hM
          refine A_ret (fun hn => ends_eq (v0 := Value.int .i32 ((IntKind.i32.wrap (c + 80)))) rfl (res1 rfl))
        · replace hM := ifn (Bool.eq_false_iff.1 hc13) hM
          refine A_seq fun K15 hK15 => ?_
          refine A_reg ?_
          refine r_v (Value.int .i32 (c)) rfl rfl rfl rfl ?_
          refine r_v (Value.bool (((c : Int) == 962))) rfl rfl rfl rfl ?_
          refine r_v (Value.bool (((c : Int) == 962))) rfl rfl rfl rfl ?_
          refine lx_nil ?_
          refine hK15 _ _ ?_; try clear hK15 K15
          refine A_cond (((c : Int) == 962)) rfl (fun hc16 => ?_) (fun hc16 => ?_)
          · replace hM := ifp (eq_of_beq hc16) hM
            refine A_seq fun K17 hK17 => ?_
            refine A_reg ?_
            refine r_v (Value.int .i32 (963)) rfl rfl rfl rfl ?_
            refine lx_nil ?_
            refine hK17 _ _ ?_; try clear hK17 K17
            obtain rfl := Option.some.inj hM
            refine A_ret (fun hn => ends_eq (v0 := Value.int .i32 (963)) rfl (res1 rfl))
          · replace hM := ifn (ne_of_beq_false hc16) hM
            refine A_skip ?_
            refine hK2 _ _ ?_; try clear hK2 K2
            refine A_seq fun K18 hK18 => ?_
            refine A_reg ?_
            refine r_v (Value.int .i32 (c)) rfl rfl rfl rfl ?_
            refine r_v (Value.int .i32 (c)) rfl rfl rfl rfl ?_
            refine lx_nil ?_
            refine hK18 _ _ ?_; try clear hK18 K18
            obtain rfl := Option.some.inj hM
            refine A_ret (fun hn => ends_eq (v0 := Value.int .i32 (c)) rfl (res1 rfl))
def strings_Builder_copyCheck_v2_m (_ : Nat) (b : List UInt8) : Option (List UInt8) := some (b)
set_option maxRecDepth 100000 in
set_option maxHeartbeats 400000 in
theorem strings_Builder_copyCheck_v2_g (N : Nat) (b : List UInt8) (r : List UInt8) (hM : strings_Builder_copyCheck_v2_m N b = some r) (ro : Addr → Option Value) (bb : Nat) (bv : Value) (Sb : List Bl) (hb : Sl 5 encYs bv b Sb) : Does Try.prog 43 #[Value.pointer (some ⟨bb, 0, none⟩)] ro (List.flatten [[(bb, 52, #[Value.pointer none, bv])], Sb]) (pO (List.flatten [[(bb, 52, #[Value.pointer none, bv])], Sb]) (oI 5 encYs bv r (oE (Value.tuple #[]) [[(bb, 52, #[Value.pointer (some ⟨bb, 0, none⟩), bv])]]))) := by
  unfold strings_Builder_copyCheck_v2_m at hM
  refine doesO_of_A follows Try.func43 rfl 20 rfl (upd (fun _ => undef) 0 (Value.pointer (some ⟨bb, 0, none⟩))) (by funext k; match k with | 0 => rfl | k + 1 => rfl) (fun _ _ h_ _ => h_) (fun base0_ => ?_)
  refine A_seq fun K1 hK1 => ?_
  refine A_reg ?_
  refine r_v (Value.pointer (some ⟨bb, 0, none⟩)) rfl rfl rfl rfl ?_
  refine r_v (Value.pointer (some ⟨bb, 0, none⟩)) rfl rfl rfl rfl ?_
  refine r_v (Value.pointer (some ⟨bb, 0, none⟩)) rfl rfl rfl rfl ?_
  refine r_l (Value.pointer none) 0 _ _ _ _ rfl rfl rfl rfl rfl ?_
  refine r_v (Value.bool (true)) rfl rfl rfl rfl ?_
  refine lx_nil ?_
  refine hK1 _ _ ?_; try clear hK1 K1
  refine A_cond true rfl (fun _ => ?_) (fun h_ => nomatch h_)
  refine A_regC [(some 9, true), (some 10, true), (some 11, true)] (conG Try.prog [(9, fun v_ L_ U_ => (pUp (fun v_ U_ => v_ = Value.pointer (some ⟨bb, 0, none⟩) ∧ U_ = [(bb, 52, #[Value.pointer none, bv])])) v_ L_ U_), (10, fun v_ L_ U_ => (pUp (fun v_ U_ => v_ = Value.pointer (some ⟨bb, 0, none⟩) ∧ U_ = [(bb, 52, #[Value.pointer none, bv])])) v_ L_ U_), (11, fun v_ L_ U_ => (pUp (fun v_ U_ => v_ = Value.pointer (some ⟨bb, 0, none⟩) ∧ U_ = [(bb, 52, #[Value.pointer none, bv])])) v_ L_ U_)]) ?_
  refine r_v (Value.pointer (some ⟨bb, 0, none⟩)) rfl rfl rfl rfl ?_
  refine r_v (Value.pointer (some ⟨bb, 0, none⟩)) rfl rfl rfl rfl ?_
  refine r_hv (Ls := [[(bb, 52, #[Value.pointer none, bv])], Sb]) (Value.pointer (some ⟨bb, 0, none⟩)) 0 rfl rfl rfl rfl rfl (run_toU (TB := 52) (cs := #[Value.pointer none, bv]) rfl rfl rfl rfl rfl rfl rfl (List.mem_singleton.2 rfl)) (fun _ _ _ _ _ => Iff.rfl) ?_
  refine r_hv (Ls := [[(bb, 52, #[Value.pointer none, bv])], Sb]) (Value.pointer (some ⟨bb, 0, none⟩)) 0 rfl rfl rfl rfl rfl (fun w_ _ => run_ext (args := #[Value.pointer (some ⟨bb, 0, none⟩)]) (e := Extern.AbiNoEscape.same) (w' := w_) (exec_fn rfl) Try.func46 (by kernel_rfl) (by kernel_rfl) (by kernel_rfl) (by kernel_rfl) rfl) (fun _ _ _ _ _ => Iff.rfl) ?_
  refine r_hv (Ls := [[(bb, 52, #[Value.pointer none, bv])], Sb]) (Value.pointer (some ⟨bb, 0, none⟩)) 0 rfl rfl rfl rfl rfl (run_fromU (TB := 52) (cs := #[Value.pointer none, bv]) 2 rfl rfl rfl rfl rfl (List.mem_singleton.2 rfl) rfl (by kernel_rfl)) (fun _ _ _ _ _ => Iff.rfl) ?_
  refine r_v (Value.pointer (some ⟨bb, 0, none⟩)) rfl rfl rfl rfl ?_
  refine r_v (Value.pointer (some ⟨bb, 0, none⟩)) rfl rfl rfl rfl ?_
  refine r_s (List.flatten [[(bb, 52, #[Value.pointer (some ⟨bb, 0, none⟩), bv])], Sb]) 0 _ _ _ (#[Value.pointer none, bv]) (#[Value.pointer (some ⟨bb, 0, none⟩)]) (#[Value.pointer (some ⟨bb, 0, none⟩), bv]) rfl rfl rfl rfl (.of rfl rfl) rfl rfl ?_
  refine lx_nil ?_
  obtain rfl := Option.some.inj hM
  refine endsN (v0 := Value.tuple #[]) (O := [Sb, [(bb, 52, #[Value.pointer (some ⟨bb, 0, none⟩), bv])]]) rfl (Sub.pick [[(bb, 52, #[Value.pointer (some ⟨bb, 0, none⟩), bv])], Sb] [1, 0] rfl) ⟨Sb, _, hb, ⟨rfl, rfl⟩, rfl⟩
def unicode_utf8_appendRuneNonASCII_v1_k4 (p : List UInt8) (r' : Int) (x3_ : Bool) : Option (List UInt8) := if (x3_) = true then ck ((0 : Int) ≤ ((18#64).toNat : Int)) (ck ((0 : Int) ≤ ((12#64).toNat : Int)) (ck ((0 : Int) ≤ ((6#64).toNat : Int)) (ck ((p).length + ([((240 : UInt8) ||| (byteI ((shrI r' 18)))), ((128 : UInt8) ||| ((byteI ((shrI r' 12))) &&& (63 : UInt8))), ((128 : UInt8) ||| ((byteI ((shrI r' 6))) &&& (63 : UInt8))), ((128 : UInt8) ||| ((byteI (r')) &&& (63 : UInt8)))]).length ≤ 140737488355328) (some ((p ++ ([((240 : UInt8) ||| (byteI ((shrI r' 18)))), ((128 : UInt8) ||| ((byteI ((shrI r' 12))) &&& (63 : UInt8))), ((128 : UInt8) ||| ((byteI ((shrI r' 6))) &&& (63 : UInt8))), ((128 : UInt8) ||| ((byteI (r')) &&& (63 : UInt8)))]))))))) else ck ((p).length + ([(239 : UInt8), (191 : UInt8), (189 : UInt8)]).length ≤ 140737488355328) (some ((p ++ ([(239 : UInt8), (191 : UInt8), (189 : UInt8)]))))
def unicode_utf8_appendRuneNonASCII_v1_k2 (p : List UInt8) (r' : Int) (x1_ : Bool) : Option (List UInt8) := if (x1_) = true then ck ((0 : Int) ≤ ((12#64).toNat : Int)) (ck ((0 : Int) ≤ ((6#64).toNat : Int)) (ck ((p).length + ([((224 : UInt8) ||| (byteI ((shrI r' 12)))), ((128 : UInt8) ||| ((byteI ((shrI r' 6))) &&& (63 : UInt8))), ((128 : UInt8) ||| ((byteI (r')) &&& (63 : UInt8)))]).length ≤ 140737488355328) (some ((p ++ ([((224 : UInt8) ||| (byteI ((shrI r' 12)))), ((128 : UInt8) ||| ((byteI ((shrI r' 6))) &&& (63 : UInt8))), ((128 : UInt8) ||| ((byteI (r')) &&& (63 : UInt8)))])))))) else if ((((int32 (r')).toNat : Nat) : Int) : Int) > 65535 then unicode_utf8_appendRuneNonASCII_v1_k4 p r' (decide (((((int32 (r')).toNat : Nat) : Int) : Int) ≤ 1114111)) else unicode_utf8_appendRuneNonASCII_v1_k4 p r' (false)
def unicode_utf8_appendRuneNonASCII_v1_m (_ : Nat) (p : List UInt8) (r' : Int) : Option (List UInt8) := if ((((int32 (r')).toNat : Nat) : Int) : Int) ≤ 2047 then ck ((0 : Int) ≤ ((6#64).toNat : Int)) (ck ((p).length + ([((192 : UInt8) ||| (byteI ((shrI r' 6)))), ((128 : UInt8) ||| ((byteI (r')) &&& (63 : UInt8)))]).length ≤ 140737488355328) (some ((p ++ ([((192 : UInt8) ||| (byteI ((shrI r' 6)))), ((128 : UInt8) ||| ((byteI (r')) &&& (63 : UInt8)))]))))) else if ((((int32 (r')).toNat : Nat) : Int) : Int) < 55296 then unicode_utf8_appendRuneNonASCII_v1_k2 p r' (decide (((((int32 (r')).toNat : Nat) : Int) : Int) < 55296)) else if (57343 : Int) < (((int32 (r')).toNat : Nat) : Int) then unicode_utf8_appendRuneNonASCII_v1_k2 p r' (decide (((((int32 (r')).toNat : Nat) : Int) : Int) ≤ 65535)) else unicode_utf8_appendRuneNonASCII_v1_k2 p r' (false)
set_option maxRecDepth 100000 in
set_option maxHeartbeats 400000 in
theorem unicode_utf8_appendRuneNonASCII_v1_g (N : Nat) (p : List UInt8) (r' : Int) (r : List UInt8) (hM : unicode_utf8_appendRuneNonASCII_v1_m N p r' = some r) (ro : Addr → Option Value) (pv : Value) (Sp : List Bl) (hp : Sl 5 encYs pv p Sp) : Does Try.prog 48 #[pv, Value.int .i32 (r')] ro (List.flatten [Sp]) (pO (List.flatten [Sp]) (oS 5 encYs r fun s_0 => (oE (s_0) []))) := by
  unfold unicode_utf8_appendRuneNonASCII_v1_m at hM
  refine doesO_of_A follows Try.func48 rfl 78 rfl (upd (upd (fun _ => undef) 1 (Value.int .i32 (r'))) 0 (pv)) (by funext k; match k with | 0 => rfl | 1 => rfl | k + 2 => rfl) (fun _ _ h_ _ => h_) (fun base0_ => ?_)
  refine A_seq fun K1 hK1 => ?_
  refine A_reg ?_
  refine r_v (Value.slice none 0 0) rfl rfl rfl rfl ?_
  refine lx_nil ?_
  refine hK1 _ _ ?_; try clear hK1 K1
  refine A_seq fun K2 hK2 => ?_
  refine A_reg ?_
  refine r_v (Value.int .i32 (r')) rfl rfl rfl rfl ?_
  refine r_w (Value.int .u32 ((((int32 (r')).toNat : Nat) : Int))) rfl rfl (Z32_wrap (r')) (fun _ => rfl) ?_
  refine r_v (Value.int .u32 ((((int32 (r')).toNat : Nat) : Int))) rfl rfl rfl rfl ?_
  refine lx_nil ?_
  refine hK2 _ _ ?_; try clear hK2 K2
  refine A_block ?_
  refine A_seq fun K3 hK3 => ?_
  refine A_reg ?_
  refine r_v (Value.int .u32 ((((int32 (r')).toNat : Nat) : Int))) rfl rfl rfl rfl ?_
  refine r_v (Value.bool (decide (((((int32 (r')).toNat : Nat) : Int) : Int) ≤ 2047))) rfl rfl rfl rfl ?_
  refine r_v (Value.bool (decide (((((int32 (r')).toNat : Nat) : Int) : Int) ≤ 2047))) rfl rfl rfl rfl ?_
  refine lx_nil ?_
  refine hK3 _ _ ?_; try clear hK3 K3
  refine A_cond (decide (((((int32 (r')).toNat : Nat) : Int) : Int) ≤ 2047)) rfl (fun hc4 => ?_) (fun hc4 => ?_)
  · replace hM := ifp (of_decide_eq_true hc4) hM
    refine A_seq fun K5 hK5 => ?_
    refine A_regC [(some 23, false), (some 24, true)] (conG Try.prog []) ?_
    refine r_v (pv) rfl rfl rfl rfl ?_
    refine r_v (Value.int .i32 (r')) rfl rfl rfl rfl ?_
    replace hM := ck_some hM; obtain ⟨ck6, hM⟩ := hM
    refine r_v (Value.int .i32 ((shrI r' 6))) rfl rfl rfl (ev_shrJ (x := r') 6 rfl rfl) ?_
    refine r_w (Value.int .u8 ((((byteI ((shrI r' 6))).toNat : Nat) : Int))) rfl rfl (u8_wrap ((shrI r' 6))) (fun _ => rfl) ?_
    refine r_v (Value.int .u8 (((((192 : UInt8) ||| (byteI ((shrI r' 6)))).toNat : Nat) : Int))) rfl rfl (Y_or (192 : UInt8) (byteI ((shrI r' 6)))) rfl ?_
    refine r_v (Value.int .i32 (r')) rfl rfl rfl rfl ?_
    refine r_w (Value.int .u8 ((((byteI (r')).toNat : Nat) : Int))) rfl rfl (u8_wrap (r')) (fun _ => rfl) ?_
    refine r_v (Value.int .u8 (((((byteI (r')) &&& (63 : UInt8)).toNat : Nat) : Int))) rfl rfl (Y_and (byteI (r')) (63 : UInt8)) rfl ?_
    refine r_v (Value.int .u8 (((((128 : UInt8) ||| ((byteI (r')) &&& (63 : UInt8))).toNat : Nat) : Int))) rfl rfl (Y_or (128 : UInt8) ((byteI (r')) &&& (63 : UInt8))) rfl ?_
    refine r_bs (cs0 := []) (Ls := [Sp]) 5 encY [((192 : UInt8) ||| (byteI ((shrI r' 6)))), ((128 : UInt8) ||| ((byteI (r')) &&& (63 : UInt8)))] [Value.int .u8 (((((192 : UInt8) ||| (byteI ((shrI r' 6)))).toNat : Nat) : Int)), Value.int .u8 (((((128 : UInt8) ||| ((byteI (r')) &&& (63 : UInt8))).toNat : Nat) : Int))] [Value.int .u8 (0), Value.int .u8 (0)] rfl rfl rfl rfl rfl rfl rfl (by kernel_rfl) (by kernel_rfl) rfl rfl rfl (fun s7 S8 H9 => ?_)
    replace hM := ck_some hM; obtain ⟨ck10, hM⟩ := hM
    refine r_app (cs0 := []) (Ls := [Sp, S8]) 0 (En := encYs) rfl rfl rfl rfl rfl hp rfl (fun own_ nw_ hs_ => rd_strict ((rd_own H9 (mem_chunk (Ls := [Sp, S8]) (k := 1) rfl rfl)) own_ nw_ hs_)) rfl rfl rfl rfl rfl (app_b ck10 rfl) (app_m ck10 rfl) rfl (fun s11 S12 H13 => ?_)
    refine r_v (s11) rfl rfl rfl rfl ?_
    refine lx_nil ?_
    refine hK5 _ _ ?_; try clear hK5 K5
    obtain rfl := Option.some.inj hM
    refine A_ret (fun hn => endsO (v0 := s11) (O := [S12]) (res1 rfl) (Sub.pick [S12, S8] [0] rfl) ⟨s11, S12, _, H13, ⟨rfl, rfl⟩, rfl⟩)
  · replace hM := ifn (of_decide_eq_false hc4) hM
    refine A_cut (fun tt ll => ∃ (x1_ : Bool), (unicode_utf8_appendRuneNonASCII_v1_k2 p r' x1_ = some r) ∧ Is [(0, pv), (1, Value.int .i32 (r')), (5, Value.int .u32 ((((int32 (r')).toNat : Nat) : Int))), (25, Value.bool (x1_))] (List.flatten [Sp]) tt ll) ?_ ?_
    · refine A_seq fun K46 hK46 => ?_
      refine A_reg ?_
      refine r_v (Value.int .u32 ((((int32 (r')).toNat : Nat) : Int))) rfl rfl rfl rfl ?_
      refine r_v (Value.bool (decide (((((int32 (r')).toNat : Nat) : Int) : Int) < 55296))) rfl rfl rfl rfl ?_
      refine r_v (Value.bool (decide (((((int32 (r')).toNat : Nat) : Int) : Int) < 55296))) rfl rfl rfl rfl ?_
      refine lx_nil ?_
      refine hK46 _ _ ?_; try clear hK46 K46
      refine A_cond (decide (((((int32 (r')).toNat : Nat) : Int) : Int) < 55296)) rfl (fun hc47 => ?_) (fun hc47 => ?_)
      · replace hM := ifp (of_decide_eq_true hc47) hM
        refine A_skip ?_
        refine fg _ (Sub.pick [Sp] [0] rfl) ?_
        exact ⟨decide (((((int32 (r')).toNat : Nat) : Int) : Int) < 55296), hM, is_mk rfl rfl⟩
      · replace hM := ifn (of_decide_eq_false hc47) hM
        refine A_reg ?_
        refine r_v (Value.int .u32 ((((int32 (r')).toNat : Nat) : Int))) rfl rfl rfl rfl ?_
        refine r_v (Value.bool (decide ((57343 : Int) < (((int32 (r')).toNat : Nat) : Int)))) rfl rfl rfl rfl ?_
        refine r_v (Value.bool (decide ((57343 : Int) < (((int32 (r')).toNat : Nat) : Int)))) rfl rfl rfl rfl ?_
        rcases hg48 : (decide ((57343 : Int) < (((int32 (r')).toNat : Nat) : Int))) with _ | _
        · replace hM := ifn (of_decide_eq_false hg48) hM
          refine r_n false rfl (by decide) rfl ?_
          refine r_n false rfl (by decide) rfl ?_
          refine r_v (Value.bool (false)) rfl rfl rfl rfl ?_
          refine r_v (Value.bool (false)) rfl rfl rfl rfl ?_
          refine lx_nil ?_
          refine fg _ (Sub.pick [Sp] [0] rfl) ?_
          exact ⟨false, hM, is_mk (by first | rfl | (simp only [hg48]; done) | (simp only [hg48]; rfl) | (simp only [app_hl]; rfl)) rfl⟩
        · replace hM := ifp (of_decide_eq_true hg48) hM
          refine r_y rfl ?_
          refine r_v (Value.int .u32 ((((int32 (r')).toNat : Nat) : Int))) rfl rfl rfl rfl ?_
          refine r_y rfl ?_
          refine r_v (Value.bool (decide (((((int32 (r')).toNat : Nat) : Int) : Int) ≤ 65535))) rfl rfl rfl rfl ?_
          refine r_v (Value.bool (decide (((((int32 (r')).toNat : Nat) : Int) : Int) ≤ 65535))) rfl rfl rfl rfl ?_
          refine r_v (Value.bool (decide (((((int32 (r')).toNat : Nat) : Int) : Int) ≤ 65535))) rfl rfl rfl rfl ?_
          refine lx_nil ?_
          refine fg _ (Sub.pick [Sp] [0] rfl) ?_
          exact ⟨decide (((((int32 (r')).toNat : Nat) : Int) : Int) ≤ 65535), hM, is_mk (by first | rfl | (simp only [hg48]; done) | (simp only [hg48]; rfl) | (simp only [app_hl]; rfl)) rfl⟩
    · clear hM; rintro t l ⟨x1_, hM, ⟨T, rfl⟩, rfl⟩
      unfold unicode_utf8_appendRuneNonASCII_v1_k2 at hM
      refine A_cond (x1_) rfl (fun hc14 => ?_) (fun hc14 => ?_)
      · replace hM := ifp hc14 hM
        refine A_seq fun K15 hK15 => ?_
        refine A_regC [(some 48, false), (some 49, true)] (conG Try.prog []) ?_
        refine r_v (pv) rfl rfl rfl rfl ?_
        refine r_v (Value.int .i32 (r')) rfl rfl rfl rfl ?_
        replace hM := ck_some hM; obtain ⟨ck16, hM⟩ := hM
        refine r_v (Value.int .i32 ((shrI r' 12))) rfl rfl rfl (ev_shrJ (x := r') 12 rfl rfl) ?_
        refine r_w (Value.int .u8 ((((byteI ((shrI r' 12))).toNat : Nat) : Int))) rfl rfl (u8_wrap ((shrI r' 12))) (fun _ => rfl) ?_
        refine r_v (Value.int .u8 (((((224 : UInt8) ||| (byteI ((shrI r' 12)))).toNat : Nat) : Int))) rfl rfl (Y_or (224 : UInt8) (byteI ((shrI r' 12)))) rfl ?_
        refine r_v (Value.int .i32 (r')) rfl rfl rfl rfl ?_
        replace hM := ck_some hM; obtain ⟨ck17, hM⟩ := hM
        refine r_v (Value.int .i32 ((shrI r' 6))) rfl rfl rfl (ev_shrJ (x := r') 6 rfl rfl) ?_
        refine r_w (Value.int .u8 ((((byteI ((shrI r' 6))).toNat : Nat) : Int))) rfl rfl (u8_wrap ((shrI r' 6))) (fun _ => rfl) ?_
        refine r_v (Value.int .u8 (((((byteI ((shrI r' 6))) &&& (63 : UInt8)).toNat : Nat) : Int))) rfl rfl (Y_and (byteI ((shrI r' 6))) (63 : UInt8)) rfl ?_
        refine r_v (Value.int .u8 (((((128 : UInt8) ||| ((byteI ((shrI r' 6))) &&& (63 : UInt8))).toNat : Nat) : Int))) rfl rfl (Y_or (128 : UInt8) ((byteI ((shrI r' 6))) &&& (63 : UInt8))) rfl ?_
        refine r_v (Value.int .i32 (r')) rfl rfl rfl rfl ?_
        refine r_w (Value.int .u8 ((((byteI (r')).toNat : Nat) : Int))) rfl rfl (u8_wrap (r')) (fun _ => rfl) ?_
        refine r_v (Value.int .u8 (((((byteI (r')) &&& (63 : UInt8)).toNat : Nat) : Int))) rfl rfl (Y_and (byteI (r')) (63 : UInt8)) rfl ?_
        refine r_v (Value.int .u8 (((((128 : UInt8) ||| ((byteI (r')) &&& (63 : UInt8))).toNat : Nat) : Int))) rfl rfl (Y_or (128 : UInt8) ((byteI (r')) &&& (63 : UInt8))) rfl ?_
        refine r_bs (cs0 := []) (Ls := [Sp]) 5 encY [((224 : UInt8) ||| (byteI ((shrI r' 12)))), ((128 : UInt8) ||| ((byteI ((shrI r' 6))) &&& (63 : UInt8))), ((128 : UInt8) ||| ((byteI (r')) &&& (63 : UInt8)))] [Value.int .u8 (((((224 : UInt8) ||| (byteI ((shrI r' 12)))).toNat : Nat) : Int)), Value.int .u8 (((((128 : UInt8) ||| ((byteI ((shrI r' 6))) &&& (63 : UInt8))).toNat : Nat) : Int)), Value.int .u8 (((((128 : UInt8) ||| ((byteI (r')) &&& (63 : UInt8))).toNat : Nat) : Int))] [Value.int .u8 (0), Value.int .u8 (0), Value.int .u8 (0)] rfl rfl rfl rfl rfl rfl rfl (by kernel_rfl) (by kernel_rfl) rfl rfl rfl (fun s18 S19 H20 => ?_)
        replace hM := ck_some hM; obtain ⟨ck21, hM⟩ := hM
        refine r_app (cs0 := []) (Ls := [Sp, S19]) 0 (En := encYs) rfl rfl rfl rfl rfl hp rfl (fun own_ nw_ hs_ => rd_strict ((rd_own H20 (mem_chunk (Ls := [Sp, S19]) (k := 1) rfl rfl)) own_ nw_ hs_)) rfl rfl rfl rfl rfl (app_b ck21 rfl) (app_m ck21 rfl) rfl (fun s22 S23 H24 => ?_)
        refine r_v (s22) rfl rfl rfl rfl ?_
        refine lx_nil ?_
        refine hK15 _ _ ?_; try clear hK15 K15
        obtain rfl := Option.some.inj hM
        refine A_ret (fun hn => endsO (v0 := s22) (O := [S23]) (res1 rfl) (Sub.pick [S23, S19] [0] rfl) ⟨s22, S23, _, H24, ⟨rfl, rfl⟩, rfl⟩)
      · replace hM := ifn (Bool.eq_false_iff.1 hc14) hM
        refine A_cut (fun tt ll => ∃ (x3_ : Bool), (unicode_utf8_appendRuneNonASCII_v1_k4 p r' x3_ = some r) ∧ Is [(0, pv), (1, Value.int .i32 (r')), (50, Value.bool (x3_))] (List.flatten [Sp]) tt ll) ?_ ?_
        · refine A_reg ?_
          refine r_v (Value.int .u32 ((((int32 (r')).toNat : Nat) : Int))) rfl rfl rfl rfl ?_
          refine r_v (Value.bool (decide (((((int32 (r')).toNat : Nat) : Int) : Int) > 65535))) rfl rfl rfl rfl ?_
          refine r_v (Value.bool (decide (((((int32 (r')).toNat : Nat) : Int) : Int) > 65535))) rfl rfl rfl rfl ?_
          rcases hg45 : (decide (((((int32 (r')).toNat : Nat) : Int) : Int) > 65535)) with _ | _
          · replace hM := ifn (of_decide_eq_false hg45) hM
            refine r_n false rfl (by decide) rfl ?_
            refine r_n false rfl (by decide) rfl ?_
            refine r_v (Value.bool (false)) rfl rfl rfl rfl ?_
            refine r_v (Value.bool (false)) rfl rfl rfl rfl ?_
            refine lx_nil ?_
            refine fg _ (Sub.pick [Sp] [0] rfl) ?_
            exact ⟨false, hM, is_mk (by first | rfl | (simp only [hg45]; done) | (simp only [hg45]; rfl) | (simp only [app_hl]; rfl)) rfl⟩
          · replace hM := ifp (of_decide_eq_true hg45) hM
            refine r_y rfl ?_
            refine r_v (Value.int .u32 ((((int32 (r')).toNat : Nat) : Int))) rfl rfl rfl rfl ?_
            refine r_y rfl ?_
            refine r_v (Value.bool (decide (((((int32 (r')).toNat : Nat) : Int) : Int) ≤ 1114111))) rfl rfl rfl rfl ?_
            refine r_v (Value.bool (decide (((((int32 (r')).toNat : Nat) : Int) : Int) ≤ 1114111))) rfl rfl rfl rfl ?_
            refine r_v (Value.bool (decide (((((int32 (r')).toNat : Nat) : Int) : Int) ≤ 1114111))) rfl rfl rfl rfl ?_
            refine lx_nil ?_
            refine fg _ (Sub.pick [Sp] [0] rfl) ?_
            exact ⟨decide (((((int32 (r')).toNat : Nat) : Int) : Int) ≤ 1114111), hM, is_mk (by first | rfl | (simp only [hg45]; done) | (simp only [hg45]; rfl) | (simp only [app_hl]; rfl)) rfl⟩
        · clear hM; rintro t l ⟨x3_, hM, ⟨T, rfl⟩, rfl⟩
          unfold unicode_utf8_appendRuneNonASCII_v1_k4 at hM
          refine A_cond (x3_) rfl (fun hc25 => ?_) (fun hc25 => ?_)
          · replace hM := ifp hc25 hM
            refine A_seq fun K26 hK26 => ?_
            refine A_regC [(some 76, false), (some 77, true)] (conG Try.prog []) ?_
            refine r_v (pv) rfl rfl rfl rfl ?_
            refine r_v (Value.int .i32 (r')) rfl rfl rfl rfl ?_
            replace hM := ck_some hM; obtain ⟨ck27, hM⟩ := hM
            refine r_v (Value.int .i32 ((shrI r' 18))) rfl rfl rfl (ev_shrJ (x := r') 18 rfl rfl) ?_
            refine r_w (Value.int .u8 ((((byteI ((shrI r' 18))).toNat : Nat) : Int))) rfl rfl (u8_wrap ((shrI r' 18))) (fun _ => rfl) ?_
            refine r_v (Value.int .u8 (((((240 : UInt8) ||| (byteI ((shrI r' 18)))).toNat : Nat) : Int))) rfl rfl (Y_or (240 : UInt8) (byteI ((shrI r' 18)))) rfl ?_
            refine r_v (Value.int .i32 (r')) rfl rfl rfl rfl ?_
            replace hM := ck_some hM; obtain ⟨ck28, hM⟩ := hM
            refine r_v (Value.int .i32 ((shrI r' 12))) rfl rfl rfl (ev_shrJ (x := r') 12 rfl rfl) ?_
            refine r_w (Value.int .u8 ((((byteI ((shrI r' 12))).toNat : Nat) : Int))) rfl rfl (u8_wrap ((shrI r' 12))) (fun _ => rfl) ?_
            refine r_v (Value.int .u8 (((((byteI ((shrI r' 12))) &&& (63 : UInt8)).toNat : Nat) : Int))) rfl rfl (Y_and (byteI ((shrI r' 12))) (63 : UInt8)) rfl ?_
            refine r_v (Value.int .u8 (((((128 : UInt8) ||| ((byteI ((shrI r' 12))) &&& (63 : UInt8))).toNat : Nat) : Int))) rfl rfl (Y_or (128 : UInt8) ((byteI ((shrI r' 12))) &&& (63 : UInt8))) rfl ?_
            refine r_v (Value.int .i32 (r')) rfl rfl rfl rfl ?_
            replace hM := ck_some hM; obtain ⟨ck29, hM⟩ := hM
            refine r_v (Value.int .i32 ((shrI r' 6))) rfl rfl rfl (ev_shrJ (x := r') 6 rfl rfl) ?_
            refine r_w (Value.int .u8 ((((byteI ((shrI r' 6))).toNat : Nat) : Int))) rfl rfl (u8_wrap ((shrI r' 6))) (fun _ => rfl) ?_
            refine r_v (Value.int .u8 (((((byteI ((shrI r' 6))) &&& (63 : UInt8)).toNat : Nat) : Int))) rfl rfl (Y_and (byteI ((shrI r' 6))) (63 : UInt8)) rfl ?_
            refine r_v (Value.int .u8 (((((128 : UInt8) ||| ((byteI ((shrI r' 6))) &&& (63 : UInt8))).toNat : Nat) : Int))) rfl rfl (Y_or (128 : UInt8) ((byteI ((shrI r' 6))) &&& (63 : UInt8))) rfl ?_
            refine r_v (Value.int .i32 (r')) rfl rfl rfl rfl ?_
            refine r_w (Value.int .u8 ((((byteI (r')).toNat : Nat) : Int))) rfl rfl (u8_wrap (r')) (fun _ => rfl) ?_
            refine r_v (Value.int .u8 (((((byteI (r')) &&& (63 : UInt8)).toNat : Nat) : Int))) rfl rfl (Y_and (byteI (r')) (63 : UInt8)) rfl ?_
            refine r_v (Value.int .u8 (((((128 : UInt8) ||| ((byteI (r')) &&& (63 : UInt8))).toNat : Nat) : Int))) rfl rfl (Y_or (128 : UInt8) ((byteI (r')) &&& (63 : UInt8))) rfl ?_
            refine r_bs (cs0 := []) (Ls := [Sp]) 5 encY [((240 : UInt8) ||| (byteI ((shrI r' 18)))), ((128 : UInt8) ||| ((byteI ((shrI r' 12))) &&& (63 : UInt8))), ((128 : UInt8) ||| ((byteI ((shrI r' 6))) &&& (63 : UInt8))), ((128 : UInt8) ||| ((byteI (r')) &&& (63 : UInt8)))] [Value.int .u8 (((((240 : UInt8) ||| (byteI ((shrI r' 18)))).toNat : Nat) : Int)), Value.int .u8 (((((128 : UInt8) ||| ((byteI ((shrI r' 12))) &&& (63 : UInt8))).toNat : Nat) : Int)), Value.int .u8 (((((128 : UInt8) ||| ((byteI ((shrI r' 6))) &&& (63 : UInt8))).toNat : Nat) : Int)), Value.int .u8 (((((128 : UInt8) ||| ((byteI (r')) &&& (63 : UInt8))).toNat : Nat) : Int))] [Value.int .u8 (0), Value.int .u8 (0), Value.int .u8 (0), Value.int .u8 (0)] rfl rfl rfl rfl rfl rfl rfl (by kernel_rfl) (by kernel_rfl) rfl rfl rfl (fun s30 S31 H32 => ?_)
            replace hM := ck_some hM; obtain ⟨ck33, hM⟩ := hM
            refine r_app (cs0 := []) (Ls := [Sp, S31]) 0 (En := encYs) rfl rfl rfl rfl rfl hp rfl (fun own_ nw_ hs_ => rd_strict ((rd_own H32 (mem_chunk (Ls := [Sp, S31]) (k := 1) rfl rfl)) own_ nw_ hs_)) rfl rfl rfl rfl rfl (app_b ck33 rfl) (app_m ck33 rfl) rfl (fun s34 S35 H36 => ?_)
            refine r_v (s34) rfl rfl rfl rfl ?_
            refine lx_nil ?_
            refine hK26 _ _ ?_; try clear hK26 K26
            obtain rfl := Option.some.inj hM
            refine A_ret (fun hn => endsO (v0 := s34) (O := [S35]) (res1 rfl) (Sub.pick [S35, S31] [0] rfl) ⟨s34, S35, _, H36, ⟨rfl, rfl⟩, rfl⟩)
          · replace hM := ifn (Bool.eq_false_iff.1 hc25) hM
            refine A_seq fun K37 hK37 => ?_
            refine A_regC [(some 9, false), (some 10, true)] (conG Try.prog []) ?_
            refine r_v (pv) rfl rfl rfl rfl ?_
            refine r_bs (cs0 := []) (Ls := [Sp]) 5 encY [(239 : UInt8), (191 : UInt8), (189 : UInt8)] [Value.int .u8 (239), Value.int .u8 (191), Value.int .u8 (189)] [Value.int .u8 (0), Value.int .u8 (0), Value.int .u8 (0)] rfl rfl rfl rfl rfl rfl rfl (by kernel_rfl) (by kernel_rfl) rfl rfl rfl (fun s38 S39 H40 => ?_)
            replace hM := ck_some hM; obtain ⟨ck41, hM⟩ := hM
            refine r_app (cs0 := []) (Ls := [Sp, S39]) 0 (En := encYs) rfl rfl rfl rfl rfl hp rfl (fun own_ nw_ hs_ => rd_strict ((rd_own H40 (mem_chunk (Ls := [Sp, S39]) (k := 1) rfl rfl)) own_ nw_ hs_)) rfl rfl rfl rfl rfl (app_b ck41 rfl) (app_m ck41 rfl) rfl (fun s42 S43 H44 => ?_)
            refine r_v (s42) rfl rfl rfl rfl ?_
            refine lx_nil ?_
            refine hK37 _ _ ?_; try clear hK37 K37
            obtain rfl := Option.some.inj hM
            refine A_ret (fun hn => endsO (v0 := s42) (O := [S43]) (res1 rfl) (Sub.pick [S43, S39] [0] rfl) ⟨s42, S43, _, H44, ⟨rfl, rfl⟩, rfl⟩)
def unicode_utf8_AppendRune_v1_m (N : Nat) (p : List UInt8) (r' : Int) : Option (List UInt8) := if ((((int32 (r')).toNat : Nat) : Int) : Int) ≤ 127 then ck ((p).length + ([(byteI (r'))]).length ≤ 140737488355328) (some ((p ++ ([(byteI (r'))])))) else (unicode_utf8_appendRuneNonASCII_v1_m N p r').bind fun r14 => some (r14)
set_option maxRecDepth 100000 in
set_option maxHeartbeats 400000 in
theorem unicode_utf8_AppendRune_v1_g (N : Nat) (p : List UInt8) (r' : Int) (r : List UInt8) (hM : unicode_utf8_AppendRune_v1_m N p r' = some r) (ro : Addr → Option Value) (pv : Value) (Sp : List Bl) (hp : Sl 5 encYs pv p Sp) : Does Try.prog 45 #[pv, Value.int .i32 (r')] ro (List.flatten [Sp]) (pO (List.flatten [Sp]) (oS 5 encYs r fun s_0 => (oE (s_0) []))) := by
  unfold unicode_utf8_AppendRune_v1_m at hM
  refine doesO_of_A follows Try.func45 rfl 16 rfl (upd (upd (fun _ => undef) 1 (Value.int .i32 (r'))) 0 (pv)) (by funext k; match k with | 0 => rfl | 1 => rfl | k + 2 => rfl) (fun _ _ h_ _ => h_) (fun base0_ => ?_)
  refine A_seq fun K1 hK1 => ?_
  refine A_reg ?_
  refine r_v (Value.slice none 0 0) rfl rfl rfl rfl ?_
  refine lx_nil ?_
  refine hK1 _ _ ?_; try clear hK1 K1
  refine A_seq fun K2 hK2 => ?_
  refine A_seq fun K3 hK3 => ?_
  refine A_reg ?_
  refine r_v (Value.int .i32 (r')) rfl rfl rfl rfl ?_
  refine r_w (Value.int .u32 ((((int32 (r')).toNat : Nat) : Int))) rfl rfl (Z32_wrap (r')) (fun _ => rfl) ?_
  refine r_v (Value.bool (decide (((((int32 (r')).toNat : Nat) : Int) : Int) ≤ 127))) rfl rfl rfl rfl ?_
  refine lx_nil ?_
  refine hK3 _ _ ?_; try clear hK3 K3
  refine A_cond (decide (((((int32 (r')).toNat : Nat) : Int) : Int) ≤ 127)) rfl (fun hc4 => ?_) (fun hc4 => ?_)
  · replace hM := ifp (of_decide_eq_true hc4) hM
    refine A_seq fun K5 hK5 => ?_
    refine A_regC [(some 11, false), (some 12, true)] (conG Try.prog []) ?_
    refine r_v (pv) rfl rfl rfl rfl ?_
    refine r_v (Value.int .i32 (r')) rfl rfl rfl rfl ?_
    refine r_w (Value.int .u8 ((((byteI (r')).toNat : Nat) : Int))) rfl rfl (u8_wrap (r')) (fun _ => rfl) ?_
    refine r_bs (cs0 := []) (Ls := [Sp]) 5 encY [(byteI (r'))] [Value.int .u8 ((((byteI (r')).toNat : Nat) : Int))] [Value.int .u8 (0)] rfl rfl rfl rfl rfl rfl rfl (by kernel_rfl) (by kernel_rfl) rfl rfl rfl (fun s6 S7 H8 => ?_)
    replace hM := ck_some hM; obtain ⟨ck9, hM⟩ := hM
    refine r_app (cs0 := []) (Ls := [Sp, S7]) 0 (En := encYs) rfl rfl rfl rfl rfl hp rfl (fun own_ nw_ hs_ => rd_strict ((rd_own H8 (mem_chunk (Ls := [Sp, S7]) (k := 1) rfl rfl)) own_ nw_ hs_)) rfl rfl rfl rfl rfl (app_b ck9 rfl) (app_m ck9 rfl) rfl (fun s10 S11 H12 => ?_)
    refine r_v (s10) rfl rfl rfl rfl ?_
    refine lx_nil ?_
    refine hK5 _ _ ?_; try clear hK5 K5
    obtain rfl := Option.some.inj hM
    refine A_ret (fun hn => endsO (v0 := s10) (O := [S11]) (res1 rfl) (Sub.pick [S11, S7] [0] rfl) ⟨s10, S11, _, H12, ⟨rfl, rfl⟩, rfl⟩)
  · replace hM := ifn (of_decide_eq_false hc4) hM
    refine A_skip ?_
    refine hK2 _ _ ?_; try clear hK2 K2
    refine A_seq fun K13 hK13 => ?_
    refine A_regC [(some 15, true)] (conG Try.prog [(15, fun v_ L_ U_ => ∀ u0_, unicode_utf8_appendRuneNonASCII_v1_m N p r' = some u0_ → (pO (List.flatten [Sp]) (oS 5 encYs u0_ fun s_0 => (oE (s_0) []))) v_ L_ U_)]) ?_
    refine r_v (pv) rfl rfl rfl rfl ?_
    refine r_v (Value.int .i32 (r')) rfl rfl rfl rfl ?_
    replace hM := bind_sm hM; obtain ⟨r14, hr15, hM⟩ := hM
    refine r_gm (Ls := [Sp]) (FL := [Sp]) (RL := []) [0] (oS 5 encYs r14 fun s_0 => (oE (s_0) [])) (some 15) 48 _ rfl rfl rfl rfl rfl (ev_callF rfl call_48 rfl) (fun own_ nw_ hn_ hs_ => unicode_utf8_appendRuneNonASCII_v1_g N p r' _ hr15 _ pv Sp hp) (fun _ _ v_ L_ U_ => ⟨fun h_ => h_ _ hr15, fun h_ => by intro _ e_; cases Option.some.inj (e_.symm.trans hr15); exact h_⟩) (NiceO.sub (R := []) (niceS fun s_0 => (niceE rfl)) (Sub.pick [Sp] [] rfl)) ?_
    rintro s16 _ ⟨_, S17, _, H18, ⟨rfl, rfl⟩, rfl⟩
    refine lx_perm (Ls := [S17]) (Ls' := [S17]) [0] rfl rfl ?_
    refine r_v (s16) rfl rfl rfl rfl ?_
    refine lx_nil ?_
    refine hK13 _ _ ?_; try clear hK13 K13
    obtain rfl := Option.some.inj hM
    refine A_ret (fun hn => endsO (v0 := s16) (O := [S17]) (res1 rfl) (Sub.pick [S17] [0] rfl) ⟨s16, S17, _, H18, ⟨rfl, rfl⟩, rfl⟩)
def strings_Builder_WriteRune_v1_m (N : Nat) (b : List UInt8) (r' : Int) : Option (Int × (List UInt8)) := (strings_Builder_copyCheck_v2_m N b).bind fun r3 => ck ((r3).length = (b).length) ((unicode_utf8_AppendRune_v1_m N r3 r').bind fun r10 => ck ((-9223372036854775808 ≤ (((r10).length : Int) - ((r3).length : Int)) ∧ (((r10).length : Int) - ((r3).length : Int)) ≤ 9223372036854775807)) (some ((((r10).length : Int) - ((r3).length : Int)), r10)))
set_option maxRecDepth 100000 in
set_option maxHeartbeats 400000 in
theorem strings_Builder_WriteRune_v1_g (N : Nat) (b : List UInt8) (r' : Int) (r : Int × (List UInt8)) (hM : strings_Builder_WriteRune_v1_m N b r' = some r) (ro : Addr → Option Value) (bb : Nat) (bv : Value) (Sb : List Bl) (hb : Sl 5 encYs bv b Sb) : Does Try.prog 37 #[Value.pointer (some ⟨bb, 0, none⟩), Value.int .i32 (r')] ro (List.flatten [[(bb, 52, #[Value.pointer none, bv])], Sb]) (pO (List.flatten [[(bb, 52, #[Value.pointer none, bv])], Sb]) (oS 5 encYs r.2 fun s_0 => (oE (Value.tuple #[Value.int .i64 (r.1), Value.nilIface]) [[(bb, 52, #[Value.pointer (some ⟨bb, 0, none⟩), s_0])]]))) := by
  unfold strings_Builder_WriteRune_v1_m at hM
  refine doesO_of_A follows Try.func37 rfl 30 rfl (upd (upd (fun _ => undef) 1 (Value.int .i32 (r'))) 0 (Value.pointer (some ⟨bb, 0, none⟩))) (by funext k; match k with | 0 => rfl | 1 => rfl | k + 2 => rfl) (fun _ _ h_ _ => h_) (fun base0_ => ?_)
  refine A_seq fun K1 hK1 => ?_
  refine A_reg ?_
  refine r_v (Value.int .i64 (0)) rfl rfl rfl rfl ?_
  refine r_v (Value.nilIface) rfl rfl rfl rfl ?_
  refine lx_nil ?_
  refine hK1 _ _ ?_; try clear hK1 K1
  refine A_seq fun K2 hK2 => ?_
  refine A_regC [(some 8, true)] (conG Try.prog [(8, fun v_ L_ U_ => ∀ u0_, strings_Builder_copyCheck_v2_m N b = some u0_ → (pO (List.flatten [[(bb, 52, #[Value.pointer none, bv])], Sb]) (oI 5 encYs bv u0_ (oE (Value.tuple #[]) [[(bb, 52, #[Value.pointer (some ⟨bb, 0, none⟩), bv])]]))) v_ L_ U_)]) ?_
  refine r_v (Value.pointer (some ⟨bb, 0, none⟩)) rfl rfl rfl rfl ?_
  replace hM := bind_sm hM; obtain ⟨r3, hr4, hM⟩ := hM
  replace hM := ck_some hM; obtain ⟨ck5, hM⟩ := hM
  refine r_gm (Ls := [[(bb, 52, #[Value.pointer none, bv])], Sb]) (FL := [[(bb, 52, #[Value.pointer none, bv])], Sb]) (RL := []) [0, 1] (oI 5 encYs bv r3 (oE (Value.tuple #[]) [[(bb, 52, #[Value.pointer (some ⟨bb, 0, none⟩), bv])]])) (some 8) 43 _ rfl rfl rfl rfl rfl (ev_callF rfl call_43 rfl) (fun own_ nw_ hn_ hs_ => strings_Builder_copyCheck_v2_g N b _ hr4 _ bb bv Sb hb) (fun _ _ v_ L_ U_ => ⟨fun h_ => h_ _ hr4, fun h_ => by intro _ e_; cases Option.some.inj (e_.symm.trans hr4); exact h_⟩) (NiceO.sub (R := (Sb ++ ([(bb, 52, #[Value.pointer none, bv])] ++ []))) (niceI hb ck5 (niceE rfl)) (Sub.pick [[(bb, 52, #[Value.pointer none, bv])], Sb] [1, 0] rfl)) ?_
  rintro _ _ ⟨S6, _, H7, ⟨rfl, rfl⟩, rfl⟩
  refine lx_perm (Ls := [S6, [(bb, 52, #[Value.pointer (some ⟨bb, 0, none⟩), bv])]]) (Ls' := [[(bb, 52, #[Value.pointer (some ⟨bb, 0, none⟩), bv])], S6]) [1, 0] rfl rfl ?_
  refine lx_nil ?_
  refine hK2 _ _ ?_; try clear hK2 K2
  refine A_seq fun K8 hK8 => ?_
  refine A_reg ?_
  refine r_v (Value.pointer (some ⟨bb, 0, none⟩)) rfl rfl rfl rfl ?_
  refine r_v (Value.pointer (some ⟨bb, 0, none⟩)) rfl rfl rfl rfl ?_
  refine r_v (Value.pointer (some ⟨bb, 1, none⟩)) rfl rfl rfl rfl ?_
  refine r_l (bv) 0 _ _ _ _ rfl rfl rfl rfl rfl ?_
  refine r_v (Value.int .i64 (((r3).length : Int))) rfl rfl rfl (ev_lenSl rfl rfl rfl (Sl.shp H7)) ?_
  refine r_v (Value.int .i64 (((r3).length : Int))) rfl rfl rfl rfl ?_
  refine lx_nil ?_
  refine hK8 _ _ ?_; try clear hK8 K8
  refine A_seq fun K9 hK9 => ?_
  refine A_regC [(some 20, true)] (conG Try.prog [(20, fun v_ L_ U_ => ∀ u0_, unicode_utf8_AppendRune_v1_m N r3 r' = some u0_ → (pO (List.flatten [S6]) (oS 5 encYs u0_ fun s_0 => (oE (s_0) []))) v_ L_ U_)]) ?_
  refine r_v (Value.pointer (some ⟨bb, 0, none⟩)) rfl rfl rfl rfl ?_
  refine r_v (Value.pointer (some ⟨bb, 0, none⟩)) rfl rfl rfl rfl ?_
  refine r_v (Value.pointer (some ⟨bb, 0, none⟩)) rfl rfl rfl rfl ?_
  refine r_v (Value.pointer (some ⟨bb, 1, none⟩)) rfl rfl rfl rfl ?_
  refine r_l (bv) 0 _ _ _ _ rfl rfl rfl rfl rfl ?_
  refine r_v (Value.int .i32 (r')) rfl rfl rfl rfl ?_
  replace hM := bind_sm hM; obtain ⟨r10, hr11, hM⟩ := hM
  refine r_gm (Ls := [[(bb, 52, #[Value.pointer (some ⟨bb, 0, none⟩), bv])], S6]) (FL := [S6]) (RL := [[(bb, 52, #[Value.pointer (some ⟨bb, 0, none⟩), bv])]]) [1] (oS 5 encYs r10 fun s_0 => (oE (s_0) [])) (some 20) 45 _ rfl rfl rfl rfl rfl (ev_callF rfl call_45 rfl) (fun own_ nw_ hn_ hs_ => unicode_utf8_AppendRune_v1_g N r3 r' _ hr11 _ bv S6 H7) (fun _ _ v_ L_ U_ => ⟨fun h_ => h_ _ hr11, fun h_ => by intro _ e_; cases Option.some.inj (e_.symm.trans hr11); exact h_⟩) (NiceO.sub (R := []) (niceS fun s_0 => (niceE rfl)) (Sub.pick [S6] [] rfl)) ?_
  rintro s12 _ ⟨_, S13, _, H14, ⟨rfl, rfl⟩, rfl⟩
  refine lx_perm (Ls := [[(bb, 52, #[Value.pointer (some ⟨bb, 0, none⟩), bv])], S13]) (Ls' := [[(bb, 52, #[Value.pointer (some ⟨bb, 0, none⟩), bv])], S13]) [0, 1] rfl rfl ?_
  refine r_v (Value.pointer (some ⟨bb, 0, none⟩)) rfl rfl rfl rfl ?_
  refine r_v (Value.pointer (some ⟨bb, 1, none⟩)) rfl rfl rfl rfl ?_
  refine r_s (List.flatten [[(bb, 52, #[Value.pointer (some ⟨bb, 0, none⟩), s12])], S13]) 0 _ _ _ (#[Value.pointer (some ⟨bb, 0, none⟩), bv]) (#[s12]) (#[Value.pointer (some ⟨bb, 0, none⟩), s12]) rfl rfl rfl (cells_sl rfl (Sl.shp H14)) (.ofS rfl rfl (all_cons' (Shp.one (Sl.shp H14)) all_nil')) rfl rfl ?_
  refine lx_nil ?_
  refine hK9 _ _ ?_; try clear hK9 K9
  refine A_seq fun K15 hK15 => ?_
  refine A_reg ?_
  refine r_v (Value.pointer (some ⟨bb, 0, none⟩)) rfl rfl rfl rfl ?_
  refine r_v (Value.pointer (some ⟨bb, 0, none⟩)) rfl rfl rfl rfl ?_
  refine r_v (Value.pointer (some ⟨bb, 1, none⟩)) rfl rfl rfl rfl ?_
  refine r_l (s12) 0 _ _ _ _ rfl rfl rfl rfl rfl ?_
  refine r_v (Value.int .i64 (((r10).length : Int))) rfl rfl rfl (ev_lenSl rfl rfl rfl (Sl.shp H14)) ?_
  refine r_v (Value.int .i64 (((r3).length : Int))) rfl rfl rfl rfl ?_
  replace hM := ck_some hM; obtain ⟨ck16, hM⟩ := hM
  refine r_v (Value.int .i64 ((((r10).length : Int) - ((r3).length : Int)))) rfl rfl (wi64 rfl ck16.1 ck16.2) rfl ?_
  refine r_v (Value.int .i64 ((((r10).length : Int) - ((r3).length : Int)))) rfl rfl rfl rfl ?_
  refine r_v (Value.nilIface) rfl rfl rfl rfl ?_
  refine lx_nil ?_
  refine hK15 _ _ ?_; try clear hK15 K15
  refine A_gen [(4, Value.int .i64 ((((r10).length : Int) - ((r3).length : Int)))), (5, Value.nilIface)] rfl (fun T => ?_)
  obtain rfl := Option.some.inj hM
  refine A_ret (fun hn => endsO (v0 := Value.tuple #[Value.int .i64 ((((r10).length : Int) - ((r3).length : Int))), Value.nilIface]) (O := [S13, [(bb, 52, #[Value.pointer (some ⟨bb, 0, none⟩), s12])]]) (res2 rfl rfl) (Sub.pick [[(bb, 52, #[Value.pointer (some ⟨bb, 0, none⟩), s12])], S13] [1, 0] rfl) ⟨s12, S13, _, H14, ⟨rfl, rfl⟩, rfl⟩)
def strings_Builder_copyCheck_v3_m (_ : Nat) (b : List UInt8) : Option (List UInt8) := some (b)
set_option maxRecDepth 100000 in
set_option maxHeartbeats 400000 in
theorem strings_Builder_copyCheck_v3_g (N : Nat) (b : List UInt8) (r : List UInt8) (hM : strings_Builder_copyCheck_v3_m N b = some r) (ro : Addr → Option Value) (bb : Nat) (bv : Value) (Sb : List Bl) (hb : Sl 5 encYs bv b Sb) : Does Try.prog 43 #[Value.pointer (some ⟨bb, 0, none⟩)] ro (List.flatten [[(bb, 52, #[Value.pointer (some ⟨bb, 0, none⟩), bv])], Sb]) (pO (List.flatten [[(bb, 52, #[Value.pointer (some ⟨bb, 0, none⟩), bv])], Sb]) (oI 5 encYs bv r (oE (Value.tuple #[]) [[(bb, 52, #[Value.pointer (some ⟨bb, 0, none⟩), bv])]]))) := by
  unfold strings_Builder_copyCheck_v3_m at hM
  refine doesO_of_A follows Try.func43 rfl 20 rfl (upd (fun _ => undef) 0 (Value.pointer (some ⟨bb, 0, none⟩))) (by funext k; match k with | 0 => rfl | k + 1 => rfl) (fun _ _ h_ _ => h_) (fun base0_ => ?_)
  refine A_seq fun K1 hK1 => ?_
  refine A_reg ?_
  refine r_v (Value.pointer (some ⟨bb, 0, none⟩)) rfl rfl rfl rfl ?_
  refine r_v (Value.pointer (some ⟨bb, 0, none⟩)) rfl rfl rfl rfl ?_
  refine r_v (Value.pointer (some ⟨bb, 0, none⟩)) rfl rfl rfl rfl ?_
  refine r_l (Value.pointer (some ⟨bb, 0, none⟩)) 0 _ _ _ _ rfl rfl rfl rfl rfl ?_
  refine r_v (Value.bool (false)) rfl rfl rfl rfl ?_
  refine lx_nil ?_
  refine hK1 _ _ ?_; try clear hK1 K1
  refine A_cond false rfl (fun h_ => nomatch h_) (fun _ => ?_)
  refine A_seq fun K2 hK2 => ?_
  refine A_reg ?_
  refine r_v (Value.pointer (some ⟨bb, 0, none⟩)) rfl rfl rfl rfl ?_
  refine r_v (Value.pointer (some ⟨bb, 0, none⟩)) rfl rfl rfl rfl ?_
  refine r_v (Value.pointer (some ⟨bb, 0, none⟩)) rfl rfl rfl rfl ?_
  refine r_l (Value.pointer (some ⟨bb, 0, none⟩)) 0 _ _ _ _ rfl rfl rfl rfl rfl ?_
  refine r_v (Value.pointer (some ⟨bb, 0, none⟩)) rfl rfl rfl rfl ?_
  refine r_v (Value.bool (false)) rfl rfl rfl (ev_neqP rfl rfl rfl rfl rfl) ?_
  refine lx_nil ?_
  refine hK2 _ _ ?_; try clear hK2 K2
  refine A_cond false rfl (fun h_ => nomatch h_) (fun _ => ?_)
  refine A_skip ?_
  obtain rfl := Option.some.inj hM
  refine endsN (v0 := Value.tuple #[]) (O := [Sb, [(bb, 52, #[Value.pointer (some ⟨bb, 0, none⟩), bv])]]) rfl (Sub.pick [[(bb, 52, #[Value.pointer (some ⟨bb, 0, none⟩), bv])], Sb] [1, 0] rfl) ⟨Sb, _, hb, ⟨rfl, rfl⟩, rfl⟩
def strings_Builder_WriteRune_v2_m (N : Nat) (b : List UInt8) (r' : Int) : Option (Int × (List UInt8)) := (strings_Builder_copyCheck_v3_m N b).bind fun r3 => ck ((r3).length = (b).length) ((unicode_utf8_AppendRune_v1_m N r3 r').bind fun r10 => ck ((-9223372036854775808 ≤ (((r10).length : Int) - ((r3).length : Int)) ∧ (((r10).length : Int) - ((r3).length : Int)) ≤ 9223372036854775807)) (some ((((r10).length : Int) - ((r3).length : Int)), r10)))
set_option maxRecDepth 100000 in
set_option maxHeartbeats 400000 in
theorem strings_Builder_WriteRune_v2_g (N : Nat) (b : List UInt8) (r' : Int) (r : Int × (List UInt8)) (hM : strings_Builder_WriteRune_v2_m N b r' = some r) (ro : Addr → Option Value) (bb : Nat) (bv : Value) (Sb : List Bl) (hb : Sl 5 encYs bv b Sb) : Does Try.prog 37 #[Value.pointer (some ⟨bb, 0, none⟩), Value.int .i32 (r')] ro (List.flatten [[(bb, 52, #[Value.pointer (some ⟨bb, 0, none⟩), bv])], Sb]) (pO (List.flatten [[(bb, 52, #[Value.pointer (some ⟨bb, 0, none⟩), bv])], Sb]) (oS 5 encYs r.2 fun s_0 => (oE (Value.tuple #[Value.int .i64 (r.1), Value.nilIface]) [[(bb, 52, #[Value.pointer (some ⟨bb, 0, none⟩), s_0])]]))) := by
  unfold strings_Builder_WriteRune_v2_m at hM
  refine doesO_of_A follows Try.func37 rfl 30 rfl (upd (upd (fun _ => undef) 1 (Value.int .i32 (r'))) 0 (Value.pointer (some ⟨bb, 0, none⟩))) (by funext k; match k with | 0 => rfl | 1 => rfl | k + 2 => rfl) (fun _ _ h_ _ => h_) (fun base0_ => ?_)
  refine A_seq fun K1 hK1 => ?_
  refine A_reg ?_
  refine r_v (Value.int .i64 (0)) rfl rfl rfl rfl ?_
  refine r_v (Value.nilIface) rfl rfl rfl rfl ?_
  refine lx_nil ?_
  refine hK1 _ _ ?_; try clear hK1 K1
  refine A_seq fun K2 hK2 => ?_
  refine A_regC [(some 8, true)] (conG Try.prog [(8, fun v_ L_ U_ => ∀ u0_, strings_Builder_copyCheck_v3_m N b = some u0_ → (pO (List.flatten [[(bb, 52, #[Value.pointer (some ⟨bb, 0, none⟩), bv])], Sb]) (oI 5 encYs bv u0_ (oE (Value.tuple #[]) [[(bb, 52, #[Value.pointer (some ⟨bb, 0, none⟩), bv])]]))) v_ L_ U_)]) ?_
  refine r_v (Value.pointer (some ⟨bb, 0, none⟩)) rfl rfl rfl rfl ?_
  replace hM := bind_sm hM; obtain ⟨r3, hr4, hM⟩ := hM
  replace hM := ck_some hM; obtain ⟨ck5, hM⟩ := hM
  refine r_gm (Ls := [[(bb, 52, #[Value.pointer (some ⟨bb, 0, none⟩), bv])], Sb]) (FL := [[(bb, 52, #[Value.pointer (some ⟨bb, 0, none⟩), bv])], Sb]) (RL := []) [0, 1] (oI 5 encYs bv r3 (oE (Value.tuple #[]) [[(bb, 52, #[Value.pointer (some ⟨bb, 0, none⟩), bv])]])) (some 8) 43 _ rfl rfl rfl rfl rfl (ev_callF rfl call_43 rfl) (fun own_ nw_ hn_ hs_ => strings_Builder_copyCheck_v3_g N b _ hr4 _ bb bv Sb hb) (fun _ _ v_ L_ U_ => ⟨fun h_ => h_ _ hr4, fun h_ => by intro _ e_; cases Option.some.inj (e_.symm.trans hr4); exact h_⟩) (NiceO.sub (R := (Sb ++ ([(bb, 52, #[Value.pointer (some ⟨bb, 0, none⟩), bv])] ++ []))) (niceI hb ck5 (niceE rfl)) (Sub.pick [[(bb, 52, #[Value.pointer (some ⟨bb, 0, none⟩), bv])], Sb] [1, 0] rfl)) ?_
  rintro _ _ ⟨S6, _, H7, ⟨rfl, rfl⟩, rfl⟩
  refine lx_perm (Ls := [S6, [(bb, 52, #[Value.pointer (some ⟨bb, 0, none⟩), bv])]]) (Ls' := [[(bb, 52, #[Value.pointer (some ⟨bb, 0, none⟩), bv])], S6]) [1, 0] rfl rfl ?_
  refine lx_nil ?_
  refine hK2 _ _ ?_; try clear hK2 K2
  refine A_seq fun K8 hK8 => ?_
  refine A_reg ?_
  refine r_v (Value.pointer (some ⟨bb, 0, none⟩)) rfl rfl rfl rfl ?_
  refine r_v (Value.pointer (some ⟨bb, 0, none⟩)) rfl rfl rfl rfl ?_
  refine r_v (Value.pointer (some ⟨bb, 1, none⟩)) rfl rfl rfl rfl ?_
  refine r_l (bv) 0 _ _ _ _ rfl rfl rfl rfl rfl ?_
  refine r_v (Value.int .i64 (((r3).length : Int))) rfl rfl rfl (ev_lenSl rfl rfl rfl (Sl.shp H7)) ?_
  refine r_v (Value.int .i64 (((r3).length : Int))) rfl rfl rfl rfl ?_
  refine lx_nil ?_
  refine hK8 _ _ ?_; try clear hK8 K8
  refine A_seq fun K9 hK9 => ?_
  refine A_regC [(some 20, true)] (conG Try.prog [(20, fun v_ L_ U_ => ∀ u0_, unicode_utf8_AppendRune_v1_m N r3 r' = some u0_ → (pO (List.flatten [S6]) (oS 5 encYs u0_ fun s_0 => (oE (s_0) []))) v_ L_ U_)]) ?_
  refine r_v (Value.pointer (some ⟨bb, 0, none⟩)) rfl rfl rfl rfl ?_
  refine r_v (Value.pointer (some ⟨bb, 0, none⟩)) rfl rfl rfl rfl ?_
  refine r_v (Value.pointer (some ⟨bb, 0, none⟩)) rfl rfl rfl rfl ?_
  refine r_v (Value.pointer (some ⟨bb, 1, none⟩)) rfl rfl rfl rfl ?_
  refine r_l (bv) 0 _ _ _ _ rfl rfl rfl rfl rfl ?_
  refine r_v (Value.int .i32 (r')) rfl rfl rfl rfl ?_
  replace hM := bind_sm hM; obtain ⟨r10, hr11, hM⟩ := hM
  refine r_gm (Ls := [[(bb, 52, #[Value.pointer (some ⟨bb, 0, none⟩), bv])], S6]) (FL := [S6]) (RL := [[(bb, 52, #[Value.pointer (some ⟨bb, 0, none⟩), bv])]]) [1] (oS 5 encYs r10 fun s_0 => (oE (s_0) [])) (some 20) 45 _ rfl rfl rfl rfl rfl (ev_callF rfl call_45 rfl) (fun own_ nw_ hn_ hs_ => unicode_utf8_AppendRune_v1_g N r3 r' _ hr11 _ bv S6 H7) (fun _ _ v_ L_ U_ => ⟨fun h_ => h_ _ hr11, fun h_ => by intro _ e_; cases Option.some.inj (e_.symm.trans hr11); exact h_⟩) (NiceO.sub (R := []) (niceS fun s_0 => (niceE rfl)) (Sub.pick [S6] [] rfl)) ?_
  rintro s12 _ ⟨_, S13, _, H14, ⟨rfl, rfl⟩, rfl⟩
  refine lx_perm (Ls := [[(bb, 52, #[Value.pointer (some ⟨bb, 0, none⟩), bv])], S13]) (Ls' := [[(bb, 52, #[Value.pointer (some ⟨bb, 0, none⟩), bv])], S13]) [0, 1] rfl rfl ?_
  refine r_v (Value.pointer (some ⟨bb, 0, none⟩)) rfl rfl rfl rfl ?_
  refine r_v (Value.pointer (some ⟨bb, 1, none⟩)) rfl rfl rfl rfl ?_
  refine r_s (List.flatten [[(bb, 52, #[Value.pointer (some ⟨bb, 0, none⟩), s12])], S13]) 0 _ _ _ (#[Value.pointer (some ⟨bb, 0, none⟩), bv]) (#[s12]) (#[Value.pointer (some ⟨bb, 0, none⟩), s12]) rfl rfl rfl (cells_sl rfl (Sl.shp H14)) (.ofS rfl rfl (all_cons' (Shp.one (Sl.shp H14)) all_nil')) rfl rfl ?_
  refine lx_nil ?_
  refine hK9 _ _ ?_; try clear hK9 K9
  refine A_seq fun K15 hK15 => ?_
  refine A_reg ?_
  refine r_v (Value.pointer (some ⟨bb, 0, none⟩)) rfl rfl rfl rfl ?_
  refine r_v (Value.pointer (some ⟨bb, 0, none⟩)) rfl rfl rfl rfl ?_
  refine r_v (Value.pointer (some ⟨bb, 1, none⟩)) rfl rfl rfl rfl ?_
  refine r_l (s12) 0 _ _ _ _ rfl rfl rfl rfl rfl ?_
  refine r_v (Value.int .i64 (((r10).length : Int))) rfl rfl rfl (ev_lenSl rfl rfl rfl (Sl.shp H14)) ?_
  refine r_v (Value.int .i64 (((r3).length : Int))) rfl rfl rfl rfl ?_
  replace hM := ck_some hM; obtain ⟨ck16, hM⟩ := hM
  refine r_v (Value.int .i64 ((((r10).length : Int) - ((r3).length : Int)))) rfl rfl (wi64 rfl ck16.1 ck16.2) rfl ?_
  refine r_v (Value.int .i64 ((((r10).length : Int) - ((r3).length : Int)))) rfl rfl rfl rfl ?_
  refine r_v (Value.nilIface) rfl rfl rfl rfl ?_
  refine lx_nil ?_
  refine hK15 _ _ ?_; try clear hK15 K15
  refine A_gen [(4, Value.int .i64 ((((r10).length : Int) - ((r3).length : Int)))), (5, Value.nilIface)] rfl (fun T => ?_)
  obtain rfl := Option.some.inj hM
  refine A_ret (fun hn => endsO (v0 := Value.tuple #[Value.int .i64 ((((r10).length : Int) - ((r3).length : Int))), Value.nilIface]) (O := [S13, [(bb, 52, #[Value.pointer (some ⟨bb, 0, none⟩), s12])]]) (res2 rfl rfl) (Sub.pick [[(bb, 52, #[Value.pointer (some ⟨bb, 0, none⟩), s12])], S13] [1, 0] rfl) ⟨s12, S13, _, H14, ⟨rfl, rfl⟩, rfl⟩)
def strings_Builder_WriteRune_v2b_m (N : Nat) (b : List UInt8) (r' : Int) : Option (Int × (List UInt8)) := strings_Builder_WriteRune_v2_m N b r'
set_option maxRecDepth 100000 in
theorem strings_Builder_WriteRune_v2b_g (N : Nat) (b : List UInt8) (r' : Int) (r : Int × (List UInt8)) (hM : strings_Builder_WriteRune_v2b_m N b r' = some r) (ro : Addr → Option Value) (vb_ : Value) (Sb_ : List Bl) (Hb_ : Bd 52 5 vb_ b Sb_)  : Does Try.prog 37 #[vb_, Value.int .i32 (r')] ro (List.flatten [Sb_]) (pO (List.flatten [Sb_]) (oIB 52 5 vb_ r.2 (oE (Value.tuple #[Value.int .i64 (r.1), Value.nilIface]) []))) := by
  rw [flat_one]
  obtain ⟨b_, f_, s_, S0_, rfl, H0_, rfl⟩ := Hb_
  cases f_
  · exact bd_w (f := true) (strings_Builder_WriteRune_v1_g N b r' r hM ro b_ s_ S0_ H0_ )
  · exact bd_w (f := true) (strings_Builder_WriteRune_v2_g N b r' r hM ro b_ s_ S0_ H0_ )
def strings_Builder_String_v1_m (_ : Nat) (b : List UInt8) : Option (List UInt8) := ck ((b).length ≤ 140737488355328) (some (b))
set_option maxRecDepth 100000 in
set_option maxHeartbeats 400000 in
theorem strings_Builder_String_v1_g (N : Nat) (b : List UInt8) (r : List UInt8) (hM : strings_Builder_String_v1_m N b = some r) (ro : Addr → Option Value) (bb : Nat) (bv : Value) (Sb : List Bl) (hb : Sl 5 encYs bv b Sb) : Does Try.prog 38 #[Value.pointer (some ⟨bb, 0, none⟩)] ro (List.flatten [[(bb, 52, #[Value.pointer none, bv])], Sb]) (pO (List.flatten [[(bb, 52, #[Value.pointer none, bv])], Sb]) (oE (Value.string (⟨(r).toArray⟩)) [])) := by
  unfold strings_Builder_String_v1_m at hM
  refine doesO_of_A follows Try.func38 rfl 14 rfl (upd (fun _ => undef) 0 (Value.pointer (some ⟨bb, 0, none⟩))) (by funext k; match k with | 0 => rfl | k + 1 => rfl) (fun _ _ h_ _ => h_) (fun base0_ => ?_)
  refine A_seq fun K1 hK1 => ?_
  refine A_reg ?_
  refine r_v (Value.string (⟨#[]⟩)) rfl rfl rfl rfl ?_
  refine lx_nil ?_
  refine hK1 _ _ ?_; try clear hK1 K1
  refine A_seq fun K2 hK2 => ?_
  refine A_drawR [(some 7, false), (some 13, true)] (conG Try.prog [(7, fun v_ L_ U_ => (fun v_ L_ U_ => UsdP bv v_ ∧ L_ = [] ∧ U_ = []) v_ L_ U_), (13, fun v_ L_ U_ => (pUp (fun v_ U_ => v_ = .string ⟨(b).toArray⟩ ∧ U_ = deadB Sb)) v_ L_ U_)]) [] (by decide +kernel) (fun hn => sep_nil) ?_
  refine r_v (Value.pointer (some ⟨bb, 0, none⟩)) rfl rfl rfl rfl ?_
  refine r_v (Value.pointer (some ⟨bb, 0, none⟩)) rfl rfl rfl rfl ?_
  refine r_v (Value.pointer (some ⟨bb, 1, none⟩)) rfl rfl rfl rfl ?_
  refine r_l (bv) 0 _ _ _ _ rfl rfl rfl rfl rfl ?_
  refine r_usd (Ls := [[(bb, 52, #[Value.pointer none, bv])], Sb]) 1 rfl rfl rfl rfl rfl hb rfl rfl (fun _ _ _ _ _ => Iff.rfl) (fun u3 hu4 => ?_)
  refine r_v (Value.pointer (some ⟨bb, 0, none⟩)) rfl rfl rfl rfl ?_
  refine r_v (Value.pointer (some ⟨bb, 0, none⟩)) rfl rfl rfl rfl ?_
  refine r_v (Value.pointer (some ⟨bb, 1, none⟩)) rfl rfl rfl rfl ?_
  refine r_l (bv) 0 _ _ _ _ rfl rfl rfl rfl rfl ?_
  refine r_v (Value.int .i64 (((b).length : Int))) rfl rfl rfl (ev_lenSl rfl rfl rfl (Sl.shp hb)) ?_
  replace hM := ck_some hM; obtain ⟨ck5, hM⟩ := hM
  refine r_uss (Ls := [[(bb, 52, #[Value.pointer none, bv])], Sb]) 1 (xs := b) rfl rfl rfl rfl rfl rfl hb hu4 rfl (by kernel_rfl) rfl ck5 (fun _ _ _ _ _ => Iff.rfl) ?_
  refine lx_perm (Ls := [[(bb, 52, #[Value.pointer none, bv])], deadB Sb]) (Ls' := [[(bb, 52, #[Value.pointer none, bv])]]) [0] rfl rfl ?_
  refine r_v (Value.string (⟨(b).toArray⟩)) rfl rfl rfl rfl ?_
  refine lx_nil ?_
  refine hK2 _ _ ?_; try clear hK2 K2
  obtain rfl := Option.some.inj hM
  refine A_ret (fun hn => endsO (v0 := Value.string (⟨(b).toArray⟩)) (O := []) (res1 rfl) (Sub.nil _) ⟨rfl, rfl⟩)
def strings_Builder_String_v2_m (_ : Nat) (b : List UInt8) : Option (List UInt8) := ck ((b).length ≤ 140737488355328) (some (b))
set_option maxRecDepth 100000 in
set_option maxHeartbeats 400000 in
theorem strings_Builder_String_v2_g (N : Nat) (b : List UInt8) (r : List UInt8) (hM : strings_Builder_String_v2_m N b = some r) (ro : Addr → Option Value) (bb : Nat) (bv : Value) (Sb : List Bl) (hb : Sl 5 encYs bv b Sb) : Does Try.prog 38 #[Value.pointer (some ⟨bb, 0, none⟩)] ro (List.flatten [[(bb, 52, #[Value.pointer (some ⟨bb, 0, none⟩), bv])], Sb]) (pO (List.flatten [[(bb, 52, #[Value.pointer (some ⟨bb, 0, none⟩), bv])], Sb]) (oE (Value.string (⟨(r).toArray⟩)) [])) := by
  unfold strings_Builder_String_v2_m at hM
  refine doesO_of_A follows Try.func38 rfl 14 rfl (upd (fun _ => undef) 0 (Value.pointer (some ⟨bb, 0, none⟩))) (by funext k; match k with | 0 => rfl | k + 1 => rfl) (fun _ _ h_ _ => h_) (fun base0_ => ?_)
  refine A_seq fun K1 hK1 => ?_
  refine A_reg ?_
  refine r_v (Value.string (⟨#[]⟩)) rfl rfl rfl rfl ?_
  refine lx_nil ?_
  refine hK1 _ _ ?_; try clear hK1 K1
  refine A_seq fun K2 hK2 => ?_
  refine A_drawR [(some 7, false), (some 13, true)] (conG Try.prog [(7, fun v_ L_ U_ => (fun v_ L_ U_ => UsdP bv v_ ∧ L_ = [] ∧ U_ = []) v_ L_ U_), (13, fun v_ L_ U_ => (pUp (fun v_ U_ => v_ = .string ⟨(b).toArray⟩ ∧ U_ = deadB Sb)) v_ L_ U_)]) [] (by decide +kernel) (fun hn => sep_nil) ?_
  refine r_v (Value.pointer (some ⟨bb, 0, none⟩)) rfl rfl rfl rfl ?_
  refine r_v (Value.pointer (some ⟨bb, 0, none⟩)) rfl rfl rfl rfl ?_
  refine r_v (Value.pointer (some ⟨bb, 1, none⟩)) rfl rfl rfl rfl ?_
  refine r_l (bv) 0 _ _ _ _ rfl rfl rfl rfl rfl ?_
  refine r_usd (Ls := [[(bb, 52, #[Value.pointer (some ⟨bb, 0, none⟩), bv])], Sb]) 1 rfl rfl rfl rfl rfl hb rfl rfl (fun _ _ _ _ _ => Iff.rfl) (fun u3 hu4 => ?_)
  refine r_v (Value.pointer (some ⟨bb, 0, none⟩)) rfl rfl rfl rfl ?_
  refine r_v (Value.pointer (some ⟨bb, 0, none⟩)) rfl rfl rfl rfl ?_
  refine r_v (Value.pointer (some ⟨bb, 1, none⟩)) rfl rfl rfl rfl ?_
  refine r_l (bv) 0 _ _ _ _ rfl rfl rfl rfl rfl ?_
  refine r_v (Value.int .i64 (((b).length : Int))) rfl rfl rfl (ev_lenSl rfl rfl rfl (Sl.shp hb)) ?_
  replace hM := ck_some hM; obtain ⟨ck5, hM⟩ := hM
  refine r_uss (Ls := [[(bb, 52, #[Value.pointer (some ⟨bb, 0, none⟩), bv])], Sb]) 1 (xs := b) rfl rfl rfl rfl rfl rfl hb hu4 rfl (by kernel_rfl) rfl ck5 (fun _ _ _ _ _ => Iff.rfl) ?_
  refine lx_perm (Ls := [[(bb, 52, #[Value.pointer (some ⟨bb, 0, none⟩), bv])], deadB Sb]) (Ls' := [[(bb, 52, #[Value.pointer (some ⟨bb, 0, none⟩), bv])]]) [0] rfl rfl ?_
  refine r_v (Value.string (⟨(b).toArray⟩)) rfl rfl rfl rfl ?_
  refine lx_nil ?_
  refine hK2 _ _ ?_; try clear hK2 K2
  obtain rfl := Option.some.inj hM
  refine A_ret (fun hn => endsO (v0 := Value.string (⟨(b).toArray⟩)) (O := []) (res1 rfl) (Sub.nil _) ⟨rfl, rfl⟩)
def strings_Builder_String_v2b_m (N : Nat) (b : List UInt8) : Option (List UInt8) := strings_Builder_String_v2_m N b
set_option maxRecDepth 100000 in
theorem strings_Builder_String_v2b_g (N : Nat) (b : List UInt8) (r : List UInt8) (hM : strings_Builder_String_v2b_m N b = some r) (ro : Addr → Option Value) (vb_ : Value) (Sb_ : List Bl) (Hb_ : Bd 52 5 vb_ b Sb_)  : Does Try.prog 38 #[vb_] ro (List.flatten [Sb_]) (pO (List.flatten [Sb_]) (oE (Value.string (⟨(r).toArray⟩)) [])) := by
  rw [flat_one]
  obtain ⟨b_, f_, s_, S0_, rfl, H0_, rfl⟩ := Hb_
  cases f_
  · exact strings_Builder_String_v1_g N b r hM ro b_ s_ S0_ H0_ 
  · exact strings_Builder_String_v2_g N b r hM ro b_ s_ S0_ H0_ 
def name_Key_l3 (N : Nat) (s : List UInt8) : Nat → List UInt8 → Nat → Option (List UInt8)
  | 0, _, _ => none
  | n15 + 1, Valuep1_, m2_ => if m2_ < (s).length then ck (m2_ < (s).length) ((name_Fold_m N ((runeAt (s) (m2_) : Nat) : Int)).bind fun r21 => (strings_Builder_WriteRune_v2b_m N Valuep1_ r21).bind fun r23 => (name_Key_l3 N s n15) (r23.2) (nextP (s) (m2_))) else (strings_Builder_String_v2b_m N Valuep1_).bind fun r28 => some (r28)
def name_Key_m (N : Nat) (s : List UInt8) : Option (List UInt8) := (strings_Builder_Grow_v1_m N ((s).length : Int)).bind fun r5 => name_Key_l3 N s N (r5) (0)
set_option maxRecDepth 100000 in
set_option maxHeartbeats 400000 in
theorem name_Key_g (N : Nat) (s : List UInt8) (r : List UInt8) (hM : name_Key_m N s = some r) : Gives Try.prog 23 #[Value.string (⟨(s).toArray⟩)] (Value.string (⟨(r).toArray⟩)) := by
  unfold name_Key_m at hM
  refine gives_of_A follows Try.func23 rfl 18 rfl (upd (fun _ => undef) 0 (Value.string (⟨(s).toArray⟩))) (by funext k; match k with | 0 => rfl | k + 1 => rfl) (fun base0_ => ?_)
  refine A_seq fun K1 hK1 => ?_
  refine A_reg ?_
  refine r_v (Value.string (⟨#[]⟩)) rfl rfl rfl rfl ?_
  refine lx_nil ?_
  refine hK1 _ _ ?_; try clear hK1 K1
  refine A_seq fun K2 hK2 => ?_
  refine A_reg ?_
  refine r_a (52, #[Value.pointer none, Value.slice none 0 0]) rfl rfl rfl (fun b3 => ?_) (.inr rfl)
  refine lx_nil ?_
  refine hK2 _ _ ?_; try clear hK2 K2
  refine A_seq fun K4 hK4 => ?_
  refine A_regC [(some 8, true)] (conG Try.prog [(8, fun v_ L_ U_ => ∀ u0_, strings_Builder_Grow_v1_m N ((s).length : Int) = some u0_ → (pO (List.flatten [[(b3, 52, #[Value.pointer none, Value.slice none 0 0])]]) (oS 5 encYs u0_ fun s_0 => (oE (Value.tuple #[]) [[(b3, 52, #[Value.pointer (some ⟨b3, 0, none⟩), s_0])]]))) v_ L_ U_)]) ?_
  refine r_v (Value.string (⟨(s).toArray⟩)) rfl rfl rfl rfl ?_
  refine r_v (Value.int .i64 (((s).length : Int))) rfl rfl rfl (ev_lenS rfl rfl rfl) ?_
  replace hM := bind_sm hM; obtain ⟨r5, hr6, hM⟩ := hM
  refine r_gm (Ls := [[(b3, 52, #[Value.pointer none, Value.slice none 0 0])]]) (FL := [[(b3, 52, #[Value.pointer none, Value.slice none 0 0])]]) (RL := []) [0] (oS 5 encYs r5 fun s_0 => (oE (Value.tuple #[]) [[(b3, 52, #[Value.pointer (some ⟨b3, 0, none⟩), s_0])]])) (some 8) 36 _ rfl rfl rfl rfl rfl (ev_callF rfl call_36 rfl) (fun own_ nw_ hn_ hs_ => strings_Builder_Grow_v1_g N ((s).length : Int) _ hr6 _ b3) (fun _ _ v_ L_ U_ => ⟨fun h_ => h_ _ hr6, fun h_ => by intro _ e_; cases Option.some.inj (e_.symm.trans hr6); exact h_⟩) (NiceO.sub (R := ([(b3, 52, #[Value.pointer none, Value.slice none 0 0])] ++ [])) (niceS fun s_0 => (niceE rfl)) (Sub.pick [[(b3, 52, #[Value.pointer none, Value.slice none 0 0])]] [0] rfl)) ?_
  rintro _ _ ⟨s7, S8, _, H9, ⟨rfl, rfl⟩, rfl⟩
  refine lx_perm (Ls := [S8, [(b3, 52, #[Value.pointer (some ⟨b3, 0, none⟩), s7])]]) (Ls' := [[(b3, 52, #[Value.pointer (some ⟨b3, 0, none⟩), s7])], S8]) [1, 0] rfl rfl ?_
  refine lx_perm (Ls := [[(b3, 52, #[Value.pointer (some ⟨b3, 0, none⟩), s7])], S8]) (Ls' := [[(b3, 52, #[Value.pointer (some ⟨b3, 0, none⟩), s7])], S8]) [0, 1] rfl rfl ?_
  refine lx_eq (Ls := [[(b3, 52, #[Value.pointer (some ⟨b3, 0, none⟩), s7])], S8]) (Ls' := [(List.flatten [[(b3, 52, #[Value.pointer (some ⟨b3, 0, none⟩), s7])], S8])]) (by simp only [List.flatten_cons, List.flatten_nil, List.append_nil, List.append_assoc]) ?_
  refine lx_name (Ls := [(List.flatten [[(b3, 52, #[Value.pointer (some ⟨b3, 0, none⟩), s7])], S8])]) (p := fun S_ => Bd 52 5 (Value.pointer (some ⟨b3, 0, none⟩)) r5 S_) 0 rfl ⟨b3, true, _, _, rfl, H9, rfl⟩ (fun S10 H11 => ?_)
  refine lx_nil ?_
  refine hK4 _ _ ?_; try clear hK4 K4
  refine A_seq fun K12 hK12 => ?_
  refine A_seq fun K13 hK13 => ?_
  refine A_regC [(some 10, false)] (conG Try.prog [(10, fun v_ L_ U_ => (pIt (s)) v_ L_ U_)]) ?_
  refine r_v (Value.string (⟨(s).toArray⟩)) rfl rfl rfl rfl ?_
  refine r_range (s) rfl rfl rfl rfl rfl (fun _ _ _ _ _ => Iff.rfl) (fun b14 => ?_)
  refine lx_app1 (Ls := [S10]) ?_
  refine lx_perm (Ls := [S10, [(b14, (itT (s) (0)), #[])]]) (Ls' := [[(b14, (itT (s) (0)), #[])], S10]) [1, 0] rfl rfl ?_
  refine lx_nil ?_
  refine hK13 _ _ ?_; try clear hK13 K13
  refine A_block ?_
  refine A_forget _ (Sub.pick [[(b14, (itT (s) (0)), #[])], S10] [0, 1] rfl) ?_
  refine A_loop (fun tt ll nn => ∃ (n15 : Nat) (Valuep1_ : List UInt8) (m2_ : Nat), (name_Key_l3 N s n15 Valuep1_ m2_ = some r) ∧ ∃ (SValuep1_ : List Bl), Bd 52 5 (Value.pointer (some ⟨b3, 0, none⟩)) Valuep1_ SValuep1_ ∧ Is [(3, Value.pointer (some ⟨b3, 0, none⟩)), (10, Value.pointer (some ⟨b14, 0, none⟩))] (List.flatten [[(b14, (itT (s) (m2_)), #[])], SValuep1_]) tt ll ∧ nn = n15 + 1) (N + 1) ?_ ?_
  · exact ⟨N, r5, 0, hM, S10, H11, is_mk rfl rfl, rfl⟩
  · clear hM; rintro t l _ ⟨n15, Valuep1_, m2_, hM, SValuep1_, hValuep1_, ⟨⟨T, rfl⟩, rfl⟩, rfl⟩
    rcases n15 with _ | n15
    · exact absurd hM (by simp [name_Key_l3])
    rw [name_Key_l3] at hM
    refine A_seq fun K16 hK16 => ?_
    refine A_regC [(some 11, true)] (conG Try.prog [(11, fun v_ L_ U_ => (pNx b14 (s) (m2_)) v_ L_ U_)]) ?_
    refine r_next (lN := (List.flatten [[(b14, (itT (s) (nextP (s) (m2_))), #[])], SValuep1_])) 0 b14 (s) (m2_) rfl rfl rfl rfl rfl rfl (fun _ _ _ _ _ => Iff.rfl) rfl ?_
    refine r_v (Value.bool (decide (m2_ < (s).length))) rfl rfl rfl (ev_v (ev_next0 (s) (m2_))) ?_
    refine lx_nil ?_
    refine hK16 _ _ ?_; try clear hK16 K16
    refine A_seq fun K17 hK17 => ?_
    refine A_cond (decide (m2_ < (s).length)) rfl (fun hc18 => ?_) (fun hc18 => ?_)
    · replace hM := ifp (of_decide_eq_true hc18) hM
      refine A_skip ?_
      refine hK17 _ _ ?_; try clear hK17 K17
      refine A_block ?_
      refine A_seq fun K19 hK19 => ?_
      refine A_reg ?_
      replace hM := ck_some hM; obtain ⟨ck20, hM⟩ := hM
      refine r_v (Value.int .i32 (((runeAt (s) (m2_) : Nat) : Int))) rfl rfl rfl (ev_v (ev_next2 ck20)) ?_
      refine r_v (Value.int .i32 (((runeAt (s) (m2_) : Nat) : Int))) rfl rfl rfl rfl ?_
      refine lx_nil ?_
      refine hK19 _ _ ?_; try clear hK19 K19
      refine A_regC [(some 16, true)] (conG Try.prog [(16, fun v_ L_ U_ => ∀ u0_, name_Fold_m N ((runeAt (s) (m2_) : Nat) : Int) = some u0_ → ∀ u1_, strings_Builder_WriteRune_v2b_m N Valuep1_ u0_ = some u1_ → (pO (List.flatten [SValuep1_]) (oIB 52 5 (Value.pointer (some ⟨b3, 0, none⟩)) u1_.2 (oE (Value.tuple #[Value.int .i64 (u1_.1), Value.nilIface]) []))) v_ L_ U_)]) ?_
      refine r_v (Value.int .i32 (((runeAt (s) (m2_) : Nat) : Int))) rfl rfl rfl rfl ?_
      replace hM := bind_sm hM; obtain ⟨r21, hr22, hM⟩ := hM
      refine r_c (Value.int .i32 (r21)) rfl _ _ (ev_callF rfl call_20 rfl) (name_Fold_g N ((runeAt (s) (m2_) : Nat) : Int) _ hr22) ?_
      replace hM := bind_sm hM; obtain ⟨r23, hr24, hM⟩ := hM
      refine r_gm (Ls := [[(b14, (itT (s) (nextP (s) (m2_))), #[])], SValuep1_]) (FL := [SValuep1_]) (RL := [[(b14, (itT (s) (nextP (s) (m2_))), #[])]]) [1] (oIB 52 5 (Value.pointer (some ⟨b3, 0, none⟩)) r23.2 (oE (Value.tuple #[Value.int .i64 (r23.1), Value.nilIface]) [])) (some 16) 37 _ rfl rfl rfl rfl rfl (ev_callF rfl call_37 rfl) (fun own_ nw_ hn_ hs_ => strings_Builder_WriteRune_v2b_g N Valuep1_ r21 _ hr24 _ (Value.pointer (some ⟨b3, 0, none⟩)) SValuep1_ hValuep1_) (fun _ _ v_ L_ U_ => ⟨fun h_ => h_ _ hr22 _ hr24, fun h_ => by intro _ e_; cases Option.some.inj (e_.symm.trans hr22); intro _ e_; cases Option.some.inj (e_.symm.trans hr24); exact h_⟩) (NiceO.sub (R := (SValuep1_ ++ [])) (niceIB hValuep1_  (niceE rfl)) (Sub.pick [SValuep1_] [0] rfl)) ?_
      rintro _ _ ⟨S25, _, H26, ⟨rfl, rfl⟩, rfl⟩
      refine lx_perm (Ls := [[(b14, (itT (s) (nextP (s) (m2_))), #[])], S25]) (Ls' := [[(b14, (itT (s) (nextP (s) (m2_))), #[])], S25]) [0, 1] rfl rfl ?_
      refine lx_nil ?_
      refine fg _ (Sub.pick [[(b14, (itT (s) (nextP (s) (m2_))), #[])], S25] [0, 1] rfl) ?_
      exact ⟨n15 + 1, by omega, n15, r23.2, nextP (s) (m2_), hM, S25, H26, is_mk rfl rfl, rfl⟩
    · replace hM := ifn (of_decide_eq_false hc18) hM
      refine A_exit ?_
      refine hK12 _ _ ?_; try clear hK12 K12
      refine A_seq fun K27 hK27 => ?_
      refine A_regC [(some 17, true)] (conG Try.prog [(17, fun v_ L_ U_ => ∀ u0_, strings_Builder_String_v2b_m N Valuep1_ = some u0_ → (pO (List.flatten [SValuep1_]) (oE (Value.string (⟨(u0_).toArray⟩)) [])) v_ L_ U_)]) ?_
      replace hM := bind_sm hM; obtain ⟨r28, hr29, hM⟩ := hM
      refine r_gm (Ls := [[(b14, (itT (s) (nextP (s) (m2_))), #[])], SValuep1_]) (FL := [SValuep1_]) (RL := [[(b14, (itT (s) (nextP (s) (m2_))), #[])]]) [1] (oE (Value.string (⟨(r28).toArray⟩)) []) (some 17) 38 _ rfl rfl rfl rfl rfl (ev_callF rfl call_38 rfl) (fun own_ nw_ hn_ hs_ => strings_Builder_String_v2b_g N Valuep1_ _ hr29 _ (Value.pointer (some ⟨b3, 0, none⟩)) SValuep1_ hValuep1_) (fun _ _ v_ L_ U_ => ⟨fun h_ => h_ _ hr29, fun h_ => by intro _ e_; cases Option.some.inj (e_.symm.trans hr29); exact h_⟩) (NiceO.sub (R := []) (niceE rfl) (Sub.pick [SValuep1_] [] rfl)) ?_
      rintro _ _ ⟨rfl, rfl⟩
      refine lx_perm (Ls := [[(b14, (itT (s) (nextP (s) (m2_))), #[])]]) (Ls' := [[(b14, (itT (s) (nextP (s) (m2_))), #[])]]) [0] rfl rfl ?_
      refine r_v (Value.string (⟨(r28).toArray⟩)) rfl rfl rfl rfl ?_
      refine lx_nil ?_
      refine hK27 _ _ ?_; try clear hK27 K27
      obtain rfl := Option.some.inj hM
      refine A_ret (fun hn => ends_eq (v0 := Value.string (⟨(r28).toArray⟩)) rfl (res1 rfl))
def name_Alike_m (N : Nat) (a : List UInt8) (b : List UInt8) : Option (Bool) := (name_Key_m N a).bind fun r3 => (name_Key_m N b).bind fun r5 => some ((r3) == (r5))
set_option maxRecDepth 100000 in
set_option maxHeartbeats 400000 in
theorem name_Alike_g (N : Nat) (a : List UInt8) (b : List UInt8) (r : Bool) (hM : name_Alike_m N a b = some r) : Gives Try.prog 25 #[Value.string (⟨(a).toArray⟩), Value.string (⟨(b).toArray⟩)] (Value.bool (r)) := by
  unfold name_Alike_m at hM
  refine gives_of_A follows Try.func25 rfl 10 rfl (upd (upd (fun _ => undef) 1 (Value.string (⟨(b).toArray⟩))) 0 (Value.string (⟨(a).toArray⟩))) (by funext k; match k with | 0 => rfl | 1 => rfl | k + 2 => rfl) (fun base0_ => ?_)
  refine A_seq fun K1 hK1 => ?_
  refine A_reg ?_
  refine r_v (Value.bool (false)) rfl rfl rfl rfl ?_
  refine lx_nil ?_
  refine hK1 _ _ ?_; try clear hK1 K1
  refine A_seq fun K2 hK2 => ?_
  refine A_reg ?_
  refine r_v (Value.string (⟨(a).toArray⟩)) rfl rfl rfl rfl ?_
  replace hM := bind_sm hM; obtain ⟨r3, hr4, hM⟩ := hM
  refine r_c (Value.string (⟨(r3).toArray⟩)) rfl _ _ (ev_callF rfl call_23 rfl) (name_Key_g N a _ hr4) ?_
  refine r_v (Value.string (⟨(b).toArray⟩)) rfl rfl rfl rfl ?_
  replace hM := bind_sm hM; obtain ⟨r5, hr6, hM⟩ := hM
  refine r_c (Value.string (⟨(r5).toArray⟩)) rfl _ _ (ev_callF rfl call_23 rfl) (name_Key_g N b _ hr6) ?_
  refine r_v (Value.bool ((r3) == (r5))) rfl rfl rfl (ev_eqS rfl rfl) ?_
  refine r_v (Value.bool ((r3) == (r5))) rfl rfl rfl rfl ?_
  refine lx_nil ?_
  refine hK2 _ _ ?_; try clear hK2 K2
  obtain rfl := Option.some.inj hM
  refine A_ret (fun hn => ends_eq (v0 := Value.bool ((r3) == (r5))) rfl (res1 rfl))
def shunterlaw05_lives_m (N : Nat) : Option (Bool) := (name_May_m N ([83, 116, 114, 97, 195, 159, 101] : List UInt8)).bind fun r3 => if (r3) = true then (name_Len_m N ([83, 116, 114, 97, 195, 159, 101] : List UInt8)).bind fun r6 => if (r6 : Int) = 6 then (name_Alike_m N ([195, 137, 84, 195, 137] : List UInt8) ([195, 169, 116, 195, 169] : List UInt8)).bind fun r9 => some (r9) else some (false) else some (false)
set_option maxRecDepth 100000 in
set_option maxHeartbeats 400000 in
theorem shunterlaw05_lives_g (N : Nat) (r : Bool) (hM : shunterlaw05_lives_m N = some r) : Gives Try.prog 9 #[] (Value.bool (r)) := by
  unfold shunterlaw05_lives_m at hM
  refine gives_of_A follows Try.func9 rfl 9 rfl (fun _ => undef) (by funext k; rfl) (fun base0_ => ?_)
  refine A_seq fun K1 hK1 => ?_
  refine A_reg ?_
  refine r_v (Value.bool (false)) rfl rfl rfl rfl ?_
  refine lx_nil ?_
  refine hK1 _ _ ?_; try clear hK1 K1
  refine A_seq fun K2 hK2 => ?_
  refine A_reg ?_
  replace hM := bind_sm hM; obtain ⟨r3, hr4, hM⟩ := hM
  refine r_c (Value.bool (r3)) rfl _ _ (ev_callF rfl call_15 rfl) (name_May_g N ([83, 116, 114, 97, 195, 159, 101] : List UInt8) _ hr4) ?_
  refine r_v (Value.bool (r3)) rfl rfl rfl rfl ?_
  rcases hg5 : (r3) with _ | _
  · replace hM := ifn (Bool.eq_false_iff.1 hg5) hM
    refine r_n false rfl (by decide) rfl ?_
    refine r_n false rfl (by decide) rfl ?_
    refine r_v (Value.bool (false)) rfl rfl rfl rfl ?_
    refine r_v (Value.bool (false)) rfl rfl rfl rfl ?_
    refine r_n false rfl (by decide) rfl ?_
    refine r_v (Value.bool (false)) rfl rfl rfl rfl ?_
    refine r_v (Value.bool (false)) rfl rfl rfl rfl ?_
    refine lx_nil ?_
    refine hK2 _ _ ?_; try clear hK2 K2
    obtain rfl := Option.some.inj hM
    refine A_ret (fun hn => ends_eq (v0 := Value.bool (false)) rfl (res1 rfl))
  · replace hM := ifp hg5 hM
    refine r_y rfl ?_
    replace hM := bind_sm hM; obtain ⟨r6, hr7, hM⟩ := hM
    refine r_c (Value.int .i64 (r6)) rfl _ _ (ev_callF rfl call_12 rfl) (name_Len_g N ([83, 116, 114, 97, 195, 159, 101] : List UInt8) _ hr7) ?_
    refine r_y rfl ?_
    refine r_v (Value.bool (((r6 : Int) == 6))) rfl rfl rfl rfl ?_
    refine r_v (Value.bool (((r6 : Int) == 6))) rfl rfl rfl rfl ?_
    refine r_v (Value.bool (((r6 : Int) == 6))) rfl rfl rfl rfl ?_
    rcases hg8 : (((r6 : Int) == 6)) with _ | _
    · replace hM := ifn (ne_of_beq_false hg8) hM
      refine r_n false rfl (by decide) rfl ?_
      refine r_v (Value.bool (false)) rfl rfl rfl rfl ?_
      refine r_v (Value.bool (false)) rfl rfl rfl rfl ?_
      refine lx_nil ?_
      refine hK2 _ _ ?_; try clear hK2 K2
      obtain rfl := Option.some.inj hM
      refine A_ret (fun hn => ends_eq (v0 := Value.bool (false)) rfl (res1 rfl))
    · replace hM := ifp (eq_of_beq hg8) hM
      refine r_y rfl ?_
      replace hM := bind_sm hM; obtain ⟨r9, hr10, hM⟩ := hM
      refine r_c (Value.bool (r9)) rfl _ _ (ev_callF rfl call_25 rfl) (name_Alike_g N ([195, 137, 84, 195, 137] : List UInt8) ([195, 169, 116, 195, 169] : List UInt8) _ hr10) ?_
      refine r_v (Value.bool (r9)) rfl rfl rfl rfl ?_
      refine r_v (Value.bool (r9)) rfl rfl rfl rfl ?_
      refine lx_nil ?_
      refine hK2 _ _ ?_; try clear hK2 K2
      obtain rfl := Option.some.inj hM
      refine A_ret (fun hn => ends_eq (v0 := Value.bool (r9)) rfl (res1 rfl))
def shunterref05_more_m (_ : Nat) (c : UInt8) : Option (Bool) := if (((c.toNat : Nat) : Int) : Int) ≥ 128 then some (decide ((((c.toNat : Nat) : Int) : Int) < 192)) else some (false)
set_option maxRecDepth 100000 in
set_option maxHeartbeats 400000 in
theorem shunterref05_more_g (N : Nat) (c : UInt8) (r : Bool) (hM : shunterref05_more_m N c = some r) : Gives Try.prog 41 #[Value.int .u8 (((c.toNat : Nat) : Int))] (Value.bool (r)) := by
  unfold shunterref05_more_m at hM
  refine gives_of_A follows Try.func41 rfl 9 rfl (upd (fun _ => undef) 0 (Value.int .u8 (((c.toNat : Nat) : Int)))) (by funext k; match k with | 0 => rfl | k + 1 => rfl) (fun base0_ => ?_)
  refine A_seq fun K1 hK1 => ?_
  refine A_reg ?_
  refine r_v (Value.bool (false)) rfl rfl rfl rfl ?_
  refine lx_nil ?_
  refine hK1 _ _ ?_; try clear hK1 K1
  refine A_seq fun K2 hK2 => ?_
  refine A_reg ?_
  refine r_v (Value.int .u8 (((c.toNat : Nat) : Int))) rfl rfl rfl rfl ?_
  refine r_v (Value.bool (decide ((((c.toNat : Nat) : Int) : Int) ≥ 128))) rfl rfl rfl rfl ?_
  refine r_v (Value.bool (decide ((((c.toNat : Nat) : Int) : Int) ≥ 128))) rfl rfl rfl rfl ?_
  rcases hg3 : (decide ((((c.toNat : Nat) : Int) : Int) ≥ 128)) with _ | _
  · replace hM := ifn (of_decide_eq_false hg3) hM
    refine r_n false rfl (by decide) rfl ?_
    refine r_n false rfl (by decide) rfl ?_
    refine r_v (Value.bool (false)) rfl rfl rfl rfl ?_
    refine r_v (Value.bool (false)) rfl rfl rfl rfl ?_
    refine lx_nil ?_
    refine hK2 _ _ ?_; try clear hK2 K2
    obtain rfl := Option.some.inj hM
    refine A_ret (fun hn => ends_eq (v0 := Value.bool (false)) rfl (res1 rfl))
  · replace hM := ifp (of_decide_eq_true hg3) hM
    refine r_y rfl ?_
    refine r_v (Value.int .u8 (((c.toNat : Nat) : Int))) rfl rfl rfl rfl ?_
    refine r_y rfl ?_
    refine r_v (Value.bool (decide ((((c.toNat : Nat) : Int) : Int) < 192))) rfl rfl rfl rfl ?_
    refine r_v (Value.bool (decide ((((c.toNat : Nat) : Int) : Int) < 192))) rfl rfl rfl rfl ?_
    refine r_v (Value.bool (decide ((((c.toNat : Nat) : Int) : Int) < 192))) rfl rfl rfl rfl ?_
    refine lx_nil ?_
    refine hK2 _ _ ?_; try clear hK2 K2
    obtain rfl := Option.some.inj hM
    refine A_ret (fun hn => ends_eq (v0 := Value.bool (decide ((((c.toNat : Nat) : Int) : Int) < 192))) rfl (res1 rfl))
def shunterref05_First_k5 (s : List UInt8) (x4_ : Bool) : Option (Int × Int) := if (x4_) = true then ck ((-9223372036854775808 ≤ ((((byteN (s) (0)).toNat : Nat) : Int) - 240) ∧ ((((byteN (s) (0)).toNat : Nat) : Int) - 240) ≤ 9223372036854775807)) (ck ((-9223372036854775808 ≤ (262144 * ((((byteN (s) (0)).toNat : Nat) : Int) - 240)) ∧ (262144 * ((((byteN (s) (0)).toNat : Nat) : Int) - 240)) ≤ 9223372036854775807)) (ck ((0 : Int) ≤ 1 ∧ 1 < ((s).length : Int)) (ck ((-9223372036854775808 ≤ ((((byteN (s) (1)).toNat : Nat) : Int) - 128) ∧ ((((byteN (s) (1)).toNat : Nat) : Int) - 128) ≤ 9223372036854775807)) (ck ((-9223372036854775808 ≤ (4096 * ((((byteN (s) (1)).toNat : Nat) : Int) - 128)) ∧ (4096 * ((((byteN (s) (1)).toNat : Nat) : Int) - 128)) ≤ 9223372036854775807)) (ck ((-9223372036854775808 ≤ ((262144 * ((((byteN (s) (0)).toNat : Nat) : Int) - 240)) + (4096 * ((((byteN (s) (1)).toNat : Nat) : Int) - 128))) ∧ ((262144 * ((((byteN (s) (0)).toNat : Nat) : Int) - 240)) + (4096 * ((((byteN (s) (1)).toNat : Nat) : Int) - 128))) ≤ 9223372036854775807)) (ck ((0 : Int) ≤ 2 ∧ 2 < ((s).length : Int)) (ck ((-9223372036854775808 ≤ ((((byteN (s) (2)).toNat : Nat) : Int) - 128) ∧ ((((byteN (s) (2)).toNat : Nat) : Int) - 128) ≤ 9223372036854775807)) (ck ((-9223372036854775808 ≤ (64 * ((((byteN (s) (2)).toNat : Nat) : Int) - 128)) ∧ (64 * ((((byteN (s) (2)).toNat : Nat) : Int) - 128)) ≤ 9223372036854775807)) (ck ((-9223372036854775808 ≤ (((262144 * ((((byteN (s) (0)).toNat : Nat) : Int) - 240)) + (4096 * ((((byteN (s) (1)).toNat : Nat) : Int) - 128))) + (64 * ((((byteN (s) (2)).toNat : Nat) : Int) - 128))) ∧ (((262144 * ((((byteN (s) (0)).toNat : Nat) : Int) - 240)) + (4096 * ((((byteN (s) (1)).toNat : Nat) : Int) - 128))) + (64 * ((((byteN (s) (2)).toNat : Nat) : Int) - 128))) ≤ 9223372036854775807)) (ck ((0 : Int) ≤ 3 ∧ 3 < ((s).length : Int)) (ck ((-9223372036854775808 ≤ ((((262144 * ((((byteN (s) (0)).toNat : Nat) : Int) - 240)) + (4096 * ((((byteN (s) (1)).toNat : Nat) : Int) - 128))) + (64 * ((((byteN (s) (2)).toNat : Nat) : Int) - 128))) + (((byteN (s) (3)).toNat : Nat) : Int)) ∧ ((((262144 * ((((byteN (s) (0)).toNat : Nat) : Int) - 240)) + (4096 * ((((byteN (s) (1)).toNat : Nat) : Int) - 128))) + (64 * ((((byteN (s) (2)).toNat : Nat) : Int) - 128))) + (((byteN (s) (3)).toNat : Nat) : Int)) ≤ 9223372036854775807)) (ck ((-9223372036854775808 ≤ (((((262144 * ((((byteN (s) (0)).toNat : Nat) : Int) - 240)) + (4096 * ((((byteN (s) (1)).toNat : Nat) : Int) - 128))) + (64 * ((((byteN (s) (2)).toNat : Nat) : Int) - 128))) + (((byteN (s) (3)).toNat : Nat) : Int)) - 128) ∧ (((((262144 * ((((byteN (s) (0)).toNat : Nat) : Int) - 240)) + (4096 * ((((byteN (s) (1)).toNat : Nat) : Int) - 128))) + (64 * ((((byteN (s) (2)).toNat : Nat) : Int) - 128))) + (((byteN (s) (3)).toNat : Nat) : Int)) - 128) ≤ 9223372036854775807)) (if ((((((262144 * ((((byteN (s) (0)).toNat : Nat) : Int) - 240)) + (4096 * ((((byteN (s) (1)).toNat : Nat) : Int) - 128))) + (64 * ((((byteN (s) (2)).toNat : Nat) : Int) - 128))) + (((byteN (s) (3)).toNat : Nat) : Int)) - 128) : Int) ≥ 65536 then if ((((((262144 * ((((byteN (s) (0)).toNat : Nat) : Int) - 240)) + (4096 * ((((byteN (s) (1)).toNat : Nat) : Int) - 128))) + (64 * ((((byteN (s) (2)).toNat : Nat) : Int) - 128))) + (((byteN (s) (3)).toNat : Nat) : Int)) - 128) : Int) ≤ 1114111 then some ((((((262144 * ((((byteN (s) (0)).toNat : Nat) : Int) - 240)) + (4096 * ((((byteN (s) (1)).toNat : Nat) : Int) - 128))) + (64 * ((((byteN (s) (2)).toNat : Nat) : Int) - 128))) + (((byteN (s) (3)).toNat : Nat) : Int)) - 128), 4) else some (65533, 1) else some (65533, 1)))))))))))))) else some (65533, 1)
def shunterref05_First_k3 (N : Nat) (s : List UInt8) : Option (Int × Int) := if ((((byteN (s) (0)).toNat : Nat) : Int) : Int) ≥ 240 then if ((((byteN (s) (0)).toNat : Nat) : Int) : Int) < 245 then if (((s).length : Int) : Int) ≥ 4 then ck ((0 : Int) ≤ 1 ∧ 1 < ((s).length : Int)) ((shunterref05_more_m N (byteN (s) (1))).bind fun r47 => if (r47) = true then ck ((0 : Int) ≤ 2 ∧ 2 < ((s).length : Int)) ((shunterref05_more_m N (byteN (s) (2))).bind fun r51 => if (r51) = true then ck ((0 : Int) ≤ 3 ∧ 3 < ((s).length : Int)) ((shunterref05_more_m N (byteN (s) (3))).bind fun r55 => shunterref05_First_k5 s (r55)) else shunterref05_First_k5 s (false)) else shunterref05_First_k5 s (false)) else shunterref05_First_k5 s (false) else shunterref05_First_k5 s (false) else shunterref05_First_k5 s (false)
def shunterref05_First_k7 (N : Nat) (s : List UInt8) (x6_ : Bool) : Option (Int × Int) := if (x6_) = true then ck ((-9223372036854775808 ≤ ((((byteN (s) (0)).toNat : Nat) : Int) - 224) ∧ ((((byteN (s) (0)).toNat : Nat) : Int) - 224) ≤ 9223372036854775807)) (ck ((-9223372036854775808 ≤ (4096 * ((((byteN (s) (0)).toNat : Nat) : Int) - 224)) ∧ (4096 * ((((byteN (s) (0)).toNat : Nat) : Int) - 224)) ≤ 9223372036854775807)) (ck ((0 : Int) ≤ 1 ∧ 1 < ((s).length : Int)) (ck ((-9223372036854775808 ≤ ((((byteN (s) (1)).toNat : Nat) : Int) - 128) ∧ ((((byteN (s) (1)).toNat : Nat) : Int) - 128) ≤ 9223372036854775807)) (ck ((-9223372036854775808 ≤ (64 * ((((byteN (s) (1)).toNat : Nat) : Int) - 128)) ∧ (64 * ((((byteN (s) (1)).toNat : Nat) : Int) - 128)) ≤ 9223372036854775807)) (ck ((-9223372036854775808 ≤ ((4096 * ((((byteN (s) (0)).toNat : Nat) : Int) - 224)) + (64 * ((((byteN (s) (1)).toNat : Nat) : Int) - 128))) ∧ ((4096 * ((((byteN (s) (0)).toNat : Nat) : Int) - 224)) + (64 * ((((byteN (s) (1)).toNat : Nat) : Int) - 128))) ≤ 9223372036854775807)) (ck ((0 : Int) ≤ 2 ∧ 2 < ((s).length : Int)) (ck ((-9223372036854775808 ≤ (((4096 * ((((byteN (s) (0)).toNat : Nat) : Int) - 224)) + (64 * ((((byteN (s) (1)).toNat : Nat) : Int) - 128))) + (((byteN (s) (2)).toNat : Nat) : Int)) ∧ (((4096 * ((((byteN (s) (0)).toNat : Nat) : Int) - 224)) + (64 * ((((byteN (s) (1)).toNat : Nat) : Int) - 128))) + (((byteN (s) (2)).toNat : Nat) : Int)) ≤ 9223372036854775807)) (ck ((-9223372036854775808 ≤ ((((4096 * ((((byteN (s) (0)).toNat : Nat) : Int) - 224)) + (64 * ((((byteN (s) (1)).toNat : Nat) : Int) - 128))) + (((byteN (s) (2)).toNat : Nat) : Int)) - 128) ∧ ((((4096 * ((((byteN (s) (0)).toNat : Nat) : Int) - 224)) + (64 * ((((byteN (s) (1)).toNat : Nat) : Int) - 128))) + (((byteN (s) (2)).toNat : Nat) : Int)) - 128) ≤ 9223372036854775807)) (if (((((4096 * ((((byteN (s) (0)).toNat : Nat) : Int) - 224)) + (64 * ((((byteN (s) (1)).toNat : Nat) : Int) - 128))) + (((byteN (s) (2)).toNat : Nat) : Int)) - 128) : Int) ≥ 2048 then if (((((4096 * ((((byteN (s) (0)).toNat : Nat) : Int) - 224)) + (64 * ((((byteN (s) (1)).toNat : Nat) : Int) - 128))) + (((byteN (s) (2)).toNat : Nat) : Int)) - 128) : Int) < 55296 then some (((((4096 * ((((byteN (s) (0)).toNat : Nat) : Int) - 224)) + (64 * ((((byteN (s) (1)).toNat : Nat) : Int) - 128))) + (((byteN (s) (2)).toNat : Nat) : Int)) - 128), 3) else if (((((4096 * ((((byteN (s) (0)).toNat : Nat) : Int) - 224)) + (64 * ((((byteN (s) (1)).toNat : Nat) : Int) - 128))) + (((byteN (s) (2)).toNat : Nat) : Int)) - 128) : Int) > 57343 then some (((((4096 * ((((byteN (s) (0)).toNat : Nat) : Int) - 224)) + (64 * ((((byteN (s) (1)).toNat : Nat) : Int) - 128))) + (((byteN (s) (2)).toNat : Nat) : Int)) - 128), 3) else shunterref05_First_k3 N s  else shunterref05_First_k3 N s ))))))))) else shunterref05_First_k3 N s 
def shunterref05_First_k2 (N : Nat) (s : List UInt8) (x1_ : Bool) : Option (Int × Int) := if (x1_) = true then ck ((-9223372036854775808 ≤ ((((byteN (s) (0)).toNat : Nat) : Int) - 192) ∧ ((((byteN (s) (0)).toNat : Nat) : Int) - 192) ≤ 9223372036854775807)) (ck ((-9223372036854775808 ≤ (64 * ((((byteN (s) (0)).toNat : Nat) : Int) - 192)) ∧ (64 * ((((byteN (s) (0)).toNat : Nat) : Int) - 192)) ≤ 9223372036854775807)) (ck ((0 : Int) ≤ 1 ∧ 1 < ((s).length : Int)) (ck ((-9223372036854775808 ≤ ((64 * ((((byteN (s) (0)).toNat : Nat) : Int) - 192)) + (((byteN (s) (1)).toNat : Nat) : Int)) ∧ ((64 * ((((byteN (s) (0)).toNat : Nat) : Int) - 192)) + (((byteN (s) (1)).toNat : Nat) : Int)) ≤ 9223372036854775807)) (ck ((-9223372036854775808 ≤ (((64 * ((((byteN (s) (0)).toNat : Nat) : Int) - 192)) + (((byteN (s) (1)).toNat : Nat) : Int)) - 128) ∧ (((64 * ((((byteN (s) (0)).toNat : Nat) : Int) - 192)) + (((byteN (s) (1)).toNat : Nat) : Int)) - 128) ≤ 9223372036854775807)) (some ((((64 * ((((byteN (s) (0)).toNat : Nat) : Int) - 192)) + (((byteN (s) (1)).toNat : Nat) : Int)) - 128), 2)))))) else if ((((byteN (s) (0)).toNat : Nat) : Int) : Int) ≥ 224 then if ((((byteN (s) (0)).toNat : Nat) : Int) : Int) < 240 then if (((s).length : Int) : Int) ≥ 3 then ck ((0 : Int) ≤ 1 ∧ 1 < ((s).length : Int)) ((shunterref05_more_m N (byteN (s) (1))).bind fun r78 => if (r78) = true then ck ((0 : Int) ≤ 2 ∧ 2 < ((s).length : Int)) ((shunterref05_more_m N (byteN (s) (2))).bind fun r82 => shunterref05_First_k7 N s (r82)) else shunterref05_First_k7 N s (false)) else shunterref05_First_k7 N s (false) else shunterref05_First_k7 N s (false) else shunterref05_First_k7 N s (false)
def shunterref05_First_m (N : Nat) (s : List UInt8) : Option (Int × Int) := if (((s).length : Int) : Int) = 0 then some (65533, 0) else ck ((0 : Int) ≤ 0 ∧ 0 < ((s).length : Int)) (if ((((byteN (s) (0)).toNat : Nat) : Int) : Int) < 128 then some ((((byteN (s) (0)).toNat : Nat) : Int), 1) else if ((((byteN (s) (0)).toNat : Nat) : Int) : Int) ≥ 194 then if ((((byteN (s) (0)).toNat : Nat) : Int) : Int) < 224 then if (((s).length : Int) : Int) ≥ 2 then ck ((0 : Int) ≤ 1 ∧ 1 < ((s).length : Int)) ((shunterref05_more_m N (byteN (s) (1))).bind fun r88 => shunterref05_First_k2 N s (r88)) else shunterref05_First_k2 N s (false) else shunterref05_First_k2 N s (false) else shunterref05_First_k2 N s (false))
set_option maxRecDepth 100000 in
set_option maxHeartbeats 400000 in
theorem shunterref05_First_g (N : Nat) (s : List UInt8) (r : Int × Int) (hM : shunterref05_First_m N s = some r) : Gives Try.prog 31 #[Value.string (⟨(s).toArray⟩)] (Value.tuple #[Value.int .i64 (r.1), Value.int .i64 (r.2)]) := by
  unfold shunterref05_First_m at hM
  refine gives_of_A follows Try.func31 rfl 139 rfl (upd (fun _ => undef) 0 (Value.string (⟨(s).toArray⟩))) (by funext k; match k with | 0 => rfl | k + 1 => rfl) (fun base0_ => ?_)
  refine A_seq fun K1 hK1 => ?_
  refine A_reg ?_
  refine r_v (Value.int .i64 (0)) rfl rfl rfl rfl ?_
  refine r_v (Value.int .i64 (0)) rfl rfl rfl rfl ?_
  refine lx_nil ?_
  refine hK1 _ _ ?_; try clear hK1 K1
  refine A_seq fun K2 hK2 => ?_
  refine A_seq fun K3 hK3 => ?_
  refine A_reg ?_
  refine r_v (Value.string (⟨(s).toArray⟩)) rfl rfl rfl rfl ?_
  refine r_v (Value.int .i64 (((s).length : Int))) rfl rfl rfl (ev_lenS rfl rfl rfl) ?_
  refine r_v (Value.bool (((((s).length : Int) : Int) == 0))) rfl rfl rfl rfl ?_
  refine lx_nil ?_
  refine hK3 _ _ ?_; try clear hK3 K3
  refine A_cond (((((s).length : Int) : Int) == 0)) rfl (fun hc4 => ?_) (fun hc4 => ?_)
  · replace hM := ifp (eq_of_beq hc4) hM
    refine A_seq fun K5 hK5 => ?_
    refine A_reg ?_
    refine r_v (Value.int .i64 (65533)) rfl rfl rfl rfl ?_
    refine r_v (Value.int .i64 (0)) rfl rfl rfl rfl ?_
    refine lx_nil ?_
    refine hK5 _ _ ?_; try clear hK5 K5
    obtain rfl := Option.some.inj hM
    refine A_ret (fun hn => ends_eq (v0 := Value.tuple #[Value.int .i64 (65533), Value.int .i64 (0)]) rfl (res2 rfl rfl))
  · replace hM := ifn (ne_of_beq_false hc4) hM
    refine A_skip ?_
    refine hK2 _ _ ?_; try clear hK2 K2
    refine A_seq fun K6 hK6 => ?_
    refine A_reg ?_
    refine r_v (Value.string (⟨(s).toArray⟩)) rfl rfl rfl rfl ?_
    replace hM := ck_some hM; obtain ⟨ck7, hM⟩ := hM
    refine r_v (Value.int .u8 ((byteAt (s) (0)))) rfl rfl rfl (ev_v (ev_indexS rfl ck7)) ?_
    refine r_w (Value.int .i64 ((((byteN (s) (0)).toNat : Nat) : Int))) rfl rfl (u8_i64 (byteN (s) (0))) (fun _ => rfl) ?_
    refine r_v (Value.int .i64 ((((byteN (s) (0)).toNat : Nat) : Int))) rfl rfl rfl rfl ?_
    refine lx_nil ?_
    refine hK6 _ _ ?_; try clear hK6 K6
    refine A_seq fun K8 hK8 => ?_
    refine A_seq fun K9 hK9 => ?_
    refine A_reg ?_
    refine r_v (Value.int .i64 ((((byteN (s) (0)).toNat : Nat) : Int))) rfl rfl rfl rfl ?_
    refine r_v (Value.bool (decide (((((byteN (s) (0)).toNat : Nat) : Int) : Int) < 128))) rfl rfl rfl rfl ?_
    refine lx_nil ?_
    refine hK9 _ _ ?_; try clear hK9 K9
    refine A_cond (decide (((((byteN (s) (0)).toNat : Nat) : Int) : Int) < 128)) rfl (fun hc10 => ?_) (fun hc10 => ?_)
    · replace hM := ifp (of_decide_eq_true hc10) hM
      refine A_seq fun K11 hK11 => ?_
      refine A_reg ?_
      refine r_v (Value.int .i64 ((((byteN (s) (0)).toNat : Nat) : Int))) rfl rfl rfl rfl ?_
      refine r_v (Value.int .i64 ((((byteN (s) (0)).toNat : Nat) : Int))) rfl rfl rfl rfl ?_
      refine r_v (Value.int .i64 (1)) rfl rfl rfl rfl ?_
      refine lx_nil ?_
      refine hK11 _ _ ?_; try clear hK11 K11
      obtain rfl := Option.some.inj hM
      refine A_ret (fun hn => ends_eq (v0 := Value.tuple #[Value.int .i64 ((((byteN (s) (0)).toNat : Nat) : Int)), Value.int .i64 (1)]) rfl (res2 rfl rfl))
    · replace hM := ifn (of_decide_eq_false hc10) hM
      refine A_skip ?_
      refine hK8 _ _ ?_; try clear hK8 K8
      refine A_seq fun K12 hK12 => ?_
      refine A_cut (fun tt ll => ∃ (x1_ : Bool), (shunterref05_First_k2 N s x1_ = some r) ∧ Is [(0, Value.string (⟨(s).toArray⟩)), (4, Value.int .i64 ((((byteN (s) (0)).toNat : Nat) : Int))), (31, Value.bool (x1_))] [] tt ll) ?_ ?_
      · refine A_reg ?_
        refine r_v (Value.int .i64 ((((byteN (s) (0)).toNat : Nat) : Int))) rfl rfl rfl rfl ?_
        refine r_v (Value.bool (decide (((((byteN (s) (0)).toNat : Nat) : Int) : Int) ≥ 194))) rfl rfl rfl rfl ?_
        refine r_v (Value.bool (decide (((((byteN (s) (0)).toNat : Nat) : Int) : Int) ≥ 194))) rfl rfl rfl rfl ?_
        rcases hg84 : (decide (((((byteN (s) (0)).toNat : Nat) : Int) : Int) ≥ 194)) with _ | _
        · replace hM := ifn (of_decide_eq_false hg84) hM
          refine r_n false rfl (by decide) rfl ?_
          refine r_n false rfl (by decide) rfl ?_
          refine r_v (Value.bool (false)) rfl rfl rfl rfl ?_
          refine r_v (Value.bool (false)) rfl rfl rfl rfl ?_
          refine r_n false rfl (by decide) rfl ?_
          refine r_n false rfl (by decide) rfl ?_
          refine r_n false rfl (by decide) rfl ?_
          refine r_v (Value.bool (false)) rfl rfl rfl rfl ?_
          refine r_v (Value.bool (false)) rfl rfl rfl rfl ?_
          refine r_n false rfl (by decide) rfl ?_
          refine r_n false rfl (by decide) rfl ?_
          refine r_n false rfl (by decide) rfl ?_
          refine r_v (Value.bool (false)) rfl rfl rfl rfl ?_
          refine lx_nil ?_
          refine fg _ (Sub.of (List.Sublist.slnil)) ?_
          exact ⟨false, hM, is_mk (by first | rfl | (simp only [hg84]; done) | (simp only [hg84]; rfl) | (simp only [app_hl]; rfl)) rfl⟩
        · replace hM := ifp (of_decide_eq_true hg84) hM
          refine r_y rfl ?_
          refine r_v (Value.int .i64 ((((byteN (s) (0)).toNat : Nat) : Int))) rfl rfl rfl rfl ?_
          refine r_y rfl ?_
          refine r_v (Value.bool (decide (((((byteN (s) (0)).toNat : Nat) : Int) : Int) < 224))) rfl rfl rfl rfl ?_
          refine r_v (Value.bool (decide (((((byteN (s) (0)).toNat : Nat) : Int) : Int) < 224))) rfl rfl rfl rfl ?_
          refine r_v (Value.bool (decide (((((byteN (s) (0)).toNat : Nat) : Int) : Int) < 224))) rfl rfl rfl rfl ?_
          rcases hg85 : (decide (((((byteN (s) (0)).toNat : Nat) : Int) : Int) < 224)) with _ | _
          · replace hM := ifn (of_decide_eq_false hg85) hM
            refine r_n false rfl (by decide) rfl ?_
            refine r_n false rfl (by decide) rfl ?_
            refine r_n false rfl (by decide) rfl ?_
            refine r_v (Value.bool (false)) rfl rfl rfl rfl ?_
            refine r_v (Value.bool (false)) rfl rfl rfl rfl ?_
            refine r_n false rfl (by decide) rfl ?_
            refine r_n false rfl (by decide) rfl ?_
            refine r_n false rfl (by decide) rfl ?_
            refine r_v (Value.bool (false)) rfl rfl rfl rfl ?_
            refine lx_nil ?_
            refine fg _ (Sub.of (List.Sublist.slnil)) ?_
            exact ⟨false, hM, is_mk (by first | rfl | (simp only [hg84, hg85]; done) | (simp only [hg84, hg85]; rfl) | (simp only [app_hl]; rfl)) rfl⟩
          · replace hM := ifp (of_decide_eq_true hg85) hM
            refine r_y rfl ?_
            refine r_v (Value.string (⟨(s).toArray⟩)) rfl rfl rfl rfl ?_
            refine r_y rfl ?_
            refine r_v (Value.int .i64 (((s).length : Int))) rfl rfl rfl (ev_lenS rfl rfl rfl) ?_
            refine r_y rfl ?_
            refine r_v (Value.bool (decide ((((s).length : Int) : Int) ≥ 2))) rfl rfl rfl rfl ?_
            refine r_v (Value.bool (decide ((((s).length : Int) : Int) ≥ 2))) rfl rfl rfl rfl ?_
            refine r_v (Value.bool (decide ((((s).length : Int) : Int) ≥ 2))) rfl rfl rfl rfl ?_
            rcases hg86 : (decide ((((s).length : Int) : Int) ≥ 2)) with _ | _
            · replace hM := ifn (of_decide_eq_false hg86) hM
              refine r_n false rfl (by decide) rfl ?_
              refine r_n false rfl (by decide) rfl ?_
              refine r_n false rfl (by decide) rfl ?_
              refine r_v (Value.bool (false)) rfl rfl rfl rfl ?_
              refine lx_nil ?_
              refine fg _ (Sub.of (List.Sublist.slnil)) ?_
              exact ⟨false, hM, is_mk (by first | rfl | (simp only [hg84, hg85, hg86]; done) | (simp only [hg84, hg85, hg86]; rfl) | (simp only [app_hl]; rfl)) rfl⟩
            · replace hM := ifp (of_decide_eq_true hg86) hM
              refine r_y rfl ?_
              refine r_v (Value.string (⟨(s).toArray⟩)) rfl rfl rfl rfl ?_
              refine r_y rfl ?_
              replace hM := ck_some hM; obtain ⟨ck87, hM⟩ := hM
              refine r_v (Value.int .u8 ((byteAt (s) (1)))) rfl rfl rfl (ev_v (ev_indexS rfl ck87)) ?_
              refine r_y rfl ?_
              replace hM := bind_sm hM; obtain ⟨r88, hr89, hM⟩ := hM
              refine r_c (Value.bool (r88)) rfl _ _ (ev_callF rfl call_41 rfl) (shunterref05_more_g N (byteN (s) (1)) _ hr89) ?_
              refine r_v (Value.bool (r88)) rfl rfl rfl rfl ?_
              refine lx_nil ?_
              refine fg _ (Sub.of (List.Sublist.slnil)) ?_
              exact ⟨r88, hM, is_mk (by first | rfl | (simp only [hg84, hg85, hg86]; done) | (simp only [hg84, hg85, hg86]; rfl) | (simp only [app_hl]; rfl)) rfl⟩
      · clear hM; rintro t l ⟨x1_, hM, ⟨T, rfl⟩, rfl⟩
        unfold shunterref05_First_k2 at hM
        refine A_cond (x1_) rfl (fun hc13 => ?_) (fun hc13 => ?_)
        · replace hM := ifp hc13 hM
          refine A_seq fun K14 hK14 => ?_
          refine A_reg ?_
          refine r_v (Value.int .i64 ((((byteN (s) (0)).toNat : Nat) : Int))) rfl rfl rfl rfl ?_
          replace hM := ck_some hM; obtain ⟨ck15, hM⟩ := hM
          refine r_v (Value.int .i64 (((((byteN (s) (0)).toNat : Nat) : Int) - 192))) rfl rfl (wi64 rfl ck15.1 ck15.2) rfl ?_
          replace hM := ck_some hM; obtain ⟨ck16, hM⟩ := hM
          refine r_v (Value.int .i64 ((64 * ((((byteN (s) (0)).toNat : Nat) : Int) - 192)))) rfl rfl (wi64 rfl ck16.1 ck16.2) rfl ?_
          refine r_v (Value.string (⟨(s).toArray⟩)) rfl rfl rfl rfl ?_
          replace hM := ck_some hM; obtain ⟨ck17, hM⟩ := hM
          refine r_v (Value.int .u8 ((byteAt (s) (1)))) rfl rfl rfl (ev_v (ev_indexS rfl ck17)) ?_
          refine r_w (Value.int .i64 ((((byteN (s) (1)).toNat : Nat) : Int))) rfl rfl (u8_i64 (byteN (s) (1))) (fun _ => rfl) ?_
          replace hM := ck_some hM; obtain ⟨ck18, hM⟩ := hM
          refine r_v (Value.int .i64 (((64 * ((((byteN (s) (0)).toNat : Nat) : Int) - 192)) + (((byteN (s) (1)).toNat : Nat) : Int)))) rfl rfl (wi64 rfl ck18.1 ck18.2) rfl ?_
          replace hM := ck_some hM; obtain ⟨ck19, hM⟩ := hM
          refine r_v (Value.int .i64 ((((64 * ((((byteN (s) (0)).toNat : Nat) : Int) - 192)) + (((byteN (s) (1)).toNat : Nat) : Int)) - 128))) rfl rfl (wi64 rfl ck19.1 ck19.2) rfl ?_
          refine r_v (Value.int .i64 ((((64 * ((((byteN (s) (0)).toNat : Nat) : Int) - 192)) + (((byteN (s) (1)).toNat : Nat) : Int)) - 128))) rfl rfl rfl rfl ?_
          refine r_v (Value.int .i64 (2)) rfl rfl rfl rfl ?_
          refine lx_nil ?_
          refine hK14 _ _ ?_; try clear hK14 K14
          obtain rfl := Option.some.inj hM
          refine A_ret (fun hn => ends_eq (v0 := Value.tuple #[Value.int .i64 ((((64 * ((((byteN (s) (0)).toNat : Nat) : Int) - 192)) + (((byteN (s) (1)).toNat : Nat) : Int)) - 128)), Value.int .i64 (2)]) rfl (res2 rfl rfl))
        · replace hM := ifn (Bool.eq_false_iff.1 hc13) hM
          refine A_skip ?_
          refine hK12 _ _ ?_; try clear hK12 K12
          refine A_cut (fun tt ll => (shunterref05_First_k3 N s  = some r) ∧ Is [(0, Value.string (⟨(s).toArray⟩)), (4, Value.int .i64 ((((byteN (s) (0)).toNat : Nat) : Int)))] [] tt ll) ?_ ?_
          · refine A_cut (fun tt ll => ∃ (x6_ : Bool), (shunterref05_First_k7 N s x6_ = some r) ∧ Is [(0, Value.string (⟨(s).toArray⟩)), (4, Value.int .i64 ((((byteN (s) (0)).toNat : Nat) : Int))), (60, Value.bool (x6_))] [] tt ll) ?_ ?_
            · refine A_reg ?_
              refine r_v (Value.int .i64 ((((byteN (s) (0)).toNat : Nat) : Int))) rfl rfl rfl rfl ?_
              refine r_v (Value.bool (decide (((((byteN (s) (0)).toNat : Nat) : Int) : Int) ≥ 224))) rfl rfl rfl rfl ?_
              refine r_v (Value.bool (decide (((((byteN (s) (0)).toNat : Nat) : Int) : Int) ≥ 224))) rfl rfl rfl rfl ?_
              rcases hg74 : (decide (((((byteN (s) (0)).toNat : Nat) : Int) : Int) ≥ 224)) with _ | _
              · replace hM := ifn (of_decide_eq_false hg74) hM
                refine r_n false rfl (by decide) rfl ?_
                refine r_n false rfl (by decide) rfl ?_
                refine r_v (Value.bool (false)) rfl rfl rfl rfl ?_
                refine r_v (Value.bool (false)) rfl rfl rfl rfl ?_
                refine r_n false rfl (by decide) rfl ?_
                refine r_n false rfl (by decide) rfl ?_
                refine r_n false rfl (by decide) rfl ?_
                refine r_v (Value.bool (false)) rfl rfl rfl rfl ?_
                refine r_v (Value.bool (false)) rfl rfl rfl rfl ?_
                refine r_n false rfl (by decide) rfl ?_
                refine r_n false rfl (by decide) rfl ?_
                refine r_n false rfl (by decide) rfl ?_
                refine r_v (Value.bool (false)) rfl rfl rfl rfl ?_
                refine r_v (Value.bool (false)) rfl rfl rfl rfl ?_
                refine r_n false rfl (by decide) rfl ?_
                refine r_n false rfl (by decide) rfl ?_
                refine r_n false rfl (by decide) rfl ?_
                refine r_v (Value.bool (false)) rfl rfl rfl rfl ?_
                refine lx_nil ?_
                refine fg _ (Sub.of (List.Sublist.slnil)) ?_
                exact ⟨false, hM, is_mk (by first | rfl | (simp only [hg74]; done) | (simp only [hg74]; rfl) | (simp only [app_hl]; rfl)) rfl⟩
              · replace hM := ifp (of_decide_eq_true hg74) hM
                refine r_y rfl ?_
                refine r_v (Value.int .i64 ((((byteN (s) (0)).toNat : Nat) : Int))) rfl rfl rfl rfl ?_
                refine r_y rfl ?_
                refine r_v (Value.bool (decide (((((byteN (s) (0)).toNat : Nat) : Int) : Int) < 240))) rfl rfl rfl rfl ?_
                refine r_v (Value.bool (decide (((((byteN (s) (0)).toNat : Nat) : Int) : Int) < 240))) rfl rfl rfl rfl ?_
                refine r_v (Value.bool (decide (((((byteN (s) (0)).toNat : Nat) : Int) : Int) < 240))) rfl rfl rfl rfl ?_
                rcases hg75 : (decide (((((byteN (s) (0)).toNat : Nat) : Int) : Int) < 240)) with _ | _
                · replace hM := ifn (of_decide_eq_false hg75) hM
                  refine r_n false rfl (by decide) rfl ?_
                  refine r_n false rfl (by decide) rfl ?_
                  refine r_n false rfl (by decide) rfl ?_
                  refine r_v (Value.bool (false)) rfl rfl rfl rfl ?_
                  refine r_v (Value.bool (false)) rfl rfl rfl rfl ?_
                  refine r_n false rfl (by decide) rfl ?_
                  refine r_n false rfl (by decide) rfl ?_
                  refine r_n false rfl (by decide) rfl ?_
                  refine r_v (Value.bool (false)) rfl rfl rfl rfl ?_
                  refine r_v (Value.bool (false)) rfl rfl rfl rfl ?_
                  refine r_n false rfl (by decide) rfl ?_
                  refine r_n false rfl (by decide) rfl ?_
                  refine r_n false rfl (by decide) rfl ?_
                  refine r_v (Value.bool (false)) rfl rfl rfl rfl ?_
                  refine lx_nil ?_
                  refine fg _ (Sub.of (List.Sublist.slnil)) ?_
                  exact ⟨false, hM, is_mk (by first | rfl | (simp only [hg74, hg75]; done) | (simp only [hg74, hg75]; rfl) | (simp only [app_hl]; rfl)) rfl⟩
                · replace hM := ifp (of_decide_eq_true hg75) hM
                  refine r_y rfl ?_
                  refine r_v (Value.string (⟨(s).toArray⟩)) rfl rfl rfl rfl ?_
                  refine r_y rfl ?_
                  refine r_v (Value.int .i64 (((s).length : Int))) rfl rfl rfl (ev_lenS rfl rfl rfl) ?_
                  refine r_y rfl ?_
                  refine r_v (Value.bool (decide ((((s).length : Int) : Int) ≥ 3))) rfl rfl rfl rfl ?_
                  refine r_v (Value.bool (decide ((((s).length : Int) : Int) ≥ 3))) rfl rfl rfl rfl ?_
                  refine r_v (Value.bool (decide ((((s).length : Int) : Int) ≥ 3))) rfl rfl rfl rfl ?_
                  rcases hg76 : (decide ((((s).length : Int) : Int) ≥ 3)) with _ | _
                  · replace hM := ifn (of_decide_eq_false hg76) hM
                    refine r_n false rfl (by decide) rfl ?_
                    refine r_n false rfl (by decide) rfl ?_
                    refine r_n false rfl (by decide) rfl ?_
                    refine r_v (Value.bool (false)) rfl rfl rfl rfl ?_
                    refine r_v (Value.bool (false)) rfl rfl rfl rfl ?_
                    refine r_n false rfl (by decide) rfl ?_
                    refine r_n false rfl (by decide) rfl ?_
                    refine r_n false rfl (by decide) rfl ?_
                    refine r_v (Value.bool (false)) rfl rfl rfl rfl ?_
                    refine lx_nil ?_
                    refine fg _ (Sub.of (List.Sublist.slnil)) ?_
                    exact ⟨false, hM, is_mk (by first | rfl | (simp only [hg74, hg75, hg76]; done) | (simp only [hg74, hg75, hg76]; rfl) | (simp only [app_hl]; rfl)) rfl⟩
                  · replace hM := ifp (of_decide_eq_true hg76) hM
                    refine r_y rfl ?_
                    refine r_v (Value.string (⟨(s).toArray⟩)) rfl rfl rfl rfl ?_
                    refine r_y rfl ?_
                    replace hM := ck_some hM; obtain ⟨ck77, hM⟩ := hM
                    refine r_v (Value.int .u8 ((byteAt (s) (1)))) rfl rfl rfl (ev_v (ev_indexS rfl ck77)) ?_
                    refine r_y rfl ?_
                    replace hM := bind_sm hM; obtain ⟨r78, hr79, hM⟩ := hM
                    refine r_c (Value.bool (r78)) rfl _ _ (ev_callF rfl call_41 rfl) (shunterref05_more_g N (byteN (s) (1)) _ hr79) ?_
                    refine r_v (Value.bool (r78)) rfl rfl rfl rfl ?_
                    refine r_v (Value.bool (r78)) rfl rfl rfl rfl ?_
                    rcases hg80 : (r78) with _ | _
                    · replace hM := ifn (Bool.eq_false_iff.1 hg80) hM
                      refine r_n false rfl (by decide) rfl ?_
                      refine r_n false rfl (by decide) rfl ?_
                      refine r_n false rfl (by decide) rfl ?_
                      refine r_v (Value.bool (false)) rfl rfl rfl rfl ?_
                      refine lx_nil ?_
                      refine fg _ (Sub.of (List.Sublist.slnil)) ?_
                      exact ⟨false, hM, is_mk (by first | rfl | (simp only [hg74, hg75, hg76, hg80]; done) | (simp only [hg74, hg75, hg76, hg80]; rfl) | (simp only [app_hl]; rfl)) rfl⟩
                    · replace hM := ifp hg80 hM
                      refine r_y rfl ?_
                      refine r_v (Value.string (⟨(s).toArray⟩)) rfl rfl rfl rfl ?_
                      refine r_y rfl ?_
                      replace hM := ck_some hM; obtain ⟨ck81, hM⟩ := hM
                      refine r_v (Value.int .u8 ((byteAt (s) (2)))) rfl rfl rfl (ev_v (ev_indexS rfl ck81)) ?_
                      refine r_y rfl ?_
                      replace hM := bind_sm hM; obtain ⟨r82, hr83, hM⟩ := hM
                      refine r_c (Value.bool (r82)) rfl _ _ (ev_callF rfl call_41 rfl) (shunterref05_more_g N (byteN (s) (2)) _ hr83) ?_
                      refine r_v (Value.bool (r82)) rfl rfl rfl rfl ?_
                      refine lx_nil ?_
                      refine fg _ (Sub.of (List.Sublist.slnil)) ?_
                      exact ⟨r82, hM, is_mk (by first | rfl | (simp only [hg74, hg75, hg76, hg80]; done) | (simp only [hg74, hg75, hg76, hg80]; rfl) | (simp only [app_hl]; rfl)) rfl⟩
            · clear hM; rintro t l ⟨x6_, hM, ⟨T, rfl⟩, rfl⟩
              unfold shunterref05_First_k7 at hM
              refine A_cond (x6_) rfl (fun hc57 => ?_) (fun hc57 => ?_)
              · replace hM := ifp hc57 hM
                refine A_seq fun K58 hK58 => ?_
                refine A_draw [] (by decide +kernel) (fun hn => sep_nil) ?_
                refine r_v (Value.int .i64 ((((byteN (s) (0)).toNat : Nat) : Int))) rfl rfl rfl rfl ?_
                replace hM := ck_some hM; obtain ⟨ck59, hM⟩ := hM
                refine r_v (Value.int .i64 (((((byteN (s) (0)).toNat : Nat) : Int) - 224))) rfl rfl (wi64 rfl ck59.1 ck59.2) rfl ?_
                replace hM := ck_some hM; obtain ⟨ck60, hM⟩ := hM
                refine r_v (Value.int .i64 ((4096 * ((((byteN (s) (0)).toNat : Nat) : Int) - 224)))) rfl rfl (wi64 rfl ck60.1 ck60.2) rfl ?_
                refine r_v (Value.string (⟨(s).toArray⟩)) rfl rfl rfl rfl ?_
                replace hM := ck_some hM; obtain ⟨ck61, hM⟩ := hM
                refine r_v (Value.int .u8 ((byteAt (s) (1)))) rfl rfl rfl (ev_v (ev_indexS rfl ck61)) ?_
                refine r_w (Value.int .i64 ((((byteN (s) (1)).toNat : Nat) : Int))) rfl rfl (u8_i64 (byteN (s) (1))) (fun _ => rfl) ?_
                replace hM := ck_some hM; obtain ⟨ck62, hM⟩ := hM
                refine r_v (Value.int .i64 (((((byteN (s) (1)).toNat : Nat) : Int) - 128))) rfl rfl (wi64 rfl ck62.1 ck62.2) rfl ?_
                replace hM := ck_some hM; obtain ⟨ck63, hM⟩ := hM
                refine r_v (Value.int .i64 ((64 * ((((byteN (s) (1)).toNat : Nat) : Int) - 128)))) rfl rfl (wi64 rfl ck63.1 ck63.2) rfl ?_
                replace hM := ck_some hM; obtain ⟨ck64, hM⟩ := hM
                refine r_v (Value.int .i64 (((4096 * ((((byteN (s) (0)).toNat : Nat) : Int) - 224)) + (64 * ((((byteN (s) (1)).toNat : Nat) : Int) - 128))))) rfl rfl (wi64 rfl ck64.1 ck64.2) rfl ?_
                refine r_v (Value.string (⟨(s).toArray⟩)) rfl rfl rfl rfl ?_
                replace hM := ck_some hM; obtain ⟨ck65, hM⟩ := hM
                refine r_v (Value.int .u8 ((byteAt (s) (2)))) rfl rfl rfl (ev_v (ev_indexS rfl ck65)) ?_
                refine r_w (Value.int .i64 ((((byteN (s) (2)).toNat : Nat) : Int))) rfl rfl (u8_i64 (byteN (s) (2))) (fun _ => rfl) ?_
                replace hM := ck_some hM; obtain ⟨ck66, hM⟩ := hM
                refine r_v (Value.int .i64 ((((4096 * ((((byteN (s) (0)).toNat : Nat) : Int) - 224)) + (64 * ((((byteN (s) (1)).toNat : Nat) : Int) - 128))) + (((byteN (s) (2)).toNat : Nat) : Int)))) rfl rfl (wi64 rfl ck66.1 ck66.2) rfl ?_
                replace hM := ck_some hM; obtain ⟨ck67, hM⟩ := hM
                refine r_v (Value.int .i64 (((((4096 * ((((byteN (s) (0)).toNat : Nat) : Int) - 224)) + (64 * ((((byteN (s) (1)).toNat : Nat) : Int) - 128))) + (((byteN (s) (2)).toNat : Nat) : Int)) - 128))) rfl rfl (wi64 rfl ck67.1 ck67.2) rfl ?_
                refine r_v (Value.int .i64 (((((4096 * ((((byteN (s) (0)).toNat : Nat) : Int) - 224)) + (64 * ((((byteN (s) (1)).toNat : Nat) : Int) - 128))) + (((byteN (s) (2)).toNat : Nat) : Int)) - 128))) rfl rfl rfl rfl ?_
                refine lx_nil ?_
                refine hK58 _ _ ?_; try clear hK58 K58
                refine A_seq fun K68 hK68 => ?_
                refine A_reg ?_
                refine r_v (Value.int .i64 (((((4096 * ((((byteN (s) (0)).toNat : Nat) : Int) - 224)) + (64 * ((((byteN (s) (1)).toNat : Nat) : Int) - 128))) + (((byteN (s) (2)).toNat : Nat) : Int)) - 128))) rfl rfl rfl rfl ?_
                refine r_v (Value.bool (decide ((((((4096 * ((((byteN (s) (0)).toNat : Nat) : Int) - 224)) + (64 * ((((byteN (s) (1)).toNat : Nat) : Int) - 128))) + (((byteN (s) (2)).toNat : Nat) : Int)) - 128) : Int) ≥ 2048))) rfl rfl rfl rfl ?_
                refine r_v (Value.bool (decide ((((((4096 * ((((byteN (s) (0)).toNat : Nat) : Int) - 224)) + (64 * ((((byteN (s) (1)).toNat : Nat) : Int) - 128))) + (((byteN (s) (2)).toNat : Nat) : Int)) - 128) : Int) ≥ 2048))) rfl rfl rfl rfl ?_
                rcases hg69 : (decide ((((((4096 * ((((byteN (s) (0)).toNat : Nat) : Int) - 224)) + (64 * ((((byteN (s) (1)).toNat : Nat) : Int) - 128))) + (((byteN (s) (2)).toNat : Nat) : Int)) - 128) : Int) ≥ 2048)) with _ | _
                · replace hM := ifn (of_decide_eq_false hg69) hM
                  refine r_n false rfl (by decide) rfl ?_
                  refine r_n false rfl (by decide) rfl ?_
                  refine r_n false rfl (by decide) rfl ?_
                  refine r_nu rfl rfl ?_
                  refine r_nu rfl rfl ?_
                  refine r_n false rfl (by decide) rfl ?_
                  refine r_v (Value.bool (false)) rfl rfl rfl rfl ?_
                  refine lx_nil ?_
                  refine hK68 _ _ ?_; try clear hK68 K68
                  refine A_cond false rfl (fun h_ => nomatch h_) (fun _ => ?_)
                  refine A_skip ?_
                  refine fg _ (Sub.of (List.Sublist.slnil)) ?_
                  exact ⟨hM, is_mk rfl rfl⟩
                · replace hM := ifp (of_decide_eq_true hg69) hM
                  refine r_y rfl ?_
                  refine r_v (Value.int .i64 (((((4096 * ((((byteN (s) (0)).toNat : Nat) : Int) - 224)) + (64 * ((((byteN (s) (1)).toNat : Nat) : Int) - 128))) + (((byteN (s) (2)).toNat : Nat) : Int)) - 128))) rfl rfl rfl rfl ?_
                  refine r_y rfl ?_
                  refine r_v (Value.bool (decide ((((((4096 * ((((byteN (s) (0)).toNat : Nat) : Int) - 224)) + (64 * ((((byteN (s) (1)).toNat : Nat) : Int) - 128))) + (((byteN (s) (2)).toNat : Nat) : Int)) - 128) : Int) < 55296))) rfl rfl rfl rfl ?_
                  refine r_y rfl ?_
                  refine r_v (Value.bool (decide ((((((4096 * ((((byteN (s) (0)).toNat : Nat) : Int) - 224)) + (64 * ((((byteN (s) (1)).toNat : Nat) : Int) - 128))) + (((byteN (s) (2)).toNat : Nat) : Int)) - 128) : Int) < 55296))) rfl rfl rfl rfl ?_
                  rcases hg70 : (decide ((((((4096 * ((((byteN (s) (0)).toNat : Nat) : Int) - 224)) + (64 * ((((byteN (s) (1)).toNat : Nat) : Int) - 128))) + (((byteN (s) (2)).toNat : Nat) : Int)) - 128) : Int) < 55296)) with _ | _
                  · replace hM := ifn (of_decide_eq_false hg70) hM
                    refine r_y rfl ?_
                    refine r_v (Value.int .i64 (((((4096 * ((((byteN (s) (0)).toNat : Nat) : Int) - 224)) + (64 * ((((byteN (s) (1)).toNat : Nat) : Int) - 128))) + (((byteN (s) (2)).toNat : Nat) : Int)) - 128))) rfl rfl rfl rfl ?_
                    refine r_y rfl ?_
                    refine r_v (Value.bool (decide ((((((4096 * ((((byteN (s) (0)).toNat : Nat) : Int) - 224)) + (64 * ((((byteN (s) (1)).toNat : Nat) : Int) - 128))) + (((byteN (s) (2)).toNat : Nat) : Int)) - 128) : Int) > 57343))) rfl rfl rfl rfl ?_
                    refine r_y rfl ?_
                    refine r_v (Value.bool (decide ((((((4096 * ((((byteN (s) (0)).toNat : Nat) : Int) - 224)) + (64 * ((((byteN (s) (1)).toNat : Nat) : Int) - 128))) + (((byteN (s) (2)).toNat : Nat) : Int)) - 128) : Int) > 57343))) rfl rfl rfl rfl ?_
                    refine r_v (Value.bool (decide ((((((4096 * ((((byteN (s) (0)).toNat : Nat) : Int) - 224)) + (64 * ((((byteN (s) (1)).toNat : Nat) : Int) - 128))) + (((byteN (s) (2)).toNat : Nat) : Int)) - 128) : Int) > 57343))) rfl rfl rfl rfl ?_
                    refine lx_nil ?_
                    refine hK68 _ _ ?_; try clear hK68 K68
                    refine A_cond (decide ((((((4096 * ((((byteN (s) (0)).toNat : Nat) : Int) - 224)) + (64 * ((((byteN (s) (1)).toNat : Nat) : Int) - 128))) + (((byteN (s) (2)).toNat : Nat) : Int)) - 128) : Int) > 57343)) rfl (fun hc71 => ?_) (fun hc71 => ?_)
                    · replace hM := ifp (of_decide_eq_true hc71) hM
                      refine A_seq fun K72 hK72 => ?_
                      refine A_reg ?_
                      refine r_v (Value.int .i64 (((((4096 * ((((byteN (s) (0)).toNat : Nat) : Int) - 224)) + (64 * ((((byteN (s) (1)).toNat : Nat) : Int) - 128))) + (((byteN (s) (2)).toNat : Nat) : Int)) - 128))) rfl rfl rfl rfl ?_
                      refine r_v (Value.int .i64 (((((4096 * ((((byteN (s) (0)).toNat : Nat) : Int) - 224)) + (64 * ((((byteN (s) (1)).toNat : Nat) : Int) - 128))) + (((byteN (s) (2)).toNat : Nat) : Int)) - 128))) rfl rfl rfl rfl ?_
                      refine r_v (Value.int .i64 (3)) rfl rfl rfl rfl ?_
                      refine lx_nil ?_
                      refine hK72 _ _ ?_; try clear hK72 K72
                      refine A_gen [(2, Value.int .i64 (((((4096 * ((((byteN (s) (0)).toNat : Nat) : Int) - 224)) + (64 * ((((byteN (s) (1)).toNat : Nat) : Int) - 128))) + (((byteN (s) (2)).toNat : Nat) : Int)) - 128))), (3, Value.int .i64 (3))] rfl (fun T => ?_)
                      obtain rfl := Option.some.inj hM
                      refine A_ret (fun hn => ends_eq (v0 := Value.tuple #[Value.int .i64 (((((4096 * ((((byteN (s) (0)).toNat : Nat) : Int) - 224)) + (64 * ((((byteN (s) (1)).toNat : Nat) : Int) - 128))) + (((byteN (s) (2)).toNat : Nat) : Int)) - 128)), Value.int .i64 (3)]) rfl (res2 rfl rfl))
                    · replace hM := ifn (of_decide_eq_false hc71) hM
                      refine A_skip ?_
                      refine fg _ (Sub.of (List.Sublist.slnil)) ?_
                      exact ⟨hM, is_mk rfl rfl⟩
                  · replace hM := ifp (of_decide_eq_true hg70) hM
                    refine r_n true rfl (by decide) rfl ?_
                    refine r_n true rfl (by decide) rfl ?_
                    refine r_y rfl ?_
                    refine r_v (Value.bool (true)) rfl rfl rfl rfl ?_
                    refine r_v (Value.bool (true)) rfl rfl rfl rfl ?_
                    refine lx_nil ?_
                    refine hK68 _ _ ?_; try clear hK68 K68
                    refine A_cond true rfl (fun _ => ?_) (fun h_ => nomatch h_)
                    refine A_seq fun K73 hK73 => ?_
                    refine A_reg ?_
                    refine r_v (Value.int .i64 (((((4096 * ((((byteN (s) (0)).toNat : Nat) : Int) - 224)) + (64 * ((((byteN (s) (1)).toNat : Nat) : Int) - 128))) + (((byteN (s) (2)).toNat : Nat) : Int)) - 128))) rfl rfl rfl rfl ?_
                    refine r_v (Value.int .i64 (((((4096 * ((((byteN (s) (0)).toNat : Nat) : Int) - 224)) + (64 * ((((byteN (s) (1)).toNat : Nat) : Int) - 128))) + (((byteN (s) (2)).toNat : Nat) : Int)) - 128))) rfl rfl rfl rfl ?_
                    refine r_v (Value.int .i64 (3)) rfl rfl rfl rfl ?_
                    refine lx_nil ?_
                    refine hK73 _ _ ?_; try clear hK73 K73
                    refine A_gen [(2, Value.int .i64 (((((4096 * ((((byteN (s) (0)).toNat : Nat) : Int) - 224)) + (64 * ((((byteN (s) (1)).toNat : Nat) : Int) - 128))) + (((byteN (s) (2)).toNat : Nat) : Int)) - 128))), (3, Value.int .i64 (3))] rfl (fun T => ?_)
                    obtain rfl := Option.some.inj hM
                    refine A_ret (fun hn => ends_eq (v0 := Value.tuple #[Value.int .i64 (((((4096 * ((((byteN (s) (0)).toNat : Nat) : Int) - 224)) + (64 * ((((byteN (s) (1)).toNat : Nat) : Int) - 128))) + (((byteN (s) (2)).toNat : Nat) : Int)) - 128)), Value.int .i64 (3)]) rfl (res2 rfl rfl))
              · replace hM := ifn (Bool.eq_false_iff.1 hc57) hM
                refine A_skip ?_
                refine fg _ (Sub.of (List.Sublist.slnil)) ?_
                exact ⟨hM, is_mk rfl rfl⟩
          · clear hM; rintro t l ⟨hM, ⟨T, rfl⟩, rfl⟩
            unfold shunterref05_First_k3 at hM
            refine A_seq fun K20 hK20 => ?_
            refine A_cut (fun tt ll => ∃ (x4_ : Bool), (shunterref05_First_k5 s x4_ = some r) ∧ Is [(0, Value.string (⟨(s).toArray⟩)), (4, Value.int .i64 ((((byteN (s) (0)).toNat : Nat) : Int))), (111, Value.bool (x4_))] [] tt ll) ?_ ?_
            · refine A_reg ?_
              refine r_v (Value.int .i64 ((((byteN (s) (0)).toNat : Nat) : Int))) rfl rfl rfl rfl ?_
              refine r_v (Value.bool (decide (((((byteN (s) (0)).toNat : Nat) : Int) : Int) ≥ 240))) rfl rfl rfl rfl ?_
              refine r_v (Value.bool (decide (((((byteN (s) (0)).toNat : Nat) : Int) : Int) ≥ 240))) rfl rfl rfl rfl ?_
              rcases hg43 : (decide (((((byteN (s) (0)).toNat : Nat) : Int) : Int) ≥ 240)) with _ | _
              · replace hM := ifn (of_decide_eq_false hg43) hM
                refine r_n false rfl (by decide) rfl ?_
                refine r_n false rfl (by decide) rfl ?_
                refine r_v (Value.bool (false)) rfl rfl rfl rfl ?_
                refine r_v (Value.bool (false)) rfl rfl rfl rfl ?_
                refine r_n false rfl (by decide) rfl ?_
                refine r_n false rfl (by decide) rfl ?_
                refine r_n false rfl (by decide) rfl ?_
                refine r_v (Value.bool (false)) rfl rfl rfl rfl ?_
                refine r_v (Value.bool (false)) rfl rfl rfl rfl ?_
                refine r_n false rfl (by decide) rfl ?_
                refine r_n false rfl (by decide) rfl ?_
                refine r_n false rfl (by decide) rfl ?_
                refine r_v (Value.bool (false)) rfl rfl rfl rfl ?_
                refine r_v (Value.bool (false)) rfl rfl rfl rfl ?_
                refine r_n false rfl (by decide) rfl ?_
                refine r_n false rfl (by decide) rfl ?_
                refine r_n false rfl (by decide) rfl ?_
                refine r_v (Value.bool (false)) rfl rfl rfl rfl ?_
                refine r_v (Value.bool (false)) rfl rfl rfl rfl ?_
                refine r_n false rfl (by decide) rfl ?_
                refine r_n false rfl (by decide) rfl ?_
                refine r_n false rfl (by decide) rfl ?_
                refine r_v (Value.bool (false)) rfl rfl rfl rfl ?_
                refine lx_nil ?_
                refine fg _ (Sub.of (List.Sublist.slnil)) ?_
                exact ⟨false, hM, is_mk (by first | rfl | (simp only [hg43]; done) | (simp only [hg43]; rfl) | (simp only [app_hl]; rfl)) rfl⟩
              · replace hM := ifp (of_decide_eq_true hg43) hM
                refine r_y rfl ?_
                refine r_v (Value.int .i64 ((((byteN (s) (0)).toNat : Nat) : Int))) rfl rfl rfl rfl ?_
                refine r_y rfl ?_
                refine r_v (Value.bool (decide (((((byteN (s) (0)).toNat : Nat) : Int) : Int) < 245))) rfl rfl rfl rfl ?_
                refine r_v (Value.bool (decide (((((byteN (s) (0)).toNat : Nat) : Int) : Int) < 245))) rfl rfl rfl rfl ?_
                refine r_v (Value.bool (decide (((((byteN (s) (0)).toNat : Nat) : Int) : Int) < 245))) rfl rfl rfl rfl ?_
                rcases hg44 : (decide (((((byteN (s) (0)).toNat : Nat) : Int) : Int) < 245)) with _ | _
                · replace hM := ifn (of_decide_eq_false hg44) hM
                  refine r_n false rfl (by decide) rfl ?_
                  refine r_n false rfl (by decide) rfl ?_
                  refine r_n false rfl (by decide) rfl ?_
                  refine r_v (Value.bool (false)) rfl rfl rfl rfl ?_
                  refine r_v (Value.bool (false)) rfl rfl rfl rfl ?_
                  refine r_n false rfl (by decide) rfl ?_
                  refine r_n false rfl (by decide) rfl ?_
                  refine r_n false rfl (by decide) rfl ?_
                  refine r_v (Value.bool (false)) rfl rfl rfl rfl ?_
                  refine r_v (Value.bool (false)) rfl rfl rfl rfl ?_
                  refine r_n false rfl (by decide) rfl ?_
                  refine r_n false rfl (by decide) rfl ?_
                  refine r_n false rfl (by decide) rfl ?_
                  refine r_v (Value.bool (false)) rfl rfl rfl rfl ?_
                  refine r_v (Value.bool (false)) rfl rfl rfl rfl ?_
                  refine r_n false rfl (by decide) rfl ?_
                  refine r_n false rfl (by decide) rfl ?_
                  refine r_n false rfl (by decide) rfl ?_
                  refine r_v (Value.bool (false)) rfl rfl rfl rfl ?_
                  refine lx_nil ?_
                  refine fg _ (Sub.of (List.Sublist.slnil)) ?_
                  exact ⟨false, hM, is_mk (by first | rfl | (simp only [hg43, hg44]; done) | (simp only [hg43, hg44]; rfl) | (simp only [app_hl]; rfl)) rfl⟩
                · replace hM := ifp (of_decide_eq_true hg44) hM
                  refine r_y rfl ?_
                  refine r_v (Value.string (⟨(s).toArray⟩)) rfl rfl rfl rfl ?_
                  refine r_y rfl ?_
                  refine r_v (Value.int .i64 (((s).length : Int))) rfl rfl rfl (ev_lenS rfl rfl rfl) ?_
                  refine r_y rfl ?_
                  refine r_v (Value.bool (decide ((((s).length : Int) : Int) ≥ 4))) rfl rfl rfl rfl ?_
                  refine r_v (Value.bool (decide ((((s).length : Int) : Int) ≥ 4))) rfl rfl rfl rfl ?_
                  refine r_v (Value.bool (decide ((((s).length : Int) : Int) ≥ 4))) rfl rfl rfl rfl ?_
                  rcases hg45 : (decide ((((s).length : Int) : Int) ≥ 4)) with _ | _
                  · replace hM := ifn (of_decide_eq_false hg45) hM
                    refine r_n false rfl (by decide) rfl ?_
                    refine r_n false rfl (by decide) rfl ?_
                    refine r_n false rfl (by decide) rfl ?_
                    refine r_v (Value.bool (false)) rfl rfl rfl rfl ?_
                    refine r_v (Value.bool (false)) rfl rfl rfl rfl ?_
                    refine r_n false rfl (by decide) rfl ?_
                    refine r_n false rfl (by decide) rfl ?_
                    refine r_n false rfl (by decide) rfl ?_
                    refine r_v (Value.bool (false)) rfl rfl rfl rfl ?_
                    refine r_v (Value.bool (false)) rfl rfl rfl rfl ?_
                    refine r_n false rfl (by decide) rfl ?_
                    refine r_n false rfl (by decide) rfl ?_
                    refine r_n false rfl (by decide) rfl ?_
                    refine r_v (Value.bool (false)) rfl rfl rfl rfl ?_
                    refine lx_nil ?_
                    refine fg _ (Sub.of (List.Sublist.slnil)) ?_
                    exact ⟨false, hM, is_mk (by first | rfl | (simp only [hg43, hg44, hg45]; done) | (simp only [hg43, hg44, hg45]; rfl) | (simp only [app_hl]; rfl)) rfl⟩
                  · replace hM := ifp (of_decide_eq_true hg45) hM
                    refine r_y rfl ?_
                    refine r_v (Value.string (⟨(s).toArray⟩)) rfl rfl rfl rfl ?_
                    refine r_y rfl ?_
                    replace hM := ck_some hM; obtain ⟨ck46, hM⟩ := hM
                    refine r_v (Value.int .u8 ((byteAt (s) (1)))) rfl rfl rfl (ev_v (ev_indexS rfl ck46)) ?_
                    refine r_y rfl ?_
                    replace hM := bind_sm hM; obtain ⟨r47, hr48, hM⟩ := hM
                    refine r_c (Value.bool (r47)) rfl _ _ (ev_callF rfl call_41 rfl) (shunterref05_more_g N (byteN (s) (1)) _ hr48) ?_
                    refine r_v (Value.bool (r47)) rfl rfl rfl rfl ?_
                    refine r_v (Value.bool (r47)) rfl rfl rfl rfl ?_
                    rcases hg49 : (r47) with _ | _
                    · replace hM := ifn (Bool.eq_false_iff.1 hg49) hM
                      refine r_n false rfl (by decide) rfl ?_
                      refine r_n false rfl (by decide) rfl ?_
                      refine r_n false rfl (by decide) rfl ?_
                      refine r_v (Value.bool (false)) rfl rfl rfl rfl ?_
                      refine r_v (Value.bool (false)) rfl rfl rfl rfl ?_
                      refine r_n false rfl (by decide) rfl ?_
                      refine r_n false rfl (by decide) rfl ?_
                      refine r_n false rfl (by decide) rfl ?_
                      refine r_v (Value.bool (false)) rfl rfl rfl rfl ?_
                      refine lx_nil ?_
                      refine fg _ (Sub.of (List.Sublist.slnil)) ?_
                      exact ⟨false, hM, is_mk (by first | rfl | (simp only [hg43, hg44, hg45, hg49]; done) | (simp only [hg43, hg44, hg45, hg49]; rfl) | (simp only [app_hl]; rfl)) rfl⟩
                    · replace hM := ifp hg49 hM
                      refine r_y rfl ?_
                      refine r_v (Value.string (⟨(s).toArray⟩)) rfl rfl rfl rfl ?_
                      refine r_y rfl ?_
                      replace hM := ck_some hM; obtain ⟨ck50, hM⟩ := hM
                      refine r_v (Value.int .u8 ((byteAt (s) (2)))) rfl rfl rfl (ev_v (ev_indexS rfl ck50)) ?_
                      refine r_y rfl ?_
                      replace hM := bind_sm hM; obtain ⟨r51, hr52, hM⟩ := hM
                      refine r_c (Value.bool (r51)) rfl _ _ (ev_callF rfl call_41 rfl) (shunterref05_more_g N (byteN (s) (2)) _ hr52) ?_
                      refine r_v (Value.bool (r51)) rfl rfl rfl rfl ?_
                      refine r_v (Value.bool (r51)) rfl rfl rfl rfl ?_
                      rcases hg53 : (r51) with _ | _
                      · replace hM := ifn (Bool.eq_false_iff.1 hg53) hM
                        refine r_n false rfl (by decide) rfl ?_
                        refine r_n false rfl (by decide) rfl ?_
                        refine r_n false rfl (by decide) rfl ?_
                        refine r_v (Value.bool (false)) rfl rfl rfl rfl ?_
                        refine lx_nil ?_
                        refine fg _ (Sub.of (List.Sublist.slnil)) ?_
                        exact ⟨false, hM, is_mk (by first | rfl | (simp only [hg43, hg44, hg45, hg49, hg53]; done) | (simp only [hg43, hg44, hg45, hg49, hg53]; rfl) | (simp only [app_hl]; rfl)) rfl⟩
                      · replace hM := ifp hg53 hM
                        refine r_y rfl ?_
                        refine r_v (Value.string (⟨(s).toArray⟩)) rfl rfl rfl rfl ?_
                        refine r_y rfl ?_
                        replace hM := ck_some hM; obtain ⟨ck54, hM⟩ := hM
                        refine r_v (Value.int .u8 ((byteAt (s) (3)))) rfl rfl rfl (ev_v (ev_indexS rfl ck54)) ?_
                        refine r_y rfl ?_
                        replace hM := bind_sm hM; obtain ⟨r55, hr56, hM⟩ := hM
                        refine r_c (Value.bool (r55)) rfl _ _ (ev_callF rfl call_41 rfl) (shunterref05_more_g N (byteN (s) (3)) _ hr56) ?_
                        refine r_v (Value.bool (r55)) rfl rfl rfl rfl ?_
                        refine lx_nil ?_
                        refine fg _ (Sub.of (List.Sublist.slnil)) ?_
                        exact ⟨r55, hM, is_mk (by first | rfl | (simp only [hg43, hg44, hg45, hg49, hg53]; done) | (simp only [hg43, hg44, hg45, hg49, hg53]; rfl) | (simp only [app_hl]; rfl)) rfl⟩
            · clear hM; rintro t l ⟨x4_, hM, ⟨T, rfl⟩, rfl⟩
              unfold shunterref05_First_k5 at hM
              refine A_cond (x4_) rfl (fun hc21 => ?_) (fun hc21 => ?_)
              · replace hM := ifp hc21 hM
                refine A_seq fun K22 hK22 => ?_
                refine A_draw [] (by decide +kernel) (fun hn => sep_nil) ?_
                refine r_v (Value.int .i64 ((((byteN (s) (0)).toNat : Nat) : Int))) rfl rfl rfl rfl ?_
                replace hM := ck_some hM; obtain ⟨ck23, hM⟩ := hM
                refine r_v (Value.int .i64 (((((byteN (s) (0)).toNat : Nat) : Int) - 240))) rfl rfl (wi64 rfl ck23.1 ck23.2) rfl ?_
                replace hM := ck_some hM; obtain ⟨ck24, hM⟩ := hM
                refine r_v (Value.int .i64 ((262144 * ((((byteN (s) (0)).toNat : Nat) : Int) - 240)))) rfl rfl (wi64 rfl ck24.1 ck24.2) rfl ?_
                refine r_v (Value.string (⟨(s).toArray⟩)) rfl rfl rfl rfl ?_
                replace hM := ck_some hM; obtain ⟨ck25, hM⟩ := hM
                refine r_v (Value.int .u8 ((byteAt (s) (1)))) rfl rfl rfl (ev_v (ev_indexS rfl ck25)) ?_
                refine r_w (Value.int .i64 ((((byteN (s) (1)).toNat : Nat) : Int))) rfl rfl (u8_i64 (byteN (s) (1))) (fun _ => rfl) ?_
                replace hM := ck_some hM; obtain ⟨ck26, hM⟩ := hM
                refine r_v (Value.int .i64 (((((byteN (s) (1)).toNat : Nat) : Int) - 128))) rfl rfl (wi64 rfl ck26.1 ck26.2) rfl ?_
                replace hM := ck_some hM; obtain ⟨ck27, hM⟩ := hM
                refine r_v (Value.int .i64 ((4096 * ((((byteN (s) (1)).toNat : Nat) : Int) - 128)))) rfl rfl (wi64 rfl ck27.1 ck27.2) rfl ?_
                replace hM := ck_some hM; obtain ⟨ck28, hM⟩ := hM
                refine r_v (Value.int .i64 (((262144 * ((((byteN (s) (0)).toNat : Nat) : Int) - 240)) + (4096 * ((((byteN (s) (1)).toNat : Nat) : Int) - 128))))) rfl rfl (wi64 rfl ck28.1 ck28.2) rfl ?_
                refine r_v (Value.string (⟨(s).toArray⟩)) rfl rfl rfl rfl ?_
                replace hM := ck_some hM; obtain ⟨ck29, hM⟩ := hM
                refine r_v (Value.int .u8 ((byteAt (s) (2)))) rfl rfl rfl (ev_v (ev_indexS rfl ck29)) ?_
                refine r_w (Value.int .i64 ((((byteN (s) (2)).toNat : Nat) : Int))) rfl rfl (u8_i64 (byteN (s) (2))) (fun _ => rfl) ?_
                replace hM := ck_some hM; obtain ⟨ck30, hM⟩ := hM
                refine r_v (Value.int .i64 (((((byteN (s) (2)).toNat : Nat) : Int) - 128))) rfl rfl (wi64 rfl ck30.1 ck30.2) rfl ?_
                replace hM := ck_some hM; obtain ⟨ck31, hM⟩ := hM
                refine r_v (Value.int .i64 ((64 * ((((byteN (s) (2)).toNat : Nat) : Int) - 128)))) rfl rfl (wi64 rfl ck31.1 ck31.2) rfl ?_
                replace hM := ck_some hM; obtain ⟨ck32, hM⟩ := hM
                refine r_v (Value.int .i64 ((((262144 * ((((byteN (s) (0)).toNat : Nat) : Int) - 240)) + (4096 * ((((byteN (s) (1)).toNat : Nat) : Int) - 128))) + (64 * ((((byteN (s) (2)).toNat : Nat) : Int) - 128))))) rfl rfl (wi64 rfl ck32.1 ck32.2) rfl ?_
                refine r_v (Value.string (⟨(s).toArray⟩)) rfl rfl rfl rfl ?_
                replace hM := ck_some hM; obtain ⟨ck33, hM⟩ := hM
                refine r_v (Value.int .u8 ((byteAt (s) (3)))) rfl rfl rfl (ev_v (ev_indexS rfl ck33)) ?_
                refine r_w (Value.int .i64 ((((byteN (s) (3)).toNat : Nat) : Int))) rfl rfl (u8_i64 (byteN (s) (3))) (fun _ => rfl) ?_
                replace hM := ck_some hM; obtain ⟨ck34, hM⟩ := hM
                refine r_v (Value.int .i64 (((((262144 * ((((byteN (s) (0)).toNat : Nat) : Int) - 240)) + (4096 * ((((byteN (s) (1)).toNat : Nat) : Int) - 128))) + (64 * ((((byteN (s) (2)).toNat : Nat) : Int) - 128))) + (((byteN (s) (3)).toNat : Nat) : Int)))) rfl rfl (wi64 rfl ck34.1 ck34.2) rfl ?_
                replace hM := ck_some hM; obtain ⟨ck35, hM⟩ := hM
                refine r_v (Value.int .i64 ((((((262144 * ((((byteN (s) (0)).toNat : Nat) : Int) - 240)) + (4096 * ((((byteN (s) (1)).toNat : Nat) : Int) - 128))) + (64 * ((((byteN (s) (2)).toNat : Nat) : Int) - 128))) + (((byteN (s) (3)).toNat : Nat) : Int)) - 128))) rfl rfl (wi64 rfl ck35.1 ck35.2) rfl ?_
                refine r_v (Value.int .i64 ((((((262144 * ((((byteN (s) (0)).toNat : Nat) : Int) - 240)) + (4096 * ((((byteN (s) (1)).toNat : Nat) : Int) - 128))) + (64 * ((((byteN (s) (2)).toNat : Nat) : Int) - 128))) + (((byteN (s) (3)).toNat : Nat) : Int)) - 128))) rfl rfl rfl rfl ?_
                refine lx_nil ?_
                refine hK22 _ _ ?_; try clear hK22 K22
                refine A_seq fun K36 hK36 => ?_
                refine A_reg ?_
                refine r_v (Value.int .i64 ((((((262144 * ((((byteN (s) (0)).toNat : Nat) : Int) - 240)) + (4096 * ((((byteN (s) (1)).toNat : Nat) : Int) - 128))) + (64 * ((((byteN (s) (2)).toNat : Nat) : Int) - 128))) + (((byteN (s) (3)).toNat : Nat) : Int)) - 128))) rfl rfl rfl rfl ?_
                refine r_v (Value.bool (decide (((((((262144 * ((((byteN (s) (0)).toNat : Nat) : Int) - 240)) + (4096 * ((((byteN (s) (1)).toNat : Nat) : Int) - 128))) + (64 * ((((byteN (s) (2)).toNat : Nat) : Int) - 128))) + (((byteN (s) (3)).toNat : Nat) : Int)) - 128) : Int) ≥ 65536))) rfl rfl rfl rfl ?_
                refine r_v (Value.bool (decide (((((((262144 * ((((byteN (s) (0)).toNat : Nat) : Int) - 240)) + (4096 * ((((byteN (s) (1)).toNat : Nat) : Int) - 128))) + (64 * ((((byteN (s) (2)).toNat : Nat) : Int) - 128))) + (((byteN (s) (3)).toNat : Nat) : Int)) - 128) : Int) ≥ 65536))) rfl rfl rfl rfl ?_
                rcases hg37 : (decide (((((((262144 * ((((byteN (s) (0)).toNat : Nat) : Int) - 240)) + (4096 * ((((byteN (s) (1)).toNat : Nat) : Int) - 128))) + (64 * ((((byteN (s) (2)).toNat : Nat) : Int) - 128))) + (((byteN (s) (3)).toNat : Nat) : Int)) - 128) : Int) ≥ 65536)) with _ | _
                · replace hM := ifn (of_decide_eq_false hg37) hM
                  refine r_n false rfl (by decide) rfl ?_
                  refine r_n false rfl (by decide) rfl ?_
                  refine r_v (Value.bool (false)) rfl rfl rfl rfl ?_
                  refine lx_nil ?_
                  refine hK36 _ _ ?_; try clear hK36 K36
                  refine A_gen [(6, Value.int .i64 ((((((262144 * ((((byteN (s) (0)).toNat : Nat) : Int) - 240)) + (4096 * ((((byteN (s) (1)).toNat : Nat) : Int) - 128))) + (64 * ((((byteN (s) (2)).toNat : Nat) : Int) - 128))) + (((byteN (s) (3)).toNat : Nat) : Int)) - 128))), (137, Value.bool (false))] rfl (fun T => ?_)
                  refine A_cond false rfl (fun h_ => nomatch h_) (fun _ => ?_)
                  refine A_skip ?_
                  refine hK20 _ _ ?_; try clear hK20 K20
                  refine A_seq fun K38 hK38 => ?_
                  refine A_reg ?_
                  refine r_v (Value.int .i64 (65533)) rfl rfl rfl rfl ?_
                  refine r_v (Value.int .i64 (1)) rfl rfl rfl rfl ?_
                  refine lx_nil ?_
                  refine hK38 _ _ ?_; try clear hK38 K38
                  obtain rfl := Option.some.inj hM
                  refine A_ret (fun hn => ends_eq (v0 := Value.tuple #[Value.int .i64 (65533), Value.int .i64 (1)]) rfl (res2 rfl rfl))
                · replace hM := ifp (of_decide_eq_true hg37) hM
                  refine r_y rfl ?_
                  refine r_v (Value.int .i64 ((((((262144 * ((((byteN (s) (0)).toNat : Nat) : Int) - 240)) + (4096 * ((((byteN (s) (1)).toNat : Nat) : Int) - 128))) + (64 * ((((byteN (s) (2)).toNat : Nat) : Int) - 128))) + (((byteN (s) (3)).toNat : Nat) : Int)) - 128))) rfl rfl rfl rfl ?_
                  refine r_y rfl ?_
                  refine r_v (Value.bool (decide (((((((262144 * ((((byteN (s) (0)).toNat : Nat) : Int) - 240)) + (4096 * ((((byteN (s) (1)).toNat : Nat) : Int) - 128))) + (64 * ((((byteN (s) (2)).toNat : Nat) : Int) - 128))) + (((byteN (s) (3)).toNat : Nat) : Int)) - 128) : Int) ≤ 1114111))) rfl rfl rfl rfl ?_
                  refine r_v (Value.bool (decide (((((((262144 * ((((byteN (s) (0)).toNat : Nat) : Int) - 240)) + (4096 * ((((byteN (s) (1)).toNat : Nat) : Int) - 128))) + (64 * ((((byteN (s) (2)).toNat : Nat) : Int) - 128))) + (((byteN (s) (3)).toNat : Nat) : Int)) - 128) : Int) ≤ 1114111))) rfl rfl rfl rfl ?_
                  refine lx_nil ?_
                  refine hK36 _ _ ?_; try clear hK36 K36
                  refine A_gen [(6, Value.int .i64 ((((((262144 * ((((byteN (s) (0)).toNat : Nat) : Int) - 240)) + (4096 * ((((byteN (s) (1)).toNat : Nat) : Int) - 128))) + (64 * ((((byteN (s) (2)).toNat : Nat) : Int) - 128))) + (((byteN (s) (3)).toNat : Nat) : Int)) - 128))), (137, Value.bool (decide (((((((262144 * ((((byteN (s) (0)).toNat : Nat) : Int) - 240)) + (4096 * ((((byteN (s) (1)).toNat : Nat) : Int) - 128))) + (64 * ((((byteN (s) (2)).toNat : Nat) : Int) - 128))) + (((byteN (s) (3)).toNat : Nat) : Int)) - 128) : Int) ≤ 1114111)))] rfl (fun T => ?_)
                  refine A_cond (decide (((((((262144 * ((((byteN (s) (0)).toNat : Nat) : Int) - 240)) + (4096 * ((((byteN (s) (1)).toNat : Nat) : Int) - 128))) + (64 * ((((byteN (s) (2)).toNat : Nat) : Int) - 128))) + (((byteN (s) (3)).toNat : Nat) : Int)) - 128) : Int) ≤ 1114111)) rfl (fun hc39 => ?_) (fun hc39 => ?_)
                  · replace hM := ifp (of_decide_eq_true hc39) hM
                    refine A_seq fun K40 hK40 => ?_
                    refine A_reg ?_
                    refine r_v (Value.int .i64 ((((((262144 * ((((byteN (s) (0)).toNat : Nat) : Int) - 240)) + (4096 * ((((byteN (s) (1)).toNat : Nat) : Int) - 128))) + (64 * ((((byteN (s) (2)).toNat : Nat) : Int) - 128))) + (((byteN (s) (3)).toNat : Nat) : Int)) - 128))) rfl rfl rfl rfl ?_
                    refine r_v (Value.int .i64 ((((((262144 * ((((byteN (s) (0)).toNat : Nat) : Int) - 240)) + (4096 * ((((byteN (s) (1)).toNat : Nat) : Int) - 128))) + (64 * ((((byteN (s) (2)).toNat : Nat) : Int) - 128))) + (((byteN (s) (3)).toNat : Nat) : Int)) - 128))) rfl rfl rfl rfl ?_
                    refine r_v (Value.int .i64 (4)) rfl rfl rfl rfl ?_
                    refine lx_nil ?_
                    refine hK40 _ _ ?_; try clear hK40 K40
                    obtain rfl := Option.some.inj hM
                    refine A_ret (fun hn => ends_eq (v0 := Value.tuple #[Value.int .i64 ((((((262144 * ((((byteN (s) (0)).toNat : Nat) : Int) - 240)) + (4096 * ((((byteN (s) (1)).toNat : Nat) : Int) - 128))) + (64 * ((((byteN (s) (2)).toNat : Nat) : Int) - 128))) + (((byteN (s) (3)).toNat : Nat) : Int)) - 128)), Value.int .i64 (4)]) rfl (res2 rfl rfl))
                  · replace hM := ifn (of_decide_eq_false hc39) hM
                    refine A_skip ?_
                    refine hK20 _ _ ?_; try clear hK20 K20
                    refine A_seq fun K41 hK41 => ?_
                    refine A_reg ?_
                    refine r_v (Value.int .i64 (65533)) rfl rfl rfl rfl ?_
                    refine r_v (Value.int .i64 (1)) rfl rfl rfl rfl ?_
                    refine lx_nil ?_
                    refine hK41 _ _ ?_; try clear hK41 K41
                    obtain rfl := Option.some.inj hM
                    refine A_ret (fun hn => ends_eq (v0 := Value.tuple #[Value.int .i64 (65533), Value.int .i64 (1)]) rfl (res2 rfl rfl))
              · replace hM := ifn (Bool.eq_false_iff.1 hc21) hM
                refine A_skip ?_
                refine hK20 _ _ ?_; try clear hK20 K20
                refine A_seq fun K42 hK42 => ?_
                refine A_reg ?_
                refine r_v (Value.int .i64 (65533)) rfl rfl rfl rfl ?_
                refine r_v (Value.int .i64 (1)) rfl rfl rfl rfl ?_
                refine lx_nil ?_
                refine hK42 _ _ ?_; try clear hK42 K42
                obtain rfl := Option.some.inj hM
                refine A_ret (fun hn => ends_eq (v0 := Value.tuple #[Value.int .i64 (65533), Value.int .i64 (1)]) rfl (res2 rfl rfl))
def shunterref05_Runes_l3 (N : Nat) : Nat → List UInt8 → List Int → Option (List Int)
  | 0, _, _ => none
  | n4 + 1, s1_, l2_ => if (((s1_).length : Int) : Int) > 0 then (shunterref05_First_m N s1_).bind fun r9 => ck ((l2_).length + ([r9.1]).length ≤ 17592186044416) (ck (0 ≤ r9.2 ∧ r9.2 ≤ ((s1_).length : Int)) ((shunterref05_Runes_l3 N n4) ((s1_).drop (r9.2).toNat) ((l2_ ++ ([r9.1]))))) else some (l2_)
def shunterref05_Runes_m (N : Nat) (s : List UInt8) : Option (List Int) := shunterref05_Runes_l3 N N (s) ([])
set_option maxRecDepth 100000 in
set_option maxHeartbeats 400000 in
theorem shunterref05_Runes_g (N : Nat) (s : List UInt8) (r : List Int) (hM : shunterref05_Runes_m N s = some r) (ro : Addr → Option Value)  : Does Try.prog 10 #[Value.string (⟨(s).toArray⟩)] ro [] (p1 (fun s_ => s_) 3 encI r) := by
  unfold shunterref05_Runes_m at hM
  refine does_of_A follows Try.func10 rfl 22 rfl (upd (fun _ => undef) 0 (Value.string (⟨(s).toArray⟩))) (by funext k; match k with | 0 => rfl | k + 1 => rfl) (fun base0_ => ?_)
  refine A_seq fun K1 hK1 => ?_
  refine A_reg ?_
  refine r_v (Value.slice none 0 0) rfl rfl rfl rfl ?_
  refine lx_nil ?_
  refine hK1 _ _ ?_; try clear hK1 K1
  refine A_seq fun K2 hK2 => ?_
  refine A_reg ?_
  refine r_v (Value.slice none 0 0) rfl rfl rfl rfl ?_
  refine lx_nil ?_
  refine hK2 _ _ ?_; try clear hK2 K2
  refine A_seq fun K3 hK3 => ?_
  refine A_block ?_
  refine A_forget _ (Sub.pickE (Ls := [[]]) (Ls0 := []) rfl [0] rfl) ?_
  refine A_loop (fun tt ll nn => ∃ (n4 : Nat) (s1_ : List UInt8) (l2_ : List Int), (shunterref05_Runes_l3 N n4 s1_ l2_ = some r) ∧ ∃ (vl2_ : Value) (Sl2_ : List Bl), Sl 3 encI vl2_ l2_ Sl2_ ∧ Is [(0, Value.string (⟨(s1_).toArray⟩)), (3, vl2_)] (List.flatten [Sl2_]) tt ll ∧ nn = n4 + 1) (N + 1) ?_ ?_
  · exact ⟨N, s, [], hM, Value.slice none 0 0, [], Sl.nil, is_mk rfl rfl, rfl⟩
  · clear hM; rintro t l _ ⟨n4, s1_, l2_, hM, vl2_, Sl2_, hl2_, ⟨⟨T, rfl⟩, rfl⟩, rfl⟩
    rcases n4 with _ | n4
    · exact absurd hM (by simp [shunterref05_Runes_l3])
    rw [shunterref05_Runes_l3] at hM
    refine A_seq fun K5 hK5 => ?_
    refine A_seq fun K6 hK6 => ?_
    refine A_reg ?_
    refine r_v (Value.string (⟨(s1_).toArray⟩)) rfl rfl rfl rfl ?_
    refine r_v (Value.int .i64 (((s1_).length : Int))) rfl rfl rfl (ev_lenS rfl rfl rfl) ?_
    refine r_v (Value.bool (decide ((((s1_).length : Int) : Int) > 0))) rfl rfl rfl rfl ?_
    refine lx_nil ?_
    refine hK6 _ _ ?_; try clear hK6 K6
    refine A_cond (decide ((((s1_).length : Int) : Int) > 0)) rfl (fun hc7 => ?_) (fun hc7 => ?_)
    · replace hM := ifp (of_decide_eq_true hc7) hM
      refine A_skip ?_
      refine hK5 _ _ ?_; try clear hK5 K5
      refine A_block ?_
      refine A_seq fun K8 hK8 => ?_
      refine A_reg ?_
      refine r_v (Value.string (⟨(s1_).toArray⟩)) rfl rfl rfl rfl ?_
      replace hM := bind_sm hM; obtain ⟨r9, hr10, hM⟩ := hM
      refine r_c (Value.tuple #[Value.int .i64 (r9.1), Value.int .i64 (r9.2)]) rfl _ _ (ev_callF rfl call_31 rfl) (shunterref05_First_g N s1_ _ hr10) ?_
      refine r_v (Value.tuple #[Value.int .i64 (r9.1), Value.int .i64 (r9.2)]) rfl rfl rfl rfl ?_
      refine r_v (Value.int .i64 (r9.1)) rfl rfl rfl rfl ?_
      refine r_v (Value.int .i64 (r9.2)) rfl rfl rfl rfl ?_
      refine r_v (Value.int .i64 (r9.1)) rfl rfl rfl rfl ?_
      refine r_v (Value.int .i64 (r9.2)) rfl rfl rfl rfl ?_
      refine lx_nil ?_
      refine hK8 _ _ ?_; try clear hK8 K8
      refine A_seq fun K11 hK11 => ?_
      refine A_regC [(some 16, false), (some 17, true)] (conG Try.prog []) ?_
      refine r_v (vl2_) rfl rfl rfl rfl ?_
      refine r_v (Value.int .i64 (r9.1)) rfl rfl rfl rfl ?_
      refine r_bs (cs0 := []) (Ls := [Sl2_]) 3 encI [r9.1] [Value.int .i64 (r9.1)] [Value.int .i64 (0)] rfl rfl rfl rfl rfl rfl rfl (by kernel_rfl) (by kernel_rfl) rfl rfl rfl (fun s12 S13 H14 => ?_)
      replace hM := ck_some hM; obtain ⟨ck15, hM⟩ := hM
      refine r_app (cs0 := []) (Ls := [Sl2_, S13]) 0 (En := encI) rfl rfl rfl rfl rfl hl2_ rfl (rd_own H14 (mem_chunk (Ls := [Sl2_, S13]) (k := 1) rfl rfl)) rfl rfl rfl rfl rfl (app_b ck15 rfl) (app_m ck15 rfl) rfl (fun s16 S17 H18 => ?_)
      refine r_v (s16) rfl rfl rfl rfl ?_
      refine lx_nil ?_
      refine hK11 _ _ ?_; try clear hK11 K11
      refine A_reg ?_
      refine r_v (Value.string (⟨(s1_).toArray⟩)) rfl rfl rfl rfl ?_
      refine r_v (Value.int .i64 (r9.2)) rfl rfl rfl rfl ?_
      replace hM := ck_some hM; obtain ⟨ck19, hM⟩ := hM
      refine r_v (Value.string (⟨((s1_).drop (r9.2).toNat).toArray⟩)) rfl rfl rfl (ev_v (ev_sliceS1 rfl ck19)) ?_
      refine r_v (Value.string (⟨((s1_).drop (r9.2).toNat).toArray⟩)) rfl rfl rfl rfl ?_
      refine lx_nil ?_
      refine fg _ (Sub.pick [S17, S13] [0] rfl) ?_
      exact ⟨n4 + 1, by omega, n4, (s1_).drop (r9.2).toNat, (l2_ ++ ([r9.1])), hM, s16, S17, H18, is_mk rfl rfl, rfl⟩
    · replace hM := ifn (of_decide_eq_false hc7) hM
      refine A_exit ?_
      refine hK3 _ _ ?_; try clear hK3 K3
      refine A_seq fun K20 hK20 => ?_
      refine A_reg ?_
      refine r_v (vl2_) rfl rfl rfl rfl ?_
      refine r_v (vl2_) rfl rfl rfl rfl ?_
      refine lx_nil ?_
      refine hK20 _ _ ?_; try clear hK20 K20
      obtain rfl := Option.some.inj hM
      refine A_ret (fun hn => ends1 (v0 := vl2_) hl2_ (sub_one (Sub.pick [Sl2_] [0] rfl)) rfl (res1 rfl))
def name_Runes_l3 (s : List UInt8) : Nat → List Int → Nat → Option (List Int)
  | 0, _, _ => none
  | n12 + 1, l1_, m2_ => if m2_ < (s).length then ck (m2_ < (s).length) (ck ((l1_).length + ([((runeAt (s) (m2_) : Nat) : Int)]).length ≤ 35184372088832) ((name_Runes_l3 s n12) ((l1_ ++ ([((runeAt (s) (m2_) : Nat) : Int)]))) (nextP (s) (m2_)))) else some (l1_)
def name_Runes_m (N : Nat) (s : List UInt8) : Option (List Int) := (name_Len_m N s).bind fun r3 => ck (0 ≤ (0 : Int) ∧ (0 : Int) ≤ r3 ∧ r3 ≤ 35184372088832) (name_Runes_l3 s N (([] : List Int)) (0))
set_option maxRecDepth 100000 in
set_option maxHeartbeats 400000 in
theorem name_Runes_g (N : Nat) (s : List UInt8) (r : List Int) (hM : name_Runes_m N s = some r) (ro : Addr → Option Value)  : Does Try.prog 11 #[Value.string (⟨(s).toArray⟩)] ro [] (p1 (fun s_ => s_) 21 encI32 r) := by
  unfold name_Runes_m at hM
  refine does_of_A follows Try.func11 rfl 19 rfl (upd (fun _ => undef) 0 (Value.string (⟨(s).toArray⟩))) (by funext k; match k with | 0 => rfl | k + 1 => rfl) (fun base0_ => ?_)
  refine A_seq fun K1 hK1 => ?_
  refine A_reg ?_
  refine r_v (Value.slice none 0 0) rfl rfl rfl rfl ?_
  refine lx_nil ?_
  refine hK1 _ _ ?_; try clear hK1 K1
  refine A_seq fun K2 hK2 => ?_
  refine A_regC [(some 8, false)] (conG Try.prog [(8, fun v_ L_ U_ => (p1 (fun v => v) 21 encI32 ([] : List Int)) v_ L_ U_)]) ?_
  refine r_v (Value.string (⟨(s).toArray⟩)) rfl rfl rfl rfl ?_
  replace hM := bind_sm hM; obtain ⟨r3, hr4, hM⟩ := hM
  refine r_c (Value.int .i64 (r3)) rfl _ _ (ev_callF rfl call_12 rfl) (name_Len_g N s _ hr4) ?_
  replace hM := ck_some hM; obtain ⟨ck5, hM⟩ := hM
  refine r_mkc (Ls := []) 21 encI32 ((0 : Int)) ((0 : Int)) (r3) rfl rfl rfl rfl rfl rfl rfl rfl rfl rfl 35184372088832 rfl ck5 (fun _ _ _ _ _ => Iff.rfl) (fun s6 S7 H8 => ?_)
  refine r_v (s6) rfl rfl rfl rfl ?_
  refine lx_nil ?_
  refine hK2 _ _ ?_; try clear hK2 K2
  refine A_seq fun K9 hK9 => ?_
  refine A_seq fun K10 hK10 => ?_
  refine A_regC [(some 10, false)] (conG Try.prog [(10, fun v_ L_ U_ => (pIt (s)) v_ L_ U_)]) ?_
  refine r_v (Value.string (⟨(s).toArray⟩)) rfl rfl rfl rfl ?_
  refine r_range (s) rfl rfl rfl rfl rfl (fun _ _ _ _ _ => Iff.rfl) (fun b11 => ?_)
  refine lx_app1 (Ls := [S7]) ?_
  refine lx_perm (Ls := [S7, [(b11, (itT (s) (0)), #[])]]) (Ls' := [[(b11, (itT (s) (0)), #[])], S7]) [1, 0] rfl rfl ?_
  refine lx_nil ?_
  refine hK10 _ _ ?_; try clear hK10 K10
  refine A_block ?_
  refine A_forget _ (Sub.pick [[(b11, (itT (s) (0)), #[])], S7] [0, 1] rfl) ?_
  refine A_loop (fun tt ll nn => ∃ (n12 : Nat) (l1_ : List Int) (m2_ : Nat), (name_Runes_l3 s n12 l1_ m2_ = some r) ∧ ∃ (vl1_ : Value) (Sl1_ : List Bl), Sl 21 encI32 vl1_ l1_ Sl1_ ∧ Is [(3, vl1_), (10, Value.pointer (some ⟨b11, 0, none⟩))] (List.flatten [[(b11, (itT (s) (m2_)), #[])], Sl1_]) tt ll ∧ nn = n12 + 1) (N + 1) ?_ ?_
  · exact ⟨N, ([] : List Int), 0, hM, s6, S7, H8, is_mk rfl rfl, rfl⟩
  · clear hM; rintro t l _ ⟨n12, l1_, m2_, hM, vl1_, Sl1_, hl1_, ⟨⟨T, rfl⟩, rfl⟩, rfl⟩
    rcases n12 with _ | n12
    · exact absurd hM (by simp [name_Runes_l3])
    rw [name_Runes_l3] at hM
    refine A_seq fun K13 hK13 => ?_
    refine A_regC [(some 11, true)] (conG Try.prog [(11, fun v_ L_ U_ => (pNx b11 (s) (m2_)) v_ L_ U_)]) ?_
    refine r_next (lN := (List.flatten [[(b11, (itT (s) (nextP (s) (m2_))), #[])], Sl1_])) 0 b11 (s) (m2_) rfl rfl rfl rfl rfl rfl (fun _ _ _ _ _ => Iff.rfl) rfl ?_
    refine r_v (Value.bool (decide (m2_ < (s).length))) rfl rfl rfl (ev_v (ev_next0 (s) (m2_))) ?_
    refine lx_nil ?_
    refine hK13 _ _ ?_; try clear hK13 K13
    refine A_seq fun K14 hK14 => ?_
    refine A_cond (decide (m2_ < (s).length)) rfl (fun hc15 => ?_) (fun hc15 => ?_)
    · replace hM := ifp (of_decide_eq_true hc15) hM
      refine A_skip ?_
      refine hK14 _ _ ?_; try clear hK14 K14
      refine A_block ?_
      refine A_seq fun K16 hK16 => ?_
      refine A_reg ?_
      replace hM := ck_some hM; obtain ⟨ck17, hM⟩ := hM
      refine r_v (Value.int .i32 (((runeAt (s) (m2_) : Nat) : Int))) rfl rfl rfl (ev_v (ev_next2 ck17)) ?_
      refine r_v (Value.int .i32 (((runeAt (s) (m2_) : Nat) : Int))) rfl rfl rfl rfl ?_
      refine lx_nil ?_
      refine hK16 _ _ ?_; try clear hK16 K16
      refine A_regC [(some 16, false), (some 17, true)] (conG Try.prog []) ?_
      refine r_v (vl1_) rfl rfl rfl rfl ?_
      refine r_v (Value.int .i32 (((runeAt (s) (m2_) : Nat) : Int))) rfl rfl rfl rfl ?_
      refine r_bs (cs0 := []) (Ls := [[(b11, (itT (s) (nextP (s) (m2_))), #[])], Sl1_]) 21 encI32 [((runeAt (s) (m2_) : Nat) : Int)] [Value.int .i32 (((runeAt (s) (m2_) : Nat) : Int))] [Value.int .i32 (0)] rfl rfl rfl rfl rfl rfl rfl (by kernel_rfl) (by kernel_rfl) rfl rfl rfl (fun s18 S19 H20 => ?_)
      replace hM := ck_some hM; obtain ⟨ck21, hM⟩ := hM
      refine r_app (cs0 := []) (Ls := [[(b11, (itT (s) (nextP (s) (m2_))), #[])], Sl1_, S19]) 1 (En := encI32) rfl rfl rfl rfl rfl hl1_ rfl (rd_own H20 (mem_chunk (Ls := [[(b11, (itT (s) (nextP (s) (m2_))), #[])], Sl1_, S19]) (k := 2) rfl rfl)) rfl rfl rfl rfl rfl (app_b ck21 rfl) (app_m ck21 rfl) rfl (fun s22 S23 H24 => ?_)
      refine r_v (s22) rfl rfl rfl rfl ?_
      refine lx_nil ?_
      refine fg _ (Sub.pick [[(b11, (itT (s) (nextP (s) (m2_))), #[])], S23, S19] [0, 1] rfl) ?_
      exact ⟨n12 + 1, by omega, n12, (l1_ ++ ([((runeAt (s) (m2_) : Nat) : Int)])), nextP (s) (m2_), hM, s22, S23, H24, is_mk rfl rfl, rfl⟩
    · replace hM := ifn (of_decide_eq_false hc15) hM
      refine A_exit ?_
      refine hK9 _ _ ?_; try clear hK9 K9
      refine A_seq fun K25 hK25 => ?_
      refine A_reg ?_
      refine r_v (vl1_) rfl rfl rfl rfl ?_
      refine r_v (vl1_) rfl rfl rfl rfl ?_
      refine lx_nil ?_
      refine hK25 _ _ ?_; try clear hK25 K25
      obtain rfl := Option.some.inj hM
      refine A_ret (fun hn => ends1 (v0 := vl1_) hl1_ (sub_one (Sub.pick [[(b11, (itT (s) (nextP (s) (m2_))), #[])], Sl1_] [1] rfl)) rfl (res1 rfl))
def name_end_l3 (s : List UInt8) : Nat → Int → Nat → Option (Int)
  | 0, _, _ => none
  | n5 + 1, n1_, m2_ => if m2_ < (s).length then ck (m2_ < (s).length) (if (n1_ : Int) < 1 then some (((m2_ : Nat) : Int)) else ck ((-9223372036854775808 ≤ (n1_ - 1) ∧ (n1_ - 1) ≤ 9223372036854775807)) ((name_end_l3 s n5) ((n1_ - 1)) (nextP (s) (m2_)))) else some (((s).length : Int))
def name_end_m (N : Nat) (s : List UInt8) (n : Int) : Option (Int) := name_end_l3 s N (n) (0)
set_option maxRecDepth 100000 in
set_option maxHeartbeats 400000 in
theorem name_end_g (N : Nat) (s : List UInt8) (n : Int) (r : Int) (hM : name_end_m N s n = some r) : Gives Try.prog 33 #[Value.string (⟨(s).toArray⟩), Value.int .i64 (n)] (Value.int .i64 (r)) := by
  unfold name_end_m at hM
  refine gives_of_A follows Try.func33 rfl 18 rfl (upd (upd (fun _ => undef) 1 (Value.int .i64 (n))) 0 (Value.string (⟨(s).toArray⟩))) (by funext k; match k with | 0 => rfl | 1 => rfl | k + 2 => rfl) (fun base0_ => ?_)
  refine A_seq fun K1 hK1 => ?_
  refine A_reg ?_
  refine r_v (Value.int .i64 (0)) rfl rfl rfl rfl ?_
  refine lx_nil ?_
  refine hK1 _ _ ?_; try clear hK1 K1
  refine A_seq fun K2 hK2 => ?_
  refine A_seq fun K3 hK3 => ?_
  refine A_regC [(some 7, false)] (conG Try.prog [(7, fun v_ L_ U_ => (pIt (s)) v_ L_ U_)]) ?_
  refine r_v (Value.string (⟨(s).toArray⟩)) rfl rfl rfl rfl ?_
  refine r_range (s) rfl rfl rfl rfl rfl (fun _ _ _ _ _ => Iff.rfl) (fun b4 => ?_)
  refine lx_nil ?_
  refine hK3 _ _ ?_; try clear hK3 K3
  refine A_block ?_
  refine A_loop (fun tt ll nn => ∃ (n5 : Nat) (n1_ : Int) (m2_ : Nat), (name_end_l3 s n5 n1_ m2_ = some r) ∧ Is [(0, Value.string (⟨(s).toArray⟩)), (1, Value.int .i64 (n1_)), (7, Value.pointer (some ⟨b4, 0, none⟩))] [(b4, (itT (s) (m2_)), #[])] tt ll ∧ nn = n5 + 1) (N + 1) ?_ ?_
  · exact ⟨N, n, 0, hM, is_mk rfl rfl, rfl⟩
  · clear hM; rintro t l _ ⟨n5, n1_, m2_, hM, ⟨⟨T, rfl⟩, rfl⟩, rfl⟩
    rcases n5 with _ | n5
    · exact absurd hM (by simp [name_end_l3])
    rw [name_end_l3] at hM
    refine A_seq fun K6 hK6 => ?_
    refine A_regC [(some 8, true)] (conG Try.prog [(8, fun v_ L_ U_ => (pNx b4 (s) (m2_)) v_ L_ U_)]) ?_
    refine r_next (lN := [(b4, (itT (s) (nextP (s) (m2_))), #[])]) 0 b4 (s) (m2_) rfl rfl rfl rfl rfl rfl (fun _ _ _ _ _ => Iff.rfl) rfl ?_
    refine r_v (Value.bool (decide (m2_ < (s).length))) rfl rfl rfl (ev_v (ev_next0 (s) (m2_))) ?_
    refine lx_nil ?_
    refine hK6 _ _ ?_; try clear hK6 K6
    refine A_seq fun K7 hK7 => ?_
    refine A_cond (decide (m2_ < (s).length)) rfl (fun hc8 => ?_) (fun hc8 => ?_)
    · replace hM := ifp (of_decide_eq_true hc8) hM
      refine A_skip ?_
      refine hK7 _ _ ?_; try clear hK7 K7
      refine A_block ?_
      refine A_seq fun K9 hK9 => ?_
      refine A_reg ?_
      replace hM := ck_some hM; obtain ⟨ck10, hM⟩ := hM
      refine r_v (Value.int .i64 (((m2_ : Nat) : Int))) rfl rfl rfl (ev_v (ev_next1 ck10)) ?_
      refine r_v (Value.int .i64 (((m2_ : Nat) : Int))) rfl rfl rfl rfl ?_
      refine lx_nil ?_
      refine hK9 _ _ ?_; try clear hK9 K9
      refine A_seq fun K11 hK11 => ?_
      refine A_seq fun K12 hK12 => ?_
      refine A_reg ?_
      refine r_v (Value.int .i64 (n1_)) rfl rfl rfl rfl ?_
      refine r_v (Value.bool (decide ((n1_ : Int) < 1))) rfl rfl rfl rfl ?_
      refine lx_nil ?_
      refine hK12 _ _ ?_; try clear hK12 K12
      refine A_cond (decide ((n1_ : Int) < 1)) rfl (fun hc13 => ?_) (fun hc13 => ?_)
      · replace hM := ifp (of_decide_eq_true hc13) hM
        refine A_seq fun K14 hK14 => ?_
        refine A_reg ?_
        refine r_v (Value.int .i64 (((m2_ : Nat) : Int))) rfl rfl rfl rfl ?_
        refine r_v (Value.int .i64 (((m2_ : Nat) : Int))) rfl rfl rfl rfl ?_
        refine lx_nil ?_
        refine hK14 _ _ ?_; try clear hK14 K14
        obtain rfl := Option.some.inj hM
        refine A_ret (fun hn => ends_eq (v0 := Value.int .i64 (((m2_ : Nat) : Int))) rfl (res1 rfl))
      · replace hM := ifn (of_decide_eq_false hc13) hM
        refine A_skip ?_
        refine hK11 _ _ ?_; try clear hK11 K11
        refine A_reg ?_
        refine r_v (Value.int .i64 (n1_)) rfl rfl rfl rfl ?_
        replace hM := ck_some hM; obtain ⟨ck15, hM⟩ := hM
        refine r_v (Value.int .i64 ((n1_ - 1))) rfl rfl (wi64 rfl ck15.1 ck15.2) rfl ?_
        refine r_v (Value.int .i64 ((n1_ - 1))) rfl rfl rfl rfl ?_
        refine lx_nil ?_
        refine fg _ (Sub.of (List.Sublist.cons_cons _ (List.Sublist.slnil))) ?_
        exact ⟨n5 + 1, by omega, n5, (n1_ - 1), nextP (s) (m2_), hM, is_mk rfl rfl, rfl⟩
    · replace hM := ifn (of_decide_eq_false hc8) hM
      refine A_exit ?_
      refine hK2 _ _ ?_; try clear hK2 K2
      refine A_seq fun K16 hK16 => ?_
      refine A_reg ?_
      refine r_v (Value.string (⟨(s).toArray⟩)) rfl rfl rfl rfl ?_
      refine r_v (Value.int .i64 (((s).length : Int))) rfl rfl rfl (ev_lenS rfl rfl rfl) ?_
      refine r_v (Value.int .i64 (((s).length : Int))) rfl rfl rfl rfl ?_
      refine lx_nil ?_
      refine hK16 _ _ ?_; try clear hK16 K16
      obtain rfl := Option.some.inj hM
      refine A_ret (fun hn => ends_eq (v0 := Value.int .i64 (((s).length : Int))) rfl (res1 rfl))
end Go.Proofs.Ytniakkkjiifelaa
