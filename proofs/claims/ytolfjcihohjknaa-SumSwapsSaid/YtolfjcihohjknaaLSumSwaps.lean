/- models of functions and their walks -/
import Derived.Test.YtolfjcihohjknaaBa
namespace Go.Proofs.Ytolfjcihohjknaa
open Go Go.RowKit Go.Eng
def shunterlaw04_SumSwaps_k1 (N : Nat) (b : List UInt8) (i : Int) (k : Int) : Option (Bool) := ck ((([] : List UInt8)).length + (b).length ≤ 140737488355328) (ck ((-9223372036854775808 ≤ (2 * i) ∧ (2 * i) ≤ 9223372036854775807)) (ck ((-9223372036854775808 ≤ (2 * k) ∧ (2 * k) ≤ 9223372036854775807)) (ck (0 ≤ (2 * k) ∧ (2 * k) < ((b).length : Int)) (ck (0 ≤ (2 * i) ∧ (2 * i) < (((([] : List UInt8) ++ b)).length : Int)) (ck ((-9223372036854775808 ≤ (2 * k) ∧ (2 * k) ≤ 9223372036854775807)) (ck ((-9223372036854775808 ≤ (2 * i) ∧ (2 * i) ≤ 9223372036854775807)) (ck (0 ≤ (2 * i) ∧ (2 * i) < ((b).length : Int)) (ck (0 ≤ (2 * k) ∧ (2 * k) < ((((([] : List UInt8) ++ b)).set (((2 * i)).toNat) (((b)[((2 * k)).toNat]!))).length : Int)) (ck ((-9223372036854775808 ≤ (2 * i) ∧ (2 * i) ≤ 9223372036854775807)) (ck ((-9223372036854775808 ≤ ((2 * i) + 1) ∧ ((2 * i) + 1) ≤ 9223372036854775807)) (ck ((-9223372036854775808 ≤ (2 * k) ∧ (2 * k) ≤ 9223372036854775807)) (ck ((-9223372036854775808 ≤ ((2 * k) + 1) ∧ ((2 * k) + 1) ≤ 9223372036854775807)) (ck (0 ≤ ((2 * k) + 1) ∧ ((2 * k) + 1) < ((b).length : Int)) (ck (0 ≤ ((2 * i) + 1) ∧ ((2 * i) + 1) < (((((([] : List UInt8) ++ b)).set (((2 * i)).toNat) (((b)[((2 * k)).toNat]!))).set (((2 * k)).toNat) (((b)[((2 * i)).toNat]!))).length : Int)) (ck ((-9223372036854775808 ≤ (2 * k) ∧ (2 * k) ≤ 9223372036854775807)) (ck ((-9223372036854775808 ≤ ((2 * k) + 1) ∧ ((2 * k) + 1) ≤ 9223372036854775807)) (ck ((-9223372036854775808 ≤ (2 * i) ∧ (2 * i) ≤ 9223372036854775807)) (ck ((-9223372036854775808 ≤ ((2 * i) + 1) ∧ ((2 * i) + 1) ≤ 9223372036854775807)) (ck (0 ≤ ((2 * i) + 1) ∧ ((2 * i) + 1) < ((b).length : Int)) (ck (0 ≤ ((2 * k) + 1) ∧ ((2 * k) + 1) < ((((((([] : List UInt8) ++ b)).set (((2 * i)).toNat) (((b)[((2 * k)).toNat]!))).set (((2 * k)).toNat) (((b)[((2 * i)).toNat]!))).set ((((2 * i) + 1)).toNat) (((b)[(((2 * k) + 1)).toNat]!))).length : Int)) (ck ((([] : List UInt8)).length + (b).length ≤ 140737488355328) (ck (((([] : List UInt8) ++ b)).length + ([(0 : UInt8)]).length ≤ 140737488355328) ((sum_Of_m N ((((((([] : List UInt8) ++ b)).set (((2 * i)).toNat) (((b)[((2 * k)).toNat]!))).set (((2 * k)).toNat) (((b)[((2 * i)).toNat]!))).set ((((2 * i) + 1)).toNat) (((b)[(((2 * k) + 1)).toNat]!))).set ((((2 * k) + 1)).toNat) (((b)[(((2 * i) + 1)).toNat]!)))).bind fun r58 => (sum_Of_m N b).bind fun r60 => if (((r58.toNat : Nat) : Int) : Int) = ((r60.toNat : Nat) : Int) then (sum_Of_m N ((([] : List UInt8) ++ b) ++ ([(0 : UInt8)]))).bind fun r63 => (sum_Of_m N b).bind fun r65 => if (((r63.toNat : Nat) : Int) : Int) = ((r65.toNat : Nat) : Int) then (shunterlaw04_lives_m N ).bind fun r68 => some (r68) else some (false) else some (false))))))))))))))))))))))))
def shunterlaw04_SumSwaps_m (N : Nat) (b : List UInt8) (i : Int) (k : Int) : Option (Bool) := if (((b).length : Int) : Int) > 2000 then (shunterlaw04_lives_m N ).bind fun r91 => some (r91) else if (i : Int) < 0 then (shunterlaw04_lives_m N ).bind fun r88 => some (r88) else if (k : Int) < 0 then (shunterlaw04_lives_m N ).bind fun r85 => some (r85) else ck (0 ≤ ((b).length : Int) ∧ ((b).length : Int) ≤ 9223372036854775807) (if (i : Int) ≥ (((b).length : Int)) / 2 then (shunterlaw04_lives_m N ).bind fun r82 => some (r82) else ck (0 ≤ ((b).length : Int) ∧ ((b).length : Int) ≤ 9223372036854775807) (if (k : Int) ≥ (((b).length : Int)) / 2 then (shunterlaw04_lives_m N ).bind fun r79 => some (r79) else shunterlaw04_SumSwaps_k1 N b i k ))
set_option maxRecDepth 100000 in
set_option maxHeartbeats 400000 in
theorem shunterlaw04_SumSwaps_g (N : Nat) (b : List UInt8) (i : Int) (k : Int) (r : Bool) (hM : shunterlaw04_SumSwaps_m N b i k = some r) (ro : Addr → Option Value) (bv : Value) (hb : Rd encY ro bv b) : Does Try.prog 6 #[bv, Value.int .i64 (i), Value.int .i64 (k)] ro [] (pV (Value.bool (r))) := by
  unfold shunterlaw04_SumSwaps_m at hM
  refine does_of_A follows Try.func6 rfl 98 rfl (upd (upd (upd (fun _ => undef) 2 (Value.int .i64 (k))) 1 (Value.int .i64 (i))) 0 (bv)) (by funext k; match k with | 0 => rfl | 1 => rfl | 2 => rfl | k + 3 => rfl) (fun base0_ => ?_)
  refine A_seq fun K1 hK1 => ?_
  refine A_reg ?_
  refine r_v (Value.bool (false)) rfl rfl rfl rfl ?_
  refine lx_nil ?_
  refine hK1 _ _ ?_; try clear hK1 K1
  refine A_cut (fun tt ll => (shunterlaw04_SumSwaps_k1 N b i k  = some r) ∧ Is [(0, bv), (1, Value.int .i64 (i)), (2, Value.int .i64 (k))] [] tt ll) ?_ ?_
  · refine A_seq fun K70 hK70 => ?_
    refine A_reg ?_
    refine r_v (bv) rfl rfl rfl rfl ?_
    refine r_v (Value.int .i64 (((b).length : Int))) rfl rfl rfl (ev_lenSl rfl rfl rfl (Rd.shp hb)) ?_
    refine r_v (Value.bool (decide ((((b).length : Int) : Int) > 2000))) rfl rfl rfl rfl ?_
    refine r_v (Value.bool (decide ((((b).length : Int) : Int) > 2000))) rfl rfl rfl rfl ?_
    rcases hg71 : (decide ((((b).length : Int) : Int) > 2000)) with _ | _
    · replace hM := ifn (of_decide_eq_false hg71) hM
      refine r_y rfl ?_
      refine r_v (Value.int .i64 (i)) rfl rfl rfl rfl ?_
      refine r_y rfl ?_
      refine r_v (Value.bool (decide ((i : Int) < 0))) rfl rfl rfl rfl ?_
      refine r_v (Value.bool (decide ((i : Int) < 0))) rfl rfl rfl rfl ?_
      refine r_v (Value.bool (decide ((i : Int) < 0))) rfl rfl rfl rfl ?_
      rcases hg72 : (decide ((i : Int) < 0)) with _ | _
      · replace hM := ifn (of_decide_eq_false hg72) hM
        refine r_y rfl ?_
        refine r_v (Value.int .i64 (k)) rfl rfl rfl rfl ?_
        refine r_y rfl ?_
        refine r_v (Value.bool (decide ((k : Int) < 0))) rfl rfl rfl rfl ?_
        refine r_v (Value.bool (decide ((k : Int) < 0))) rfl rfl rfl rfl ?_
        refine r_v (Value.bool (decide ((k : Int) < 0))) rfl rfl rfl rfl ?_
        rcases hg73 : (decide ((k : Int) < 0)) with _ | _
        · replace hM := ifn (of_decide_eq_false hg73) hM
          refine r_y rfl ?_
          refine r_v (Value.int .i64 (i)) rfl rfl rfl rfl ?_
          refine r_y rfl ?_
          refine r_v (bv) rfl rfl rfl rfl ?_
          refine r_y rfl ?_
          refine r_v (Value.int .i64 (((b).length : Int))) rfl rfl rfl (ev_lenSl rfl rfl rfl (Rd.shp hb)) ?_
          refine r_y rfl ?_
          replace hM := ck_some hM; obtain ⟨ck74, hM⟩ := hM
          refine r_v (Value.int .i64 ((((b).length : Int)) / 2)) rfl rfl (quo_i64 ck74.1 (by decide) ck74.2) rfl ?_
          refine r_y rfl ?_
          refine r_v (Value.bool (decide ((i : Int) ≥ (((b).length : Int)) / 2))) rfl rfl rfl rfl ?_
          refine r_v (Value.bool (decide ((i : Int) ≥ (((b).length : Int)) / 2))) rfl rfl rfl rfl ?_
          refine r_v (Value.bool (decide ((i : Int) ≥ (((b).length : Int)) / 2))) rfl rfl rfl rfl ?_
          rcases hg75 : (decide ((i : Int) ≥ (((b).length : Int)) / 2)) with _ | _
          · replace hM := ifn (of_decide_eq_false hg75) hM
            refine r_y rfl ?_
            refine r_v (Value.int .i64 (k)) rfl rfl rfl rfl ?_
            refine r_y rfl ?_
            refine r_v (bv) rfl rfl rfl rfl ?_
            refine r_y rfl ?_
            refine r_v (Value.int .i64 (((b).length : Int))) rfl rfl rfl (ev_lenSl rfl rfl rfl (Rd.shp hb)) ?_
            refine r_y rfl ?_
            replace hM := ck_some hM; obtain ⟨ck76, hM⟩ := hM
            refine r_v (Value.int .i64 ((((b).length : Int)) / 2)) rfl rfl (quo_i64 ck76.1 (by decide) ck76.2) rfl ?_
            refine r_y rfl ?_
            refine r_v (Value.bool (decide ((k : Int) ≥ (((b).length : Int)) / 2))) rfl rfl rfl rfl ?_
            refine r_v (Value.bool (decide ((k : Int) ≥ (((b).length : Int)) / 2))) rfl rfl rfl rfl ?_
            refine lx_nil ?_
            refine hK70 _ _ ?_; try clear hK70 K70
            refine A_cond (decide ((k : Int) ≥ (((b).length : Int)) / 2)) rfl (fun hc77 => ?_) (fun hc77 => ?_)
            · replace hM := ifp (of_decide_eq_true hc77) hM
              refine A_seq fun K78 hK78 => ?_
              refine A_reg ?_
              replace hM := bind_sm hM; obtain ⟨r79, hr80, hM⟩ := hM
              refine r_c (Value.bool (r79)) rfl _ _ (ev_callF rfl call_8 rfl) (shunterlaw04_lives_g N  _ hr80) ?_
              refine r_v (Value.bool (r79)) rfl rfl rfl rfl ?_
              refine lx_nil ?_
              refine hK78 _ _ ?_; try clear hK78 K78
              refine A_gen [(6, Value.bool (r79))] rfl (fun T => ?_)
              obtain rfl := Option.some.inj hM
              refine A_ret (fun hn => endsV (v0 := Value.bool (r79)) rfl (res1 rfl))
            · replace hM := ifn (of_decide_eq_false hc77) hM
              refine A_skip ?_
              refine fg _ (Sub.of (List.Sublist.slnil)) ?_
              exact ⟨hM, is_mk rfl rfl⟩
          · replace hM := ifp (of_decide_eq_true hg75) hM
            refine r_n true rfl (by decide) rfl ?_
            refine r_n true rfl (by decide) rfl ?_
            refine r_n true rfl (by decide) rfl ?_
            refine r_n true rfl (by decide) rfl ?_
            refine r_n true rfl (by decide) rfl ?_
            refine r_v (Value.bool (true)) rfl rfl rfl rfl ?_
            refine lx_nil ?_
            refine hK70 _ _ ?_; try clear hK70 K70
            refine A_cond true rfl (fun _ => ?_) (fun h_ => nomatch h_)
            refine A_seq fun K81 hK81 => ?_
            refine A_reg ?_
            replace hM := bind_sm hM; obtain ⟨r82, hr83, hM⟩ := hM
            refine r_c (Value.bool (r82)) rfl _ _ (ev_callF rfl call_8 rfl) (shunterlaw04_lives_g N  _ hr83) ?_
            refine r_v (Value.bool (r82)) rfl rfl rfl rfl ?_
            refine lx_nil ?_
            refine hK81 _ _ ?_; try clear hK81 K81
            refine A_gen [(6, Value.bool (r82))] rfl (fun T => ?_)
            obtain rfl := Option.some.inj hM
            refine A_ret (fun hn => endsV (v0 := Value.bool (r82)) rfl (res1 rfl))
        · replace hM := ifp (of_decide_eq_true hg73) hM
          refine r_n true rfl (by decide) rfl ?_
          refine r_n true rfl (by decide) rfl ?_
          refine r_n true rfl (by decide) rfl ?_
          refine r_n true rfl (by decide) rfl ?_
          refine r_n true rfl (by decide) rfl ?_
          refine r_v (Value.bool (true)) rfl rfl rfl rfl ?_
          refine r_v (Value.bool (true)) rfl rfl rfl rfl ?_
          refine r_n true rfl (by decide) rfl ?_
          refine r_n true rfl (by decide) rfl ?_
          refine r_n true rfl (by decide) rfl ?_
          refine r_n true rfl (by decide) rfl ?_
          refine r_n true rfl (by decide) rfl ?_
          refine r_v (Value.bool (true)) rfl rfl rfl rfl ?_
          refine lx_nil ?_
          refine hK70 _ _ ?_; try clear hK70 K70
          refine A_cond true rfl (fun _ => ?_) (fun h_ => nomatch h_)
          refine A_seq fun K84 hK84 => ?_
          refine A_reg ?_
          replace hM := bind_sm hM; obtain ⟨r85, hr86, hM⟩ := hM
          refine r_c (Value.bool (r85)) rfl _ _ (ev_callF rfl call_8 rfl) (shunterlaw04_lives_g N  _ hr86) ?_
          refine r_v (Value.bool (r85)) rfl rfl rfl rfl ?_
          refine lx_nil ?_
          refine hK84 _ _ ?_; try clear hK84 K84
          refine A_gen [(6, Value.bool (r85))] rfl (fun T => ?_)
          obtain rfl := Option.some.inj hM
          refine A_ret (fun hn => endsV (v0 := Value.bool (r85)) rfl (res1 rfl))
      · replace hM := ifp (of_decide_eq_true hg72) hM
        refine r_n true rfl (by decide) rfl ?_
        refine r_n true rfl (by decide) rfl ?_
        refine r_v (Value.bool (true)) rfl rfl rfl rfl ?_
        refine r_v (Value.bool (true)) rfl rfl rfl rfl ?_
        refine r_n true rfl (by decide) rfl ?_
        refine r_n true rfl (by decide) rfl ?_
        refine r_n true rfl (by decide) rfl ?_
        refine r_n true rfl (by decide) rfl ?_
        refine r_n true rfl (by decide) rfl ?_
        refine r_v (Value.bool (true)) rfl rfl rfl rfl ?_
        refine r_v (Value.bool (true)) rfl rfl rfl rfl ?_
        refine r_n true rfl (by decide) rfl ?_
        refine r_n true rfl (by decide) rfl ?_
        refine r_n true rfl (by decide) rfl ?_
        refine r_n true rfl (by decide) rfl ?_
        refine r_n true rfl (by decide) rfl ?_
        refine r_v (Value.bool (true)) rfl rfl rfl rfl ?_
        refine lx_nil ?_
        refine hK70 _ _ ?_; try clear hK70 K70
        refine A_cond true rfl (fun _ => ?_) (fun h_ => nomatch h_)
        refine A_seq fun K87 hK87 => ?_
        refine A_reg ?_
        replace hM := bind_sm hM; obtain ⟨r88, hr89, hM⟩ := hM
        refine r_c (Value.bool (r88)) rfl _ _ (ev_callF rfl call_8 rfl) (shunterlaw04_lives_g N  _ hr89) ?_
        refine r_v (Value.bool (r88)) rfl rfl rfl rfl ?_
        refine lx_nil ?_
        refine hK87 _ _ ?_; try clear hK87 K87
        refine A_gen [(6, Value.bool (r88))] rfl (fun T => ?_)
        obtain rfl := Option.some.inj hM
        refine A_ret (fun hn => endsV (v0 := Value.bool (r88)) rfl (res1 rfl))
    · replace hM := ifp (of_decide_eq_true hg71) hM
      refine r_n true rfl (by decide) rfl ?_
      refine r_n true rfl (by decide) rfl ?_
      refine r_v (Value.bool (true)) rfl rfl rfl rfl ?_
      refine r_v (Value.bool (true)) rfl rfl rfl rfl ?_
      refine r_n true rfl (by decide) rfl ?_
      refine r_n true rfl (by decide) rfl ?_
      refine r_v (Value.bool (true)) rfl rfl rfl rfl ?_
      refine r_v (Value.bool (true)) rfl rfl rfl rfl ?_
      refine r_n true rfl (by decide) rfl ?_
      refine r_n true rfl (by decide) rfl ?_
      refine r_n true rfl (by decide) rfl ?_
      refine r_n true rfl (by decide) rfl ?_
      refine r_n true rfl (by decide) rfl ?_
      refine r_v (Value.bool (true)) rfl rfl rfl rfl ?_
      refine r_v (Value.bool (true)) rfl rfl rfl rfl ?_
      refine r_n true rfl (by decide) rfl ?_
      refine r_n true rfl (by decide) rfl ?_
      refine r_n true rfl (by decide) rfl ?_
      refine r_n true rfl (by decide) rfl ?_
      refine r_n true rfl (by decide) rfl ?_
      refine r_v (Value.bool (true)) rfl rfl rfl rfl ?_
      refine lx_nil ?_
      refine hK70 _ _ ?_; try clear hK70 K70
      refine A_cond true rfl (fun _ => ?_) (fun h_ => nomatch h_)
      refine A_seq fun K90 hK90 => ?_
      refine A_reg ?_
      replace hM := bind_sm hM; obtain ⟨r91, hr92, hM⟩ := hM
      refine r_c (Value.bool (r91)) rfl _ _ (ev_callF rfl call_8 rfl) (shunterlaw04_lives_g N  _ hr92) ?_
      refine r_v (Value.bool (r91)) rfl rfl rfl rfl ?_
      refine lx_nil ?_
      refine hK90 _ _ ?_; try clear hK90 K90
      refine A_gen [(6, Value.bool (r91))] rfl (fun T => ?_)
      obtain rfl := Option.some.inj hM
      refine A_ret (fun hn => endsV (v0 := Value.bool (r91)) rfl (res1 rfl))
  · clear hM; rintro t l ⟨hM, ⟨T, rfl⟩, rfl⟩
    unfold shunterlaw04_SumSwaps_k1 at hM
    refine A_seq fun K2 hK2 => ?_
    refine A_regC [(some 35, false), (some 37, true)] (conG Try.prog []) ?_
    refine r_bs (cs0 := []) (Ls := []) 5 encY ([] : List UInt8) [] [] rfl rfl rfl rfl rfl rfl rfl (by kernel_rfl) (by kernel_rfl) rfl rfl rfl (fun s3 S4 H5 => ?_)
    refine r_v (bv) rfl rfl rfl rfl ?_
    replace hM := ck_some hM; obtain ⟨ck6, hM⟩ := hM
    refine r_app (cs0 := []) (Ls := [S4]) 0 (En := encY) rfl rfl rfl rfl rfl H5 rfl (rd_ro hb) rfl rfl rfl rfl rfl (app_b ck6 rfl) (app_m ck6 rfl) rfl (fun s7 S8 H9 => ?_)
    refine r_v (s7) rfl rfl rfl rfl ?_
    refine lx_nil ?_
    refine hK2 _ _ ?_; try clear hK2 K2
    refine A_seq fun K10 hK10 => ?_
    refine A_reg ?_
    refine r_v (s7) rfl rfl rfl rfl ?_
    refine r_v (Value.int .i64 (i)) rfl rfl rfl rfl ?_
    replace hM := ck_some hM; obtain ⟨ck11, hM⟩ := hM
    refine r_v (Value.int .i64 ((2 * i))) rfl rfl (wi64 rfl ck11.1 ck11.2) rfl ?_
    refine r_v (bv) rfl rfl rfl rfl ?_
    refine r_v (Value.int .i64 (k)) rfl rfl rfl rfl ?_
    replace hM := ck_some hM; obtain ⟨ck12, hM⟩ := hM
    refine r_v (Value.int .i64 ((2 * k))) rfl rfl (wi64 rfl ck12.1 ck12.2) rfl ?_
    replace hM := ck_some hM; obtain ⟨ck13, hM⟩ := hM
    refine r_v (elA bv (((2 * k)).toNat * 1)) rfl rfl rfl (ev_v (ev_idxSl rfl rfl rfl (Rd.shp hb) ck13)) ?_
    refine r_le (Value.int .u8 (((((b)[((2 * k)).toNat]!).toNat : Nat) : Int))) (En := encY) ((b)[((2 * k)).toNat]!) (((2 * k)).toNat) 0 rfl rfl (rd_ro hb) (get_of ck13) rfl ?_
    replace hM := ck_some hM; obtain ⟨ck14, hM⟩ := hM
    refine r_v (elA s7 (((2 * i)).toNat * 1)) rfl rfl rfl (ev_v (ev_idxSl rfl rfl rfl (Sl.shp H9) ck14)) ?_
    refine r_se (Ls := [S8]) 0 (En := encY) (((([] : List UInt8) ++ b))[((2 * i)).toNat]!) (((b)[((2 * k)).toNat]!)) (((2 * i)).toNat) 0 rfl rfl rfl H9 (get_of ck14) rfl rfl rfl (one_all rfl) rfl (fun S15 H16 => ?_)
    refine lx_nil ?_
    refine hK10 _ _ ?_; try clear hK10 K10
    refine A_seq fun K17 hK17 => ?_
    refine A_reg ?_
    refine r_v (s7) rfl rfl rfl rfl ?_
    refine r_v (Value.int .i64 (k)) rfl rfl rfl rfl ?_
    replace hM := ck_some hM; obtain ⟨ck18, hM⟩ := hM
    refine r_v (Value.int .i64 ((2 * k))) rfl rfl (wi64 rfl ck18.1 ck18.2) rfl ?_
    refine r_v (bv) rfl rfl rfl rfl ?_
    refine r_v (Value.int .i64 (i)) rfl rfl rfl rfl ?_
    replace hM := ck_some hM; obtain ⟨ck19, hM⟩ := hM
    refine r_v (Value.int .i64 ((2 * i))) rfl rfl (wi64 rfl ck19.1 ck19.2) rfl ?_
    replace hM := ck_some hM; obtain ⟨ck20, hM⟩ := hM
    refine r_v (elA bv (((2 * i)).toNat * 1)) rfl rfl rfl (ev_v (ev_idxSl rfl rfl rfl (Rd.shp hb) ck20)) ?_
    refine r_le (Value.int .u8 (((((b)[((2 * i)).toNat]!).toNat : Nat) : Int))) (En := encY) ((b)[((2 * i)).toNat]!) (((2 * i)).toNat) 0 rfl rfl (rd_ro hb) (get_of ck20) rfl ?_
    replace hM := ck_some hM; obtain ⟨ck21, hM⟩ := hM
    refine r_v (elA s7 (((2 * k)).toNat * 1)) rfl rfl rfl (ev_v (ev_idxSl rfl rfl rfl (Sl.shp H16) ck21)) ?_
    refine r_se (Ls := [S15]) 0 (En := encY) ((((([] : List UInt8) ++ b)).set (((2 * i)).toNat) (((b)[((2 * k)).toNat]!)))[((2 * k)).toNat]!) (((b)[((2 * i)).toNat]!)) (((2 * k)).toNat) 0 rfl rfl rfl H16 (get_of ck21) rfl rfl rfl (one_all rfl) rfl (fun S22 H23 => ?_)
    refine lx_nil ?_
    refine hK17 _ _ ?_; try clear hK17 K17
    refine A_seq fun K24 hK24 => ?_
    refine A_reg ?_
    refine r_v (s7) rfl rfl rfl rfl ?_
    refine r_v (Value.int .i64 (i)) rfl rfl rfl rfl ?_
    replace hM := ck_some hM; obtain ⟨ck25, hM⟩ := hM
    refine r_v (Value.int .i64 ((2 * i))) rfl rfl (wi64 rfl ck25.1 ck25.2) rfl ?_
    replace hM := ck_some hM; obtain ⟨ck26, hM⟩ := hM
    refine r_v (Value.int .i64 (((2 * i) + 1))) rfl rfl (wi64 rfl ck26.1 ck26.2) rfl ?_
    refine r_v (bv) rfl rfl rfl rfl ?_
    refine r_v (Value.int .i64 (k)) rfl rfl rfl rfl ?_
    replace hM := ck_some hM; obtain ⟨ck27, hM⟩ := hM
    refine r_v (Value.int .i64 ((2 * k))) rfl rfl (wi64 rfl ck27.1 ck27.2) rfl ?_
    replace hM := ck_some hM; obtain ⟨ck28, hM⟩ := hM
    refine r_v (Value.int .i64 (((2 * k) + 1))) rfl rfl (wi64 rfl ck28.1 ck28.2) rfl ?_
    replace hM := ck_some hM; obtain ⟨ck29, hM⟩ := hM
    refine r_v (elA bv ((((2 * k) + 1)).toNat * 1)) rfl rfl rfl (ev_v (ev_idxSl rfl rfl rfl (Rd.shp hb) ck29)) ?_
    refine r_le (Value.int .u8 (((((b)[(((2 * k) + 1)).toNat]!).toNat : Nat) : Int))) (En := encY) ((b)[(((2 * k) + 1)).toNat]!) ((((2 * k) + 1)).toNat) 0 rfl rfl (rd_ro hb) (get_of ck29) rfl ?_
    replace hM := ck_some hM; obtain ⟨ck30, hM⟩ := hM
    refine r_v (elA s7 ((((2 * i) + 1)).toNat * 1)) rfl rfl rfl (ev_v (ev_idxSl rfl rfl rfl (Sl.shp H23) ck30)) ?_
    refine r_se (Ls := [S22]) 0 (En := encY) (((((([] : List UInt8) ++ b)).set (((2 * i)).toNat) (((b)[((2 * k)).toNat]!))).set (((2 * k)).toNat) (((b)[((2 * i)).toNat]!)))[(((2 * i) + 1)).toNat]!) (((b)[(((2 * k) + 1)).toNat]!)) ((((2 * i) + 1)).toNat) 0 rfl rfl rfl H23 (get_of ck30) rfl rfl rfl (one_all rfl) rfl (fun S31 H32 => ?_)
    refine lx_nil ?_
    refine hK24 _ _ ?_; try clear hK24 K24
    refine A_gen [(0, bv), (1, Value.int .i64 (i)), (2, Value.int .i64 (k)), (7, s7)] rfl (fun T => ?_)
    refine A_seq fun K33 hK33 => ?_
    refine A_reg ?_
    refine r_v (s7) rfl rfl rfl rfl ?_
    refine r_v (Value.int .i64 (k)) rfl rfl rfl rfl ?_
    replace hM := ck_some hM; obtain ⟨ck34, hM⟩ := hM
    refine r_v (Value.int .i64 ((2 * k))) rfl rfl (wi64 rfl ck34.1 ck34.2) rfl ?_
    replace hM := ck_some hM; obtain ⟨ck35, hM⟩ := hM
    refine r_v (Value.int .i64 (((2 * k) + 1))) rfl rfl (wi64 rfl ck35.1 ck35.2) rfl ?_
    refine r_v (bv) rfl rfl rfl rfl ?_
    refine r_v (Value.int .i64 (i)) rfl rfl rfl rfl ?_
    replace hM := ck_some hM; obtain ⟨ck36, hM⟩ := hM
    refine r_v (Value.int .i64 ((2 * i))) rfl rfl (wi64 rfl ck36.1 ck36.2) rfl ?_
    replace hM := ck_some hM; obtain ⟨ck37, hM⟩ := hM
    refine r_v (Value.int .i64 (((2 * i) + 1))) rfl rfl (wi64 rfl ck37.1 ck37.2) rfl ?_
    replace hM := ck_some hM; obtain ⟨ck38, hM⟩ := hM
    refine r_v (elA bv ((((2 * i) + 1)).toNat * 1)) rfl rfl rfl (ev_v (ev_idxSl rfl rfl rfl (Rd.shp hb) ck38)) ?_
    refine r_le (Value.int .u8 (((((b)[(((2 * i) + 1)).toNat]!).toNat : Nat) : Int))) (En := encY) ((b)[(((2 * i) + 1)).toNat]!) ((((2 * i) + 1)).toNat) 0 rfl rfl (rd_ro hb) (get_of ck38) rfl ?_
    replace hM := ck_some hM; obtain ⟨ck39, hM⟩ := hM
    refine r_v (elA s7 ((((2 * k) + 1)).toNat * 1)) rfl rfl rfl (ev_v (ev_idxSl rfl rfl rfl (Sl.shp H32) ck39)) ?_
    refine r_se (Ls := [S31]) 0 (En := encY) ((((((([] : List UInt8) ++ b)).set (((2 * i)).toNat) (((b)[((2 * k)).toNat]!))).set (((2 * k)).toNat) (((b)[((2 * i)).toNat]!))).set ((((2 * i) + 1)).toNat) (((b)[(((2 * k) + 1)).toNat]!)))[(((2 * k) + 1)).toNat]!) (((b)[(((2 * i) + 1)).toNat]!)) ((((2 * k) + 1)).toNat) 0 rfl rfl rfl H32 (get_of ck39) rfl rfl rfl (one_all rfl) rfl (fun S40 H41 => ?_)
    refine lx_nil ?_
    refine hK33 _ _ ?_; try clear hK33 K33
    refine A_seq fun K42 hK42 => ?_
    refine A_regC [(some 78, false), (some 80, true), (some 81, false), (some 82, true)] (conG Try.prog []) ?_
    refine r_bs (cs0 := []) (Ls := [S40]) 5 encY ([] : List UInt8) [] [] rfl rfl rfl rfl rfl rfl rfl (by kernel_rfl) (by kernel_rfl) rfl rfl rfl (fun s43 S44 H45 => ?_)
    refine r_v (bv) rfl rfl rfl rfl ?_
    replace hM := ck_some hM; obtain ⟨ck46, hM⟩ := hM
    refine r_app (cs0 := []) (Ls := [S40, S44]) 1 (En := encY) rfl rfl rfl rfl rfl H45 rfl (rd_ro hb) rfl rfl rfl rfl rfl (app_b ck46 rfl) (app_m ck46 rfl) rfl (fun s47 S48 H49 => ?_)
    refine r_bs (cs0 := []) (Ls := [S40, S48]) 5 encY [(0 : UInt8)] [Value.int .u8 (0)] [Value.int .u8 (0)] rfl rfl rfl rfl rfl rfl rfl (by kernel_rfl) (by kernel_rfl) rfl rfl rfl (fun s50 S51 H52 => ?_)
    replace hM := ck_some hM; obtain ⟨ck53, hM⟩ := hM
    refine r_app (cs0 := []) (Ls := [S40, S48, S51]) 1 (En := encY) rfl rfl rfl rfl rfl H49 rfl (rd_own H52 (mem_chunk (Ls := [S40, S48, S51]) (k := 2) rfl rfl)) rfl rfl rfl rfl rfl (app_b ck53 rfl) (app_m ck53 rfl) rfl (fun s54 S55 H56 => ?_)
    refine r_v (s54) rfl rfl rfl rfl ?_
    refine lx_nil ?_
    refine hK42 _ _ ?_; try clear hK42 K42
    refine A_seq fun K57 hK57 => ?_
    refine A_regC [(some 84, false), (some 86, false), (some 90, false), (some 92, false)] (conG Try.prog [(84, fun v_ L_ U_ => ∀ u0_, sum_Of_m N ((((((([] : List UInt8) ++ b)).set (((2 * i)).toNat) (((b)[((2 * k)).toNat]!))).set (((2 * k)).toNat) (((b)[((2 * i)).toNat]!))).set ((((2 * i) + 1)).toNat) (((b)[(((2 * k) + 1)).toNat]!))).set ((((2 * k) + 1)).toNat) (((b)[(((2 * i) + 1)).toNat]!))) = some u0_ → (pV (Value.int .u16 (((u0_.toNat : Nat) : Int)))) v_ L_ U_), (86, fun v_ L_ U_ => ∀ u0_, sum_Of_m N b = some u0_ → (pV (Value.int .u16 (((u0_.toNat : Nat) : Int)))) v_ L_ U_), (90, fun v_ L_ U_ => ∀ u0_, sum_Of_m N ((([] : List UInt8) ++ b) ++ ([(0 : UInt8)])) = some u0_ → (pV (Value.int .u16 (((u0_.toNat : Nat) : Int)))) v_ L_ U_), (92, fun v_ L_ U_ => ∀ u0_, sum_Of_m N b = some u0_ → (pV (Value.int .u16 (((u0_.toNat : Nat) : Int)))) v_ L_ U_)]) ?_
    refine r_v (s7) rfl rfl rfl rfl ?_
    replace hM := bind_sm hM; obtain ⟨r58, hr59, hM⟩ := hM
    refine r_gv (Value.int .u16 (((r58.toNat : Nat) : Int))) 13 _ rfl rfl rfl (ev_callF rfl call_13 rfl) (fun own_ nw_ hs_ => sum_Of_g N ((((((([] : List UInt8) ++ b)).set (((2 * i)).toNat) (((b)[((2 * k)).toNat]!))).set (((2 * k)).toNat) (((b)[((2 * i)).toNat]!))).set ((((2 * i) + 1)).toNat) (((b)[(((2 * k) + 1)).toNat]!))).set ((((2 * k) + 1)).toNat) (((b)[(((2 * i) + 1)).toNat]!))) _ hr59 hs_.view s7 ((rd_own H41 (mem_chunk (Ls := [S40, S55, S51]) (k := 0) rfl rfl)) own_ nw_ hs_)) (fun _ _ v_ L_ U_ => ⟨fun h_ => h_ _ hr59, fun h_ => by intro _ e_; cases Option.some.inj (e_.symm.trans hr59); exact h_⟩) ?_
    refine r_v (bv) rfl rfl rfl rfl ?_
    replace hM := bind_sm hM; obtain ⟨r60, hr61, hM⟩ := hM
    refine r_gv (Value.int .u16 (((r60.toNat : Nat) : Int))) 13 _ rfl rfl rfl (ev_callF rfl call_13 rfl) (fun own_ nw_ hs_ => sum_Of_g N b _ hr61 hs_.view bv ((rd_ro hb) own_ nw_ hs_)) (fun _ _ v_ L_ U_ => ⟨fun h_ => h_ _ hr61, fun h_ => by intro _ e_; cases Option.some.inj (e_.symm.trans hr61); exact h_⟩) ?_
    refine r_v (Value.bool (((((r58.toNat : Nat) : Int) : Int) == ((r60.toNat : Nat) : Int)))) rfl rfl rfl rfl ?_
    refine r_v (Value.bool (((((r58.toNat : Nat) : Int) : Int) == ((r60.toNat : Nat) : Int)))) rfl rfl rfl rfl ?_
    rcases hg62 : (((((r58.toNat : Nat) : Int) : Int) == ((r60.toNat : Nat) : Int))) with _ | _
    · replace hM := ifn (ne_of_beq_false hg62) hM
      refine r_n false rfl (by decide) rfl ?_
      refine r_n false rfl (by decide) rfl ?_
      refine r_n false rfl (by decide) rfl ?_
      refine r_n false rfl (by decide) rfl ?_
      refine r_n false rfl (by decide) rfl ?_
      refine r_v (Value.bool (false)) rfl rfl rfl rfl ?_
      refine r_v (Value.bool (false)) rfl rfl rfl rfl ?_
      refine r_n false rfl (by decide) rfl ?_
      refine r_v (Value.bool (false)) rfl rfl rfl rfl ?_
      refine r_v (Value.bool (false)) rfl rfl rfl rfl ?_
      refine lx_nil ?_
      refine hK57 _ _ ?_; try clear hK57 K57
      refine A_gen [(6, Value.bool (false))] rfl (fun T => ?_)
      obtain rfl := Option.some.inj hM
      refine A_ret (fun hn => endsV (v0 := Value.bool (false)) rfl (res1 rfl))
    · replace hM := ifp (eq_of_beq hg62) hM
      refine r_y rfl ?_
      refine r_v (s54) rfl rfl rfl rfl ?_
      refine r_y rfl ?_
      replace hM := bind_sm hM; obtain ⟨r63, hr64, hM⟩ := hM
      refine r_gv (Value.int .u16 (((r63.toNat : Nat) : Int))) 13 _ rfl rfl rfl (ev_callF rfl call_13 rfl) (fun own_ nw_ hs_ => sum_Of_g N ((([] : List UInt8) ++ b) ++ ([(0 : UInt8)])) _ hr64 hs_.view s54 ((rd_own H56 (mem_chunk (Ls := [S40, S55, S51]) (k := 1) rfl rfl)) own_ nw_ hs_)) (fun _ _ v_ L_ U_ => ⟨fun h_ => h_ _ hr64, fun h_ => by intro _ e_; cases Option.some.inj (e_.symm.trans hr64); exact h_⟩) ?_
      refine r_y rfl ?_
      refine r_v (bv) rfl rfl rfl rfl ?_
      refine r_y rfl ?_
      replace hM := bind_sm hM; obtain ⟨r65, hr66, hM⟩ := hM
      refine r_gv (Value.int .u16 (((r65.toNat : Nat) : Int))) 13 _ rfl rfl rfl (ev_callF rfl call_13 rfl) (fun own_ nw_ hs_ => sum_Of_g N b _ hr66 hs_.view bv ((rd_ro hb) own_ nw_ hs_)) (fun _ _ v_ L_ U_ => ⟨fun h_ => h_ _ hr66, fun h_ => by intro _ e_; cases Option.some.inj (e_.symm.trans hr66); exact h_⟩) ?_
      refine r_y rfl ?_
      refine r_v (Value.bool (((((r63.toNat : Nat) : Int) : Int) == ((r65.toNat : Nat) : Int)))) rfl rfl rfl rfl ?_
      refine r_v (Value.bool (((((r63.toNat : Nat) : Int) : Int) == ((r65.toNat : Nat) : Int)))) rfl rfl rfl rfl ?_
      refine r_v (Value.bool (((((r63.toNat : Nat) : Int) : Int) == ((r65.toNat : Nat) : Int)))) rfl rfl rfl rfl ?_
      rcases hg67 : (((((r63.toNat : Nat) : Int) : Int) == ((r65.toNat : Nat) : Int))) with _ | _
      · replace hM := ifn (ne_of_beq_false hg67) hM
        refine r_n false rfl (by decide) rfl ?_
        refine r_v (Value.bool (false)) rfl rfl rfl rfl ?_
        refine r_v (Value.bool (false)) rfl rfl rfl rfl ?_
        refine lx_nil ?_
        refine hK57 _ _ ?_; try clear hK57 K57
        refine A_gen [(6, Value.bool (false))] rfl (fun T => ?_)
        obtain rfl := Option.some.inj hM
        refine A_ret (fun hn => endsV (v0 := Value.bool (false)) rfl (res1 rfl))
      · replace hM := ifp (eq_of_beq hg67) hM
        refine r_y rfl ?_
        replace hM := bind_sm hM; obtain ⟨r68, hr69, hM⟩ := hM
        refine r_c (Value.bool (r68)) rfl _ _ (ev_callF rfl call_8 rfl) (shunterlaw04_lives_g N  _ hr69) ?_
        refine r_v (Value.bool (r68)) rfl rfl rfl rfl ?_
        refine r_v (Value.bool (r68)) rfl rfl rfl rfl ?_
        refine lx_nil ?_
        refine hK57 _ _ ?_; try clear hK57 K57
        refine A_gen [(6, Value.bool (r68))] rfl (fun T => ?_)
        obtain rfl := Option.some.inj hM
        refine A_ret (fun hn => endsV (v0 := Value.bool (r68)) rfl (res1 rfl))
end Go.Proofs.Ytolfjcihohjknaa
