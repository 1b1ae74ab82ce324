/- models of functions and their walks -/
import Derived.Test.YtdgejbbelmhbdaaIt
import Derived.Test.YtdgejbbelmhbdaaYt
import Derived.Test.YtdgejbbelmhbdaaAs
import Derived.Test.YtdgejbbelmhbdaaBu
import Derived.Test.YtdgejbbelmhbdaaMove
import Derived.Test.YtdgejbbelmhbdaaRef
namespace Go.Proofs.Ytdgejbbelmhbdaa
open Go Go.RowKit Go.Eng
def enc_30 : Enc (Int × BitVec 128) := ⟨fun x => [Value.int .i64 (x.1), U (hi (x.2)), U (lo (x.2))], 3, by decide, fun _ => rfl, fun x v h => by simp only [List.mem_cons, List.not_mem_nil, or_false] at h; rcases h with rfl | rfl | rfl <;> rfl, True⟩
def encr_34 : EncR (Int × Int × Int × Int × Int × (BitVec 128) × (List UInt8) × (List (Int × BitVec 128)) × (List Int)) := ⟨fun c x vs => ∃ (s0 : Value) (s1 : Value), Rd enc_30 c s0 x.2.2.2.2.2.2.2.1 ∧ Rd encI c s1 x.2.2.2.2.2.2.2.2 ∧ vs = [Value.int .i64 (x.1), Value.int .i64 (x.2.1), Value.int .i64 (x.2.2.1), Value.int .i64 (x.2.2.2.1), Value.int .i64 (x.2.2.2.2.1), U (hi (x.2.2.2.2.2.1)), U (lo (x.2.2.2.2.2.1)), Value.string (⟨(x.2.2.2.2.2.2.1).toArray⟩), s0, s1], 10, by decide, fun hc ⟨s0, s1, h0, h1, hv⟩ => ⟨s0, s1, h0.mono hc, h1.mono hc, hv⟩⟩
def shunterlaw07_light_l2 (ops : List (Int × Int × Int × Int × Int × (BitVec 128) × (List UInt8) × (List (Int × BitVec 128)) × (List Int))) : Nat → Int → Option (Bool)
  | 0, _ => none
  | n8 + 1, i1_ => if (i1_ : Int) < ((ops).length : Int) then ck (0 ≤ i1_ ∧ i1_ < ((ops).length : Int)) (if ((((ops)[(i1_).toNat]!.2.2.2.2.2.2.2.1).length : Int) : Int) > 300 then some (false) else ck (0 ≤ i1_ ∧ i1_ < ((ops).length : Int)) (if ((((ops)[(i1_).toNat]!.2.2.2.2.2.2.2.2).length : Int) : Int) > 300 then some (false) else ck (0 ≤ i1_ ∧ i1_ < ((ops).length : Int)) (if ((((ops)[(i1_).toNat]!.2.2.2.2.2.2.1).length : Int) : Int) > 600 then some (false) else ck ((-9223372036854775808 ≤ (i1_ + 1) ∧ (i1_ + 1) ≤ 9223372036854775807)) ((shunterlaw07_light_l2 ops n8) ((i1_ + 1)))))) else some (true)
def shunterlaw07_light_m (N : Nat) (ops : List (Int × Int × Int × Int × Int × (BitVec 128) × (List UInt8) × (List (Int × BitVec 128)) × (List Int))) : Option (Bool) := if (((ops).length : Int) : Int) > 30 then some (false) else shunterlaw07_light_l2 ops N (0)
set_option maxRecDepth 100000 in
set_option maxHeartbeats 8000000 in
theorem shunterlaw07_light_g (N : Nat) (ops : List (Int × Int × Int × Int × Int × (BitVec 128) × (List UInt8) × (List (Int × BitVec 128)) × (List Int))) (r : Bool) (hM : shunterlaw07_light_m N ops = some r) (ro : Addr → Option Value) (opsv : Value) (hops : RdN encr_34 ro opsv ops) : Does Try.prog 6 #[opsv] ro [] (pV (Value.bool (r))) := by
  unfold shunterlaw07_light_m at hM
  refine does_of_A follows Try.func6 rfl 38 rfl (upd (fun _ => undef) 0 (opsv)) (by funext k; match k with | 0 => rfl | k + 1 => rfl) (fun base0_ => ?_)
  refine A_seq fun K1 hK1 => ?_
  refine A_reg ?_
  refine r_v (Value.bool (false)) rfl rfl rfl rfl ?_
  refine lx_nil ?_
  refine hK1 _ _ ?_; try clear hK1 K1
  refine A_seq fun K2 hK2 => ?_
  refine A_seq fun K3 hK3 => ?_
  refine A_reg ?_
  refine r_v (opsv) rfl rfl rfl rfl ?_
  refine r_v (Value.int .i64 (((ops).length : Int))) rfl rfl rfl (ev_lenSl rfl rfl rfl (RdN.shp hops)) ?_
  refine r_v (Value.bool (decide ((((ops).length : Int) : Int) > 30))) rfl rfl rfl rfl ?_
  refine lx_nil ?_
  refine hK3 _ _ ?_; try clear hK3 K3
  refine A_cond (decide ((((ops).length : Int) : Int) > 30)) rfl (fun hc4 => ?_) (fun hc4 => ?_)
  · replace hM := ifp (of_decide_eq_true hc4) hM
    refine A_seq fun K5 hK5 => ?_
    refine A_reg ?_
    refine r_v (Value.bool (false)) rfl rfl rfl rfl ?_
    refine lx_nil ?_
    refine hK5 _ _ ?_; try clear hK5 K5
    obtain rfl := Option.some.inj hM
    refine A_ret (fun hn => endsV (v0 := Value.bool (false)) rfl (res1 rfl))
  · replace hM := ifn (of_decide_eq_false hc4) hM
    refine A_skip ?_
    refine hK2 _ _ ?_; try clear hK2 K2
    refine A_seq fun K6 hK6 => ?_
    refine A_seq fun K7 hK7 => ?_
    refine A_reg ?_
    refine r_v (Value.int .i64 (0)) rfl rfl rfl rfl ?_
    refine lx_nil ?_
    refine hK7 _ _ ?_; try clear hK7 K7
    refine A_block ?_
    refine A_loop (fun tt ll nn => ∃ (n8 : Nat) (i1_ : Int), (shunterlaw07_light_l2 ops n8 i1_ = some r) ∧ Is [(0, opsv), (3, Value.int .i64 (i1_))] [] tt ll ∧ nn = n8 + 1) (N + 1) ?_ ?_
    · exact ⟨N, 0, hM, is_mk rfl rfl, rfl⟩
    · clear hM; rintro t l _ ⟨n8, i1_, hM, ⟨⟨T, rfl⟩, rfl⟩, rfl⟩
      rcases n8 with _ | n8
      · exact absurd hM (by simp [shunterlaw07_light_l2])
      rw [shunterlaw07_light_l2] at hM
      refine A_seq fun K9 hK9 => ?_
      refine A_seq fun K10 hK10 => ?_
      refine A_reg ?_
      refine r_v (Value.int .i64 (i1_)) rfl rfl rfl rfl ?_
      refine r_v (opsv) rfl rfl rfl rfl ?_
      refine r_v (Value.int .i64 (((ops).length : Int))) rfl rfl rfl (ev_lenSl rfl rfl rfl (RdN.shp hops)) ?_
      refine r_v (Value.bool (decide ((i1_ : Int) < ((ops).length : Int)))) rfl rfl rfl rfl ?_
      refine lx_nil ?_
      refine hK10 _ _ ?_; try clear hK10 K10
      refine A_cond (decide ((i1_ : Int) < ((ops).length : Int))) rfl (fun hc11 => ?_) (fun hc11 => ?_)
      · replace hM := ifp (of_decide_eq_true hc11) hM
        refine A_skip ?_
        refine hK9 _ _ ?_; try clear hK9 K9
        refine A_seq fun K12 hK12 => ?_
        refine A_block ?_
        refine A_seq fun K13 hK13 => ?_
        refine A_reg ?_
        refine r_v (opsv) rfl rfl rfl rfl ?_
        refine r_v (Value.int .i64 (i1_)) rfl rfl rfl rfl ?_
        replace hM := ck_some hM; obtain ⟨ck14, hM⟩ := hM
        obtain ⟨_, ⟨s15, s16, hs17, hs18, rfl⟩, hat19⟩ := RdN.at (E := encr_34) hops (get_of ck14)
        refine r_v (elA opsv ((i1_).toNat * 10)) rfl rfl rfl (ev_v (ev_idxSl rfl rfl rfl (RdN.shp hops) ck14)) ?_
        refine r_v (elA opsv ((i1_).toNat * 10 + 8)) rfl rfl rfl (ev_v (ev_fieldX rfl rfl rfl rfl rfl rfl (RdN.shp hops) (pos_of ck14))) ?_
        refine r_at (s15) (vs := [Value.int .i64 ((ops)[(i1_).toNat]!.1), Value.int .i64 ((ops)[(i1_).toNat]!.2.1), Value.int .i64 ((ops)[(i1_).toNat]!.2.2.1), Value.int .i64 ((ops)[(i1_).toNat]!.2.2.2.1), Value.int .i64 ((ops)[(i1_).toNat]!.2.2.2.2.1), U (hi ((ops)[(i1_).toNat]!.2.2.2.2.2.1)), U (lo ((ops)[(i1_).toNat]!.2.2.2.2.2.1)), Value.string (⟨((ops)[(i1_).toNat]!.2.2.2.2.2.2.1).toArray⟩), s15, s16]) ((i1_).toNat * 10) 8 rfl rfl (fun own_ nw_ hs_ => At.mono hs_.ro_cell hat19) rfl ?_
        refine r_v (Value.int .i64 ((((ops)[(i1_).toNat]!.2.2.2.2.2.2.2.1).length : Int))) rfl rfl rfl (ev_lenSl rfl rfl rfl (Rd.shp hs17)) ?_
        refine r_v (Value.bool (decide (((((ops)[(i1_).toNat]!.2.2.2.2.2.2.2.1).length : Int) : Int) > 300))) rfl rfl rfl rfl ?_
        refine r_v (Value.bool (decide (((((ops)[(i1_).toNat]!.2.2.2.2.2.2.2.1).length : Int) : Int) > 300))) rfl rfl rfl rfl ?_
        rcases hg20 : (decide (((((ops)[(i1_).toNat]!.2.2.2.2.2.2.2.1).length : Int) : Int) > 300)) with _ | _
        · replace hM := ifn (of_decide_eq_false hg20) hM
          refine r_y rfl ?_
          refine r_v (opsv) rfl rfl rfl rfl ?_
          refine r_y rfl ?_
          refine r_v (Value.int .i64 (i1_)) rfl rfl rfl rfl ?_
          refine r_y rfl ?_
          replace hM := ck_some hM; obtain ⟨ck21, hM⟩ := hM
          obtain ⟨_, ⟨s22, s23, hs24, hs25, rfl⟩, hat26⟩ := RdN.at (E := encr_34) hops (get_of ck21)
          refine r_v (elA opsv ((i1_).toNat * 10)) rfl rfl rfl (ev_v (ev_idxSl rfl rfl rfl (RdN.shp hops) ck21)) ?_
          refine r_y rfl ?_
          refine r_v (elA opsv ((i1_).toNat * 10 + 9)) rfl rfl rfl (ev_v (ev_fieldX rfl rfl rfl rfl rfl rfl (RdN.shp hops) (pos_of ck21))) ?_
          refine r_y rfl ?_
          refine r_at (s23) (vs := [Value.int .i64 ((ops)[(i1_).toNat]!.1), Value.int .i64 ((ops)[(i1_).toNat]!.2.1), Value.int .i64 ((ops)[(i1_).toNat]!.2.2.1), Value.int .i64 ((ops)[(i1_).toNat]!.2.2.2.1), Value.int .i64 ((ops)[(i1_).toNat]!.2.2.2.2.1), U (hi ((ops)[(i1_).toNat]!.2.2.2.2.2.1)), U (lo ((ops)[(i1_).toNat]!.2.2.2.2.2.1)), Value.string (⟨((ops)[(i1_).toNat]!.2.2.2.2.2.2.1).toArray⟩), s22, s23]) ((i1_).toNat * 10) 9 rfl rfl (fun own_ nw_ hs_ => At.mono hs_.ro_cell hat26) rfl ?_
          refine r_y rfl ?_
          refine r_v (Value.int .i64 ((((ops)[(i1_).toNat]!.2.2.2.2.2.2.2.2).length : Int))) rfl rfl rfl (ev_lenSl rfl rfl rfl (Rd.shp hs25)) ?_
          refine r_y rfl ?_
          refine r_v (Value.bool (decide (((((ops)[(i1_).toNat]!.2.2.2.2.2.2.2.2).length : Int) : Int) > 300))) rfl rfl rfl rfl ?_
          refine r_v (Value.bool (decide (((((ops)[(i1_).toNat]!.2.2.2.2.2.2.2.2).length : Int) : Int) > 300))) rfl rfl rfl rfl ?_
          refine r_v (Value.bool (decide (((((ops)[(i1_).toNat]!.2.2.2.2.2.2.2.2).length : Int) : Int) > 300))) rfl rfl rfl rfl ?_
          rcases hg27 : (decide (((((ops)[(i1_).toNat]!.2.2.2.2.2.2.2.2).length : Int) : Int) > 300)) with _ | _
          · replace hM := ifn (of_decide_eq_false hg27) hM
            refine r_y rfl ?_
            refine r_v (opsv) rfl rfl rfl rfl ?_
            refine r_y rfl ?_
            refine r_v (Value.int .i64 (i1_)) rfl rfl rfl rfl ?_
            refine r_y rfl ?_
            replace hM := ck_some hM; obtain ⟨ck28, hM⟩ := hM
            obtain ⟨_, ⟨s29, s30, hs31, hs32, rfl⟩, hat33⟩ := RdN.at (E := encr_34) hops (get_of ck28)
            refine r_v (elA opsv ((i1_).toNat * 10)) rfl rfl rfl (ev_v (ev_idxSl rfl rfl rfl (RdN.shp hops) ck28)) ?_
            refine r_y rfl ?_
            refine r_v (elA opsv ((i1_).toNat * 10 + 7)) rfl rfl rfl (ev_v (ev_fieldX rfl rfl rfl rfl rfl rfl (RdN.shp hops) (pos_of ck28))) ?_
            refine r_y rfl ?_
            refine r_at (Value.string (⟨((ops)[(i1_).toNat]!.2.2.2.2.2.2.1).toArray⟩)) (vs := [Value.int .i64 ((ops)[(i1_).toNat]!.1), Value.int .i64 ((ops)[(i1_).toNat]!.2.1), Value.int .i64 ((ops)[(i1_).toNat]!.2.2.1), Value.int .i64 ((ops)[(i1_).toNat]!.2.2.2.1), Value.int .i64 ((ops)[(i1_).toNat]!.2.2.2.2.1), U (hi ((ops)[(i1_).toNat]!.2.2.2.2.2.1)), U (lo ((ops)[(i1_).toNat]!.2.2.2.2.2.1)), Value.string (⟨((ops)[(i1_).toNat]!.2.2.2.2.2.2.1).toArray⟩), s29, s30]) ((i1_).toNat * 10) 7 rfl rfl (fun own_ nw_ hs_ => At.mono hs_.ro_cell hat33) rfl ?_
            refine r_y rfl ?_
            refine r_v (Value.int .i64 ((((ops)[(i1_).toNat]!.2.2.2.2.2.2.1).length : Int))) rfl rfl rfl (ev_lenS rfl rfl rfl) ?_
            refine r_y rfl ?_
            refine r_v (Value.bool (decide (((((ops)[(i1_).toNat]!.2.2.2.2.2.2.1).length : Int) : Int) > 600))) rfl rfl rfl rfl ?_
            refine r_v (Value.bool (decide (((((ops)[(i1_).toNat]!.2.2.2.2.2.2.1).length : Int) : Int) > 600))) rfl rfl rfl rfl ?_
            refine lx_nil ?_
            refine hK13 _ _ ?_; try clear hK13 K13
            refine A_gen [(0, opsv), (3, Value.int .i64 (i1_)), (37, Value.bool (decide (((((ops)[(i1_).toNat]!.2.2.2.2.2.2.1).length : Int) : Int) > 600)))] rfl (fun T => ?_)
            refine A_cond (decide (((((ops)[(i1_).toNat]!.2.2.2.2.2.2.1).length : Int) : Int) > 600)) rfl (fun hc34 => ?_) (fun hc34 => ?_)
            · replace hM := ifp (of_decide_eq_true hc34) hM
              refine A_seq fun K35 hK35 => ?_
              refine A_reg ?_
              refine r_v (Value.bool (false)) rfl rfl rfl rfl ?_
              refine lx_nil ?_
              refine hK35 _ _ ?_; try clear hK35 K35
              obtain rfl := Option.some.inj hM
              refine A_ret (fun hn => endsV (v0 := Value.bool (false)) rfl (res1 rfl))
            · replace hM := ifn (of_decide_eq_false hc34) hM
              refine A_skip ?_
              refine hK12 _ _ ?_; try clear hK12 K12
              refine A_reg ?_
              refine r_v (Value.int .i64 (i1_)) rfl rfl rfl rfl ?_
              replace hM := ck_some hM; obtain ⟨ck36, hM⟩ := hM
              refine r_v (Value.int .i64 ((i1_ + 1))) rfl rfl (wi64 rfl ck36.1 ck36.2) rfl ?_
              refine r_v (Value.int .i64 ((i1_ + 1))) rfl rfl rfl rfl ?_
              refine lx_nil ?_
              refine fg _ (Sub.of (List.Sublist.slnil)) ?_
              exact ⟨n8 + 1, by omega, n8, (i1_ + 1), hM, is_mk (by first | rfl | (simp only [hg20, hg27]; done) | (simp only [hg20, hg27]; rfl) | (simp only [app_hl]; rfl)) rfl, rfl⟩
          · replace hM := ifp (of_decide_eq_true hg27) hM
            refine r_n true rfl (by decide) rfl ?_
            refine r_n true rfl (by decide) rfl ?_
            refine r_n true rfl (by decide) rfl ?_
            refine r_n true rfl (by decide) rfl ?_
            refine r_n true rfl (by decide) rfl ?_
            refine r_n true rfl (by decide) rfl ?_
            refine r_n true rfl (by decide) rfl ?_
            refine r_v (Value.bool (true)) rfl rfl rfl rfl ?_
            refine lx_nil ?_
            refine hK13 _ _ ?_; try clear hK13 K13
            refine A_gen [(0, opsv), (3, Value.int .i64 (i1_)), (37, Value.bool (true))] rfl (fun T => ?_)
            refine A_cond true rfl (fun _ => ?_) (fun h_ => nomatch h_)
            refine A_seq fun K37 hK37 => ?_
            refine A_reg ?_
            refine r_v (Value.bool (false)) rfl rfl rfl rfl ?_
            refine lx_nil ?_
            refine hK37 _ _ ?_; try clear hK37 K37
            obtain rfl := Option.some.inj hM
            refine A_ret (fun hn => endsV (v0 := Value.bool (false)) rfl (res1 rfl))
        · replace hM := ifp (of_decide_eq_true hg20) hM
          refine r_n true rfl (by decide) rfl ?_
          refine r_n true rfl (by decide) rfl ?_
          refine r_n true rfl (by decide) rfl ?_
          refine r_n true rfl (by decide) rfl ?_
          refine r_n true rfl (by decide) rfl ?_
          refine r_n true rfl (by decide) rfl ?_
          refine r_n true rfl (by decide) rfl ?_
          refine r_v (Value.bool (true)) rfl rfl rfl rfl ?_
          refine r_v (Value.bool (true)) rfl rfl rfl rfl ?_
          refine r_n true rfl (by decide) rfl ?_
          refine r_n true rfl (by decide) rfl ?_
          refine r_n true rfl (by decide) rfl ?_
          refine r_n true rfl (by decide) rfl ?_
          refine r_n true rfl (by decide) rfl ?_
          refine r_n true rfl (by decide) rfl ?_
          refine r_n true rfl (by decide) rfl ?_
          refine r_v (Value.bool (true)) rfl rfl rfl rfl ?_
          refine lx_nil ?_
          refine hK13 _ _ ?_; try clear hK13 K13
          refine A_gen [(0, opsv), (3, Value.int .i64 (i1_)), (37, Value.bool (true))] rfl (fun T => ?_)
          refine A_cond true rfl (fun _ => ?_) (fun h_ => nomatch h_)
          refine A_seq fun K38 hK38 => ?_
          refine A_reg ?_
          refine r_v (Value.bool (false)) rfl rfl rfl rfl ?_
          refine lx_nil ?_
          refine hK38 _ _ ?_; try clear hK38 K38
          obtain rfl := Option.some.inj hM
          refine A_ret (fun hn => endsV (v0 := Value.bool (false)) rfl (res1 rfl))
      · replace hM := ifn (of_decide_eq_false hc11) hM
        refine A_exit ?_
        refine hK6 _ _ ?_; try clear hK6 K6
        refine A_seq fun K39 hK39 => ?_
        refine A_reg ?_
        refine r_v (Value.bool (true)) rfl rfl rfl rfl ?_
        refine lx_nil ?_
        refine hK39 _ _ ?_; try clear hK39 K39
        obtain rfl := Option.some.inj hM
        refine A_ret (fun hn => endsV (v0 := Value.bool (true)) rfl (res1 rfl))
def slices_Clone___byte_byte__m (_ : Nat) (s : List UInt8) : Option (List UInt8) := ck ((([] : List UInt8)).length + (s).length ≤ 140737488355328) (some ((([] : List UInt8) ++ s)))
set_option maxRecDepth 100000 in
set_option maxHeartbeats 8000000 in
theorem slices_Clone___byte_byte__g (N : Nat) (s : List UInt8) (r : List UInt8) (hM : slices_Clone___byte_byte__m N s = some r) (ro : Addr → Option Value) (sv : Value) (hs : Rd encY ro sv s) : Does Try.prog 34 #[sv] ro [] (p1 (fun s_ => s_) 5 encY r) := by
  unfold slices_Clone___byte_byte__m at hM
  refine does_of_A follows Try.func34 rfl 8 rfl (upd (fun _ => undef) 0 (sv)) (by funext k; match k with | 0 => rfl | k + 1 => rfl) (fun base0_ => ?_)
  refine A_seq fun K1 hK1 => ?_
  refine A_reg ?_
  refine r_v (Value.slice none 0 0) rfl rfl rfl rfl ?_
  refine lx_nil ?_
  refine hK1 _ _ ?_; try clear hK1 K1
  refine A_seq fun K2 hK2 => ?_
  refine A_seq fun K3 hK3 => ?_
  refine A_reg ?_
  refine r_v (sv) rfl rfl rfl rfl ?_
  rcases nilS_or (Rd.shp hs) with ⟨hz4, hl5⟩ | hne6
  · obtain rfl := hz4; obtain rfl := List.eq_nil_of_length_eq_zero hl5
    replace hM : (some ([])) = some r := (by first | exact hM | (simp at hM ⊢; exact hM))
    refine r_v (.bool true) rfl rfl rfl rfl ?_
    refine lx_nil ?_
    refine hK3 _ _ ?_; try clear hK3 K3
    refine A_cond true rfl (fun _ => ?_) (fun h_ => nomatch h_)
    refine A_seq fun K15 hK15 => ?_
    refine A_reg ?_
    refine r_v (Value.slice none 0 0) rfl rfl rfl rfl ?_
    refine lx_nil ?_
    refine hK15 _ _ ?_; try clear hK15 K15
    obtain rfl := Option.some.inj hM
    refine A_ret (fun hn => ends1 (v0 := Value.slice none 0 0) Sl.nil (Sub.nil _) rfl (res1 rfl))
  · refine r_v (.bool false) rfl rfl rfl (ev_eqlNil rfl rfl rfl (Rd.shp hs) hne6) ?_
    refine lx_nil ?_
    refine hK3 _ _ ?_; try clear hK3 K3
    refine A_cond false rfl (fun h_ => nomatch h_) (fun _ => ?_)
    refine A_skip ?_
    refine hK2 _ _ ?_; try clear hK2 K2
    refine A_seq fun K7 hK7 => ?_
    refine A_regC [(some 5, false), (some 7, true)] (conG Try.prog []) ?_
    refine r_bs (cs0 := []) (Ls := []) 5 encY ([] : List UInt8) [] [] rfl rfl rfl rfl rfl rfl rfl (by kernel_rfl) (by kernel_rfl) rfl rfl rfl (fun s8 S9 H10 => ?_)
    refine r_v (sv) rfl rfl rfl rfl ?_
    replace hM := ck_some hM; obtain ⟨ck11, hM⟩ := hM
    refine r_app (cs0 := []) (Ls := [S9]) 0 (En := encY) rfl rfl rfl rfl rfl H10 rfl (rd_ro hs) rfl rfl rfl rfl rfl (app_b ck11 rfl) (app_m ck11 rfl) rfl (fun s12 S13 H14 => ?_)
    refine r_v (s12) rfl rfl rfl rfl ?_
    refine lx_nil ?_
    refine hK7 _ _ ?_; try clear hK7 K7
    obtain rfl := Option.some.inj hM
    refine A_ret (fun hn => ends1 (v0 := s12) H14 (sub_one (Sub.pick [S13] [0] rfl)) rfl (res1 rfl))
def vec_mayWidth_m (_ : Nat) (w : Int) : Option (Bool) := if (w : Int) ≥ 1 then some (decide ((w : Int) ≤ 128)) else some (false)
set_option maxRecDepth 100000 in
set_option maxHeartbeats 8000000 in
theorem vec_mayWidth_g (N : Nat) (w : Int) (r : Bool) (hM : vec_mayWidth_m N w = some r) : Gives Try.prog 81 #[Value.int .i64 (w)] (Value.bool (r)) := by
  unfold vec_mayWidth_m at hM
  refine gives_of_A follows Try.func81 rfl 9 rfl (upd (fun _ => undef) 0 (Value.int .i64 (w))) (by funext k; match k with | 0 => rfl | k + 1 => rfl) (fun base0_ => ?_)
  refine A_seq fun K1 hK1 => ?_
  refine A_reg ?_
  refine r_v (Value.bool (false)) rfl rfl rfl rfl ?_
  refine lx_nil ?_
  refine hK1 _ _ ?_; try clear hK1 K1
  refine A_seq fun K2 hK2 => ?_
  refine A_reg ?_
  refine r_v (Value.int .i64 (w)) rfl rfl rfl rfl ?_
  refine r_v (Value.bool (decide ((w : Int) ≥ 1))) rfl rfl rfl rfl ?_
  refine r_v (Value.bool (decide ((w : Int) ≥ 1))) rfl rfl rfl rfl ?_
  rcases hg3 : (decide ((w : Int) ≥ 1)) with _ | _
  · replace hM := ifn (of_decide_eq_false hg3) hM
    refine r_n false rfl (by decide) rfl ?_
    refine r_n false rfl (by decide) rfl ?_
    refine r_v (Value.bool (false)) rfl rfl rfl rfl ?_
    refine r_v (Value.bool (false)) rfl rfl rfl rfl ?_
    refine lx_nil ?_
    refine hK2 _ _ ?_; try clear hK2 K2
    obtain rfl := Option.some.inj hM
    refine A_ret (fun hn => ends_eq (v0 := Value.bool (false)) rfl (res1 rfl))
  · replace hM := ifp (of_decide_eq_true hg3) hM
    refine r_y rfl ?_
    refine r_v (Value.int .i64 (w)) rfl rfl rfl rfl ?_
    refine r_y rfl ?_
    refine r_v (Value.bool (decide ((w : Int) ≤ 128))) rfl rfl rfl rfl ?_
    refine r_v (Value.bool (decide ((w : Int) ≤ 128))) rfl rfl rfl rfl ?_
    refine r_v (Value.bool (decide ((w : Int) ≤ 128))) rfl rfl rfl rfl ?_
    refine lx_nil ?_
    refine hK2 _ _ ?_; try clear hK2 K2
    obtain rfl := Option.some.inj hM
    refine A_ret (fun hn => ends_eq (v0 := Value.bool (decide ((w : Int) ≤ 128))) rfl (res1 rfl))
def vec_Word_m (_ : Nat) (_ : Int) (v_1 : BitVec 128) : Option (BitVec 128) := some (v_1)
set_option maxRecDepth 100000 in
set_option maxHeartbeats 8000000 in
theorem vec_Word_g (N : Nat) (v_0 : Int) (v_1 : BitVec 128) (r : BitVec 128) (hM : vec_Word_m N v_0 v_1 = some r) : Gives Try.prog 76 #[Value.agg #[Value.int .i64 (v_0), U (hi (v_1)), U (lo (v_1))]] (Value.agg #[U (hi (r)), U (lo (r))]) := by
  unfold vec_Word_m at hM
  refine gives_of_A follows Try.func76 rfl 8 rfl (upd (fun _ => undef) 0 (Value.agg #[Value.int .i64 (v_0), U (hi (v_1)), U (lo (v_1))])) (by funext k; match k with | 0 => rfl | k + 1 => rfl) (fun base0_ => ?_)
  refine A_seq fun K1 hK1 => ?_
  refine A_reg ?_
  refine r_a (30, #[Value.int .i64 (v_0), U (hi (v_1)), U (lo (v_1))]) rfl rfl rfl (fun b2 => ?_) (.inr rfl)
  refine r_a (111, #[U (0#64), U (0#64)]) rfl rfl rfl (fun b3 => ?_) (.inr rfl)
  refine lx_nil ?_
  refine hK1 _ _ ?_; try clear hK1 K1
  refine A_seq fun K4 hK4 => ?_
  refine A_reg ?_
  refine r_v (Value.pointer (some ⟨b2, 1, none⟩)) rfl rfl rfl rfl ?_
  refine r_l (U (hi (v_1))) 1 _ _ _ _ rfl rfl rfl rfl rfl ?_
  refine r_v (Value.pointer (some ⟨b2, 2, none⟩)) rfl rfl rfl rfl ?_
  refine r_l (U (lo (v_1))) 1 _ _ _ _ rfl rfl rfl rfl rfl ?_
  refine r_v (Value.agg #[U (hi (v_1)), U (lo (v_1))]) rfl rfl rfl (ev_buildS rfl rfl rfl rfl) ?_
  refine r_s [(b3, 111, #[U (hi (v_1)), U (lo (v_1))]), (b2, 30, #[Value.int .i64 (v_0), U (hi (v_1)), U (lo (v_1))])] 0 _ _ _ (#[U (0#64), U (0#64)]) (#[U (hi (v_1)), U (lo (v_1))]) (#[U (hi (v_1)), U (lo (v_1))]) rfl rfl rfl rfl (.of rfl rfl) rfl rfl ?_
  refine lx_nil ?_
  refine hK4 _ _ ?_; try clear hK4 K4
  obtain rfl := Option.some.inj hM
  refine A_ret (fun hn => ends_eq (v0 := Value.agg #[U (hi (v_1)), U (lo (v_1))]) rfl (res1 (res_cell hn 0 rfl rfl rfl)))
def vec_May_m (N : Nat) (v_0 : Int) (v_1 : BitVec 128) : Option (Bool) := (vec_mayWidth_m N v_0).bind fun r4 => if (r4) = true then (vec_Word_m N v_0 v_1).bind fun r7 => some (decide ((((len128 (r7) : Nat) : Int) : Int) ≤ v_0)) else some (false)
set_option maxRecDepth 100000 in
set_option maxHeartbeats 8000000 in
theorem vec_May_g (N : Nat) (v_0 : Int) (v_1 : BitVec 128) (r : Bool) (hM : vec_May_m N v_0 v_1 = some r) : Gives Try.prog 74 #[Value.agg #[Value.int .i64 (v_0), U (hi (v_1)), U (lo (v_1))]] (Value.bool (r)) := by
  unfold vec_May_m at hM
  refine gives_of_A follows Try.func74 rfl 14 rfl (upd (fun _ => undef) 0 (Value.agg #[Value.int .i64 (v_0), U (hi (v_1)), U (lo (v_1))])) (by funext k; match k with | 0 => rfl | k + 1 => rfl) (fun base0_ => ?_)
  refine A_seq fun K1 hK1 => ?_
  refine A_reg ?_
  refine r_a (30, #[Value.int .i64 (v_0), U (hi (v_1)), U (lo (v_1))]) rfl rfl rfl (fun b2 => ?_) (.inr rfl)
  refine r_v (Value.bool (false)) rfl rfl rfl rfl ?_
  refine lx_nil ?_
  refine hK1 _ _ ?_; try clear hK1 K1
  refine A_seq fun K3 hK3 => ?_
  refine A_draw [] (by decide +kernel) (fun hn => sep_nil) ?_
  refine r_v (Value.pointer (some ⟨b2, 0, none⟩)) rfl rfl rfl rfl ?_
  refine r_l (Value.int .i64 (v_0)) 0 _ _ _ _ rfl rfl rfl rfl rfl ?_
  replace hM := bind_sm hM; obtain ⟨r4, hr5, hM⟩ := hM
  refine r_c (Value.bool (r4)) rfl _ _ (ev_callF rfl call_81 rfl) (vec_mayWidth_g N v_0 _ hr5) ?_
  refine r_v (Value.bool (r4)) rfl rfl rfl rfl ?_
  rcases hg6 : (r4) with _ | _
  · replace hM := ifn (Bool.eq_false_iff.1 hg6) hM
    refine r_n false rfl (by decide) rfl ?_
    refine r_n false rfl (by decide) rfl ?_
    refine r_n false rfl (by decide) rfl ?_
    refine r_n false rfl (by decide) rfl ?_
    refine r_n false rfl (by decide) rfl ?_
    refine r_n false rfl (by decide) rfl ?_
    refine r_v (Value.bool (false)) rfl rfl rfl rfl ?_
    refine r_v (Value.bool (false)) rfl rfl rfl rfl ?_
    refine lx_nil ?_
    refine hK3 _ _ ?_; try clear hK3 K3
    obtain rfl := Option.some.inj hM
    refine A_ret (fun hn => ends_eq (v0 := Value.bool (false)) rfl (res1 rfl))
  · replace hM := ifp hg6 hM
    refine r_y rfl ?_
    refine r_l (Value.agg #[Value.int .i64 (v_0), U (hi (v_1)), U (lo (v_1))]) 0 _ _ _ _ rfl rfl rfl rfl rfl ?_
    refine r_y rfl ?_
    replace hM := bind_sm hM; obtain ⟨r7, hr8, hM⟩ := hM
    refine r_c (Value.agg #[U (hi (r7)), U (lo (r7))]) rfl _ _ (ev_callF rfl call_76 rfl) (vec_Word_g N v_0 v_1 _ hr8) ?_
    refine r_y rfl ?_
    refine r_c (Value.int .i64 (((len128 (r7) : Nat) : Int))) rfl _ _ (ev_callF rfl call_83 rfl) (len_g (r7)) ?_
    refine r_y rfl ?_
    refine r_v (Value.pointer (some ⟨b2, 0, none⟩)) rfl rfl rfl rfl ?_
    refine r_y rfl ?_
    refine r_l (Value.int .i64 (v_0)) 0 _ _ _ _ rfl rfl rfl rfl rfl ?_
    refine r_y rfl ?_
    refine r_v (Value.bool (decide ((((len128 (r7) : Nat) : Int) : Int) ≤ v_0))) rfl rfl rfl rfl ?_
    refine r_v (Value.bool (decide ((((len128 (r7) : Nat) : Int) : Int) ≤ v_0))) rfl rfl rfl rfl ?_
    refine r_v (Value.bool (decide ((((len128 (r7) : Nat) : Int) : Int) ≤ v_0))) rfl rfl rfl rfl ?_
    refine lx_nil ?_
    refine hK3 _ _ ?_; try clear hK3 K3
    obtain rfl := Option.some.inj hM
    refine A_ret (fun hn => ends_eq (v0 := Value.bool (decide ((((len128 (r7) : Nat) : Int) : Int) ≤ v_0))) rfl (res1 rfl))
def wire_lowest_v1_l3 (x : BitVec 128) (count : Int) : Nat → List UInt8 → Int → Option (List UInt8)
  | 0, _, _ => none
  | n5 + 1, b1_, x2_ => if (x2_ : Int) < count then ck ((-9223372036854775808 ≤ (count - 1) ∧ (count - 1) ≤ 9223372036854775807)) (ck ((-9223372036854775808 ≤ ((count - 1) - x2_) ∧ ((count - 1) - x2_) ≤ 9223372036854775807)) (ck ((-9223372036854775808 ≤ (8 * ((count - 1) - x2_)) ∧ (8 * ((count - 1) - x2_)) ≤ 9223372036854775807)) (ck (-9223372036854775808 ≤ ((8 * ((count - 1) - x2_)) : Int) ∧ ((8 * ((count - 1) - x2_)) : Int) ≤ 9223372036854775807) (ck ((b1_).length + ([(byteU (lo (shiftI (x) (-((8 * ((count - 1) - x2_)))))))]).length ≤ 140737488355328) (ck ((-9223372036854775808 ≤ (x2_ + 1) ∧ (x2_ + 1) ≤ 9223372036854775807)) ((wire_lowest_v1_l3 x count n5) ((b1_ ++ ([(byteU (lo (shiftI (x) (-((8 * ((count - 1) - x2_)))))))]))) ((x2_ + 1)))))))) else some (b1_)
def wire_lowest_v1_m (N : Nat) (b : List UInt8) (x : BitVec 128) (count : Int) : Option (List UInt8) := wire_lowest_v1_l3 x count N (b) (0)
set_option maxRecDepth 100000 in
set_option maxHeartbeats 8000000 in
theorem wire_lowest_v1_g (N : Nat) (b : List UInt8) (x : BitVec 128) (count : Int) (r : List UInt8) (hM : wire_lowest_v1_m N b x count = some r) (ro : Addr → Option Value) (bv : Value) (Sb : List Bl) (hb : Sl 5 encY bv b Sb) : Does Try.prog 75 #[bv, Value.agg #[U (hi (x)), U (lo (x))], Value.int .i64 (count)] ro (List.flatten [Sb]) (pO (List.flatten [Sb]) (oS 5 encY r fun s_0 => (oE (s_0) []))) := by
  unfold wire_lowest_v1_m at hM
  refine doesO_of_A follows Try.func75 rfl 26 rfl (upd (upd (upd (fun _ => undef) 2 (Value.int .i64 (count))) 1 (Value.agg #[U (hi (x)), U (lo (x))])) 0 (bv)) (by funext k; match k with | 0 => rfl | 1 => rfl | 2 => rfl | k + 3 => rfl) (fun _ _ h_ _ => h_) (fun base0_ => ?_)
  refine A_seq fun K1 hK1 => ?_
  refine A_reg ?_
  refine r_a (111, #[U (hi (x)), U (lo (x))]) rfl rfl rfl (fun b2 => ?_) (.inr rfl)
  refine r_v (Value.slice none 0 0) rfl rfl rfl rfl ?_
  refine lx_nil ?_
  refine hK1 _ _ ?_; try clear hK1 K1
  refine A_seq fun K3 hK3 => ?_
  refine A_seq fun K4 hK4 => ?_
  refine A_reg ?_
  refine r_v (Value.int .i64 (count)) rfl rfl rfl rfl ?_
  refine r_v (Value.int .i64 (0)) rfl rfl rfl rfl ?_
  refine lx_nil ?_
  refine hK4 _ _ ?_; try clear hK4 K4
  refine A_block ?_
  refine A_forget _ (Sub.pick [[(b2, 111, #[U (hi (x)), U (lo (x))])], Sb] [0, 1] rfl) ?_
  refine A_loop (fun tt ll nn => ∃ (n5 : Nat) (b1_ : List UInt8) (x2_ : Int), (wire_lowest_v1_l3 x count n5 b1_ x2_ = some r) ∧ ∃ (vb1_ : Value) (Sb1_ : List Bl), Sl 5 encY vb1_ b1_ Sb1_ ∧ Is [(0, vb1_), (2, Value.int .i64 (count)), (4, Value.pointer (some ⟨b2, 0, none⟩)), (8, Value.int .i64 (count)), (9, Value.int .i64 (x2_))] (List.flatten [[(b2, 111, #[U (hi (x)), U (lo (x))])], Sb1_]) tt ll ∧ nn = n5 + 1) (N + 1) ?_ ?_
  · exact ⟨N, b, 0, hM, bv, Sb, hb, is_mk rfl rfl, rfl⟩
  · clear hM; rintro t l _ ⟨n5, b1_, x2_, hM, vb1_, Sb1_, hb1_, ⟨⟨T, rfl⟩, rfl⟩, rfl⟩
    rcases n5 with _ | n5
    · exact absurd hM (by simp [wire_lowest_v1_l3])
    rw [wire_lowest_v1_l3] at hM
    refine A_seq fun K6 hK6 => ?_
    refine A_reg ?_
    refine r_v (Value.bool (decide ((x2_ : Int) < count))) rfl rfl rfl rfl ?_
    refine lx_nil ?_
    refine hK6 _ _ ?_; try clear hK6 K6
    refine A_seq fun K7 hK7 => ?_
    refine A_cond (decide ((x2_ : Int) < count)) rfl (fun hc8 => ?_) (fun hc8 => ?_)
    · replace hM := ifp (of_decide_eq_true hc8) hM
      refine A_skip ?_
      refine hK7 _ _ ?_; try clear hK7 K7
      refine A_seq fun K9 hK9 => ?_
      refine A_block ?_
      refine A_seq fun K10 hK10 => ?_
      refine A_reg ?_
      refine r_v (Value.int .i64 (x2_)) rfl rfl rfl rfl ?_
      refine r_v (Value.int .i64 (x2_)) rfl rfl rfl rfl ?_
      refine lx_nil ?_
      refine hK10 _ _ ?_; try clear hK10 K10
      refine A_regC [(some 22, false), (some 23, true)] (conG Try.prog []) ?_
      refine r_v (vb1_) rfl rfl rfl rfl ?_
      refine r_l (Value.agg #[U (hi (x)), U (lo (x))]) 0 _ _ _ _ rfl rfl rfl rfl rfl ?_
      refine r_v (Value.int .i64 (count)) rfl rfl rfl rfl ?_
      replace hM := ck_some hM; obtain ⟨ck11, hM⟩ := hM
      refine r_v (Value.int .i64 ((count - 1))) rfl rfl (wi64 rfl ck11.1 ck11.2) rfl ?_
      refine r_v (Value.int .i64 (x2_)) rfl rfl rfl rfl ?_
      replace hM := ck_some hM; obtain ⟨ck12, hM⟩ := hM
      refine r_v (Value.int .i64 (((count - 1) - x2_))) rfl rfl (wi64 rfl ck12.1 ck12.2) rfl ?_
      replace hM := ck_some hM; obtain ⟨ck13, hM⟩ := hM
      refine r_v (Value.int .i64 ((8 * ((count - 1) - x2_)))) rfl rfl (wi64 rfl ck13.1 ck13.2) rfl ?_
      replace hM := ck_some hM; obtain ⟨ck14, hM⟩ := hM
      refine r_c (Value.agg #[U (hi (shiftI (x) (-((8 * ((count - 1) - x2_)))))), U (lo (shiftI (x) (-((8 * ((count - 1) - x2_))))))]) rfl _ _ (ev_callF rfl call_84 rfl) (shr_g (x) ((8 * ((count - 1) - x2_))) ck14.1 ck14.2) ?_
      refine r_v (U (lo (shiftI (x) (-((8 * ((count - 1) - x2_))))))) rfl rfl rfl rfl ?_
      refine r_w (Value.int .u8 ((((byteU (lo (shiftI (x) (-((8 * ((count - 1) - x2_))))))).toNat : Nat) : Int))) rfl rfl (u64_u8 (lo (shiftI (x) (-((8 * ((count - 1) - x2_))))))) (fun _ => rfl) ?_
      refine r_bs (cs0 := []) (Ls := [[(b2, 111, #[U (hi (x)), U (lo (x))])], Sb1_]) 5 encY [(byteU (lo (shiftI (x) (-((8 * ((count - 1) - x2_)))))))] [Value.int .u8 ((((byteU (lo (shiftI (x) (-((8 * ((count - 1) - x2_))))))).toNat : Nat) : Int))] [Value.int .u8 (0)] rfl rfl rfl rfl rfl rfl rfl (by kernel_rfl) (by kernel_rfl) rfl rfl rfl (fun s15 S16 H17 => ?_)
      replace hM := ck_some hM; obtain ⟨ck18, hM⟩ := hM
      refine r_app (cs0 := []) (Ls := [[(b2, 111, #[U (hi (x)), U (lo (x))])], Sb1_, S16]) 1 (En := encY) rfl rfl rfl rfl rfl hb1_ rfl (rd_own H17 (mem_chunk (Ls := [[(b2, 111, #[U (hi (x)), U (lo (x))])], Sb1_, S16]) (k := 2) rfl rfl)) rfl rfl rfl rfl rfl (app_b ck18 rfl) (app_m ck18 rfl) rfl (fun s19 S20 H21 => ?_)
      refine r_v (s19) rfl rfl rfl rfl ?_
      refine lx_nil ?_
      refine hK9 _ _ ?_; try clear hK9 K9
      refine A_reg ?_
      replace hM := ck_some hM; obtain ⟨ck22, hM⟩ := hM
      refine r_v (Value.int .i64 ((x2_ + 1))) rfl rfl (wi64 rfl ck22.1 ck22.2) rfl ?_
      refine r_v (Value.int .i64 ((x2_ + 1))) rfl rfl rfl rfl ?_
      refine lx_nil ?_
      refine fg _ (Sub.pick [[(b2, 111, #[U (hi (x)), U (lo (x))])], S20, S16] [0, 1] rfl) ?_
      exact ⟨n5 + 1, by omega, n5, (b1_ ++ ([(byteU (lo (shiftI (x) (-((8 * ((count - 1) - x2_)))))))])), (x2_ + 1), hM, s19, S20, H21, is_mk rfl rfl, rfl⟩
    · replace hM := ifn (of_decide_eq_false hc8) hM
      refine A_exit ?_
      refine hK3 _ _ ?_; try clear hK3 K3
      refine A_seq fun K23 hK23 => ?_
      refine A_reg ?_
      refine r_v (vb1_) rfl rfl rfl rfl ?_
      refine r_v (vb1_) rfl rfl rfl rfl ?_
      refine lx_nil ?_
      refine hK23 _ _ ?_; try clear hK23 K23
      obtain rfl := Option.some.inj hM
      refine A_ret (fun hn => endsO (v0 := vb1_) (O := [Sb1_]) (res1 rfl) (Sub.pick [[(b2, 111, #[U (hi (x)), U (lo (x))])], Sb1_] [1] rfl) ⟨vb1_, Sb1_, _, hb1_, ⟨rfl, rfl⟩, rfl⟩)
def wire_number_v1_m (N : Nat) (b : List UInt8) (n : Int) (count : Int) : Option (List UInt8) := (wire_lowest_v1_m N b ((0#64) ++ (BitVec.ofInt 64 (n))) count).bind fun r3 => some (r3)
set_option maxRecDepth 100000 in
set_option maxHeartbeats 8000000 in
theorem wire_number_v1_g (N : Nat) (b : List UInt8) (n : Int) (count : Int) (r : List UInt8) (hM : wire_number_v1_m N b n count = some r) (ro : Addr → Option Value) (bv : Value) (Sb : List Bl) (hb : Sl 5 encY bv b Sb) : Does Try.prog 53 #[bv, Value.int .i64 (n), Value.int .i64 (count)] ro (List.flatten [Sb]) (pO (List.flatten [Sb]) (oS 5 encY r fun s_0 => (oE (s_0) []))) := by
  unfold wire_number_v1_m at hM
  refine doesO_of_A follows Try.func53 rfl 13 rfl (upd (upd (upd (fun _ => undef) 2 (Value.int .i64 (count))) 1 (Value.int .i64 (n))) 0 (bv)) (by funext k; match k with | 0 => rfl | 1 => rfl | 2 => rfl | k + 3 => rfl) (fun _ _ h_ _ => h_) (fun base0_ => ?_)
  refine A_seq fun K1 hK1 => ?_
  refine A_reg ?_
  refine r_v (Value.slice none 0 0) rfl rfl rfl rfl ?_
  refine lx_nil ?_
  refine hK1 _ _ ?_; try clear hK1 K1
  refine A_seq fun K2 hK2 => ?_
  refine A_regC [(some 12, true)] (conG Try.prog [(12, fun _ _ v_ L_ U_ => ∀ u0_, wire_lowest_v1_m N b ((0#64) ++ (BitVec.ofInt 64 (n))) count = some u0_ → (pO (List.flatten [Sb]) (oS 5 encY u0_ fun s_0 => (oE (s_0) []))) v_ L_ U_)]) ?_
  refine r_v (bv) rfl rfl rfl rfl ?_
  refine r_v (Value.int .i64 (n)) rfl rfl rfl rfl ?_
  refine r_w (U (BitVec.ofInt 64 (n))) rfl rfl (U_wrapI (n)) (fun _ => rfl) ?_
  refine r_v (Value.agg #[U (0#64), U (BitVec.ofInt 64 (n))]) rfl rfl rfl (ev_buildS rfl rfl rfl rfl) ?_
  refine r_v (Value.int .i64 (count)) rfl rfl rfl rfl ?_
  replace hM := bind_sm hM; obtain ⟨r3, hr4, hM⟩ := hM
  refine r_gm (Ls := [Sb]) (FL := [Sb]) (RL := []) [0] (oS 5 encY r3 fun s_0 => (oE (s_0) [])) (some 12) 75 _ rfl rfl rfl rfl rfl (ev_callF rfl call_75 rfl) (fun own_ nw_ hn_ hs_ => (by have h_ := wire_lowest_v1_g N b ((0#64) ++ (BitVec.ofInt 64 (n))) count _ hr4 (sans hs_.view (([Sb]).flatten.map (·.1))) bv Sb hb; simp only [app_hl] at h_; exact h_)) (fun _ _ v_ L_ U_ => ⟨fun h_ => h_ _ hr4, fun h_ => by intro _ e_; cases Option.some.inj (e_.symm.trans hr4); exact h_⟩) (fun h_ => nomatch h_) ?_
  rintro s5 _ ⟨_, S6, _, H7, ⟨rfl, rfl⟩, rfl⟩
  refine lx_perm (Ls := [S6]) (Ls' := [S6]) [0] rfl rfl ?_
  refine r_v (s5) rfl rfl rfl rfl ?_
  refine lx_nil ?_
  refine hK2 _ _ ?_; try clear hK2 K2
  obtain rfl := Option.some.inj hM
  refine A_ret (fun hn => endsO (v0 := s5) (O := [S6]) (res1 rfl) (Sub.pick [S6] [0] rfl) ⟨s5, S6, _, H7, ⟨rfl, rfl⟩, rfl⟩)
def wire_holding_m (_ : Nat) (w : Int) : Option (Int) := ck ((-9223372036854775808 ≤ (w + 8) ∧ (w + 8) ≤ 9223372036854775807)) (ck ((-9223372036854775808 ≤ ((w + 8) - 1) ∧ ((w + 8) - 1) ≤ 9223372036854775807)) (ck (0 ≤ ((w + 8) - 1) ∧ ((w + 8) - 1) ≤ 9223372036854775807) (some ((((w + 8) - 1)) / 8))))
set_option maxRecDepth 100000 in
set_option maxHeartbeats 8000000 in
theorem wire_holding_g (N : Nat) (w : Int) (r : Int) (hM : wire_holding_m N w = some r) : Gives Try.prog 71 #[Value.int .i64 (w)] (Value.int .i64 (r)) := by
  unfold wire_holding_m at hM
  refine gives_of_A follows Try.func71 rfl 7 rfl (upd (fun _ => undef) 0 (Value.int .i64 (w))) (by funext k; match k with | 0 => rfl | k + 1 => rfl) (fun base0_ => ?_)
  refine A_seq fun K1 hK1 => ?_
  refine A_reg ?_
  refine r_v (Value.int .i64 (0)) rfl rfl rfl rfl ?_
  refine lx_nil ?_
  refine hK1 _ _ ?_; try clear hK1 K1
  refine A_seq fun K2 hK2 => ?_
  refine A_reg ?_
  refine r_v (Value.int .i64 (w)) rfl rfl rfl rfl ?_
  replace hM := ck_some hM; obtain ⟨ck3, hM⟩ := hM
  refine r_v (Value.int .i64 ((w + 8))) rfl rfl (wi64 rfl ck3.1 ck3.2) rfl ?_
  replace hM := ck_some hM; obtain ⟨ck4, hM⟩ := hM
  refine r_v (Value.int .i64 (((w + 8) - 1))) rfl rfl (wi64 rfl ck4.1 ck4.2) rfl ?_
  replace hM := ck_some hM; obtain ⟨ck5, hM⟩ := hM
  refine r_v (Value.int .i64 ((((w + 8) - 1)) / 8)) rfl rfl (quo_i64 ck5.1 (by decide) ck5.2) rfl ?_
  refine r_v (Value.int .i64 ((((w + 8) - 1)) / 8)) rfl rfl rfl rfl ?_
  refine lx_nil ?_
  refine hK2 _ _ ?_; try clear hK2 K2
  obtain rfl := Option.some.inj hM
  refine A_ret (fun hn => ends_eq (v0 := Value.int .i64 ((((w + 8) - 1)) / 8)) rfl (res1 rfl))
def wire_row_v1_m (N : Nat) (b : List UInt8) (v_0 : Int) (v_1 : BitVec 128) : Option (List UInt8) := (vec_May_m N v_0 v_1).bind fun r5 => if (r5) = true then (wire_number_v1_m N b v_0 1).bind fun r15 => (vec_Word_m N v_0 v_1).bind fun r20 => (wire_holding_m N v_0).bind fun r22 => (wire_lowest_v1_m N r15 r20 r22).bind fun r27 => some (r27) else (wire_number_v1_m N b 0 1).bind fun r9 => some (r9)
set_option maxRecDepth 100000 in
set_option maxHeartbeats 8000000 in
theorem wire_row_v1_g (N : Nat) (b : List UInt8) (v_0 : Int) (v_1 : BitVec 128) (r : List UInt8) (hM : wire_row_v1_m N b v_0 v_1 = some r) (ro : Addr → Option Value) (bv : Value) (Sb : List Bl) (hb : Sl 5 encY bv b Sb) : Does Try.prog 52 #[bv, Value.agg #[Value.int .i64 (v_0), U (hi (v_1)), U (lo (v_1))]] ro (List.flatten [Sb]) (pO (List.flatten [Sb]) (oS 5 encY r fun s_0 => (oE (s_0) []))) := by
  unfold wire_row_v1_m at hM
  refine doesO_of_A follows Try.func52 rfl 20 rfl (upd (upd (fun _ => undef) 1 (Value.agg #[Value.int .i64 (v_0), U (hi (v_1)), U (lo (v_1))])) 0 (bv)) (by funext k; match k with | 0 => rfl | 1 => rfl | k + 2 => rfl) (fun _ _ h_ _ => h_) (fun base0_ => ?_)
  refine A_seq fun K1 hK1 => ?_
  refine A_reg ?_
  refine r_a (30, #[Value.int .i64 (v_0), U (hi (v_1)), U (lo (v_1))]) rfl rfl rfl (fun b2 => ?_) (.inr rfl)
  refine r_v (Value.slice none 0 0) rfl rfl rfl rfl ?_
  refine lx_nil ?_
  refine hK1 _ _ ?_; try clear hK1 K1
  refine A_seq fun K3 hK3 => ?_
  refine A_seq fun K4 hK4 => ?_
  refine A_reg ?_
  refine r_l (Value.agg #[Value.int .i64 (v_0), U (hi (v_1)), U (lo (v_1))]) 0 _ _ _ _ rfl rfl rfl rfl rfl ?_
  replace hM := bind_sm hM; obtain ⟨r5, hr6, hM⟩ := hM
  refine r_c (Value.bool (r5)) rfl _ _ (ev_callF rfl call_74 rfl) (vec_May_g N v_0 v_1 _ hr6) ?_
  refine r_v (Value.bool (!(r5))) rfl rfl rfl rfl ?_
  refine lx_nil ?_
  refine hK4 _ _ ?_; try clear hK4 K4
  refine A_cond (!(r5)) rfl (fun hc7 => ?_) (fun hc7 => ?_)
  · replace hM := ifn (Bool.eq_false_iff.1 (not_t hc7)) hM
    refine A_seq fun K8 hK8 => ?_
    refine A_regC [(some 9, true)] (conG Try.prog [(9, fun _ _ v_ L_ U_ => ∀ u0_, wire_number_v1_m N b 0 1 = some u0_ → (pO (List.flatten [Sb]) (oS 5 encY u0_ fun s_0 => (oE (s_0) []))) v_ L_ U_)]) ?_
    refine r_v (bv) rfl rfl rfl rfl ?_
    replace hM := bind_sm hM; obtain ⟨r9, hr10, hM⟩ := hM
    refine r_gm (Ls := [[(b2, 30, #[Value.int .i64 (v_0), U (hi (v_1)), U (lo (v_1))])], Sb]) (FL := [Sb]) (RL := [[(b2, 30, #[Value.int .i64 (v_0), U (hi (v_1)), U (lo (v_1))])]]) [1] (oS 5 encY r9 fun s_0 => (oE (s_0) [])) (some 9) 53 _ rfl rfl rfl rfl rfl (ev_callF rfl call_53 rfl) (fun own_ nw_ hn_ hs_ => wire_number_v1_g N b 0 1 _ hr10 _ bv Sb hb) (fun _ _ v_ L_ U_ => ⟨fun h_ => h_ _ hr10, fun h_ => by intro _ e_; cases Option.some.inj (e_.symm.trans hr10); exact h_⟩) (fun h_ => nomatch h_) ?_
    rintro s11 _ ⟨_, S12, _, H13, ⟨rfl, rfl⟩, rfl⟩
    refine lx_perm (Ls := [[(b2, 30, #[Value.int .i64 (v_0), U (hi (v_1)), U (lo (v_1))])], S12]) (Ls' := [[(b2, 30, #[Value.int .i64 (v_0), U (hi (v_1)), U (lo (v_1))])], S12]) [0, 1] rfl rfl ?_
    refine r_v (s11) rfl rfl rfl rfl ?_
    refine lx_nil ?_
    refine hK8 _ _ ?_; try clear hK8 K8
    obtain rfl := Option.some.inj hM
    refine A_ret (fun hn => endsO (v0 := s11) (O := [S12]) (res1 rfl) (Sub.pick [[(b2, 30, #[Value.int .i64 (v_0), U (hi (v_1)), U (lo (v_1))])], S12] [1] rfl) ⟨s11, S12, _, H13, ⟨rfl, rfl⟩, rfl⟩)
  · replace hM := ifp (not_f hc7) hM
    refine A_skip ?_
    refine hK3 _ _ ?_; try clear hK3 K3
    refine A_seq fun K14 hK14 => ?_
    refine A_drawH (Ls := [[(b2, 30, #[Value.int .i64 (v_0), U (hi (v_1)), U (lo (v_1))])], Sb]) [(some 13, true), (some 19, true), (some 1000000014, true)] [(13, fun _ _ v_ L_ U_ => (pH ((List.flatten [Sb]).map (·.1)) (fun v_ L_ U_ => ∀ u0_, wire_number_v1_m N b v_0 1 = some u0_ → (pO (List.flatten [Sb]) (oS 5 encY u0_ fun s_0 => (oE (s_0) []))) v_ L_ U_) v_ L_ U_)), (19, fun a_ _ v_ L_ U_ => ∀ u0_, wire_number_v1_m N b v_0 1 = some u0_ → ∀ u1_, vec_Word_m N v_0 v_1 = some u1_ → ∀ u2_, wire_holding_m N v_0 = some u2_ → ∀ u3_, wire_lowest_v1_m N u0_ u1_ u2_ = some u3_ → (pN (List.flatten [blkS (argAt a_ 1)]) (oS 5 encY u3_ fun s_0 => (oE (s_0) []))) v_ L_ U_)] [1] [0] [] (by decide +kernel) (fun hn => sep_nil) (by decide +kernel) rfl (⟨.inr (fun _ _ _ _ _ h_ => pH_hid (pick_sub (Ls := [[(b2, 30, #[Value.int .i64 (v_0), U (hi (v_1)), U (lo (v_1))])], Sb]) (is := [1]) (js := [1]) rfl) h_), ⟨.inl rfl, trivial⟩⟩) (fun hnb_ => ?_)
    refine r_v (bv) rfl rfl rfl rfl ?_
    refine r_v (Value.pointer (some ⟨b2, 0, none⟩)) rfl rfl rfl rfl ?_
    refine r_lH (Value.int .i64 (v_0)) 0 _ _ _ _ rfl rfl rfl rfl rfl (hnb_ b2 (List.mem_of_getElem? (i := 0) rfl)) ?_
    replace hM := bind_sm hM; obtain ⟨r15, hr16, hM⟩ := hM
    refine r_gm (Ls := [[(b2, 30, #[Value.int .i64 (v_0), U (hi (v_1)), U (lo (v_1))])], Sb]) (FL := [Sb]) (RL := [[(b2, 30, #[Value.int .i64 (v_0), U (hi (v_1)), U (lo (v_1))])]]) [1] (oS 5 encY r15 fun s_0 => (oE (s_0) [])) (some 13) 53 _ rfl rfl rfl rfl rfl (ev_callF rfl call_53 rfl) (fun own_ nw_ hn_ hs_ => wire_number_v1_g N b v_0 1 _ hr16 _ bv Sb hb) (fun a_ c_ v_ L_ U_ => pH_iff (q := fun v_ L_ U_ => ∀ u0_, wire_number_v1_m N b v_0 1 = some u0_ → (pO (List.flatten [Sb]) (oS 5 encY u0_ fun s_0 => (oE (s_0) []))) v_ L_ U_) ((fun _ _ v_ L_ U_ => ⟨fun h_ => h_ _ hr16, fun h_ => by intro _ e_; cases Option.some.inj (e_.symm.trans hr16); exact h_⟩) a_ c_ v_ L_ U_)) (fun _ => (NiceO.sub (R := []) (niceS fun s_0 => (niceE rfl)) (Sub.pick [Sb] [] rfl))) ?_
    rintro s17 _ ⟨_, S18, _, H19, ⟨rfl, rfl⟩, rfl⟩
    refine lx_perm (Ls := [[(b2, 30, #[Value.int .i64 (v_0), U (hi (v_1)), U (lo (v_1))])], S18]) (Ls' := [[(b2, 30, #[Value.int .i64 (v_0), U (hi (v_1)), U (lo (v_1))])], S18]) [0, 1] rfl rfl ?_
    refine r_lH (Value.agg #[Value.int .i64 (v_0), U (hi (v_1)), U (lo (v_1))]) 0 _ _ _ _ rfl rfl rfl rfl rfl (hnb_ b2 (List.mem_of_getElem? (i := 0) rfl)) ?_
    replace hM := bind_sm hM; obtain ⟨r20, hr21, hM⟩ := hM
    refine r_c (Value.agg #[U (hi (r20)), U (lo (r20))]) rfl _ _ (ev_callF rfl call_76 rfl) (vec_Word_g N v_0 v_1 _ hr21) ?_
    refine r_v (Value.pointer (some ⟨b2, 0, none⟩)) rfl rfl rfl rfl ?_
    refine r_lH (Value.int .i64 (v_0)) 0 _ _ _ _ rfl rfl rfl rfl rfl (hnb_ b2 (List.mem_of_getElem? (i := 0) rfl)) ?_
    replace hM := bind_sm hM; obtain ⟨r22, hr23, hM⟩ := hM
    refine r_c (Value.int .i64 (r22)) rfl _ _ (ev_callF rfl call_71 rfl) (wire_holding_g N v_0 _ hr23) ?_
    refine lx_canon (Ls := [[(b2, 30, #[Value.int .i64 (v_0), U (hi (v_1)), U (lo (v_1))])], S18]) trivial 1 rfl H19 (fun S24 H25 hn26 => ?_)
    replace hM := bind_sm hM; obtain ⟨r27, hr28, hM⟩ := hM
    refine r_gmL (Ls := [[(b2, 30, #[Value.int .i64 (v_0), U (hi (v_1)), U (lo (v_1))])], S24]) (FL := [S24]) (RL := [[(b2, 30, #[Value.int .i64 (v_0), U (hi (v_1)), U (lo (v_1))])]]) [1] (oS 5 encY r27 fun s_0 => (oE (s_0) [])) (some 19) 75 _ (pc := fun a_ => pN (List.flatten [blkS (argAt a_ 1)]) (oS 5 encY r27 fun s_0 => (oE (s_0) []))) rfl rfl rfl rfl rfl (ev_callF rfl call_75 rfl) (fun own_ nw_ hn_ hs_ => wire_lowest_v1_g N r15 r20 r22 _ hr28 _ s17 S24 H25) (fun _ _ v_ L_ U_ => ⟨fun h_ => h_ _ hr16 _ hr21 _ hr23 _ hr28, fun h_ => by intro _ e_; cases Option.some.inj (e_.symm.trans hr16); intro _ e_; cases Option.some.inj (e_.symm.trans hr21); intro _ e_; cases Option.some.inj (e_.symm.trans hr23); intro _ e_; cases Option.some.inj (e_.symm.trans hr28); exact h_⟩) (fun _ _ _ => pN_iff (nmF (nmC hn26 nmN))) (fun _ => (NiceO.sub (R := []) (niceS fun s_0 => (niceE rfl)) (Sub.pick [S24] [] rfl))) ?_
    rintro s29 _ ⟨_, S30, _, H31, ⟨rfl, rfl⟩, rfl⟩
    refine lx_perm (Ls := [[(b2, 30, #[Value.int .i64 (v_0), U (hi (v_1)), U (lo (v_1))])], S30]) (Ls' := [[(b2, 30, #[Value.int .i64 (v_0), U (hi (v_1)), U (lo (v_1))])], S30]) [0, 1] rfl rfl ?_
    refine r_v (s29) rfl rfl rfl rfl ?_
    refine lx_nil ?_
    refine hK14 _ _ ?_; try clear hK14 K14
    obtain rfl := Option.some.inj hM
    refine A_ret (fun hn => endsO (v0 := s29) (O := [S30]) (res1 rfl) (Sub.pick [[(b2, 30, #[Value.int .i64 (v_0), U (hi (v_1)), U (lo (v_1))])], S30] [1] rfl) ⟨s29, S30, _, H31, ⟨rfl, rfl⟩, rfl⟩)
def wire_Vec_m (N : Nat) (b : List UInt8) (v_0 : Int) (v_1 : BitVec 128) : Option (List UInt8) := (slices_Clone___byte_byte__m N b).bind fun r4 => (wire_row_v1_m N r4 v_0 v_1).bind fun r12 => some (r12)
set_option maxRecDepth 100000 in
set_option maxHeartbeats 8000000 in
theorem wire_Vec_g (N : Nat) (b : List UInt8) (v_0 : Int) (v_1 : BitVec 128) (r : List UInt8) (hM : wire_Vec_m N b v_0 v_1 = some r) (ro : Addr → Option Value) (bv : Value) (hb : Rd encY ro bv b) : Does Try.prog 24 #[bv, Value.agg #[Value.int .i64 (v_0), U (hi (v_1)), U (lo (v_1))]] ro [] (p1 (fun s_ => s_) 5 encY r) := by
  unfold wire_Vec_m at hM
  refine does_of_A follows Try.func24 rfl 9 rfl (upd (upd (fun _ => undef) 1 (Value.agg #[Value.int .i64 (v_0), U (hi (v_1)), U (lo (v_1))])) 0 (bv)) (by funext k; match k with | 0 => rfl | 1 => rfl | k + 2 => rfl) (fun base0_ => ?_)
  refine A_seq fun K1 hK1 => ?_
  refine A_reg ?_
  refine r_a (30, #[Value.int .i64 (v_0), U (hi (v_1)), U (lo (v_1))]) rfl rfl rfl (fun b2 => ?_) (.inr rfl)
  refine r_v (Value.slice none 0 0) rfl rfl rfl rfl ?_
  refine lx_nil ?_
  refine hK1 _ _ ?_; try clear hK1 K1
  refine A_seq fun K3 hK3 => ?_
  refine A_drawR [(some 6, false), (some 8, true)] (conG Try.prog [(6, fun _ _ v_ L_ U_ => ∀ u0_, slices_Clone___byte_byte__m N b = some u0_ → (p1 (fun s_ => s_) 5 encY (u0_)) v_ L_ U_), (8, fun a_ _ v_ L_ U_ => ∀ u0_, slices_Clone___byte_byte__m N b = some u0_ → ∀ u1_, wire_row_v1_m N u0_ v_0 v_1 = some u1_ → (pN (List.flatten [blkS (argAt a_ 1)]) (oS 5 encY u1_ fun s_0 => (oE (s_0) []))) v_ L_ U_)]) [] (by decide +kernel) (fun hn => sep_nil) ?_
  refine r_v (bv) rfl rfl rfl rfl ?_
  replace hM := bind_sm hM; obtain ⟨r4, hr5, hM⟩ := hM
  refine r_g1 (Ls := [[(b2, 30, #[Value.int .i64 (v_0), U (hi (v_1)), U (lo (v_1))])]]) (fun s6 => s6) 5 encY (r4) 34 _ rfl rfl rfl (ev_callF rfl call_34 rfl) (fun own_ nw_ hs_ => slices_Clone___byte_byte__g N b _ hr5 hs_.view bv ((rd_ro hb) own_ nw_ hs_)) (fun _ _ v_ L_ U_ => ⟨fun h_ => h_ _ hr5, fun h_ => by intro _ e_; cases Option.some.inj (e_.symm.trans hr5); exact h_⟩) (fun s6 S7 H8 => ?_)
  refine r_l (Value.agg #[Value.int .i64 (v_0), U (hi (v_1)), U (lo (v_1))]) 0 _ _ _ _ rfl rfl rfl rfl rfl ?_
  refine lx_canon (Ls := [[(b2, 30, #[Value.int .i64 (v_0), U (hi (v_1)), U (lo (v_1))])], S7]) trivial 1 rfl H8 (fun S9 H10 hn11 => ?_)
  replace hM := bind_sm hM; obtain ⟨r12, hr13, hM⟩ := hM
  refine r_gmL (Ls := [[(b2, 30, #[Value.int .i64 (v_0), U (hi (v_1)), U (lo (v_1))])], S9]) (FL := [S9]) (RL := [[(b2, 30, #[Value.int .i64 (v_0), U (hi (v_1)), U (lo (v_1))])]]) [1] (oS 5 encY r12 fun s_0 => (oE (s_0) [])) (some 8) 52 _ (pc := fun a_ => pN (List.flatten [blkS (argAt a_ 1)]) (oS 5 encY r12 fun s_0 => (oE (s_0) []))) rfl rfl rfl rfl rfl (ev_callF rfl call_52 rfl) (fun own_ nw_ hn_ hs_ => wire_row_v1_g N r4 v_0 v_1 _ hr13 _ s6 S9 H10) (fun _ _ v_ L_ U_ => ⟨fun h_ => h_ _ hr5 _ hr13, fun h_ => by intro _ e_; cases Option.some.inj (e_.symm.trans hr5); intro _ e_; cases Option.some.inj (e_.symm.trans hr13); exact h_⟩) (fun _ _ _ => pN_iff (nmF (nmC hn11 nmN))) (fun _ => (NiceO.sub (R := []) (niceS fun s_0 => (niceE rfl)) (Sub.pick [S9] [] rfl))) ?_
  rintro s14 _ ⟨_, S15, _, H16, ⟨rfl, rfl⟩, rfl⟩
  refine lx_perm (Ls := [[(b2, 30, #[Value.int .i64 (v_0), U (hi (v_1)), U (lo (v_1))])], S15]) (Ls' := [[(b2, 30, #[Value.int .i64 (v_0), U (hi (v_1)), U (lo (v_1))])], S15]) [0, 1] rfl rfl ?_
  refine r_v (s14) rfl rfl rfl rfl ?_
  refine lx_nil ?_
  refine hK3 _ _ ?_; try clear hK3 K3
  obtain rfl := Option.some.inj hM
  refine A_ret (fun hn => ends1 (v0 := s14) H16 (sub_one (Sub.pick [[(b2, 30, #[Value.int .i64 (v_0), U (hi (v_1)), U (lo (v_1))])], S15] [1] rfl)) rfl (res1 rfl))
def shunterlaw07_lives_m (N : Nat) : Option (Bool) := (wire_Vec_m N ([]) 12 ((0#64) ++ (2748#64))).bind fun r3 => some ((r3) == (([12, 10, 188] : List UInt8)))
set_option maxRecDepth 100000 in
set_option maxHeartbeats 8000000 in
theorem shunterlaw07_lives_g (N : Nat) (r : Bool) (hM : shunterlaw07_lives_m N = some r) : Gives Try.prog 7 #[] (Value.bool (r)) := by
  unfold shunterlaw07_lives_m at hM
  refine gives_of_A follows Try.func7 rfl 7 rfl (fun _ => undef) (by funext k; rfl) (fun base0_ => ?_)
  refine A_seq fun K1 hK1 => ?_
  refine A_reg ?_
  refine r_v (Value.bool (false)) rfl rfl rfl rfl ?_
  refine lx_nil ?_
  refine hK1 _ _ ?_; try clear hK1 K1
  refine A_seq fun K2 hK2 => ?_
  refine A_regC [(some 3, false)] (conG Try.prog [(3, fun _ _ v_ L_ U_ => ∀ u0_, wire_Vec_m N ([]) 12 ((0#64) ++ (2748#64)) = some u0_ → (p1 (fun s_ => s_) 5 encY (u0_)) v_ L_ U_)]) ?_
  refine r_v (Value.agg #[Value.int .i64 (12), U (0#64), U (2748#64)]) rfl rfl rfl (ev_buildS rfl rfl rfl rfl) ?_
  replace hM := bind_sm hM; obtain ⟨r3, hr4, hM⟩ := hM
  refine r_g1 (Ls := []) (fun s5 => s5) 5 encY (r3) 24 _ rfl rfl rfl (ev_callF rfl call_24 rfl) (fun own_ nw_ hs_ => (by have h_ := wire_Vec_g N ([]) 12 ((0#64) ++ (2748#64)) _ hr4 hs_.view (Value.slice none 0 0) ((fun _ _ _ => .inl ⟨rfl, rfl⟩) own_ nw_ hs_); simp only [app_hl] at h_; exact h_)) (fun _ _ v_ L_ U_ => ⟨fun h_ => h_ _ hr4, fun h_ => by intro _ e_; cases Option.some.inj (e_.symm.trans hr4); exact h_⟩) (fun s5 S6 H7 => ?_)
  refine r_v (s5) rfl rfl rfl rfl ?_
  refine lx_nil ?_
  refine hK2 _ _ ?_; try clear hK2 K2
  refine A_seq fun K8 hK8 => ?_
  refine A_reg ?_
  refine r_v (s5) rfl rfl rfl rfl ?_
  refine r_stl (e := 5) (r3) rfl rfl rfl rfl rfl (rd_own H7 (mem_chunk (Ls := [S6]) (k := 0) rfl rfl)) ?_
  refine r_v (Value.bool ((r3) == (([12, 10, 188] : List UInt8)))) rfl rfl rfl (ev_eqS rfl rfl) ?_
  refine r_v (Value.bool ((r3) == (([12, 10, 188] : List UInt8)))) rfl rfl rfl rfl ?_
  refine lx_nil ?_
  refine hK8 _ _ ?_; try clear hK8 K8
  obtain rfl := Option.some.inj hM
  refine A_ret (fun hn => ends_eq (v0 := Value.bool ((r3) == (([12, 10, 188] : List UInt8)))) rfl (res1 rfl))
inductive SumRow5 where
  | nil
  | t0 (x0 : List UInt8)
  deriving Inhabited
def SumRow5.on {β : Type} (x : SumRow5) (a : β) (f0 : (List UInt8) → β) : β := match x with | .nil => a | .t0 x0 => f0 x0
theorem SumRow5.on_nil {β : Type} {x : SumRow5} {a r : β} {f0 : (List UInt8) → β} (h : x = .nil) (e : SumRow5.on x a f0 = r) : a = r := by subst h; exact e
def SumRow5.onP (x : SumRow5) (a : PO) (f0 : (List UInt8) → PO) : PO := match x with | .nil => a | .t0 x0 => f0 x0
theorem SumRow5.onP_nil {x : SumRow5} {a : PO} {f0 : (List UInt8) → PO} {v : Value} {O : List (List Bl)} (h : x = .nil) (e : SumRow5.onP x a f0 v O) : a v O := by subst h; exact e
theorem SumRow5.cases (x : SumRow5) : x = .nil ∨ (∃ x0, x = .t0 x0) := by cases x <;> simp
end Go.Proofs.Ytdgejbbelmhbdaa
