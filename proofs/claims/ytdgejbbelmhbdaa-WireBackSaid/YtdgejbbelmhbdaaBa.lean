/- models of functions and their walks -/
import Derived.Test.YtdgejbbelmhbdaaIt
import Derived.Test.YtdgejbbelmhbdaaYt
import Derived.Test.YtdgejbbelmhbdaaAs
import Derived.Test.YtdgejbbelmhbdaaBu
import Derived.Test.YtdgejbbelmhbdaaMove
import Derived.Test.YtdgejbbelmhbdaaReft
namespace Go.Proofs.Ytdgejbbelmhbdaa
open Go Go.RowKit Go.Eng
def enc_30 : Enc (Int × BitVec 128) := ⟨fun x => [Value.int .i64 (x.1), U (hi (x.2)), U (lo (x.2))], 3, by decide, fun _ => rfl, fun x v h => by simp only [List.mem_cons, List.not_mem_nil, or_false] at h; rcases h with rfl | rfl | rfl <;> rfl, True⟩
def encr_34 : EncR (Int × Int × Int × Int × Int × (BitVec 128) × (List UInt8) × (List (Int × BitVec 128)) × (List Int)) := ⟨fun c x vs => ∃ (s0 : Value) (s1 : Value), Rd enc_30 c s0 x.2.2.2.2.2.2.2.1 ∧ Rd encI c s1 x.2.2.2.2.2.2.2.2 ∧ vs = [Value.int .i64 (x.1), Value.int .i64 (x.2.1), Value.int .i64 (x.2.2.1), Value.int .i64 (x.2.2.2.1), Value.int .i64 (x.2.2.2.2.1), U (hi (x.2.2.2.2.2.1)), U (lo (x.2.2.2.2.2.1)), Value.string (⟨(x.2.2.2.2.2.2.1).toArray⟩), s0, s1], 10, by decide, fun hc ⟨s0, s1, h0, h1, hv⟩ => ⟨s0, s1, h0.mono hc, h1.mono hc, hv⟩⟩
def shunterlaw07_light_l2 (ops : List (Int × Int × Int × Int × Int × (BitVec 128) × (List UInt8) × (List (Int × BitVec 128)) × (List Int))) : Nat → Int → Option (Bool)
  | 0, _ => none
  | n8 + 1, i1_ => if (i1_ : Int) < ((ops).length : Int) then ck (0 ≤ i1_ ∧ i1_ < ((ops).length : Int)) (if ((((ops)[(i1_).toNat]!.2.2.2.2.2.2.2.1).length : Int) : Int) > 300 then some (false) else ck (0 ≤ i1_ ∧ i1_ < ((ops).length : Int)) (if ((((ops)[(i1_).toNat]!.2.2.2.2.2.2.2.2).length : Int) : Int) > 300 then some (false) else ck (0 ≤ i1_ ∧ i1_ < ((ops).length : Int)) (if ((((ops)[(i1_).toNat]!.2.2.2.2.2.2.1).length : Int) : Int) > 600 then some (false) else ck ((-9223372036854775808 ≤ (i1_ + 1) ∧ (i1_ + 1) ≤ 9223372036854775807)) ((shunterlaw07_light_l2 ops n8) ((i1_ + 1)))))) else some (true)
def shunterlaw07_light_m (N : Nat) (ops : List (Int × Int × Int × Int × Int × (BitVec 128) × (List UInt8) × (List (Int × BitVec 128)) × (List Int))) : Option (Bool) := if (((ops).length : Int) : Int) > 30 then some (false) else shunterlaw07_light_l2 ops N (0)
set_option maxRecDepth 100000 in
set_option maxHeartbeats 8000000 in
theorem shunterlaw07_light_g (N : Nat) (ops : List (Int × Int × Int × Int × Int × (BitVec 128) × (List UInt8) × (List (Int × BitVec 128)) × (List Int))) (r : Bool) (hM : shunterlaw07_light_m N ops = some r) (ro : Addr → Option Value) (opsv : Value) (hops : RdN encr_34 ro opsv ops) : Does Try.prog 6 #[opsv] ro [] (pV (Value.bool (r))) := by
  unfold shunterlaw07_light_m at hM
  refine does_of_A follows Try.func6 rfl 38 rfl (upd (fun _ => undef) 0 (opsv)) (by funext k; match k with | 0 => rfl | k + 1 => rfl) (fun base0_ => ?_)
  refine A_seq fun K1 hK1 => ?_
  refine A_reg ?_
  refine r_v (Value.bool (false)) rfl rfl rfl rfl ?_
  refine lx_nil ?_
  refine hK1 _ _ ?_; try clear hK1 K1
  refine A_seq fun K2 hK2 => ?_
  refine A_seq fun K3 hK3 => ?_
  refine A_reg ?_
  refine r_v (opsv) rfl rfl rfl rfl ?_
  refine r_v (Value.int .i64 (((ops).length : Int))) rfl rfl rfl (ev_lenSl rfl rfl rfl (RdN.shp hops)) ?_
  refine r_v (Value.bool (decide ((((ops).length : Int) : Int) > 30))) rfl rfl rfl rfl ?_
  refine lx_nil ?_
  refine hK3 _ _ ?_; try clear hK3 K3
  refine A_cond (decide ((((ops).length : Int) : Int) > 30)) rfl (fun hc4 => ?_) (fun hc4 => ?_)
  · replace hM := ifp (of_decide_eq_true hc4) hM
    refine A_seq fun K5 hK5 => ?_
    refine A_reg ?_
    refine r_v (Value.bool (false)) rfl rfl rfl rfl ?_
    refine lx_nil ?_
    refine hK5 _ _ ?_; try clear hK5 K5
    obtain rfl := Option.some.inj hM
    refine A_ret (fun hn => endsV (v0 := Value.bool (false)) rfl (res1 rfl))
  · replace hM := ifn (of_decide_eq_false hc4) hM
    refine A_skip ?_
    refine hK2 _ _ ?_; try clear hK2 K2
    refine A_seq fun K6 hK6 => ?_
    refine A_seq fun K7 hK7 => ?_
    refine A_reg ?_
    refine r_v (Value.int .i64 (0)) rfl rfl rfl rfl ?_
    refine lx_nil ?_
    refine hK7 _ _ ?_; try clear hK7 K7
    refine A_block ?_
    refine A_loop (fun tt ll nn => ∃ (n8 : Nat) (i1_ : Int), (shunterlaw07_light_l2 ops n8 i1_ = some r) ∧ Is [(0, opsv), (3, Value.int .i64 (i1_))] [] tt ll ∧ nn = n8 + 1) (N + 1) ?_ ?_
    · exact ⟨N, 0, hM, is_mk rfl rfl, rfl⟩
    · clear hM; rintro t l _ ⟨n8, i1_, hM, ⟨⟨T, rfl⟩, rfl⟩, rfl⟩
      rcases n8 with _ | n8
      · exact absurd hM (by simp [shunterlaw07_light_l2])
      rw [shunterlaw07_light_l2] at hM
      refine A_seq fun K9 hK9 => ?_
      refine A_seq fun K10 hK10 => ?_
      refine A_reg ?_
      refine r_v (Value.int .i64 (i1_)) rfl rfl rfl rfl ?_
      refine r_v (opsv) rfl rfl rfl rfl ?_
      refine r_v (Value.int .i64 (((ops).length : Int))) rfl rfl rfl (ev_lenSl rfl rfl rfl (RdN.shp hops)) ?_
      refine r_v (Value.bool (decide ((i1_ : Int) < ((ops).length : Int)))) rfl rfl rfl rfl ?_
      refine lx_nil ?_
      refine hK10 _ _ ?_; try clear hK10 K10
      refine A_cond (decide ((i1_ : Int) < ((ops).length : Int))) rfl (fun hc11 => ?_) (fun hc11 => ?_)
      · replace hM := ifp (of_decide_eq_true hc11) hM
        refine A_skip ?_
        refine hK9 _ _ ?_; try clear hK9 K9
        refine A_seq fun K12 hK12 => ?_
        refine A_block ?_
        refine A_seq fun K13 hK13 => ?_
        refine A_reg ?_
        refine r_v (opsv) rfl rfl rfl rfl ?_
        refine r_v (Value.int .i64 (i1_)) rfl rfl rfl rfl ?_
        replace hM := ck_some hM; obtain ⟨ck14, hM⟩ := hM
        obtain ⟨_, ⟨s15, s16, hs17, hs18, rfl⟩, hat19⟩ := RdN.at (E := encr_34) hops (get_of ck14)
        refine r_v (elA opsv ((i1_).toNat * 10)) rfl rfl rfl (ev_v (ev_idxSl rfl rfl rfl (RdN.shp hops) ck14)) ?_
        refine r_v (elA opsv ((i1_).toNat * 10 + 8)) rfl rfl rfl (ev_v (ev_fieldX rfl rfl rfl rfl rfl rfl (RdN.shp hops) (pos_of ck14))) ?_
        refine r_at (s15) (vs := [Value.int .i64 ((ops)[(i1_).toNat]!.1), Value.int .i64 ((ops)[(i1_).toNat]!.2.1), Value.int .i64 ((ops)[(i1_).toNat]!.2.2.1), Value.int .i64 ((ops)[(i1_).toNat]!.2.2.2.1), Value.int .i64 ((ops)[(i1_).toNat]!.2.2.2.2.1), U (hi ((ops)[(i1_).toNat]!.2.2.2.2.2.1)), U (lo ((ops)[(i1_).toNat]!.2.2.2.2.2.1)), Value.string (⟨((ops)[(i1_).toNat]!.2.2.2.2.2.2.1).toArray⟩), s15, s16]) ((i1_).toNat * 10) 8 rfl rfl (fun own_ nw_ hs_ => At.mono hs_.ro_cell hat19) rfl ?_
        refine r_v (Value.int .i64 ((((ops)[(i1_).toNat]!.2.2.2.2.2.2.2.1).length : Int))) rfl rfl rfl (ev_lenSl rfl rfl rfl (Rd.shp hs17)) ?_
        refine r_v (Value.bool (decide (((((ops)[(i1_).toNat]!.2.2.2.2.2.2.2.1).length : Int) : Int) > 300))) rfl rfl rfl rfl ?_
        refine r_v (Value.bool (decide (((((ops)[(i1_).toNat]!.2.2.2.2.2.2.2.1).length : Int) : Int) > 300))) rfl rfl rfl rfl ?_
        rcases hg20 : (decide (((((ops)[(i1_).toNat]!.2.2.2.2.2.2.2.1).length : Int) : Int) > 300)) with _ | _
        · replace hM := ifn (of_decide_eq_false hg20) hM
          refine r_y rfl ?_
          refine r_v (opsv) rfl rfl rfl rfl ?_
          refine r_y rfl ?_
          refine r_v (Value.int .i64 (i1_)) rfl rfl rfl rfl ?_
          refine r_y rfl ?_
          replace hM := ck_some hM; obtain ⟨ck21, hM⟩ := hM
          obtain ⟨_, ⟨s22, s23, hs24, hs25, rfl⟩, hat26⟩ := RdN.at (E := encr_34) hops (get_of ck21)
          refine r_v (elA opsv ((i1_).toNat * 10)) rfl rfl rfl (ev_v (ev_idxSl rfl rfl rfl (RdN.shp hops) ck21)) ?_
          refine r_y rfl ?_
          refine r_v (elA opsv ((i1_).toNat * 10 + 9)) rfl rfl rfl (ev_v (ev_fieldX rfl rfl rfl rfl rfl rfl (RdN.shp hops) (pos_of ck21))) ?_
          refine r_y rfl ?_
          refine r_at (s23) (vs := [Value.int .i64 ((ops)[(i1_).toNat]!.1), Value.int .i64 ((ops)[(i1_).toNat]!.2.1), Value.int .i64 ((ops)[(i1_).toNat]!.2.2.1), Value.int .i64 ((ops)[(i1_).toNat]!.2.2.2.1), Value.int .i64 ((ops)[(i1_).toNat]!.2.2.2.2.1), U (hi ((ops)[(i1_).toNat]!.2.2.2.2.2.1)), U (lo ((ops)[(i1_).toNat]!.2.2.2.2.2.1)), Value.string (⟨((ops)[(i1_).toNat]!.2.2.2.2.2.2.1).toArray⟩), s22, s23]) ((i1_).toNat * 10) 9 rfl rfl (fun own_ nw_ hs_ => At.mono hs_.ro_cell hat26) rfl ?_
          refine r_y rfl ?_
          refine r_v (Value.int .i64 ((((ops)[(i1_).toNat]!.2.2.2.2.2.2.2.2).length : Int))) rfl rfl rfl (ev_lenSl rfl rfl rfl (Rd.shp hs25)) ?_
          refine r_y rfl ?_
          refine r_v (Value.bool (decide (((((ops)[(i1_).toNat]!.2.2.2.2.2.2.2.2).length : Int) : Int) > 300))) rfl rfl rfl rfl ?_
          refine r_v (Value.bool (decide (((((ops)[(i1_).toNat]!.2.2.2.2.2.2.2.2).length : Int) : Int) > 300))) rfl rfl rfl rfl ?_
          refine r_v (Value.bool (decide (((((ops)[(i1_).toNat]!.2.2.2.2.2.2.2.2).length : Int) : Int) > 300))) rfl rfl rfl rfl ?_
          rcases hg27 : (decide (((((ops)[(i1_).toNat]!.2.2.2.2.2.2.2.2).length : Int) : Int) > 300)) with _ | _
          · replace hM := ifn (of_decide_eq_false hg27) hM
            refine r_y rfl ?_
            refine r_v (opsv) rfl rfl rfl rfl ?_
            refine r_y rfl ?_
            refine r_v (Value.int .i64 (i1_)) rfl rfl rfl rfl ?_
            refine r_y rfl ?_
            replace hM := ck_some hM; obtain ⟨ck28, hM⟩ := hM
            obtain ⟨_, ⟨s29, s30, hs31, hs32, rfl⟩, hat33⟩ := RdN.at (E := encr_34) hops (get_of ck28)
            refine r_v (elA opsv ((i1_).toNat * 10)) rfl rfl rfl (ev_v (ev_idxSl rfl rfl rfl (RdN.shp hops) ck28)) ?_
            refine r_y rfl ?_
            refine r_v (elA opsv ((i1_).toNat * 10 + 7)) rfl rfl rfl (ev_v (ev_fieldX rfl rfl rfl rfl rfl rfl (RdN.shp hops) (pos_of ck28))) ?_
            refine r_y rfl ?_
            refine r_at (Value.string (⟨((ops)[(i1_).toNat]!.2.2.2.2.2.2.1).toArray⟩)) (vs := [Value.int .i64 ((ops)[(i1_).toNat]!.1), Value.int .i64 ((ops)[(i1_).toNat]!.2.1), Value.int .i64 ((ops)[(i1_).toNat]!.2.2.1), Value.int .i64 ((ops)[(i1_).toNat]!.2.2.2.1), Value.int .i64 ((ops)[(i1_).toNat]!.2.2.2.2.1), U (hi ((ops)[(i1_).toNat]!.2.2.2.2.2.1)), U (lo ((ops)[(i1_).toNat]!.2.2.2.2.2.1)), Value.string (⟨((ops)[(i1_).toNat]!.2.2.2.2.2.2.1).toArray⟩), s29, s30]) ((i1_).toNat * 10) 7 rfl rfl (fun own_ nw_ hs_ => At.mono hs_.ro_cell hat33) rfl ?_
            refine r_y rfl ?_
            refine r_v (Value.int .i64 ((((ops)[(i1_).toNat]!.2.2.2.2.2.2.1).length : Int))) rfl rfl rfl (ev_lenS rfl rfl rfl) ?_
            refine r_y rfl ?_
            refine r_v (Value.bool (decide (((((ops)[(i1_).toNat]!.2.2.2.2.2.2.1).length : Int) : Int) > 600))) rfl rfl rfl rfl ?_
            refine r_v (Value.bool (decide (((((ops)[(i1_).toNat]!.2.2.2.2.2.2.1).length : Int) : Int) > 600))) rfl rfl rfl rfl ?_
            refine lx_nil ?_
            refine hK13 _ _ ?_; try clear hK13 K13
            refine A_gen [(0, opsv), (3, Value.int .i64 (i1_)), (37, Value.bool (decide (((((ops)[(i1_).toNat]!.2.2.2.2.2.2.1).length : Int) : Int) > 600)))] rfl (fun T => ?_)
            refine A_cond (decide (((((ops)[(i1_).toNat]!.2.2.2.2.2.2.1).length : Int) : Int) > 600)) rfl (fun hc34 => ?_) (fun hc34 => ?_)
            · replace hM := ifp (of_decide_eq_true hc34) hM
              refine A_seq fun K35 hK35 => ?_
              refine A_reg ?_
              refine r_v (Value.bool (false)) rfl rfl rfl rfl ?_
              refine lx_nil ?_
              refine hK35 _ _ ?_; try clear hK35 K35
              obtain rfl := Option.some.inj hM
              refine A_ret (fun hn => endsV (v0 := Value.bool (false)) rfl (res1 rfl))
            · replace hM := ifn (of_decide_eq_false hc34) hM
              refine A_skip ?_
              refine hK12 _ _ ?_; try clear hK12 K12
              refine A_reg ?_
              refine r_v (Value.int .i64 (i1_)) rfl rfl rfl rfl ?_
              replace hM := ck_some hM; obtain ⟨ck36, hM⟩ := hM
              refine r_v (Value.int .i64 ((i1_ + 1))) rfl rfl (wi64 rfl ck36.1 ck36.2) rfl ?_
              refine r_v (Value.int .i64 ((i1_ + 1))) rfl rfl rfl rfl ?_
              refine lx_nil ?_
              refine fg _ (Sub.of (List.Sublist.slnil)) ?_
              exact ⟨n8 + 1, by omega, n8, (i1_ + 1), hM, is_mk (by first | rfl | (simp only [hg20, hg27]; done) | (simp only [hg20, hg27]; rfl) | (simp only [app_hl]; rfl)) rfl, rfl⟩
          · replace hM := ifp (of_decide_eq_true hg27) hM
            refine r_n true rfl (by decide) rfl ?_
            refine r_n true rfl (by decide) rfl ?_
            refine r_n true rfl (by decide) rfl ?_
            refine r_n true rfl (by decide) rfl ?_
            refine r_n true rfl (by decide) rfl ?_
            refine r_n true rfl (by decide) rfl ?_
            refine r_n true rfl (by decide) rfl ?_
            refine r_v (Value.bool (true)) rfl rfl rfl rfl ?_
            refine lx_nil ?_
            refine hK13 _ _ ?_; try clear hK13 K13
            refine A_gen [(0, opsv), (3, Value.int .i64 (i1_)), (37, Value.bool (true))] rfl (fun T => ?_)
            refine A_cond true rfl (fun _ => ?_) (fun h_ => nomatch h_)
            refine A_seq fun K37 hK37 => ?_
            refine A_reg ?_
            refine r_v (Value.bool (false)) rfl rfl rfl rfl ?_
            refine lx_nil ?_
            refine hK37 _ _ ?_; try clear hK37 K37
            obtain rfl := Option.some.inj hM
            refine A_ret (fun hn => endsV (v0 := Value.bool (false)) rfl (res1 rfl))
        · replace hM := ifp (of_decide_eq_true hg20) hM
          refine r_n true rfl (by decide) rfl ?_
          refine r_n true rfl (by decide) rfl ?_
          refine r_n true rfl (by decide) rfl ?_
          refine r_n true rfl (by decide) rfl ?_
          refine r_n true rfl (by decide) rfl ?_
          refine r_n true rfl (by decide) rfl ?_
          refine r_n true rfl (by decide) rfl ?_
          refine r_v (Value.bool (true)) rfl rfl rfl rfl ?_
          refine r_v (Value.bool (true)) rfl rfl rfl rfl ?_
          refine r_n true rfl (by decide) rfl ?_
          refine r_n true rfl (by decide) rfl ?_
          refine r_n true rfl (by decide) rfl ?_
          refine r_n true rfl (by decide) rfl ?_
          refine r_n true rfl (by decide) rfl ?_
          refine r_n true rfl (by decide) rfl ?_
          refine r_n true rfl (by decide) rfl ?_
          refine r_v (Value.bool (true)) rfl rfl rfl rfl ?_
          refine lx_nil ?_
          refine hK13 _ _ ?_; try clear hK13 K13
          refine A_gen [(0, opsv), (3, Value.int .i64 (i1_)), (37, Value.bool (true))] rfl (fun T => ?_)
          refine A_cond true rfl (fun _ => ?_) (fun h_ => nomatch h_)
          refine A_seq fun K38 hK38 => ?_
          refine A_reg ?_
          refine r_v (Value.bool (false)) rfl rfl rfl rfl ?_
          refine lx_nil ?_
          refine hK38 _ _ ?_; try clear hK38 K38
          obtain rfl := Option.some.inj hM
          refine A_ret (fun hn => endsV (v0 := Value.bool (false)) rfl (res1 rfl))
      · replace hM := ifn (of_decide_eq_false hc11) hM
        refine A_exit ?_
        refine hK6 _ _ ?_; try clear hK6 K6
        refine A_seq fun K39 hK39 => ?_
        refine A_reg ?_
        refine r_v (Value.bool (true)) rfl rfl rfl rfl ?_
        refine lx_nil ?_
        refine hK39 _ _ ?_; try clear hK39 K39
        obtain rfl := Option.some.inj hM
        refine A_ret (fun hn => endsV (v0 := Value.bool (true)) rfl (res1 rfl))
def slices_Clone___byte_byte__m (_ : Nat) (s : List UInt8) : Option (List UInt8) := ck ((([] : List UInt8)).length + (s).length ≤ 140737488355328) (some ((([] : List UInt8) ++ s)))
set_option maxRecDepth 100000 in
set_option maxHeartbeats 8000000 in
theorem slices_Clone___byte_byte__g (N : Nat) (s : List UInt8) (r : List UInt8) (hM : slices_Clone___byte_byte__m N s = some r) (ro : Addr → Option Value) (sv : Value) (hs : Rd encY ro sv s) : Does Try.prog 34 #[sv] ro [] (p1 (fun s_ => s_) 5 encY r) := by
  unfold slices_Clone___byte_byte__m at hM
  refine does_of_A follows Try.func34 rfl 8 rfl (upd (fun _ => undef) 0 (sv)) (by funext k; match k with | 0 => rfl | k + 1 => rfl) (fun base0_ => ?_)
  refine A_seq fun K1 hK1 => ?_
  refine A_reg ?_
  refine r_v (Value.slice none 0 0) rfl rfl rfl rfl ?_
  refine lx_nil ?_
  refine hK1 _ _ ?_; try clear hK1 K1
  refine A_seq fun K2 hK2 => ?_
  refine A_seq fun K3 hK3 => ?_
  refine A_reg ?_
  refine r_v (sv) rfl rfl rfl rfl ?_
  rcases nilS_or (Rd.shp hs) with ⟨hz4, hl5⟩ | hne6
  · obtain rfl := hz4; obtain rfl := List.eq_nil_of_length_eq_zero hl5
    replace hM : (some ([])) = some r := (by first | exact hM | (simp at hM ⊢; exact hM))
    refine r_v (.bool true) rfl rfl rfl rfl ?_
    refine lx_nil ?_
    refine hK3 _ _ ?_; try clear hK3 K3
    refine A_cond true rfl (fun _ => ?_) (fun h_ => nomatch h_)
    refine A_seq fun K15 hK15 => ?_
    refine A_reg ?_
    refine r_v (Value.slice none 0 0) rfl rfl rfl rfl ?_
    refine lx_nil ?_
    refine hK15 _ _ ?_; try clear hK15 K15
    obtain rfl := Option.some.inj hM
    refine A_ret (fun hn => ends1 (v0 := Value.slice none 0 0) Sl.nil (Sub.nil _) rfl (res1 rfl))
  · refine r_v (.bool false) rfl rfl rfl (ev_eqlNil rfl rfl rfl (Rd.shp hs) hne6) ?_
    refine lx_nil ?_
    refine hK3 _ _ ?_; try clear hK3 K3
    refine A_cond false rfl (fun h_ => nomatch h_) (fun _ => ?_)
    refine A_skip ?_
    refine hK2 _ _ ?_; try clear hK2 K2
    refine A_seq fun K7 hK7 => ?_
    refine A_regC [(some 5, false), (some 7, true)] (conG Try.prog []) ?_
    refine r_bs (cs0 := []) (Ls := []) 5 encY ([] : List UInt8) [] [] rfl rfl rfl rfl rfl rfl rfl (by kernel_rfl) (by kernel_rfl) rfl rfl rfl (fun s8 S9 H10 => ?_)
    refine r_v (sv) rfl rfl rfl rfl ?_
    replace hM := ck_some hM; obtain ⟨ck11, hM⟩ := hM
    refine r_app (cs0 := []) (Ls := [S9]) 0 (En := encY) rfl rfl rfl rfl rfl H10 rfl (rd_ro hs) rfl rfl rfl rfl rfl (app_b ck11 rfl) (app_m ck11 rfl) rfl (fun s12 S13 H14 => ?_)
    refine r_v (s12) rfl rfl rfl rfl ?_
    refine lx_nil ?_
    refine hK7 _ _ ?_; try clear hK7 K7
    obtain rfl := Option.some.inj hM
    refine A_ret (fun hn => ends1 (v0 := s12) H14 (sub_one (Sub.pick [S13] [0] rfl)) rfl (res1 rfl))
def vec_mayWidth_m (_ : Nat) (w : Int) : Option (Bool) := if (w : Int) ≥ 1 then some (decide ((w : Int) ≤ 128)) else some (false)
set_option maxRecDepth 100000 in
set_option maxHeartbeats 8000000 in
theorem vec_mayWidth_g (N : Nat) (w : Int) (r : Bool) (hM : vec_mayWidth_m N w = some r) : Gives Try.prog 81 #[Value.int .i64 (w)] (Value.bool (r)) := by
  unfold vec_mayWidth_m at hM
  refine gives_of_A follows Try.func81 rfl 9 rfl (upd (fun _ => undef) 0 (Value.int .i64 (w))) (by funext k; match k with | 0 => rfl | k + 1 => rfl) (fun base0_ => ?_)
  refine A_seq fun K1 hK1 => ?_
  refine A_reg ?_
  refine r_v (Value.bool (false)) rfl rfl rfl rfl ?_
  refine lx_nil ?_
  refine hK1 _ _ ?_; try clear hK1 K1
  refine A_seq fun K2 hK2 => ?_
  refine A_reg ?_
  refine r_v (Value.int .i64 (w)) rfl rfl rfl rfl ?_
  refine r_v (Value.bool (decide ((w : Int) ≥ 1))) rfl rfl rfl rfl ?_
  refine r_v (Value.bool (decide ((w : Int) ≥ 1))) rfl rfl rfl rfl ?_
  rcases hg3 : (decide ((w : Int) ≥ 1)) with _ | _
  · replace hM := ifn (of_decide_eq_false hg3) hM
    refine r_n false rfl (by decide) rfl ?_
    refine r_n false rfl (by decide) rfl ?_
    refine r_v (Value.bool (false)) rfl rfl rfl rfl ?_
    refine r_v (Value.bool (false)) rfl rfl rfl rfl ?_
    refine lx_nil ?_
    refine hK2 _ _ ?_; try clear hK2 K2
    obtain rfl := Option.some.inj hM
    refine A_ret (fun hn => ends_eq (v0 := Value.bool (false)) rfl (res1 rfl))
  · replace hM := ifp (of_decide_eq_true hg3) hM
    refine r_y rfl ?_
    refine r_v (Value.int .i64 (w)) rfl rfl rfl rfl ?_
    refine r_y rfl ?_
    refine r_v (Value.bool (decide ((w : Int) ≤ 128))) rfl rfl rfl rfl ?_
    refine r_v (Value.bool (decide ((w : Int) ≤ 128))) rfl rfl rfl rfl ?_
    refine r_v (Value.bool (decide ((w : Int) ≤ 128))) rfl rfl rfl rfl ?_
    refine lx_nil ?_
    refine hK2 _ _ ?_; try clear hK2 K2
    obtain rfl := Option.some.inj hM
    refine A_ret (fun hn => ends_eq (v0 := Value.bool (decide ((w : Int) ≤ 128))) rfl (res1 rfl))
def vec_Word_m (_ : Nat) (_ : Int) (v_1 : BitVec 128) : Option (BitVec 128) := some (v_1)
set_option maxRecDepth 100000 in
set_option maxHeartbeats 8000000 in
theorem vec_Word_g (N : Nat) (v_0 : Int) (v_1 : BitVec 128) (r : BitVec 128) (hM : vec_Word_m N v_0 v_1 = some r) : Gives Try.prog 76 #[Value.agg #[Value.int .i64 (v_0), U (hi (v_1)), U (lo (v_1))]] (Value.agg #[U (hi (r)), U (lo (r))]) := by
  unfold vec_Word_m at hM
  refine gives_of_A follows Try.func76 rfl 8 rfl (upd (fun _ => undef) 0 (Value.agg #[Value.int .i64 (v_0), U (hi (v_1)), U (lo (v_1))])) (by funext k; match k with | 0 => rfl | k + 1 => rfl) (fun base0_ => ?_)
  refine A_seq fun K1 hK1 => ?_
  refine A_reg ?_
  refine r_a (30, #[Value.int .i64 (v_0), U (hi (v_1)), U (lo (v_1))]) rfl rfl rfl (fun b2 => ?_) (.inr rfl)
  refine r_a (111, #[U (0#64), U (0#64)]) rfl rfl rfl (fun b3 => ?_) (.inr rfl)
  refine lx_nil ?_
  refine hK1 _ _ ?_; try clear hK1 K1
  refine A_seq fun K4 hK4 => ?_
  refine A_reg ?_
  refine r_v (Value.pointer (some ⟨b2, 1, none⟩)) rfl rfl rfl rfl ?_
  refine r_l (U (hi (v_1))) 1 _ _ _ _ rfl rfl rfl rfl rfl ?_
  refine r_v (Value.pointer (some ⟨b2, 2, none⟩)) rfl rfl rfl rfl ?_
  refine r_l (U (lo (v_1))) 1 _ _ _ _ rfl rfl rfl rfl rfl ?_
  refine r_v (Value.agg #[U (hi (v_1)), U (lo (v_1))]) rfl rfl rfl (ev_buildS rfl rfl rfl rfl) ?_
  refine r_s [(b3, 111, #[U (hi (v_1)), U (lo (v_1))]), (b2, 30, #[Value.int .i64 (v_0), U (hi (v_1)), U (lo (v_1))])] 0 _ _ _ (#[U (0#64), U (0#64)]) (#[U (hi (v_1)), U (lo (v_1))]) (#[U (hi (v_1)), U (lo (v_1))]) rfl rfl rfl rfl (.of rfl rfl) rfl rfl ?_
  refine lx_nil ?_
  refine hK4 _ _ ?_; try clear hK4 K4
  obtain rfl := Option.some.inj hM
  refine A_ret (fun hn => ends_eq (v0 := Value.agg #[U (hi (v_1)), U (lo (v_1))]) rfl (res1 (res_cell hn 0 rfl rfl rfl)))
def vec_May_m (N : Nat) (v_0 : Int) (v_1 : BitVec 128) : Option (Bool) := (vec_mayWidth_m N v_0).bind fun r4 => if (r4) = true then (vec_Word_m N v_0 v_1).bind fun r7 => some (decide ((((len128 (r7) : Nat) : Int) : Int) ≤ v_0)) else some (false)
set_option maxRecDepth 100000 in
set_option maxHeartbeats 8000000 in
theorem vec_May_g (N : Nat) (v_0 : Int) (v_1 : BitVec 128) (r : Bool) (hM : vec_May_m N v_0 v_1 = some r) : Gives Try.prog 74 #[Value.agg #[Value.int .i64 (v_0), U (hi (v_1)), U (lo (v_1))]] (Value.bool (r)) := by
  unfold vec_May_m at hM
  refine gives_of_A follows Try.func74 rfl 14 rfl (upd (fun _ => undef) 0 (Value.agg #[Value.int .i64 (v_0), U (hi (v_1)), U (lo (v_1))])) (by funext k; match k with | 0 => rfl | k + 1 => rfl) (fun base0_ => ?_)
  refine A_seq fun K1 hK1 => ?_
  refine A_reg ?_
  refine r_a (30, #[Value.int .i64 (v_0), U (hi (v_1)), U (lo (v_1))]) rfl rfl rfl (fun b2 => ?_) (.inr rfl)
  refine r_v (Value.bool (false)) rfl rfl rfl rfl ?_
  refine lx_nil ?_
  refine hK1 _ _ ?_; try clear hK1 K1
  refine A_seq fun K3 hK3 => ?_
  refine A_draw [] (by decide +kernel) (fun hn => sep_nil) ?_
  refine r_v (Value.pointer (some ⟨b2, 0, none⟩)) rfl rfl rfl rfl ?_
  refine r_l (Value.int .i64 (v_0)) 0 _ _ _ _ rfl rfl rfl rfl rfl ?_
  replace hM := bind_sm hM; obtain ⟨r4, hr5, hM⟩ := hM
  refine r_c (Value.bool (r4)) rfl _ _ (ev_callF rfl call_81 rfl) (vec_mayWidth_g N v_0 _ hr5) ?_
  refine r_v (Value.bool (r4)) rfl rfl rfl rfl ?_
  rcases hg6 : (r4) with _ | _
  · replace hM := ifn (Bool.eq_false_iff.1 hg6) hM
    refine r_n false rfl (by decide) rfl ?_
    refine r_n false rfl (by decide) rfl ?_
    refine r_n false rfl (by decide) rfl ?_
    refine r_n false rfl (by decide) rfl ?_
    refine r_n false rfl (by decide) rfl ?_
    refine r_n false rfl (by decide) rfl ?_
    refine r_v (Value.bool (false)) rfl rfl rfl rfl ?_
    refine r_v (Value.bool (false)) rfl rfl rfl rfl ?_
    refine lx_nil ?_
    refine hK3 _ _ ?_; try clear hK3 K3
    obtain rfl := Option.some.inj hM
    refine A_ret (fun hn => ends_eq (v0 := Value.bool (false)) rfl (res1 rfl))
  · replace hM := ifp hg6 hM
    refine r_y rfl ?_
    refine r_l (Value.agg #[Value.int .i64 (v_0), U (hi (v_1)), U (lo (v_1))]) 0 _ _ _ _ rfl rfl rfl rfl rfl ?_
    refine r_y rfl ?_
    replace hM := bind_sm hM; obtain ⟨r7, hr8, hM⟩ := hM
    refine r_c (Value.agg #[U (hi (r7)), U (lo (r7))]) rfl _ _ (ev_callF rfl call_76 rfl) (vec_Word_g N v_0 v_1 _ hr8) ?_
    refine r_y rfl ?_
    refine r_c (Value.int .i64 (((len128 (r7) : Nat) : Int))) rfl _ _ (ev_callF rfl call_83 rfl) (len_g (r7)) ?_
    refine r_y rfl ?_
    refine r_v (Value.pointer (some ⟨b2, 0, none⟩)) rfl rfl rfl rfl ?_
    refine r_y rfl ?_
    refine r_l (Value.int .i64 (v_0)) 0 _ _ _ _ rfl rfl rfl rfl rfl ?_
    refine r_y rfl ?_
    refine r_v (Value.bool (decide ((((len128 (r7) : Nat) : Int) : Int) ≤ v_0))) rfl rfl rfl rfl ?_
    refine r_v (Value.bool (decide ((((len128 (r7) : Nat) : Int) : Int) ≤ v_0))) rfl rfl rfl rfl ?_
    refine r_v (Value.bool (decide ((((len128 (r7) : Nat) : Int) : Int) ≤ v_0))) rfl rfl rfl rfl ?_
    refine lx_nil ?_
    refine hK3 _ _ ?_; try clear hK3 K3
    obtain rfl := Option.some.inj hM
    refine A_ret (fun hn => ends_eq (v0 := Value.bool (decide ((((len128 (r7) : Nat) : Int) : Int) ≤ v_0))) rfl (res1 rfl))
def wire_lowest_v1_l3 (x : BitVec 128) (count : Int) : Nat → List UInt8 → Int → Option (List UInt8)
  | 0, _, _ => none
  | n5 + 1, b1_, x2_ => if (x2_ : Int) < count then ck ((-9223372036854775808 ≤ (count - 1) ∧ (count - 1) ≤ 9223372036854775807)) (ck ((-9223372036854775808 ≤ ((count - 1) - x2_) ∧ ((count - 1) - x2_) ≤ 9223372036854775807)) (ck ((-9223372036854775808 ≤ (8 * ((count - 1) - x2_)) ∧ (8 * ((count - 1) - x2_)) ≤ 9223372036854775807)) (ck (-9223372036854775808 ≤ ((8 * ((count - 1) - x2_)) : Int) ∧ ((8 * ((count - 1) - x2_)) : Int) ≤ 9223372036854775807) (ck ((b1_).length + ([(byteU (lo (shiftI (x) (-((8 * ((count - 1) - x2_)))))))]).length ≤ 140737488355328) (ck ((-9223372036854775808 ≤ (x2_ + 1) ∧ (x2_ + 1) ≤ 9223372036854775807)) ((wire_lowest_v1_l3 x count n5) ((b1_ ++ ([(byteU (lo (shiftI (x) (-((8 * ((count - 1) - x2_)))))))]))) ((x2_ + 1)))))))) else some (b1_)
def wire_lowest_v1_m (N : Nat) (b : List UInt8) (x : BitVec 128) (count : Int) : Option (List UInt8) := wire_lowest_v1_l3 x count N (b) (0)
set_option maxRecDepth 100000 in
set_option maxHeartbeats 8000000 in
theorem wire_lowest_v1_g (N : Nat) (b : List UInt8) (x : BitVec 128) (count : Int) (r : List UInt8) (hM : wire_lowest_v1_m N b x count = some r) (ro : Addr → Option Value) (bv : Value) (Sb : List Bl) (hb : Sl 5 encY bv b Sb) : Does Try.prog 75 #[bv, Value.agg #[U (hi (x)), U (lo (x))], Value.int .i64 (count)] ro (List.flatten [Sb]) (pO (List.flatten [Sb]) (oS 5 encY r fun s_0 => (oE (s_0) []))) := by
  unfold wire_lowest_v1_m at hM
  refine doesO_of_A follows Try.func75 rfl 26 rfl (upd (upd (upd (fun _ => undef) 2 (Value.int .i64 (count))) 1 (Value.agg #[U (hi (x)), U (lo (x))])) 0 (bv)) (by funext k; match k with | 0 => rfl | 1 => rfl | 2 => rfl | k + 3 => rfl) (fun _ _ h_ _ => h_) (fun base0_ => ?_)
  refine A_seq fun K1 hK1 => ?_
  refine A_reg ?_
  refine r_a (111, #[U (hi (x)), U (lo (x))]) rfl rfl rfl (fun b2 => ?_) (.inr rfl)
  refine r_v (Value.slice none 0 0) rfl rfl rfl rfl ?_
  refine lx_nil ?_
  refine hK1 _ _ ?_; try clear hK1 K1
  refine A_seq fun K3 hK3 => ?_
  refine A_seq fun K4 hK4 => ?_
  refine A_reg ?_
  refine r_v (Value.int .i64 (count)) rfl rfl rfl rfl ?_
  refine r_v (Value.int .i64 (0)) rfl rfl rfl rfl ?_
  refine lx_nil ?_
  refine hK4 _ _ ?_; try clear hK4 K4
  refine A_block ?_
  refine A_forget _ (Sub.pick [[(b2, 111, #[U (hi (x)), U (lo (x))])], Sb] [0, 1] rfl) ?_
  refine A_loop (fun tt ll nn => ∃ (n5 : Nat) (b1_ : List UInt8) (x2_ : Int), (wire_lowest_v1_l3 x count n5 b1_ x2_ = some r) ∧ ∃ (vb1_ : Value) (Sb1_ : List Bl), Sl 5 encY vb1_ b1_ Sb1_ ∧ Is [(0, vb1_), (2, Value.int .i64 (count)), (4, Value.pointer (some ⟨b2, 0, none⟩)), (8, Value.int .i64 (count)), (9, Value.int .i64 (x2_))] (List.flatten [[(b2, 111, #[U (hi (x)), U (lo (x))])], Sb1_]) tt ll ∧ nn = n5 + 1) (N + 1) ?_ ?_
  · exact ⟨N, b, 0, hM, bv, Sb, hb, is_mk rfl rfl, rfl⟩
  · clear hM; rintro t l _ ⟨n5, b1_, x2_, hM, vb1_, Sb1_, hb1_, ⟨⟨T, rfl⟩, rfl⟩, rfl⟩
    rcases n5 with _ | n5
    · exact absurd hM (by simp [wire_lowest_v1_l3])
    rw [wire_lowest_v1_l3] at hM
    refine A_seq fun K6 hK6 => ?_
    refine A_reg ?_
    refine r_v (Value.bool (decide ((x2_ : Int) < count))) rfl rfl rfl rfl ?_
    refine lx_nil ?_
    refine hK6 _ _ ?_; try clear hK6 K6
    refine A_seq fun K7 hK7 => ?_
    refine A_cond (decide ((x2_ : Int) < count)) rfl (fun hc8 => ?_) (fun hc8 => ?_)
    · replace hM := ifp (of_decide_eq_true hc8) hM
      refine A_skip ?_
      refine hK7 _ _ ?_; try clear hK7 K7
      refine A_seq fun K9 hK9 => ?_
      refine A_block ?_
      refine A_seq fun K10 hK10 => ?_
      refine A_reg ?_
      refine r_v (Value.int .i64 (x2_)) rfl rfl rfl rfl ?_
      refine r_v (Value.int .i64 (x2_)) rfl rfl rfl rfl ?_
      refine lx_nil ?_
      refine hK10 _ _ ?_; try clear hK10 K10
      refine A_regC [(some 22, false), (some 23, true)] (conG Try.prog []) ?_
      refine r_v (vb1_) rfl rfl rfl rfl ?_
      refine r_l (Value.agg #[U (hi (x)), U (lo (x))]) 0 _ _ _ _ rfl rfl rfl rfl rfl ?_
      refine r_v (Value.int .i64 (count)) rfl rfl rfl rfl ?_
      replace hM := ck_some hM; obtain ⟨ck11, hM⟩ := hM
      refine r_v (Value.int .i64 ((count - 1))) rfl rfl (wi64 rfl ck11.1 ck11.2) rfl ?_
      refine r_v (Value.int .i64 (x2_)) rfl rfl rfl rfl ?_
      replace hM := ck_some hM; obtain ⟨ck12, hM⟩ := hM
      refine r_v (Value.int .i64 (((count - 1) - x2_))) rfl rfl (wi64 rfl ck12.1 ck12.2) rfl ?_
      replace hM := ck_some hM; obtain ⟨ck13, hM⟩ := hM
      refine r_v (Value.int .i64 ((8 * ((count - 1) - x2_)))) rfl rfl (wi64 rfl ck13.1 ck13.2) rfl ?_
      replace hM := ck_some hM; obtain ⟨ck14, hM⟩ := hM
      refine r_c (Value.agg #[U (hi (shiftI (x) (-((8 * ((count - 1) - x2_)))))), U (lo (shiftI (x) (-((8 * ((count - 1) - x2_))))))]) rfl _ _ (ev_callF rfl call_84 rfl) (shr_g (x) ((8 * ((count - 1) - x2_))) ck14.1 ck14.2) ?_
      refine r_v (U (lo (shiftI (x) (-((8 * ((count - 1) - x2_))))))) rfl rfl rfl rfl ?_
      refine r_w (Value.int .u8 ((((byteU (lo (shiftI (x) (-((8 * ((count - 1) - x2_))))))).toNat : Nat) : Int))) rfl rfl (u64_u8 (lo (shiftI (x) (-((8 * ((count - 1) - x2_))))))) (fun _ => rfl) ?_
      refine r_bs (cs0 := []) (Ls := [[(b2, 111, #[U (hi (x)), U (lo (x))])], Sb1_]) 5 encY [(byteU (lo (shiftI (x) (-((8 * ((count - 1) - x2_)))))))] [Value.int .u8 ((((byteU (lo (shiftI (x) (-((8 * ((count - 1) - x2_))))))).toNat : Nat) : Int))] [Value.int .u8 (0)] rfl rfl rfl rfl rfl rfl rfl (by kernel_rfl) (by kernel_rfl) rfl rfl rfl (fun s15 S16 H17 => ?_)
      replace hM := ck_some hM; obtain ⟨ck18, hM⟩ := hM
      refine r_app (cs0 := []) (Ls := [[(b2, 111, #[U (hi (x)), U (lo (x))])], Sb1_, S16]) 1 (En := encY) rfl rfl rfl rfl rfl hb1_ rfl (rd_own H17 (mem_chunk (Ls := [[(b2, 111, #[U (hi (x)), U (lo (x))])], Sb1_, S16]) (k := 2) rfl rfl)) rfl rfl rfl rfl rfl (app_b ck18 rfl) (app_m ck18 rfl) rfl (fun s19 S20 H21 => ?_)
      refine r_v (s19) rfl rfl rfl rfl ?_
      refine lx_nil ?_
      refine hK9 _ _ ?_; try clear hK9 K9
      refine A_reg ?_
      replace hM := ck_some hM; obtain ⟨ck22, hM⟩ := hM
      refine r_v (Value.int .i64 ((x2_ + 1))) rfl rfl (wi64 rfl ck22.1 ck22.2) rfl ?_
      refine r_v (Value.int .i64 ((x2_ + 1))) rfl rfl rfl rfl ?_
      refine lx_nil ?_
      refine fg _ (Sub.pick [[(b2, 111, #[U (hi (x)), U (lo (x))])], S20, S16] [0, 1] rfl) ?_
      exact ⟨n5 + 1, by omega, n5, (b1_ ++ ([(byteU (lo (shiftI (x) (-((8 * ((count - 1) - x2_)))))))])), (x2_ + 1), hM, s19, S20, H21, is_mk rfl rfl, rfl⟩
    · replace hM := ifn (of_decide_eq_false hc8) hM
      refine A_exit ?_
      refine hK3 _ _ ?_; try clear hK3 K3
      refine A_seq fun K23 hK23 => ?_
      refine A_reg ?_
      refine r_v (vb1_) rfl rfl rfl rfl ?_
      refine r_v (vb1_) rfl rfl rfl rfl ?_
      refine lx_nil ?_
      refine hK23 _ _ ?_; try clear hK23 K23
      obtain rfl := Option.some.inj hM
      refine A_ret (fun hn => endsO (v0 := vb1_) (O := [Sb1_]) (res1 rfl) (Sub.pick [[(b2, 111, #[U (hi (x)), U (lo (x))])], Sb1_] [1] rfl) ⟨vb1_, Sb1_, _, hb1_, ⟨rfl, rfl⟩, rfl⟩)
def wire_number_v1_m (N : Nat) (b : List UInt8) (n : Int) (count : Int) : Option (List UInt8) := (wire_lowest_v1_m N b ((0#64) ++ (BitVec.ofInt 64 (n))) count).bind fun r3 => some (r3)
set_option maxRecDepth 100000 in
set_option maxHeartbeats 8000000 in
theorem wire_number_v1_g (N : Nat) (b : List UInt8) (n : Int) (count : Int) (r : List UInt8) (hM : wire_number_v1_m N b n count = some r) (ro : Addr → Option Value) (bv : Value) (Sb : List Bl) (hb : Sl 5 encY bv b Sb) : Does Try.prog 53 #[bv, Value.int .i64 (n), Value.int .i64 (count)] ro (List.flatten [Sb]) (pO (List.flatten [Sb]) (oS 5 encY r fun s_0 => (oE (s_0) []))) := by
  unfold wire_number_v1_m at hM
  refine doesO_of_A follows Try.func53 rfl 13 rfl (upd (upd (upd (fun _ => undef) 2 (Value.int .i64 (count))) 1 (Value.int .i64 (n))) 0 (bv)) (by funext k; match k with | 0 => rfl | 1 => rfl | 2 => rfl | k + 3 => rfl) (fun _ _ h_ _ => h_) (fun base0_ => ?_)
  refine A_seq fun K1 hK1 => ?_
  refine A_reg ?_
  refine r_v (Value.slice none 0 0) rfl rfl rfl rfl ?_
  refine lx_nil ?_
  refine hK1 _ _ ?_; try clear hK1 K1
  refine A_seq fun K2 hK2 => ?_
  refine A_regC [(some 12, true)] (conG Try.prog [(12, fun _ _ v_ L_ U_ => ∀ u0_, wire_lowest_v1_m N b ((0#64) ++ (BitVec.ofInt 64 (n))) count = some u0_ → (pO (List.flatten [Sb]) (oS 5 encY u0_ fun s_0 => (oE (s_0) []))) v_ L_ U_)]) ?_
  refine r_v (bv) rfl rfl rfl rfl ?_
  refine r_v (Value.int .i64 (n)) rfl rfl rfl rfl ?_
  refine r_w (U (BitVec.ofInt 64 (n))) rfl rfl (U_wrapI (n)) (fun _ => rfl) ?_
  refine r_v (Value.agg #[U (0#64), U (BitVec.ofInt 64 (n))]) rfl rfl rfl (ev_buildS rfl rfl rfl rfl) ?_
  refine r_v (Value.int .i64 (count)) rfl rfl rfl rfl ?_
  replace hM := bind_sm hM; obtain ⟨r3, hr4, hM⟩ := hM
  refine r_gm (Ls := [Sb]) (FL := [Sb]) (RL := []) [0] (oS 5 encY r3 fun s_0 => (oE (s_0) [])) (some 12) 75 _ rfl rfl rfl rfl rfl (ev_callF rfl call_75 rfl) (fun own_ nw_ hn_ hs_ => (by have h_ := wire_lowest_v1_g N b ((0#64) ++ (BitVec.ofInt 64 (n))) count _ hr4 (sans hs_.view (([Sb]).flatten.map (·.1))) bv Sb hb; simp only [app_hl] at h_; exact h_)) (fun _ _ v_ L_ U_ => ⟨fun h_ => h_ _ hr4, fun h_ => by intro _ e_; cases Option.some.inj (e_.symm.trans hr4); exact h_⟩) (fun h_ => nomatch h_) ?_
  rintro s5 _ ⟨_, S6, _, H7, ⟨rfl, rfl⟩, rfl⟩
  refine lx_perm (Ls := [S6]) (Ls' := [S6]) [0] rfl rfl ?_
  refine r_v (s5) rfl rfl rfl rfl ?_
  refine lx_nil ?_
  refine hK2 _ _ ?_; try clear hK2 K2
  obtain rfl := Option.some.inj hM
  refine A_ret (fun hn => endsO (v0 := s5) (O := [S6]) (res1 rfl) (Sub.pick [S6] [0] rfl) ⟨s5, S6, _, H7, ⟨rfl, rfl⟩, rfl⟩)
def wire_holding_m (_ : Nat) (w : Int) : Option (Int) := ck ((-9223372036854775808 ≤ (w + 8) ∧ (w + 8) ≤ 9223372036854775807)) (ck ((-9223372036854775808 ≤ ((w + 8) - 1) ∧ ((w + 8) - 1) ≤ 9223372036854775807)) (ck (0 ≤ ((w + 8) - 1) ∧ ((w + 8) - 1) ≤ 9223372036854775807) (some ((((w + 8) - 1)) / 8))))
set_option maxRecDepth 100000 in
set_option maxHeartbeats 8000000 in
theorem wire_holding_g (N : Nat) (w : Int) (r : Int) (hM : wire_holding_m N w = some r) : Gives Try.prog 71 #[Value.int .i64 (w)] (Value.int .i64 (r)) := by
  unfold wire_holding_m at hM
  refine gives_of_A follows Try.func71 rfl 7 rfl (upd (fun _ => undef) 0 (Value.int .i64 (w))) (by funext k; match k with | 0 => rfl | k + 1 => rfl) (fun base0_ => ?_)
  refine A_seq fun K1 hK1 => ?_
  refine A_reg ?_
  refine r_v (Value.int .i64 (0)) rfl rfl rfl rfl ?_
  refine lx_nil ?_
  refine hK1 _ _ ?_; try clear hK1 K1
  refine A_seq fun K2 hK2 => ?_
  refine A_reg ?_
  refine r_v (Value.int .i64 (w)) rfl rfl rfl rfl ?_
  replace hM := ck_some hM; obtain ⟨ck3, hM⟩ := hM
  refine r_v (Value.int .i64 ((w + 8))) rfl rfl (wi64 rfl ck3.1 ck3.2) rfl ?_
  replace hM := ck_some hM; obtain ⟨ck4, hM⟩ := hM
  refine r_v (Value.int .i64 (((w + 8) - 1))) rfl rfl (wi64 rfl ck4.1 ck4.2) rfl ?_
  replace hM := ck_some hM; obtain ⟨ck5, hM⟩ := hM
  refine r_v (Value.int .i64 ((((w + 8) - 1)) / 8)) rfl rfl (quo_i64 ck5.1 (by decide) ck5.2) rfl ?_
  refine r_v (Value.int .i64 ((((w + 8) - 1)) / 8)) rfl rfl rfl rfl ?_
  refine lx_nil ?_
  refine hK2 _ _ ?_; try clear hK2 K2
  obtain rfl := Option.some.inj hM
  refine A_ret (fun hn => ends_eq (v0 := Value.int .i64 ((((w + 8) - 1)) / 8)) rfl (res1 rfl))
def wire_row_v1_m (N : Nat) (b : List UInt8) (v_0 : Int) (v_1 : BitVec 128) : Option (List UInt8) := (vec_May_m N v_0 v_1).bind fun r5 => if (r5) = true then (wire_number_v1_m N b v_0 1).bind fun r15 => (vec_Word_m N v_0 v_1).bind fun r20 => (wire_holding_m N v_0).bind fun r22 => (wire_lowest_v1_m N r15 r20 r22).bind fun r27 => some (r27) else (wire_number_v1_m N b 0 1).bind fun r9 => some (r9)
set_option maxRecDepth 100000 in
set_option maxHeartbeats 8000000 in
theorem wire_row_v1_g (N : Nat) (b : List UInt8) (v_0 : Int) (v_1 : BitVec 128) (r : List UInt8) (hM : wire_row_v1_m N b v_0 v_1 = some r) (ro : Addr → Option Value) (bv : Value) (Sb : List Bl) (hb : Sl 5 encY bv b Sb) : Does Try.prog 52 #[bv, Value.agg #[Value.int .i64 (v_0), U (hi (v_1)), U (lo (v_1))]] ro (List.flatten [Sb]) (pO (List.flatten [Sb]) (oS 5 encY r fun s_0 => (oE (s_0) []))) := by
  unfold wire_row_v1_m at hM
  refine doesO_of_A follows Try.func52 rfl 20 rfl (upd (upd (fun _ => undef) 1 (Value.agg #[Value.int .i64 (v_0), U (hi (v_1)), U (lo (v_1))])) 0 (bv)) (by funext k; match k with | 0 => rfl | 1 => rfl | k + 2 => rfl) (fun _ _ h_ _ => h_) (fun base0_ => ?_)
  refine A_seq fun K1 hK1 => ?_
  refine A_reg ?_
  refine r_a (30, #[Value.int .i64 (v_0), U (hi (v_1)), U (lo (v_1))]) rfl rfl rfl (fun b2 => ?_) (.inr rfl)
  refine r_v (Value.slice none 0 0) rfl rfl rfl rfl ?_
  refine lx_nil ?_
  refine hK1 _ _ ?_; try clear hK1 K1
  refine A_seq fun K3 hK3 => ?_
  refine A_seq fun K4 hK4 => ?_
  refine A_reg ?_
  refine r_l (Value.agg #[Value.int .i64 (v_0), U (hi (v_1)), U (lo (v_1))]) 0 _ _ _ _ rfl rfl rfl rfl rfl ?_
  replace hM := bind_sm hM; obtain ⟨r5, hr6, hM⟩ := hM
  refine r_c (Value.bool (r5)) rfl _ _ (ev_callF rfl call_74 rfl) (vec_May_g N v_0 v_1 _ hr6) ?_
  refine r_v (Value.bool (!(r5))) rfl rfl rfl rfl ?_
  refine lx_nil ?_
  refine hK4 _ _ ?_; try clear hK4 K4
  refine A_cond (!(r5)) rfl (fun hc7 => ?_) (fun hc7 => ?_)
  · replace hM := ifn (Bool.eq_false_iff.1 (not_t hc7)) hM
    refine A_seq fun K8 hK8 => ?_
    refine A_regC [(some 9, true)] (conG Try.prog [(9, fun _ _ v_ L_ U_ => ∀ u0_, wire_number_v1_m N b 0 1 = some u0_ → (pO (List.flatten [Sb]) (oS 5 encY u0_ fun s_0 => (oE (s_0) []))) v_ L_ U_)]) ?_
    refine r_v (bv) rfl rfl rfl rfl ?_
    replace hM := bind_sm hM; obtain ⟨r9, hr10, hM⟩ := hM
    refine r_gm (Ls := [[(b2, 30, #[Value.int .i64 (v_0), U (hi (v_1)), U (lo (v_1))])], Sb]) (FL := [Sb]) (RL := [[(b2, 30, #[Value.int .i64 (v_0), U (hi (v_1)), U (lo (v_1))])]]) [1] (oS 5 encY r9 fun s_0 => (oE (s_0) [])) (some 9) 53 _ rfl rfl rfl rfl rfl (ev_callF rfl call_53 rfl) (fun own_ nw_ hn_ hs_ => wire_number_v1_g N b 0 1 _ hr10 _ bv Sb hb) (fun _ _ v_ L_ U_ => ⟨fun h_ => h_ _ hr10, fun h_ => by intro _ e_; cases Option.some.inj (e_.symm.trans hr10); exact h_⟩) (fun h_ => nomatch h_) ?_
    rintro s11 _ ⟨_, S12, _, H13, ⟨rfl, rfl⟩, rfl⟩
    refine lx_perm (Ls := [[(b2, 30, #[Value.int .i64 (v_0), U (hi (v_1)), U (lo (v_1))])], S12]) (Ls' := [[(b2, 30, #[Value.int .i64 (v_0), U (hi (v_1)), U (lo (v_1))])], S12]) [0, 1] rfl rfl ?_
    refine r_v (s11) rfl rfl rfl rfl ?_
    refine lx_nil ?_
    refine hK8 _ _ ?_; try clear hK8 K8
    obtain rfl := Option.some.inj hM
    refine A_ret (fun hn => endsO (v0 := s11) (O := [S12]) (res1 rfl) (Sub.pick [[(b2, 30, #[Value.int .i64 (v_0), U (hi (v_1)), U (lo (v_1))])], S12] [1] rfl) ⟨s11, S12, _, H13, ⟨rfl, rfl⟩, rfl⟩)
  · replace hM := ifp (not_f hc7) hM
    refine A_skip ?_
    refine hK3 _ _ ?_; try clear hK3 K3
    refine A_seq fun K14 hK14 => ?_
    refine A_drawH (Ls := [[(b2, 30, #[Value.int .i64 (v_0), U (hi (v_1)), U (lo (v_1))])], Sb]) [(some 13, true), (some 19, true), (some 1000000014, true)] [(13, fun _ _ v_ L_ U_ => (pH ((List.flatten [Sb]).map (·.1)) (fun v_ L_ U_ => ∀ u0_, wire_number_v1_m N b v_0 1 = some u0_ → (pO (List.flatten [Sb]) (oS 5 encY u0_ fun s_0 => (oE (s_0) []))) v_ L_ U_) v_ L_ U_)), (19, fun a_ _ v_ L_ U_ => ∀ u0_, wire_number_v1_m N b v_0 1 = some u0_ → ∀ u1_, vec_Word_m N v_0 v_1 = some u1_ → ∀ u2_, wire_holding_m N v_0 = some u2_ → ∀ u3_, wire_lowest_v1_m N u0_ u1_ u2_ = some u3_ → (pN (List.flatten [blkS (argAt a_ 1)]) (oS 5 encY u3_ fun s_0 => (oE (s_0) []))) v_ L_ U_)] [1] [0] [] (by decide +kernel) (fun hn => sep_nil) (by decide +kernel) rfl (⟨.inr (fun _ _ _ _ _ h_ => pH_hid (pick_sub (Ls := [[(b2, 30, #[Value.int .i64 (v_0), U (hi (v_1)), U (lo (v_1))])], Sb]) (is := [1]) (js := [1]) rfl) h_), ⟨.inl rfl, trivial⟩⟩) (fun hnb_ => ?_)
    refine r_v (bv) rfl rfl rfl rfl ?_
    refine r_v (Value.pointer (some ⟨b2, 0, none⟩)) rfl rfl rfl rfl ?_
    refine r_lH (Value.int .i64 (v_0)) 0 _ _ _ _ rfl rfl rfl rfl rfl (hnb_ b2 (List.mem_of_getElem? (i := 0) rfl)) ?_
    replace hM := bind_sm hM; obtain ⟨r15, hr16, hM⟩ := hM
    refine r_gm (Ls := [[(b2, 30, #[Value.int .i64 (v_0), U (hi (v_1)), U (lo (v_1))])], Sb]) (FL := [Sb]) (RL := [[(b2, 30, #[Value.int .i64 (v_0), U (hi (v_1)), U (lo (v_1))])]]) [1] (oS 5 encY r15 fun s_0 => (oE (s_0) [])) (some 13) 53 _ rfl rfl rfl rfl rfl (ev_callF rfl call_53 rfl) (fun own_ nw_ hn_ hs_ => wire_number_v1_g N b v_0 1 _ hr16 _ bv Sb hb) (fun a_ c_ v_ L_ U_ => pH_iff (q := fun v_ L_ U_ => ∀ u0_, wire_number_v1_m N b v_0 1 = some u0_ → (pO (List.flatten [Sb]) (oS 5 encY u0_ fun s_0 => (oE (s_0) []))) v_ L_ U_) ((fun _ _ v_ L_ U_ => ⟨fun h_ => h_ _ hr16, fun h_ => by intro _ e_; cases Option.some.inj (e_.symm.trans hr16); exact h_⟩) a_ c_ v_ L_ U_)) (fun _ => (NiceO.sub (R := []) (niceS fun s_0 => (niceE rfl)) (Sub.pick [Sb] [] rfl))) ?_
    rintro s17 _ ⟨_, S18, _, H19, ⟨rfl, rfl⟩, rfl⟩
    refine lx_perm (Ls := [[(b2, 30, #[Value.int .i64 (v_0), U (hi (v_1)), U (lo (v_1))])], S18]) (Ls' := [[(b2, 30, #[Value.int .i64 (v_0), U (hi (v_1)), U (lo (v_1))])], S18]) [0, 1] rfl rfl ?_
    refine r_lH (Value.agg #[Value.int .i64 (v_0), U (hi (v_1)), U (lo (v_1))]) 0 _ _ _ _ rfl rfl rfl rfl rfl (hnb_ b2 (List.mem_of_getElem? (i := 0) rfl)) ?_
    replace hM := bind_sm hM; obtain ⟨r20, hr21, hM⟩ := hM
    refine r_c (Value.agg #[U (hi (r20)), U (lo (r20))]) rfl _ _ (ev_callF rfl call_76 rfl) (vec_Word_g N v_0 v_1 _ hr21) ?_
    refine r_v (Value.pointer (some ⟨b2, 0, none⟩)) rfl rfl rfl rfl ?_
    refine r_lH (Value.int .i64 (v_0)) 0 _ _ _ _ rfl rfl rfl rfl rfl (hnb_ b2 (List.mem_of_getElem? (i := 0) rfl)) ?_
    replace hM := bind_sm hM; obtain ⟨r22, hr23, hM⟩ := hM
    refine r_c (Value.int .i64 (r22)) rfl _ _ (ev_callF rfl call_71 rfl) (wire_holding_g N v_0 _ hr23) ?_
    refine lx_canon (Ls := [[(b2, 30, #[Value.int .i64 (v_0), U (hi (v_1)), U (lo (v_1))])], S18]) trivial 1 rfl H19 (fun S24 H25 hn26 => ?_)
    replace hM := bind_sm hM; obtain ⟨r27, hr28, hM⟩ := hM
    refine r_gmL (Ls := [[(b2, 30, #[Value.int .i64 (v_0), U (hi (v_1)), U (lo (v_1))])], S24]) (FL := [S24]) (RL := [[(b2, 30, #[Value.int .i64 (v_0), U (hi (v_1)), U (lo (v_1))])]]) [1] (oS 5 encY r27 fun s_0 => (oE (s_0) [])) (some 19) 75 _ (pc := fun a_ => pN (List.flatten [blkS (argAt a_ 1)]) (oS 5 encY r27 fun s_0 => (oE (s_0) []))) rfl rfl rfl rfl rfl (ev_callF rfl call_75 rfl) (fun own_ nw_ hn_ hs_ => wire_lowest_v1_g N r15 r20 r22 _ hr28 _ s17 S24 H25) (fun _ _ v_ L_ U_ => ⟨fun h_ => h_ _ hr16 _ hr21 _ hr23 _ hr28, fun h_ => by intro _ e_; cases Option.some.inj (e_.symm.trans hr16); intro _ e_; cases Option.some.inj (e_.symm.trans hr21); intro _ e_; cases Option.some.inj (e_.symm.trans hr23); intro _ e_; cases Option.some.inj (e_.symm.trans hr28); exact h_⟩) (fun _ _ _ => pN_iff (nmF (nmC hn26 nmN))) (fun _ => (NiceO.sub (R := []) (niceS fun s_0 => (niceE rfl)) (Sub.pick [S24] [] rfl))) ?_
    rintro s29 _ ⟨_, S30, _, H31, ⟨rfl, rfl⟩, rfl⟩
    refine lx_perm (Ls := [[(b2, 30, #[Value.int .i64 (v_0), U (hi (v_1)), U (lo (v_1))])], S30]) (Ls' := [[(b2, 30, #[Value.int .i64 (v_0), U (hi (v_1)), U (lo (v_1))])], S30]) [0, 1] rfl rfl ?_
    refine r_v (s29) rfl rfl rfl rfl ?_
    refine lx_nil ?_
    refine hK14 _ _ ?_; try clear hK14 K14
    obtain rfl := Option.some.inj hM
    refine A_ret (fun hn => endsO (v0 := s29) (O := [S30]) (res1 rfl) (Sub.pick [[(b2, 30, #[Value.int .i64 (v_0), U (hi (v_1)), U (lo (v_1))])], S30] [1] rfl) ⟨s29, S30, _, H31, ⟨rfl, rfl⟩, rfl⟩)
def wire_Vec_m (N : Nat) (b : List UInt8) (v_0 : Int) (v_1 : BitVec 128) : Option (List UInt8) := (slices_Clone___byte_byte__m N b).bind fun r4 => (wire_row_v1_m N r4 v_0 v_1).bind fun r12 => some (r12)
set_option maxRecDepth 100000 in
set_option maxHeartbeats 8000000 in
theorem wire_Vec_g (N : Nat) (b : List UInt8) (v_0 : Int) (v_1 : BitVec 128) (r : List UInt8) (hM : wire_Vec_m N b v_0 v_1 = some r) (ro : Addr → Option Value) (bv : Value) (hb : Rd encY ro bv b) : Does Try.prog 24 #[bv, Value.agg #[Value.int .i64 (v_0), U (hi (v_1)), U (lo (v_1))]] ro [] (p1 (fun s_ => s_) 5 encY r) := by
  unfold wire_Vec_m at hM
  refine does_of_A follows Try.func24 rfl 9 rfl (upd (upd (fun _ => undef) 1 (Value.agg #[Value.int .i64 (v_0), U (hi (v_1)), U (lo (v_1))])) 0 (bv)) (by funext k; match k with | 0 => rfl | 1 => rfl | k + 2 => rfl) (fun base0_ => ?_)
  refine A_seq fun K1 hK1 => ?_
  refine A_reg ?_
  refine r_a (30, #[Value.int .i64 (v_0), U (hi (v_1)), U (lo (v_1))]) rfl rfl rfl (fun b2 => ?_) (.inr rfl)
  refine r_v (Value.slice none 0 0) rfl rfl rfl rfl ?_
  refine lx_nil ?_
  refine hK1 _ _ ?_; try clear hK1 K1
  refine A_seq fun K3 hK3 => ?_
  refine A_drawR [(some 6, false), (some 8, true)] (conG Try.prog [(6, fun _ _ v_ L_ U_ => ∀ u0_, slices_Clone___byte_byte__m N b = some u0_ → (p1 (fun s_ => s_) 5 encY (u0_)) v_ L_ U_), (8, fun a_ _ v_ L_ U_ => ∀ u0_, slices_Clone___byte_byte__m N b = some u0_ → ∀ u1_, wire_row_v1_m N u0_ v_0 v_1 = some u1_ → (pN (List.flatten [blkS (argAt a_ 1)]) (oS 5 encY u1_ fun s_0 => (oE (s_0) []))) v_ L_ U_)]) [] (by decide +kernel) (fun hn => sep_nil) ?_
  refine r_v (bv) rfl rfl rfl rfl ?_
  replace hM := bind_sm hM; obtain ⟨r4, hr5, hM⟩ := hM
  refine r_g1 (Ls := [[(b2, 30, #[Value.int .i64 (v_0), U (hi (v_1)), U (lo (v_1))])]]) (fun s6 => s6) 5 encY (r4) 34 _ rfl rfl rfl (ev_callF rfl call_34 rfl) (fun own_ nw_ hs_ => slices_Clone___byte_byte__g N b _ hr5 hs_.view bv ((rd_ro hb) own_ nw_ hs_)) (fun _ _ v_ L_ U_ => ⟨fun h_ => h_ _ hr5, fun h_ => by intro _ e_; cases Option.some.inj (e_.symm.trans hr5); exact h_⟩) (fun s6 S7 H8 => ?_)
  refine r_l (Value.agg #[Value.int .i64 (v_0), U (hi (v_1)), U (lo (v_1))]) 0 _ _ _ _ rfl rfl rfl rfl rfl ?_
  refine lx_canon (Ls := [[(b2, 30, #[Value.int .i64 (v_0), U (hi (v_1)), U (lo (v_1))])], S7]) trivial 1 rfl H8 (fun S9 H10 hn11 => ?_)
  replace hM := bind_sm hM; obtain ⟨r12, hr13, hM⟩ := hM
  refine r_gmL (Ls := [[(b2, 30, #[Value.int .i64 (v_0), U (hi (v_1)), U (lo (v_1))])], S9]) (FL := [S9]) (RL := [[(b2, 30, #[Value.int .i64 (v_0), U (hi (v_1)), U (lo (v_1))])]]) [1] (oS 5 encY r12 fun s_0 => (oE (s_0) [])) (some 8) 52 _ (pc := fun a_ => pN (List.flatten [blkS (argAt a_ 1)]) (oS 5 encY r12 fun s_0 => (oE (s_0) []))) rfl rfl rfl rfl rfl (ev_callF rfl call_52 rfl) (fun own_ nw_ hn_ hs_ => wire_row_v1_g N r4 v_0 v_1 _ hr13 _ s6 S9 H10) (fun _ _ v_ L_ U_ => ⟨fun h_ => h_ _ hr5 _ hr13, fun h_ => by intro _ e_; cases Option.some.inj (e_.symm.trans hr5); intro _ e_; cases Option.some.inj (e_.symm.trans hr13); exact h_⟩) (fun _ _ _ => pN_iff (nmF (nmC hn11 nmN))) (fun _ => (NiceO.sub (R := []) (niceS fun s_0 => (niceE rfl)) (Sub.pick [S9] [] rfl))) ?_
  rintro s14 _ ⟨_, S15, _, H16, ⟨rfl, rfl⟩, rfl⟩
  refine lx_perm (Ls := [[(b2, 30, #[Value.int .i64 (v_0), U (hi (v_1)), U (lo (v_1))])], S15]) (Ls' := [[(b2, 30, #[Value.int .i64 (v_0), U (hi (v_1)), U (lo (v_1))])], S15]) [0, 1] rfl rfl ?_
  refine r_v (s14) rfl rfl rfl rfl ?_
  refine lx_nil ?_
  refine hK3 _ _ ?_; try clear hK3 K3
  obtain rfl := Option.some.inj hM
  refine A_ret (fun hn => ends1 (v0 := s14) H16 (sub_one (Sub.pick [[(b2, 30, #[Value.int .i64 (v_0), U (hi (v_1)), U (lo (v_1))])], S15] [1] rfl)) rfl (res1 rfl))
def shunterlaw07_lives_m (N : Nat) : Option (Bool) := (wire_Vec_m N ([]) 12 ((0#64) ++ (2748#64))).bind fun r3 => some ((r3) == (([12, 10, 188] : List UInt8)))
set_option maxRecDepth 100000 in
set_option maxHeartbeats 8000000 in
theorem shunterlaw07_lives_g (N : Nat) (r : Bool) (hM : shunterlaw07_lives_m N = some r) : Gives Try.prog 7 #[] (Value.bool (r)) := by
  unfold shunterlaw07_lives_m at hM
  refine gives_of_A follows Try.func7 rfl 7 rfl (fun _ => undef) (by funext k; rfl) (fun base0_ => ?_)
  refine A_seq fun K1 hK1 => ?_
  refine A_reg ?_
  refine r_v (Value.bool (false)) rfl rfl rfl rfl ?_
  refine lx_nil ?_
  refine hK1 _ _ ?_; try clear hK1 K1
  refine A_seq fun K2 hK2 => ?_
  refine A_regC [(some 3, false)] (conG Try.prog [(3, fun _ _ v_ L_ U_ => ∀ u0_, wire_Vec_m N ([]) 12 ((0#64) ++ (2748#64)) = some u0_ → (p1 (fun s_ => s_) 5 encY (u0_)) v_ L_ U_)]) ?_
  refine r_v (Value.agg #[Value.int .i64 (12), U (0#64), U (2748#64)]) rfl rfl rfl (ev_buildS rfl rfl rfl rfl) ?_
  replace hM := bind_sm hM; obtain ⟨r3, hr4, hM⟩ := hM
  refine r_g1 (Ls := []) (fun s5 => s5) 5 encY (r3) 24 _ rfl rfl rfl (ev_callF rfl call_24 rfl) (fun own_ nw_ hs_ => (by have h_ := wire_Vec_g N ([]) 12 ((0#64) ++ (2748#64)) _ hr4 hs_.view (Value.slice none 0 0) ((fun _ _ _ => .inl ⟨rfl, rfl⟩) own_ nw_ hs_); simp only [app_hl] at h_; exact h_)) (fun _ _ v_ L_ U_ => ⟨fun h_ => h_ _ hr4, fun h_ => by intro _ e_; cases Option.some.inj (e_.symm.trans hr4); exact h_⟩) (fun s5 S6 H7 => ?_)
  refine r_v (s5) rfl rfl rfl rfl ?_
  refine lx_nil ?_
  refine hK2 _ _ ?_; try clear hK2 K2
  refine A_seq fun K8 hK8 => ?_
  refine A_reg ?_
  refine r_v (s5) rfl rfl rfl rfl ?_
  refine r_stl (e := 5) (r3) rfl rfl rfl rfl rfl (rd_own H7 (mem_chunk (Ls := [S6]) (k := 0) rfl rfl)) ?_
  refine r_v (Value.bool ((r3) == (([12, 10, 188] : List UInt8)))) rfl rfl rfl (ev_eqS rfl rfl) ?_
  refine r_v (Value.bool ((r3) == (([12, 10, 188] : List UInt8)))) rfl rfl rfl rfl ?_
  refine lx_nil ?_
  refine hK8 _ _ ?_; try clear hK8 K8
  obtain rfl := Option.some.inj hM
  refine A_ret (fun hn => ends_eq (v0 := Value.bool ((r3) == (([12, 10, 188] : List UInt8)))) rfl (res1 rfl))
def wire_Byte_m (N : Nat) (b : List UInt8) (n : Int) : Option (List UInt8) := (slices_Clone___byte_byte__m N b).bind fun r3 => (wire_number_v1_m N r3 n 1).bind fun r11 => some (r11)
set_option maxRecDepth 100000 in
set_option maxHeartbeats 8000000 in
theorem wire_Byte_g (N : Nat) (b : List UInt8) (n : Int) (r : List UInt8) (hM : wire_Byte_m N b n = some r) (ro : Addr → Option Value) (bv : Value) (hb : Rd encY ro bv b) : Does Try.prog 25 #[bv, Value.int .i64 (n)] ro [] (p1 (fun s_ => s_) 5 encY r) := by
  unfold wire_Byte_m at hM
  refine does_of_A follows Try.func25 rfl 9 rfl (upd (upd (fun _ => undef) 1 (Value.int .i64 (n))) 0 (bv)) (by funext k; match k with | 0 => rfl | 1 => rfl | k + 2 => rfl) (fun base0_ => ?_)
  refine A_seq fun K1 hK1 => ?_
  refine A_reg ?_
  refine r_v (Value.slice none 0 0) rfl rfl rfl rfl ?_
  refine lx_nil ?_
  refine hK1 _ _ ?_; try clear hK1 K1
  refine A_seq fun K2 hK2 => ?_
  refine A_regC [(some 6, false), (some 8, true)] (conG Try.prog [(6, fun _ _ v_ L_ U_ => ∀ u0_, slices_Clone___byte_byte__m N b = some u0_ → (p1 (fun s_ => s_) 5 encY (u0_)) v_ L_ U_), (8, fun a_ _ v_ L_ U_ => ∀ u0_, slices_Clone___byte_byte__m N b = some u0_ → ∀ u1_, wire_number_v1_m N u0_ n 1 = some u1_ → (pN (List.flatten [blkS (argAt a_ 1)]) (oS 5 encY u1_ fun s_0 => (oE (s_0) []))) v_ L_ U_)]) ?_
  refine r_v (bv) rfl rfl rfl rfl ?_
  replace hM := bind_sm hM; obtain ⟨r3, hr4, hM⟩ := hM
  refine r_g1 (Ls := []) (fun s5 => s5) 5 encY (r3) 34 _ rfl rfl rfl (ev_callF rfl call_34 rfl) (fun own_ nw_ hs_ => slices_Clone___byte_byte__g N b _ hr4 hs_.view bv ((rd_ro hb) own_ nw_ hs_)) (fun _ _ v_ L_ U_ => ⟨fun h_ => h_ _ hr4, fun h_ => by intro _ e_; cases Option.some.inj (e_.symm.trans hr4); exact h_⟩) (fun s5 S6 H7 => ?_)
  refine r_v (Value.int .i64 (n)) rfl rfl rfl rfl ?_
  refine lx_canon (Ls := [S6]) trivial 0 rfl H7 (fun S8 H9 hn10 => ?_)
  replace hM := bind_sm hM; obtain ⟨r11, hr12, hM⟩ := hM
  refine r_gmL (Ls := [S8]) (FL := [S8]) (RL := []) [0] (oS 5 encY r11 fun s_0 => (oE (s_0) [])) (some 8) 53 _ (pc := fun a_ => pN (List.flatten [blkS (argAt a_ 1)]) (oS 5 encY r11 fun s_0 => (oE (s_0) []))) rfl rfl rfl rfl rfl (ev_callF rfl call_53 rfl) (fun own_ nw_ hn_ hs_ => wire_number_v1_g N r3 n 1 _ hr12 _ s5 S8 H9) (fun _ _ v_ L_ U_ => ⟨fun h_ => h_ _ hr4 _ hr12, fun h_ => by intro _ e_; cases Option.some.inj (e_.symm.trans hr4); intro _ e_; cases Option.some.inj (e_.symm.trans hr12); exact h_⟩) (fun _ _ _ => pN_iff (nmF (nmC hn10 nmN))) (fun h_ => nomatch h_) ?_
  rintro s13 _ ⟨_, S14, _, H15, ⟨rfl, rfl⟩, rfl⟩
  refine lx_perm (Ls := [S14]) (Ls' := [S14]) [0] rfl rfl ?_
  refine r_v (s13) rfl rfl rfl rfl ?_
  refine lx_nil ?_
  refine hK2 _ _ ?_; try clear hK2 K2
  obtain rfl := Option.some.inj hM
  refine A_ret (fun hn => ends1 (v0 := s13) H15 (sub_one (Sub.pick [S14] [0] rfl)) rfl (res1 rfl))
def shunterref02_Bits_k4 (v_1 : BitVec 128) (l1_ : List Bool) (i2_ : Int) (rec_shunterref02_Bits_l3 : List Bool → Int → Option (List Bool)) : Option (List Bool) := ck (0 ≤ i2_ ∧ i2_ < 128) (ck ((l1_).length + ([((hi (v_1)) ++ (lo (v_1))).getLsbD ((i2_).toNat)]).length ≤ 140737488355328) (ck ((-9223372036854775808 ≤ (i2_ + 1) ∧ (i2_ + 1) ≤ 9223372036854775807)) (rec_shunterref02_Bits_l3 ((l1_ ++ ([((hi (v_1)) ++ (lo (v_1))).getLsbD ((i2_).toNat)]))) ((i2_ + 1)))))
def shunterref02_Bits_l3 (v_0 : Int) (v_1 : BitVec 128) : Nat → List Bool → Int → Option (List Bool)
  | 0, _, _ => none
  | n8 + 1, l1_, i2_ => if (i2_ : Int) < v_0 then if (i2_ : Int) < 128 then shunterref02_Bits_k4 v_1 l1_ i2_ (shunterref02_Bits_l3 v_0 v_1 n8)  else some (l1_) else some (l1_)
def shunterref02_Bits_m (N : Nat) (v_0 : Int) (v_1 : BitVec 128) : Option (List Bool) := shunterref02_Bits_l3 v_0 v_1 N ([]) (0)
set_option maxRecDepth 100000 in
set_option maxHeartbeats 8000000 in
theorem shunterref02_Bits_g (N : Nat) (v_0 : Int) (v_1 : BitVec 128) (r : List Bool) (hM : shunterref02_Bits_m N v_0 v_1 = some r) (ro : Addr → Option Value)  : Does Try.prog 54 #[Value.agg #[Value.int .i64 (v_0), U (hi (v_1)), U (lo (v_1))]] ro [] (p1 (fun s_ => s_) 4 encB r) := by
  unfold shunterref02_Bits_m at hM
  refine does_of_A follows Try.func54 rfl 28 rfl (upd (fun _ => undef) 0 (Value.agg #[Value.int .i64 (v_0), U (hi (v_1)), U (lo (v_1))])) (by funext k; match k with | 0 => rfl | k + 1 => rfl) (fun base0_ => ?_)
  refine A_seq fun K1 hK1 => ?_
  refine A_reg ?_
  refine r_a (30, #[Value.int .i64 (v_0), U (hi (v_1)), U (lo (v_1))]) rfl rfl rfl (fun b2 => ?_) (.inr rfl)
  refine r_v (Value.slice none 0 0) rfl rfl rfl rfl ?_
  refine lx_nil ?_
  refine hK1 _ _ ?_; try clear hK1 K1
  refine A_seq fun K3 hK3 => ?_
  refine A_reg ?_
  refine r_v (Value.pointer (some ⟨b2, 1, none⟩)) rfl rfl rfl rfl ?_
  refine r_l (U (hi (v_1))) 0 _ _ _ _ rfl rfl rfl rfl rfl ?_
  refine r_v (Value.pointer (some ⟨b2, 2, none⟩)) rfl rfl rfl rfl ?_
  refine r_l (U (lo (v_1))) 0 _ _ _ _ rfl rfl rfl rfl rfl ?_
  refine r_c (Value.agg (rowF (BitVec.getLsbD ((hi (v_1)) ++ (lo (v_1)))))) rfl _ _ (ev_callF rfl call_44 rfl) (of_g (hi (v_1)) (lo (v_1))) ?_
  refine r_a (87, rowF (BitVec.getLsbD (0#128))) rfl rfl ((zrow z_87).trans (congrArg (fun x => some (87, x)) row_zero)) (fun b4 => ?_) (.inr rfl)
  refine r_s [(b4, 87, rowF (BitVec.getLsbD ((hi (v_1)) ++ (lo (v_1))))), (b2, 30, #[Value.int .i64 (v_0), U (hi (v_1)), U (lo (v_1))])] 0 _ _ _ (rowF (BitVec.getLsbD (0#128))) (rowF (BitVec.getLsbD ((hi (v_1)) ++ (lo (v_1))))) (rowF (BitVec.getLsbD ((hi (v_1)) ++ (lo (v_1))))) rfl rfl rfl rfl (stok_rows rfl rfl _ _) (splice_rows _ _) rfl ?_
  refine lx_nil ?_
  refine hK3 _ _ ?_; try clear hK3 K3
  refine A_seq fun K5 hK5 => ?_
  refine A_reg ?_
  refine r_v (Value.slice none 0 0) rfl rfl rfl rfl ?_
  refine lx_nil ?_
  refine hK5 _ _ ?_; try clear hK5 K5
  refine A_seq fun K6 hK6 => ?_
  refine A_seq fun K7 hK7 => ?_
  refine A_reg ?_
  refine r_v (Value.int .i64 (0)) rfl rfl rfl rfl ?_
  refine lx_nil ?_
  refine hK7 _ _ ?_; try clear hK7 K7
  refine A_block ?_
  refine A_forget _ (Sub.pickE (Ls := [[(b4, 87, rowF (BitVec.getLsbD ((hi (v_1)) ++ (lo (v_1)))))], [(b2, 30, #[Value.int .i64 (v_0), U (hi (v_1)), U (lo (v_1))])], []]) (Ls0 := [[(b4, 87, rowF (BitVec.getLsbD ((hi (v_1)) ++ (lo (v_1)))))], [(b2, 30, #[Value.int .i64 (v_0), U (hi (v_1)), U (lo (v_1))])]]) rfl [0, 1, 2] rfl) ?_
  refine A_loop (fun tt ll nn => ∃ (n8 : Nat) (l1_ : List Bool) (i2_ : Int), (shunterref02_Bits_l3 v_0 v_1 n8 l1_ i2_ = some r) ∧ ∃ (vl1_ : Value) (Sl1_ : List Bl), Sl 4 encB vl1_ l1_ Sl1_ ∧ Is [(1, Value.pointer (some ⟨b2, 0, none⟩)), (3, Value.pointer (some ⟨b4, 0, none⟩)), (4, vl1_), (5, Value.int .i64 (i2_))] (List.flatten [[(b4, 87, rowF (BitVec.getLsbD ((hi (v_1)) ++ (lo (v_1)))))], [(b2, 30, #[Value.int .i64 (v_0), U (hi (v_1)), U (lo (v_1))])], Sl1_]) tt ll ∧ nn = n8 + 1) (N + 1) ?_ ?_
  · exact ⟨N, [], 0, hM, Value.slice none 0 0, [], Sl.nil, is_mk rfl rfl, rfl⟩
  · clear hM; rintro t l _ ⟨n8, l1_, i2_, hM, vl1_, Sl1_, hl1_, ⟨⟨T, rfl⟩, rfl⟩, rfl⟩
    rcases n8 with _ | n8
    · exact absurd hM (by simp [shunterref02_Bits_l3])
    rw [shunterref02_Bits_l3] at hM
    refine A_cut (fun tt ll => (shunterref02_Bits_k4 v_1 l1_ i2_ (shunterref02_Bits_l3 v_0 v_1 n8)  = some r) ∧ Is [(1, Value.pointer (some ⟨b2, 0, none⟩)), (3, Value.pointer (some ⟨b4, 0, none⟩)), (4, vl1_), (5, Value.int .i64 (i2_))] (List.flatten [[(b4, 87, rowF (BitVec.getLsbD ((hi (v_1)) ++ (lo (v_1)))))], [(b2, 30, #[Value.int .i64 (v_0), U (hi (v_1)), U (lo (v_1))])], Sl1_]) tt ll) ?_ ?_
    · refine A_seq fun K20 hK20 => ?_
      refine A_reg ?_
      refine r_v (Value.int .i64 (i2_)) rfl rfl rfl rfl ?_
      refine r_v (Value.pointer (some ⟨b2, 0, none⟩)) rfl rfl rfl rfl ?_
      refine r_l (Value.int .i64 (v_0)) 1 _ _ _ _ rfl rfl rfl rfl rfl ?_
      refine r_v (Value.bool (decide ((i2_ : Int) < v_0))) rfl rfl rfl rfl ?_
      refine r_v (Value.bool (decide ((i2_ : Int) < v_0))) rfl rfl rfl rfl ?_
      rcases hg21 : (decide ((i2_ : Int) < v_0)) with _ | _
      · replace hM := ifn (of_decide_eq_false hg21) hM
        refine r_n false rfl (by decide) rfl ?_
        refine r_n false rfl (by decide) rfl ?_
        refine r_v (Value.bool (false)) rfl rfl rfl rfl ?_
        refine lx_nil ?_
        refine hK20 _ _ ?_; try clear hK20 K20
        refine A_cond false rfl (fun h_ => nomatch h_) (fun _ => ?_)
        refine A_exit ?_
        refine hK6 _ _ ?_; try clear hK6 K6
        refine A_seq fun K22 hK22 => ?_
        refine A_reg ?_
        refine r_v (vl1_) rfl rfl rfl rfl ?_
        refine r_v (vl1_) rfl rfl rfl rfl ?_
        refine lx_nil ?_
        refine hK22 _ _ ?_; try clear hK22 K22
        obtain rfl := Option.some.inj hM
        refine A_ret (fun hn => ends1 (v0 := vl1_) hl1_ (sub_one (Sub.pick [[(b4, 87, rowF (BitVec.getLsbD ((hi (v_1)) ++ (lo (v_1)))))], [(b2, 30, #[Value.int .i64 (v_0), U (hi (v_1)), U (lo (v_1))])], Sl1_] [2] rfl)) rfl (res1 rfl))
      · replace hM := ifp (of_decide_eq_true hg21) hM
        refine r_y rfl ?_
        refine r_v (Value.int .i64 (i2_)) rfl rfl rfl rfl ?_
        refine r_y rfl ?_
        refine r_v (Value.bool (decide ((i2_ : Int) < 128))) rfl rfl rfl rfl ?_
        refine r_v (Value.bool (decide ((i2_ : Int) < 128))) rfl rfl rfl rfl ?_
        refine lx_nil ?_
        refine hK20 _ _ ?_; try clear hK20 K20
        refine A_cond (decide ((i2_ : Int) < 128)) rfl (fun hc23 => ?_) (fun hc23 => ?_)
        · replace hM := ifp (of_decide_eq_true hc23) hM
          refine A_skip ?_
          refine fg _ (Sub.pick [[(b4, 87, rowF (BitVec.getLsbD ((hi (v_1)) ++ (lo (v_1)))))], [(b2, 30, #[Value.int .i64 (v_0), U (hi (v_1)), U (lo (v_1))])], Sl1_] [0, 1, 2] rfl) ?_
          exact ⟨hM, is_mk rfl rfl⟩
        · replace hM := ifn (of_decide_eq_false hc23) hM
          refine A_exit ?_
          refine hK6 _ _ ?_; try clear hK6 K6
          refine A_seq fun K24 hK24 => ?_
          refine A_reg ?_
          refine r_v (vl1_) rfl rfl rfl rfl ?_
          refine r_v (vl1_) rfl rfl rfl rfl ?_
          refine lx_nil ?_
          refine hK24 _ _ ?_; try clear hK24 K24
          obtain rfl := Option.some.inj hM
          refine A_ret (fun hn => ends1 (v0 := vl1_) hl1_ (sub_one (Sub.pick [[(b4, 87, rowF (BitVec.getLsbD ((hi (v_1)) ++ (lo (v_1)))))], [(b2, 30, #[Value.int .i64 (v_0), U (hi (v_1)), U (lo (v_1))])], Sl1_] [2] rfl)) rfl (res1 rfl))
    · clear hM; rintro t l ⟨hM, ⟨T, rfl⟩, rfl⟩
      unfold shunterref02_Bits_k4 at hM
      refine A_seq fun K9 hK9 => ?_
      refine A_block ?_
      refine A_regC [(some 25, false), (some 26, true)] (conG Try.prog []) ?_
      refine r_v (vl1_) rfl rfl rfl rfl ?_
      refine r_v (Value.int .i64 (i2_)) rfl rfl rfl rfl ?_
      replace hM := ck_some hM; obtain ⟨ck10, hM⟩ := hM
      have hx11 := fun c => ev_v (ev_idxI (P := Try.prog) (c := c) (t := 87) (b := b4) (off := 0) (k := .i64) rfl rfl rfl ck10)
      simp only [Nat.zero_add] at hx11
      have ck10n : (i2_).toNat < 128 := by omega
      refine r_v (Value.pointer (some ⟨b4, (i2_).toNat, none⟩)) rfl rfl rfl (hx11 _) ?_
      refine r_l (Value.bool (((hi (v_1)) ++ (lo (v_1))).getLsbD ((i2_).toNat))) 0 _ _ _ _ rfl rfl rfl rfl (ld_row1 rfl _ ck10n) ?_
      refine r_bs (cs0 := []) (Ls := [[(b4, 87, rowF (BitVec.getLsbD ((hi (v_1)) ++ (lo (v_1)))))], [(b2, 30, #[Value.int .i64 (v_0), U (hi (v_1)), U (lo (v_1))])], Sl1_]) 4 encB [((hi (v_1)) ++ (lo (v_1))).getLsbD ((i2_).toNat)] [Value.bool (((hi (v_1)) ++ (lo (v_1))).getLsbD ((i2_).toNat))] [Value.bool (false)] rfl rfl rfl rfl rfl rfl rfl (by kernel_rfl) (by kernel_rfl) rfl rfl rfl (fun s12 S13 H14 => ?_)
      replace hM := ck_some hM; obtain ⟨ck15, hM⟩ := hM
      refine r_app (cs0 := []) (Ls := [[(b4, 87, rowF (BitVec.getLsbD ((hi (v_1)) ++ (lo (v_1)))))], [(b2, 30, #[Value.int .i64 (v_0), U (hi (v_1)), U (lo (v_1))])], Sl1_, S13]) 2 (En := encB) rfl rfl rfl rfl rfl hl1_ rfl (rd_own H14 (mem_chunk (Ls := [[(b4, 87, rowF (BitVec.getLsbD ((hi (v_1)) ++ (lo (v_1)))))], [(b2, 30, #[Value.int .i64 (v_0), U (hi (v_1)), U (lo (v_1))])], Sl1_, S13]) (k := 3) rfl rfl)) rfl rfl rfl rfl rfl (app_b ck15 rfl) (app_m ck15 rfl) rfl (fun s16 S17 H18 => ?_)
      refine r_v (s16) rfl rfl rfl rfl ?_
      refine lx_nil ?_
      refine hK9 _ _ ?_; try clear hK9 K9
      refine A_reg ?_
      refine r_v (Value.int .i64 (i2_)) rfl rfl rfl rfl ?_
      replace hM := ck_some hM; obtain ⟨ck19, hM⟩ := hM
      refine r_v (Value.int .i64 ((i2_ + 1))) rfl rfl (wi64 rfl ck19.1 ck19.2) rfl ?_
      refine r_v (Value.int .i64 ((i2_ + 1))) rfl rfl rfl rfl ?_
      refine lx_nil ?_
      refine fg _ (Sub.pick [[(b4, 87, rowF (BitVec.getLsbD ((hi (v_1)) ++ (lo (v_1)))))], [(b2, 30, #[Value.int .i64 (v_0), U (hi (v_1)), U (lo (v_1))])], S17, S13] [0, 1, 2] rfl) ?_
      exact ⟨n8 + 1, by omega, n8, (l1_ ++ ([((hi (v_1)) ++ (lo (v_1))).getLsbD ((i2_).toNat)])), (i2_ + 1), hM, s16, S17, H18, is_mk rfl rfl, rfl⟩
def shunterref03_Bytes_l6 (l' : List Bool) (b1_ : List UInt8) (i2_ : Int) (rec_shunterref03_Bytes_l3 : List UInt8 → Int → Option (List UInt8)) : Nat → Int → Int → Option (List UInt8)
  | 0, _, _ => none
  | n13 + 1, n4_, k5_ => ck ((-9223372036854775808 ≤ (i2_ + 8) ∧ (i2_ + 8) ≤ 9223372036854775807)) (if (k5_ : Int) < (i2_ + 8) then ck ((-9223372036854775808 ≤ (2 * n4_) ∧ (2 * n4_) ≤ 9223372036854775807)) (if (k5_ : Int) < ((l').length : Int) then ck (0 ≤ k5_ ∧ k5_ < ((l').length : Int)) (if ((l')[(k5_).toNat]!) = true then ck ((-9223372036854775808 ≤ ((2 * n4_) + 1) ∧ ((2 * n4_) + 1) ≤ 9223372036854775807)) (ck ((-9223372036854775808 ≤ (k5_ + 1) ∧ (k5_ + 1) ≤ 9223372036854775807)) ((shunterref03_Bytes_l6 l' b1_ i2_ rec_shunterref03_Bytes_l3 n13) (((2 * n4_) + 1)) ((k5_ + 1)))) else ck ((-9223372036854775808 ≤ (k5_ + 1) ∧ (k5_ + 1) ≤ 9223372036854775807)) ((shunterref03_Bytes_l6 l' b1_ i2_ rec_shunterref03_Bytes_l3 n13) ((2 * n4_)) ((k5_ + 1)))) else ck ((-9223372036854775808 ≤ (k5_ + 1) ∧ (k5_ + 1) ≤ 9223372036854775807)) ((shunterref03_Bytes_l6 l' b1_ i2_ rec_shunterref03_Bytes_l3 n13) ((2 * n4_)) ((k5_ + 1)))) else ck ((b1_).length + ([(byteI (n4_))]).length ≤ 140737488355328) (ck ((-9223372036854775808 ≤ (i2_ + 8) ∧ (i2_ + 8) ≤ 9223372036854775807)) (rec_shunterref03_Bytes_l3 ((b1_ ++ ([(byteI (n4_))]))) ((i2_ + 8)))))
def shunterref03_Bytes_l3 (N : Nat) (l' : List Bool) : Nat → List UInt8 → Int → Option (List UInt8)
  | 0, _, _ => none
  | n5 + 1, b1_, i2_ => if (i2_ : Int) < ((l').length : Int) then shunterref03_Bytes_l6 l' b1_ i2_ (shunterref03_Bytes_l3 N l' n5) N (0) (i2_) else some (b1_)
def shunterref03_Bytes_m (N : Nat) (l' : List Bool) : Option (List UInt8) := shunterref03_Bytes_l3 N l' N ([]) (0)
set_option maxRecDepth 100000 in
set_option maxHeartbeats 8000000 in
theorem shunterref03_Bytes_g (N : Nat) (l' : List Bool) (r : List UInt8) (hM : shunterref03_Bytes_m N l' = some r) (ro : Addr → Option Value) (l'v : Value) (hl' : Rd encB ro l'v l') : Does Try.prog 55 #[l'v] ro [] (p1 (fun s_ => s_) 5 encY r) := by
  unfold shunterref03_Bytes_m at hM
  refine does_of_A follows Try.func55 rfl 40 rfl (upd (fun _ => undef) 0 (l'v)) (by funext k; match k with | 0 => rfl | k + 1 => rfl) (fun base0_ => ?_)
  refine A_seq fun K1 hK1 => ?_
  refine A_reg ?_
  refine r_v (Value.slice none 0 0) rfl rfl rfl rfl ?_
  refine lx_nil ?_
  refine hK1 _ _ ?_; try clear hK1 K1
  refine A_seq fun K2 hK2 => ?_
  refine A_reg ?_
  refine r_v (Value.slice none 0 0) rfl rfl rfl rfl ?_
  refine lx_nil ?_
  refine hK2 _ _ ?_; try clear hK2 K2
  refine A_seq fun K3 hK3 => ?_
  refine A_seq fun K4 hK4 => ?_
  refine A_reg ?_
  refine r_v (Value.int .i64 (0)) rfl rfl rfl rfl ?_
  refine lx_nil ?_
  refine hK4 _ _ ?_; try clear hK4 K4
  refine A_block ?_
  refine A_forget _ (Sub.pickE (Ls := [[]]) (Ls0 := []) rfl [0] rfl) ?_
  refine A_loop (fun tt ll nn => ∃ (n5 : Nat) (b1_ : List UInt8) (i2_ : Int), (shunterref03_Bytes_l3 N l' n5 b1_ i2_ = some r) ∧ ∃ (vb1_ : Value) (Sb1_ : List Bl), Sl 5 encY vb1_ b1_ Sb1_ ∧ Is [(0, l'v), (3, vb1_), (4, Value.int .i64 (i2_))] (List.flatten [Sb1_]) tt ll ∧ nn = n5 + 1) (N + 1) ?_ ?_
  · exact ⟨N, [], 0, hM, Value.slice none 0 0, [], Sl.nil, is_mk rfl rfl, rfl⟩
  · clear hM; rintro t l _ ⟨n5, b1_, i2_, hM, vb1_, Sb1_, hb1_, ⟨⟨T, rfl⟩, rfl⟩, rfl⟩
    rcases n5 with _ | n5
    · exact absurd hM (by simp [shunterref03_Bytes_l3])
    rw [shunterref03_Bytes_l3] at hM
    refine A_seq fun K6 hK6 => ?_
    refine A_seq fun K7 hK7 => ?_
    refine A_reg ?_
    refine r_v (Value.int .i64 (i2_)) rfl rfl rfl rfl ?_
    refine r_v (l'v) rfl rfl rfl rfl ?_
    refine r_v (Value.int .i64 (((l').length : Int))) rfl rfl rfl (ev_lenSl rfl rfl rfl (Rd.shp hl')) ?_
    refine r_v (Value.bool (decide ((i2_ : Int) < ((l').length : Int)))) rfl rfl rfl rfl ?_
    refine lx_nil ?_
    refine hK7 _ _ ?_; try clear hK7 K7
    refine A_cond (decide ((i2_ : Int) < ((l').length : Int))) rfl (fun hc8 => ?_) (fun hc8 => ?_)
    · replace hM := ifp (of_decide_eq_true hc8) hM
      refine A_skip ?_
      refine hK6 _ _ ?_; try clear hK6 K6
      refine A_seq fun K9 hK9 => ?_
      refine A_block ?_
      refine A_seq fun K10 hK10 => ?_
      refine A_reg ?_
      refine r_v (Value.int .i64 (0)) rfl rfl rfl rfl ?_
      refine lx_nil ?_
      refine hK10 _ _ ?_; try clear hK10 K10
      refine A_seq fun K11 hK11 => ?_
      refine A_seq fun K12 hK12 => ?_
      refine A_reg ?_
      refine r_v (Value.int .i64 (i2_)) rfl rfl rfl rfl ?_
      refine r_v (Value.int .i64 (i2_)) rfl rfl rfl rfl ?_
      refine lx_nil ?_
      refine hK12 _ _ ?_; try clear hK12 K12
      refine A_block ?_
      refine A_forget _ (Sub.pick [Sb1_] [0] rfl) ?_
      refine A_loop (fun tt ll nn => ∃ (n13 : Nat) (n4_ : Int) (k5_ : Int), (shunterref03_Bytes_l6 l' b1_ i2_ (shunterref03_Bytes_l3 N l' n5) n13 n4_ k5_ = some r) ∧ Is [(0, l'v), (3, vb1_), (4, Value.int .i64 (i2_)), (5, Value.int .i64 (n4_)), (6, Value.int .i64 (k5_))] (List.flatten [Sb1_]) tt ll ∧ nn = n13 + 1) (N + 1) ?_ ?_
      · exact ⟨N, 0, i2_, hM, is_mk rfl rfl, rfl⟩
      · clear hM; rintro t l _ ⟨n13, n4_, k5_, hM, ⟨⟨T, rfl⟩, rfl⟩, rfl⟩
        rcases n13 with _ | n13
        · exact absurd hM (by simp [shunterref03_Bytes_l6])
        rw [shunterref03_Bytes_l6] at hM
        refine A_seq fun K14 hK14 => ?_
        refine A_seq fun K15 hK15 => ?_
        refine A_reg ?_
        refine r_v (Value.int .i64 (k5_)) rfl rfl rfl rfl ?_
        refine r_v (Value.int .i64 (i2_)) rfl rfl rfl rfl ?_
        replace hM := ck_some hM; obtain ⟨ck16, hM⟩ := hM
        refine r_v (Value.int .i64 ((i2_ + 8))) rfl rfl (wi64 rfl ck16.1 ck16.2) rfl ?_
        refine r_v (Value.bool (decide ((k5_ : Int) < (i2_ + 8)))) rfl rfl rfl rfl ?_
        refine lx_nil ?_
        refine hK15 _ _ ?_; try clear hK15 K15
        refine A_cond (decide ((k5_ : Int) < (i2_ + 8))) rfl (fun hc17 => ?_) (fun hc17 => ?_)
        · replace hM := ifp (of_decide_eq_true hc17) hM
          refine A_skip ?_
          refine hK14 _ _ ?_; try clear hK14 K14
          refine A_seq fun K18 hK18 => ?_
          refine A_block ?_
          refine A_seq fun K19 hK19 => ?_
          refine A_reg ?_
          refine r_v (Value.int .i64 (n4_)) rfl rfl rfl rfl ?_
          replace hM := ck_some hM; obtain ⟨ck20, hM⟩ := hM
          refine r_v (Value.int .i64 ((2 * n4_))) rfl rfl (wi64 rfl ck20.1 ck20.2) rfl ?_
          refine r_v (Value.int .i64 ((2 * n4_))) rfl rfl rfl rfl ?_
          refine lx_nil ?_
          refine hK19 _ _ ?_; try clear hK19 K19
          refine A_seq fun K21 hK21 => ?_
          refine A_reg ?_
          refine r_v (Value.int .i64 (k5_)) rfl rfl rfl rfl ?_
          refine r_v (l'v) rfl rfl rfl rfl ?_
          refine r_v (Value.int .i64 (((l').length : Int))) rfl rfl rfl (ev_lenSl rfl rfl rfl (Rd.shp hl')) ?_
          refine r_v (Value.bool (decide ((k5_ : Int) < ((l').length : Int)))) rfl rfl rfl rfl ?_
          refine r_v (Value.bool (decide ((k5_ : Int) < ((l').length : Int)))) rfl rfl rfl rfl ?_
          rcases hg22 : (decide ((k5_ : Int) < ((l').length : Int))) with _ | _
          · replace hM := ifn (of_decide_eq_false hg22) hM
            refine r_n false rfl (by decide) rfl ?_
            refine r_n false rfl (by decide) rfl ?_
            refine r_n false rfl (by decide) rfl ?_
            refine r_n false rfl (by decide) rfl ?_
            refine r_v (Value.bool (false)) rfl rfl rfl rfl ?_
            refine lx_nil ?_
            refine hK21 _ _ ?_; try clear hK21 K21
            refine A_cond false rfl (fun h_ => nomatch h_) (fun _ => ?_)
            refine A_skip ?_
            refine hK18 _ _ ?_; try clear hK18 K18
            refine A_reg ?_
            refine r_v (Value.int .i64 (k5_)) rfl rfl rfl rfl ?_
            replace hM := ck_some hM; obtain ⟨ck23, hM⟩ := hM
            refine r_v (Value.int .i64 ((k5_ + 1))) rfl rfl (wi64 rfl ck23.1 ck23.2) rfl ?_
            refine r_v (Value.int .i64 ((k5_ + 1))) rfl rfl rfl rfl ?_
            refine lx_nil ?_
            refine fg _ (Sub.pick [Sb1_] [0] rfl) ?_
            exact ⟨n13 + 1, by omega, n13, (2 * n4_), (k5_ + 1), hM, is_mk (by first | rfl | (simp only [hg22]; done) | (simp only [hg22]; rfl) | (simp only [app_hl]; rfl)) rfl, rfl⟩
          · replace hM := ifp (of_decide_eq_true hg22) hM
            refine r_y rfl ?_
            refine r_v (l'v) rfl rfl rfl rfl ?_
            refine r_y rfl ?_
            refine r_v (Value.int .i64 (k5_)) rfl rfl rfl rfl ?_
            refine r_y rfl ?_
            replace hM := ck_some hM; obtain ⟨ck24, hM⟩ := hM
            refine r_v (elA l'v ((k5_).toNat * 1)) rfl rfl rfl (ev_v (ev_idxSl rfl rfl rfl (Rd.shp hl') ck24)) ?_
            refine r_y rfl ?_
            refine r_le (Value.bool ((l')[(k5_).toNat]!)) (En := encB) ((l')[(k5_).toNat]!) ((k5_).toNat) 0 rfl rfl (rd_ro hl') (get_of ck24) rfl ?_
            refine r_v (Value.bool ((l')[(k5_).toNat]!)) rfl rfl rfl rfl ?_
            refine lx_nil ?_
            refine hK21 _ _ ?_; try clear hK21 K21
            refine A_cond ((l')[(k5_).toNat]!) rfl (fun hc25 => ?_) (fun hc25 => ?_)
            · replace hM := ifp hc25 hM
              refine A_reg ?_
              refine r_v (Value.int .i64 ((2 * n4_))) rfl rfl rfl rfl ?_
              replace hM := ck_some hM; obtain ⟨ck26, hM⟩ := hM
              refine r_v (Value.int .i64 (((2 * n4_) + 1))) rfl rfl (wi64 rfl ck26.1 ck26.2) rfl ?_
              refine r_v (Value.int .i64 (((2 * n4_) + 1))) rfl rfl rfl rfl ?_
              refine lx_nil ?_
              refine hK18 _ _ ?_; try clear hK18 K18
              refine A_reg ?_
              refine r_v (Value.int .i64 (k5_)) rfl rfl rfl rfl ?_
              replace hM := ck_some hM; obtain ⟨ck27, hM⟩ := hM
              refine r_v (Value.int .i64 ((k5_ + 1))) rfl rfl (wi64 rfl ck27.1 ck27.2) rfl ?_
              refine r_v (Value.int .i64 ((k5_ + 1))) rfl rfl rfl rfl ?_
              refine lx_nil ?_
              refine fg _ (Sub.pick [Sb1_] [0] rfl) ?_
              exact ⟨n13 + 1, by omega, n13, ((2 * n4_) + 1), (k5_ + 1), hM, is_mk (by first | rfl | (simp only [hg22]; done) | (simp only [hg22]; rfl) | (simp only [app_hl]; rfl)) rfl, rfl⟩
            · replace hM := ifn (Bool.eq_false_iff.1 hc25) hM
              refine A_skip ?_
              refine hK18 _ _ ?_; try clear hK18 K18
              refine A_reg ?_
              refine r_v (Value.int .i64 (k5_)) rfl rfl rfl rfl ?_
              replace hM := ck_some hM; obtain ⟨ck28, hM⟩ := hM
              refine r_v (Value.int .i64 ((k5_ + 1))) rfl rfl (wi64 rfl ck28.1 ck28.2) rfl ?_
              refine r_v (Value.int .i64 ((k5_ + 1))) rfl rfl rfl rfl ?_
              refine lx_nil ?_
              refine fg _ (Sub.pick [Sb1_] [0] rfl) ?_
              exact ⟨n13 + 1, by omega, n13, (2 * n4_), (k5_ + 1), hM, is_mk (by first | rfl | (simp only [hg22]; done) | (simp only [hg22]; rfl) | (simp only [app_hl]; rfl)) rfl, rfl⟩
        · replace hM := ifn (of_decide_eq_false hc17) hM
          refine A_exit ?_
          refine hK11 _ _ ?_; try clear hK11 K11
          refine A_regC [(some 37, false), (some 38, true)] (conG Try.prog []) ?_
          refine r_v (vb1_) rfl rfl rfl rfl ?_
          refine r_v (Value.int .i64 (n4_)) rfl rfl rfl rfl ?_
          refine r_w (Value.int .u8 ((((byteI (n4_)).toNat : Nat) : Int))) rfl rfl (u8_wrap (n4_)) (fun _ => rfl) ?_
          refine r_bs (cs0 := []) (Ls := [Sb1_]) 5 encY [(byteI (n4_))] [Value.int .u8 ((((byteI (n4_)).toNat : Nat) : Int))] [Value.int .u8 (0)] rfl rfl rfl rfl rfl rfl rfl (by kernel_rfl) (by kernel_rfl) rfl rfl rfl (fun s29 S30 H31 => ?_)
          replace hM := ck_some hM; obtain ⟨ck32, hM⟩ := hM
          refine r_app (cs0 := []) (Ls := [Sb1_, S30]) 0 (En := encY) rfl rfl rfl rfl rfl hb1_ rfl (rd_own H31 (mem_chunk (Ls := [Sb1_, S30]) (k := 1) rfl rfl)) rfl rfl rfl rfl rfl (app_b ck32 rfl) (app_m ck32 rfl) rfl (fun s33 S34 H35 => ?_)
          refine r_v (s33) rfl rfl rfl rfl ?_
          refine lx_nil ?_
          refine hK9 _ _ ?_; try clear hK9 K9
          refine A_reg ?_
          refine r_v (Value.int .i64 (i2_)) rfl rfl rfl rfl ?_
          replace hM := ck_some hM; obtain ⟨ck36, hM⟩ := hM
          refine r_v (Value.int .i64 ((i2_ + 8))) rfl rfl (wi64 rfl ck36.1 ck36.2) rfl ?_
          refine r_v (Value.int .i64 ((i2_ + 8))) rfl rfl rfl rfl ?_
          refine lx_nil ?_
          refine fg _ (Sub.pick [S34, S30] [0] rfl) ?_
          exact ⟨n5 + 1, by omega, n5, (b1_ ++ ([(byteI (n4_))])), (i2_ + 8), hM, s33, S34, H35, is_mk rfl rfl, rfl⟩
    · replace hM := ifn (of_decide_eq_false hc8) hM
      refine A_exit ?_
      refine hK3 _ _ ?_; try clear hK3 K3
      refine A_seq fun K37 hK37 => ?_
      refine A_reg ?_
      refine r_v (vb1_) rfl rfl rfl rfl ?_
      refine r_v (vb1_) rfl rfl rfl rfl ?_
      refine lx_nil ?_
      refine hK37 _ _ ?_; try clear hK37 K37
      obtain rfl := Option.some.inj hM
      refine A_ret (fun hn => ends1 (v0 := vb1_) hb1_ (sub_one (Sub.pick [Sb1_] [0] rfl)) rfl (res1 rfl))
def shunterref07_Number_l3 (N : Nat) (r3 : List Bool) : Nat → List Bool → Int → Option (List UInt8)
  | 0, _, _ => none
  | n13 + 1, high1_, i2_ => if (i2_ : Int) ≥ 0 then ck (0 ≤ i2_ ∧ i2_ < ((r3).length : Int)) (ck ((high1_).length + ([(r3)[(i2_).toNat]!]).length ≤ 140737488355328) (ck ((-9223372036854775808 ≤ (i2_ - 1) ∧ (i2_ - 1) ≤ 9223372036854775807)) ((shunterref07_Number_l3 N r3 n13) ((high1_ ++ ([(r3)[(i2_).toNat]!]))) ((i2_ - 1))))) else (shunterref03_Bytes_m N high1_).bind fun r28 => some (r28)
def shunterref07_Number_m (N : Nat) (n : Int) (size : Int) : Option (List UInt8) := (shunterref02_Bits_m N 64 ((0#64) ++ (BitVec.ofInt 64 (n)))).bind fun r3 => ck ((-9223372036854775808 ≤ (8 * size) ∧ (8 * size) ≤ 9223372036854775807)) (ck ((-9223372036854775808 ≤ ((8 * size) - 1) ∧ ((8 * size) - 1) ≤ 9223372036854775807)) (shunterref07_Number_l3 N r3 N ([]) (((8 * size) - 1))))
set_option maxRecDepth 100000 in
set_option maxHeartbeats 8000000 in
theorem shunterref07_Number_g (N : Nat) (n : Int) (size : Int) (r : List UInt8) (hM : shunterref07_Number_m N n size = some r) (ro : Addr → Option Value)  : Does Try.prog 26 #[Value.int .i64 (n), Value.int .i64 (size)] ro [] (p1 (fun s_ => s_) 5 encY r) := by
  unfold shunterref07_Number_m at hM
  refine does_of_A follows Try.func26 rfl 28 rfl (upd (upd (fun _ => undef) 1 (Value.int .i64 (size))) 0 (Value.int .i64 (n))) (by funext k; match k with | 0 => rfl | 1 => rfl | k + 2 => rfl) (fun base0_ => ?_)
  refine A_seq fun K1 hK1 => ?_
  refine A_reg ?_
  refine r_v (Value.slice none 0 0) rfl rfl rfl rfl ?_
  refine lx_nil ?_
  refine hK1 _ _ ?_; try clear hK1 K1
  refine A_seq fun K2 hK2 => ?_
  refine A_regC [(some 11, false)] (conG Try.prog [(11, fun _ _ v_ L_ U_ => ∀ u0_, shunterref02_Bits_m N 64 ((0#64) ++ (BitVec.ofInt 64 (n))) = some u0_ → (p1 (fun s_ => s_) 4 encB (u0_)) v_ L_ U_)]) ?_
  refine r_v (Value.int .i64 (n)) rfl rfl rfl rfl ?_
  refine r_w (U (BitVec.ofInt 64 (n))) rfl rfl (U_wrapI (n)) (fun _ => rfl) ?_
  refine r_v (Value.agg #[Value.int .i64 (64), U (0#64), U (BitVec.ofInt 64 (n))]) rfl rfl rfl (ev_buildS rfl rfl rfl rfl) ?_
  replace hM := bind_sm hM; obtain ⟨r3, hr4, hM⟩ := hM
  refine r_g1 (Ls := []) (fun s5 => s5) 4 encB (r3) 54 _ rfl rfl rfl (ev_callF rfl call_54 rfl) (fun own_ nw_ hs_ => (by have h_ := shunterref02_Bits_g N 64 ((0#64) ++ (BitVec.ofInt 64 (n))) _ hr4 hs_.view ; simp only [app_hl] at h_; exact h_)) (fun _ _ v_ L_ U_ => ⟨fun h_ => h_ _ hr4, fun h_ => by intro _ e_; cases Option.some.inj (e_.symm.trans hr4); exact h_⟩) (fun s5 S6 H7 => ?_)
  refine r_v (s5) rfl rfl rfl rfl ?_
  refine lx_nil ?_
  refine hK2 _ _ ?_; try clear hK2 K2
  refine A_seq fun K8 hK8 => ?_
  refine A_reg ?_
  refine r_v (Value.slice none 0 0) rfl rfl rfl rfl ?_
  refine lx_nil ?_
  refine hK8 _ _ ?_; try clear hK8 K8
  refine A_seq fun K9 hK9 => ?_
  refine A_seq fun K10 hK10 => ?_
  refine A_reg ?_
  refine r_v (Value.int .i64 (size)) rfl rfl rfl rfl ?_
  replace hM := ck_some hM; obtain ⟨ck11, hM⟩ := hM
  refine r_v (Value.int .i64 ((8 * size))) rfl rfl (wi64 rfl ck11.1 ck11.2) rfl ?_
  replace hM := ck_some hM; obtain ⟨ck12, hM⟩ := hM
  refine r_v (Value.int .i64 (((8 * size) - 1))) rfl rfl (wi64 rfl ck12.1 ck12.2) rfl ?_
  refine r_v (Value.int .i64 (((8 * size) - 1))) rfl rfl rfl rfl ?_
  refine lx_nil ?_
  refine hK10 _ _ ?_; try clear hK10 K10
  refine A_block ?_
  refine A_forget _ (Sub.pickE (Ls := [S6, []]) (Ls0 := [S6]) rfl [0, 1] rfl) ?_
  refine A_loop (fun tt ll nn => ∃ (n13 : Nat) (high1_ : List Bool) (i2_ : Int), (shunterref07_Number_l3 N r3 n13 high1_ i2_ = some r) ∧ ∃ (vhigh1_ : Value) (Shigh1_ : List Bl), Sl 4 encB vhigh1_ high1_ Shigh1_ ∧ Is [(5, s5), (6, vhigh1_), (7, Value.int .i64 (i2_))] (List.flatten [S6, Shigh1_]) tt ll ∧ nn = n13 + 1) (N + 1) ?_ ?_
  · exact ⟨N, [], ((8 * size) - 1), hM, Value.slice none 0 0, [], Sl.nil, is_mk rfl rfl, rfl⟩
  · clear hM; rintro t l _ ⟨n13, high1_, i2_, hM, vhigh1_, Shigh1_, hhigh1_, ⟨⟨T, rfl⟩, rfl⟩, rfl⟩
    rcases n13 with _ | n13
    · exact absurd hM (by simp [shunterref07_Number_l3])
    rw [shunterref07_Number_l3] at hM
    refine A_seq fun K14 hK14 => ?_
    refine A_seq fun K15 hK15 => ?_
    refine A_reg ?_
    refine r_v (Value.int .i64 (i2_)) rfl rfl rfl rfl ?_
    refine r_v (Value.bool (decide ((i2_ : Int) ≥ 0))) rfl rfl rfl rfl ?_
    refine lx_nil ?_
    refine hK15 _ _ ?_; try clear hK15 K15
    refine A_cond (decide ((i2_ : Int) ≥ 0)) rfl (fun hc16 => ?_) (fun hc16 => ?_)
    · replace hM := ifp (of_decide_eq_true hc16) hM
      refine A_skip ?_
      refine hK14 _ _ ?_; try clear hK14 K14
      refine A_seq fun K17 hK17 => ?_
      refine A_block ?_
      refine A_regC [(some 24, false), (some 25, true)] (conG Try.prog []) ?_
      refine r_v (vhigh1_) rfl rfl rfl rfl ?_
      refine r_v (s5) rfl rfl rfl rfl ?_
      refine r_v (Value.int .i64 (i2_)) rfl rfl rfl rfl ?_
      replace hM := ck_some hM; obtain ⟨ck18, hM⟩ := hM
      refine r_v (elA s5 ((i2_).toNat * 1)) rfl rfl rfl (ev_v (ev_idxSl rfl rfl rfl (Sl.shp H7) ck18)) ?_
      refine r_le (Value.bool ((r3)[(i2_).toNat]!)) (En := encB) ((r3)[(i2_).toNat]!) ((i2_).toNat) 0 rfl rfl (rd_own H7 (mem_chunk (Ls := [S6, Shigh1_]) (k := 0) rfl rfl)) (get_of ck18) rfl ?_
      refine r_bs (cs0 := []) (Ls := [S6, Shigh1_]) 4 encB [(r3)[(i2_).toNat]!] [Value.bool ((r3)[(i2_).toNat]!)] [Value.bool (false)] rfl rfl rfl rfl rfl rfl rfl (by kernel_rfl) (by kernel_rfl) rfl rfl rfl (fun s19 S20 H21 => ?_)
      replace hM := ck_some hM; obtain ⟨ck22, hM⟩ := hM
      refine r_app (cs0 := []) (Ls := [S6, Shigh1_, S20]) 1 (En := encB) rfl rfl rfl rfl rfl hhigh1_ rfl (rd_own H21 (mem_chunk (Ls := [S6, Shigh1_, S20]) (k := 2) rfl rfl)) rfl rfl rfl rfl rfl (app_b ck22 rfl) (app_m ck22 rfl) rfl (fun s23 S24 H25 => ?_)
      refine r_v (s23) rfl rfl rfl rfl ?_
      refine lx_nil ?_
      refine hK17 _ _ ?_; try clear hK17 K17
      refine A_reg ?_
      refine r_v (Value.int .i64 (i2_)) rfl rfl rfl rfl ?_
      replace hM := ck_some hM; obtain ⟨ck26, hM⟩ := hM
      refine r_v (Value.int .i64 ((i2_ - 1))) rfl rfl (wi64 rfl ck26.1 ck26.2) rfl ?_
      refine r_v (Value.int .i64 ((i2_ - 1))) rfl rfl rfl rfl ?_
      refine lx_nil ?_
      refine fg _ (Sub.pick [S6, S24, S20] [0, 1] rfl) ?_
      exact ⟨n13 + 1, by omega, n13, (high1_ ++ ([(r3)[(i2_).toNat]!])), (i2_ - 1), hM, s23, S24, H25, is_mk rfl rfl, rfl⟩
    · replace hM := ifn (of_decide_eq_false hc16) hM
      refine A_exit ?_
      refine hK9 _ _ ?_; try clear hK9 K9
      refine A_seq fun K27 hK27 => ?_
      refine A_regC [(some 27, false)] (conG Try.prog [(27, fun _ _ v_ L_ U_ => ∀ u0_, shunterref03_Bytes_m N high1_ = some u0_ → (p1 (fun s_ => s_) 5 encY (u0_)) v_ L_ U_)]) ?_
      refine r_v (vhigh1_) rfl rfl rfl rfl ?_
      replace hM := bind_sm hM; obtain ⟨r28, hr29, hM⟩ := hM
      refine r_g1 (Ls := [S6, Shigh1_]) (fun s30 => s30) 5 encY (r28) 55 _ rfl rfl rfl (ev_callF rfl call_55 rfl) (fun own_ nw_ hs_ => shunterref03_Bytes_g N high1_ _ hr29 hs_.view vhigh1_ ((rd_own hhigh1_ (mem_chunk (Ls := [S6, Shigh1_]) (k := 1) rfl rfl)) own_ nw_ hs_)) (fun _ _ v_ L_ U_ => ⟨fun h_ => h_ _ hr29, fun h_ => by intro _ e_; cases Option.some.inj (e_.symm.trans hr29); exact h_⟩) (fun s30 S31 H32 => ?_)
      refine r_v (s30) rfl rfl rfl rfl ?_
      refine lx_nil ?_
      refine hK27 _ _ ?_; try clear hK27 K27
      obtain rfl := Option.some.inj hM
      refine A_ret (fun hn => ends1 (v0 := s30) H32 (sub_one (Sub.pick [S6, Shigh1_, S31] [2] rfl)) rfl (res1 rfl))
def wire_Two_m (N : Nat) (b : List UInt8) (n : Int) : Option (List UInt8) := (slices_Clone___byte_byte__m N b).bind fun r3 => (wire_number_v1_m N r3 n 2).bind fun r11 => some (r11)
set_option maxRecDepth 100000 in
set_option maxHeartbeats 8000000 in
theorem wire_Two_g (N : Nat) (b : List UInt8) (n : Int) (r : List UInt8) (hM : wire_Two_m N b n = some r) (ro : Addr → Option Value) (bv : Value) (hb : Rd encY ro bv b) : Does Try.prog 27 #[bv, Value.int .i64 (n)] ro [] (p1 (fun s_ => s_) 5 encY r) := by
  unfold wire_Two_m at hM
  refine does_of_A follows Try.func27 rfl 9 rfl (upd (upd (fun _ => undef) 1 (Value.int .i64 (n))) 0 (bv)) (by funext k; match k with | 0 => rfl | 1 => rfl | k + 2 => rfl) (fun base0_ => ?_)
  refine A_seq fun K1 hK1 => ?_
  refine A_reg ?_
  refine r_v (Value.slice none 0 0) rfl rfl rfl rfl ?_
  refine lx_nil ?_
  refine hK1 _ _ ?_; try clear hK1 K1
  refine A_seq fun K2 hK2 => ?_
  refine A_regC [(some 6, false), (some 8, true)] (conG Try.prog [(6, fun _ _ v_ L_ U_ => ∀ u0_, slices_Clone___byte_byte__m N b = some u0_ → (p1 (fun s_ => s_) 5 encY (u0_)) v_ L_ U_), (8, fun a_ _ v_ L_ U_ => ∀ u0_, slices_Clone___byte_byte__m N b = some u0_ → ∀ u1_, wire_number_v1_m N u0_ n 2 = some u1_ → (pN (List.flatten [blkS (argAt a_ 1)]) (oS 5 encY u1_ fun s_0 => (oE (s_0) []))) v_ L_ U_)]) ?_
  refine r_v (bv) rfl rfl rfl rfl ?_
  replace hM := bind_sm hM; obtain ⟨r3, hr4, hM⟩ := hM
  refine r_g1 (Ls := []) (fun s5 => s5) 5 encY (r3) 34 _ rfl rfl rfl (ev_callF rfl call_34 rfl) (fun own_ nw_ hs_ => slices_Clone___byte_byte__g N b _ hr4 hs_.view bv ((rd_ro hb) own_ nw_ hs_)) (fun _ _ v_ L_ U_ => ⟨fun h_ => h_ _ hr4, fun h_ => by intro _ e_; cases Option.some.inj (e_.symm.trans hr4); exact h_⟩) (fun s5 S6 H7 => ?_)
  refine r_v (Value.int .i64 (n)) rfl rfl rfl rfl ?_
  refine lx_canon (Ls := [S6]) trivial 0 rfl H7 (fun S8 H9 hn10 => ?_)
  replace hM := bind_sm hM; obtain ⟨r11, hr12, hM⟩ := hM
  refine r_gmL (Ls := [S8]) (FL := [S8]) (RL := []) [0] (oS 5 encY r11 fun s_0 => (oE (s_0) [])) (some 8) 53 _ (pc := fun a_ => pN (List.flatten [blkS (argAt a_ 1)]) (oS 5 encY r11 fun s_0 => (oE (s_0) []))) rfl rfl rfl rfl rfl (ev_callF rfl call_53 rfl) (fun own_ nw_ hn_ hs_ => wire_number_v1_g N r3 n 2 _ hr12 _ s5 S8 H9) (fun _ _ v_ L_ U_ => ⟨fun h_ => h_ _ hr4 _ hr12, fun h_ => by intro _ e_; cases Option.some.inj (e_.symm.trans hr4); intro _ e_; cases Option.some.inj (e_.symm.trans hr12); exact h_⟩) (fun _ _ _ => pN_iff (nmF (nmC hn10 nmN))) (fun h_ => nomatch h_) ?_
  rintro s13 _ ⟨_, S14, _, H15, ⟨rfl, rfl⟩, rfl⟩
  refine lx_perm (Ls := [S14]) (Ls' := [S14]) [0] rfl rfl ?_
  refine r_v (s13) rfl rfl rfl rfl ?_
  refine lx_nil ?_
  refine hK2 _ _ ?_; try clear hK2 K2
  obtain rfl := Option.some.inj hM
  refine A_ret (fun hn => ends1 (v0 := s13) H15 (sub_one (Sub.pick [S14] [0] rfl)) rfl (res1 rfl))
def wire_Four_m (N : Nat) (b : List UInt8) (n : Int) : Option (List UInt8) := (slices_Clone___byte_byte__m N b).bind fun r3 => (wire_number_v1_m N r3 n 4).bind fun r11 => some (r11)
set_option maxRecDepth 100000 in
set_option maxHeartbeats 8000000 in
theorem wire_Four_g (N : Nat) (b : List UInt8) (n : Int) (r : List UInt8) (hM : wire_Four_m N b n = some r) (ro : Addr → Option Value) (bv : Value) (hb : Rd encY ro bv b) : Does Try.prog 28 #[bv, Value.int .i64 (n)] ro [] (p1 (fun s_ => s_) 5 encY r) := by
  unfold wire_Four_m at hM
  refine does_of_A follows Try.func28 rfl 9 rfl (upd (upd (fun _ => undef) 1 (Value.int .i64 (n))) 0 (bv)) (by funext k; match k with | 0 => rfl | 1 => rfl | k + 2 => rfl) (fun base0_ => ?_)
  refine A_seq fun K1 hK1 => ?_
  refine A_reg ?_
  refine r_v (Value.slice none 0 0) rfl rfl rfl rfl ?_
  refine lx_nil ?_
  refine hK1 _ _ ?_; try clear hK1 K1
  refine A_seq fun K2 hK2 => ?_
  refine A_regC [(some 6, false), (some 8, true)] (conG Try.prog [(6, fun _ _ v_ L_ U_ => ∀ u0_, slices_Clone___byte_byte__m N b = some u0_ → (p1 (fun s_ => s_) 5 encY (u0_)) v_ L_ U_), (8, fun a_ _ v_ L_ U_ => ∀ u0_, slices_Clone___byte_byte__m N b = some u0_ → ∀ u1_, wire_number_v1_m N u0_ n 4 = some u1_ → (pN (List.flatten [blkS (argAt a_ 1)]) (oS 5 encY u1_ fun s_0 => (oE (s_0) []))) v_ L_ U_)]) ?_
  refine r_v (bv) rfl rfl rfl rfl ?_
  replace hM := bind_sm hM; obtain ⟨r3, hr4, hM⟩ := hM
  refine r_g1 (Ls := []) (fun s5 => s5) 5 encY (r3) 34 _ rfl rfl rfl (ev_callF rfl call_34 rfl) (fun own_ nw_ hs_ => slices_Clone___byte_byte__g N b _ hr4 hs_.view bv ((rd_ro hb) own_ nw_ hs_)) (fun _ _ v_ L_ U_ => ⟨fun h_ => h_ _ hr4, fun h_ => by intro _ e_; cases Option.some.inj (e_.symm.trans hr4); exact h_⟩) (fun s5 S6 H7 => ?_)
  refine r_v (Value.int .i64 (n)) rfl rfl rfl rfl ?_
  refine lx_canon (Ls := [S6]) trivial 0 rfl H7 (fun S8 H9 hn10 => ?_)
  replace hM := bind_sm hM; obtain ⟨r11, hr12, hM⟩ := hM
  refine r_gmL (Ls := [S8]) (FL := [S8]) (RL := []) [0] (oS 5 encY r11 fun s_0 => (oE (s_0) [])) (some 8) 53 _ (pc := fun a_ => pN (List.flatten [blkS (argAt a_ 1)]) (oS 5 encY r11 fun s_0 => (oE (s_0) []))) rfl rfl rfl rfl rfl (ev_callF rfl call_53 rfl) (fun own_ nw_ hn_ hs_ => wire_number_v1_g N r3 n 4 _ hr12 _ s5 S8 H9) (fun _ _ v_ L_ U_ => ⟨fun h_ => h_ _ hr4 _ hr12, fun h_ => by intro _ e_; cases Option.some.inj (e_.symm.trans hr4); intro _ e_; cases Option.some.inj (e_.symm.trans hr12); exact h_⟩) (fun _ _ _ => pN_iff (nmF (nmC hn10 nmN))) (fun h_ => nomatch h_) ?_
  rintro s13 _ ⟨_, S14, _, H15, ⟨rfl, rfl⟩, rfl⟩
  refine lx_perm (Ls := [S14]) (Ls' := [S14]) [0] rfl rfl ?_
  refine r_v (s13) rfl rfl rfl rfl ?_
  refine lx_nil ?_
  refine hK2 _ _ ?_; try clear hK2 K2
  obtain rfl := Option.some.inj hM
  refine A_ret (fun hn => ends1 (v0 := s13) H15 (sub_one (Sub.pick [S14] [0] rfl)) rfl (res1 rfl))
def shunterref02_May_m (_ : Nat) (v_0 : Int) (v_1 : BitVec 128) : Option (Bool) := if (v_0 : Int) ≥ 1 then if (v_0 : Int) ≤ 128 then some (decide ((((len128 ((hi (v_1)) ++ (lo (v_1))) : Nat) : Int) : Int) ≤ v_0)) else some (false) else some (false)
set_option maxRecDepth 100000 in
set_option maxHeartbeats 8000000 in
theorem shunterref02_May_g (N : Nat) (v_0 : Int) (v_1 : BitVec 128) (r : Bool) (hM : shunterref02_May_m N v_0 v_1 = some r) : Gives Try.prog 17 #[Value.agg #[Value.int .i64 (v_0), U (hi (v_1)), U (lo (v_1))]] (Value.bool (r)) := by
  unfold shunterref02_May_m at hM
  refine gives_of_A follows Try.func17 rfl 22 rfl (upd (fun _ => undef) 0 (Value.agg #[Value.int .i64 (v_0), U (hi (v_1)), U (lo (v_1))])) (by funext k; match k with | 0 => rfl | k + 1 => rfl) (fun base0_ => ?_)
  refine A_seq fun K1 hK1 => ?_
  refine A_reg ?_
  refine r_a (30, #[Value.int .i64 (v_0), U (hi (v_1)), U (lo (v_1))]) rfl rfl rfl (fun b2 => ?_) (.inr rfl)
  refine r_v (Value.bool (false)) rfl rfl rfl rfl ?_
  refine lx_nil ?_
  refine hK1 _ _ ?_; try clear hK1 K1
  refine A_seq fun K3 hK3 => ?_
  refine A_draw [] (by decide +kernel) (fun hn => sep_nil) ?_
  refine r_v (Value.pointer (some ⟨b2, 0, none⟩)) rfl rfl rfl rfl ?_
  refine r_l (Value.int .i64 (v_0)) 0 _ _ _ _ rfl rfl rfl rfl rfl ?_
  refine r_v (Value.bool (decide ((v_0 : Int) ≥ 1))) rfl rfl rfl rfl ?_
  refine r_v (Value.bool (decide ((v_0 : Int) ≥ 1))) rfl rfl rfl rfl ?_
  rcases hg4 : (decide ((v_0 : Int) ≥ 1)) with _ | _
  · replace hM := ifn (of_decide_eq_false hg4) hM
    refine r_n false rfl (by decide) rfl ?_
    refine r_n false rfl (by decide) rfl ?_
    refine r_n false rfl (by decide) rfl ?_
    refine r_v (Value.bool (false)) rfl rfl rfl rfl ?_
    refine r_v (Value.bool (false)) rfl rfl rfl rfl ?_
    refine r_n false rfl (by decide) rfl ?_
    refine r_n false rfl (by decide) rfl ?_
    refine r_n false rfl (by decide) rfl ?_
    refine r_n false rfl (by decide) rfl ?_
    refine r_n false rfl (by decide) rfl ?_
    refine r_n false rfl (by decide) rfl ?_
    refine r_n false rfl (by decide) rfl ?_
    refine r_n false rfl (by decide) rfl ?_
    refine r_n false rfl (by decide) rfl ?_
    refine r_v (Value.bool (false)) rfl rfl rfl rfl ?_
    refine r_v (Value.bool (false)) rfl rfl rfl rfl ?_
    refine lx_nil ?_
    refine hK3 _ _ ?_; try clear hK3 K3
    obtain rfl := Option.some.inj hM
    refine A_ret (fun hn => ends_eq (v0 := Value.bool (false)) rfl (res1 rfl))
  · replace hM := ifp (of_decide_eq_true hg4) hM
    refine r_y rfl ?_
    refine r_v (Value.pointer (some ⟨b2, 0, none⟩)) rfl rfl rfl rfl ?_
    refine r_y rfl ?_
    refine r_l (Value.int .i64 (v_0)) 0 _ _ _ _ rfl rfl rfl rfl rfl ?_
    refine r_y rfl ?_
    refine r_v (Value.bool (decide ((v_0 : Int) ≤ 128))) rfl rfl rfl rfl ?_
    refine r_v (Value.bool (decide ((v_0 : Int) ≤ 128))) rfl rfl rfl rfl ?_
    refine r_v (Value.bool (decide ((v_0 : Int) ≤ 128))) rfl rfl rfl rfl ?_
    rcases hg5 : (decide ((v_0 : Int) ≤ 128)) with _ | _
    · replace hM := ifn (of_decide_eq_false hg5) hM
      refine r_n false rfl (by decide) rfl ?_
      refine r_n false rfl (by decide) rfl ?_
      refine r_n false rfl (by decide) rfl ?_
      refine r_n false rfl (by decide) rfl ?_
      refine r_n false rfl (by decide) rfl ?_
      refine r_n false rfl (by decide) rfl ?_
      refine r_n false rfl (by decide) rfl ?_
      refine r_n false rfl (by decide) rfl ?_
      refine r_n false rfl (by decide) rfl ?_
      refine r_v (Value.bool (false)) rfl rfl rfl rfl ?_
      refine r_v (Value.bool (false)) rfl rfl rfl rfl ?_
      refine lx_nil ?_
      refine hK3 _ _ ?_; try clear hK3 K3
      obtain rfl := Option.some.inj hM
      refine A_ret (fun hn => ends_eq (v0 := Value.bool (false)) rfl (res1 rfl))
    · replace hM := ifp (of_decide_eq_true hg5) hM
      refine r_y rfl ?_
      refine r_v (Value.pointer (some ⟨b2, 1, none⟩)) rfl rfl rfl rfl ?_
      refine r_y rfl ?_
      refine r_l (U (hi (v_1))) 0 _ _ _ _ rfl rfl rfl rfl rfl ?_
      refine r_y rfl ?_
      refine r_v (Value.pointer (some ⟨b2, 2, none⟩)) rfl rfl rfl rfl ?_
      refine r_y rfl ?_
      refine r_l (U (lo (v_1))) 0 _ _ _ _ rfl rfl rfl rfl rfl ?_
      refine r_y rfl ?_
      refine r_c (Value.agg (rowF (BitVec.getLsbD ((hi (v_1)) ++ (lo (v_1)))))) rfl _ _ (ev_callF rfl call_44 rfl) (of_g (hi (v_1)) (lo (v_1))) ?_
      refine r_y rfl ?_
      refine r_c (Value.int .i64 (((len128 ((hi (v_1)) ++ (lo (v_1))) : Nat) : Int))) rfl _ _ (ev_callF rfl call_43 rfl) (rlen_g ((hi (v_1)) ++ (lo (v_1)))) ?_
      refine r_y rfl ?_
      refine r_v (Value.pointer (some ⟨b2, 0, none⟩)) rfl rfl rfl rfl ?_
      refine r_y rfl ?_
      refine r_l (Value.int .i64 (v_0)) 0 _ _ _ _ rfl rfl rfl rfl rfl ?_
      refine r_y rfl ?_
      refine r_v (Value.bool (decide ((((len128 ((hi (v_1)) ++ (lo (v_1))) : Nat) : Int) : Int) ≤ v_0))) rfl rfl rfl rfl ?_
      refine r_v (Value.bool (decide ((((len128 ((hi (v_1)) ++ (lo (v_1))) : Nat) : Int) : Int) ≤ v_0))) rfl rfl rfl rfl ?_
      refine r_v (Value.bool (decide ((((len128 ((hi (v_1)) ++ (lo (v_1))) : Nat) : Int) : Int) ≤ v_0))) rfl rfl rfl rfl ?_
      refine lx_nil ?_
      refine hK3 _ _ ?_; try clear hK3 K3
      obtain rfl := Option.some.inj hM
      refine A_ret (fun hn => ends_eq (v0 := Value.bool (decide ((((len128 ((hi (v_1)) ++ (lo (v_1))) : Nat) : Int) : Int) ≤ v_0))) rfl (res1 rfl))
def shunterref03_Of_l3 (r4 : List Bool) : Nat → List Bool → Int → Option (List Bool)
  | 0, _, _ => none
  | n13 + 1, high1_, i2_ => if (i2_ : Int) ≥ 0 then ck (0 ≤ i2_ ∧ i2_ < ((r4).length : Int)) (ck ((high1_).length + ([(r4)[(i2_).toNat]!]).length ≤ 140737488355328) (ck ((-9223372036854775808 ≤ (i2_ - 1) ∧ (i2_ - 1) ≤ 9223372036854775807)) ((shunterref03_Of_l3 r4 n13) ((high1_ ++ ([(r4)[(i2_).toNat]!]))) ((i2_ - 1))))) else some (high1_)
def shunterref03_Of_m (N : Nat) (v_0 : Int) (v_1 : BitVec 128) : Option (List Bool) := (shunterref02_Bits_m N v_0 v_1).bind fun r4 => ck ((-9223372036854775808 ≤ (((r4).length : Int) - 1) ∧ (((r4).length : Int) - 1) ≤ 9223372036854775807)) (shunterref03_Of_l3 r4 N ([]) ((((r4).length : Int) - 1)))
set_option maxRecDepth 100000 in
set_option maxHeartbeats 8000000 in
theorem shunterref03_Of_g (N : Nat) (v_0 : Int) (v_1 : BitVec 128) (r : List Bool) (hM : shunterref03_Of_m N v_0 v_1 = some r) (ro : Addr → Option Value)  : Does Try.prog 56 #[Value.agg #[Value.int .i64 (v_0), U (hi (v_1)), U (lo (v_1))]] ro [] (p1 (fun s_ => s_) 4 encB r) := by
  unfold shunterref03_Of_m at hM
  refine does_of_A follows Try.func56 rfl 23 rfl (upd (fun _ => undef) 0 (Value.agg #[Value.int .i64 (v_0), U (hi (v_1)), U (lo (v_1))])) (by funext k; match k with | 0 => rfl | k + 1 => rfl) (fun base0_ => ?_)
  refine A_seq fun K1 hK1 => ?_
  refine A_reg ?_
  refine r_a (30, #[Value.int .i64 (v_0), U (hi (v_1)), U (lo (v_1))]) rfl rfl rfl (fun b2 => ?_) (.inr rfl)
  refine r_v (Value.slice none 0 0) rfl rfl rfl rfl ?_
  refine lx_nil ?_
  refine hK1 _ _ ?_; try clear hK1 K1
  refine A_seq fun K3 hK3 => ?_
  refine A_regC [(some 7, false)] (conG Try.prog [(7, fun _ _ v_ L_ U_ => ∀ u0_, shunterref02_Bits_m N v_0 v_1 = some u0_ → (p1 (fun s_ => s_) 4 encB (u0_)) v_ L_ U_)]) ?_
  refine r_l (Value.agg #[Value.int .i64 (v_0), U (hi (v_1)), U (lo (v_1))]) 0 _ _ _ _ rfl rfl rfl rfl rfl ?_
  replace hM := bind_sm hM; obtain ⟨r4, hr5, hM⟩ := hM
  refine r_g1 (Ls := [[(b2, 30, #[Value.int .i64 (v_0), U (hi (v_1)), U (lo (v_1))])]]) (fun s6 => s6) 4 encB (r4) 54 _ rfl rfl rfl (ev_callF rfl call_54 rfl) (fun own_ nw_ hs_ => shunterref02_Bits_g N v_0 v_1 _ hr5 hs_.view ) (fun _ _ v_ L_ U_ => ⟨fun h_ => h_ _ hr5, fun h_ => by intro _ e_; cases Option.some.inj (e_.symm.trans hr5); exact h_⟩) (fun s6 S7 H8 => ?_)
  refine r_v (s6) rfl rfl rfl rfl ?_
  refine lx_nil ?_
  refine hK3 _ _ ?_; try clear hK3 K3
  refine A_seq fun K9 hK9 => ?_
  refine A_reg ?_
  refine r_v (Value.slice none 0 0) rfl rfl rfl rfl ?_
  refine lx_nil ?_
  refine hK9 _ _ ?_; try clear hK9 K9
  refine A_seq fun K10 hK10 => ?_
  refine A_seq fun K11 hK11 => ?_
  refine A_reg ?_
  refine r_v (s6) rfl rfl rfl rfl ?_
  refine r_v (Value.int .i64 (((r4).length : Int))) rfl rfl rfl (ev_lenSl rfl rfl rfl (Sl.shp H8)) ?_
  replace hM := ck_some hM; obtain ⟨ck12, hM⟩ := hM
  refine r_v (Value.int .i64 ((((r4).length : Int) - 1))) rfl rfl (wi64 rfl ck12.1 ck12.2) rfl ?_
  refine r_v (Value.int .i64 ((((r4).length : Int) - 1))) rfl rfl rfl rfl ?_
  refine lx_nil ?_
  refine hK11 _ _ ?_; try clear hK11 K11
  refine A_block ?_
  refine A_forget _ (Sub.pickE (Ls := [[(b2, 30, #[Value.int .i64 (v_0), U (hi (v_1)), U (lo (v_1))])], S7, []]) (Ls0 := [[(b2, 30, #[Value.int .i64 (v_0), U (hi (v_1)), U (lo (v_1))])], S7]) rfl [1, 2] rfl) ?_
  refine A_loop (fun tt ll nn => ∃ (n13 : Nat) (high1_ : List Bool) (i2_ : Int), (shunterref03_Of_l3 r4 n13 high1_ i2_ = some r) ∧ ∃ (vhigh1_ : Value) (Shigh1_ : List Bl), Sl 4 encB vhigh1_ high1_ Shigh1_ ∧ Is [(3, s6), (4, vhigh1_), (5, Value.int .i64 (i2_))] (List.flatten [S7, Shigh1_]) tt ll ∧ nn = n13 + 1) (N + 1) ?_ ?_
  · exact ⟨N, [], (((r4).length : Int) - 1), hM, Value.slice none 0 0, [], Sl.nil, is_mk rfl rfl, rfl⟩
  · clear hM; rintro t l _ ⟨n13, high1_, i2_, hM, vhigh1_, Shigh1_, hhigh1_, ⟨⟨T, rfl⟩, rfl⟩, rfl⟩
    rcases n13 with _ | n13
    · exact absurd hM (by simp [shunterref03_Of_l3])
    rw [shunterref03_Of_l3] at hM
    refine A_seq fun K14 hK14 => ?_
    refine A_seq fun K15 hK15 => ?_
    refine A_reg ?_
    refine r_v (Value.int .i64 (i2_)) rfl rfl rfl rfl ?_
    refine r_v (Value.bool (decide ((i2_ : Int) ≥ 0))) rfl rfl rfl rfl ?_
    refine lx_nil ?_
    refine hK15 _ _ ?_; try clear hK15 K15
    refine A_cond (decide ((i2_ : Int) ≥ 0)) rfl (fun hc16 => ?_) (fun hc16 => ?_)
    · replace hM := ifp (of_decide_eq_true hc16) hM
      refine A_skip ?_
      refine hK14 _ _ ?_; try clear hK14 K14
      refine A_seq fun K17 hK17 => ?_
      refine A_block ?_
      refine A_regC [(some 20, false), (some 21, true)] (conG Try.prog []) ?_
      refine r_v (vhigh1_) rfl rfl rfl rfl ?_
      refine r_v (s6) rfl rfl rfl rfl ?_
      refine r_v (Value.int .i64 (i2_)) rfl rfl rfl rfl ?_
      replace hM := ck_some hM; obtain ⟨ck18, hM⟩ := hM
      refine r_v (elA s6 ((i2_).toNat * 1)) rfl rfl rfl (ev_v (ev_idxSl rfl rfl rfl (Sl.shp H8) ck18)) ?_
      refine r_le (Value.bool ((r4)[(i2_).toNat]!)) (En := encB) ((r4)[(i2_).toNat]!) ((i2_).toNat) 0 rfl rfl (rd_own H8 (mem_chunk (Ls := [S7, Shigh1_]) (k := 0) rfl rfl)) (get_of ck18) rfl ?_
      refine r_bs (cs0 := []) (Ls := [S7, Shigh1_]) 4 encB [(r4)[(i2_).toNat]!] [Value.bool ((r4)[(i2_).toNat]!)] [Value.bool (false)] rfl rfl rfl rfl rfl rfl rfl (by kernel_rfl) (by kernel_rfl) rfl rfl rfl (fun s19 S20 H21 => ?_)
      replace hM := ck_some hM; obtain ⟨ck22, hM⟩ := hM
      refine r_app (cs0 := []) (Ls := [S7, Shigh1_, S20]) 1 (En := encB) rfl rfl rfl rfl rfl hhigh1_ rfl (rd_own H21 (mem_chunk (Ls := [S7, Shigh1_, S20]) (k := 2) rfl rfl)) rfl rfl rfl rfl rfl (app_b ck22 rfl) (app_m ck22 rfl) rfl (fun s23 S24 H25 => ?_)
      refine r_v (s23) rfl rfl rfl rfl ?_
      refine lx_nil ?_
      refine hK17 _ _ ?_; try clear hK17 K17
      refine A_reg ?_
      refine r_v (Value.int .i64 (i2_)) rfl rfl rfl rfl ?_
      replace hM := ck_some hM; obtain ⟨ck26, hM⟩ := hM
      refine r_v (Value.int .i64 ((i2_ - 1))) rfl rfl (wi64 rfl ck26.1 ck26.2) rfl ?_
      refine r_v (Value.int .i64 ((i2_ - 1))) rfl rfl rfl rfl ?_
      refine lx_nil ?_
      refine fg _ (Sub.pick [S7, S24, S20] [0, 1] rfl) ?_
      exact ⟨n13 + 1, by omega, n13, (high1_ ++ ([(r4)[(i2_).toNat]!])), (i2_ - 1), hM, s23, S24, H25, is_mk rfl rfl, rfl⟩
    · replace hM := ifn (of_decide_eq_false hc16) hM
      refine A_exit ?_
      refine hK10 _ _ ?_; try clear hK10 K10
      refine A_seq fun K27 hK27 => ?_
      refine A_reg ?_
      refine r_v (vhigh1_) rfl rfl rfl rfl ?_
      refine r_v (vhigh1_) rfl rfl rfl rfl ?_
      refine lx_nil ?_
      refine hK27 _ _ ?_; try clear hK27 K27
      obtain rfl := Option.some.inj hM
      refine A_ret (fun hn => ends1 (v0 := vhigh1_) hhigh1_ (sub_one (Sub.pick [S7, Shigh1_] [1] rfl)) rfl (res1 rfl))
def shunterref07_Vec_l2 (N : Nat) (v_0 : Int) (v_1 : BitVec 128) : Nat → List Bool → Option (List UInt8)
  | 0, _ => none
  | n14 + 1, l1_ => ck ((-9223372036854775808 ≤ (((l1_).length : Int) + v_0) ∧ (((l1_).length : Int) + v_0) ≤ 9223372036854775807)) (ck (0 ≤ (((l1_).length : Int) + v_0) ∧ (((l1_).length : Int) + v_0) ≤ 9223372036854775807) (if (((((l1_).length : Int) + v_0)) % 8 : Int) ≠ 0 then ck ((l1_).length + ([false]).length ≤ 140737488355328) ((shunterref07_Vec_l2 N v_0 v_1 n14) ((l1_ ++ ([false])))) else (shunterref03_Of_m N v_0 v_1).bind fun r32 => ck ((l1_).length + (r32).length ≤ 140737488355328) ((shunterref03_Bytes_m N (l1_ ++ r32)).bind fun r41 => ck (([(byteI (v_0))]).length + (r41).length ≤ 140737488355328) (some ((([(byteI (v_0))]) ++ r41))))))
def shunterref07_Vec_m (N : Nat) (v_0 : Int) (v_1 : BitVec 128) : Option (List UInt8) := (shunterref02_May_m N v_0 v_1).bind fun r5 => if (r5) = true then shunterref07_Vec_l2 N v_0 v_1 N ([]) else some ([(0 : UInt8)])
set_option maxRecDepth 100000 in
set_option maxHeartbeats 8000000 in
theorem shunterref07_Vec_g (N : Nat) (v_0 : Int) (v_1 : BitVec 128) (r : List UInt8) (hM : shunterref07_Vec_m N v_0 v_1 = some r) (ro : Addr → Option Value)  : Does Try.prog 29 #[Value.agg #[Value.int .i64 (v_0), U (hi (v_1)), U (lo (v_1))]] ro [] (p1 (fun s_ => s_) 5 encY r) := by
  unfold shunterref07_Vec_m at hM
  refine does_of_A follows Try.func29 rfl 30 rfl (upd (fun _ => undef) 0 (Value.agg #[Value.int .i64 (v_0), U (hi (v_1)), U (lo (v_1))])) (by funext k; match k with | 0 => rfl | k + 1 => rfl) (fun base0_ => ?_)
  refine A_seq fun K1 hK1 => ?_
  refine A_reg ?_
  refine r_a (30, #[Value.int .i64 (v_0), U (hi (v_1)), U (lo (v_1))]) rfl rfl rfl (fun b2 => ?_) (.inr rfl)
  refine r_v (Value.slice none 0 0) rfl rfl rfl rfl ?_
  refine lx_nil ?_
  refine hK1 _ _ ?_; try clear hK1 K1
  refine A_seq fun K3 hK3 => ?_
  refine A_seq fun K4 hK4 => ?_
  refine A_reg ?_
  refine r_l (Value.agg #[Value.int .i64 (v_0), U (hi (v_1)), U (lo (v_1))]) 0 _ _ _ _ rfl rfl rfl rfl rfl ?_
  replace hM := bind_sm hM; obtain ⟨r5, hr6, hM⟩ := hM
  refine r_c (Value.bool (r5)) rfl _ _ (ev_callF rfl call_17 rfl) (shunterref02_May_g N v_0 v_1 _ hr6) ?_
  refine r_v (Value.bool (!(r5))) rfl rfl rfl rfl ?_
  refine lx_nil ?_
  refine hK4 _ _ ?_; try clear hK4 K4
  refine A_cond (!(r5)) rfl (fun hc7 => ?_) (fun hc7 => ?_)
  · replace hM := ifn (Bool.eq_false_iff.1 (not_t hc7)) hM
    refine A_seq fun K8 hK8 => ?_
    refine A_regC [(some 8, false)] (conG Try.prog []) ?_
    refine r_bs (cs0 := []) (Ls := [[(b2, 30, #[Value.int .i64 (v_0), U (hi (v_1)), U (lo (v_1))])]]) 5 encY [(0 : UInt8)] [Value.int .u8 (0)] [Value.int .u8 (0)] rfl rfl rfl rfl rfl rfl rfl (by kernel_rfl) (by kernel_rfl) rfl rfl rfl (fun s9 S10 H11 => ?_)
    refine r_v (s9) rfl rfl rfl rfl ?_
    refine lx_nil ?_
    refine hK8 _ _ ?_; try clear hK8 K8
    obtain rfl := Option.some.inj hM
    refine A_ret (fun hn => ends1 (v0 := s9) H11 (sub_one (Sub.pick [[(b2, 30, #[Value.int .i64 (v_0), U (hi (v_1)), U (lo (v_1))])], S10] [1] rfl)) rfl (res1 rfl))
  · replace hM := ifp (not_f hc7) hM
    refine A_skip ?_
    refine hK3 _ _ ?_; try clear hK3 K3
    refine A_seq fun K12 hK12 => ?_
    refine A_reg ?_
    refine r_v (Value.slice none 0 0) rfl rfl rfl rfl ?_
    refine lx_nil ?_
    refine hK12 _ _ ?_; try clear hK12 K12
    refine A_seq fun K13 hK13 => ?_
    refine A_block ?_
    refine A_forget _ (Sub.pickE (Ls := [[(b2, 30, #[Value.int .i64 (v_0), U (hi (v_1)), U (lo (v_1))])], []]) (Ls0 := [[(b2, 30, #[Value.int .i64 (v_0), U (hi (v_1)), U (lo (v_1))])]]) rfl [0, 1] rfl) ?_
    refine A_loop (fun tt ll nn => ∃ (n14 : Nat) (l1_ : List Bool), (shunterref07_Vec_l2 N v_0 v_1 n14 l1_ = some r) ∧ ∃ (vl1_ : Value) (Sl1_ : List Bl), Sl 4 encB vl1_ l1_ Sl1_ ∧ Is [(1, Value.pointer (some ⟨b2, 0, none⟩)), (3, vl1_)] (List.flatten [[(b2, 30, #[Value.int .i64 (v_0), U (hi (v_1)), U (lo (v_1))])], Sl1_]) tt ll ∧ nn = n14 + 1) (N + 1) ?_ ?_
    · exact ⟨N, [], hM, Value.slice none 0 0, [], Sl.nil, is_mk rfl rfl, rfl⟩
    · clear hM; rintro t l _ ⟨n14, l1_, hM, vl1_, Sl1_, hl1_, ⟨⟨T, rfl⟩, rfl⟩, rfl⟩
      rcases n14 with _ | n14
      · exact absurd hM (by simp [shunterref07_Vec_l2])
      rw [shunterref07_Vec_l2] at hM
      refine A_seq fun K15 hK15 => ?_
      refine A_seq fun K16 hK16 => ?_
      refine A_reg ?_
      refine r_v (vl1_) rfl rfl rfl rfl ?_
      refine r_v (Value.int .i64 (((l1_).length : Int))) rfl rfl rfl (ev_lenSl rfl rfl rfl (Sl.shp hl1_)) ?_
      refine r_v (Value.pointer (some ⟨b2, 0, none⟩)) rfl rfl rfl rfl ?_
      refine r_l (Value.int .i64 (v_0)) 0 _ _ _ _ rfl rfl rfl rfl rfl ?_
      replace hM := ck_some hM; obtain ⟨ck17, hM⟩ := hM
      refine r_v (Value.int .i64 ((((l1_).length : Int) + v_0))) rfl rfl (wi64 rfl ck17.1 ck17.2) rfl ?_
      replace hM := ck_some hM; obtain ⟨ck18, hM⟩ := hM
      refine r_v (Value.int .i64 (((((l1_).length : Int) + v_0)) % 8)) rfl rfl (rem_i64 ck18.1) rfl ?_
      refine r_v (Value.bool (((((((l1_).length : Int) + v_0)) % 8 : Int) != 0))) rfl rfl rfl rfl ?_
      refine lx_nil ?_
      refine hK16 _ _ ?_; try clear hK16 K16
      refine A_cond (((((((l1_).length : Int) + v_0)) % 8 : Int) != 0)) rfl (fun hc19 => ?_) (fun hc19 => ?_)
      · replace hM := ifp (bne_iff_ne.1 hc19) hM
        refine A_skip ?_
        refine hK15 _ _ ?_; try clear hK15 K15
        refine A_block ?_
        refine A_regC [(some 17, false), (some 18, true)] (conG Try.prog []) ?_
        refine r_v (vl1_) rfl rfl rfl rfl ?_
        refine r_bs (cs0 := []) (Ls := [[(b2, 30, #[Value.int .i64 (v_0), U (hi (v_1)), U (lo (v_1))])], Sl1_]) 4 encB [false] [Value.bool (false)] [Value.bool (false)] rfl rfl rfl rfl rfl rfl rfl (by kernel_rfl) (by kernel_rfl) rfl rfl rfl (fun s20 S21 H22 => ?_)
        replace hM := ck_some hM; obtain ⟨ck23, hM⟩ := hM
        refine r_app (cs0 := []) (Ls := [[(b2, 30, #[Value.int .i64 (v_0), U (hi (v_1)), U (lo (v_1))])], Sl1_, S21]) 1 (En := encB) rfl rfl rfl rfl rfl hl1_ rfl (rd_own H22 (mem_chunk (Ls := [[(b2, 30, #[Value.int .i64 (v_0), U (hi (v_1)), U (lo (v_1))])], Sl1_, S21]) (k := 2) rfl rfl)) rfl rfl rfl rfl rfl (app_b ck23 rfl) (app_m ck23 rfl) rfl (fun s24 S25 H26 => ?_)
        refine r_v (s24) rfl rfl rfl rfl ?_
        refine lx_nil ?_
        refine fg _ (Sub.pick [[(b2, 30, #[Value.int .i64 (v_0), U (hi (v_1)), U (lo (v_1))])], S25, S21] [0, 1] rfl) ?_
        exact ⟨n14 + 1, by omega, n14, (l1_ ++ ([false])), hM, s24, S25, H26, is_mk rfl rfl, rfl⟩
      · replace hM := ifn (bne_f hc19) hM
        refine A_exit ?_
        refine hK13 _ _ ?_; try clear hK13 K13
        refine A_seq fun K27 hK27 => ?_
        refine A_regC [(some 22, false)] (conG Try.prog []) ?_
        refine r_v (Value.pointer (some ⟨b2, 0, none⟩)) rfl rfl rfl rfl ?_
        refine r_l (Value.int .i64 (v_0)) 0 _ _ _ _ rfl rfl rfl rfl rfl ?_
        refine r_w (Value.int .u8 ((((byteI (v_0)).toNat : Nat) : Int))) rfl rfl (u8_wrap (v_0)) (fun _ => rfl) ?_
        refine r_bs (cs0 := []) (Ls := [[(b2, 30, #[Value.int .i64 (v_0), U (hi (v_1)), U (lo (v_1))])], Sl1_]) 5 encY [(byteI (v_0))] [Value.int .u8 ((((byteI (v_0)).toNat : Nat) : Int))] [Value.int .u8 (0)] rfl rfl rfl rfl rfl rfl rfl (by kernel_rfl) (by kernel_rfl) rfl rfl rfl (fun s28 S29 H30 => ?_)
        refine r_v (s28) rfl rfl rfl rfl ?_
        refine lx_nil ?_
        refine hK27 _ _ ?_; try clear hK27 K27
        refine A_seq fun K31 hK31 => ?_
        refine A_regC [(some 26, false), (some 27, true), (some 28, false), (some 29, true)] (conG Try.prog [(26, fun _ _ v_ L_ U_ => ∀ u0_, shunterref03_Of_m N v_0 v_1 = some u0_ → (p1 (fun s_ => s_) 4 encB (u0_)) v_ L_ U_), (28, fun _ _ v_ L_ U_ => ∀ u0_, shunterref03_Of_m N v_0 v_1 = some u0_ → ∀ u1_, shunterref03_Bytes_m N (l1_ ++ u0_) = some u1_ → (p1 (fun s_ => s_) 5 encY (u1_)) v_ L_ U_)]) ?_
        refine r_v (s28) rfl rfl rfl rfl ?_
        refine r_v (vl1_) rfl rfl rfl rfl ?_
        refine r_l (Value.agg #[Value.int .i64 (v_0), U (hi (v_1)), U (lo (v_1))]) 0 _ _ _ _ rfl rfl rfl rfl rfl ?_
        replace hM := bind_sm hM; obtain ⟨r32, hr33, hM⟩ := hM
        refine r_g1 (Ls := [[(b2, 30, #[Value.int .i64 (v_0), U (hi (v_1)), U (lo (v_1))])], Sl1_, S29]) (fun s34 => s34) 4 encB (r32) 56 _ rfl rfl rfl (ev_callF rfl call_56 rfl) (fun own_ nw_ hs_ => shunterref03_Of_g N v_0 v_1 _ hr33 hs_.view ) (fun _ _ v_ L_ U_ => ⟨fun h_ => h_ _ hr33, fun h_ => by intro _ e_; cases Option.some.inj (e_.symm.trans hr33); exact h_⟩) (fun s34 S35 H36 => ?_)
        replace hM := ck_some hM; obtain ⟨ck37, hM⟩ := hM
        refine r_app (cs0 := [(26, fun _ _ v_ L_ U_ => ∀ u0_, shunterref03_Of_m N v_0 v_1 = some u0_ → (p1 (fun s_ => s_) 4 encB (u0_)) v_ L_ U_), (28, fun _ _ v_ L_ U_ => ∀ u0_, shunterref03_Of_m N v_0 v_1 = some u0_ → ∀ u1_, shunterref03_Bytes_m N (l1_ ++ u0_) = some u1_ → (p1 (fun s_ => s_) 5 encY (u1_)) v_ L_ U_)]) (Ls := [[(b2, 30, #[Value.int .i64 (v_0), U (hi (v_1)), U (lo (v_1))])], Sl1_, S29, S35]) 1 (En := encB) rfl rfl rfl rfl rfl hl1_ rfl (rd_own H36 (mem_chunk (Ls := [[(b2, 30, #[Value.int .i64 (v_0), U (hi (v_1)), U (lo (v_1))])], Sl1_, S29, S35]) (k := 3) rfl rfl)) rfl rfl rfl rfl rfl (app_b ck37 rfl) (app_m ck37 rfl) rfl (fun s38 S39 H40 => ?_)
        replace hM := bind_sm hM; obtain ⟨r41, hr42, hM⟩ := hM
        refine r_g1 (Ls := [[(b2, 30, #[Value.int .i64 (v_0), U (hi (v_1)), U (lo (v_1))])], S39, S29, S35]) (fun s43 => s43) 5 encY (r41) 55 _ rfl rfl rfl (ev_callF rfl call_55 rfl) (fun own_ nw_ hs_ => shunterref03_Bytes_g N (l1_ ++ r32) _ hr42 hs_.view s38 ((rd_own H40 (mem_chunk (Ls := [[(b2, 30, #[Value.int .i64 (v_0), U (hi (v_1)), U (lo (v_1))])], S39, S29, S35]) (k := 1) rfl rfl)) own_ nw_ hs_)) (fun _ _ v_ L_ U_ => ⟨fun h_ => h_ _ hr33 _ hr42, fun h_ => by intro _ e_; cases Option.some.inj (e_.symm.trans hr33); intro _ e_; cases Option.some.inj (e_.symm.trans hr42); exact h_⟩) (fun s43 S44 H45 => ?_)
        replace hM := ck_some hM; obtain ⟨ck46, hM⟩ := hM
        refine r_app (cs0 := [(26, fun _ _ v_ L_ U_ => ∀ u0_, shunterref03_Of_m N v_0 v_1 = some u0_ → (p1 (fun s_ => s_) 4 encB (u0_)) v_ L_ U_), (28, fun _ _ v_ L_ U_ => ∀ u0_, shunterref03_Of_m N v_0 v_1 = some u0_ → ∀ u1_, shunterref03_Bytes_m N (l1_ ++ u0_) = some u1_ → (p1 (fun s_ => s_) 5 encY (u1_)) v_ L_ U_)]) (Ls := [[(b2, 30, #[Value.int .i64 (v_0), U (hi (v_1)), U (lo (v_1))])], S39, S29, S35, S44]) 2 (En := encY) rfl rfl rfl rfl rfl H30 rfl (rd_own H45 (mem_chunk (Ls := [[(b2, 30, #[Value.int .i64 (v_0), U (hi (v_1)), U (lo (v_1))])], S39, S29, S35, S44]) (k := 4) rfl rfl)) rfl rfl rfl rfl rfl (app_b ck46 rfl) (app_m ck46 rfl) rfl (fun s47 S48 H49 => ?_)
        refine r_v (s47) rfl rfl rfl rfl ?_
        refine lx_nil ?_
        refine hK31 _ _ ?_; try clear hK31 K31
        obtain rfl := Option.some.inj hM
        refine A_ret (fun hn => ends1 (v0 := s47) H49 (sub_one (Sub.pick [[(b2, 30, #[Value.int .i64 (v_0), U (hi (v_1)), U (lo (v_1))])], S39, S48, S35, S44] [2] rfl)) rfl (res1 rfl))
def wire_Name_m (N : Nat) (b : List UInt8) (s : List UInt8) : Option (List UInt8) := (slices_Clone___byte_byte__m N b).bind fun r3 => if (((s).length : Int) : Int) > 255 then (wire_number_v1_m N r3 0 1).bind fun r12 => some (r12) else (wire_number_v1_m N r3 ((s).length : Int) 1).bind fun r18 => ck ((r18).length + (s).length ≤ 140737488355328) (some ((r18 ++ s)))
set_option maxRecDepth 100000 in
set_option maxHeartbeats 8000000 in
theorem wire_Name_g (N : Nat) (b : List UInt8) (s : List UInt8) (r : List UInt8) (hM : wire_Name_m N b s = some r) (ro : Addr → Option Value) (bv : Value) (hb : Rd encY ro bv b) : Does Try.prog 30 #[bv, Value.string (⟨(s).toArray⟩)] ro [] (p1 (fun s_ => s_) 5 encY r) := by
  unfold wire_Name_m at hM
  refine does_of_A follows Try.func30 rfl 18 rfl (upd (upd (fun _ => undef) 1 (Value.string (⟨(s).toArray⟩))) 0 (bv)) (by funext k; match k with | 0 => rfl | 1 => rfl | k + 2 => rfl) (fun base0_ => ?_)
  refine A_seq fun K1 hK1 => ?_
  refine A_reg ?_
  refine r_v (Value.slice none 0 0) rfl rfl rfl rfl ?_
  refine lx_nil ?_
  refine hK1 _ _ ?_; try clear hK1 K1
  refine A_seq fun K2 hK2 => ?_
  refine A_regC [(some 6, false)] (conG Try.prog [(6, fun _ _ v_ L_ U_ => ∀ u0_, slices_Clone___byte_byte__m N b = some u0_ → (p1 (fun s_ => s_) 5 encY (u0_)) v_ L_ U_)]) ?_
  refine r_v (bv) rfl rfl rfl rfl ?_
  replace hM := bind_sm hM; obtain ⟨r3, hr4, hM⟩ := hM
  refine r_g1 (Ls := []) (fun s5 => s5) 5 encY (r3) 34 _ rfl rfl rfl (ev_callF rfl call_34 rfl) (fun own_ nw_ hs_ => slices_Clone___byte_byte__g N b _ hr4 hs_.view bv ((rd_ro hb) own_ nw_ hs_)) (fun _ _ v_ L_ U_ => ⟨fun h_ => h_ _ hr4, fun h_ => by intro _ e_; cases Option.some.inj (e_.symm.trans hr4); exact h_⟩) (fun s5 S6 H7 => ?_)
  refine r_v (s5) rfl rfl rfl rfl ?_
  refine lx_nil ?_
  refine hK2 _ _ ?_; try clear hK2 K2
  refine A_seq fun K8 hK8 => ?_
  refine A_seq fun K9 hK9 => ?_
  refine A_reg ?_
  refine r_v (Value.string (⟨(s).toArray⟩)) rfl rfl rfl rfl ?_
  refine r_v (Value.int .i64 (((s).length : Int))) rfl rfl rfl (ev_lenS rfl rfl rfl) ?_
  refine r_v (Value.bool (decide ((((s).length : Int) : Int) > 255))) rfl rfl rfl rfl ?_
  refine lx_nil ?_
  refine hK9 _ _ ?_; try clear hK9 K9
  refine A_cond (decide ((((s).length : Int) : Int) > 255)) rfl (fun hc10 => ?_) (fun hc10 => ?_)
  · replace hM := ifp (of_decide_eq_true hc10) hM
    refine A_seq fun K11 hK11 => ?_
    refine A_regC [(some 11, true)] (conG Try.prog [(11, fun _ _ v_ L_ U_ => ∀ u0_, wire_number_v1_m N r3 0 1 = some u0_ → (pO (List.flatten [S6]) (oS 5 encY u0_ fun s_0 => (oE (s_0) []))) v_ L_ U_)]) ?_
    refine r_v (s5) rfl rfl rfl rfl ?_
    replace hM := bind_sm hM; obtain ⟨r12, hr13, hM⟩ := hM
    refine r_gm (Ls := [S6]) (FL := [S6]) (RL := []) [0] (oS 5 encY r12 fun s_0 => (oE (s_0) [])) (some 11) 53 _ rfl rfl rfl rfl rfl (ev_callF rfl call_53 rfl) (fun own_ nw_ hn_ hs_ => wire_number_v1_g N r3 0 1 _ hr13 _ s5 S6 H7) (fun _ _ v_ L_ U_ => ⟨fun h_ => h_ _ hr13, fun h_ => by intro _ e_; cases Option.some.inj (e_.symm.trans hr13); exact h_⟩) (fun h_ => nomatch h_) ?_
    rintro s14 _ ⟨_, S15, _, H16, ⟨rfl, rfl⟩, rfl⟩
    refine lx_perm (Ls := [S15]) (Ls' := [S15]) [0] rfl rfl ?_
    refine r_v (s14) rfl rfl rfl rfl ?_
    refine lx_nil ?_
    refine hK11 _ _ ?_; try clear hK11 K11
    obtain rfl := Option.some.inj hM
    refine A_ret (fun hn => ends1 (v0 := s14) H16 (sub_one (Sub.pick [S15] [0] rfl)) rfl (res1 rfl))
  · replace hM := ifn (of_decide_eq_false hc10) hM
    refine A_skip ?_
    refine hK8 _ _ ?_; try clear hK8 K8
    refine A_seq fun K17 hK17 => ?_
    refine A_regC [(some 15, true), (some 17, true)] (conG Try.prog [(15, fun _ _ v_ L_ U_ => ∀ u0_, wire_number_v1_m N r3 ((s).length : Int) 1 = some u0_ → (pO (List.flatten [S6]) (oS 5 encY u0_ fun s_0 => (oE (s_0) []))) v_ L_ U_)]) ?_
    refine r_v (s5) rfl rfl rfl rfl ?_
    refine r_v (Value.string (⟨(s).toArray⟩)) rfl rfl rfl rfl ?_
    refine r_v (Value.int .i64 (((s).length : Int))) rfl rfl rfl (ev_lenS rfl rfl rfl) ?_
    replace hM := bind_sm hM; obtain ⟨r18, hr19, hM⟩ := hM
    refine r_gm (Ls := [S6]) (FL := [S6]) (RL := []) [0] (oS 5 encY r18 fun s_0 => (oE (s_0) [])) (some 15) 53 _ rfl rfl rfl rfl rfl (ev_callF rfl call_53 rfl) (fun own_ nw_ hn_ hs_ => wire_number_v1_g N r3 ((s).length : Int) 1 _ hr19 _ s5 S6 H7) (fun _ _ v_ L_ U_ => ⟨fun h_ => h_ _ hr19, fun h_ => by intro _ e_; cases Option.some.inj (e_.symm.trans hr19); exact h_⟩) (fun h_ => nomatch h_) ?_
    rintro s20 _ ⟨_, S21, _, H22, ⟨rfl, rfl⟩, rfl⟩
    refine lx_perm (Ls := [S21]) (Ls' := [S21]) [0] rfl rfl ?_
    refine r_v (Value.string (⟨(s).toArray⟩)) rfl rfl rfl rfl ?_
    replace hM := ck_some hM; obtain ⟨ck23, hM⟩ := hM
    refine r_aps (cs0 := [(15, fun _ _ v_ L_ U_ => ∀ u0_, wire_number_v1_m N r3 ((s).length : Int) 1 = some u0_ → (pO (List.flatten [S6]) (oS 5 encY u0_ fun s_0 => (oE (s_0) []))) v_ L_ U_)]) (Ls := [S21]) 0 (s) rfl rfl rfl rfl rfl H22 rfl rfl rfl rfl rfl rfl rfl rfl ck23 rfl (fun s24 S25 H26 => ?_)
    refine r_v (s24) rfl rfl rfl rfl ?_
    refine lx_nil ?_
    refine hK17 _ _ ?_; try clear hK17 K17
    obtain rfl := Option.some.inj hM
    refine A_ret (fun hn => ends1 (v0 := s24) H26 (sub_one (Sub.pick [S25] [0] rfl)) rfl (res1 rfl))
def shunterref07_Name_m (_ : Nat) (s : List UInt8) : Option (List UInt8) := if (((s).length : Int) : Int) > 255 then some ([(0 : UInt8)]) else ck (([(byteI (((s).length : Int)))]).length + (s).length ≤ 140737488355328) (some ((([(byteI (((s).length : Int)))]) ++ s)))
set_option maxRecDepth 100000 in
set_option maxHeartbeats 8000000 in
theorem shunterref07_Name_g (N : Nat) (s : List UInt8) (r : List UInt8) (hM : shunterref07_Name_m N s = some r) (ro : Addr → Option Value)  : Does Try.prog 31 #[Value.string (⟨(s).toArray⟩)] ro [] (p1 (fun s_ => s_) 5 encY r) := by
  unfold shunterref07_Name_m at hM
  refine does_of_A follows Try.func31 rfl 13 rfl (upd (fun _ => undef) 0 (Value.string (⟨(s).toArray⟩))) (by funext k; match k with | 0 => rfl | k + 1 => rfl) (fun base0_ => ?_)
  refine A_seq fun K1 hK1 => ?_
  refine A_reg ?_
  refine r_v (Value.slice none 0 0) rfl rfl rfl rfl ?_
  refine lx_nil ?_
  refine hK1 _ _ ?_; try clear hK1 K1
  refine A_seq fun K2 hK2 => ?_
  refine A_seq fun K3 hK3 => ?_
  refine A_reg ?_
  refine r_v (Value.string (⟨(s).toArray⟩)) rfl rfl rfl rfl ?_
  refine r_v (Value.int .i64 (((s).length : Int))) rfl rfl rfl (ev_lenS rfl rfl rfl) ?_
  refine r_v (Value.bool (decide ((((s).length : Int) : Int) > 255))) rfl rfl rfl rfl ?_
  refine lx_nil ?_
  refine hK3 _ _ ?_; try clear hK3 K3
  refine A_cond (decide ((((s).length : Int) : Int) > 255)) rfl (fun hc4 => ?_) (fun hc4 => ?_)
  · replace hM := ifp (of_decide_eq_true hc4) hM
    refine A_seq fun K5 hK5 => ?_
    refine A_regC [(some 6, false)] (conG Try.prog []) ?_
    refine r_bs (cs0 := []) (Ls := []) 5 encY [(0 : UInt8)] [Value.int .u8 (0)] [Value.int .u8 (0)] rfl rfl rfl rfl rfl rfl rfl (by kernel_rfl) (by kernel_rfl) rfl rfl rfl (fun s6 S7 H8 => ?_)
    refine r_v (s6) rfl rfl rfl rfl ?_
    refine lx_nil ?_
    refine hK5 _ _ ?_; try clear hK5 K5
    obtain rfl := Option.some.inj hM
    refine A_ret (fun hn => ends1 (v0 := s6) H8 (sub_one (Sub.pick [S7] [0] rfl)) rfl (res1 rfl))
  · replace hM := ifn (of_decide_eq_false hc4) hM
    refine A_skip ?_
    refine hK2 _ _ ?_; try clear hK2 K2
    refine A_seq fun K9 hK9 => ?_
    refine A_regC [(some 10, false), (some 12, true)] (conG Try.prog []) ?_
    refine r_v (Value.string (⟨(s).toArray⟩)) rfl rfl rfl rfl ?_
    refine r_v (Value.int .i64 (((s).length : Int))) rfl rfl rfl (ev_lenS rfl rfl rfl) ?_
    refine r_w (Value.int .u8 ((((byteI (((s).length : Int))).toNat : Nat) : Int))) rfl rfl (u8_wrap (((s).length : Int))) (fun _ => rfl) ?_
    refine r_bs (cs0 := []) (Ls := []) 5 encY [(byteI (((s).length : Int)))] [Value.int .u8 ((((byteI (((s).length : Int))).toNat : Nat) : Int))] [Value.int .u8 (0)] rfl rfl rfl rfl rfl rfl rfl (by kernel_rfl) (by kernel_rfl) rfl rfl rfl (fun s10 S11 H12 => ?_)
    refine r_v (Value.string (⟨(s).toArray⟩)) rfl rfl rfl rfl ?_
    replace hM := ck_some hM; obtain ⟨ck13, hM⟩ := hM
    refine r_aps (cs0 := []) (Ls := [S11]) 0 (s) rfl rfl rfl rfl rfl H12 rfl rfl rfl rfl rfl rfl rfl rfl ck13 rfl (fun s14 S15 H16 => ?_)
    refine r_v (s14) rfl rfl rfl rfl ?_
    refine lx_nil ?_
    refine hK9 _ _ ?_; try clear hK9 K9
    obtain rfl := Option.some.inj hM
    refine A_ret (fun hn => ends1 (v0 := s14) H16 (sub_one (Sub.pick [S15] [0] rfl)) rfl (res1 rfl))
def wire_list_api_Vec__v1_l3 (N : Nat) (l' : List (Int × BitVec 128)) : Nat → List UInt8 → Int → Option (List UInt8)
  | 0, _, _ => none
  | n19 + 1, b1_, x2_ => if (x2_ : Int) < ((l').length : Int) then ck (0 ≤ x2_ ∧ x2_ < ((l').length : Int)) ((wire_row_v1_m N b1_ (((l')[(x2_).toNat]!).1) (((l')[(x2_).toNat]!).2)).bind fun r27 => ck ((-9223372036854775808 ≤ (x2_ + 1) ∧ (x2_ + 1) ≤ 9223372036854775807)) ((wire_list_api_Vec__v1_l3 N l' n19) (r27) ((x2_ + 1)))) else some (b1_)
def wire_list_api_Vec__v1_m (N : Nat) (b : List UInt8) (l' : List (Int × BitVec 128)) : Option (List UInt8) := if (((l').length : Int) : Int) > 255 then (wire_number_v1_m N b 0 1).bind fun r6 => some (r6) else (wire_number_v1_m N b ((l').length : Int) 1).bind fun r12 => wire_list_api_Vec__v1_l3 N l' N (r12) (0)
set_option maxRecDepth 100000 in
set_option maxHeartbeats 8000000 in
theorem wire_list_api_Vec__v1_g (N : Nat) (b : List UInt8) (l' : List (Int × BitVec 128)) (r : List UInt8) (hM : wire_list_api_Vec__v1_m N b l' = some r) (ro : Addr → Option Value) (bv : Value) (Sb : List Bl) (hb : Sl 5 encY bv b Sb) (l'v : Value) (hl' : Rd enc_30 ro l'v l') : Does Try.prog 57 #[bv, l'v, Value.func (.func 52) #[] #[]] ro (List.flatten [Sb]) (pO (List.flatten [Sb]) (oS 5 encY r fun s_0 => (oE (s_0) []))) := by
  unfold wire_list_api_Vec__v1_m at hM
  refine doesO_of_A follows Try.func57 rfl 30 rfl (upd (upd (upd (fun _ => undef) 2 (Value.func (.func 52) #[] #[])) 1 (l'v)) 0 (bv)) (by funext k; match k with | 0 => rfl | 1 => rfl | 2 => rfl | k + 3 => rfl) (fun _ _ h_ _ => h_) (fun base0_ => ?_)
  refine A_seq fun K1 hK1 => ?_
  refine A_reg ?_
  refine r_v (Value.slice none 0 0) rfl rfl rfl rfl ?_
  refine lx_nil ?_
  refine hK1 _ _ ?_; try clear hK1 K1
  refine A_seq fun K2 hK2 => ?_
  refine A_seq fun K3 hK3 => ?_
  refine A_reg ?_
  refine r_v (l'v) rfl rfl rfl rfl ?_
  refine r_v (Value.int .i64 (((l').length : Int))) rfl rfl rfl (ev_lenSl rfl rfl rfl (Rd.shp hl')) ?_
  refine r_v (Value.bool (decide ((((l').length : Int) : Int) > 255))) rfl rfl rfl rfl ?_
  refine lx_nil ?_
  refine hK3 _ _ ?_; try clear hK3 K3
  refine A_cond (decide ((((l').length : Int) : Int) > 255)) rfl (fun hc4 => ?_) (fun hc4 => ?_)
  · replace hM := ifp (of_decide_eq_true hc4) hM
    refine A_seq fun K5 hK5 => ?_
    refine A_regC [(some 13, true)] (conG Try.prog [(13, fun _ _ v_ L_ U_ => ∀ u0_, wire_number_v1_m N b 0 1 = some u0_ → (pO (List.flatten [Sb]) (oS 5 encY u0_ fun s_0 => (oE (s_0) []))) v_ L_ U_)]) ?_
    refine r_v (bv) rfl rfl rfl rfl ?_
    replace hM := bind_sm hM; obtain ⟨r6, hr7, hM⟩ := hM
    refine r_gm (Ls := [Sb]) (FL := [Sb]) (RL := []) [0] (oS 5 encY r6 fun s_0 => (oE (s_0) [])) (some 13) 53 _ rfl rfl rfl rfl rfl (ev_callF rfl call_53 rfl) (fun own_ nw_ hn_ hs_ => wire_number_v1_g N b 0 1 _ hr7 _ bv Sb hb) (fun _ _ v_ L_ U_ => ⟨fun h_ => h_ _ hr7, fun h_ => by intro _ e_; cases Option.some.inj (e_.symm.trans hr7); exact h_⟩) (fun h_ => nomatch h_) ?_
    rintro s8 _ ⟨_, S9, _, H10, ⟨rfl, rfl⟩, rfl⟩
    refine lx_perm (Ls := [S9]) (Ls' := [S9]) [0] rfl rfl ?_
    refine r_v (s8) rfl rfl rfl rfl ?_
    refine lx_nil ?_
    refine hK5 _ _ ?_; try clear hK5 K5
    obtain rfl := Option.some.inj hM
    refine A_ret (fun hn => endsO (v0 := s8) (O := [S9]) (res1 rfl) (Sub.pick [S9] [0] rfl) ⟨s8, S9, _, H10, ⟨rfl, rfl⟩, rfl⟩)
  · replace hM := ifn (of_decide_eq_false hc4) hM
    refine A_skip ?_
    refine hK2 _ _ ?_; try clear hK2 K2
    refine A_seq fun K11 hK11 => ?_
    refine A_regC [(some 17, true)] (conG Try.prog [(17, fun _ _ v_ L_ U_ => ∀ u0_, wire_number_v1_m N b ((l').length : Int) 1 = some u0_ → (pO (List.flatten [Sb]) (oS 5 encY u0_ fun s_0 => (oE (s_0) []))) v_ L_ U_)]) ?_
    refine r_v (bv) rfl rfl rfl rfl ?_
    refine r_v (l'v) rfl rfl rfl rfl ?_
    refine r_v (Value.int .i64 (((l').length : Int))) rfl rfl rfl (ev_lenSl rfl rfl rfl (Rd.shp hl')) ?_
    replace hM := bind_sm hM; obtain ⟨r12, hr13, hM⟩ := hM
    refine r_gm (Ls := [Sb]) (FL := [Sb]) (RL := []) [0] (oS 5 encY r12 fun s_0 => (oE (s_0) [])) (some 17) 53 _ rfl rfl rfl rfl rfl (ev_callF rfl call_53 rfl) (fun own_ nw_ hn_ hs_ => wire_number_v1_g N b ((l').length : Int) 1 _ hr13 _ bv Sb hb) (fun _ _ v_ L_ U_ => ⟨fun h_ => h_ _ hr13, fun h_ => by intro _ e_; cases Option.some.inj (e_.symm.trans hr13); exact h_⟩) (fun h_ => nomatch h_) ?_
    rintro s14 _ ⟨_, S15, _, H16, ⟨rfl, rfl⟩, rfl⟩
    refine lx_perm (Ls := [S15]) (Ls' := [S15]) [0] rfl rfl ?_
    refine r_v (s14) rfl rfl rfl rfl ?_
    refine lx_nil ?_
    refine hK11 _ _ ?_; try clear hK11 K11
    refine A_seq fun K17 hK17 => ?_
    refine A_seq fun K18 hK18 => ?_
    refine A_reg ?_
    refine r_v (l'v) rfl rfl rfl rfl ?_
    refine r_v (Value.int .i64 (((l').length : Int))) rfl rfl rfl (ev_lenSl rfl rfl rfl (Rd.shp hl')) ?_
    refine r_v (Value.int .i64 (0)) rfl rfl rfl rfl ?_
    refine lx_nil ?_
    refine hK18 _ _ ?_; try clear hK18 K18
    refine A_block ?_
    refine A_forget _ (Sub.pick [S15] [0] rfl) ?_
    refine A_loop (fun tt ll nn => ∃ (n19 : Nat) (b1_ : List UInt8) (x2_ : Int), (wire_list_api_Vec__v1_l3 N l' n19 b1_ x2_ = some r) ∧ ∃ (vb1_ : Value) (Sb1_ : List Bl), Sl 5 encY vb1_ b1_ Sb1_ ∧ Is [(0, vb1_), (2, Value.func (.func 52) #[] #[]), (18, l'v), (19, Value.int .i64 (((l').length : Int))), (20, Value.int .i64 (x2_))] (List.flatten [Sb1_]) tt ll ∧ nn = n19 + 1) (N + 1) ?_ ?_
    · exact ⟨N, r12, 0, hM, s14, S15, H16, is_mk rfl rfl, rfl⟩
    · clear hM; rintro t l _ ⟨n19, b1_, x2_, hM, vb1_, Sb1_, hb1_, ⟨⟨T, rfl⟩, rfl⟩, rfl⟩
      rcases n19 with _ | n19
      · exact absurd hM (by simp [wire_list_api_Vec__v1_l3])
      rw [wire_list_api_Vec__v1_l3] at hM
      refine A_seq fun K20 hK20 => ?_
      refine A_reg ?_
      refine r_v (Value.bool (decide ((x2_ : Int) < ((l').length : Int)))) rfl rfl rfl rfl ?_
      refine lx_nil ?_
      refine hK20 _ _ ?_; try clear hK20 K20
      refine A_seq fun K21 hK21 => ?_
      refine A_cond (decide ((x2_ : Int) < ((l').length : Int))) rfl (fun hc22 => ?_) (fun hc22 => ?_)
      · replace hM := ifp (of_decide_eq_true hc22) hM
        refine A_skip ?_
        refine hK21 _ _ ?_; try clear hK21 K21
        refine A_seq fun K23 hK23 => ?_
        refine A_block ?_
        refine A_seq fun K24 hK24 => ?_
        refine A_reg ?_
        replace hM := ck_some hM; obtain ⟨ck25, hM⟩ := hM
        refine r_v (elA l'v ((x2_).toNat * 3)) rfl rfl rfl (ev_v (ev_idxSl rfl rfl rfl (Rd.shp hl') ck25)) ?_
        refine r_le (Value.agg #[Value.int .i64 (((l')[(x2_).toNat]!).1), U (hi (((l')[(x2_).toNat]!).2)), U (lo (((l')[(x2_).toNat]!).2))]) (En := enc_30) ((l')[(x2_).toNat]!) ((x2_).toNat) 0 rfl rfl (rd_ro hl') (get_of ck25) rfl ?_
        refine r_a (30, #[Value.int .i64 (0), U (0#64), U (0#64)]) rfl rfl rfl (fun b26 => ?_) (.inr rfl)
        refine r_s (List.flatten [[(b26, 30, #[Value.int .i64 (((l')[(x2_).toNat]!).1), U (hi (((l')[(x2_).toNat]!).2)), U (lo (((l')[(x2_).toNat]!).2))])], Sb1_]) 0 _ _ _ (#[Value.int .i64 (0), U (0#64), U (0#64)]) (#[Value.int .i64 (((l')[(x2_).toNat]!).1), U (hi (((l')[(x2_).toNat]!).2)), U (lo (((l')[(x2_).toNat]!).2))]) (#[Value.int .i64 (((l')[(x2_).toNat]!).1), U (hi (((l')[(x2_).toNat]!).2)), U (lo (((l')[(x2_).toNat]!).2))]) rfl rfl rfl rfl (.of rfl rfl) rfl rfl ?_
        refine lx_nil ?_
        refine hK24 _ _ ?_; try clear hK24 K24
        refine A_regC [(some 27, true)] (conG Try.prog [(27, fun _ _ v_ L_ U_ => ∀ u0_, wire_row_v1_m N b1_ (((l')[(x2_).toNat]!).1) (((l')[(x2_).toNat]!).2) = some u0_ → (pO (List.flatten [Sb1_]) (oS 5 encY u0_ fun s_0 => (oE (s_0) []))) v_ L_ U_)]) ?_
        refine r_v (Value.func (.func 52) #[] #[]) rfl rfl rfl rfl ?_
        refine r_v (vb1_) rfl rfl rfl rfl ?_
        refine r_l (Value.agg #[Value.int .i64 (((l')[(x2_).toNat]!).1), U (hi (((l')[(x2_).toNat]!).2)), U (lo (((l')[(x2_).toNat]!).2))]) 0 _ _ _ _ rfl rfl rfl rfl rfl ?_
        replace hM := bind_sm hM; obtain ⟨r27, hr28, hM⟩ := hM
        refine r_gm (Ls := [[(b26, 30, #[Value.int .i64 (((l')[(x2_).toNat]!).1), U (hi (((l')[(x2_).toNat]!).2)), U (lo (((l')[(x2_).toNat]!).2))])], Sb1_]) (FL := [Sb1_]) (RL := [[(b26, 30, #[Value.int .i64 (((l')[(x2_).toNat]!).1), U (hi (((l')[(x2_).toNat]!).2)), U (lo (((l')[(x2_).toNat]!).2))])]]) [1] (oS 5 encY r27 fun s_0 => (oE (s_0) [])) (some 27) 52 _ rfl rfl rfl rfl rfl (ev_callV (caps := []) rfl call_52 rfl) (fun own_ nw_ hn_ hs_ => wire_row_v1_g N b1_ (((l')[(x2_).toNat]!).1) (((l')[(x2_).toNat]!).2) _ hr28 _ vb1_ Sb1_ hb1_) (fun _ _ v_ L_ U_ => ⟨fun h_ => h_ _ hr28, fun h_ => by intro _ e_; cases Option.some.inj (e_.symm.trans hr28); exact h_⟩) (fun h_ => nomatch h_) ?_
        rintro s29 _ ⟨_, S30, _, H31, ⟨rfl, rfl⟩, rfl⟩
        refine lx_perm (Ls := [[(b26, 30, #[Value.int .i64 (((l')[(x2_).toNat]!).1), U (hi (((l')[(x2_).toNat]!).2)), U (lo (((l')[(x2_).toNat]!).2))])], S30]) (Ls' := [[(b26, 30, #[Value.int .i64 (((l')[(x2_).toNat]!).1), U (hi (((l')[(x2_).toNat]!).2)), U (lo (((l')[(x2_).toNat]!).2))])], S30]) [0, 1] rfl rfl ?_
        refine r_v (s29) rfl rfl rfl rfl ?_
        refine lx_nil ?_
        refine hK23 _ _ ?_; try clear hK23 K23
        refine A_reg ?_
        replace hM := ck_some hM; obtain ⟨ck32, hM⟩ := hM
        refine r_v (Value.int .i64 ((x2_ + 1))) rfl rfl (wi64 rfl ck32.1 ck32.2) rfl ?_
        refine r_v (Value.int .i64 ((x2_ + 1))) rfl rfl rfl rfl ?_
        refine lx_nil ?_
        refine fg _ (Sub.pick [[(b26, 30, #[Value.int .i64 (((l')[(x2_).toNat]!).1), U (hi (((l')[(x2_).toNat]!).2)), U (lo (((l')[(x2_).toNat]!).2))])], S30] [1] rfl) ?_
        exact ⟨n19 + 1, by omega, n19, r27, (x2_ + 1), hM, s29, S30, H31, is_mk rfl rfl, rfl⟩
      · replace hM := ifn (of_decide_eq_false hc22) hM
        refine A_exit ?_
        refine hK17 _ _ ?_; try clear hK17 K17
        refine A_seq fun K33 hK33 => ?_
        refine A_reg ?_
        refine r_v (vb1_) rfl rfl rfl rfl ?_
        refine r_v (vb1_) rfl rfl rfl rfl ?_
        refine lx_nil ?_
        refine hK33 _ _ ?_; try clear hK33 K33
        obtain rfl := Option.some.inj hM
        refine A_ret (fun hn => endsO (v0 := vb1_) (O := [Sb1_]) (res1 rfl) (Sub.pick [Sb1_] [0] rfl) ⟨vb1_, Sb1_, _, hb1_, ⟨rfl, rfl⟩, rfl⟩)
def wire_Vecs_m (N : Nat) (b : List UInt8) (l' : List (Int × BitVec 128)) : Option (List UInt8) := (slices_Clone___byte_byte__m N b).bind fun r3 => (wire_list_api_Vec__v1_m N r3 l').bind fun r11 => some (r11)
set_option maxRecDepth 100000 in
set_option maxHeartbeats 8000000 in
theorem wire_Vecs_g (N : Nat) (b : List UInt8) (l' : List (Int × BitVec 128)) (r : List UInt8) (hM : wire_Vecs_m N b l' = some r) (ro : Addr → Option Value) (bv : Value) (hb : Rd encY ro bv b) (l'v : Value) (hl' : Rd enc_30 ro l'v l') : Does Try.prog 32 #[bv, l'v] ro [] (p1 (fun s_ => s_) 5 encY r) := by
  unfold wire_Vecs_m at hM
  refine does_of_A follows Try.func32 rfl 9 rfl (upd (upd (fun _ => undef) 1 (l'v)) 0 (bv)) (by funext k; match k with | 0 => rfl | 1 => rfl | k + 2 => rfl) (fun base0_ => ?_)
  refine A_seq fun K1 hK1 => ?_
  refine A_reg ?_
  refine r_v (Value.slice none 0 0) rfl rfl rfl rfl ?_
  refine lx_nil ?_
  refine hK1 _ _ ?_; try clear hK1 K1
  refine A_seq fun K2 hK2 => ?_
  refine A_regC [(some 6, false), (some 8, true)] (conG Try.prog [(6, fun _ _ v_ L_ U_ => ∀ u0_, slices_Clone___byte_byte__m N b = some u0_ → (p1 (fun s_ => s_) 5 encY (u0_)) v_ L_ U_), (8, fun a_ _ v_ L_ U_ => ∀ u0_, slices_Clone___byte_byte__m N b = some u0_ → ∀ u1_, wire_list_api_Vec__v1_m N u0_ l' = some u1_ → (pN (List.flatten [blkS (argAt a_ 1)]) (oS 5 encY u1_ fun s_0 => (oE (s_0) []))) v_ L_ U_)]) ?_
  refine r_v (bv) rfl rfl rfl rfl ?_
  replace hM := bind_sm hM; obtain ⟨r3, hr4, hM⟩ := hM
  refine r_g1 (Ls := []) (fun s5 => s5) 5 encY (r3) 34 _ rfl rfl rfl (ev_callF rfl call_34 rfl) (fun own_ nw_ hs_ => slices_Clone___byte_byte__g N b _ hr4 hs_.view bv ((rd_ro hb) own_ nw_ hs_)) (fun _ _ v_ L_ U_ => ⟨fun h_ => h_ _ hr4, fun h_ => by intro _ e_; cases Option.some.inj (e_.symm.trans hr4); exact h_⟩) (fun s5 S6 H7 => ?_)
  refine r_v (l'v) rfl rfl rfl rfl ?_
  refine lx_canon (Ls := [S6]) trivial 0 rfl H7 (fun S8 H9 hn10 => ?_)
  replace hM := bind_sm hM; obtain ⟨r11, hr12, hM⟩ := hM
  refine r_gmL (Ls := [S8]) (FL := [S8]) (RL := []) [0] (oS 5 encY r11 fun s_0 => (oE (s_0) [])) (some 8) 57 _ (pc := fun a_ => pN (List.flatten [blkS (argAt a_ 1)]) (oS 5 encY r11 fun s_0 => (oE (s_0) []))) rfl rfl rfl rfl rfl (ev_callF rfl call_57 rfl) (fun own_ nw_ hn_ hs_ => wire_list_api_Vec__v1_g N r3 l' _ hr12 _ s5 S8 H9 l'v (Rd.mono (ro_sans (Ls := [S8]) (is := [0]) rfl hs_) hl')) (fun _ _ v_ L_ U_ => ⟨fun h_ => h_ _ hr4 _ hr12, fun h_ => by intro _ e_; cases Option.some.inj (e_.symm.trans hr4); intro _ e_; cases Option.some.inj (e_.symm.trans hr12); exact h_⟩) (fun _ _ _ => pN_iff (nmF (nmC hn10 nmN))) (fun h_ => nomatch h_) ?_
  rintro s13 _ ⟨_, S14, _, H15, ⟨rfl, rfl⟩, rfl⟩
  refine lx_perm (Ls := [S14]) (Ls' := [S14]) [0] rfl rfl ?_
  refine r_v (s13) rfl rfl rfl rfl ?_
  refine lx_nil ?_
  refine hK2 _ _ ?_; try clear hK2 K2
  obtain rfl := Option.some.inj hM
  refine A_ret (fun hn => ends1 (v0 := s13) H15 (sub_one (Sub.pick [S14] [0] rfl)) rfl (res1 rfl))
def wire_Numbers_1_v1_m (N : Nat) (b : List UInt8) (n : Int) : Option (List UInt8) := (wire_number_v1_m N b n 1).bind fun r3 => some (r3)
set_option maxRecDepth 100000 in
set_option maxHeartbeats 8000000 in
theorem wire_Numbers_1_v1_g (N : Nat) (b : List UInt8) (n : Int) (r : List UInt8) (hM : wire_Numbers_1_v1_m N b n = some r) (ro : Addr → Option Value) (bv : Value) (Sb : List Bl) (hb : Sl 5 encY bv b Sb) : Does Try.prog 59 #[bv, Value.int .i64 (n)] ro (List.flatten [Sb]) (pO (List.flatten [Sb]) (oS 5 encY r fun s_0 => (oE (s_0) []))) := by
  unfold wire_Numbers_1_v1_m at hM
  refine doesO_of_A follows Try.func59 rfl 8 rfl (upd (upd (fun _ => undef) 1 (Value.int .i64 (n))) 0 (bv)) (by funext k; match k with | 0 => rfl | 1 => rfl | k + 2 => rfl) (fun _ _ h_ _ => h_) (fun base0_ => ?_)
  refine A_seq fun K1 hK1 => ?_
  refine A_reg ?_
  refine r_v (Value.slice none 0 0) rfl rfl rfl rfl ?_
  refine lx_nil ?_
  refine hK1 _ _ ?_; try clear hK1 K1
  refine A_seq fun K2 hK2 => ?_
  refine A_regC [(some 7, true)] (conG Try.prog [(7, fun _ _ v_ L_ U_ => ∀ u0_, wire_number_v1_m N b n 1 = some u0_ → (pO (List.flatten [Sb]) (oS 5 encY u0_ fun s_0 => (oE (s_0) []))) v_ L_ U_)]) ?_
  refine r_v (bv) rfl rfl rfl rfl ?_
  refine r_v (Value.int .i64 (n)) rfl rfl rfl rfl ?_
  replace hM := bind_sm hM; obtain ⟨r3, hr4, hM⟩ := hM
  refine r_gm (Ls := [Sb]) (FL := [Sb]) (RL := []) [0] (oS 5 encY r3 fun s_0 => (oE (s_0) [])) (some 7) 53 _ rfl rfl rfl rfl rfl (ev_callF rfl call_53 rfl) (fun own_ nw_ hn_ hs_ => wire_number_v1_g N b n 1 _ hr4 _ bv Sb hb) (fun _ _ v_ L_ U_ => ⟨fun h_ => h_ _ hr4, fun h_ => by intro _ e_; cases Option.some.inj (e_.symm.trans hr4); exact h_⟩) (fun h_ => nomatch h_) ?_
  rintro s5 _ ⟨_, S6, _, H7, ⟨rfl, rfl⟩, rfl⟩
  refine lx_perm (Ls := [S6]) (Ls' := [S6]) [0] rfl rfl ?_
  refine r_v (s5) rfl rfl rfl rfl ?_
  refine lx_nil ?_
  refine hK2 _ _ ?_; try clear hK2 K2
  obtain rfl := Option.some.inj hM
  refine A_ret (fun hn => endsO (v0 := s5) (O := [S6]) (res1 rfl) (Sub.pick [S6] [0] rfl) ⟨s5, S6, _, H7, ⟨rfl, rfl⟩, rfl⟩)
def wire_list_int__v1_l3 (N : Nat) (l' : List Int) : Nat → List UInt8 → Int → Option (List UInt8)
  | 0, _, _ => none
  | n19 + 1, b1_, x2_ => if (x2_ : Int) < ((l').length : Int) then ck (0 ≤ x2_ ∧ x2_ < ((l').length : Int)) ((wire_Numbers_1_v1_m N b1_ ((l')[(x2_).toNat]!)).bind fun r26 => ck ((-9223372036854775808 ≤ (x2_ + 1) ∧ (x2_ + 1) ≤ 9223372036854775807)) ((wire_list_int__v1_l3 N l' n19) (r26) ((x2_ + 1)))) else some (b1_)
def wire_list_int__v1_m (N : Nat) (b : List UInt8) (l' : List Int) : Option (List UInt8) := if (((l').length : Int) : Int) > 255 then (wire_number_v1_m N b 0 1).bind fun r6 => some (r6) else (wire_number_v1_m N b ((l').length : Int) 1).bind fun r12 => wire_list_int__v1_l3 N l' N (r12) (0)
set_option maxRecDepth 100000 in
set_option maxHeartbeats 8000000 in
theorem wire_list_int__v1_g (N : Nat) (b : List UInt8) (l' : List Int) (r : List UInt8) (hM : wire_list_int__v1_m N b l' = some r) (ro : Addr → Option Value) (bv : Value) (Sb : List Bl) (hb : Sl 5 encY bv b Sb) (l'v : Value) (hl' : Rd encI ro l'v l') : Does Try.prog 58 #[bv, l'v, Value.func (.func 59) #[] #[]] ro (List.flatten [Sb]) (pO (List.flatten [Sb]) (oS 5 encY r fun s_0 => (oE (s_0) []))) := by
  unfold wire_list_int__v1_m at hM
  refine doesO_of_A follows Try.func58 rfl 30 rfl (upd (upd (upd (fun _ => undef) 2 (Value.func (.func 59) #[] #[])) 1 (l'v)) 0 (bv)) (by funext k; match k with | 0 => rfl | 1 => rfl | 2 => rfl | k + 3 => rfl) (fun _ _ h_ _ => h_) (fun base0_ => ?_)
  refine A_seq fun K1 hK1 => ?_
  refine A_reg ?_
  refine r_v (Value.slice none 0 0) rfl rfl rfl rfl ?_
  refine lx_nil ?_
  refine hK1 _ _ ?_; try clear hK1 K1
  refine A_seq fun K2 hK2 => ?_
  refine A_seq fun K3 hK3 => ?_
  refine A_reg ?_
  refine r_v (l'v) rfl rfl rfl rfl ?_
  refine r_v (Value.int .i64 (((l').length : Int))) rfl rfl rfl (ev_lenSl rfl rfl rfl (Rd.shp hl')) ?_
  refine r_v (Value.bool (decide ((((l').length : Int) : Int) > 255))) rfl rfl rfl rfl ?_
  refine lx_nil ?_
  refine hK3 _ _ ?_; try clear hK3 K3
  refine A_cond (decide ((((l').length : Int) : Int) > 255)) rfl (fun hc4 => ?_) (fun hc4 => ?_)
  · replace hM := ifp (of_decide_eq_true hc4) hM
    refine A_seq fun K5 hK5 => ?_
    refine A_regC [(some 13, true)] (conG Try.prog [(13, fun _ _ v_ L_ U_ => ∀ u0_, wire_number_v1_m N b 0 1 = some u0_ → (pO (List.flatten [Sb]) (oS 5 encY u0_ fun s_0 => (oE (s_0) []))) v_ L_ U_)]) ?_
    refine r_v (bv) rfl rfl rfl rfl ?_
    replace hM := bind_sm hM; obtain ⟨r6, hr7, hM⟩ := hM
    refine r_gm (Ls := [Sb]) (FL := [Sb]) (RL := []) [0] (oS 5 encY r6 fun s_0 => (oE (s_0) [])) (some 13) 53 _ rfl rfl rfl rfl rfl (ev_callF rfl call_53 rfl) (fun own_ nw_ hn_ hs_ => wire_number_v1_g N b 0 1 _ hr7 _ bv Sb hb) (fun _ _ v_ L_ U_ => ⟨fun h_ => h_ _ hr7, fun h_ => by intro _ e_; cases Option.some.inj (e_.symm.trans hr7); exact h_⟩) (fun h_ => nomatch h_) ?_
    rintro s8 _ ⟨_, S9, _, H10, ⟨rfl, rfl⟩, rfl⟩
    refine lx_perm (Ls := [S9]) (Ls' := [S9]) [0] rfl rfl ?_
    refine r_v (s8) rfl rfl rfl rfl ?_
    refine lx_nil ?_
    refine hK5 _ _ ?_; try clear hK5 K5
    obtain rfl := Option.some.inj hM
    refine A_ret (fun hn => endsO (v0 := s8) (O := [S9]) (res1 rfl) (Sub.pick [S9] [0] rfl) ⟨s8, S9, _, H10, ⟨rfl, rfl⟩, rfl⟩)
  · replace hM := ifn (of_decide_eq_false hc4) hM
    refine A_skip ?_
    refine hK2 _ _ ?_; try clear hK2 K2
    refine A_seq fun K11 hK11 => ?_
    refine A_regC [(some 17, true)] (conG Try.prog [(17, fun _ _ v_ L_ U_ => ∀ u0_, wire_number_v1_m N b ((l').length : Int) 1 = some u0_ → (pO (List.flatten [Sb]) (oS 5 encY u0_ fun s_0 => (oE (s_0) []))) v_ L_ U_)]) ?_
    refine r_v (bv) rfl rfl rfl rfl ?_
    refine r_v (l'v) rfl rfl rfl rfl ?_
    refine r_v (Value.int .i64 (((l').length : Int))) rfl rfl rfl (ev_lenSl rfl rfl rfl (Rd.shp hl')) ?_
    replace hM := bind_sm hM; obtain ⟨r12, hr13, hM⟩ := hM
    refine r_gm (Ls := [Sb]) (FL := [Sb]) (RL := []) [0] (oS 5 encY r12 fun s_0 => (oE (s_0) [])) (some 17) 53 _ rfl rfl rfl rfl rfl (ev_callF rfl call_53 rfl) (fun own_ nw_ hn_ hs_ => wire_number_v1_g N b ((l').length : Int) 1 _ hr13 _ bv Sb hb) (fun _ _ v_ L_ U_ => ⟨fun h_ => h_ _ hr13, fun h_ => by intro _ e_; cases Option.some.inj (e_.symm.trans hr13); exact h_⟩) (fun h_ => nomatch h_) ?_
    rintro s14 _ ⟨_, S15, _, H16, ⟨rfl, rfl⟩, rfl⟩
    refine lx_perm (Ls := [S15]) (Ls' := [S15]) [0] rfl rfl ?_
    refine r_v (s14) rfl rfl rfl rfl ?_
    refine lx_nil ?_
    refine hK11 _ _ ?_; try clear hK11 K11
    refine A_seq fun K17 hK17 => ?_
    refine A_seq fun K18 hK18 => ?_
    refine A_reg ?_
    refine r_v (l'v) rfl rfl rfl rfl ?_
    refine r_v (Value.int .i64 (((l').length : Int))) rfl rfl rfl (ev_lenSl rfl rfl rfl (Rd.shp hl')) ?_
    refine r_v (Value.int .i64 (0)) rfl rfl rfl rfl ?_
    refine lx_nil ?_
    refine hK18 _ _ ?_; try clear hK18 K18
    refine A_block ?_
    refine A_forget _ (Sub.pick [S15] [0] rfl) ?_
    refine A_loop (fun tt ll nn => ∃ (n19 : Nat) (b1_ : List UInt8) (x2_ : Int), (wire_list_int__v1_l3 N l' n19 b1_ x2_ = some r) ∧ ∃ (vb1_ : Value) (Sb1_ : List Bl), Sl 5 encY vb1_ b1_ Sb1_ ∧ Is [(0, vb1_), (2, Value.func (.func 59) #[] #[]), (18, l'v), (19, Value.int .i64 (((l').length : Int))), (20, Value.int .i64 (x2_))] (List.flatten [Sb1_]) tt ll ∧ nn = n19 + 1) (N + 1) ?_ ?_
    · exact ⟨N, r12, 0, hM, s14, S15, H16, is_mk rfl rfl, rfl⟩
    · clear hM; rintro t l _ ⟨n19, b1_, x2_, hM, vb1_, Sb1_, hb1_, ⟨⟨T, rfl⟩, rfl⟩, rfl⟩
      rcases n19 with _ | n19
      · exact absurd hM (by simp [wire_list_int__v1_l3])
      rw [wire_list_int__v1_l3] at hM
      refine A_seq fun K20 hK20 => ?_
      refine A_reg ?_
      refine r_v (Value.bool (decide ((x2_ : Int) < ((l').length : Int)))) rfl rfl rfl rfl ?_
      refine lx_nil ?_
      refine hK20 _ _ ?_; try clear hK20 K20
      refine A_seq fun K21 hK21 => ?_
      refine A_cond (decide ((x2_ : Int) < ((l').length : Int))) rfl (fun hc22 => ?_) (fun hc22 => ?_)
      · replace hM := ifp (of_decide_eq_true hc22) hM
        refine A_skip ?_
        refine hK21 _ _ ?_; try clear hK21 K21
        refine A_seq fun K23 hK23 => ?_
        refine A_block ?_
        refine A_seq fun K24 hK24 => ?_
        refine A_reg ?_
        replace hM := ck_some hM; obtain ⟨ck25, hM⟩ := hM
        refine r_v (elA l'v ((x2_).toNat * 1)) rfl rfl rfl (ev_v (ev_idxSl rfl rfl rfl (Rd.shp hl') ck25)) ?_
        refine r_le (Value.int .i64 ((l')[(x2_).toNat]!)) (En := encI) ((l')[(x2_).toNat]!) ((x2_).toNat) 0 rfl rfl (rd_ro hl') (get_of ck25) rfl ?_
        refine r_v (Value.int .i64 ((l')[(x2_).toNat]!)) rfl rfl rfl rfl ?_
        refine lx_nil ?_
        refine hK24 _ _ ?_; try clear hK24 K24
        refine A_regC [(some 27, true)] (conG Try.prog [(27, fun _ _ v_ L_ U_ => ∀ u0_, wire_Numbers_1_v1_m N b1_ ((l')[(x2_).toNat]!) = some u0_ → (pO (List.flatten [Sb1_]) (oS 5 encY u0_ fun s_0 => (oE (s_0) []))) v_ L_ U_)]) ?_
        refine r_v (Value.func (.func 59) #[] #[]) rfl rfl rfl rfl ?_
        refine r_v (vb1_) rfl rfl rfl rfl ?_
        refine r_v (Value.int .i64 ((l')[(x2_).toNat]!)) rfl rfl rfl rfl ?_
        replace hM := bind_sm hM; obtain ⟨r26, hr27, hM⟩ := hM
        refine r_gm (Ls := [Sb1_]) (FL := [Sb1_]) (RL := []) [0] (oS 5 encY r26 fun s_0 => (oE (s_0) [])) (some 27) 59 _ rfl rfl rfl rfl rfl (ev_callV (caps := []) rfl call_59 rfl) (fun own_ nw_ hn_ hs_ => wire_Numbers_1_v1_g N b1_ ((l')[(x2_).toNat]!) _ hr27 _ vb1_ Sb1_ hb1_) (fun _ _ v_ L_ U_ => ⟨fun h_ => h_ _ hr27, fun h_ => by intro _ e_; cases Option.some.inj (e_.symm.trans hr27); exact h_⟩) (fun h_ => nomatch h_) ?_
        rintro s28 _ ⟨_, S29, _, H30, ⟨rfl, rfl⟩, rfl⟩
        refine lx_perm (Ls := [S29]) (Ls' := [S29]) [0] rfl rfl ?_
        refine r_v (s28) rfl rfl rfl rfl ?_
        refine lx_nil ?_
        refine hK23 _ _ ?_; try clear hK23 K23
        refine A_reg ?_
        replace hM := ck_some hM; obtain ⟨ck31, hM⟩ := hM
        refine r_v (Value.int .i64 ((x2_ + 1))) rfl rfl (wi64 rfl ck31.1 ck31.2) rfl ?_
        refine r_v (Value.int .i64 ((x2_ + 1))) rfl rfl rfl rfl ?_
        refine lx_nil ?_
        refine fg _ (Sub.pick [S29] [0] rfl) ?_
        exact ⟨n19 + 1, by omega, n19, r26, (x2_ + 1), hM, s28, S29, H30, is_mk rfl rfl, rfl⟩
      · replace hM := ifn (of_decide_eq_false hc22) hM
        refine A_exit ?_
        refine hK17 _ _ ?_; try clear hK17 K17
        refine A_seq fun K32 hK32 => ?_
        refine A_reg ?_
        refine r_v (vb1_) rfl rfl rfl rfl ?_
        refine r_v (vb1_) rfl rfl rfl rfl ?_
        refine lx_nil ?_
        refine hK32 _ _ ?_; try clear hK32 K32
        obtain rfl := Option.some.inj hM
        refine A_ret (fun hn => endsO (v0 := vb1_) (O := [Sb1_]) (res1 rfl) (Sub.pick [Sb1_] [0] rfl) ⟨vb1_, Sb1_, _, hb1_, ⟨rfl, rfl⟩, rfl⟩)
def wire_Numbers_m (N : Nat) (b : List UInt8) (l' : List Int) : Option (List UInt8) := (slices_Clone___byte_byte__m N b).bind fun r3 => (wire_list_int__v1_m N r3 l').bind fun r11 => some (r11)
set_option maxRecDepth 100000 in
set_option maxHeartbeats 8000000 in
theorem wire_Numbers_g (N : Nat) (b : List UInt8) (l' : List Int) (r : List UInt8) (hM : wire_Numbers_m N b l' = some r) (ro : Addr → Option Value) (bv : Value) (hb : Rd encY ro bv b) (l'v : Value) (hl' : Rd encI ro l'v l') : Does Try.prog 33 #[bv, l'v] ro [] (p1 (fun s_ => s_) 5 encY r) := by
  unfold wire_Numbers_m at hM
  refine does_of_A follows Try.func33 rfl 9 rfl (upd (upd (fun _ => undef) 1 (l'v)) 0 (bv)) (by funext k; match k with | 0 => rfl | 1 => rfl | k + 2 => rfl) (fun base0_ => ?_)
  refine A_seq fun K1 hK1 => ?_
  refine A_reg ?_
  refine r_v (Value.slice none 0 0) rfl rfl rfl rfl ?_
  refine lx_nil ?_
  refine hK1 _ _ ?_; try clear hK1 K1
  refine A_seq fun K2 hK2 => ?_
  refine A_regC [(some 6, false), (some 8, true)] (conG Try.prog [(6, fun _ _ v_ L_ U_ => ∀ u0_, slices_Clone___byte_byte__m N b = some u0_ → (p1 (fun s_ => s_) 5 encY (u0_)) v_ L_ U_), (8, fun a_ _ v_ L_ U_ => ∀ u0_, slices_Clone___byte_byte__m N b = some u0_ → ∀ u1_, wire_list_int__v1_m N u0_ l' = some u1_ → (pN (List.flatten [blkS (argAt a_ 1)]) (oS 5 encY u1_ fun s_0 => (oE (s_0) []))) v_ L_ U_)]) ?_
  refine r_v (bv) rfl rfl rfl rfl ?_
  replace hM := bind_sm hM; obtain ⟨r3, hr4, hM⟩ := hM
  refine r_g1 (Ls := []) (fun s5 => s5) 5 encY (r3) 34 _ rfl rfl rfl (ev_callF rfl call_34 rfl) (fun own_ nw_ hs_ => slices_Clone___byte_byte__g N b _ hr4 hs_.view bv ((rd_ro hb) own_ nw_ hs_)) (fun _ _ v_ L_ U_ => ⟨fun h_ => h_ _ hr4, fun h_ => by intro _ e_; cases Option.some.inj (e_.symm.trans hr4); exact h_⟩) (fun s5 S6 H7 => ?_)
  refine r_v (l'v) rfl rfl rfl rfl ?_
  refine lx_canon (Ls := [S6]) trivial 0 rfl H7 (fun S8 H9 hn10 => ?_)
  replace hM := bind_sm hM; obtain ⟨r11, hr12, hM⟩ := hM
  refine r_gmL (Ls := [S8]) (FL := [S8]) (RL := []) [0] (oS 5 encY r11 fun s_0 => (oE (s_0) [])) (some 8) 58 _ (pc := fun a_ => pN (List.flatten [blkS (argAt a_ 1)]) (oS 5 encY r11 fun s_0 => (oE (s_0) []))) rfl rfl rfl rfl rfl (ev_callF rfl call_58 rfl) (fun own_ nw_ hn_ hs_ => wire_list_int__v1_g N r3 l' _ hr12 _ s5 S8 H9 l'v (Rd.mono (ro_sans (Ls := [S8]) (is := [0]) rfl hs_) hl')) (fun _ _ v_ L_ U_ => ⟨fun h_ => h_ _ hr4 _ hr12, fun h_ => by intro _ e_; cases Option.some.inj (e_.symm.trans hr4); intro _ e_; cases Option.some.inj (e_.symm.trans hr12); exact h_⟩) (fun _ _ _ => pN_iff (nmF (nmC hn10 nmN))) (fun h_ => nomatch h_) ?_
  rintro s13 _ ⟨_, S14, _, H15, ⟨rfl, rfl⟩, rfl⟩
  refine lx_perm (Ls := [S14]) (Ls' := [S14]) [0] rfl rfl ?_
  refine r_v (s13) rfl rfl rfl rfl ?_
  refine lx_nil ?_
  refine hK2 _ _ ?_; try clear hK2 K2
  obtain rfl := Option.some.inj hM
  refine A_ret (fun hn => ends1 (v0 := s13) H15 (sub_one (Sub.pick [S14] [0] rfl)) rfl (res1 rfl))
inductive SumRow5 where
  | nil
  | t0 (x0 : List UInt8)
  deriving Inhabited
def SumRow5.on {β : Type} (x : SumRow5) (a : β) (f0 : (List UInt8) → β) : β := match x with | .nil => a | .t0 x0 => f0 x0
theorem SumRow5.on_nil {β : Type} {x : SumRow5} {a r : β} {f0 : (List UInt8) → β} (h : x = .nil) (e : SumRow5.on x a f0 = r) : a = r := by subst h; exact e
theorem SumRow5.on_t0 {β : Type} {x : SumRow5} {a r : β} {f0 : (List UInt8) → β} {x0 : List UInt8} (h : x = .t0 x0) (e : SumRow5.on x a f0 = r) : f0 x0 = r := by subst h; exact e
def SumRow5.onP (x : SumRow5) (a : PO) (f0 : (List UInt8) → PO) : PO := match x with | .nil => a | .t0 x0 => f0 x0
theorem SumRow5.onP_nil {x : SumRow5} {a : PO} {f0 : (List UInt8) → PO} {v : Value} {O : List (List Bl)} (h : x = .nil) (e : SumRow5.onP x a f0 v O) : a v O := by subst h; exact e
theorem SumRow5.onP_t0 {x : SumRow5} {a : PO} {f0 : (List UInt8) → PO} {x0 : List UInt8} {v : Value} {O : List (List Bl)} (h : x = .t0 x0) (e : SumRow5.onP x a f0 v O) : f0 x0 v O := by subst h; exact e
theorem SumRow5.cases (x : SumRow5) : x = .nil ∨ (∃ x0, x = .t0 x0) := by cases x <;> simp
def shunterlaw07_write_v1_k2 (N : Nat) (b : List UInt8) (o_7 : List (Int × BitVec 128)) (want1_ : List UInt8) : Option (SumRow5 × (List UInt8)) := (wire_Vecs_m N b o_7).bind fun r77 => some ((.t0 r77), want1_)
def shunterlaw07_write_v1_l5 (N : Nat) (b : List UInt8) (o_7 : List (Int × BitVec 128)) : Nat → List UInt8 → Int → Option (SumRow5 × (List UInt8))
  | 0, _, _ => none
  | n89 + 1, want3_, i4_ => if (i4_ : Int) < ((o_7).length : Int) then ck (0 ≤ i4_ ∧ i4_ < ((o_7).length : Int)) ((shunterref07_Vec_m N (((o_7)[(i4_).toNat]!).1) (((o_7)[(i4_).toNat]!).2)).bind fun r95 => ck ((want3_).length + (r95).length ≤ 140737488355328) (ck ((-9223372036854775808 ≤ (i4_ + 1) ∧ (i4_ + 1) ≤ 9223372036854775807)) ((shunterlaw07_write_v1_l5 N b o_7 n89) ((want3_ ++ r95)) ((i4_ + 1))))) else shunterlaw07_write_v1_k2 N b o_7 (want3_)
def shunterlaw07_write_v1_k7 (N : Nat) (b : List UInt8) (o_8 : List Int) (want6_ : List UInt8) : Option (SumRow5 × (List UInt8)) := (wire_Numbers_m N b o_8).bind fun r112 => some ((.t0 r112), want6_)
def shunterlaw07_write_v1_l10 (N : Nat) (b : List UInt8) (o_8 : List Int) : Nat → List UInt8 → Int → Option (SumRow5 × (List UInt8))
  | 0, _, _ => none
  | n124 + 1, want8_, i9_ => if (i9_ : Int) < ((o_8).length : Int) then ck (0 ≤ i9_ ∧ i9_ < ((o_8).length : Int)) (ck ((want8_).length + ([(byteI ((o_8)[(i9_).toNat]!))]).length ≤ 140737488355328) (ck ((-9223372036854775808 ≤ (i9_ + 1) ∧ (i9_ + 1) ≤ 9223372036854775807)) ((shunterlaw07_write_v1_l10 N b o_8 n124) ((want8_ ++ ([(byteI ((o_8)[(i9_).toNat]!))]))) ((i9_ + 1))))) else shunterlaw07_write_v1_k7 N b o_8 (want8_)
def shunterlaw07_write_v1_m (N : Nat) (b : List UInt8) (o_0 : Int) (o_1 : Int) (_ : Int) (_ : Int) (o_4 : Int) (o_5 : BitVec 128) (o_6 : List UInt8) (o_7 : List (Int × BitVec 128)) (o_8 : List Int) : Option (SumRow5 × (List UInt8)) := if (o_0 : Int) = 0 then (wire_Byte_m N b o_1).bind fun r8 => (shunterref07_Number_m N o_1 1).bind fun r13 => some ((.t0 r8), r13) else if (o_0 : Int) = 1 then (wire_Two_m N b o_1).bind fun r21 => (shunterref07_Number_m N o_1 2).bind fun r26 => some ((.t0 r21), r26) else if (o_0 : Int) = 2 then (wire_Four_m N b o_1).bind fun r34 => (shunterref07_Number_m N o_1 4).bind fun r39 => some ((.t0 r34), r39) else if (o_0 : Int) = 3 then (wire_Vec_m N b o_4 o_5).bind fun r47 => (shunterref07_Vec_m N o_4 o_5).bind fun r52 => some ((.t0 r47), r52) else if (o_0 : Int) = 4 then (wire_Name_m N b o_6).bind fun r60 => (shunterref07_Name_m N o_6).bind fun r65 => some ((.t0 r60), r65) else if (o_0 : Int) = 5 then if (((o_7).length : Int) : Int) ≤ 255 then ck (0 ≤ (0 : Int) ∧ (0 : Int) < (([(0 : UInt8)]).length : Int)) (shunterlaw07_write_v1_l5 N b o_7 N (([(0 : UInt8)]).set (((0 : Int)).toNat) ((byteI (((o_7).length : Int))))) (0)) else shunterlaw07_write_v1_k2 N b o_7 ([(0 : UInt8)]) else if (o_0 : Int) = 6 then if (((o_8).length : Int) : Int) ≤ 255 then ck (0 ≤ (0 : Int) ∧ (0 : Int) < (([(0 : UInt8)]).length : Int)) (shunterlaw07_write_v1_l10 N b o_8 N (([(0 : UInt8)]).set (((0 : Int)).toNat) ((byteI (((o_8).length : Int))))) (0)) else shunterlaw07_write_v1_k7 N b o_8 ([(0 : UInt8)]) else some (.nil, [])
set_option maxRecDepth 100000 in
set_option maxHeartbeats 8000000 in
theorem shunterlaw07_write_v1_g (N : Nat) (b : List UInt8) (o_0 : Int) (o_1 : Int) (o_2 : Int) (o_3 : Int) (o_4 : Int) (o_5 : BitVec 128) (o_6 : List UInt8) (o_7 : List (Int × BitVec 128)) (o_8 : List Int) (r : SumRow5 × (List UInt8)) (hM : shunterlaw07_write_v1_m N b o_0 o_1 o_2 o_3 o_4 o_5 o_6 o_7 o_8 = some r) (ro : Addr → Option Value) (bv : Value) (hb : Rd encY ro bv b) (o_7v : Value) (ho_7 : Rd enc_30 ro o_7v o_7) (o_8v : Value) (ho_8 : Rd encI ro o_8v o_8) : Does Try.prog 8 #[bv, Value.agg #[Value.int .i64 (o_0), Value.int .i64 (o_1), Value.int .i64 (o_2), Value.int .i64 (o_3), Value.int .i64 (o_4), U (hi (o_5)), U (lo (o_5)), Value.string (⟨(o_6).toArray⟩), o_7v, o_8v]] ro [] (pO [] (oS 5 encY r.2 fun s_0 => (SumRow5.onP r.1 (oE (Value.tuple #[bv, s_0]) []) (fun y0_0 => (oS 5 encY y0_0 fun ss_0_0 => (oE (Value.tuple #[ss_0_0, s_0]) [])))))) := by
  unfold shunterlaw07_write_v1_m at hM
  refine doesO_of_A follows Try.func8 rfl 125 rfl (upd (upd (fun _ => undef) 1 (Value.agg #[Value.int .i64 (o_0), Value.int .i64 (o_1), Value.int .i64 (o_2), Value.int .i64 (o_3), Value.int .i64 (o_4), U (hi (o_5)), U (lo (o_5)), Value.string (⟨(o_6).toArray⟩), o_7v, o_8v])) 0 (bv)) (by funext k; match k with | 0 => rfl | 1 => rfl | k + 2 => rfl) (fun _ _ h_ _ => h_) (fun base0_ => ?_)
  refine A_seq fun K1 hK1 => ?_
  refine A_reg ?_
  refine r_a (34, #[Value.int .i64 (o_0), Value.int .i64 (o_1), Value.int .i64 (o_2), Value.int .i64 (o_3), Value.int .i64 (o_4), U (hi (o_5)), U (lo (o_5)), Value.string (⟨(o_6).toArray⟩), o_7v, o_8v]) rfl rfl rfl (fun b2 => ?_) (.inr rfl)
  refine r_v (Value.slice none 0 0) rfl rfl rfl rfl ?_
  refine r_v (Value.slice none 0 0) rfl rfl rfl rfl ?_
  refine lx_nil ?_
  refine hK1 _ _ ?_; try clear hK1 K1
  refine A_seq fun K3 hK3 => ?_
  refine A_seq fun K4 hK4 => ?_
  refine A_reg ?_
  refine r_v (Value.pointer (some ⟨b2, 0, none⟩)) rfl rfl rfl rfl ?_
  refine r_l (Value.int .i64 (o_0)) 0 _ _ _ _ rfl rfl rfl rfl rfl ?_
  refine lx_nil ?_
  refine hK4 _ _ ?_; try clear hK4 K4
  refine A_block ?_
  refine A_seq fun K5 hK5 => ?_
  refine A_reg ?_
  refine r_v (Value.bool (((o_0 : Int) == 0))) rfl rfl rfl rfl ?_
  refine r_v (Value.bool (((o_0 : Int) == 0))) rfl rfl rfl rfl ?_
  refine lx_nil ?_
  refine hK5 _ _ ?_; try clear hK5 K5
  refine A_cond (((o_0 : Int) == 0)) rfl (fun hc6 => ?_) (fun hc6 => ?_)
  · replace hM := ifp (eq_of_beq hc6) hM
    refine A_seq fun K7 hK7 => ?_
    refine A_drawR [(some 17, false), (some 20, false)] (conG Try.prog [(17, fun _ _ v_ L_ U_ => ∀ u0_, wire_Byte_m N b o_1 = some u0_ → (p1 (fun s_ => s_) 5 encY (u0_)) v_ L_ U_), (20, fun _ _ v_ L_ U_ => ∀ u0_, shunterref07_Number_m N o_1 1 = some u0_ → (p1 (fun s_ => s_) 5 encY (u0_)) v_ L_ U_)]) [] (by decide +kernel) (fun hn => sep_nil) ?_
    refine r_v (bv) rfl rfl rfl rfl ?_
    refine r_v (Value.pointer (some ⟨b2, 1, none⟩)) rfl rfl rfl rfl ?_
    refine r_l (Value.int .i64 (o_1)) 0 _ _ _ _ rfl rfl rfl rfl rfl ?_
    replace hM := bind_sm hM; obtain ⟨r8, hr9, hM⟩ := hM
    refine r_g1 (Ls := [[(b2, 34, #[Value.int .i64 (o_0), Value.int .i64 (o_1), Value.int .i64 (o_2), Value.int .i64 (o_3), Value.int .i64 (o_4), U (hi (o_5)), U (lo (o_5)), Value.string (⟨(o_6).toArray⟩), o_7v, o_8v])]]) (fun s10 => s10) 5 encY (r8) 25 _ rfl rfl rfl (ev_callF rfl call_25 rfl) (fun own_ nw_ hs_ => wire_Byte_g N b o_1 _ hr9 hs_.view bv ((rd_ro hb) own_ nw_ hs_)) (fun _ _ v_ L_ U_ => ⟨fun h_ => h_ _ hr9, fun h_ => by intro _ e_; cases Option.some.inj (e_.symm.trans hr9); exact h_⟩) (fun s10 S11 H12 => ?_)
    refine r_v (Value.pointer (some ⟨b2, 1, none⟩)) rfl rfl rfl rfl ?_
    refine r_l (Value.int .i64 (o_1)) 0 _ _ _ _ rfl rfl rfl rfl rfl ?_
    replace hM := bind_sm hM; obtain ⟨r13, hr14, hM⟩ := hM
    refine r_g1 (Ls := [[(b2, 34, #[Value.int .i64 (o_0), Value.int .i64 (o_1), Value.int .i64 (o_2), Value.int .i64 (o_3), Value.int .i64 (o_4), U (hi (o_5)), U (lo (o_5)), Value.string (⟨(o_6).toArray⟩), o_7v, o_8v])], S11]) (fun s15 => s15) 5 encY (r13) 26 _ rfl rfl rfl (ev_callF rfl call_26 rfl) (fun own_ nw_ hs_ => shunterref07_Number_g N o_1 1 _ hr14 hs_.view ) (fun _ _ v_ L_ U_ => ⟨fun h_ => h_ _ hr14, fun h_ => by intro _ e_; cases Option.some.inj (e_.symm.trans hr14); exact h_⟩) (fun s15 S16 H17 => ?_)
    refine r_v (s10) rfl rfl rfl rfl ?_
    refine r_v (s15) rfl rfl rfl rfl ?_
    refine lx_nil ?_
    refine hK7 _ _ ?_; try clear hK7 K7
    obtain rfl := Option.some.inj hM
    refine A_ret (fun hn => endsO (v0 := Value.tuple #[s10, s15]) (O := [S16, S11]) (res2 rfl rfl) (Sub.pick [[(b2, 34, #[Value.int .i64 (o_0), Value.int .i64 (o_1), Value.int .i64 (o_2), Value.int .i64 (o_3), Value.int .i64 (o_4), U (hi (o_5)), U (lo (o_5)), Value.string (⟨(o_6).toArray⟩), o_7v, o_8v])], S11, S16] [2, 1] rfl) ⟨s15, S16, _, H17, ⟨s10, S11, _, H12, ⟨rfl, rfl⟩, rfl⟩, rfl⟩)
  · replace hM := ifn (ne_of_beq_false hc6) hM
    refine A_seq fun K18 hK18 => ?_
    refine A_reg ?_
    refine r_v (Value.bool (((o_0 : Int) == 1))) rfl rfl rfl rfl ?_
    refine r_v (Value.bool (((o_0 : Int) == 1))) rfl rfl rfl rfl ?_
    refine lx_nil ?_
    refine hK18 _ _ ?_; try clear hK18 K18
    refine A_cond (((o_0 : Int) == 1)) rfl (fun hc19 => ?_) (fun hc19 => ?_)
    · replace hM := ifp (eq_of_beq hc19) hM
      refine A_seq fun K20 hK20 => ?_
      refine A_drawR [(some 26, false), (some 29, false)] (conG Try.prog [(26, fun _ _ v_ L_ U_ => ∀ u0_, wire_Two_m N b o_1 = some u0_ → (p1 (fun s_ => s_) 5 encY (u0_)) v_ L_ U_), (29, fun _ _ v_ L_ U_ => ∀ u0_, shunterref07_Number_m N o_1 2 = some u0_ → (p1 (fun s_ => s_) 5 encY (u0_)) v_ L_ U_)]) [] (by decide +kernel) (fun hn => sep_nil) ?_
      refine r_v (bv) rfl rfl rfl rfl ?_
      refine r_v (Value.pointer (some ⟨b2, 1, none⟩)) rfl rfl rfl rfl ?_
      refine r_l (Value.int .i64 (o_1)) 0 _ _ _ _ rfl rfl rfl rfl rfl ?_
      replace hM := bind_sm hM; obtain ⟨r21, hr22, hM⟩ := hM
      refine r_g1 (Ls := [[(b2, 34, #[Value.int .i64 (o_0), Value.int .i64 (o_1), Value.int .i64 (o_2), Value.int .i64 (o_3), Value.int .i64 (o_4), U (hi (o_5)), U (lo (o_5)), Value.string (⟨(o_6).toArray⟩), o_7v, o_8v])]]) (fun s23 => s23) 5 encY (r21) 27 _ rfl rfl rfl (ev_callF rfl call_27 rfl) (fun own_ nw_ hs_ => wire_Two_g N b o_1 _ hr22 hs_.view bv ((rd_ro hb) own_ nw_ hs_)) (fun _ _ v_ L_ U_ => ⟨fun h_ => h_ _ hr22, fun h_ => by intro _ e_; cases Option.some.inj (e_.symm.trans hr22); exact h_⟩) (fun s23 S24 H25 => ?_)
      refine r_v (Value.pointer (some ⟨b2, 1, none⟩)) rfl rfl rfl rfl ?_
      refine r_l (Value.int .i64 (o_1)) 0 _ _ _ _ rfl rfl rfl rfl rfl ?_
      replace hM := bind_sm hM; obtain ⟨r26, hr27, hM⟩ := hM
      refine r_g1 (Ls := [[(b2, 34, #[Value.int .i64 (o_0), Value.int .i64 (o_1), Value.int .i64 (o_2), Value.int .i64 (o_3), Value.int .i64 (o_4), U (hi (o_5)), U (lo (o_5)), Value.string (⟨(o_6).toArray⟩), o_7v, o_8v])], S24]) (fun s28 => s28) 5 encY (r26) 26 _ rfl rfl rfl (ev_callF rfl call_26 rfl) (fun own_ nw_ hs_ => shunterref07_Number_g N o_1 2 _ hr27 hs_.view ) (fun _ _ v_ L_ U_ => ⟨fun h_ => h_ _ hr27, fun h_ => by intro _ e_; cases Option.some.inj (e_.symm.trans hr27); exact h_⟩) (fun s28 S29 H30 => ?_)
      refine r_v (s23) rfl rfl rfl rfl ?_
      refine r_v (s28) rfl rfl rfl rfl ?_
      refine lx_nil ?_
      refine hK20 _ _ ?_; try clear hK20 K20
      obtain rfl := Option.some.inj hM
      refine A_ret (fun hn => endsO (v0 := Value.tuple #[s23, s28]) (O := [S29, S24]) (res2 rfl rfl) (Sub.pick [[(b2, 34, #[Value.int .i64 (o_0), Value.int .i64 (o_1), Value.int .i64 (o_2), Value.int .i64 (o_3), Value.int .i64 (o_4), U (hi (o_5)), U (lo (o_5)), Value.string (⟨(o_6).toArray⟩), o_7v, o_8v])], S24, S29] [2, 1] rfl) ⟨s28, S29, _, H30, ⟨s23, S24, _, H25, ⟨rfl, rfl⟩, rfl⟩, rfl⟩)
    · replace hM := ifn (ne_of_beq_false hc19) hM
      refine A_seq fun K31 hK31 => ?_
      refine A_reg ?_
      refine r_v (Value.bool (((o_0 : Int) == 2))) rfl rfl rfl rfl ?_
      refine r_v (Value.bool (((o_0 : Int) == 2))) rfl rfl rfl rfl ?_
      refine lx_nil ?_
      refine hK31 _ _ ?_; try clear hK31 K31
      refine A_cond (((o_0 : Int) == 2)) rfl (fun hc32 => ?_) (fun hc32 => ?_)
      · replace hM := ifp (eq_of_beq hc32) hM
        refine A_seq fun K33 hK33 => ?_
        refine A_drawR [(some 35, false), (some 38, false)] (conG Try.prog [(35, fun _ _ v_ L_ U_ => ∀ u0_, wire_Four_m N b o_1 = some u0_ → (p1 (fun s_ => s_) 5 encY (u0_)) v_ L_ U_), (38, fun _ _ v_ L_ U_ => ∀ u0_, shunterref07_Number_m N o_1 4 = some u0_ → (p1 (fun s_ => s_) 5 encY (u0_)) v_ L_ U_)]) [] (by decide +kernel) (fun hn => sep_nil) ?_
        refine r_v (bv) rfl rfl rfl rfl ?_
        refine r_v (Value.pointer (some ⟨b2, 1, none⟩)) rfl rfl rfl rfl ?_
        refine r_l (Value.int .i64 (o_1)) 0 _ _ _ _ rfl rfl rfl rfl rfl ?_
        replace hM := bind_sm hM; obtain ⟨r34, hr35, hM⟩ := hM
        refine r_g1 (Ls := [[(b2, 34, #[Value.int .i64 (o_0), Value.int .i64 (o_1), Value.int .i64 (o_2), Value.int .i64 (o_3), Value.int .i64 (o_4), U (hi (o_5)), U (lo (o_5)), Value.string (⟨(o_6).toArray⟩), o_7v, o_8v])]]) (fun s36 => s36) 5 encY (r34) 28 _ rfl rfl rfl (ev_callF rfl call_28 rfl) (fun own_ nw_ hs_ => wire_Four_g N b o_1 _ hr35 hs_.view bv ((rd_ro hb) own_ nw_ hs_)) (fun _ _ v_ L_ U_ => ⟨fun h_ => h_ _ hr35, fun h_ => by intro _ e_; cases Option.some.inj (e_.symm.trans hr35); exact h_⟩) (fun s36 S37 H38 => ?_)
        refine r_v (Value.pointer (some ⟨b2, 1, none⟩)) rfl rfl rfl rfl ?_
        refine r_l (Value.int .i64 (o_1)) 0 _ _ _ _ rfl rfl rfl rfl rfl ?_
        replace hM := bind_sm hM; obtain ⟨r39, hr40, hM⟩ := hM
        refine r_g1 (Ls := [[(b2, 34, #[Value.int .i64 (o_0), Value.int .i64 (o_1), Value.int .i64 (o_2), Value.int .i64 (o_3), Value.int .i64 (o_4), U (hi (o_5)), U (lo (o_5)), Value.string (⟨(o_6).toArray⟩), o_7v, o_8v])], S37]) (fun s41 => s41) 5 encY (r39) 26 _ rfl rfl rfl (ev_callF rfl call_26 rfl) (fun own_ nw_ hs_ => shunterref07_Number_g N o_1 4 _ hr40 hs_.view ) (fun _ _ v_ L_ U_ => ⟨fun h_ => h_ _ hr40, fun h_ => by intro _ e_; cases Option.some.inj (e_.symm.trans hr40); exact h_⟩) (fun s41 S42 H43 => ?_)
        refine r_v (s36) rfl rfl rfl rfl ?_
        refine r_v (s41) rfl rfl rfl rfl ?_
        refine lx_nil ?_
        refine hK33 _ _ ?_; try clear hK33 K33
        obtain rfl := Option.some.inj hM
        refine A_ret (fun hn => endsO (v0 := Value.tuple #[s36, s41]) (O := [S42, S37]) (res2 rfl rfl) (Sub.pick [[(b2, 34, #[Value.int .i64 (o_0), Value.int .i64 (o_1), Value.int .i64 (o_2), Value.int .i64 (o_3), Value.int .i64 (o_4), U (hi (o_5)), U (lo (o_5)), Value.string (⟨(o_6).toArray⟩), o_7v, o_8v])], S37, S42] [2, 1] rfl) ⟨s41, S42, _, H43, ⟨s36, S37, _, H38, ⟨rfl, rfl⟩, rfl⟩, rfl⟩)
      · replace hM := ifn (ne_of_beq_false hc32) hM
        refine A_seq fun K44 hK44 => ?_
        refine A_reg ?_
        refine r_v (Value.bool (((o_0 : Int) == 3))) rfl rfl rfl rfl ?_
        refine r_v (Value.bool (((o_0 : Int) == 3))) rfl rfl rfl rfl ?_
        refine lx_nil ?_
        refine hK44 _ _ ?_; try clear hK44 K44
        refine A_cond (((o_0 : Int) == 3)) rfl (fun hc45 => ?_) (fun hc45 => ?_)
        · replace hM := ifp (eq_of_beq hc45) hM
          refine A_seq fun K46 hK46 => ?_
          refine A_drawR [(some 44, false), (some 47, false)] (conG Try.prog [(44, fun _ _ v_ L_ U_ => ∀ u0_, wire_Vec_m N b o_4 o_5 = some u0_ → (p1 (fun s_ => s_) 5 encY (u0_)) v_ L_ U_), (47, fun _ _ v_ L_ U_ => ∀ u0_, shunterref07_Vec_m N o_4 o_5 = some u0_ → (p1 (fun s_ => s_) 5 encY (u0_)) v_ L_ U_)]) [] (by decide +kernel) (fun hn => sep_nil) ?_
          refine r_v (bv) rfl rfl rfl rfl ?_
          refine r_v (Value.pointer (some ⟨b2, 4, none⟩)) rfl rfl rfl rfl ?_
          refine r_l (Value.agg #[Value.int .i64 (o_4), U (hi (o_5)), U (lo (o_5))]) 0 _ _ _ _ rfl rfl rfl rfl rfl ?_
          replace hM := bind_sm hM; obtain ⟨r47, hr48, hM⟩ := hM
          refine r_g1 (Ls := [[(b2, 34, #[Value.int .i64 (o_0), Value.int .i64 (o_1), Value.int .i64 (o_2), Value.int .i64 (o_3), Value.int .i64 (o_4), U (hi (o_5)), U (lo (o_5)), Value.string (⟨(o_6).toArray⟩), o_7v, o_8v])]]) (fun s49 => s49) 5 encY (r47) 24 _ rfl rfl rfl (ev_callF rfl call_24 rfl) (fun own_ nw_ hs_ => wire_Vec_g N b o_4 o_5 _ hr48 hs_.view bv ((rd_ro hb) own_ nw_ hs_)) (fun _ _ v_ L_ U_ => ⟨fun h_ => h_ _ hr48, fun h_ => by intro _ e_; cases Option.some.inj (e_.symm.trans hr48); exact h_⟩) (fun s49 S50 H51 => ?_)
          refine r_v (Value.pointer (some ⟨b2, 4, none⟩)) rfl rfl rfl rfl ?_
          refine r_l (Value.agg #[Value.int .i64 (o_4), U (hi (o_5)), U (lo (o_5))]) 0 _ _ _ _ rfl rfl rfl rfl rfl ?_
          replace hM := bind_sm hM; obtain ⟨r52, hr53, hM⟩ := hM
          refine r_g1 (Ls := [[(b2, 34, #[Value.int .i64 (o_0), Value.int .i64 (o_1), Value.int .i64 (o_2), Value.int .i64 (o_3), Value.int .i64 (o_4), U (hi (o_5)), U (lo (o_5)), Value.string (⟨(o_6).toArray⟩), o_7v, o_8v])], S50]) (fun s54 => s54) 5 encY (r52) 29 _ rfl rfl rfl (ev_callF rfl call_29 rfl) (fun own_ nw_ hs_ => shunterref07_Vec_g N o_4 o_5 _ hr53 hs_.view ) (fun _ _ v_ L_ U_ => ⟨fun h_ => h_ _ hr53, fun h_ => by intro _ e_; cases Option.some.inj (e_.symm.trans hr53); exact h_⟩) (fun s54 S55 H56 => ?_)
          refine r_v (s49) rfl rfl rfl rfl ?_
          refine r_v (s54) rfl rfl rfl rfl ?_
          refine lx_nil ?_
          refine hK46 _ _ ?_; try clear hK46 K46
          obtain rfl := Option.some.inj hM
          refine A_ret (fun hn => endsO (v0 := Value.tuple #[s49, s54]) (O := [S55, S50]) (res2 rfl rfl) (Sub.pick [[(b2, 34, #[Value.int .i64 (o_0), Value.int .i64 (o_1), Value.int .i64 (o_2), Value.int .i64 (o_3), Value.int .i64 (o_4), U (hi (o_5)), U (lo (o_5)), Value.string (⟨(o_6).toArray⟩), o_7v, o_8v])], S50, S55] [2, 1] rfl) ⟨s54, S55, _, H56, ⟨s49, S50, _, H51, ⟨rfl, rfl⟩, rfl⟩, rfl⟩)
        · replace hM := ifn (ne_of_beq_false hc45) hM
          refine A_seq fun K57 hK57 => ?_
          refine A_reg ?_
          refine r_v (Value.bool (((o_0 : Int) == 4))) rfl rfl rfl rfl ?_
          refine r_v (Value.bool (((o_0 : Int) == 4))) rfl rfl rfl rfl ?_
          refine lx_nil ?_
          refine hK57 _ _ ?_; try clear hK57 K57
          refine A_cond (((o_0 : Int) == 4)) rfl (fun hc58 => ?_) (fun hc58 => ?_)
          · replace hM := ifp (eq_of_beq hc58) hM
            refine A_seq fun K59 hK59 => ?_
            refine A_drawR [(some 53, false), (some 56, false)] (conG Try.prog [(53, fun _ _ v_ L_ U_ => ∀ u0_, wire_Name_m N b o_6 = some u0_ → (p1 (fun s_ => s_) 5 encY (u0_)) v_ L_ U_), (56, fun _ _ v_ L_ U_ => ∀ u0_, shunterref07_Name_m N o_6 = some u0_ → (p1 (fun s_ => s_) 5 encY (u0_)) v_ L_ U_)]) [] (by decide +kernel) (fun hn => sep_nil) ?_
            refine r_v (bv) rfl rfl rfl rfl ?_
            refine r_v (Value.pointer (some ⟨b2, 7, none⟩)) rfl rfl rfl rfl ?_
            refine r_l (Value.string (⟨(o_6).toArray⟩)) 0 _ _ _ _ rfl rfl rfl rfl rfl ?_
            replace hM := bind_sm hM; obtain ⟨r60, hr61, hM⟩ := hM
            refine r_g1 (Ls := [[(b2, 34, #[Value.int .i64 (o_0), Value.int .i64 (o_1), Value.int .i64 (o_2), Value.int .i64 (o_3), Value.int .i64 (o_4), U (hi (o_5)), U (lo (o_5)), Value.string (⟨(o_6).toArray⟩), o_7v, o_8v])]]) (fun s62 => s62) 5 encY (r60) 30 _ rfl rfl rfl (ev_callF rfl call_30 rfl) (fun own_ nw_ hs_ => wire_Name_g N b o_6 _ hr61 hs_.view bv ((rd_ro hb) own_ nw_ hs_)) (fun _ _ v_ L_ U_ => ⟨fun h_ => h_ _ hr61, fun h_ => by intro _ e_; cases Option.some.inj (e_.symm.trans hr61); exact h_⟩) (fun s62 S63 H64 => ?_)
            refine r_v (Value.pointer (some ⟨b2, 7, none⟩)) rfl rfl rfl rfl ?_
            refine r_l (Value.string (⟨(o_6).toArray⟩)) 0 _ _ _ _ rfl rfl rfl rfl rfl ?_
            replace hM := bind_sm hM; obtain ⟨r65, hr66, hM⟩ := hM
            refine r_g1 (Ls := [[(b2, 34, #[Value.int .i64 (o_0), Value.int .i64 (o_1), Value.int .i64 (o_2), Value.int .i64 (o_3), Value.int .i64 (o_4), U (hi (o_5)), U (lo (o_5)), Value.string (⟨(o_6).toArray⟩), o_7v, o_8v])], S63]) (fun s67 => s67) 5 encY (r65) 31 _ rfl rfl rfl (ev_callF rfl call_31 rfl) (fun own_ nw_ hs_ => shunterref07_Name_g N o_6 _ hr66 hs_.view ) (fun _ _ v_ L_ U_ => ⟨fun h_ => h_ _ hr66, fun h_ => by intro _ e_; cases Option.some.inj (e_.symm.trans hr66); exact h_⟩) (fun s67 S68 H69 => ?_)
            refine r_v (s62) rfl rfl rfl rfl ?_
            refine r_v (s67) rfl rfl rfl rfl ?_
            refine lx_nil ?_
            refine hK59 _ _ ?_; try clear hK59 K59
            obtain rfl := Option.some.inj hM
            refine A_ret (fun hn => endsO (v0 := Value.tuple #[s62, s67]) (O := [S68, S63]) (res2 rfl rfl) (Sub.pick [[(b2, 34, #[Value.int .i64 (o_0), Value.int .i64 (o_1), Value.int .i64 (o_2), Value.int .i64 (o_3), Value.int .i64 (o_4), U (hi (o_5)), U (lo (o_5)), Value.string (⟨(o_6).toArray⟩), o_7v, o_8v])], S63, S68] [2, 1] rfl) ⟨s67, S68, _, H69, ⟨s62, S63, _, H64, ⟨rfl, rfl⟩, rfl⟩, rfl⟩)
          · replace hM := ifn (ne_of_beq_false hc58) hM
            refine A_seq fun K70 hK70 => ?_
            refine A_reg ?_
            refine r_v (Value.bool (((o_0 : Int) == 5))) rfl rfl rfl rfl ?_
            refine r_v (Value.bool (((o_0 : Int) == 5))) rfl rfl rfl rfl ?_
            refine lx_nil ?_
            refine hK70 _ _ ?_; try clear hK70 K70
            refine A_cond (((o_0 : Int) == 5)) rfl (fun hc71 => ?_) (fun hc71 => ?_)
            · replace hM := ifp (eq_of_beq hc71) hM
              refine A_seq fun K72 hK72 => ?_
              refine A_regC [(some 59, false)] (conG Try.prog []) ?_
              refine r_bs (cs0 := []) (Ls := [[(b2, 34, #[Value.int .i64 (o_0), Value.int .i64 (o_1), Value.int .i64 (o_2), Value.int .i64 (o_3), Value.int .i64 (o_4), U (hi (o_5)), U (lo (o_5)), Value.string (⟨(o_6).toArray⟩), o_7v, o_8v])]]) 5 encY [(0 : UInt8)] [Value.int .u8 (0)] [Value.int .u8 (0)] rfl rfl rfl rfl rfl rfl rfl (by kernel_rfl) (by kernel_rfl) rfl rfl rfl (fun s73 S74 H75 => ?_)
              refine r_v (s73) rfl rfl rfl rfl ?_
              refine lx_nil ?_
              refine hK72 _ _ ?_; try clear hK72 K72
              refine A_cut (fun tt ll => ∃ (want1_ : List UInt8), (shunterlaw07_write_v1_k2 N b o_7 want1_ = some r) ∧ ∃ (vwant1_ : Value) (Swant1_ : List Bl), Sl 5 encY vwant1_ want1_ Swant1_ ∧ Is [(0, bv), (3, Value.pointer (some ⟨b2, 0, none⟩)), (6, vwant1_)] (List.flatten [[(b2, 34, #[Value.int .i64 (o_0), Value.int .i64 (o_1), Value.int .i64 (o_2), Value.int .i64 (o_3), Value.int .i64 (o_4), U (hi (o_5)), U (lo (o_5)), Value.string (⟨(o_6).toArray⟩), o_7v, o_8v])], Swant1_]) tt ll) ?_ ?_
              · refine A_seq fun K82 hK82 => ?_
                refine A_reg ?_
                refine r_v (Value.pointer (some ⟨b2, 8, none⟩)) rfl rfl rfl rfl ?_
                refine r_l (o_7v) 0 _ _ _ _ rfl rfl rfl rfl rfl ?_
                refine r_v (Value.int .i64 (((o_7).length : Int))) rfl rfl rfl (ev_lenSl rfl rfl rfl (Rd.shp ho_7)) ?_
                refine r_v (Value.bool (decide ((((o_7).length : Int) : Int) ≤ 255))) rfl rfl rfl rfl ?_
                refine lx_nil ?_
                refine hK82 _ _ ?_; try clear hK82 K82
                refine A_cond (decide ((((o_7).length : Int) : Int) ≤ 255)) rfl (fun hc83 => ?_) (fun hc83 => ?_)
                · replace hM := ifp (of_decide_eq_true hc83) hM
                  refine A_seq fun K84 hK84 => ?_
                  refine A_reg ?_
                  refine r_v (s73) rfl rfl rfl rfl ?_
                  refine r_v (Value.pointer (some ⟨b2, 8, none⟩)) rfl rfl rfl rfl ?_
                  refine r_l (o_7v) 0 _ _ _ _ rfl rfl rfl rfl rfl ?_
                  refine r_v (Value.int .i64 (((o_7).length : Int))) rfl rfl rfl (ev_lenSl rfl rfl rfl (Rd.shp ho_7)) ?_
                  refine r_w (Value.int .u8 ((((byteI (((o_7).length : Int))).toNat : Nat) : Int))) rfl rfl (u8_wrap (((o_7).length : Int))) (fun _ => rfl) ?_
                  replace hM := ck_some hM; obtain ⟨ck85, hM⟩ := hM
                  refine r_v (elA s73 (((0 : Int)).toNat * 1)) rfl rfl rfl (ev_v (ev_idxSl rfl rfl rfl (Sl.shp H75) ck85)) ?_
                  refine r_se (Ls := [[(b2, 34, #[Value.int .i64 (o_0), Value.int .i64 (o_1), Value.int .i64 (o_2), Value.int .i64 (o_3), Value.int .i64 (o_4), U (hi (o_5)), U (lo (o_5)), Value.string (⟨(o_6).toArray⟩), o_7v, o_8v])], S74]) 1 (En := encY) (([(0 : UInt8)])[((0 : Int)).toNat]!) ((byteI (((o_7).length : Int)))) (((0 : Int)).toNat) 0 rfl rfl rfl H75 (get_of ck85) rfl rfl rfl (one_all rfl) rfl (fun S86 H87 => ?_)
                  refine lx_nil ?_
                  refine hK84 _ _ ?_; try clear hK84 K84
                  refine A_gen [(0, bv), (3, Value.pointer (some ⟨b2, 0, none⟩)), (6, s73)] rfl (fun T => ?_)
                  refine A_seq fun K88 hK88 => ?_
                  refine A_reg ?_
                  refine r_v (Value.int .i64 (0)) rfl rfl rfl rfl ?_
                  refine lx_nil ?_
                  refine hK88 _ _ ?_; try clear hK88 K88
                  refine A_block ?_
                  refine A_forget _ (Sub.pick [[(b2, 34, #[Value.int .i64 (o_0), Value.int .i64 (o_1), Value.int .i64 (o_2), Value.int .i64 (o_3), Value.int .i64 (o_4), U (hi (o_5)), U (lo (o_5)), Value.string (⟨(o_6).toArray⟩), o_7v, o_8v])], S86] [0, 1] rfl) ?_
                  refine A_loop (fun tt ll nn => ∃ (n89 : Nat) (want3_ : List UInt8) (i4_ : Int), (shunterlaw07_write_v1_l5 N b o_7 n89 want3_ i4_ = some r) ∧ ∃ (vwant3_ : Value) (Swant3_ : List Bl), Sl 5 encY vwant3_ want3_ Swant3_ ∧ Is [(0, bv), (3, Value.pointer (some ⟨b2, 0, none⟩)), (6, vwant3_), (7, Value.int .i64 (i4_))] (List.flatten [[(b2, 34, #[Value.int .i64 (o_0), Value.int .i64 (o_1), Value.int .i64 (o_2), Value.int .i64 (o_3), Value.int .i64 (o_4), U (hi (o_5)), U (lo (o_5)), Value.string (⟨(o_6).toArray⟩), o_7v, o_8v])], Swant3_]) tt ll ∧ nn = n89 + 1) (N + 1) ?_ ?_
                  · exact ⟨N, ([(0 : UInt8)]).set (((0 : Int)).toNat) ((byteI (((o_7).length : Int)))), 0, hM, s73, S86, H87, is_mk rfl rfl, rfl⟩
                  · clear hM; rintro t l _ ⟨n89, want3_, i4_, hM, vwant3_, Swant3_, hwant3_, ⟨⟨T, rfl⟩, rfl⟩, rfl⟩
                    rcases n89 with _ | n89
                    · exact absurd hM (by simp [shunterlaw07_write_v1_l5])
                    rw [shunterlaw07_write_v1_l5] at hM
                    refine A_seq fun K90 hK90 => ?_
                    refine A_seq fun K91 hK91 => ?_
                    refine A_reg ?_
                    refine r_v (Value.int .i64 (i4_)) rfl rfl rfl rfl ?_
                    refine r_v (Value.pointer (some ⟨b2, 8, none⟩)) rfl rfl rfl rfl ?_
                    refine r_l (o_7v) 0 _ _ _ _ rfl rfl rfl rfl rfl ?_
                    refine r_v (Value.int .i64 (((o_7).length : Int))) rfl rfl rfl (ev_lenSl rfl rfl rfl (Rd.shp ho_7)) ?_
                    refine r_v (Value.bool (decide ((i4_ : Int) < ((o_7).length : Int)))) rfl rfl rfl rfl ?_
                    refine lx_nil ?_
                    refine hK91 _ _ ?_; try clear hK91 K91
                    refine A_cond (decide ((i4_ : Int) < ((o_7).length : Int))) rfl (fun hc92 => ?_) (fun hc92 => ?_)
                    · replace hM := ifp (of_decide_eq_true hc92) hM
                      refine A_skip ?_
                      refine hK90 _ _ ?_; try clear hK90 K90
                      refine A_seq fun K93 hK93 => ?_
                      refine A_block ?_
                      refine A_regC [(some 83, false), (some 84, true)] (conG Try.prog [(83, fun _ _ v_ L_ U_ => ∀ u0_, shunterref07_Vec_m N (((o_7)[(i4_).toNat]!).1) (((o_7)[(i4_).toNat]!).2) = some u0_ → (p1 (fun s_ => s_) 5 encY (u0_)) v_ L_ U_)]) ?_
                      refine r_v (vwant3_) rfl rfl rfl rfl ?_
                      refine r_v (Value.pointer (some ⟨b2, 8, none⟩)) rfl rfl rfl rfl ?_
                      refine r_l (o_7v) 0 _ _ _ _ rfl rfl rfl rfl rfl ?_
                      refine r_v (Value.int .i64 (i4_)) rfl rfl rfl rfl ?_
                      replace hM := ck_some hM; obtain ⟨ck94, hM⟩ := hM
                      refine r_v (elA o_7v ((i4_).toNat * 3)) rfl rfl rfl (ev_v (ev_idxSl rfl rfl rfl (Rd.shp ho_7) ck94)) ?_
                      refine r_le (Value.agg #[Value.int .i64 (((o_7)[(i4_).toNat]!).1), U (hi (((o_7)[(i4_).toNat]!).2)), U (lo (((o_7)[(i4_).toNat]!).2))]) (En := enc_30) ((o_7)[(i4_).toNat]!) ((i4_).toNat) 0 rfl rfl (rd_ro ho_7) (get_of ck94) rfl ?_
                      replace hM := bind_sm hM; obtain ⟨r95, hr96, hM⟩ := hM
                      refine r_g1 (Ls := [[(b2, 34, #[Value.int .i64 (o_0), Value.int .i64 (o_1), Value.int .i64 (o_2), Value.int .i64 (o_3), Value.int .i64 (o_4), U (hi (o_5)), U (lo (o_5)), Value.string (⟨(o_6).toArray⟩), o_7v, o_8v])], Swant3_]) (fun s97 => s97) 5 encY (r95) 29 _ rfl rfl rfl (ev_callF rfl call_29 rfl) (fun own_ nw_ hs_ => shunterref07_Vec_g N (((o_7)[(i4_).toNat]!).1) (((o_7)[(i4_).toNat]!).2) _ hr96 hs_.view ) (fun _ _ v_ L_ U_ => ⟨fun h_ => h_ _ hr96, fun h_ => by intro _ e_; cases Option.some.inj (e_.symm.trans hr96); exact h_⟩) (fun s97 S98 H99 => ?_)
                      replace hM := ck_some hM; obtain ⟨ck100, hM⟩ := hM
                      refine r_app (cs0 := [(83, fun _ _ v_ L_ U_ => ∀ u0_, shunterref07_Vec_m N (((o_7)[(i4_).toNat]!).1) (((o_7)[(i4_).toNat]!).2) = some u0_ → (p1 (fun s_ => s_) 5 encY (u0_)) v_ L_ U_)]) (Ls := [[(b2, 34, #[Value.int .i64 (o_0), Value.int .i64 (o_1), Value.int .i64 (o_2), Value.int .i64 (o_3), Value.int .i64 (o_4), U (hi (o_5)), U (lo (o_5)), Value.string (⟨(o_6).toArray⟩), o_7v, o_8v])], Swant3_, S98]) 1 (En := encY) rfl rfl rfl rfl rfl hwant3_ rfl (rd_own H99 (mem_chunk (Ls := [[(b2, 34, #[Value.int .i64 (o_0), Value.int .i64 (o_1), Value.int .i64 (o_2), Value.int .i64 (o_3), Value.int .i64 (o_4), U (hi (o_5)), U (lo (o_5)), Value.string (⟨(o_6).toArray⟩), o_7v, o_8v])], Swant3_, S98]) (k := 2) rfl rfl)) rfl rfl rfl rfl rfl (app_b ck100 rfl) (app_m ck100 rfl) rfl (fun s101 S102 H103 => ?_)
                      refine r_v (s101) rfl rfl rfl rfl ?_
                      refine lx_nil ?_
                      refine hK93 _ _ ?_; try clear hK93 K93
                      refine A_reg ?_
                      refine r_v (Value.int .i64 (i4_)) rfl rfl rfl rfl ?_
                      replace hM := ck_some hM; obtain ⟨ck104, hM⟩ := hM
                      refine r_v (Value.int .i64 ((i4_ + 1))) rfl rfl (wi64 rfl ck104.1 ck104.2) rfl ?_
                      refine r_v (Value.int .i64 ((i4_ + 1))) rfl rfl rfl rfl ?_
                      refine lx_nil ?_
                      refine fg _ (Sub.pick [[(b2, 34, #[Value.int .i64 (o_0), Value.int .i64 (o_1), Value.int .i64 (o_2), Value.int .i64 (o_3), Value.int .i64 (o_4), U (hi (o_5)), U (lo (o_5)), Value.string (⟨(o_6).toArray⟩), o_7v, o_8v])], S102, S98] [0, 1] rfl) ?_
                      exact ⟨n89 + 1, by omega, n89, (want3_ ++ r95), (i4_ + 1), hM, s101, S102, H103, is_mk rfl rfl, rfl⟩
                    · replace hM := ifn (of_decide_eq_false hc92) hM
                      refine A_exit ?_
                      refine fg _ (Sub.pick [[(b2, 34, #[Value.int .i64 (o_0), Value.int .i64 (o_1), Value.int .i64 (o_2), Value.int .i64 (o_3), Value.int .i64 (o_4), U (hi (o_5)), U (lo (o_5)), Value.string (⟨(o_6).toArray⟩), o_7v, o_8v])], Swant3_] [0, 1] rfl) ?_
                      exact ⟨want3_, hM, vwant3_, Swant3_, hwant3_, is_mk rfl rfl⟩
                · replace hM := ifn (of_decide_eq_false hc83) hM
                  refine A_skip ?_
                  refine fg _ (Sub.pick [[(b2, 34, #[Value.int .i64 (o_0), Value.int .i64 (o_1), Value.int .i64 (o_2), Value.int .i64 (o_3), Value.int .i64 (o_4), U (hi (o_5)), U (lo (o_5)), Value.string (⟨(o_6).toArray⟩), o_7v, o_8v])], S74] [0, 1] rfl) ?_
                  exact ⟨[(0 : UInt8)], hM, s73, S74, H75, is_mk rfl rfl⟩
              · clear hM; rintro t l ⟨want1_, hM, vwant1_, Swant1_, hwant1_, ⟨T, rfl⟩, rfl⟩
                unfold shunterlaw07_write_v1_k2 at hM
                refine A_seq fun K76 hK76 => ?_
                refine A_regC [(some 88, false)] (conG Try.prog [(88, fun _ _ v_ L_ U_ => ∀ u0_, wire_Vecs_m N b o_7 = some u0_ → (p1 (fun s_ => s_) 5 encY (u0_)) v_ L_ U_)]) ?_
                refine r_v (bv) rfl rfl rfl rfl ?_
                refine r_v (Value.pointer (some ⟨b2, 8, none⟩)) rfl rfl rfl rfl ?_
                refine r_l (o_7v) 0 _ _ _ _ rfl rfl rfl rfl rfl ?_
                replace hM := bind_sm hM; obtain ⟨r77, hr78, hM⟩ := hM
                refine r_g1 (Ls := [[(b2, 34, #[Value.int .i64 (o_0), Value.int .i64 (o_1), Value.int .i64 (o_2), Value.int .i64 (o_3), Value.int .i64 (o_4), U (hi (o_5)), U (lo (o_5)), Value.string (⟨(o_6).toArray⟩), o_7v, o_8v])], Swant1_]) (fun s79 => s79) 5 encY (r77) 32 _ rfl rfl rfl (ev_callF rfl call_32 rfl) (fun own_ nw_ hs_ => wire_Vecs_g N b o_7 _ hr78 hs_.view bv ((rd_ro hb) own_ nw_ hs_) o_7v ((rd_ro ho_7) own_ nw_ hs_)) (fun _ _ v_ L_ U_ => ⟨fun h_ => h_ _ hr78, fun h_ => by intro _ e_; cases Option.some.inj (e_.symm.trans hr78); exact h_⟩) (fun s79 S80 H81 => ?_)
                refine r_v (vwant1_) rfl rfl rfl rfl ?_
                refine r_v (s79) rfl rfl rfl rfl ?_
                refine r_v (vwant1_) rfl rfl rfl rfl ?_
                refine lx_nil ?_
                refine hK76 _ _ ?_; try clear hK76 K76
                obtain rfl := Option.some.inj hM
                refine A_ret (fun hn => endsO (v0 := Value.tuple #[s79, vwant1_]) (O := [Swant1_, S80]) (res2 rfl rfl) (Sub.pick [[(b2, 34, #[Value.int .i64 (o_0), Value.int .i64 (o_1), Value.int .i64 (o_2), Value.int .i64 (o_3), Value.int .i64 (o_4), U (hi (o_5)), U (lo (o_5)), Value.string (⟨(o_6).toArray⟩), o_7v, o_8v])], Swant1_, S80] [1, 2] rfl) ⟨vwant1_, Swant1_, _, hwant1_, ⟨s79, S80, _, H81, ⟨rfl, rfl⟩, rfl⟩, rfl⟩)
            · replace hM := ifn (ne_of_beq_false hc71) hM
              refine A_seq fun K105 hK105 => ?_
              refine A_reg ?_
              refine r_v (Value.bool (((o_0 : Int) == 6))) rfl rfl rfl rfl ?_
              refine r_v (Value.bool (((o_0 : Int) == 6))) rfl rfl rfl rfl ?_
              refine lx_nil ?_
              refine hK105 _ _ ?_; try clear hK105 K105
              refine A_cond (((o_0 : Int) == 6)) rfl (fun hc106 => ?_) (fun hc106 => ?_)
              · replace hM := ifp (eq_of_beq hc106) hM
                refine A_seq fun K107 hK107 => ?_
                refine A_regC [(some 92, false)] (conG Try.prog []) ?_
                refine r_bs (cs0 := []) (Ls := [[(b2, 34, #[Value.int .i64 (o_0), Value.int .i64 (o_1), Value.int .i64 (o_2), Value.int .i64 (o_3), Value.int .i64 (o_4), U (hi (o_5)), U (lo (o_5)), Value.string (⟨(o_6).toArray⟩), o_7v, o_8v])]]) 5 encY [(0 : UInt8)] [Value.int .u8 (0)] [Value.int .u8 (0)] rfl rfl rfl rfl rfl rfl rfl (by kernel_rfl) (by kernel_rfl) rfl rfl rfl (fun s108 S109 H110 => ?_)
                refine r_v (s108) rfl rfl rfl rfl ?_
                refine lx_nil ?_
                refine hK107 _ _ ?_; try clear hK107 K107
                refine A_cut (fun tt ll => ∃ (want6_ : List UInt8), (shunterlaw07_write_v1_k7 N b o_8 want6_ = some r) ∧ ∃ (vwant6_ : Value) (Swant6_ : List Bl), Sl 5 encY vwant6_ want6_ Swant6_ ∧ Is [(0, bv), (3, Value.pointer (some ⟨b2, 0, none⟩)), (8, vwant6_)] (List.flatten [[(b2, 34, #[Value.int .i64 (o_0), Value.int .i64 (o_1), Value.int .i64 (o_2), Value.int .i64 (o_3), Value.int .i64 (o_4), U (hi (o_5)), U (lo (o_5)), Value.string (⟨(o_6).toArray⟩), o_7v, o_8v])], Swant6_]) tt ll) ?_ ?_
                · refine A_seq fun K117 hK117 => ?_
                  refine A_reg ?_
                  refine r_v (Value.pointer (some ⟨b2, 9, none⟩)) rfl rfl rfl rfl ?_
                  refine r_l (o_8v) 0 _ _ _ _ rfl rfl rfl rfl rfl ?_
                  refine r_v (Value.int .i64 (((o_8).length : Int))) rfl rfl rfl (ev_lenSl rfl rfl rfl (Rd.shp ho_8)) ?_
                  refine r_v (Value.bool (decide ((((o_8).length : Int) : Int) ≤ 255))) rfl rfl rfl rfl ?_
                  refine lx_nil ?_
                  refine hK117 _ _ ?_; try clear hK117 K117
                  refine A_cond (decide ((((o_8).length : Int) : Int) ≤ 255)) rfl (fun hc118 => ?_) (fun hc118 => ?_)
                  · replace hM := ifp (of_decide_eq_true hc118) hM
                    refine A_seq fun K119 hK119 => ?_
                    refine A_reg ?_
                    refine r_v (s108) rfl rfl rfl rfl ?_
                    refine r_v (Value.pointer (some ⟨b2, 9, none⟩)) rfl rfl rfl rfl ?_
                    refine r_l (o_8v) 0 _ _ _ _ rfl rfl rfl rfl rfl ?_
                    refine r_v (Value.int .i64 (((o_8).length : Int))) rfl rfl rfl (ev_lenSl rfl rfl rfl (Rd.shp ho_8)) ?_
                    refine r_w (Value.int .u8 ((((byteI (((o_8).length : Int))).toNat : Nat) : Int))) rfl rfl (u8_wrap (((o_8).length : Int))) (fun _ => rfl) ?_
                    replace hM := ck_some hM; obtain ⟨ck120, hM⟩ := hM
                    refine r_v (elA s108 (((0 : Int)).toNat * 1)) rfl rfl rfl (ev_v (ev_idxSl rfl rfl rfl (Sl.shp H110) ck120)) ?_
                    refine r_se (Ls := [[(b2, 34, #[Value.int .i64 (o_0), Value.int .i64 (o_1), Value.int .i64 (o_2), Value.int .i64 (o_3), Value.int .i64 (o_4), U (hi (o_5)), U (lo (o_5)), Value.string (⟨(o_6).toArray⟩), o_7v, o_8v])], S109]) 1 (En := encY) (([(0 : UInt8)])[((0 : Int)).toNat]!) ((byteI (((o_8).length : Int)))) (((0 : Int)).toNat) 0 rfl rfl rfl H110 (get_of ck120) rfl rfl rfl (one_all rfl) rfl (fun S121 H122 => ?_)
                    refine lx_nil ?_
                    refine hK119 _ _ ?_; try clear hK119 K119
                    refine A_gen [(0, bv), (3, Value.pointer (some ⟨b2, 0, none⟩)), (8, s108)] rfl (fun T => ?_)
                    refine A_seq fun K123 hK123 => ?_
                    refine A_reg ?_
                    refine r_v (Value.int .i64 (0)) rfl rfl rfl rfl ?_
                    refine lx_nil ?_
                    refine hK123 _ _ ?_; try clear hK123 K123
                    refine A_block ?_
                    refine A_forget _ (Sub.pick [[(b2, 34, #[Value.int .i64 (o_0), Value.int .i64 (o_1), Value.int .i64 (o_2), Value.int .i64 (o_3), Value.int .i64 (o_4), U (hi (o_5)), U (lo (o_5)), Value.string (⟨(o_6).toArray⟩), o_7v, o_8v])], S121] [0, 1] rfl) ?_
                    refine A_loop (fun tt ll nn => ∃ (n124 : Nat) (want8_ : List UInt8) (i9_ : Int), (shunterlaw07_write_v1_l10 N b o_8 n124 want8_ i9_ = some r) ∧ ∃ (vwant8_ : Value) (Swant8_ : List Bl), Sl 5 encY vwant8_ want8_ Swant8_ ∧ Is [(0, bv), (3, Value.pointer (some ⟨b2, 0, none⟩)), (8, vwant8_), (9, Value.int .i64 (i9_))] (List.flatten [[(b2, 34, #[Value.int .i64 (o_0), Value.int .i64 (o_1), Value.int .i64 (o_2), Value.int .i64 (o_3), Value.int .i64 (o_4), U (hi (o_5)), U (lo (o_5)), Value.string (⟨(o_6).toArray⟩), o_7v, o_8v])], Swant8_]) tt ll ∧ nn = n124 + 1) (N + 1) ?_ ?_
                    · exact ⟨N, ([(0 : UInt8)]).set (((0 : Int)).toNat) ((byteI (((o_8).length : Int)))), 0, hM, s108, S121, H122, is_mk rfl rfl, rfl⟩
                    · clear hM; rintro t l _ ⟨n124, want8_, i9_, hM, vwant8_, Swant8_, hwant8_, ⟨⟨T, rfl⟩, rfl⟩, rfl⟩
                      rcases n124 with _ | n124
                      · exact absurd hM (by simp [shunterlaw07_write_v1_l10])
                      rw [shunterlaw07_write_v1_l10] at hM
                      refine A_seq fun K125 hK125 => ?_
                      refine A_seq fun K126 hK126 => ?_
                      refine A_reg ?_
                      refine r_v (Value.int .i64 (i9_)) rfl rfl rfl rfl ?_
                      refine r_v (Value.pointer (some ⟨b2, 9, none⟩)) rfl rfl rfl rfl ?_
                      refine r_l (o_8v) 0 _ _ _ _ rfl rfl rfl rfl rfl ?_
                      refine r_v (Value.int .i64 (((o_8).length : Int))) rfl rfl rfl (ev_lenSl rfl rfl rfl (Rd.shp ho_8)) ?_
                      refine r_v (Value.bool (decide ((i9_ : Int) < ((o_8).length : Int)))) rfl rfl rfl rfl ?_
                      refine lx_nil ?_
                      refine hK126 _ _ ?_; try clear hK126 K126
                      refine A_cond (decide ((i9_ : Int) < ((o_8).length : Int))) rfl (fun hc127 => ?_) (fun hc127 => ?_)
                      · replace hM := ifp (of_decide_eq_true hc127) hM
                        refine A_skip ?_
                        refine hK125 _ _ ?_; try clear hK125 K125
                        refine A_seq fun K128 hK128 => ?_
                        refine A_block ?_
                        refine A_regC [(some 117, false), (some 118, true)] (conG Try.prog []) ?_
                        refine r_v (vwant8_) rfl rfl rfl rfl ?_
                        refine r_v (Value.pointer (some ⟨b2, 9, none⟩)) rfl rfl rfl rfl ?_
                        refine r_l (o_8v) 0 _ _ _ _ rfl rfl rfl rfl rfl ?_
                        refine r_v (Value.int .i64 (i9_)) rfl rfl rfl rfl ?_
                        replace hM := ck_some hM; obtain ⟨ck129, hM⟩ := hM
                        refine r_v (elA o_8v ((i9_).toNat * 1)) rfl rfl rfl (ev_v (ev_idxSl rfl rfl rfl (Rd.shp ho_8) ck129)) ?_
                        refine r_le (Value.int .i64 ((o_8)[(i9_).toNat]!)) (En := encI) ((o_8)[(i9_).toNat]!) ((i9_).toNat) 0 rfl rfl (rd_ro ho_8) (get_of ck129) rfl ?_
                        refine r_w (Value.int .u8 ((((byteI ((o_8)[(i9_).toNat]!)).toNat : Nat) : Int))) rfl rfl (u8_wrap ((o_8)[(i9_).toNat]!)) (fun _ => rfl) ?_
                        refine r_bs (cs0 := []) (Ls := [[(b2, 34, #[Value.int .i64 (o_0), Value.int .i64 (o_1), Value.int .i64 (o_2), Value.int .i64 (o_3), Value.int .i64 (o_4), U (hi (o_5)), U (lo (o_5)), Value.string (⟨(o_6).toArray⟩), o_7v, o_8v])], Swant8_]) 5 encY [(byteI ((o_8)[(i9_).toNat]!))] [Value.int .u8 ((((byteI ((o_8)[(i9_).toNat]!)).toNat : Nat) : Int))] [Value.int .u8 (0)] rfl rfl rfl rfl rfl rfl rfl (by kernel_rfl) (by kernel_rfl) rfl rfl rfl (fun s130 S131 H132 => ?_)
                        replace hM := ck_some hM; obtain ⟨ck133, hM⟩ := hM
                        refine r_app (cs0 := []) (Ls := [[(b2, 34, #[Value.int .i64 (o_0), Value.int .i64 (o_1), Value.int .i64 (o_2), Value.int .i64 (o_3), Value.int .i64 (o_4), U (hi (o_5)), U (lo (o_5)), Value.string (⟨(o_6).toArray⟩), o_7v, o_8v])], Swant8_, S131]) 1 (En := encY) rfl rfl rfl rfl rfl hwant8_ rfl (rd_own H132 (mem_chunk (Ls := [[(b2, 34, #[Value.int .i64 (o_0), Value.int .i64 (o_1), Value.int .i64 (o_2), Value.int .i64 (o_3), Value.int .i64 (o_4), U (hi (o_5)), U (lo (o_5)), Value.string (⟨(o_6).toArray⟩), o_7v, o_8v])], Swant8_, S131]) (k := 2) rfl rfl)) rfl rfl rfl rfl rfl (app_b ck133 rfl) (app_m ck133 rfl) rfl (fun s134 S135 H136 => ?_)
                        refine r_v (s134) rfl rfl rfl rfl ?_
                        refine lx_nil ?_
                        refine hK128 _ _ ?_; try clear hK128 K128
                        refine A_reg ?_
                        refine r_v (Value.int .i64 (i9_)) rfl rfl rfl rfl ?_
                        replace hM := ck_some hM; obtain ⟨ck137, hM⟩ := hM
                        refine r_v (Value.int .i64 ((i9_ + 1))) rfl rfl (wi64 rfl ck137.1 ck137.2) rfl ?_
                        refine r_v (Value.int .i64 ((i9_ + 1))) rfl rfl rfl rfl ?_
                        refine lx_nil ?_
                        refine fg _ (Sub.pick [[(b2, 34, #[Value.int .i64 (o_0), Value.int .i64 (o_1), Value.int .i64 (o_2), Value.int .i64 (o_3), Value.int .i64 (o_4), U (hi (o_5)), U (lo (o_5)), Value.string (⟨(o_6).toArray⟩), o_7v, o_8v])], S135, S131] [0, 1] rfl) ?_
                        exact ⟨n124 + 1, by omega, n124, (want8_ ++ ([(byteI ((o_8)[(i9_).toNat]!))])), (i9_ + 1), hM, s134, S135, H136, is_mk rfl rfl, rfl⟩
                      · replace hM := ifn (of_decide_eq_false hc127) hM
                        refine A_exit ?_
                        refine fg _ (Sub.pick [[(b2, 34, #[Value.int .i64 (o_0), Value.int .i64 (o_1), Value.int .i64 (o_2), Value.int .i64 (o_3), Value.int .i64 (o_4), U (hi (o_5)), U (lo (o_5)), Value.string (⟨(o_6).toArray⟩), o_7v, o_8v])], Swant8_] [0, 1] rfl) ?_
                        exact ⟨want8_, hM, vwant8_, Swant8_, hwant8_, is_mk rfl rfl⟩
                  · replace hM := ifn (of_decide_eq_false hc118) hM
                    refine A_skip ?_
                    refine fg _ (Sub.pick [[(b2, 34, #[Value.int .i64 (o_0), Value.int .i64 (o_1), Value.int .i64 (o_2), Value.int .i64 (o_3), Value.int .i64 (o_4), U (hi (o_5)), U (lo (o_5)), Value.string (⟨(o_6).toArray⟩), o_7v, o_8v])], S109] [0, 1] rfl) ?_
                    exact ⟨[(0 : UInt8)], hM, s108, S109, H110, is_mk rfl rfl⟩
                · clear hM; rintro t l ⟨want6_, hM, vwant6_, Swant6_, hwant6_, ⟨T, rfl⟩, rfl⟩
                  unfold shunterlaw07_write_v1_k7 at hM
                  refine A_seq fun K111 hK111 => ?_
                  refine A_regC [(some 122, false)] (conG Try.prog [(122, fun _ _ v_ L_ U_ => ∀ u0_, wire_Numbers_m N b o_8 = some u0_ → (p1 (fun s_ => s_) 5 encY (u0_)) v_ L_ U_)]) ?_
                  refine r_v (bv) rfl rfl rfl rfl ?_
                  refine r_v (Value.pointer (some ⟨b2, 9, none⟩)) rfl rfl rfl rfl ?_
                  refine r_l (o_8v) 0 _ _ _ _ rfl rfl rfl rfl rfl ?_
                  replace hM := bind_sm hM; obtain ⟨r112, hr113, hM⟩ := hM
                  refine r_g1 (Ls := [[(b2, 34, #[Value.int .i64 (o_0), Value.int .i64 (o_1), Value.int .i64 (o_2), Value.int .i64 (o_3), Value.int .i64 (o_4), U (hi (o_5)), U (lo (o_5)), Value.string (⟨(o_6).toArray⟩), o_7v, o_8v])], Swant6_]) (fun s114 => s114) 5 encY (r112) 33 _ rfl rfl rfl (ev_callF rfl call_33 rfl) (fun own_ nw_ hs_ => wire_Numbers_g N b o_8 _ hr113 hs_.view bv ((rd_ro hb) own_ nw_ hs_) o_8v ((rd_ro ho_8) own_ nw_ hs_)) (fun _ _ v_ L_ U_ => ⟨fun h_ => h_ _ hr113, fun h_ => by intro _ e_; cases Option.some.inj (e_.symm.trans hr113); exact h_⟩) (fun s114 S115 H116 => ?_)
                  refine r_v (vwant6_) rfl rfl rfl rfl ?_
                  refine r_v (s114) rfl rfl rfl rfl ?_
                  refine r_v (vwant6_) rfl rfl rfl rfl ?_
                  refine lx_nil ?_
                  refine hK111 _ _ ?_; try clear hK111 K111
                  obtain rfl := Option.some.inj hM
                  refine A_ret (fun hn => endsO (v0 := Value.tuple #[s114, vwant6_]) (O := [Swant6_, S115]) (res2 rfl rfl) (Sub.pick [[(b2, 34, #[Value.int .i64 (o_0), Value.int .i64 (o_1), Value.int .i64 (o_2), Value.int .i64 (o_3), Value.int .i64 (o_4), U (hi (o_5)), U (lo (o_5)), Value.string (⟨(o_6).toArray⟩), o_7v, o_8v])], Swant6_, S115] [1, 2] rfl) ⟨vwant6_, Swant6_, _, hwant6_, ⟨s114, S115, _, H116, ⟨rfl, rfl⟩, rfl⟩, rfl⟩)
              · replace hM := ifn (ne_of_beq_false hc106) hM
                refine A_skip ?_
                refine hK3 _ _ ?_; try clear hK3 K3
                refine A_seq fun K138 hK138 => ?_
                refine A_reg ?_
                refine r_v (bv) rfl rfl rfl rfl ?_
                refine r_v (bv) rfl rfl rfl rfl ?_
                refine r_v (Value.slice none 0 0) rfl rfl rfl rfl ?_
                refine lx_nil ?_
                refine hK138 _ _ ?_; try clear hK138 K138
                obtain rfl := Option.some.inj hM
                refine A_ret (fun hn => endsO (v0 := Value.tuple #[bv, Value.slice none 0 0]) (O := [[]]) (res2 rfl rfl) (Sub.pickE (Ls := [[(b2, 34, #[Value.int .i64 (o_0), Value.int .i64 (o_1), Value.int .i64 (o_2), Value.int .i64 (o_3), Value.int .i64 (o_4), U (hi (o_5)), U (lo (o_5)), Value.string (⟨(o_6).toArray⟩), o_7v, o_8v])], []]) (Ls0 := [[(b2, 34, #[Value.int .i64 (o_0), Value.int .i64 (o_1), Value.int .i64 (o_2), Value.int .i64 (o_3), Value.int .i64 (o_4), U (hi (o_5)), U (lo (o_5)), Value.string (⟨(o_6).toArray⟩), o_7v, o_8v])]]) rfl [1] rfl) ⟨Value.slice none 0 0, [], _, Sl.nil, ⟨rfl, rfl⟩, rfl⟩)
end Go.Proofs.Ytdgejbbelmhbdaa
