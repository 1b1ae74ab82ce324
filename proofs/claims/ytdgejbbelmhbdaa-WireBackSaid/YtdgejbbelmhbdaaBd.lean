/- models of functions and their walks -/
import Derived.Test.YtdgejbbelmhbdaaBc
namespace Go.Proofs.Ytdgejbbelmhbdaa
open Go Go.RowKit Go.Eng
def shunterref05_Runes_l3 (N : Nat) : Nat → List UInt8 → List Int → Option (List Int)
  | 0, _, _ => none
  | n4 + 1, s1_, l2_ => if (((s1_).length : Int) : Int) > 0 then (shunterref05_First_m N s1_).bind fun r9 => ck ((l2_).length + ([r9.1]).length ≤ 17592186044416) (ck (0 ≤ r9.2 ∧ r9.2 ≤ ((s1_).length : Int)) ((shunterref05_Runes_l3 N n4) ((s1_).drop (r9.2).toNat) ((l2_ ++ ([r9.1]))))) else some (l2_)
def shunterref05_Runes_m (N : Nat) (s : List UInt8) : Option (List Int) := shunterref05_Runes_l3 N N (s) ([])
set_option maxRecDepth 100000 in
set_option maxHeartbeats 8000000 in
theorem shunterref05_Runes_g (N : Nat) (s : List UInt8) (r : List Int) (hM : shunterref05_Runes_m N s = some r) (ro : Addr → Option Value)  : Does Try.prog 45 #[Value.string (⟨(s).toArray⟩)] ro [] (p1 (fun s_ => s_) 3 encI r) := by
  unfold shunterref05_Runes_m at hM
  refine does_of_A follows Try.func45 rfl 22 rfl (upd (fun _ => undef) 0 (Value.string (⟨(s).toArray⟩))) (by funext k; match k with | 0 => rfl | k + 1 => rfl) (fun base0_ => ?_)
  refine A_seq fun K1 hK1 => ?_
  refine A_reg ?_
  refine r_v (Value.slice none 0 0) rfl rfl rfl rfl ?_
  refine lx_nil ?_
  refine hK1 _ _ ?_; try clear hK1 K1
  refine A_seq fun K2 hK2 => ?_
  refine A_reg ?_
  refine r_v (Value.slice none 0 0) rfl rfl rfl rfl ?_
  refine lx_nil ?_
  refine hK2 _ _ ?_; try clear hK2 K2
  refine A_seq fun K3 hK3 => ?_
  refine A_block ?_
  refine A_forget _ (Sub.pickE (Ls := [[]]) (Ls0 := []) rfl [0] rfl) ?_
  refine A_loop (fun tt ll nn => ∃ (n4 : Nat) (s1_ : List UInt8) (l2_ : List Int), (shunterref05_Runes_l3 N n4 s1_ l2_ = some r) ∧ ∃ (vl2_ : Value) (Sl2_ : List Bl), Sl 3 encI vl2_ l2_ Sl2_ ∧ Is [(0, Value.string (⟨(s1_).toArray⟩)), (3, vl2_)] (List.flatten [Sl2_]) tt ll ∧ nn = n4 + 1) (N + 1) ?_ ?_
  · exact ⟨N, s, [], hM, Value.slice none 0 0, [], Sl.nil, is_mk rfl rfl, rfl⟩
  · clear hM; rintro t l _ ⟨n4, s1_, l2_, hM, vl2_, Sl2_, hl2_, ⟨⟨T, rfl⟩, rfl⟩, rfl⟩
    rcases n4 with _ | n4
    · exact absurd hM (by simp [shunterref05_Runes_l3])
    rw [shunterref05_Runes_l3] at hM
    refine A_seq fun K5 hK5 => ?_
    refine A_seq fun K6 hK6 => ?_
    refine A_reg ?_
    refine r_v (Value.string (⟨(s1_).toArray⟩)) rfl rfl rfl rfl ?_
    refine r_v (Value.int .i64 (((s1_).length : Int))) rfl rfl rfl (ev_lenS rfl rfl rfl) ?_
    refine r_v (Value.bool (decide ((((s1_).length : Int) : Int) > 0))) rfl rfl rfl rfl ?_
    refine lx_nil ?_
    refine hK6 _ _ ?_; try clear hK6 K6
    refine A_cond (decide ((((s1_).length : Int) : Int) > 0)) rfl (fun hc7 => ?_) (fun hc7 => ?_)
    · replace hM := ifp (of_decide_eq_true hc7) hM
      refine A_skip ?_
      refine hK5 _ _ ?_; try clear hK5 K5
      refine A_block ?_
      refine A_seq fun K8 hK8 => ?_
      refine A_reg ?_
      refine r_v (Value.string (⟨(s1_).toArray⟩)) rfl rfl rfl rfl ?_
      replace hM := bind_sm hM; obtain ⟨r9, hr10, hM⟩ := hM
      refine r_c (Value.tuple #[Value.int .i64 (r9.1), Value.int .i64 (r9.2)]) rfl _ _ (ev_callF rfl call_67 rfl) (shunterref05_First_g N s1_ _ hr10) ?_
      refine r_v (Value.tuple #[Value.int .i64 (r9.1), Value.int .i64 (r9.2)]) rfl rfl rfl rfl ?_
      refine r_v (Value.int .i64 (r9.1)) rfl rfl rfl rfl ?_
      refine r_v (Value.int .i64 (r9.2)) rfl rfl rfl rfl ?_
      refine r_v (Value.int .i64 (r9.1)) rfl rfl rfl rfl ?_
      refine r_v (Value.int .i64 (r9.2)) rfl rfl rfl rfl ?_
      refine lx_nil ?_
      refine hK8 _ _ ?_; try clear hK8 K8
      refine A_seq fun K11 hK11 => ?_
      refine A_regC [(some 16, false), (some 17, true)] (conG Try.prog []) ?_
      refine r_v (vl2_) rfl rfl rfl rfl ?_
      refine r_v (Value.int .i64 (r9.1)) rfl rfl rfl rfl ?_
      refine r_bs (cs0 := []) (Ls := [Sl2_]) 3 encI [r9.1] [Value.int .i64 (r9.1)] [Value.int .i64 (0)] rfl rfl rfl rfl rfl rfl rfl (by kernel_rfl) (by kernel_rfl) rfl rfl rfl (fun s12 S13 H14 => ?_)
      replace hM := ck_some hM; obtain ⟨ck15, hM⟩ := hM
      refine r_app (cs0 := []) (Ls := [Sl2_, S13]) 0 (En := encI) rfl rfl rfl rfl rfl hl2_ rfl (rd_own H14 (mem_chunk (Ls := [Sl2_, S13]) (k := 1) rfl rfl)) rfl rfl rfl rfl rfl (app_b ck15 rfl) (app_m ck15 rfl) rfl (fun s16 S17 H18 => ?_)
      refine r_v (s16) rfl rfl rfl rfl ?_
      refine lx_nil ?_
      refine hK11 _ _ ?_; try clear hK11 K11
      refine A_reg ?_
      refine r_v (Value.string (⟨(s1_).toArray⟩)) rfl rfl rfl rfl ?_
      refine r_v (Value.int .i64 (r9.2)) rfl rfl rfl rfl ?_
      replace hM := ck_some hM; obtain ⟨ck19, hM⟩ := hM
      refine r_v (Value.string (⟨((s1_).drop (r9.2).toNat).toArray⟩)) rfl rfl rfl (ev_v (ev_sliceS1 rfl ck19)) ?_
      refine r_v (Value.string (⟨((s1_).drop (r9.2).toNat).toArray⟩)) rfl rfl rfl rfl ?_
      refine lx_nil ?_
      refine fg _ (Sub.pick [S17, S13] [0] rfl) ?_
      exact ⟨n4 + 1, by omega, n4, (s1_).drop (r9.2).toNat, (l2_ ++ ([r9.1])), hM, s16, S17, H18, is_mk rfl rfl, rfl⟩
    · replace hM := ifn (of_decide_eq_false hc7) hM
      refine A_exit ?_
      refine hK3 _ _ ?_; try clear hK3 K3
      refine A_seq fun K20 hK20 => ?_
      refine A_reg ?_
      refine r_v (vl2_) rfl rfl rfl rfl ?_
      refine r_v (vl2_) rfl rfl rfl rfl ?_
      refine lx_nil ?_
      refine hK20 _ _ ?_; try clear hK20 K20
      obtain rfl := Option.some.inj hM
      refine A_ret (fun hn => ends1 (v0 := vl2_) hl2_ (sub_one (Sub.pick [Sl2_] [0] rfl)) rfl (res1 rfl))
def shunterref05_Letter_k2 (c : Int) : Option (Bool) := if (c : Int) ≥ 192 then if (c : Int) ≤ 591 then some (true) else if (c : Int) ≥ 913 then if (c : Int) ≤ 969 then some (true) else if (c : Int) ≥ 1024 then some (decide ((c : Int) ≤ 1279)) else some (false) else if (c : Int) ≥ 1024 then some (decide ((c : Int) ≤ 1279)) else some (false) else if (c : Int) ≥ 913 then if (c : Int) ≤ 969 then some (true) else if (c : Int) ≥ 1024 then some (decide ((c : Int) ≤ 1279)) else some (false) else if (c : Int) ≥ 1024 then some (decide ((c : Int) ≤ 1279)) else some (false)
def shunterref05_Letter_k1 (c : Int) : Option (Bool) := if (c : Int) = 215 then some (false) else if (c : Int) = 247 then some (false) else if (c : Int) = 930 then some (false) else shunterref05_Letter_k2 c 
def shunterref05_Letter_m (_ : Nat) (c : Int) : Option (Bool) := if (c : Int) ≥ 65 then if (c : Int) ≤ 90 then some (true) else if (c : Int) ≥ 97 then if (c : Int) ≤ 122 then some (true) else if (c : Int) = 95 then some (true) else shunterref05_Letter_k1 c  else if (c : Int) = 95 then some (true) else shunterref05_Letter_k1 c  else if (c : Int) ≥ 97 then if (c : Int) ≤ 122 then some (true) else if (c : Int) = 95 then some (true) else shunterref05_Letter_k1 c  else if (c : Int) = 95 then some (true) else shunterref05_Letter_k1 c 
set_option maxRecDepth 100000 in
set_option maxHeartbeats 8000000 in
theorem shunterref05_Letter_g (N : Nat) (c : Int) (r : Bool) (hM : shunterref05_Letter_m N c = some r) : Gives Try.prog 46 #[Value.int .i64 (c)] (Value.bool (r)) := by
  unfold shunterref05_Letter_m at hM
  refine gives_of_A follows Try.func46 rfl 53 rfl (upd (fun _ => undef) 0 (Value.int .i64 (c))) (by funext k; match k with | 0 => rfl | k + 1 => rfl) (fun base0_ => ?_)
  refine A_seq fun K1 hK1 => ?_
  refine A_reg ?_
  refine r_v (Value.bool (false)) rfl rfl rfl rfl ?_
  refine lx_nil ?_
  refine hK1 _ _ ?_; try clear hK1 K1
  refine A_cut (fun tt ll => (shunterref05_Letter_k1 c  = some r) ∧ Is [(0, Value.int .i64 (c))] [] tt ll) ?_ ?_
  · refine A_seq fun K20 hK20 => ?_
    refine A_reg ?_
    refine r_v (Value.int .i64 (c)) rfl rfl rfl rfl ?_
    refine r_v (Value.bool (decide ((c : Int) ≥ 65))) rfl rfl rfl rfl ?_
    refine r_v (Value.bool (decide ((c : Int) ≥ 65))) rfl rfl rfl rfl ?_
    rcases hg21 : (decide ((c : Int) ≥ 65)) with _ | _
    · replace hM := ifn (of_decide_eq_false hg21) hM
      refine r_n false rfl (by decide) rfl ?_
      refine r_n false rfl (by decide) rfl ?_
      refine r_v (Value.bool (false)) rfl rfl rfl rfl ?_
      refine r_v (Value.bool (false)) rfl rfl rfl rfl ?_
      refine r_y rfl ?_
      refine r_v (Value.int .i64 (c)) rfl rfl rfl rfl ?_
      refine r_y rfl ?_
      refine r_v (Value.bool (decide ((c : Int) ≥ 97))) rfl rfl rfl rfl ?_
      refine r_y rfl ?_
      refine r_v (Value.bool (decide ((c : Int) ≥ 97))) rfl rfl rfl rfl ?_
      rcases hg22 : (decide ((c : Int) ≥ 97)) with _ | _
      · replace hM := ifn (of_decide_eq_false hg22) hM
        refine r_n false rfl (by decide) rfl ?_
        refine r_n false rfl (by decide) rfl ?_
        refine r_y rfl ?_
        refine r_v (Value.bool (false)) rfl rfl rfl rfl ?_
        refine r_v (Value.bool (false)) rfl rfl rfl rfl ?_
        refine r_v (Value.bool (false)) rfl rfl rfl rfl ?_
        refine r_y rfl ?_
        refine r_v (Value.int .i64 (c)) rfl rfl rfl rfl ?_
        refine r_y rfl ?_
        refine r_v (Value.bool (((c : Int) == 95))) rfl rfl rfl rfl ?_
        refine r_v (Value.bool (((c : Int) == 95))) rfl rfl rfl rfl ?_
        refine lx_nil ?_
        refine hK20 _ _ ?_; try clear hK20 K20
        refine A_cond (((c : Int) == 95)) rfl (fun hc23 => ?_) (fun hc23 => ?_)
        · replace hM := ifp (eq_of_beq hc23) hM
          refine A_seq fun K24 hK24 => ?_
          refine A_reg ?_
          refine r_v (Value.bool (true)) rfl rfl rfl rfl ?_
          refine lx_nil ?_
          refine hK24 _ _ ?_; try clear hK24 K24
          obtain rfl := Option.some.inj hM
          refine A_ret (fun hn => ends_eq (v0 := Value.bool (true)) rfl (res1 rfl))
        · replace hM := ifn (ne_of_beq_false hc23) hM
          refine A_skip ?_
          refine fg _ (Sub.of (List.Sublist.slnil)) ?_
          exact ⟨hM, is_mk rfl rfl⟩
      · replace hM := ifp (of_decide_eq_true hg22) hM
        refine r_y rfl ?_
        refine r_v (Value.int .i64 (c)) rfl rfl rfl rfl ?_
        refine r_y rfl ?_
        refine r_v (Value.bool (decide ((c : Int) ≤ 122))) rfl rfl rfl rfl ?_
        refine r_y rfl ?_
        refine r_v (Value.bool (decide ((c : Int) ≤ 122))) rfl rfl rfl rfl ?_
        refine r_v (Value.bool (decide ((c : Int) ≤ 122))) rfl rfl rfl rfl ?_
        refine r_v (Value.bool (decide ((c : Int) ≤ 122))) rfl rfl rfl rfl ?_
        rcases hg25 : (decide ((c : Int) ≤ 122)) with _ | _
        · replace hM := ifn (of_decide_eq_false hg25) hM
          refine r_y rfl ?_
          refine r_v (Value.int .i64 (c)) rfl rfl rfl rfl ?_
          refine r_y rfl ?_
          refine r_v (Value.bool (((c : Int) == 95))) rfl rfl rfl rfl ?_
          refine r_v (Value.bool (((c : Int) == 95))) rfl rfl rfl rfl ?_
          refine lx_nil ?_
          refine hK20 _ _ ?_; try clear hK20 K20
          refine A_cond (((c : Int) == 95)) rfl (fun hc26 => ?_) (fun hc26 => ?_)
          · replace hM := ifp (eq_of_beq hc26) hM
            refine A_seq fun K27 hK27 => ?_
            refine A_reg ?_
            refine r_v (Value.bool (true)) rfl rfl rfl rfl ?_
            refine lx_nil ?_
            refine hK27 _ _ ?_; try clear hK27 K27
            obtain rfl := Option.some.inj hM
            refine A_ret (fun hn => ends_eq (v0 := Value.bool (true)) rfl (res1 rfl))
          · replace hM := ifn (ne_of_beq_false hc26) hM
            refine A_skip ?_
            refine fg _ (Sub.of (List.Sublist.slnil)) ?_
            exact ⟨hM, is_mk rfl rfl⟩
        · replace hM := ifp (of_decide_eq_true hg25) hM
          refine r_n true rfl (by decide) rfl ?_
          refine r_n true rfl (by decide) rfl ?_
          refine r_v (Value.bool (true)) rfl rfl rfl rfl ?_
          refine lx_nil ?_
          refine hK20 _ _ ?_; try clear hK20 K20
          refine A_cond true rfl (fun _ => ?_) (fun h_ => nomatch h_)
          refine A_seq fun K28 hK28 => ?_
          refine A_reg ?_
          refine r_v (Value.bool (true)) rfl rfl rfl rfl ?_
          refine lx_nil ?_
          refine hK28 _ _ ?_; try clear hK28 K28
          obtain rfl := Option.some.inj hM
          refine A_ret (fun hn => ends_eq (v0 := Value.bool (true)) rfl (res1 rfl))
    · replace hM := ifp (of_decide_eq_true hg21) hM
      refine r_y rfl ?_
      refine r_v (Value.int .i64 (c)) rfl rfl rfl rfl ?_
      refine r_y rfl ?_
      refine r_v (Value.bool (decide ((c : Int) ≤ 90))) rfl rfl rfl rfl ?_
      refine r_v (Value.bool (decide ((c : Int) ≤ 90))) rfl rfl rfl rfl ?_
      refine r_v (Value.bool (decide ((c : Int) ≤ 90))) rfl rfl rfl rfl ?_
      rcases hg29 : (decide ((c : Int) ≤ 90)) with _ | _
      · replace hM := ifn (of_decide_eq_false hg29) hM
        refine r_y rfl ?_
        refine r_v (Value.int .i64 (c)) rfl rfl rfl rfl ?_
        refine r_y rfl ?_
        refine r_v (Value.bool (decide ((c : Int) ≥ 97))) rfl rfl rfl rfl ?_
        refine r_y rfl ?_
        refine r_v (Value.bool (decide ((c : Int) ≥ 97))) rfl rfl rfl rfl ?_
        rcases hg30 : (decide ((c : Int) ≥ 97)) with _ | _
        · replace hM := ifn (of_decide_eq_false hg30) hM
          refine r_n false rfl (by decide) rfl ?_
          refine r_n false rfl (by decide) rfl ?_
          refine r_y rfl ?_
          refine r_v (Value.bool (false)) rfl rfl rfl rfl ?_
          refine r_v (Value.bool (false)) rfl rfl rfl rfl ?_
          refine r_v (Value.bool (false)) rfl rfl rfl rfl ?_
          refine r_y rfl ?_
          refine r_v (Value.int .i64 (c)) rfl rfl rfl rfl ?_
          refine r_y rfl ?_
          refine r_v (Value.bool (((c : Int) == 95))) rfl rfl rfl rfl ?_
          refine r_v (Value.bool (((c : Int) == 95))) rfl rfl rfl rfl ?_
          refine lx_nil ?_
          refine hK20 _ _ ?_; try clear hK20 K20
          refine A_cond (((c : Int) == 95)) rfl (fun hc31 => ?_) (fun hc31 => ?_)
          · replace hM := ifp (eq_of_beq hc31) hM
            refine A_seq fun K32 hK32 => ?_
            refine A_reg ?_
            refine r_v (Value.bool (true)) rfl rfl rfl rfl ?_
            refine lx_nil ?_
            refine hK32 _ _ ?_; try clear hK32 K32
            obtain rfl := Option.some.inj hM
            refine A_ret (fun hn => ends_eq (v0 := Value.bool (true)) rfl (res1 rfl))
          · replace hM := ifn (ne_of_beq_false hc31) hM
            refine A_skip ?_
            refine fg _ (Sub.of (List.Sublist.slnil)) ?_
            exact ⟨hM, is_mk rfl rfl⟩
        · replace hM := ifp (of_decide_eq_true hg30) hM
          refine r_y rfl ?_
          refine r_v (Value.int .i64 (c)) rfl rfl rfl rfl ?_
          refine r_y rfl ?_
          refine r_v (Value.bool (decide ((c : Int) ≤ 122))) rfl rfl rfl rfl ?_
          refine r_y rfl ?_
          refine r_v (Value.bool (decide ((c : Int) ≤ 122))) rfl rfl rfl rfl ?_
          refine r_v (Value.bool (decide ((c : Int) ≤ 122))) rfl rfl rfl rfl ?_
          refine r_v (Value.bool (decide ((c : Int) ≤ 122))) rfl rfl rfl rfl ?_
          rcases hg33 : (decide ((c : Int) ≤ 122)) with _ | _
          · replace hM := ifn (of_decide_eq_false hg33) hM
            refine r_y rfl ?_
            refine r_v (Value.int .i64 (c)) rfl rfl rfl rfl ?_
            refine r_y rfl ?_
            refine r_v (Value.bool (((c : Int) == 95))) rfl rfl rfl rfl ?_
            refine r_v (Value.bool (((c : Int) == 95))) rfl rfl rfl rfl ?_
            refine lx_nil ?_
            refine hK20 _ _ ?_; try clear hK20 K20
            refine A_cond (((c : Int) == 95)) rfl (fun hc34 => ?_) (fun hc34 => ?_)
            · replace hM := ifp (eq_of_beq hc34) hM
              refine A_seq fun K35 hK35 => ?_
              refine A_reg ?_
              refine r_v (Value.bool (true)) rfl rfl rfl rfl ?_
              refine lx_nil ?_
              refine hK35 _ _ ?_; try clear hK35 K35
              obtain rfl := Option.some.inj hM
              refine A_ret (fun hn => ends_eq (v0 := Value.bool (true)) rfl (res1 rfl))
            · replace hM := ifn (ne_of_beq_false hc34) hM
              refine A_skip ?_
              refine fg _ (Sub.of (List.Sublist.slnil)) ?_
              exact ⟨hM, is_mk rfl rfl⟩
          · replace hM := ifp (of_decide_eq_true hg33) hM
            refine r_n true rfl (by decide) rfl ?_
            refine r_n true rfl (by decide) rfl ?_
            refine r_v (Value.bool (true)) rfl rfl rfl rfl ?_
            refine lx_nil ?_
            refine hK20 _ _ ?_; try clear hK20 K20
            refine A_cond true rfl (fun _ => ?_) (fun h_ => nomatch h_)
            refine A_seq fun K36 hK36 => ?_
            refine A_reg ?_
            refine r_v (Value.bool (true)) rfl rfl rfl rfl ?_
            refine lx_nil ?_
            refine hK36 _ _ ?_; try clear hK36 K36
            obtain rfl := Option.some.inj hM
            refine A_ret (fun hn => ends_eq (v0 := Value.bool (true)) rfl (res1 rfl))
      · replace hM := ifp (of_decide_eq_true hg29) hM
        refine r_n true rfl (by decide) rfl ?_
        refine r_n true rfl (by decide) rfl ?_
        refine r_n true rfl (by decide) rfl ?_
        refine r_nu rfl rfl ?_
        refine r_nu rfl rfl ?_
        refine r_n true rfl (by decide) rfl ?_
        refine r_v (Value.bool (true)) rfl rfl rfl rfl ?_
        refine r_v (Value.bool (true)) rfl rfl rfl rfl ?_
        refine r_n true rfl (by decide) rfl ?_
        refine r_n true rfl (by decide) rfl ?_
        refine r_v (Value.bool (true)) rfl rfl rfl rfl ?_
        refine lx_nil ?_
        refine hK20 _ _ ?_; try clear hK20 K20
        refine A_cond true rfl (fun _ => ?_) (fun h_ => nomatch h_)
        refine A_seq fun K37 hK37 => ?_
        refine A_reg ?_
        refine r_v (Value.bool (true)) rfl rfl rfl rfl ?_
        refine lx_nil ?_
        refine hK37 _ _ ?_; try clear hK37 K37
        obtain rfl := Option.some.inj hM
        refine A_ret (fun hn => ends_eq (v0 := Value.bool (true)) rfl (res1 rfl))
  · clear hM; rintro t l ⟨hM, ⟨T, rfl⟩, rfl⟩
    unfold shunterref05_Letter_k1 at hM
    refine A_cut (fun tt ll => (shunterref05_Letter_k2 c  = some r) ∧ Is [(0, Value.int .i64 (c))] [] tt ll) ?_ ?_
    · refine A_seq fun K13 hK13 => ?_
      refine A_reg ?_
      refine r_v (Value.int .i64 (c)) rfl rfl rfl rfl ?_
      refine r_v (Value.bool (((c : Int) == 215))) rfl rfl rfl rfl ?_
      refine r_v (Value.bool (((c : Int) == 215))) rfl rfl rfl rfl ?_
      rcases hg14 : (((c : Int) == 215)) with _ | _
      · replace hM := ifn (ne_of_beq_false hg14) hM
        refine r_y rfl ?_
        refine r_v (Value.int .i64 (c)) rfl rfl rfl rfl ?_
        refine r_y rfl ?_
        refine r_v (Value.bool (((c : Int) == 247))) rfl rfl rfl rfl ?_
        refine r_v (Value.bool (((c : Int) == 247))) rfl rfl rfl rfl ?_
        refine r_v (Value.bool (((c : Int) == 247))) rfl rfl rfl rfl ?_
        rcases hg15 : (((c : Int) == 247)) with _ | _
        · replace hM := ifn (ne_of_beq_false hg15) hM
          refine r_y rfl ?_
          refine r_v (Value.int .i64 (c)) rfl rfl rfl rfl ?_
          refine r_y rfl ?_
          refine r_v (Value.bool (((c : Int) == 930))) rfl rfl rfl rfl ?_
          refine r_v (Value.bool (((c : Int) == 930))) rfl rfl rfl rfl ?_
          refine lx_nil ?_
          refine hK13 _ _ ?_; try clear hK13 K13
          refine A_cond (((c : Int) == 930)) rfl (fun hc16 => ?_) (fun hc16 => ?_)
          · replace hM := ifp (eq_of_beq hc16) hM
            refine A_seq fun K17 hK17 => ?_
            refine A_reg ?_
            refine r_v (Value.bool (false)) rfl rfl rfl rfl ?_
            refine lx_nil ?_
            refine hK17 _ _ ?_; try clear hK17 K17
            obtain rfl := Option.some.inj hM
            refine A_ret (fun hn => ends_eq (v0 := Value.bool (false)) rfl (res1 rfl))
          · replace hM := ifn (ne_of_beq_false hc16) hM
            refine A_skip ?_
            refine fg _ (Sub.of (List.Sublist.slnil)) ?_
            exact ⟨hM, is_mk rfl rfl⟩
        · replace hM := ifp (eq_of_beq hg15) hM
          refine r_n true rfl (by decide) rfl ?_
          refine r_n true rfl (by decide) rfl ?_
          refine r_v (Value.bool (true)) rfl rfl rfl rfl ?_
          refine lx_nil ?_
          refine hK13 _ _ ?_; try clear hK13 K13
          refine A_cond true rfl (fun _ => ?_) (fun h_ => nomatch h_)
          refine A_seq fun K18 hK18 => ?_
          refine A_reg ?_
          refine r_v (Value.bool (false)) rfl rfl rfl rfl ?_
          refine lx_nil ?_
          refine hK18 _ _ ?_; try clear hK18 K18
          obtain rfl := Option.some.inj hM
          refine A_ret (fun hn => ends_eq (v0 := Value.bool (false)) rfl (res1 rfl))
      · replace hM := ifp (eq_of_beq hg14) hM
        refine r_n true rfl (by decide) rfl ?_
        refine r_n true rfl (by decide) rfl ?_
        refine r_v (Value.bool (true)) rfl rfl rfl rfl ?_
        refine r_v (Value.bool (true)) rfl rfl rfl rfl ?_
        refine r_n true rfl (by decide) rfl ?_
        refine r_n true rfl (by decide) rfl ?_
        refine r_v (Value.bool (true)) rfl rfl rfl rfl ?_
        refine lx_nil ?_
        refine hK13 _ _ ?_; try clear hK13 K13
        refine A_cond true rfl (fun _ => ?_) (fun h_ => nomatch h_)
        refine A_seq fun K19 hK19 => ?_
        refine A_reg ?_
        refine r_v (Value.bool (false)) rfl rfl rfl rfl ?_
        refine lx_nil ?_
        refine hK19 _ _ ?_; try clear hK19 K19
        obtain rfl := Option.some.inj hM
        refine A_ret (fun hn => ends_eq (v0 := Value.bool (false)) rfl (res1 rfl))
    · clear hM; rintro t l ⟨hM, ⟨T, rfl⟩, rfl⟩
      unfold shunterref05_Letter_k2 at hM
      refine A_seq fun K2 hK2 => ?_
      refine A_reg ?_
      refine r_v (Value.int .i64 (c)) rfl rfl rfl rfl ?_
      refine r_v (Value.bool (decide ((c : Int) ≥ 192))) rfl rfl rfl rfl ?_
      refine r_v (Value.bool (decide ((c : Int) ≥ 192))) rfl rfl rfl rfl ?_
      rcases hg3 : (decide ((c : Int) ≥ 192)) with _ | _
      · replace hM := ifn (of_decide_eq_false hg3) hM
        refine r_n false rfl (by decide) rfl ?_
        refine r_n false rfl (by decide) rfl ?_
        refine r_v (Value.bool (false)) rfl rfl rfl rfl ?_
        refine r_v (Value.bool (false)) rfl rfl rfl rfl ?_
        refine r_y rfl ?_
        refine r_v (Value.int .i64 (c)) rfl rfl rfl rfl ?_
        refine r_y rfl ?_
        refine r_v (Value.bool (decide ((c : Int) ≥ 913))) rfl rfl rfl rfl ?_
        refine r_y rfl ?_
        refine r_v (Value.bool (decide ((c : Int) ≥ 913))) rfl rfl rfl rfl ?_
        rcases hg4 : (decide ((c : Int) ≥ 913)) with _ | _
        · replace hM := ifn (of_decide_eq_false hg4) hM
          refine r_n false rfl (by decide) rfl ?_
          refine r_n false rfl (by decide) rfl ?_
          refine r_y rfl ?_
          refine r_v (Value.bool (false)) rfl rfl rfl rfl ?_
          refine r_v (Value.bool (false)) rfl rfl rfl rfl ?_
          refine r_v (Value.bool (false)) rfl rfl rfl rfl ?_
          refine r_y rfl ?_
          refine r_v (Value.int .i64 (c)) rfl rfl rfl rfl ?_
          refine r_y rfl ?_
          refine r_v (Value.bool (decide ((c : Int) ≥ 1024))) rfl rfl rfl rfl ?_
          refine r_y rfl ?_
          refine r_v (Value.bool (decide ((c : Int) ≥ 1024))) rfl rfl rfl rfl ?_
          rcases hg5 : (decide ((c : Int) ≥ 1024)) with _ | _
          · replace hM := ifn (of_decide_eq_false hg5) hM
            refine r_n false rfl (by decide) rfl ?_
            refine r_n false rfl (by decide) rfl ?_
            refine r_y rfl ?_
            refine r_v (Value.bool (false)) rfl rfl rfl rfl ?_
            refine r_v (Value.bool (false)) rfl rfl rfl rfl ?_
            refine r_v (Value.bool (false)) rfl rfl rfl rfl ?_
            refine lx_nil ?_
            refine hK2 _ _ ?_; try clear hK2 K2
            obtain rfl := Option.some.inj hM
            refine A_ret (fun hn => ends_eq (v0 := Value.bool (false)) rfl (res1 rfl))
          · replace hM := ifp (of_decide_eq_true hg5) hM
            refine r_y rfl ?_
            refine r_v (Value.int .i64 (c)) rfl rfl rfl rfl ?_
            refine r_y rfl ?_
            refine r_v (Value.bool (decide ((c : Int) ≤ 1279))) rfl rfl rfl rfl ?_
            refine r_y rfl ?_
            refine r_v (Value.bool (decide ((c : Int) ≤ 1279))) rfl rfl rfl rfl ?_
            refine r_v (Value.bool (decide ((c : Int) ≤ 1279))) rfl rfl rfl rfl ?_
            refine r_v (Value.bool (decide ((c : Int) ≤ 1279))) rfl rfl rfl rfl ?_
            refine lx_nil ?_
            refine hK2 _ _ ?_; try clear hK2 K2
            obtain rfl := Option.some.inj hM
            refine A_ret (fun hn => ends_eq (v0 := Value.bool (decide ((c : Int) ≤ 1279))) rfl (res1 rfl))
        · replace hM := ifp (of_decide_eq_true hg4) hM
          refine r_y rfl ?_
          refine r_v (Value.int .i64 (c)) rfl rfl rfl rfl ?_
          refine r_y rfl ?_
          refine r_v (Value.bool (decide ((c : Int) ≤ 969))) rfl rfl rfl rfl ?_
          refine r_y rfl ?_
          refine r_v (Value.bool (decide ((c : Int) ≤ 969))) rfl rfl rfl rfl ?_
          refine r_v (Value.bool (decide ((c : Int) ≤ 969))) rfl rfl rfl rfl ?_
          refine r_v (Value.bool (decide ((c : Int) ≤ 969))) rfl rfl rfl rfl ?_
          rcases hg6 : (decide ((c : Int) ≤ 969)) with _ | _
          · replace hM := ifn (of_decide_eq_false hg6) hM
            refine r_y rfl ?_
            refine r_v (Value.int .i64 (c)) rfl rfl rfl rfl ?_
            refine r_y rfl ?_
            refine r_v (Value.bool (decide ((c : Int) ≥ 1024))) rfl rfl rfl rfl ?_
            refine r_y rfl ?_
            refine r_v (Value.bool (decide ((c : Int) ≥ 1024))) rfl rfl rfl rfl ?_
            rcases hg7 : (decide ((c : Int) ≥ 1024)) with _ | _
            · replace hM := ifn (of_decide_eq_false hg7) hM
              refine r_n false rfl (by decide) rfl ?_
              refine r_n false rfl (by decide) rfl ?_
              refine r_y rfl ?_
              refine r_v (Value.bool (false)) rfl rfl rfl rfl ?_
              refine r_v (Value.bool (false)) rfl rfl rfl rfl ?_
              refine r_v (Value.bool (false)) rfl rfl rfl rfl ?_
              refine lx_nil ?_
              refine hK2 _ _ ?_; try clear hK2 K2
              obtain rfl := Option.some.inj hM
              refine A_ret (fun hn => ends_eq (v0 := Value.bool (false)) rfl (res1 rfl))
            · replace hM := ifp (of_decide_eq_true hg7) hM
              refine r_y rfl ?_
              refine r_v (Value.int .i64 (c)) rfl rfl rfl rfl ?_
              refine r_y rfl ?_
              refine r_v (Value.bool (decide ((c : Int) ≤ 1279))) rfl rfl rfl rfl ?_
              refine r_y rfl ?_
              refine r_v (Value.bool (decide ((c : Int) ≤ 1279))) rfl rfl rfl rfl ?_
              refine r_v (Value.bool (decide ((c : Int) ≤ 1279))) rfl rfl rfl rfl ?_
              refine r_v (Value.bool (decide ((c : Int) ≤ 1279))) rfl rfl rfl rfl ?_
              refine lx_nil ?_
              refine hK2 _ _ ?_; try clear hK2 K2
              obtain rfl := Option.some.inj hM
              refine A_ret (fun hn => ends_eq (v0 := Value.bool (decide ((c : Int) ≤ 1279))) rfl (res1 rfl))
          · replace hM := ifp (of_decide_eq_true hg6) hM
            refine r_n true rfl (by decide) rfl ?_
            refine r_n true rfl (by decide) rfl ?_
            refine r_n true rfl (by decide) rfl ?_
            refine r_nu rfl rfl ?_
            refine r_nu rfl rfl ?_
            refine r_n true rfl (by decide) rfl ?_
            refine r_v (Value.bool (true)) rfl rfl rfl rfl ?_
            refine r_v (Value.bool (true)) rfl rfl rfl rfl ?_
            refine lx_nil ?_
            refine hK2 _ _ ?_; try clear hK2 K2
            obtain rfl := Option.some.inj hM
            refine A_ret (fun hn => ends_eq (v0 := Value.bool (true)) rfl (res1 rfl))
      · replace hM := ifp (of_decide_eq_true hg3) hM
        refine r_y rfl ?_
        refine r_v (Value.int .i64 (c)) rfl rfl rfl rfl ?_
        refine r_y rfl ?_
        refine r_v (Value.bool (decide ((c : Int) ≤ 591))) rfl rfl rfl rfl ?_
        refine r_v (Value.bool (decide ((c : Int) ≤ 591))) rfl rfl rfl rfl ?_
        refine r_v (Value.bool (decide ((c : Int) ≤ 591))) rfl rfl rfl rfl ?_
        rcases hg8 : (decide ((c : Int) ≤ 591)) with _ | _
        · replace hM := ifn (of_decide_eq_false hg8) hM
          refine r_y rfl ?_
          refine r_v (Value.int .i64 (c)) rfl rfl rfl rfl ?_
          refine r_y rfl ?_
          refine r_v (Value.bool (decide ((c : Int) ≥ 913))) rfl rfl rfl rfl ?_
          refine r_y rfl ?_
          refine r_v (Value.bool (decide ((c : Int) ≥ 913))) rfl rfl rfl rfl ?_
          rcases hg9 : (decide ((c : Int) ≥ 913)) with _ | _
          · replace hM := ifn (of_decide_eq_false hg9) hM
            refine r_n false rfl (by decide) rfl ?_
            refine r_n false rfl (by decide) rfl ?_
            refine r_y rfl ?_
            refine r_v (Value.bool (false)) rfl rfl rfl rfl ?_
            refine r_v (Value.bool (false)) rfl rfl rfl rfl ?_
            refine r_v (Value.bool (false)) rfl rfl rfl rfl ?_
            refine r_y rfl ?_
            refine r_v (Value.int .i64 (c)) rfl rfl rfl rfl ?_
            refine r_y rfl ?_
            refine r_v (Value.bool (decide ((c : Int) ≥ 1024))) rfl rfl rfl rfl ?_
            refine r_y rfl ?_
            refine r_v (Value.bool (decide ((c : Int) ≥ 1024))) rfl rfl rfl rfl ?_
            rcases hg10 : (decide ((c : Int) ≥ 1024)) with _ | _
            · replace hM := ifn (of_decide_eq_false hg10) hM
              refine r_n false rfl (by decide) rfl ?_
              refine r_n false rfl (by decide) rfl ?_
              refine r_y rfl ?_
              refine r_v (Value.bool (false)) rfl rfl rfl rfl ?_
              refine r_v (Value.bool (false)) rfl rfl rfl rfl ?_
              refine r_v (Value.bool (false)) rfl rfl rfl rfl ?_
              refine lx_nil ?_
              refine hK2 _ _ ?_; try clear hK2 K2
              obtain rfl := Option.some.inj hM
              refine A_ret (fun hn => ends_eq (v0 := Value.bool (false)) rfl (res1 rfl))
            · replace hM := ifp (of_decide_eq_true hg10) hM
              refine r_y rfl ?_
              refine r_v (Value.int .i64 (c)) rfl rfl rfl rfl ?_
              refine r_y rfl ?_
              refine r_v (Value.bool (decide ((c : Int) ≤ 1279))) rfl rfl rfl rfl ?_
              refine r_y rfl ?_
              refine r_v (Value.bool (decide ((c : Int) ≤ 1279))) rfl rfl rfl rfl ?_
              refine r_v (Value.bool (decide ((c : Int) ≤ 1279))) rfl rfl rfl rfl ?_
              refine r_v (Value.bool (decide ((c : Int) ≤ 1279))) rfl rfl rfl rfl ?_
              refine lx_nil ?_
              refine hK2 _ _ ?_; try clear hK2 K2
              obtain rfl := Option.some.inj hM
              refine A_ret (fun hn => ends_eq (v0 := Value.bool (decide ((c : Int) ≤ 1279))) rfl (res1 rfl))
          · replace hM := ifp (of_decide_eq_true hg9) hM
            refine r_y rfl ?_
            refine r_v (Value.int .i64 (c)) rfl rfl rfl rfl ?_
            refine r_y rfl ?_
            refine r_v (Value.bool (decide ((c : Int) ≤ 969))) rfl rfl rfl rfl ?_
            refine r_y rfl ?_
            refine r_v (Value.bool (decide ((c : Int) ≤ 969))) rfl rfl rfl rfl ?_
            refine r_v (Value.bool (decide ((c : Int) ≤ 969))) rfl rfl rfl rfl ?_
            refine r_v (Value.bool (decide ((c : Int) ≤ 969))) rfl rfl rfl rfl ?_
            rcases hg11 : (decide ((c : Int) ≤ 969)) with _ | _
            · replace hM := ifn (of_decide_eq_false hg11) hM
              refine r_y rfl ?_
              refine r_v (Value.int .i64 (c)) rfl rfl rfl rfl ?_
              refine r_y rfl ?_
              refine r_v (Value.bool (decide ((c : Int) ≥ 1024))) rfl rfl rfl rfl ?_
              refine r_y rfl ?_
              refine r_v (Value.bool (decide ((c : Int) ≥ 1024))) rfl rfl rfl rfl ?_
              rcases hg12 : (decide ((c : Int) ≥ 1024)) with _ | _
              · replace hM := ifn (of_decide_eq_false hg12) hM
                refine r_n false rfl (by decide) rfl ?_
                refine r_n false rfl (by decide) rfl ?_
                refine r_y rfl ?_
                refine r_v (Value.bool (false)) rfl rfl rfl rfl ?_
                refine r_v (Value.bool (false)) rfl rfl rfl rfl ?_
                refine r_v (Value.bool (false)) rfl rfl rfl rfl ?_
                refine lx_nil ?_
                refine hK2 _ _ ?_; try clear hK2 K2
                obtain rfl := Option.some.inj hM
                refine A_ret (fun hn => ends_eq (v0 := Value.bool (false)) rfl (res1 rfl))
              · replace hM := ifp (of_decide_eq_true hg12) hM
                refine r_y rfl ?_
                refine r_v (Value.int .i64 (c)) rfl rfl rfl rfl ?_
                refine r_y rfl ?_
                refine r_v (Value.bool (decide ((c : Int) ≤ 1279))) rfl rfl rfl rfl ?_
                refine r_y rfl ?_
                refine r_v (Value.bool (decide ((c : Int) ≤ 1279))) rfl rfl rfl rfl ?_
                refine r_v (Value.bool (decide ((c : Int) ≤ 1279))) rfl rfl rfl rfl ?_
                refine r_v (Value.bool (decide ((c : Int) ≤ 1279))) rfl rfl rfl rfl ?_
                refine lx_nil ?_
                refine hK2 _ _ ?_; try clear hK2 K2
                obtain rfl := Option.some.inj hM
                refine A_ret (fun hn => ends_eq (v0 := Value.bool (decide ((c : Int) ≤ 1279))) rfl (res1 rfl))
            · replace hM := ifp (of_decide_eq_true hg11) hM
              refine r_n true rfl (by decide) rfl ?_
              refine r_n true rfl (by decide) rfl ?_
              refine r_n true rfl (by decide) rfl ?_
              refine r_nu rfl rfl ?_
              refine r_nu rfl rfl ?_
              refine r_n true rfl (by decide) rfl ?_
              refine r_v (Value.bool (true)) rfl rfl rfl rfl ?_
              refine r_v (Value.bool (true)) rfl rfl rfl rfl ?_
              refine lx_nil ?_
              refine hK2 _ _ ?_; try clear hK2 K2
              obtain rfl := Option.some.inj hM
              refine A_ret (fun hn => ends_eq (v0 := Value.bool (true)) rfl (res1 rfl))
        · replace hM := ifp (of_decide_eq_true hg8) hM
          refine r_n true rfl (by decide) rfl ?_
          refine r_n true rfl (by decide) rfl ?_
          refine r_n true rfl (by decide) rfl ?_
          refine r_nu rfl rfl ?_
          refine r_nu rfl rfl ?_
          refine r_n true rfl (by decide) rfl ?_
          refine r_v (Value.bool (true)) rfl rfl rfl rfl ?_
          refine r_v (Value.bool (true)) rfl rfl rfl rfl ?_
          refine r_n true rfl (by decide) rfl ?_
          refine r_n true rfl (by decide) rfl ?_
          refine r_n true rfl (by decide) rfl ?_
          refine r_nu rfl rfl ?_
          refine r_nu rfl rfl ?_
          refine r_n true rfl (by decide) rfl ?_
          refine r_v (Value.bool (true)) rfl rfl rfl rfl ?_
          refine r_v (Value.bool (true)) rfl rfl rfl rfl ?_
          refine lx_nil ?_
          refine hK2 _ _ ?_; try clear hK2 K2
          obtain rfl := Option.some.inj hM
          refine A_ret (fun hn => ends_eq (v0 := Value.bool (true)) rfl (res1 rfl))
def shunterref05_May_l3 (N : Nat) (r3 : List Int) : Nat → Int → Option (Bool)
  | 0, _ => none
  | n10 + 1, i2_ => if (i2_ : Int) < ((r3).length : Int) then ck (0 ≤ i2_ ∧ i2_ < ((r3).length : Int)) ((shunterref05_Letter_m N ((r3)[(i2_).toNat]!)).bind fun r17 => if (r17) = true then ck ((-9223372036854775808 ≤ (i2_ + 1) ∧ (i2_ + 1) ≤ 9223372036854775807)) ((shunterref05_May_l3 N r3 n10) ((i2_ + 1))) else ck (0 ≤ i2_ ∧ i2_ < ((r3).length : Int)) (if ((r3)[(i2_).toNat]! : Int) ≥ 48 then ck (0 ≤ i2_ ∧ i2_ < ((r3).length : Int)) (if ((r3)[(i2_).toNat]! : Int) ≤ 57 then ck ((-9223372036854775808 ≤ (i2_ + 1) ∧ (i2_ + 1) ≤ 9223372036854775807)) ((shunterref05_May_l3 N r3 n10) ((i2_ + 1))) else ck (0 ≤ i2_ ∧ i2_ < ((r3).length : Int)) (if ((r3)[(i2_).toNat]! : Int) ≠ 45 then ck (0 ≤ i2_ ∧ i2_ < ((r3).length : Int)) (if ((r3)[(i2_).toNat]! : Int) ≠ 46 then some (false) else ck ((-9223372036854775808 ≤ (i2_ + 1) ∧ (i2_ + 1) ≤ 9223372036854775807)) ((shunterref05_May_l3 N r3 n10) ((i2_ + 1)))) else ck ((-9223372036854775808 ≤ (i2_ + 1) ∧ (i2_ + 1) ≤ 9223372036854775807)) ((shunterref05_May_l3 N r3 n10) ((i2_ + 1))))) else ck (0 ≤ i2_ ∧ i2_ < ((r3).length : Int)) (if ((r3)[(i2_).toNat]! : Int) ≠ 45 then ck (0 ≤ i2_ ∧ i2_ < ((r3).length : Int)) (if ((r3)[(i2_).toNat]! : Int) ≠ 46 then some (false) else ck ((-9223372036854775808 ≤ (i2_ + 1) ∧ (i2_ + 1) ≤ 9223372036854775807)) ((shunterref05_May_l3 N r3 n10) ((i2_ + 1)))) else ck ((-9223372036854775808 ≤ (i2_ + 1) ∧ (i2_ + 1) ≤ 9223372036854775807)) ((shunterref05_May_l3 N r3 n10) ((i2_ + 1)))))) else some (true)
def shunterref05_May_k1 (N : Nat) (r3 : List Int) : Option (Bool) := shunterref05_May_l3 N r3 N (0)
def shunterref05_May_m (N : Nat) (s : List UInt8) : Option (Bool) := (shunterref05_Runes_m N s).bind fun r3 => if (((r3).length : Int) : Int) < 1 then some (false) else if (((r3).length : Int) : Int) > 24 then some (false) else ck (0 ≤ (0 : Int) ∧ (0 : Int) < ((r3).length : Int)) ((shunterref05_Letter_m N ((r3)[((0 : Int)).toNat]!)).bind fun r45 => if (r45) = true then shunterref05_May_k1 N r3  else some (false))
set_option maxRecDepth 100000 in
set_option maxHeartbeats 8000000 in
theorem shunterref05_May_g (N : Nat) (s : List UInt8) (r : Bool) (hM : shunterref05_May_m N s = some r) : Gives Try.prog 18 #[Value.string (⟨(s).toArray⟩)] (Value.bool (r)) := by
  unfold shunterref05_May_m at hM
  refine gives_of_A follows Try.func18 rfl 63 rfl (upd (fun _ => undef) 0 (Value.string (⟨(s).toArray⟩))) (by funext k; match k with | 0 => rfl | k + 1 => rfl) (fun base0_ => ?_)
  refine A_seq fun K1 hK1 => ?_
  refine A_reg ?_
  refine r_v (Value.bool (false)) rfl rfl rfl rfl ?_
  refine lx_nil ?_
  refine hK1 _ _ ?_; try clear hK1 K1
  refine A_seq fun K2 hK2 => ?_
  refine A_regC [(some 6, false)] (conG Try.prog [(6, fun _ _ v_ L_ U_ => ∀ u0_, shunterref05_Runes_m N s = some u0_ → (p1 (fun s_ => s_) 3 encI (u0_)) v_ L_ U_)]) ?_
  refine r_v (Value.string (⟨(s).toArray⟩)) rfl rfl rfl rfl ?_
  replace hM := bind_sm hM; obtain ⟨r3, hr4, hM⟩ := hM
  refine r_g1 (Ls := []) (fun s5 => s5) 3 encI (r3) 45 _ rfl rfl rfl (ev_callF rfl call_45 rfl) (fun own_ nw_ hs_ => shunterref05_Runes_g N s _ hr4 hs_.view ) (fun _ _ v_ L_ U_ => ⟨fun h_ => h_ _ hr4, fun h_ => by intro _ e_; cases Option.some.inj (e_.symm.trans hr4); exact h_⟩) (fun s5 S6 H7 => ?_)
  refine r_v (s5) rfl rfl rfl rfl ?_
  refine lx_nil ?_
  refine hK2 _ _ ?_; try clear hK2 K2
  refine A_cut (fun tt ll => (shunterref05_May_k1 N r3  = some r) ∧ Is [(3, s5)] (List.flatten [S6]) tt ll) ?_ ?_
  · refine A_seq fun K41 hK41 => ?_
    refine A_reg ?_
    refine r_v (s5) rfl rfl rfl rfl ?_
    refine r_v (Value.int .i64 (((r3).length : Int))) rfl rfl rfl (ev_lenSl rfl rfl rfl (Sl.shp H7)) ?_
    refine r_v (Value.bool (decide ((((r3).length : Int) : Int) < 1))) rfl rfl rfl rfl ?_
    refine r_v (Value.bool (decide ((((r3).length : Int) : Int) < 1))) rfl rfl rfl rfl ?_
    rcases hg42 : (decide ((((r3).length : Int) : Int) < 1)) with _ | _
    · replace hM := ifn (of_decide_eq_false hg42) hM
      refine r_y rfl ?_
      refine r_v (s5) rfl rfl rfl rfl ?_
      refine r_y rfl ?_
      refine r_v (Value.int .i64 (((r3).length : Int))) rfl rfl rfl (ev_lenSl rfl rfl rfl (Sl.shp H7)) ?_
      refine r_y rfl ?_
      refine r_v (Value.bool (decide ((((r3).length : Int) : Int) > 24))) rfl rfl rfl rfl ?_
      refine r_v (Value.bool (decide ((((r3).length : Int) : Int) > 24))) rfl rfl rfl rfl ?_
      refine r_v (Value.bool (decide ((((r3).length : Int) : Int) > 24))) rfl rfl rfl rfl ?_
      rcases hg43 : (decide ((((r3).length : Int) : Int) > 24)) with _ | _
      · replace hM := ifn (of_decide_eq_false hg43) hM
        refine r_y rfl ?_
        refine r_v (s5) rfl rfl rfl rfl ?_
        refine r_y rfl ?_
        replace hM := ck_some hM; obtain ⟨ck44, hM⟩ := hM
        refine r_v (elA s5 (((0 : Int)).toNat * 1)) rfl rfl rfl (ev_v (ev_idxSl rfl rfl rfl (Sl.shp H7) ck44)) ?_
        refine r_y rfl ?_
        refine r_le (Value.int .i64 ((r3)[((0 : Int)).toNat]!)) (En := encI) ((r3)[((0 : Int)).toNat]!) (((0 : Int)).toNat) 0 rfl rfl (rd_own H7 (mem_chunk (Ls := [S6]) (k := 0) rfl rfl)) (get_of ck44) rfl ?_
        refine r_y rfl ?_
        replace hM := bind_sm hM; obtain ⟨r45, hr46, hM⟩ := hM
        refine r_c (Value.bool (r45)) rfl _ _ (ev_callF rfl call_46 rfl) (shunterref05_Letter_g N ((r3)[((0 : Int)).toNat]!) _ hr46) ?_
        refine r_y rfl ?_
        refine r_v (Value.bool (!(r45))) rfl rfl rfl rfl ?_
        refine r_v (Value.bool (!(r45))) rfl rfl rfl rfl ?_
        refine lx_nil ?_
        refine hK41 _ _ ?_; try clear hK41 K41
        refine A_cond (!(r45)) rfl (fun hc47 => ?_) (fun hc47 => ?_)
        · replace hM := ifn (Bool.eq_false_iff.1 (not_t hc47)) hM
          refine A_seq fun K48 hK48 => ?_
          refine A_reg ?_
          refine r_v (Value.bool (false)) rfl rfl rfl rfl ?_
          refine lx_nil ?_
          refine hK48 _ _ ?_; try clear hK48 K48
          obtain rfl := Option.some.inj hM
          refine A_ret (fun hn => ends_eq (v0 := Value.bool (false)) rfl (res1 rfl))
        · replace hM := ifp (not_f hc47) hM
          refine A_skip ?_
          refine fg _ (Sub.pick [S6] [0] rfl) ?_
          exact ⟨hM, is_mk rfl rfl⟩
      · replace hM := ifp (of_decide_eq_true hg43) hM
        refine r_n true rfl (by decide) rfl ?_
        refine r_n true rfl (by decide) rfl ?_
        refine r_n true rfl (by decide) rfl ?_
        refine r_n true rfl (by decide) rfl ?_
        refine r_n true rfl (by decide) rfl ?_
        refine r_v (Value.bool (true)) rfl rfl rfl rfl ?_
        refine lx_nil ?_
        refine hK41 _ _ ?_; try clear hK41 K41
        refine A_cond true rfl (fun _ => ?_) (fun h_ => nomatch h_)
        refine A_seq fun K49 hK49 => ?_
        refine A_reg ?_
        refine r_v (Value.bool (false)) rfl rfl rfl rfl ?_
        refine lx_nil ?_
        refine hK49 _ _ ?_; try clear hK49 K49
        obtain rfl := Option.some.inj hM
        refine A_ret (fun hn => ends_eq (v0 := Value.bool (false)) rfl (res1 rfl))
    · replace hM := ifp (of_decide_eq_true hg42) hM
      refine r_n true rfl (by decide) rfl ?_
      refine r_n true rfl (by decide) rfl ?_
      refine r_n true rfl (by decide) rfl ?_
      refine r_v (Value.bool (true)) rfl rfl rfl rfl ?_
      refine r_v (Value.bool (true)) rfl rfl rfl rfl ?_
      refine r_n true rfl (by decide) rfl ?_
      refine r_n true rfl (by decide) rfl ?_
      refine r_n true rfl (by decide) rfl ?_
      refine r_n true rfl (by decide) rfl ?_
      refine r_n true rfl (by decide) rfl ?_
      refine r_v (Value.bool (true)) rfl rfl rfl rfl ?_
      refine lx_nil ?_
      refine hK41 _ _ ?_; try clear hK41 K41
      refine A_cond true rfl (fun _ => ?_) (fun h_ => nomatch h_)
      refine A_seq fun K50 hK50 => ?_
      refine A_reg ?_
      refine r_v (Value.bool (false)) rfl rfl rfl rfl ?_
      refine lx_nil ?_
      refine hK50 _ _ ?_; try clear hK50 K50
      obtain rfl := Option.some.inj hM
      refine A_ret (fun hn => ends_eq (v0 := Value.bool (false)) rfl (res1 rfl))
  · clear hM; rintro t l ⟨hM, ⟨T, rfl⟩, rfl⟩
    unfold shunterref05_May_k1 at hM
    refine A_seq fun K8 hK8 => ?_
    refine A_seq fun K9 hK9 => ?_
    refine A_reg ?_
    refine r_v (Value.int .i64 (0)) rfl rfl rfl rfl ?_
    refine lx_nil ?_
    refine hK9 _ _ ?_; try clear hK9 K9
    refine A_block ?_
    refine A_forget _ (Sub.pick [S6] [0] rfl) ?_
    refine A_loop (fun tt ll nn => ∃ (n10 : Nat) (i2_ : Int), (shunterref05_May_l3 N r3 n10 i2_ = some r) ∧ Is [(3, s5), (4, Value.int .i64 (i2_))] (List.flatten [S6]) tt ll ∧ nn = n10 + 1) (N + 1) ?_ ?_
    · exact ⟨N, 0, hM, is_mk rfl rfl, rfl⟩
    · clear hM; rintro t l _ ⟨n10, i2_, hM, ⟨⟨T, rfl⟩, rfl⟩, rfl⟩
      rcases n10 with _ | n10
      · exact absurd hM (by simp [shunterref05_May_l3])
      rw [shunterref05_May_l3] at hM
      refine A_seq fun K11 hK11 => ?_
      refine A_seq fun K12 hK12 => ?_
      refine A_reg ?_
      refine r_v (Value.int .i64 (i2_)) rfl rfl rfl rfl ?_
      refine r_v (s5) rfl rfl rfl rfl ?_
      refine r_v (Value.int .i64 (((r3).length : Int))) rfl rfl rfl (ev_lenSl rfl rfl rfl (Sl.shp H7)) ?_
      refine r_v (Value.bool (decide ((i2_ : Int) < ((r3).length : Int)))) rfl rfl rfl rfl ?_
      refine lx_nil ?_
      refine hK12 _ _ ?_; try clear hK12 K12
      refine A_cond (decide ((i2_ : Int) < ((r3).length : Int))) rfl (fun hc13 => ?_) (fun hc13 => ?_)
      · replace hM := ifp (of_decide_eq_true hc13) hM
        refine A_skip ?_
        refine hK11 _ _ ?_; try clear hK11 K11
        refine A_seq fun K14 hK14 => ?_
        refine A_block ?_
        refine A_seq fun K15 hK15 => ?_
        refine A_reg ?_
        refine r_v (s5) rfl rfl rfl rfl ?_
        refine r_v (Value.int .i64 (i2_)) rfl rfl rfl rfl ?_
        replace hM := ck_some hM; obtain ⟨ck16, hM⟩ := hM
        refine r_v (elA s5 ((i2_).toNat * 1)) rfl rfl rfl (ev_v (ev_idxSl rfl rfl rfl (Sl.shp H7) ck16)) ?_
        refine r_le (Value.int .i64 ((r3)[(i2_).toNat]!)) (En := encI) ((r3)[(i2_).toNat]!) ((i2_).toNat) 0 rfl rfl (rd_own H7 (mem_chunk (Ls := [S6]) (k := 0) rfl rfl)) (get_of ck16) rfl ?_
        replace hM := bind_sm hM; obtain ⟨r17, hr18, hM⟩ := hM
        refine r_c (Value.bool (r17)) rfl _ _ (ev_callF rfl call_46 rfl) (shunterref05_Letter_g N ((r3)[(i2_).toNat]!) _ hr18) ?_
        refine r_v (Value.bool (!(r17))) rfl rfl rfl rfl ?_
        refine r_v (Value.bool (!(r17))) rfl rfl rfl rfl ?_
        rcases hg19 : (!(r17)) with _ | _
        · replace hM := ifp (not_f hg19) hM
          refine r_n false rfl (by decide) rfl ?_
          refine r_n false rfl (by decide) rfl ?_
          refine r_n false rfl (by decide) rfl ?_
          refine r_n false rfl (by decide) rfl ?_
          refine r_n false rfl (by decide) rfl ?_
          refine r_n false rfl (by decide) rfl ?_
          refine r_nu rfl rfl ?_
          refine r_nu rfl rfl ?_
          refine r_nu rfl rfl ?_
          refine r_nu rfl rfl ?_
          refine r_nu rfl rfl ?_
          refine r_n false rfl (by decide) rfl ?_
          refine r_n false rfl (by decide) rfl ?_
          refine r_v (Value.bool (false)) rfl rfl rfl rfl ?_
          refine r_v (Value.bool (false)) rfl rfl rfl rfl ?_
          refine r_n false rfl (by decide) rfl ?_
          refine r_n false rfl (by decide) rfl ?_
          refine r_n false rfl (by decide) rfl ?_
          refine r_n false rfl (by decide) rfl ?_
          refine r_n false rfl (by decide) rfl ?_
          refine r_v (Value.bool (false)) rfl rfl rfl rfl ?_
          refine r_v (Value.bool (false)) rfl rfl rfl rfl ?_
          refine r_n false rfl (by decide) rfl ?_
          refine r_n false rfl (by decide) rfl ?_
          refine r_n false rfl (by decide) rfl ?_
          refine r_n false rfl (by decide) rfl ?_
          refine r_n false rfl (by decide) rfl ?_
          refine r_v (Value.bool (false)) rfl rfl rfl rfl ?_
          refine lx_nil ?_
          refine hK15 _ _ ?_; try clear hK15 K15
          refine A_gen [(3, s5), (4, Value.int .i64 (i2_)), (62, Value.bool (false))] rfl (fun T => ?_)
          refine A_cond false rfl (fun h_ => nomatch h_) (fun _ => ?_)
          refine A_skip ?_
          refine hK14 _ _ ?_; try clear hK14 K14
          refine A_reg ?_
          refine r_v (Value.int .i64 (i2_)) rfl rfl rfl rfl ?_
          replace hM := ck_some hM; obtain ⟨ck20, hM⟩ := hM
          refine r_v (Value.int .i64 ((i2_ + 1))) rfl rfl (wi64 rfl ck20.1 ck20.2) rfl ?_
          refine r_v (Value.int .i64 ((i2_ + 1))) rfl rfl rfl rfl ?_
          refine lx_nil ?_
          refine fg _ (Sub.pick [S6] [0] rfl) ?_
          exact ⟨n10 + 1, by omega, n10, (i2_ + 1), hM, is_mk (by first | rfl | (simp only [hg19]; done) | (simp only [hg19]; rfl) | (simp only [app_hl]; rfl)) rfl, rfl⟩
        · replace hM := ifn (Bool.eq_false_iff.1 (not_t hg19)) hM
          refine r_y rfl ?_
          refine r_v (s5) rfl rfl rfl rfl ?_
          refine r_y rfl ?_
          refine r_v (Value.int .i64 (i2_)) rfl rfl rfl rfl ?_
          refine r_y rfl ?_
          replace hM := ck_some hM; obtain ⟨ck21, hM⟩ := hM
          refine r_v (elA s5 ((i2_).toNat * 1)) rfl rfl rfl (ev_v (ev_idxSl rfl rfl rfl (Sl.shp H7) ck21)) ?_
          refine r_y rfl ?_
          refine r_le (Value.int .i64 ((r3)[(i2_).toNat]!)) (En := encI) ((r3)[(i2_).toNat]!) ((i2_).toNat) 0 rfl rfl (rd_own H7 (mem_chunk (Ls := [S6]) (k := 0) rfl rfl)) (get_of ck21) rfl ?_
          refine r_y rfl ?_
          refine r_v (Value.bool (decide (((r3)[(i2_).toNat]! : Int) ≥ 48))) rfl rfl rfl rfl ?_
          refine r_y rfl ?_
          refine r_v (Value.bool (decide (((r3)[(i2_).toNat]! : Int) ≥ 48))) rfl rfl rfl rfl ?_
          rcases hg22 : (decide (((r3)[(i2_).toNat]! : Int) ≥ 48)) with _ | _
          · replace hM := ifn (of_decide_eq_false hg22) hM
            refine r_n false rfl (by decide) rfl ?_
            refine r_n false rfl (by decide) rfl ?_
            refine r_n false rfl (by decide) rfl ?_
            refine r_n false rfl (by decide) rfl ?_
            refine r_n false rfl (by decide) rfl ?_
            refine r_y rfl ?_
            refine r_v (Value.bool (false)) rfl rfl rfl rfl ?_
            refine r_y rfl ?_
            refine r_v (Value.bool (true)) rfl rfl rfl rfl ?_
            refine r_v (Value.bool (true)) rfl rfl rfl rfl ?_
            refine r_v (Value.bool (true)) rfl rfl rfl rfl ?_
            refine r_y rfl ?_
            refine r_v (s5) rfl rfl rfl rfl ?_
            refine r_y rfl ?_
            refine r_v (Value.int .i64 (i2_)) rfl rfl rfl rfl ?_
            refine r_y rfl ?_
            replace hM := ck_some hM; obtain ⟨ck23, hM⟩ := hM
            refine r_v (elA s5 ((i2_).toNat * 1)) rfl rfl rfl (ev_v (ev_idxSl rfl rfl rfl (Sl.shp H7) ck23)) ?_
            refine r_y rfl ?_
            refine r_le (Value.int .i64 ((r3)[(i2_).toNat]!)) (En := encI) ((r3)[(i2_).toNat]!) ((i2_).toNat) 0 rfl rfl (rd_own H7 (mem_chunk (Ls := [S6]) (k := 0) rfl rfl)) (get_of ck23) rfl ?_
            refine r_y rfl ?_
            refine r_v (Value.bool ((((r3)[(i2_).toNat]! : Int) != 45))) rfl rfl rfl rfl ?_
            refine r_v (Value.bool ((((r3)[(i2_).toNat]! : Int) != 45))) rfl rfl rfl rfl ?_
            refine r_v (Value.bool ((((r3)[(i2_).toNat]! : Int) != 45))) rfl rfl rfl rfl ?_
            rcases hg24 : ((((r3)[(i2_).toNat]! : Int) != 45)) with _ | _
            · replace hM := ifn (bne_f hg24) hM
              refine r_n false rfl (by decide) rfl ?_
              refine r_n false rfl (by decide) rfl ?_
              refine r_n false rfl (by decide) rfl ?_
              refine r_n false rfl (by decide) rfl ?_
              refine r_n false rfl (by decide) rfl ?_
              refine r_v (Value.bool (false)) rfl rfl rfl rfl ?_
              refine lx_nil ?_
              refine hK15 _ _ ?_; try clear hK15 K15
              refine A_gen [(3, s5), (4, Value.int .i64 (i2_)), (62, Value.bool (false))] rfl (fun T => ?_)
              refine A_cond false rfl (fun h_ => nomatch h_) (fun _ => ?_)
              refine A_skip ?_
              refine hK14 _ _ ?_; try clear hK14 K14
              refine A_reg ?_
              refine r_v (Value.int .i64 (i2_)) rfl rfl rfl rfl ?_
              replace hM := ck_some hM; obtain ⟨ck25, hM⟩ := hM
              refine r_v (Value.int .i64 ((i2_ + 1))) rfl rfl (wi64 rfl ck25.1 ck25.2) rfl ?_
              refine r_v (Value.int .i64 ((i2_ + 1))) rfl rfl rfl rfl ?_
              refine lx_nil ?_
              refine fg _ (Sub.pick [S6] [0] rfl) ?_
              exact ⟨n10 + 1, by omega, n10, (i2_ + 1), hM, is_mk (by first | rfl | (simp only [hg19, hg22, hg24]; done) | (simp only [hg19, hg22, hg24]; rfl) | (simp only [app_hl]; rfl)) rfl, rfl⟩
            · replace hM := ifp (bne_iff_ne.1 hg24) hM
              refine r_y rfl ?_
              refine r_v (s5) rfl rfl rfl rfl ?_
              refine r_y rfl ?_
              refine r_v (Value.int .i64 (i2_)) rfl rfl rfl rfl ?_
              refine r_y rfl ?_
              replace hM := ck_some hM; obtain ⟨ck26, hM⟩ := hM
              refine r_v (elA s5 ((i2_).toNat * 1)) rfl rfl rfl (ev_v (ev_idxSl rfl rfl rfl (Sl.shp H7) ck26)) ?_
              refine r_y rfl ?_
              refine r_le (Value.int .i64 ((r3)[(i2_).toNat]!)) (En := encI) ((r3)[(i2_).toNat]!) ((i2_).toNat) 0 rfl rfl (rd_own H7 (mem_chunk (Ls := [S6]) (k := 0) rfl rfl)) (get_of ck26) rfl ?_
              refine r_y rfl ?_
              refine r_v (Value.bool ((((r3)[(i2_).toNat]! : Int) != 46))) rfl rfl rfl rfl ?_
              refine r_v (Value.bool ((((r3)[(i2_).toNat]! : Int) != 46))) rfl rfl rfl rfl ?_
              refine lx_nil ?_
              refine hK15 _ _ ?_; try clear hK15 K15
              refine A_gen [(3, s5), (4, Value.int .i64 (i2_)), (62, Value.bool ((((r3)[(i2_).toNat]! : Int) != 46)))] rfl (fun T => ?_)
              refine A_cond ((((r3)[(i2_).toNat]! : Int) != 46)) rfl (fun hc27 => ?_) (fun hc27 => ?_)
              · replace hM := ifp (bne_iff_ne.1 hc27) hM
                refine A_seq fun K28 hK28 => ?_
                refine A_reg ?_
                refine r_v (Value.bool (false)) rfl rfl rfl rfl ?_
                refine lx_nil ?_
                refine hK28 _ _ ?_; try clear hK28 K28
                obtain rfl := Option.some.inj hM
                refine A_ret (fun hn => ends_eq (v0 := Value.bool (false)) rfl (res1 rfl))
              · replace hM := ifn (bne_f hc27) hM
                refine A_skip ?_
                refine hK14 _ _ ?_; try clear hK14 K14
                refine A_reg ?_
                refine r_v (Value.int .i64 (i2_)) rfl rfl rfl rfl ?_
                replace hM := ck_some hM; obtain ⟨ck29, hM⟩ := hM
                refine r_v (Value.int .i64 ((i2_ + 1))) rfl rfl (wi64 rfl ck29.1 ck29.2) rfl ?_
                refine r_v (Value.int .i64 ((i2_ + 1))) rfl rfl rfl rfl ?_
                refine lx_nil ?_
                refine fg _ (Sub.pick [S6] [0] rfl) ?_
                exact ⟨n10 + 1, by omega, n10, (i2_ + 1), hM, is_mk (by first | rfl | (simp only [hg19, hg22, hg24]; done) | (simp only [hg19, hg22, hg24]; rfl) | (simp only [app_hl]; rfl)) rfl, rfl⟩
          · replace hM := ifp (of_decide_eq_true hg22) hM
            refine r_y rfl ?_
            refine r_v (s5) rfl rfl rfl rfl ?_
            refine r_y rfl ?_
            refine r_v (Value.int .i64 (i2_)) rfl rfl rfl rfl ?_
            refine r_y rfl ?_
            replace hM := ck_some hM; obtain ⟨ck30, hM⟩ := hM
            refine r_v (elA s5 ((i2_).toNat * 1)) rfl rfl rfl (ev_v (ev_idxSl rfl rfl rfl (Sl.shp H7) ck30)) ?_
            refine r_y rfl ?_
            refine r_le (Value.int .i64 ((r3)[(i2_).toNat]!)) (En := encI) ((r3)[(i2_).toNat]!) ((i2_).toNat) 0 rfl rfl (rd_own H7 (mem_chunk (Ls := [S6]) (k := 0) rfl rfl)) (get_of ck30) rfl ?_
            refine r_y rfl ?_
            refine r_v (Value.bool (decide (((r3)[(i2_).toNat]! : Int) ≤ 57))) rfl rfl rfl rfl ?_
            refine r_y rfl ?_
            refine r_v (Value.bool (decide (((r3)[(i2_).toNat]! : Int) ≤ 57))) rfl rfl rfl rfl ?_
            refine r_y rfl ?_
            refine r_v (Value.bool (!(decide (((r3)[(i2_).toNat]! : Int) ≤ 57)))) rfl rfl rfl rfl ?_
            refine r_v (Value.bool (!(decide (((r3)[(i2_).toNat]! : Int) ≤ 57)))) rfl rfl rfl rfl ?_
            refine r_v (Value.bool (!(decide (((r3)[(i2_).toNat]! : Int) ≤ 57)))) rfl rfl rfl rfl ?_
            rcases hg31 : (!(decide (((r3)[(i2_).toNat]! : Int) ≤ 57))) with _ | _
            · replace hM := ifp (of_decide_eq_true (not_f hg31)) hM
              refine r_n false rfl (by decide) rfl ?_
              refine r_n false rfl (by decide) rfl ?_
              refine r_n false rfl (by decide) rfl ?_
              refine r_n false rfl (by decide) rfl ?_
              refine r_n false rfl (by decide) rfl ?_
              refine r_v (Value.bool (false)) rfl rfl rfl rfl ?_
              refine r_v (Value.bool (false)) rfl rfl rfl rfl ?_
              refine r_n false rfl (by decide) rfl ?_
              refine r_n false rfl (by decide) rfl ?_
              refine r_n false rfl (by decide) rfl ?_
              refine r_n false rfl (by decide) rfl ?_
              refine r_n false rfl (by decide) rfl ?_
              refine r_v (Value.bool (false)) rfl rfl rfl rfl ?_
              refine lx_nil ?_
              refine hK15 _ _ ?_; try clear hK15 K15
              refine A_gen [(3, s5), (4, Value.int .i64 (i2_)), (62, Value.bool (false))] rfl (fun T => ?_)
              refine A_cond false rfl (fun h_ => nomatch h_) (fun _ => ?_)
              refine A_skip ?_
              refine hK14 _ _ ?_; try clear hK14 K14
              refine A_reg ?_
              refine r_v (Value.int .i64 (i2_)) rfl rfl rfl rfl ?_
              replace hM := ck_some hM; obtain ⟨ck32, hM⟩ := hM
              refine r_v (Value.int .i64 ((i2_ + 1))) rfl rfl (wi64 rfl ck32.1 ck32.2) rfl ?_
              refine r_v (Value.int .i64 ((i2_ + 1))) rfl rfl rfl rfl ?_
              refine lx_nil ?_
              refine fg _ (Sub.pick [S6] [0] rfl) ?_
              exact ⟨n10 + 1, by omega, n10, (i2_ + 1), hM, is_mk (by first | rfl | (simp only [hg19, hg22, hg31]; done) | (simp only [hg19, hg22, hg31]; rfl) | (simp only [app_hl]; rfl)) rfl, rfl⟩
            · replace hM := ifn (of_decide_eq_false (not_t hg31)) hM
              refine r_y rfl ?_
              refine r_v (s5) rfl rfl rfl rfl ?_
              refine r_y rfl ?_
              refine r_v (Value.int .i64 (i2_)) rfl rfl rfl rfl ?_
              refine r_y rfl ?_
              replace hM := ck_some hM; obtain ⟨ck33, hM⟩ := hM
              refine r_v (elA s5 ((i2_).toNat * 1)) rfl rfl rfl (ev_v (ev_idxSl rfl rfl rfl (Sl.shp H7) ck33)) ?_
              refine r_y rfl ?_
              refine r_le (Value.int .i64 ((r3)[(i2_).toNat]!)) (En := encI) ((r3)[(i2_).toNat]!) ((i2_).toNat) 0 rfl rfl (rd_own H7 (mem_chunk (Ls := [S6]) (k := 0) rfl rfl)) (get_of ck33) rfl ?_
              refine r_y rfl ?_
              refine r_v (Value.bool ((((r3)[(i2_).toNat]! : Int) != 45))) rfl rfl rfl rfl ?_
              refine r_v (Value.bool ((((r3)[(i2_).toNat]! : Int) != 45))) rfl rfl rfl rfl ?_
              refine r_v (Value.bool ((((r3)[(i2_).toNat]! : Int) != 45))) rfl rfl rfl rfl ?_
              rcases hg34 : ((((r3)[(i2_).toNat]! : Int) != 45)) with _ | _
              · replace hM := ifn (bne_f hg34) hM
                refine r_n false rfl (by decide) rfl ?_
                refine r_n false rfl (by decide) rfl ?_
                refine r_n false rfl (by decide) rfl ?_
                refine r_n false rfl (by decide) rfl ?_
                refine r_n false rfl (by decide) rfl ?_
                refine r_v (Value.bool (false)) rfl rfl rfl rfl ?_
                refine lx_nil ?_
                refine hK15 _ _ ?_; try clear hK15 K15
                refine A_gen [(3, s5), (4, Value.int .i64 (i2_)), (62, Value.bool (false))] rfl (fun T => ?_)
                refine A_cond false rfl (fun h_ => nomatch h_) (fun _ => ?_)
                refine A_skip ?_
                refine hK14 _ _ ?_; try clear hK14 K14
                refine A_reg ?_
                refine r_v (Value.int .i64 (i2_)) rfl rfl rfl rfl ?_
                replace hM := ck_some hM; obtain ⟨ck35, hM⟩ := hM
                refine r_v (Value.int .i64 ((i2_ + 1))) rfl rfl (wi64 rfl ck35.1 ck35.2) rfl ?_
                refine r_v (Value.int .i64 ((i2_ + 1))) rfl rfl rfl rfl ?_
                refine lx_nil ?_
                refine fg _ (Sub.pick [S6] [0] rfl) ?_
                exact ⟨n10 + 1, by omega, n10, (i2_ + 1), hM, is_mk (by first | rfl | (simp only [hg19, hg22, hg31, hg34]; done) | (simp only [hg19, hg22, hg31, hg34]; rfl) | (simp only [app_hl]; rfl)) rfl, rfl⟩
              · replace hM := ifp (bne_iff_ne.1 hg34) hM
                refine r_y rfl ?_
                refine r_v (s5) rfl rfl rfl rfl ?_
                refine r_y rfl ?_
                refine r_v (Value.int .i64 (i2_)) rfl rfl rfl rfl ?_
                refine r_y rfl ?_
                replace hM := ck_some hM; obtain ⟨ck36, hM⟩ := hM
                refine r_v (elA s5 ((i2_).toNat * 1)) rfl rfl rfl (ev_v (ev_idxSl rfl rfl rfl (Sl.shp H7) ck36)) ?_
                refine r_y rfl ?_
                refine r_le (Value.int .i64 ((r3)[(i2_).toNat]!)) (En := encI) ((r3)[(i2_).toNat]!) ((i2_).toNat) 0 rfl rfl (rd_own H7 (mem_chunk (Ls := [S6]) (k := 0) rfl rfl)) (get_of ck36) rfl ?_
                refine r_y rfl ?_
                refine r_v (Value.bool ((((r3)[(i2_).toNat]! : Int) != 46))) rfl rfl rfl rfl ?_
                refine r_v (Value.bool ((((r3)[(i2_).toNat]! : Int) != 46))) rfl rfl rfl rfl ?_
                refine lx_nil ?_
                refine hK15 _ _ ?_; try clear hK15 K15
                refine A_gen [(3, s5), (4, Value.int .i64 (i2_)), (62, Value.bool ((((r3)[(i2_).toNat]! : Int) != 46)))] rfl (fun T => ?_)
                refine A_cond ((((r3)[(i2_).toNat]! : Int) != 46)) rfl (fun hc37 => ?_) (fun hc37 => ?_)
                · replace hM := ifp (bne_iff_ne.1 hc37) hM
                  refine A_seq fun K38 hK38 => ?_
                  refine A_reg ?_
                  refine r_v (Value.bool (false)) rfl rfl rfl rfl ?_
                  refine lx_nil ?_
                  refine hK38 _ _ ?_; try clear hK38 K38
                  obtain rfl := Option.some.inj hM
                  refine A_ret (fun hn => ends_eq (v0 := Value.bool (false)) rfl (res1 rfl))
                · replace hM := ifn (bne_f hc37) hM
                  refine A_skip ?_
                  refine hK14 _ _ ?_; try clear hK14 K14
                  refine A_reg ?_
                  refine r_v (Value.int .i64 (i2_)) rfl rfl rfl rfl ?_
                  replace hM := ck_some hM; obtain ⟨ck39, hM⟩ := hM
                  refine r_v (Value.int .i64 ((i2_ + 1))) rfl rfl (wi64 rfl ck39.1 ck39.2) rfl ?_
                  refine r_v (Value.int .i64 ((i2_ + 1))) rfl rfl rfl rfl ?_
                  refine lx_nil ?_
                  refine fg _ (Sub.pick [S6] [0] rfl) ?_
                  exact ⟨n10 + 1, by omega, n10, (i2_ + 1), hM, is_mk (by first | rfl | (simp only [hg19, hg22, hg31, hg34]; done) | (simp only [hg19, hg22, hg31, hg34]; rfl) | (simp only [app_hl]; rfl)) rfl, rfl⟩
      · replace hM := ifn (of_decide_eq_false hc13) hM
        refine A_exit ?_
        refine hK8 _ _ ?_; try clear hK8 K8
        refine A_seq fun K40 hK40 => ?_
        refine A_reg ?_
        refine r_v (Value.bool (true)) rfl rfl rfl rfl ?_
        refine lx_nil ?_
        refine hK40 _ _ ?_; try clear hK40 K40
        obtain rfl := Option.some.inj hM
        refine A_ret (fun hn => ends_eq (v0 := Value.bool (true)) rfl (res1 rfl))
end Go.Proofs.Ytdgejbbelmhbdaa
