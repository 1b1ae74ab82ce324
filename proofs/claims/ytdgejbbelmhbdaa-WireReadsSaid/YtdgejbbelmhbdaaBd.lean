/- models of functions and their walks -/
import Derived.Test.YtdgejbbelmhbdaaBc
namespace Go.Proofs.Ytdgejbbelmhbdaa
open Go Go.RowKit Go.Eng
def shunterref05_Runes_l3 (N : Nat) : Nat → List UInt8 → List Int → Option (List Int)
  | 0, _, _ => none
  | n4 + 1, s1_, l2_ => if (((s1_).length : Int) : Int) > 0 then (shunterref05_First_m N s1_).bind fun r9 => ck ((l2_).length + ([r9.1]).length ≤ 17592186044416) (ck (0 ≤ r9.2 ∧ r9.2 ≤ ((s1_).length : Int)) ((shunterref05_Runes_l3 N n4) ((s1_).drop (r9.2).toNat) ((l2_ ++ ([r9.1]))))) else some (l2_)
def shunterref05_Runes_m (N : Nat) (s : List UInt8) : Option (List Int) := shunterref05_Runes_l3 N N (s) ([])
set_option maxRecDepth 100000 in
set_option maxHeartbeats 8000000 in
theorem shunterref05_Runes_g (N : Nat) (s : List UInt8) (r : List Int) (hM : shunterref05_Runes_m N s = some r) (ro : Addr → Option Value)  : Does Try.prog 45 #[Value.string (⟨(s).toArray⟩)] ro [] (p1 (fun s_ => s_) 3 encI r) := by
  unfold shunterref05_Runes_m at hM
  refine does_of_A follows Try.func45 rfl 22 rfl (upd (fun _ => undef) 0 (Value.string (⟨(s).toArray⟩))) (by funext k; match k with | 0 => rfl | k + 1 => rfl) (fun base0_ => ?_)
  refine A_seq fun K1 hK1 => ?_
  refine A_reg ?_
  refine r_v (Value.slice none 0 0) rfl rfl rfl rfl ?_
  refine lx_nil ?_
  refine hK1 _ _ ?_; try clear hK1 K1
  refine A_seq fun K2 hK2 => ?_
  refine A_reg ?_
  refine r_v (Value.slice none 0 0) rfl rfl rfl rfl ?_
  refine lx_nil ?_
  refine hK2 _ _ ?_; try clear hK2 K2
  refine A_seq fun K3 hK3 => ?_
  refine A_block ?_
  refine A_forget _ (Sub.pickE (Ls := [[]]) (Ls0 := []) rfl [0] rfl) ?_
  refine A_loop (fun tt ll nn => ∃ (n4 : Nat) (s1_ : List UInt8) (l2_ : List Int), (shunterref05_Runes_l3 N n4 s1_ l2_ = some r) ∧ ∃ (vl2_ : Value) (Sl2_ : List Bl), Sl 3 encI vl2_ l2_ Sl2_ ∧ Is [(0, Value.string (⟨(s1_).toArray⟩)), (3, vl2_)] (List.flatten [Sl2_]) tt ll ∧ nn = n4 + 1) (N + 1) ?_ ?_
  · exact ⟨N, s, [], hM, Value.slice none 0 0, [], Sl.nil, is_mk rfl rfl, rfl⟩
  · clear hM; rintro t l _ ⟨n4, s1_, l2_, hM, vl2_, Sl2_, hl2_, ⟨⟨T, rfl⟩, rfl⟩, rfl⟩
    rcases n4 with _ | n4
    · exact absurd hM (by simp [shunterref05_Runes_l3])
    rw [shunterref05_Runes_l3] at hM
    refine A_seq fun K5 hK5 => ?_
    refine A_seq fun K6 hK6 => ?_
    refine A_reg ?_
    refine r_v (Value.string (⟨(s1_).toArray⟩)) rfl rfl rfl rfl ?_
    refine r_v (Value.int .i64 (((s1_).length : Int))) rfl rfl rfl (ev_lenS rfl rfl rfl) ?_
    refine r_v (Value.bool (decide ((((s1_).length : Int) : Int) > 0))) rfl rfl rfl rfl ?_
    refine lx_nil ?_
    refine hK6 _ _ ?_; try clear hK6 K6
    refine A_cond (decide ((((s1_).length : Int) : Int) > 0)) rfl (fun hc7 => ?_) (fun hc7 => ?_)
    · replace hM := ifp (of_decide_eq_true hc7) hM
      refine A_skip ?_
      refine hK5 _ _ ?_; try clear hK5 K5
      refine A_block ?_
      refine A_seq fun K8 hK8 => ?_
      refine A_reg ?_
      refine r_v (Value.string (⟨(s1_).toArray⟩)) rfl rfl rfl rfl ?_
      replace hM := bind_sm hM; obtain ⟨r9, hr10, hM⟩ := hM
      refine r_c (Value.tuple #[Value.int .i64 (r9.1), Value.int .i64 (r9.2)]) rfl _ _ (ev_callF rfl call_67 rfl) (shunterref05_First_g N s1_ _ hr10) ?_
      refine r_v (Value.tuple #[Value.int .i64 (r9.1), Value.int .i64 (r9.2)]) rfl rfl rfl rfl ?_
      refine r_v (Value.int .i64 (r9.1)) rfl rfl rfl rfl ?_
      refine r_v (Value.int .i64 (r9.2)) rfl rfl rfl rfl ?_
      refine r_v (Value.int .i64 (r9.1)) rfl rfl rfl rfl ?_
      refine r_v (Value.int .i64 (r9.2)) rfl rfl rfl rfl ?_
      refine lx_nil ?_
      refine hK8 _ _ ?_; try clear hK8 K8
      refine A_seq fun K11 hK11 => ?_
      refine A_regC [(some 16, false), (some 17, true)] (conG Try.prog []) ?_
      refine r_v (vl2_) rfl rfl rfl rfl ?_
      refine r_v (Value.int .i64 (r9.1)) rfl rfl rfl rfl ?_
      refine r_bs (cs0 := []) (Ls := [Sl2_]) 3 encI [r9.1] [Value.int .i64 (r9.1)] [Value.int .i64 (0)] rfl rfl rfl rfl rfl rfl rfl (by kernel_rfl) (by kernel_rfl) rfl rfl rfl (fun s12 S13 H14 => ?_)
      replace hM := ck_some hM; obtain ⟨ck15, hM⟩ := hM
      refine r_app (cs0 := []) (Ls := [Sl2_, S13]) 0 (En := encI) rfl rfl rfl rfl rfl hl2_ rfl (rd_own H14 (mem_chunk (Ls := [Sl2_, S13]) (k := 1) rfl rfl)) rfl rfl rfl rfl rfl (app_b ck15 rfl) (app_m ck15 rfl) rfl (fun s16 S17 H18 => ?_)
      refine r_v (s16) rfl rfl rfl rfl ?_
      refine lx_nil ?_
      refine hK11 _ _ ?_; try clear hK11 K11
      refine A_reg ?_
      refine r_v (Value.string (⟨(s1_).toArray⟩)) rfl rfl rfl rfl ?_
      refine r_v (Value.int .i64 (r9.2)) rfl rfl rfl rfl ?_
      replace hM := ck_some hM; obtain ⟨ck19, hM⟩ := hM
      refine r_v (Value.string (⟨((s1_).drop (r9.2).toNat).toArray⟩)) rfl rfl rfl (ev_v (ev_sliceS1 rfl ck19)) ?_
      refine r_v (Value.string (⟨((s1_).drop (r9.2).toNat).toArray⟩)) rfl rfl rfl rfl ?_
      refine lx_nil ?_
      refine fg _ (Sub.pick [S17, S13] [0] rfl) ?_
      exact ⟨n4 + 1, by omega, n4, (s1_).drop (r9.2).toNat, (l2_ ++ ([r9.1])), hM, s16, S17, H18, is_mk rfl rfl, rfl⟩
    · replace hM := ifn (of_decide_eq_false hc7) hM
      refine A_exit ?_
      refine hK3 _ _ ?_; try clear hK3 K3
      refine A_seq fun K20 hK20 => ?_
      refine A_reg ?_
      refine r_v (vl2_) rfl rfl rfl rfl ?_
      refine r_v (vl2_) rfl rfl rfl rfl ?_
      refine lx_nil ?_
      refine hK20 _ _ ?_; try clear hK20 K20
      obtain rfl := Option.some.inj hM
      refine A_ret (fun hn => ends1 (v0 := vl2_) hl2_ (sub_one (Sub.pick [Sl2_] [0] rfl)) rfl (res1 rfl))
def shunterref05_Letter_k2 (c : Int) : Option (Bool) := if (c : Int) ≥ 192 then if (c : Int) ≤ 591 then some (true) else if (c : Int) ≥ 913 then if (c : Int) ≤ 969 then some (true) else if (c : Int) ≥ 1024 then some (decide ((c : Int) ≤ 1279)) else some (false) else if (c : Int) ≥ 1024 then some (decide ((c : Int) ≤ 1279)) else some (false) else if (c : Int) ≥ 913 then if (c : Int) ≤ 969 then some (true) else if (c : Int) ≥ 1024 then some (decide ((c : Int) ≤ 1279)) else some (false) else if (c : Int) ≥ 1024 then some (decide ((c : Int) ≤ 1279)) else some (false)
def shunterref05_Letter_k1 (c : Int) : Option (Bool) := if (c : Int) = 215 then some (false) else if (c : Int) = 247 then some (false) else if (c : Int) = 930 then some (false) else shunterref05_Letter_k2 c 
def shunterref05_Letter_m (_ : Nat) (c : Int) : Option (Bool) := if (c : Int) ≥ 65 then if (c : Int) ≤ 90 then some (true) else if (c : Int) ≥ 97 then if (c : Int) ≤ 122 then some (true) else if (c : Int) = 95 then some (true) else shunterref05_Letter_k1 c  else if (c : Int) = 95 then some (true) else shunterref05_Letter_k1 c  else if (c : Int) ≥ 97 then if (c : Int) ≤ 122 then some (true) else if (c : Int) = 95 then some (true) else shunterref05_Letter_k1 c  else if (c : Int) = 95 then some (true) else shunterref05_Letter_k1 c 
set_option maxRecDepth 100000 in
set_option maxHeartbeats 8000000 in
theorem shunterref05_Letter_g (N : Nat) (c : Int) (r : Bool) (hM : shunterref05_Letter_m N c = some r) : Gives Try.prog 46 #[Value.int .i64 (c)] (Value.bool (r)) := by
  unfold shunterref05_Letter_m at hM
  refine gives_of_A follows Try.func46 rfl 53 rfl (upd (fun _ => undef) 0 (Value.int .i64 (c))) (by funext k; match k with | 0 => rfl | k + 1 => rfl) (fun base0_ => ?_)
  refine A_seq fun K1 hK1 => ?_
  refine A_reg ?_
  refine r_v (Value.bool (false)) rfl rfl rfl rfl ?_
  refine lx_nil ?_
  refine hK1 _ _ ?_; try clear hK1 K1
  refine A_cut (fun tt ll => (shunterref05_Letter_k1 c  = some r) ∧ Is [(0, Value.int .i64 (c))] [] tt ll) ?_ ?_
  · refine A_seq fun K20 hK20 => ?_
    refine A_reg ?_
    refine r_v (Value.int .i64 (c)) rfl rfl rfl rfl ?_
    refine r_v (Value.bool (decide ((c : Int) ≥ 65))) rfl rfl rfl rfl ?_
    refine r_v (Value.bool (decide ((c : Int) ≥ 65))) rfl rfl rfl rfl ?_
    rcases hg21 : (decide ((c : Int) ≥ 65)) with _ | _
    · replace hM := ifn (of_decide_eq_false hg21) hM
      refine r_n false rfl (by decide) rfl ?_
      refine r_n false rfl (by decide) rfl ?_
      refine r_v (Value.bool (false)) rfl rfl rfl rfl ?_
      refine r_v (Value.bool (false)) rfl rfl rfl rfl ?_
      refine r_y rfl ?_
      refine r_v (Value.int .i64 (c)) rfl rfl rfl rfl ?_
      refine r_y rfl ?_
      refine r_v (Value.bool (decide ((c : Int) ≥ 97))) rfl rfl rfl rfl ?_
      refine r_y rfl ?_
      refine r_v (Value.bool (decide ((c : Int) ≥ 97))) rfl rfl rfl rfl ?_
      rcases hg22 : (decide ((c : Int) ≥ 97)) with _ | _
      · replace hM := ifn (of_decide_eq_false hg22) hM
        refine r_n false rfl (by decide) rfl ?_
        refine r_n false rfl (by decide) rfl ?_
        refine r_y rfl ?_
        refine r_v (Value.bool (false)) rfl rfl rfl rfl ?_
        refine r_v (Value.bool (false)) rfl rfl rfl rfl ?_
        refine r_v (Value.bool (false)) rfl rfl rfl rfl ?_
        refine r_y rfl ?_
        refine r_v (Value.int .i64 (c)) rfl rfl rfl rfl ?_
        refine r_y rfl ?_
        refine r_v (Value.bool (((c : Int) == 95))) rfl rfl rfl rfl ?_
        refine r_v (Value.bool (((c : Int) == 95))) rfl rfl rfl rfl ?_
        refine lx_nil ?_
        refine hK20 _ _ ?_; try clear hK20 K20
        refine A_cond (((c : Int) == 95)) rfl (fun hc23 => ?_) (fun hc23 => ?_)
        · replace hM := ifp (eq_of_beq hc23) hM
          refine A_seq fun K24 hK24 => ?_
          refine A_reg ?_
          refine r_v (Value.bool (true)) rfl rfl rfl rfl ?_
          refine lx_nil ?_
          refine hK24 _ _ ?_; try clear hK24 K24
          obtain rfl := Option.some.inj hM
          refine A_ret (fun hn => ends_eq (v0 := Value.bool (true)) rfl (res1 rfl))
        · replace hM := ifn (ne_of_beq_false hc23) hM
          refine A_skip ?_
          refine fg _ (Sub.of (List.Sublist.slnil)) ?_
          exact ⟨hM, is_mk rfl rfl⟩
      · replace hM := ifp (of_decide_eq_true hg22) hM
        refine r_y rfl ?_
        refine r_v (Value.int .i64 (c)) rfl rfl rfl rfl ?_
        refine r_y rfl ?_
        refine r_v (Value.bool (decide ((c : Int) ≤ 122))) rfl rfl rfl rfl ?_
        refine r_y rfl ?_
        refine r_v (Value.bool (decide ((c : Int) ≤ 122))) rfl rfl rfl rfl ?_
        refine r_v (Value.bool (decide ((c : Int) ≤ 122))) rfl rfl rfl rfl ?_
        refine r_v (Value.bool (decide ((c : Int) ≤ 122))) rfl rfl rfl rfl ?_
        rcases hg25 : (decide ((c : Int) ≤ 122)) with _ | _
        · replace hM := ifn (of_decide_eq_false hg25) hM
          refine r_y rfl ?_
          refine r_v (Value.int .i64 (c)) rfl rfl rfl rfl ?_
          refine r_y rfl ?_
          refine r_v (Value.bool (((c : Int) == 95))) rfl rfl rfl rfl ?_
          refine r_v (Value.bool (((c : Int) == 95))) rfl rfl rfl rfl ?_
          refine lx_nil ?_
          refine hK20 _ _ ?_; try clear hK20 K20
          refine A_cond (((c : Int) == 95)) rfl (fun hc26 => ?_) (fun hc26 => ?_)
          · replace hM := ifp (eq_of_beq hc26) hM
            refine A_seq fun K27 hK27 => ?_
            refine A_reg ?_
            refine r_v (Value.bool (true)) rfl rfl rfl rfl ?_
            refine lx_nil ?_
            refine hK27 _ _ ?_; try clear hK27 K27
            obtain rfl := Option.some.inj hM
            refine A_ret (fun hn => ends_eq (v0 := Value.bool (true)) rfl (res1 rfl))
          · replace hM := ifn (ne_of_beq_false hc26) hM
            refine A_skip ?_
            refine fg _ (Sub.of (List.Sublist.slnil)) ?_
            exact ⟨hM, is_mk rfl rfl⟩
        · replace hM := ifp (of_decide_eq_true hg25) hM
          refine r_n true rfl (by decide) rfl ?_
          refine r_n true rfl (by decide) rfl ?_
          refine r_v (Value.bool (true)) rfl rfl rfl rfl ?_
          refine lx_nil ?_
          refine hK20 _ _ ?_; try clear hK20 K20
          refine A_cond true rfl (fun _ => ?_) (fun h_ => nomatch h_)
          refine A_seq fun K28 hK28 => ?_
          refine A_reg ?_
          refine r_v (Value.bool (true)) rfl rfl rfl rfl ?_
          refine lx_nil ?_
          refine hK28 _ _ ?_; try clear hK28 K28
          obtain rfl := Option.some.inj hM
          refine A_ret (fun hn => ends_eq (v0 := Value.bool (true)) rfl (res1 rfl))
    · replace hM := ifp (of_decide_eq_true hg21) hM
      refine r_y rfl ?_
      refine r_v (Value.int .i64 (c)) rfl rfl rfl rfl ?_
      refine r_y rfl ?_
      refine r_v (Value.bool (decide ((c : Int) ≤ 90))) rfl rfl rfl rfl ?_
      refine r_v (Value.bool (decide ((c : Int) ≤ 90))) rfl rfl rfl rfl ?_
      refine r_v (Value.bool (decide ((c : Int) ≤ 90))) rfl rfl rfl rfl ?_
      rcases hg29 : (decide ((c : Int) ≤ 90)) with _ | _
      · replace hM := ifn (of_decide_eq_false hg29) hM
        refine r_y rfl ?_
        refine r_v (Value.int .i64 (c)) rfl rfl rfl rfl ?_
        refine r_y rfl ?_
        refine r_v (Value.bool (decide ((c : Int) ≥ 97))) rfl rfl rfl rfl ?_
        refine r_y rfl ?_
        refine r_v (Value.bool (decide ((c : Int) ≥ 97))) rfl rfl rfl rfl ?_
        rcases hg30 : (decide ((c : Int) ≥ 97)) with _ | _
        · replace hM := ifn (of_decide_eq_false hg30) hM
          refine r_n false rfl (by decide) rfl ?_
          refine r_n false rfl (by decide) rfl ?_
          refine r_y rfl ?_
          refine r_v (Value.bool (false)) rfl rfl rfl rfl ?_
          refine r_v (Value.bool (false)) rfl rfl rfl rfl ?_
          refine r_v (Value.bool (false)) rfl rfl rfl rfl ?_
          refine r_y rfl ?_
          refine r_v (Value.int .i64 (c)) rfl rfl rfl rfl ?_
          refine r_y rfl ?_
          refine r_v (Value.bool (((c : Int) == 95))) rfl rfl rfl rfl ?_
          refine r_v (Value.bool (((c : Int) == 95))) rfl rfl rfl rfl ?_
          refine lx_nil ?_
          refine hK20 _ _ ?_; try clear hK20 K20
          refine A_cond (((c : Int) == 95)) rfl (fun hc31 => ?_) (fun hc31 => ?_)
          · replace hM := ifp (eq_of_beq hc31) hM
            refine A_seq fun K32 hK32 => ?_
            refine A_reg ?_
            refine r_v (Value.bool (true)) rfl rfl rfl rfl ?_
            refine lx_nil ?_
            refine hK32 _ _ ?_; try clear hK32 K32
            obtain rfl := Option.some.inj hM
            refine A_ret (fun hn => ends_eq (v0 := Value.bool (true)) rfl (res1 rfl))
          · replace hM := ifn (ne_of_beq_false hc31) hM
            refine A_skip ?_
            refine fg _ (Sub.of (List.Sublist.slnil)) ?_
            exact ⟨hM, is_mk rfl rfl⟩
        · replace hM := ifp (of_decide_eq_true hg30) hM
          refine r_y rfl ?_
          refine r_v (Value.int .i64 (c)) rfl rfl rfl rfl ?_
          refine r_y rfl ?_
          refine r_v (Value.bool (decide ((c : Int) ≤ 122))) rfl rfl rfl rfl ?_
          refine r_y rfl ?_
          refine r_v (Value.bool (decide ((c : Int) ≤ 122))) rfl rfl rfl rfl ?_
          refine r_v (Value.bool (decide ((c : Int) ≤ 122))) rfl rfl rfl rfl ?_
          refine r_v (Value.bool (decide ((c : Int) ≤ 122))) rfl rfl rfl rfl ?_
          rcases hg33 : (decide ((c : Int) ≤ 122)) with _ | _
          · replace hM := ifn (of_decide_eq_false hg33) hM
            refine r_y rfl ?_
            refine r_v (Value.int .i64 (c)) rfl rfl rfl rfl ?_
            refine r_y rfl ?_
            refine r_v (Value.bool (((c : Int) == 95))) rfl rfl rfl rfl ?_
            refine r_v (Value.bool (((c : Int) == 95))) rfl rfl rfl rfl ?_
            refine lx_nil ?_
            refine hK20 _ _ ?_; try clear hK20 K20
            refine A_cond (((c : Int) == 95)) rfl (fun hc34 => ?_) (fun hc34 => ?_)
            · replace hM := ifp (eq_of_beq hc34) hM
              refine A_seq fun K35 hK35 => ?_
              refine A_reg ?_
              refine r_v (Value.bool (true)) rfl rfl rfl rfl ?_
              refine lx_nil ?_
              refine hK35 _ _ ?_; try clear hK35 K35
              obtain rfl := Option.some.inj hM
              refine A_ret (fun hn => ends_eq (v0 := Value.bool (true)) rfl (res1 rfl))
            · replace hM := ifn (ne_of_beq_false hc34) hM
              refine A_skip ?_
              refine fg _ (Sub.of (List.Sublist.slnil)) ?_
              exact ⟨hM, is_mk rfl rfl⟩
          · replace hM := ifp (of_decide_eq_true hg33) hM
            refine r_n true rfl (by decide) rfl ?_
            refine r_n true rfl (by decide) rfl ?_
            refine r_v (Value.bool (true)) rfl rfl rfl rfl ?_
            refine lx_nil ?_
            refine hK20 _ _ ?_; try clear hK20 K20
            refine A_cond true rfl (fun _ => ?_) (fun h_ => nomatch h_)
            refine A_seq fun K36 hK36 => ?_
            refine A_reg ?_
            refine r_v (Value.bool (true)) rfl rfl rfl rfl ?_
            refine lx_nil ?_
            refine hK36 _ _ ?_; try clear hK36 K36
            obtain rfl := Option.some.inj hM
            refine A_ret (fun hn => ends_eq (v0 := Value.bool (true)) rfl (res1 rfl))
      · replace hM := ifp (of_decide_eq_true hg29) hM
        refine r_n true rfl (by decide) rfl ?_
        refine r_n true rfl (by decide) rfl ?_
        refine r_n true rfl (by decide) rfl ?_
        refine r_nu rfl rfl ?_
        refine r_nu rfl rfl ?_
        refine r_n true rfl (by decide) rfl ?_
        refine r_v (Value.bool (true)) rfl rfl rfl rfl ?_
        refine r_v (Value.bool (true)) rfl rfl rfl rfl ?_
        refine r_n true rfl (by decide) rfl ?_
        refine r_n true rfl (by decide) rfl ?_
        refine r_v (Value.bool (true)) rfl rfl rfl rfl ?_
        refine lx_nil ?_
        refine hK20 _ _ ?_; try clear hK20 K20
        refine A_cond true rfl (fun _ => ?_) (fun h_ => nomatch h_)
        refine A_seq fun K37 hK37 => ?_
        refine A_reg ?_
        refine r_v (Value.bool (true)) rfl rfl rfl rfl ?_
        refine lx_nil ?_
        refine hK37 _ _ ?_; try clear hK37 K37
        obtain rfl := Option.some.inj hM
        refine A_ret (fun hn => ends_eq (v0 := Value.bool (true)) rfl (res1 rfl))
  · clear hM; rintro t l ⟨hM, ⟨T, rfl⟩, rfl⟩
    unfold shunterref05_Letter_k1 at hM
    refine A_cut (fun tt ll => (shunterref05_Letter_k2 c  = some r) ∧ Is [(0, Value.int .i64 (c))] [] tt ll) ?_ ?_
    · refine A_seq fun K13 hK13 => ?_
      refine A_reg ?_
      refine r_v (Value.int .i64 (c)) rfl rfl rfl rfl ?_
      refine r_v (Value.bool (((c : Int) == 215))) rfl rfl rfl rfl ?_
      refine r_v (Value.bool (((c : Int) == 215))) rfl rfl rfl rfl ?_
      rcases hg14 : (((c : Int) == 215)) with _ | _
      · replace hM := ifn (ne_of_beq_false hg14) hM
        refine r_y rfl ?_
        refine r_v (Value.int .i64 (c)) rfl rfl rfl rfl ?_
        refine r_y rfl ?_
        refine r_v (Value.bool (((c : Int) == 247))) rfl rfl rfl rfl ?_
        refine r_v (Value.bool (((c : Int) == 247))) rfl rfl rfl rfl ?_
        refine r_v (Value.bool (((c : Int) == 247))) rfl rfl rfl rfl ?_
        rcases hg15 : (((c : Int) == 247)) with _ | _
        · replace hM := ifn (ne_of_beq_false hg15) hM
          refine r_y rfl ?_
          refine r_v (Value.int .i64 (c)) rfl rfl rfl rfl ?_
          refine r_y rfl ?_
          refine r_v (Value.bool (((c : Int) == 930))) rfl rfl rfl rfl ?_
          refine r_v (Value.bool (((c : Int) == 930))) rfl rfl rfl rfl ?_
          refine lx_nil ?_
          refine hK13 _ _ ?_; try clear hK13 K13
          refine A_cond (((c : Int) == 930)) rfl (fun hc16 => ?_) (fun hc16 => ?_)
          · replace hM := ifp (eq_of_beq hc16) hM
            refine A_seq fun K17 hK17 => ?_
            refine A_reg ?_
            refine r_v (Value.bool (false)) rfl rfl rfl rfl ?_
            refine lx_nil ?_
            refine hK17 _ _ ?_; try clear hK17 K17
            obtain rfl := Option.some.inj hM
            refine A_ret (fun hn => ends_eq (v0 := Value.bool (false)) rfl (res1 rfl))
          · replace hM := ifn (ne_of_beq_false hc16) hM
            refine A_skip ?_
            refine fg _ (Sub.of (List.Sublist.slnil)) ?_
            exact ⟨hM, is_mk rfl rfl⟩
        · replace hM := ifp (eq_of_beq hg15) hM
          refine r_n true rfl (by decide) rfl ?_
          refine r_n true rfl (by decide) rfl ?_
          refine r_v (Value.bool (true)) rfl rfl rfl rfl ?_
          refine lx_nil ?_
          refine hK13 _ _ ?_; try clear hK13 K13
          refine A_cond true rfl (fun _ => ?_) (fun h_ => nomatch h_)
          refine A_seq fun K18 hK18 => ?_
          refine A_reg ?_
          refine r_v (Value.bool (false)) rfl rfl rfl rfl ?_
          refine lx_nil ?_
          refine hK18 _ _ ?_; try clear hK18 K18
          obtain rfl := Option.some.inj hM
          refine A_ret (fun hn => ends_eq (v0 := Value.bool (false)) rfl (res1 rfl))
      · replace hM := ifp (eq_of_beq hg14) hM
        refine r_n true rfl (by decide) rfl ?_
        refine r_n true rfl (by decide) rfl ?_
        refine r_v (Value.bool (true)) rfl rfl rfl rfl ?_
        refine r_v (Value.bool (true)) rfl rfl rfl rfl ?_
        refine r_n true rfl (by decide) rfl ?_
        refine r_n true rfl (by decide) rfl ?_
        refine r_v (Value.bool (true)) rfl rfl rfl rfl ?_
        refine lx_nil ?_
        refine hK13 _ _ ?_; try clear hK13 K13
        refine A_cond true rfl (fun _ => ?_) (fun h_ => nomatch h_)
        refine A_seq fun K19 hK19 => ?_
        refine A_reg ?_
        refine r_v (Value.bool (false)) rfl rfl rfl rfl ?_
        refine lx_nil ?_
        refine hK19 _ _ ?_; try clear hK19 K19
        obtain rfl := Option.some.inj hM
        refine A_ret (fun hn => ends_eq (v0 := Value.bool (false)) rfl (res1 rfl))
    · clear hM; rintro t l ⟨hM, ⟨T, rfl⟩, rfl⟩
      unfold shunterref05_Letter_k2 at hM
      refine A_seq fun K2 hK2 => ?_
      refine A_reg ?_
      refine r_v (Value.int .i64 (c)) rfl rfl rfl rfl ?_
      refine r_v (Value.bool (decide ((c : Int) ≥ 192))) rfl rfl rfl rfl ?_
      refine r_v (Value.bool (decide ((c : Int) ≥ 192))) rfl rfl rfl rfl ?_
      rcases hg3 : (decide ((c : Int) ≥ 192)) with _ | _
      · replace hM := ifn (of_decide_eq_false hg3) hM
        refine r_n false rfl (by decide) rfl ?_
        refine r_n false rfl (by decide) rfl ?_
        refine r_v (Value.bool (false)) rfl rfl rfl rfl ?_
        refine r_v (Value.bool (false)) rfl rfl rfl rfl ?_
        refine r_y rfl ?_
        refine r_v (Value.int .i64 (c)) rfl rfl rfl rfl ?_
        refine r_y rfl ?_
        refine r_v (Value.bool (decide ((c : Int) ≥ 913))) rfl rfl rfl rfl ?_
        refine r_y rfl ?_
        refine r_v (Value.bool (decide ((c : Int) ≥ 913))) rfl rfl rfl rfl ?_
        rcases hg4 : (decide ((c : Int) ≥ 913)) with _ | _
        · replace hM := ifn (of_decide_eq_false hg4) hM
          refine r_n false rfl (by decide) rfl ?_
          refine r_n false rfl (by decide) rfl ?_
          refine r_y rfl ?_
          refine r_v (Value.bool (false)) rfl rfl rfl rfl ?_
          refine r_v (Value.bool (false)) rfl rfl rfl rfl ?_
          refine r_v (Value.bool (false)) rfl rfl rfl rfl ?_
          refine r_y rfl ?_
          refine r_v (Value.int .i64 (c)) rfl rfl rfl rfl ?_
          refine r_y rfl ?_
          refine r_v (Value.bool (decide ((c : Int) ≥ 1024))) rfl rfl rfl rfl ?_
          refine r_y rfl ?_
          refine r_v (Value.bool (decide ((c : Int) ≥ 1024))) rfl rfl rfl rfl ?_
          rcases hg5 : (decide ((c : Int) ≥ 1024)) with _ | _
          · replace hM := ifn (of_decide_eq_false hg5) hM
            refine r_n false rfl (by decide) rfl ?_
            refine r_n false rfl (by decide) rfl ?_
            refine r_y rfl ?_
            refine r_v (Value.bool (false)) rfl rfl rfl rfl ?_
            refine r_v (Value.bool (false)) rfl rfl rfl rfl ?_
            refine r_v (Value.bool (false)) rfl rfl rfl rfl ?_
            refine lx_nil ?_
            refine hK2 _ _ ?_; try clear hK2 K2
            obtain rfl := Option.some.inj hM
            refine A_ret (fun hn => ends_eq (v0 := Value.bool (false)) rfl (res1 rfl))
          · replace hM := ifp (of_decide_eq_true hg5) hM
            refine r_y rfl ?_
            refine r_v (Value.int .i64 (c)) rfl rfl rfl rfl ?_
            refine r_y rfl ?_
            refine r_v (Value.bool (decide ((c : Int) ≤ 1279))) rfl rfl rfl rfl ?_
            refine r_y rfl ?_
            refine r_v (Value.bool (decide ((c : Int) ≤ 1279))) rfl rfl rfl rfl ?_
            refine r_v (Value.bool (decide ((c : Int) ≤ 1279))) rfl rfl rfl rfl ?_
            refine r_v (Value.bool (decide ((c : Int) ≤ 1279))) rfl rfl rfl rfl ?_
            refine lx_nil ?_
            refine hK2 _ _ ?_; try clear hK2 K2
            obtain rfl := Option.some.inj hM
            refine A_ret (fun hn => ends_eq (v0 := Value.bool (decide ((c : Int) ≤ 1279))) rfl (res1 rfl))
        · replace hM := ifp (of_decide_eq_true hg4) hM
          refine r_y rfl ?_
          refine r_v (Value.int .i64 (c)) rfl rfl rfl rfl ?_
          refine r_y rfl ?_
          refine r_v (Value.bool (decide ((c : Int) ≤ 969))) rfl rfl rfl rfl ?_
          refine r_y rfl ?_
          refine r_v (Value.bool (decide ((c : Int) ≤ 969))) rfl rfl rfl rfl ?_
          refine r_v (Value.bool (decide ((c : Int) ≤ 969))) rfl rfl rfl rfl ?_
          refine r_v (Value.bool (decide ((c : Int) ≤ 969))) rfl rfl rfl rfl ?_
          rcases hg6 : (decide ((c : Int) ≤ 969)) with _ | _
          · replace hM := ifn (of_decide_eq_false hg6) hM
            refine r_y rfl ?_
            refine r_v (Value.int .i64 (c)) rfl rfl rfl rfl ?_
            refine r_y rfl ?_
            refine r_v (Value.bool (decide ((c : Int) ≥ 1024))) rfl rfl rfl rfl ?_
            refine r_y rfl ?_
            refine r_v (Value.bool (decide ((c : Int) ≥ 1024))) rfl rfl rfl rfl ?_
            rcases hg7 : (decide ((c : Int) ≥ 1024)) with _ | _
            · replace hM := ifn (of_decide_eq_false hg7) hM
              refine r_n false rfl (by decide) rfl ?_
              refine r_n false rfl (by decide) rfl ?_
              refine r_y rfl ?_
              refine r_v (Value.bool (false)) rfl rfl rfl rfl ?_
              refine r_v (Value.bool (false)) rfl rfl rfl rfl ?_
              refine r_v (Value.bool (false)) rfl rfl rfl rfl ?_
              refine lx_nil ?_
              refine hK2 _ _ ?_; try clear hK2 K2
              obtain rfl := Option.some.inj hM
              refine A_ret (fun hn => ends_eq (v0 := Value.bool (false)) rfl (res1 rfl))
            · replace hM := ifp (of_decide_eq_true hg7) hM
              refine r_y rfl ?_
              refine r_v (Value.int .i64 (c)) rfl rfl rfl rfl ?_
              refine r_y rfl ?_
              refine r_v (Value.bool (decide ((c : Int) ≤ 1279))) rfl rfl rfl rfl ?_
              refine r_y rfl ?_
              refine r_v (Value.bool (decide ((c : Int) ≤ 1279))) rfl rfl rfl rfl ?_
              refine r_v (Value.bool (decide ((c : Int) ≤ 1279))) rfl rfl rfl rfl ?_
              refine r_v (Value.bool (decide ((c : Int) ≤ 1279))) rfl rfl rfl rfl ?_
              refine lx_nil ?_
              refine hK2 _ _ ?_; try clear hK2 K2
              obtain rfl := Option.some.inj hM
              refine A_ret (fun hn => ends_eq (v0 := Value.bool (decide ((c : Int) ≤ 1279))) rfl (res1 rfl))
          · replace hM := ifp (of_decide_eq_true hg6) hM
            refine r_n true rfl (by decide) rfl ?_
            refine r_n true rfl (by decide) rfl ?_
            refine r_n true rfl (by decide) rfl ?_
            refine r_nu rfl rfl ?_
            refine r_nu rfl rfl ?_
            refine r_n true rfl (by decide) rfl ?_
            refine r_v (Value.bool (true)) rfl rfl rfl rfl ?_
            refine r_v (Value.bool (true)) rfl rfl rfl rfl ?_
            refine lx_nil ?_
            refine hK2 _ _ ?_; try clear hK2 K2
            obtain rfl := Option.some.inj hM
            refine A_ret (fun hn => ends_eq (v0 := Value.bool (true)) rfl (res1 rfl))
      · replace hM := ifp (of_decide_eq_true hg3) hM
        refine r_y rfl ?_
        refine r_v (Value.int .i64 (c)) rfl rfl rfl rfl ?_
        refine r_y rfl ?_
        refine r_v (Value.bool (decide ((c : Int) ≤ 591))) rfl rfl rfl rfl ?_
        refine r_v (Value.bool (decide ((c : Int) ≤ 591))) rfl rfl rfl rfl ?_
        refine r_v (Value.bool (decide ((c : Int) ≤ 591))) rfl rfl rfl rfl ?_
        rcases hg8 : (decide ((c : Int) ≤ 591)) with _ | _
        · replace hM := ifn (of_decide_eq_false hg8) hM
          refine r_y rfl ?_
          refine r_v (Value.int .i64 (c)) rfl rfl rfl rfl ?_
          refine r_y rfl ?_
          refine r_v (Value.bool (decide ((c : Int) ≥ 913))) rfl rfl rfl rfl ?_
          refine r_y rfl ?_
          refine r_v (Value.bool (decide ((c : Int) ≥ 913))) rfl rfl rfl rfl ?_
          rcases hg9 : (decide ((c : Int) ≥ 913)) with _ | _
          · replace hM := ifn (of_decide_eq_false hg9) hM
            refine r_n false rfl (by decide) rfl ?_
            refine r_n false rfl (by decide) rfl ?_
            refine r_y rfl ?_
            refine r_v (Value.bool (false)) rfl rfl rfl rfl ?_
            refine r_v (Value.bool (false)) rfl rfl rfl rfl ?_
            refine r_v (Value.bool (false)) rfl rfl rfl rfl ?_
            refine r_y rfl ?_
            refine r_v (Value.int .i64 (c)) rfl rfl rfl rfl ?_
            refine r_y rfl ?_
            refine r_v (Value.bool (decide ((c : Int) ≥ 1024))) rfl rfl rfl rfl ?_
            refine r_y rfl ?_
            refine r_v (Value.bool (decide ((c : Int) ≥ 1024))) rfl rfl rfl rfl ?_
            rcases hg10 : (decide ((c : Int) ≥ 1024)) with _ | _
            · replace hM := ifn (of_decide_eq_false hg10) hM
              refine r_n false rfl (by decide) rfl ?_
              refine r_n false rfl (by decide) rfl ?_
              refine r_y rfl ?_
              refine r_v (Value.bool (false)) rfl rfl rfl rfl ?_
              refine r_v (Value.bool (false)) rfl rfl rfl rfl ?_
              refine r_v (Value.bool (false)) rfl rfl rfl rfl ?_
              refine lx_nil ?_
              refine hK2 _ _ ?_; try clear hK2 K2
              obtain rfl := Option.some.inj hM
              refine A_ret (fun hn => ends_eq (v0 := Value.bool (false)) rfl (res1 rfl))
            · replace hM := ifp (of_decide_eq_true hg10) hM
              refine r_y rfl ?_
              refine r_v (Value.int .i64 (c)) rfl rfl rfl rfl ?_
              refine r_y rfl ?_
              refine r_v (Value.bool (decide ((c : Int) ≤ 1279))) rfl rfl rfl rfl ?_
              refine r_y rfl ?_
              refine r_v (Value.bool (decide ((c : Int) ≤ 1279))) rfl rfl rfl rfl ?_
              refine r_v (Value.bool (decide ((c : Int) ≤ 1279))) rfl rfl rfl rfl ?_
              refine r_v (Value.bool (decide ((c : Int) ≤ 1279))) rfl rfl rfl rfl ?_
              refine lx_nil ?_
              refine hK2 _ _ ?_; try clear hK2 K2
              obtain rfl := Option.some.inj hM
              refine A_ret (fun hn => ends_eq (v0 := Value.bool (decide ((c : Int) ≤ 1279))) rfl (res1 rfl))
          · replace hM := ifp (of_decide_eq_true hg9) hM
            refine r_y rfl ?_
            refine r_v (Value.int .i64 (c)) rfl rfl rfl rfl ?_
            refine r_y rfl ?_
            refine r_v (Value.bool (decide ((c : Int) ≤ 969))) rfl rfl rfl rfl ?_
            refine r_y rfl ?_
            refine r_v (Value.bool (decide ((c : Int) ≤ 969))) rfl rfl rfl rfl ?_
            refine r_v (Value.bool (decide ((c : Int) ≤ 969))) rfl rfl rfl rfl ?_
            refine r_v (Value.bool (decide ((c : Int) ≤ 969))) rfl rfl rfl rfl ?_
            rcases hg11 : (decide ((c : Int) ≤ 969)) with _ | _
            · replace hM := ifn (of_decide_eq_false hg11) hM
              refine r_y rfl ?_
              refine r_v (Value.int .i64 (c)) rfl rfl rfl rfl ?_
              refine r_y rfl ?_
              refine r_v (Value.bool (decide ((c : Int) ≥ 1024))) rfl rfl rfl rfl ?_
              refine r_y rfl ?_
              refine r_v (Value.bool (decide ((c : Int) ≥ 1024))) rfl rfl rfl rfl ?_
              rcases hg12 : (decide ((c : Int) ≥ 1024)) with _ | _
              · replace hM := ifn (of_decide_eq_false hg12) hM
                refine r_n false rfl (by decide) rfl ?_
                refine r_n false rfl (by decide) rfl ?_
                refine r_y rfl ?_
                refine r_v (Value.bool (false)) rfl rfl rfl rfl ?_
                refine r_v (Value.bool (false)) rfl rfl rfl rfl ?_
                refine r_v (Value.bool (false)) rfl rfl rfl rfl ?_
                refine lx_nil ?_
                refine hK2 _ _ ?_; try clear hK2 K2
                obtain rfl := Option.some.inj hM
                refine A_ret (fun hn => ends_eq (v0 := Value.bool (false)) rfl (res1 rfl))
              · replace hM := ifp (of_decide_eq_true hg12) hM
                refine r_y rfl ?_
                refine r_v (Value.int .i64 (c)) rfl rfl rfl rfl ?_
                refine r_y rfl ?_
                refine r_v (Value.bool (decide ((c : Int) ≤ 1279))) rfl rfl rfl rfl ?_
                refine r_y rfl ?_
                refine r_v (Value.bool (decide ((c : Int) ≤ 1279))) rfl rfl rfl rfl ?_
                refine r_v (Value.bool (decide ((c : Int) ≤ 1279))) rfl rfl rfl rfl ?_
                refine r_v (Value.bool (decide ((c : Int) ≤ 1279))) rfl rfl rfl rfl ?_
                refine lx_nil ?_
                refine hK2 _ _ ?_; try clear hK2 K2
                obtain rfl := Option.some.inj hM
                refine A_ret (fun hn => ends_eq (v0 := Value.bool (decide ((c : Int) ≤ 1279))) rfl (res1 rfl))
            · replace hM := ifp (of_decide_eq_true hg11) hM
              refine r_n true rfl (by decide) rfl ?_
              refine r_n true rfl (by decide) rfl ?_
              refine r_n true rfl (by decide) rfl ?_
              refine r_nu rfl rfl ?_
              refine r_nu rfl rfl ?_
              refine r_n true rfl (by decide) rfl ?_
              refine r_v (Value.bool (true)) rfl rfl rfl rfl ?_
              refine r_v (Value.bool (true)) rfl rfl rfl rfl ?_
              refine lx_nil ?_
              refine hK2 _ _ ?_; try clear hK2 K2
              obtain rfl := Option.some.inj hM
              refine A_ret (fun hn => ends_eq (v0 := Value.bool (true)) rfl (res1 rfl))
        · replace hM := ifp (of_decide_eq_true hg8) hM
          refine r_n true rfl (by decide) rfl ?_
          refine r_n true rfl (by decide) rfl ?_
          refine r_n true rfl (by decide) rfl ?_
          refine r_nu rfl rfl ?_
          refine r_nu rfl rfl ?_
          refine r_n true rfl (by decide) rfl ?_
          refine r_v (Value.bool (true)) rfl rfl rfl rfl ?_
          refine r_v (Value.bool (true)) rfl rfl rfl rfl ?_
          refine r_n true rfl (by decide) rfl ?_
          refine r_n true rfl (by decide) rfl ?_
          refine r_n true rfl (by decide) rfl ?_
          refine r_nu rfl rfl ?_
          refine r_nu rfl rfl ?_
          refine r_n true rfl (by decide) rfl ?_
          refine r_v (Value.bool (true)) rfl rfl rfl rfl ?_
          refine r_v (Value.bool (true)) rfl rfl rfl rfl ?_
          refine lx_nil ?_
          refine hK2 _ _ ?_; try clear hK2 K2
          obtain rfl := Option.some.inj hM
          refine A_ret (fun hn => ends_eq (v0 := Value.bool (true)) rfl (res1 rfl))
def shunterref05_May_l3 (N : Nat) (r3 : List Int) : Nat → Int → Option (Bool)
  | 0, _ => none
  | n10 + 1, i2_ => if (i2_ : Int) < ((r3).length : Int) then ck (0 ≤ i2_ ∧ i2_ < ((r3).length : Int)) ((shunterref05_Letter_m N ((r3)[(i2_).toNat]!)).bind fun r17 => if (r17) = true then ck ((-9223372036854775808 ≤ (i2_ + 1) ∧ (i2_ + 1) ≤ 9223372036854775807)) ((shunterref05_May_l3 N r3 n10) ((i2_ + 1))) else ck (0 ≤ i2_ ∧ i2_ < ((r3).length : Int)) (if ((r3)[(i2_).toNat]! : Int) ≥ 48 then ck (0 ≤ i2_ ∧ i2_ < ((r3).length : Int)) (if ((r3)[(i2_).toNat]! : Int) ≤ 57 then ck ((-9223372036854775808 ≤ (i2_ + 1) ∧ (i2_ + 1) ≤ 9223372036854775807)) ((shunterref05_May_l3 N r3 n10) ((i2_ + 1))) else ck (0 ≤ i2_ ∧ i2_ < ((r3).length : Int)) (if ((r3)[(i2_).toNat]! : Int) ≠ 45 then ck (0 ≤ i2_ ∧ i2_ < ((r3).length : Int)) (if ((r3)[(i2_).toNat]! : Int) ≠ 46 then some (false) else ck ((-9223372036854775808 ≤ (i2_ + 1) ∧ (i2_ + 1) ≤ 9223372036854775807)) ((shunterref05_May_l3 N r3 n10) ((i2_ + 1)))) else ck ((-9223372036854775808 ≤ (i2_ + 1) ∧ (i2_ + 1) ≤ 9223372036854775807)) ((shunterref05_May_l3 N r3 n10) ((i2_ + 1))))) else ck (0 ≤ i2_ ∧ i2_ < ((r3).length : Int)) (if ((r3)[(i2_).toNat]! : Int) ≠ 45 then ck (0 ≤ i2_ ∧ i2_ < ((r3).length : Int)) (if ((r3)[(i2_).toNat]! : Int) ≠ 46 then some (false) else ck ((-9223372036854775808 ≤ (i2_ + 1) ∧ (i2_ + 1) ≤ 9223372036854775807)) ((shunterref05_May_l3 N r3 n10) ((i2_ + 1)))) else ck ((-9223372036854775808 ≤ (i2_ + 1) ∧ (i2_ + 1) ≤ 9223372036854775807)) ((shunterref05_May_l3 N r3 n10) ((i2_ + 1)))))) else some (true)
def shunterref05_May_k1 (N : Nat) (r3 : List Int) : Option (Bool) := shunterref05_May_l3 N r3 N (0)
def shunterref05_May_m (N : Nat) (s : List UInt8) : Option (Bool) := (shunterref05_Runes_m N s).bind fun r3 => if (((r3).length : Int) : Int) < 1 then some (false) else if (((r3).length : Int) : Int) > 24 then some (false) else ck (0 ≤ (0 : Int) ∧ (0 : Int) < ((r3).length : Int)) ((shunterref05_Letter_m N ((r3)[((0 : Int)).toNat]!)).bind fun r45 => if (r45) = true then shunterref05_May_k1 N r3  else some (false))
set_option maxRecDepth 100000 in
set_option maxHeartbeats 8000000 in
theorem shunterref05_May_g (N : Nat) (s : List UInt8) (r : Bool) (hM : shunterref05_May_m N s = some r) : Gives Try.prog 18 #[Value.string (⟨(s).toArray⟩)] (Value.bool (r)) := by
  unfold shunterref05_May_m at hM
  refine gives_of_A follows Try.func18 rfl 63 rfl (upd (fun _ => undef) 0 (Value.string (⟨(s).toArray⟩))) (by funext k; match k with | 0 => rfl | k + 1 => rfl) (fun base0_ => ?_)
  refine A_seq fun K1 hK1 => ?_
  refine A_reg ?_
  refine r_v (Value.bool (false)) rfl rfl rfl rfl ?_
  refine lx_nil ?_
  refine hK1 _ _ ?_; try clear hK1 K1
  refine A_seq fun K2 hK2 => ?_
  refine A_regC [(some 6, false)] (conG Try.prog [(6, fun _ _ v_ L_ U_ => ∀ u0_, shunterref05_Runes_m N s = some u0_ → (p1 (fun s_ => s_) 3 encI (u0_)) v_ L_ U_)]) ?_
  refine r_v (Value.string (⟨(s).toArray⟩)) rfl rfl rfl rfl ?_
  replace hM := bind_sm hM; obtain ⟨r3, hr4, hM⟩ := hM
  refine r_g1 (Ls := []) (fun s5 => s5) 3 encI (r3) 45 _ rfl rfl rfl (ev_callF rfl call_45 rfl) (fun own_ nw_ hs_ => shunterref05_Runes_g N s _ hr4 hs_.view ) (fun _ _ v_ L_ U_ => ⟨fun h_ => h_ _ hr4, fun h_ => by intro _ e_; cases Option.some.inj (e_.symm.trans hr4); exact h_⟩) (fun s5 S6 H7 => ?_)
  refine r_v (s5) rfl rfl rfl rfl ?_
  refine lx_nil ?_
  refine hK2 _ _ ?_; try clear hK2 K2
  refine A_cut (fun tt ll => (shunterref05_May_k1 N r3  = some r) ∧ Is [(3, s5)] (List.flatten [S6]) tt ll) ?_ ?_
  · refine A_seq fun K41 hK41 => ?_
    refine A_reg ?_
    refine r_v (s5) rfl rfl rfl rfl ?_
    refine r_v (Value.int .i64 (((r3).length : Int))) rfl rfl rfl (ev_lenSl rfl rfl rfl (Sl.shp H7)) ?_
    refine r_v (Value.bool (decide ((((r3).length : Int) : Int) < 1))) rfl rfl rfl rfl ?_
    refine r_v (Value.bool (decide ((((r3).length : Int) : Int) < 1))) rfl rfl rfl rfl ?_
    rcases hg42 : (decide ((((r3).length : Int) : Int) < 1)) with _ | _
    · replace hM := ifn (of_decide_eq_false hg42) hM
      refine r_y rfl ?_
      refine r_v (s5) rfl rfl rfl rfl ?_
      refine r_y rfl ?_
      refine r_v (Value.int .i64 (((r3).length : Int))) rfl rfl rfl (ev_lenSl rfl rfl rfl (Sl.shp H7)) ?_
      refine r_y rfl ?_
      refine r_v (Value.bool (decide ((((r3).length : Int) : Int) > 24))) rfl rfl rfl rfl ?_
      refine r_v (Value.bool (decide ((((r3).length : Int) : Int) > 24))) rfl rfl rfl rfl ?_
      refine r_v (Value.bool (decide ((((r3).length : Int) : Int) > 24))) rfl rfl rfl rfl ?_
      rcases hg43 : (decide ((((r3).length : Int) : Int) > 24)) with _ | _
      · replace hM := ifn (of_decide_eq_false hg43) hM
        refine r_y rfl ?_
        refine r_v (s5) rfl rfl rfl rfl ?_
        refine r_y rfl ?_
        replace hM := ck_some hM; obtain ⟨ck44, hM⟩ := hM
        refine r_v (elA s5 (((0 : Int)).toNat * 1)) rfl rfl rfl (ev_v (ev_idxSl rfl rfl rfl (Sl.shp H7) ck44)) ?_
        refine r_y rfl ?_
        refine r_le (Value.int .i64 ((r3)[((0 : Int)).toNat]!)) (En := encI) ((r3)[((0 : Int)).toNat]!) (((0 : Int)).toNat) 0 rfl rfl (rd_own H7 (mem_chunk (Ls := [S6]) (k := 0) rfl rfl)) (get_of ck44) rfl ?_
        refine r_y rfl ?_
        replace hM := bind_sm hM; obtain ⟨r45, hr46, hM⟩ := hM
        refine r_c (Value.bool (r45)) rfl _ _ (ev_callF rfl call_46 rfl) (shunterref05_Letter_g N ((r3)[((0 : Int)).toNat]!) _ hr46) ?_
        refine r_y rfl ?_
        refine r_v (Value.bool (!(r45))) rfl rfl rfl rfl ?_
        refine r_v (Value.bool (!(r45))) rfl rfl rfl rfl ?_
        refine lx_nil ?_
        refine hK41 _ _ ?_; try clear hK41 K41
        refine A_cond (!(r45)) rfl (fun hc47 => ?_) (fun hc47 => ?_)
        · replace hM := ifn (Bool.eq_false_iff.1 (not_t hc47)) hM
          refine A_seq fun K48 hK48 => ?_
          refine A_reg ?_
          refine r_v (Value.bool (false)) rfl rfl rfl rfl ?_
          refine lx_nil ?_
          refine hK48 _ _ ?_; try clear hK48 K48
          obtain rfl := Option.some.inj hM
          refine A_ret (fun hn => ends_eq (v0 := Value.bool (false)) rfl (res1 rfl))
        · replace hM := ifp (not_f hc47) hM
          refine A_skip ?_
          refine fg _ (Sub.pick [S6] [0] rfl) ?_
          exact ⟨hM, is_mk rfl rfl⟩
      · replace hM := ifp (of_decide_eq_true hg43) hM
        refine r_n true rfl (by decide) rfl ?_
        refine r_n true rfl (by decide) rfl ?_
        refine r_n true rfl (by decide) rfl ?_
        refine r_n true rfl (by decide) rfl ?_
        refine r_n true rfl (by decide) rfl ?_
        refine r_v (Value.bool (true)) rfl rfl rfl rfl ?_
        refine lx_nil ?_
        refine hK41 _ _ ?_; try clear hK41 K41
        refine A_cond true rfl (fun _ => ?_) (fun h_ => nomatch h_)
        refine A_seq fun K49 hK49 => ?_
        refine A_reg ?_
        refine r_v (Value.bool (false)) rfl rfl rfl rfl ?_
        refine lx_nil ?_
        refine hK49 _ _ ?_; try clear hK49 K49
        obtain rfl := Option.some.inj hM
        refine A_ret (fun hn => ends_eq (v0 := Value.bool (false)) rfl (res1 rfl))
    · replace hM := ifp (of_decide_eq_true hg42) hM
      refine r_n true rfl (by decide) rfl ?_
      refine r_n true rfl (by decide) rfl ?_
      refine r_n true rfl (by decide) rfl ?_
      refine r_v (Value.bool (true)) rfl rfl rfl rfl ?_
      refine r_v (Value.bool (true)) rfl rfl rfl rfl ?_
      refine r_n true rfl (by decide) rfl ?_
      refine r_n true rfl (by decide) rfl ?_
      refine r_n true rfl (by decide) rfl ?_
      refine r_n true rfl (by decide) rfl ?_
      refine r_n true rfl (by decide) rfl ?_
      refine r_v (Value.bool (true)) rfl rfl rfl rfl ?_
      refine lx_nil ?_
      refine hK41 _ _ ?_; try clear hK41 K41
      refine A_cond true rfl (fun _ => ?_) (fun h_ => nomatch h_)
      refine A_seq fun K50 hK50 => ?_
      refine A_reg ?_
      refine r_v (Value.bool (false)) rfl rfl rfl rfl ?_
      refine lx_nil ?_
      refine hK50 _ _ ?_; try clear hK50 K50
      obtain rfl := Option.some.inj hM
      refine A_ret (fun hn => ends_eq (v0 := Value.bool (false)) rfl (res1 rfl))
  · clear hM; rintro t l ⟨hM, ⟨T, rfl⟩, rfl⟩
    unfold shunterref05_May_k1 at hM
    refine A_seq fun K8 hK8 => ?_
    refine A_seq fun K9 hK9 => ?_
    refine A_reg ?_
    refine r_v (Value.int .i64 (0)) rfl rfl rfl rfl ?_
    refine lx_nil ?_
    refine hK9 _ _ ?_; try clear hK9 K9
    refine A_block ?_
    refine A_forget _ (Sub.pick [S6] [0] rfl) ?_
    refine A_loop (fun tt ll nn => ∃ (n10 : Nat) (i2_ : Int), (shunterref05_May_l3 N r3 n10 i2_ = some r) ∧ Is [(3, s5), (4, Value.int .i64 (i2_))] (List.flatten [S6]) tt ll ∧ nn = n10 + 1) (N + 1) ?_ ?_
    · exact ⟨N, 0, hM, is_mk rfl rfl, rfl⟩
    · clear hM; rintro t l _ ⟨n10, i2_, hM, ⟨⟨T, rfl⟩, rfl⟩, rfl⟩
      rcases n10 with _ | n10
      · exact absurd hM (by simp [shunterref05_May_l3])
      rw [shunterref05_May_l3] at hM
      refine A_seq fun K11 hK11 => ?_
      refine A_seq fun K12 hK12 => ?_
      refine A_reg ?_
      refine r_v (Value.int .i64 (i2_)) rfl rfl rfl rfl ?_
      refine r_v (s5) rfl rfl rfl rfl ?_
      refine r_v (Value.int .i64 (((r3).length : Int))) rfl rfl rfl (ev_lenSl rfl rfl rfl (Sl.shp H7)) ?_
      refine r_v (Value.bool (decide ((i2_ : Int) < ((r3).length : Int)))) rfl rfl rfl rfl ?_
      refine lx_nil ?_
      refine hK12 _ _ ?_; try clear hK12 K12
      refine A_cond (decide ((i2_ : Int) < ((r3).length : Int))) rfl (fun hc13 => ?_) (fun hc13 => ?_)
      · replace hM := ifp (of_decide_eq_true hc13) hM
        refine A_skip ?_
        refine hK11 _ _ ?_; try clear hK11 K11
        refine A_seq fun K14 hK14 => ?_
        refine A_block ?_
        refine A_seq fun K15 hK15 => ?_
        refine A_reg ?_
        refine r_v (s5) rfl rfl rfl rfl ?_
        refine r_v (Value.int .i64 (i2_)) rfl rfl rfl rfl ?_
        replace hM := ck_some hM; obtain ⟨ck16, hM⟩ := hM
        refine r_v (elA s5 ((i2_).toNat * 1)) rfl rfl rfl (ev_v (ev_idxSl rfl rfl rfl (Sl.shp H7) ck16)) ?_
        refine r_le (Value.int .i64 ((r3)[(i2_).toNat]!)) (En := encI) ((r3)[(i2_).toNat]!) ((i2_).toNat) 0 rfl rfl (rd_own H7 (mem_chunk (Ls := [S6]) (k := 0) rfl rfl)) (get_of ck16) rfl ?_
        replace hM := bind_sm hM; obtain ⟨r17, hr18, hM⟩ := hM
        refine r_c (Value.bool (r17)) rfl _ _ (ev_callF rfl call_46 rfl) (shunterref05_Letter_g N ((r3)[(i2_).toNat]!) _ hr18) ?_
        refine r_v (Value.bool (!(r17))) rfl rfl rfl rfl ?_
        refine r_v (Value.bool (!(r17))) rfl rfl rfl rfl ?_
        rcases hg19 : (!(r17)) with _ | _
        · replace hM := ifp (not_f hg19) hM
          refine r_n false rfl (by decide) rfl ?_
          refine r_n false rfl (by decide) rfl ?_
          refine r_n false rfl (by decide) rfl ?_
          refine r_n false rfl (by decide) rfl ?_
          refine r_n false rfl (by decide) rfl ?_
          refine r_n false rfl (by decide) rfl ?_
          refine r_nu rfl rfl ?_
          refine r_nu rfl rfl ?_
          refine r_nu rfl rfl ?_
          refine r_nu rfl rfl ?_
          refine r_nu rfl rfl ?_
          refine r_n false rfl (by decide) rfl ?_
          refine r_n false rfl (by decide) rfl ?_
          refine r_v (Value.bool (false)) rfl rfl rfl rfl ?_
          refine r_v (Value.bool (false)) rfl rfl rfl rfl ?_
          refine r_n false rfl (by decide) rfl ?_
          refine r_n false rfl (by decide) rfl ?_
          refine r_n false rfl (by decide) rfl ?_
          refine r_n false rfl (by decide) rfl ?_
          refine r_n false rfl (by decide) rfl ?_
          refine r_v (Value.bool (false)) rfl rfl rfl rfl ?_
          refine r_v (Value.bool (false)) rfl rfl rfl rfl ?_
          refine r_n false rfl (by decide) rfl ?_
          refine r_n false rfl (by decide) rfl ?_
          refine r_n false rfl (by decide) rfl ?_
          refine r_n false rfl (by decide) rfl ?_
          refine r_n false rfl (by decide) rfl ?_
          refine r_v (Value.bool (false)) rfl rfl rfl rfl ?_
          refine lx_nil ?_
          refine hK15 _ _ ?_; try clear hK15 K15
          refine A_gen [(3, s5), (4, Value.int .i64 (i2_)), (62, Value.bool (false))] rfl (fun T => ?_)
          refine A_cond false rfl (fun h_ => nomatch h_) (fun _ => ?_)
          refine A_skip ?_
          refine hK14 _ _ ?_; try clear hK14 K14
          refine A_reg ?_
          refine r_v (Value.int .i64 (i2_)) rfl rfl rfl rfl ?_
          replace hM := ck_some hM; obtain ⟨ck20, hM⟩ := hM
          refine r_v (Value.int .i64 ((i2_ + 1))) rfl rfl (wi64 rfl ck20.1 ck20.2) rfl ?_
          refine r_v (Value.int .i64 ((i2_ + 1))) rfl rfl rfl rfl ?_
          refine lx_nil ?_
          refine fg _ (Sub.pick [S6] [0] rfl) ?_
          exact ⟨n10 + 1, by omega, n10, (i2_ + 1), hM, is_mk (by first | rfl | (simp only [hg19]; done) | (simp only [hg19]; rfl) | (simp only [app_hl]; rfl)) rfl, rfl⟩
        · replace hM := ifn (Bool.eq_false_iff.1 (not_t hg19)) hM
          refine r_y rfl ?_
          refine r_v (s5) rfl rfl rfl rfl ?_
          refine r_y rfl ?_
          refine r_v (Value.int .i64 (i2_)) rfl rfl rfl rfl ?_
          refine r_y rfl ?_
          replace hM := ck_some hM; obtain ⟨ck21, hM⟩ := hM
          refine r_v (elA s5 ((i2_).toNat * 1)) rfl rfl rfl (ev_v (ev_idxSl rfl rfl rfl (Sl.shp H7) ck21)) ?_
          refine r_y rfl ?_
          refine r_le (Value.int .i64 ((r3)[(i2_).toNat]!)) (En := encI) ((r3)[(i2_).toNat]!) ((i2_).toNat) 0 rfl rfl (rd_own H7 (mem_chunk (Ls := [S6]) (k := 0) rfl rfl)) (get_of ck21) rfl ?_
          refine r_y rfl ?_
          refine r_v (Value.bool (decide (((r3)[(i2_).toNat]! : Int) ≥ 48))) rfl rfl rfl rfl ?_
          refine r_y rfl ?_
          refine r_v (Value.bool (decide (((r3)[(i2_).toNat]! : Int) ≥ 48))) rfl rfl rfl rfl ?_
          rcases hg22 : (decide (((r3)[(i2_).toNat]! : Int) ≥ 48)) with _ | _
          · replace hM := ifn (of_decide_eq_false hg22) hM
            refine r_n false rfl (by decide) rfl ?_
            refine r_n false rfl (by decide) rfl ?_
            refine r_n false rfl (by decide) rfl ?_
            refine r_n false rfl (by decide) rfl ?_
            refine r_n false rfl (by decide) rfl ?_
            refine r_y rfl ?_
            refine r_v (Value.bool (false)) rfl rfl rfl rfl ?_
            refine r_y rfl ?_
            refine r_v (Value.bool (true)) rfl rfl rfl rfl ?_
            refine r_v (Value.bool (true)) rfl rfl rfl rfl ?_
            refine r_v (Value.bool (true)) rfl rfl rfl rfl ?_
            refine r_y rfl ?_
            refine r_v (s5) rfl rfl rfl rfl ?_
            refine r_y rfl ?_
            refine r_v (Value.int .i64 (i2_)) rfl rfl rfl rfl ?_
            refine r_y rfl ?_
            replace hM := ck_some hM; obtain ⟨ck23, hM⟩ := hM
            refine r_v (elA s5 ((i2_).toNat * 1)) rfl rfl rfl (ev_v (ev_idxSl rfl rfl rfl (Sl.shp H7) ck23)) ?_
            refine r_y rfl ?_
            refine r_le (Value.int .i64 ((r3)[(i2_).toNat]!)) (En := encI) ((r3)[(i2_).toNat]!) ((i2_).toNat) 0 rfl rfl (rd_own H7 (mem_chunk (Ls := [S6]) (k := 0) rfl rfl)) (get_of ck23) rfl ?_
            refine r_y rfl ?_
            refine r_v (Value.bool ((((r3)[(i2_).toNat]! : Int) != 45))) rfl rfl rfl rfl ?_
            refine r_v (Value.bool ((((r3)[(i2_).toNat]! : Int) != 45))) rfl rfl rfl rfl ?_
            refine r_v (Value.bool ((((r3)[(i2_).toNat]! : Int) != 45))) rfl rfl rfl rfl ?_
            rcases hg24 : ((((r3)[(i2_).toNat]! : Int) != 45)) with _ | _
            · replace hM := ifn (bne_f hg24) hM
              refine r_n false rfl (by decide) rfl ?_
              refine r_n false rfl (by decide) rfl ?_
              refine r_n false rfl (by decide) rfl ?_
              refine r_n false rfl (by decide) rfl ?_
              refine r_n false rfl (by decide) rfl ?_
              refine r_v (Value.bool (false)) rfl rfl rfl rfl ?_
              refine lx_nil ?_
              refine hK15 _ _ ?_; try clear hK15 K15
              refine A_gen [(3, s5), (4, Value.int .i64 (i2_)), (62, Value.bool (false))] rfl (fun T => ?_)
              refine A_cond false rfl (fun h_ => nomatch h_) (fun _ => ?_)
              refine A_skip ?_
              refine hK14 _ _ ?_; try clear hK14 K14
              refine A_reg ?_
              refine r_v (Value.int .i64 (i2_)) rfl rfl rfl rfl ?_
              replace hM := ck_some hM; obtain ⟨ck25, hM⟩ := hM
              refine r_v (Value.int .i64 ((i2_ + 1))) rfl rfl (wi64 rfl ck25.1 ck25.2) rfl ?_
              refine r_v (Value.int .i64 ((i2_ + 1))) rfl rfl rfl rfl ?_
              refine lx_nil ?_
              refine fg _ (Sub.pick [S6] [0] rfl) ?_
              exact ⟨n10 + 1, by omega, n10, (i2_ + 1), hM, is_mk (by first | rfl | (simp only [hg19, hg22, hg24]; done) | (simp only [hg19, hg22, hg24]; rfl) | (simp only [app_hl]; rfl)) rfl, rfl⟩
            · replace hM := ifp (bne_iff_ne.1 hg24) hM
              refine r_y rfl ?_
              refine r_v (s5) rfl rfl rfl rfl ?_
              refine r_y rfl ?_
              refine r_v (Value.int .i64 (i2_)) rfl rfl rfl rfl ?_
              refine r_y rfl ?_
              replace hM := ck_some hM; obtain ⟨ck26, hM⟩ := hM
              refine r_v (elA s5 ((i2_).toNat * 1)) rfl rfl rfl (ev_v (ev_idxSl rfl rfl rfl (Sl.shp H7) ck26)) ?_
              refine r_y rfl ?_
              refine r_le (Value.int .i64 ((r3)[(i2_).toNat]!)) (En := encI) ((r3)[(i2_).toNat]!) ((i2_).toNat) 0 rfl rfl (rd_own H7 (mem_chunk (Ls := [S6]) (k := 0) rfl rfl)) (get_of ck26) rfl ?_
              refine r_y rfl ?_
              refine r_v (Value.bool ((((r3)[(i2_).toNat]! : Int) != 46))) rfl rfl rfl rfl ?_
              refine r_v (Value.bool ((((r3)[(i2_).toNat]! : Int) != 46))) rfl rfl rfl rfl ?_
              refine lx_nil ?_
              refine hK15 _ _ ?_; try clear hK15 K15
              refine A_gen [(3, s5), (4, Value.int .i64 (i2_)), (62, Value.bool ((((r3)[(i2_).toNat]! : Int) != 46)))] rfl (fun T => ?_)
              refine A_cond ((((r3)[(i2_).toNat]! : Int) != 46)) rfl (fun hc27 => ?_) (fun hc27 => ?_)
              · replace hM := ifp (bne_iff_ne.1 hc27) hM
                refine A_seq fun K28 hK28 => ?_
                refine A_reg ?_
                refine r_v (Value.bool (false)) rfl rfl rfl rfl ?_
                refine lx_nil ?_
                refine hK28 _ _ ?_; try clear hK28 K28
                obtain rfl := Option.some.inj hM
                refine A_ret (fun hn => ends_eq (v0 := Value.bool (false)) rfl (res1 rfl))
              · replace hM := ifn (bne_f hc27) hM
                refine A_skip ?_
                refine hK14 _ _ ?_; try clear hK14 K14
                refine A_reg ?_
                refine r_v (Value.int .i64 (i2_)) rfl rfl rfl rfl ?_
                replace hM := ck_some hM; obtain ⟨ck29, hM⟩ := hM
                refine r_v (Value.int .i64 ((i2_ + 1))) rfl rfl (wi64 rfl ck29.1 ck29.2) rfl ?_
                refine r_v (Value.int .i64 ((i2_ + 1))) rfl rfl rfl rfl ?_
                refine lx_nil ?_
                refine fg _ (Sub.pick [S6] [0] rfl) ?_
                exact ⟨n10 + 1, by omega, n10, (i2_ + 1), hM, is_mk (by first | rfl | (simp only [hg19, hg22, hg24]; done) | (simp only [hg19, hg22, hg24]; rfl) | (simp only [app_hl]; rfl)) rfl, rfl⟩
          · replace hM := ifp (of_decide_eq_true hg22) hM
            refine r_y rfl ?_
            refine r_v (s5) rfl rfl rfl rfl ?_
            refine r_y rfl ?_
            refine r_v (Value.int .i64 (i2_)) rfl rfl rfl rfl ?_
            refine r_y rfl ?_
            replace hM := ck_some hM; obtain ⟨ck30, hM⟩ := hM
            refine r_v (elA s5 ((i2_).toNat * 1)) rfl rfl rfl (ev_v (ev_idxSl rfl rfl rfl (Sl.shp H7) ck30)) ?_
            refine r_y rfl ?_
            refine r_le (Value.int .i64 ((r3)[(i2_).toNat]!)) (En := encI) ((r3)[(i2_).toNat]!) ((i2_).toNat) 0 rfl rfl (rd_own H7 (mem_chunk (Ls := [S6]) (k := 0) rfl rfl)) (get_of ck30) rfl ?_
            refine r_y rfl ?_
            refine r_v (Value.bool (decide (((r3)[(i2_).toNat]! : Int) ≤ 57))) rfl rfl rfl rfl ?_
            refine r_y rfl ?_
            refine r_v (Value.bool (decide (((r3)[(i2_).toNat]! : Int) ≤ 57))) rfl rfl rfl rfl ?_
            refine r_y rfl ?_
            refine r_v (Value.bool (!(decide (((r3)[(i2_).toNat]! : Int) ≤ 57)))) rfl rfl rfl rfl ?_
            refine r_v (Value.bool (!(decide (((r3)[(i2_).toNat]! : Int) ≤ 57)))) rfl rfl rfl rfl ?_
            refine r_v (Value.bool (!(decide (((r3)[(i2_).toNat]! : Int) ≤ 57)))) rfl rfl rfl rfl ?_
            rcases hg31 : (!(decide (((r3)[(i2_).toNat]! : Int) ≤ 57))) with _ | _
            · replace hM := ifp (of_decide_eq_true (not_f hg31)) hM
              refine r_n false rfl (by decide) rfl ?_
              refine r_n false rfl (by decide) rfl ?_
              refine r_n false rfl (by decide) rfl ?_
              refine r_n false rfl (by decide) rfl ?_
              refine r_n false rfl (by decide) rfl ?_
              refine r_v (Value.bool (false)) rfl rfl rfl rfl ?_
              refine r_v (Value.bool (false)) rfl rfl rfl rfl ?_
              refine r_n false rfl (by decide) rfl ?_
              refine r_n false rfl (by decide) rfl ?_
              refine r_n false rfl (by decide) rfl ?_
              refine r_n false rfl (by decide) rfl ?_
              refine r_n false rfl (by decide) rfl ?_
              refine r_v (Value.bool (false)) rfl rfl rfl rfl ?_
              refine lx_nil ?_
              refine hK15 _ _ ?_; try clear hK15 K15
              refine A_gen [(3, s5), (4, Value.int .i64 (i2_)), (62, Value.bool (false))] rfl (fun T => ?_)
              refine A_cond false rfl (fun h_ => nomatch h_) (fun _ => ?_)
              refine A_skip ?_
              refine hK14 _ _ ?_; try clear hK14 K14
              refine A_reg ?_
              refine r_v (Value.int .i64 (i2_)) rfl rfl rfl rfl ?_
              replace hM := ck_some hM; obtain ⟨ck32, hM⟩ := hM
              refine r_v (Value.int .i64 ((i2_ + 1))) rfl rfl (wi64 rfl ck32.1 ck32.2) rfl ?_
              refine r_v (Value.int .i64 ((i2_ + 1))) rfl rfl rfl rfl ?_
              refine lx_nil ?_
              refine fg _ (Sub.pick [S6] [0] rfl) ?_
              exact ⟨n10 + 1, by omega, n10, (i2_ + 1), hM, is_mk (by first | rfl | (simp only [hg19, hg22, hg31]; done) | (simp only [hg19, hg22, hg31]; rfl) | (simp only [app_hl]; rfl)) rfl, rfl⟩
            · replace hM := ifn (of_decide_eq_false (not_t hg31)) hM
              refine r_y rfl ?_
              refine r_v (s5) rfl rfl rfl rfl ?_
              refine r_y rfl ?_
              refine r_v (Value.int .i64 (i2_)) rfl rfl rfl rfl ?_
              refine r_y rfl ?_
              replace hM := ck_some hM; obtain ⟨ck33, hM⟩ := hM
              refine r_v (elA s5 ((i2_).toNat * 1)) rfl rfl rfl (ev_v (ev_idxSl rfl rfl rfl (Sl.shp H7) ck33)) ?_
              refine r_y rfl ?_
              refine r_le (Value.int .i64 ((r3)[(i2_).toNat]!)) (En := encI) ((r3)[(i2_).toNat]!) ((i2_).toNat) 0 rfl rfl (rd_own H7 (mem_chunk (Ls := [S6]) (k := 0) rfl rfl)) (get_of ck33) rfl ?_
              refine r_y rfl ?_
              refine r_v (Value.bool ((((r3)[(i2_).toNat]! : Int) != 45))) rfl rfl rfl rfl ?_
              refine r_v (Value.bool ((((r3)[(i2_).toNat]! : Int) != 45))) rfl rfl rfl rfl ?_
              refine r_v (Value.bool ((((r3)[(i2_).toNat]! : Int) != 45))) rfl rfl rfl rfl ?_
              rcases hg34 : ((((r3)[(i2_).toNat]! : Int) != 45)) with _ | _
              · replace hM := ifn (bne_f hg34) hM
                refine r_n false rfl (by decide) rfl ?_
                refine r_n false rfl (by decide) rfl ?_
                refine r_n false rfl (by decide) rfl ?_
                refine r_n false rfl (by decide) rfl ?_
                refine r_n false rfl (by decide) rfl ?_
                refine r_v (Value.bool (false)) rfl rfl rfl rfl ?_
                refine lx_nil ?_
                refine hK15 _ _ ?_; try clear hK15 K15
                refine A_gen [(3, s5), (4, Value.int .i64 (i2_)), (62, Value.bool (false))] rfl (fun T => ?_)
                refine A_cond false rfl (fun h_ => nomatch h_) (fun _ => ?_)
                refine A_skip ?_
                refine hK14 _ _ ?_; try clear hK14 K14
                refine A_reg ?_
                refine r_v (Value.int .i64 (i2_)) rfl rfl rfl rfl ?_
                replace hM := ck_some hM; obtain ⟨ck35, hM⟩ := hM
                refine r_v (Value.int .i64 ((i2_ + 1))) rfl rfl (wi64 rfl ck35.1 ck35.2) rfl ?_
                refine r_v (Value.int .i64 ((i2_ + 1))) rfl rfl rfl rfl ?_
                refine lx_nil ?_
                refine fg _ (Sub.pick [S6] [0] rfl) ?_
                exact ⟨n10 + 1, by omega, n10, (i2_ + 1), hM, is_mk (by first | rfl | (simp only [hg19, hg22, hg31, hg34]; done) | (simp only [hg19, hg22, hg31, hg34]; rfl) | (simp only [app_hl]; rfl)) rfl, rfl⟩
              · replace hM := ifp (bne_iff_ne.1 hg34) hM
                refine r_y rfl ?_
                refine r_v (s5) rfl rfl rfl rfl ?_
                refine r_y rfl ?_
                refine r_v (Value.int .i64 (i2_)) rfl rfl rfl rfl ?_
                refine r_y rfl ?_
                replace hM := ck_some hM; obtain ⟨ck36, hM⟩ := hM
                refine r_v (elA s5 ((i2_).toNat * 1)) rfl rfl rfl (ev_v (ev_idxSl rfl rfl rfl (Sl.shp H7) ck36)) ?_
                refine r_y rfl ?_
                refine r_le (Value.int .i64 ((r3)[(i2_).toNat]!)) (En := encI) ((r3)[(i2_).toNat]!) ((i2_).toNat) 0 rfl rfl (rd_own H7 (mem_chunk (Ls := [S6]) (k := 0) rfl rfl)) (get_of ck36) rfl ?_
                refine r_y rfl ?_
                refine r_v (Value.bool ((((r3)[(i2_).toNat]! : Int) != 46))) rfl rfl rfl rfl ?_
                refine r_v (Value.bool ((((r3)[(i2_).toNat]! : Int) != 46))) rfl rfl rfl rfl ?_
                refine lx_nil ?_
                refine hK15 _ _ ?_; try clear hK15 K15
                refine A_gen [(3, s5), (4, Value.int .i64 (i2_)), (62, Value.bool ((((r3)[(i2_).toNat]! : Int) != 46)))] rfl (fun T => ?_)
                refine A_cond ((((r3)[(i2_).toNat]! : Int) != 46)) rfl (fun hc37 => ?_) (fun hc37 => ?_)
                · replace hM := ifp (bne_iff_ne.1 hc37) hM
                  refine A_seq fun K38 hK38 => ?_
                  refine A_reg ?_
                  refine r_v (Value.bool (false)) rfl rfl rfl rfl ?_
                  refine lx_nil ?_
                  refine hK38 _ _ ?_; try clear hK38 K38
                  obtain rfl := Option.some.inj hM
                  refine A_ret (fun hn => ends_eq (v0 := Value.bool (false)) rfl (res1 rfl))
                · replace hM := ifn (bne_f hc37) hM
                  refine A_skip ?_
                  refine hK14 _ _ ?_; try clear hK14 K14
                  refine A_reg ?_
                  refine r_v (Value.int .i64 (i2_)) rfl rfl rfl rfl ?_
                  replace hM := ck_some hM; obtain ⟨ck39, hM⟩ := hM
                  refine r_v (Value.int .i64 ((i2_ + 1))) rfl rfl (wi64 rfl ck39.1 ck39.2) rfl ?_
                  refine r_v (Value.int .i64 ((i2_ + 1))) rfl rfl rfl rfl ?_
                  refine lx_nil ?_
                  refine fg _ (Sub.pick [S6] [0] rfl) ?_
                  exact ⟨n10 + 1, by omega, n10, (i2_ + 1), hM, is_mk (by first | rfl | (simp only [hg19, hg22, hg31, hg34]; done) | (simp only [hg19, hg22, hg31, hg34]; rfl) | (simp only [app_hl]; rfl)) rfl, rfl⟩
      · replace hM := ifn (of_decide_eq_false hc13) hM
        refine A_exit ?_
        refine hK8 _ _ ?_; try clear hK8 K8
        refine A_seq fun K40 hK40 => ?_
        refine A_reg ?_
        refine r_v (Value.bool (true)) rfl rfl rfl rfl ?_
        refine lx_nil ?_
        refine hK40 _ _ ?_; try clear hK40 K40
        obtain rfl := Option.some.inj hM
        refine A_ret (fun hn => ends_eq (v0 := Value.bool (true)) rfl (res1 rfl))
def shunterref07_TakeName_v1_m (N : Nat) (r_0 : List UInt8) (r_1 : Int) (r_2 : Int) (r_3 : Int) : Option ((List UInt8) × Int × Int × Int × (List UInt8)) := if (r_2 : Int) ≠ 0 then some (r_0, r_1, r_2, r_3, []) else (shunterref07_Take_v1_m N r_0 r_1 r_2 r_3 1 255).bind fun r9 => if (r9.2.2.1 : Int) ≠ 0 then some (r9.1, r9.2.1, r9.2.2.1, r9.2.2.2.1, []) else if (((r9.1).length : Int) : Int) < r9.2.2.2.2 then (shunterref07_fail_v1_m N r_0 r_1 r_2 r_3 3 r_1).bind fun r22 => some (r22.1, r22.2.1, r22.2.2.1, r22.2.2.2, []) else ck (0 ≤ r9.2.2.2.2 ∧ r9.2.2.2.2 ≤ ((r9.1).length : Int)) ((shunterref05_May_m N (((r9.1).take ((r9.2.2.2.2).toNat)).drop (0))).bind fun r30 => if (r30) = true then ck (0 ≤ r9.2.2.2.2 ∧ r9.2.2.2.2 ≤ ((r9.1).length : Int)) (ck ((-9223372036854775808 ≤ (r9.2.1 + r9.2.2.2.2) ∧ (r9.2.1 + r9.2.2.2.2) ≤ 9223372036854775807)) (some (((r9.1).take ((r9.1).length)).drop ((r9.2.2.2.2).toNat), (r9.2.1 + r9.2.2.2.2), r9.2.2.1, r9.2.2.2.1, ((r9.1).take ((r9.2.2.2.2).toNat)).drop (0)))) else (shunterref07_fail_v1_m N r_0 r_1 r_2 r_3 4 r_1).bind fun r34 => some (r34.1, r34.2.1, r34.2.2.1, r34.2.2.2, []))
set_option maxRecDepth 100000 in
set_option maxHeartbeats 8000000 in
theorem shunterref07_TakeName_v1_g (N : Nat) (r_0 : List UInt8) (r_1 : Int) (r_2 : Int) (r_3 : Int) (r : (List UInt8) × Int × Int × Int × (List UInt8)) (hM : shunterref07_TakeName_v1_m N r_0 r_1 r_2 r_3 = some r) (ro : Addr → Option Value) (r_0v : Value) (hr_0 : Rd encY ro r_0v r_0) : Does Try.prog 37 #[Value.agg #[r_0v, Value.int .i64 (r_1), Value.int .i64 (r_2), Value.int .i64 (r_3)]] ro [] (pO [] (oR encY ro r.1 fun s_0 => (oE (Value.tuple #[Value.agg #[s_0, Value.int .i64 (r.2.1), Value.int .i64 (r.2.2.1), Value.int .i64 (r.2.2.2.1)], Value.string (⟨(r.2.2.2.2).toArray⟩)]) []))) := by
  unfold shunterref07_TakeName_v1_m at hM
  refine doesO_of_A follows Try.func37 rfl 53 rfl (upd (fun _ => undef) 0 (Value.agg #[r_0v, Value.int .i64 (r_1), Value.int .i64 (r_2), Value.int .i64 (r_3)])) (by funext k; match k with | 0 => rfl | k + 1 => rfl) (fun _ _ h_ _ => h_) (fun base0_ => ?_)
  refine A_seq fun K1 hK1 => ?_
  refine A_reg ?_
  refine r_a (39, #[r_0v, Value.int .i64 (r_1), Value.int .i64 (r_2), Value.int .i64 (r_3)]) rfl rfl rfl (fun b2 => ?_) (.inr rfl)
  refine r_a (39, #[Value.slice none 0 0, Value.int .i64 (0), Value.int .i64 (0), Value.int .i64 (0)]) rfl rfl rfl (fun b3 => ?_) (.inr rfl)
  refine r_v (Value.string (⟨#[]⟩)) rfl rfl rfl rfl ?_
  refine lx_nil ?_
  refine hK1 _ _ ?_; try clear hK1 K1
  refine A_seq fun K4 hK4 => ?_
  refine A_seq fun K5 hK5 => ?_
  refine A_reg ?_
  refine r_v (Value.pointer (some ⟨b2, 2, none⟩)) rfl rfl rfl rfl ?_
  refine r_l (Value.int .i64 (r_2)) 1 _ _ _ _ rfl rfl rfl rfl rfl ?_
  refine r_v (Value.bool (((r_2 : Int) != 0))) rfl rfl rfl rfl ?_
  refine lx_nil ?_
  refine hK5 _ _ ?_; try clear hK5 K5
  refine A_cond (((r_2 : Int) != 0)) rfl (fun hc6 => ?_) (fun hc6 => ?_)
  · replace hM := ifp (bne_iff_ne.1 hc6) hM
    refine A_seq fun K7 hK7 => ?_
    refine A_reg ?_
    refine r_l (Value.agg #[r_0v, Value.int .i64 (r_1), Value.int .i64 (r_2), Value.int .i64 (r_3)]) 1 _ _ _ _ rfl rfl rfl rfl rfl ?_
    refine r_s [(b3, 39, #[r_0v, Value.int .i64 (r_1), Value.int .i64 (r_2), Value.int .i64 (r_3)]), (b2, 39, #[r_0v, Value.int .i64 (r_1), Value.int .i64 (r_2), Value.int .i64 (r_3)])] 0 _ _ _ (#[Value.slice none 0 0, Value.int .i64 (0), Value.int .i64 (0), Value.int .i64 (0)]) (#[r_0v, Value.int .i64 (r_1), Value.int .i64 (r_2), Value.int .i64 (r_3)]) (#[r_0v, Value.int .i64 (r_1), Value.int .i64 (r_2), Value.int .i64 (r_3)]) rfl rfl rfl rfl (.ofS rfl rfl (all_cons' (Shp.one (Rd.shp hr_0)) (all_cons' rfl (all_cons' rfl (all_cons' rfl all_nil'))))) rfl rfl ?_
    refine r_v (Value.string (⟨#[]⟩)) rfl rfl rfl rfl ?_
    refine lx_nil ?_
    refine hK7 _ _ ?_; try clear hK7 K7
    obtain rfl := Option.some.inj hM
    refine A_ret (fun hn => endsO (v0 := Value.tuple #[Value.agg #[r_0v, Value.int .i64 (r_1), Value.int .i64 (r_2), Value.int .i64 (r_3)], Value.string (⟨#[]⟩)]) (O := []) (res2 (res_cell hn 0 rfl rfl rfl) rfl) (Sub.nil _) ⟨r_0v, hr_0, ⟨rfl, rfl⟩⟩)
  · replace hM := ifn (bne_f hc6) hM
    refine A_skip ?_
    refine hK4 _ _ ?_; try clear hK4 K4
    refine A_seq fun K8 hK8 => ?_
    refine A_regC [(some 13, true)] (conG Try.prog [(13, fun _ _ v_ L_ U_ => ∀ u0_, shunterref07_Take_v1_m N r_0 r_1 r_2 r_3 1 255 = some u0_ → (pO (List.flatten []) (oR encY ro u0_.1 fun s_0 => (oE (Value.tuple #[Value.agg #[s_0, Value.int .i64 (u0_.2.1), Value.int .i64 (u0_.2.2.1), Value.int .i64 (u0_.2.2.2.1)], Value.int .i64 (u0_.2.2.2.2)]) []))) v_ L_ U_)]) ?_
    refine r_l (Value.agg #[r_0v, Value.int .i64 (r_1), Value.int .i64 (r_2), Value.int .i64 (r_3)]) 1 _ _ _ _ rfl rfl rfl rfl rfl ?_
    replace hM := bind_sm hM; obtain ⟨r9, hr10, hM⟩ := hM
    refine r_gm (Ls := [[(b3, 39, #[Value.slice none 0 0, Value.int .i64 (0), Value.int .i64 (0), Value.int .i64 (0)])], [(b2, 39, #[r_0v, Value.int .i64 (r_1), Value.int .i64 (r_2), Value.int .i64 (r_3)])]]) (FL := []) (RL := [[(b3, 39, #[Value.slice none 0 0, Value.int .i64 (0), Value.int .i64 (0), Value.int .i64 (0)])], [(b2, 39, #[r_0v, Value.int .i64 (r_1), Value.int .i64 (r_2), Value.int .i64 (r_3)])]]) [] (oR encY ro r9.1 fun s_0 => (oE (Value.tuple #[Value.agg #[s_0, Value.int .i64 (r9.2.1), Value.int .i64 (r9.2.2.1), Value.int .i64 (r9.2.2.2.1)], Value.int .i64 (r9.2.2.2.2)]) [])) (some 13) 35 _ rfl rfl rfl rfl rfl (ev_callF rfl call_35 rfl) (fun own_ nw_ hn_ hs_ => DoesI.ro_mono (ro_sans (Ls := [[(b3, 39, #[Value.slice none 0 0, Value.int .i64 (0), Value.int .i64 (0), Value.int .i64 (0)])], [(b2, 39, #[r_0v, Value.int .i64 (r_1), Value.int .i64 (r_2), Value.int .i64 (r_3)])]]) (is := []) rfl hs_) (shunterref07_Take_v1_g N r_0 r_1 r_2 r_3 1 255 _ hr10 ro r_0v hr_0)) (fun _ _ v_ L_ U_ => ⟨fun h_ => h_ _ hr10, fun h_ => by intro _ e_; cases Option.some.inj (e_.symm.trans hr10); exact h_⟩) (fun h_ => nomatch h_) ?_
    rintro _ _ ⟨s11, hs12, ⟨rfl, rfl⟩⟩
    refine lx_perm (Ls := [[(b3, 39, #[Value.slice none 0 0, Value.int .i64 (0), Value.int .i64 (0), Value.int .i64 (0)])], [(b2, 39, #[r_0v, Value.int .i64 (r_1), Value.int .i64 (r_2), Value.int .i64 (r_3)])]]) (Ls' := [[(b3, 39, #[Value.slice none 0 0, Value.int .i64 (0), Value.int .i64 (0), Value.int .i64 (0)])], [(b2, 39, #[r_0v, Value.int .i64 (r_1), Value.int .i64 (r_2), Value.int .i64 (r_3)])]]) [0, 1] rfl rfl ?_
    refine r_v (Value.tuple #[Value.agg #[s11, Value.int .i64 (r9.2.1), Value.int .i64 (r9.2.2.1), Value.int .i64 (r9.2.2.2.1)], Value.int .i64 (r9.2.2.2.2)]) rfl rfl rfl rfl ?_
    refine r_v (Value.agg #[s11, Value.int .i64 (r9.2.1), Value.int .i64 (r9.2.2.1), Value.int .i64 (r9.2.2.2.1)]) rfl rfl rfl rfl ?_
    refine r_v (Value.int .i64 (r9.2.2.2.2)) rfl rfl rfl rfl ?_
    refine r_a (39, #[Value.slice none 0 0, Value.int .i64 (0), Value.int .i64 (0), Value.int .i64 (0)]) rfl rfl rfl (fun b13 => ?_) (.inr rfl)
    refine r_s [(b13, 39, #[s11, Value.int .i64 (r9.2.1), Value.int .i64 (r9.2.2.1), Value.int .i64 (r9.2.2.2.1)]), (b3, 39, #[Value.slice none 0 0, Value.int .i64 (0), Value.int .i64 (0), Value.int .i64 (0)]), (b2, 39, #[r_0v, Value.int .i64 (r_1), Value.int .i64 (r_2), Value.int .i64 (r_3)])] 0 _ _ _ (#[Value.slice none 0 0, Value.int .i64 (0), Value.int .i64 (0), Value.int .i64 (0)]) (#[s11, Value.int .i64 (r9.2.1), Value.int .i64 (r9.2.2.1), Value.int .i64 (r9.2.2.2.1)]) (#[s11, Value.int .i64 (r9.2.1), Value.int .i64 (r9.2.2.1), Value.int .i64 (r9.2.2.2.1)]) rfl rfl rfl rfl (.ofS rfl rfl (all_cons' (Shp.one (Rd.shp hs12)) (all_cons' rfl (all_cons' rfl (all_cons' rfl all_nil'))))) rfl rfl ?_
    refine r_v (Value.int .i64 (r9.2.2.2.2)) rfl rfl rfl rfl ?_
    refine lx_nil ?_
    refine hK8 _ _ ?_; try clear hK8 K8
    refine A_seq fun K14 hK14 => ?_
    refine A_seq fun K15 hK15 => ?_
    refine A_reg ?_
    refine r_v (Value.pointer (some ⟨b13, 2, none⟩)) rfl rfl rfl rfl ?_
    refine r_l (Value.int .i64 (r9.2.2.1)) 0 _ _ _ _ rfl rfl rfl rfl rfl ?_
    refine r_v (Value.bool (((r9.2.2.1 : Int) != 0))) rfl rfl rfl rfl ?_
    refine lx_nil ?_
    refine hK15 _ _ ?_; try clear hK15 K15
    refine A_cond (((r9.2.2.1 : Int) != 0)) rfl (fun hc16 => ?_) (fun hc16 => ?_)
    · replace hM := ifp (bne_iff_ne.1 hc16) hM
      refine A_seq fun K17 hK17 => ?_
      refine A_reg ?_
      refine r_l (Value.agg #[s11, Value.int .i64 (r9.2.1), Value.int .i64 (r9.2.2.1), Value.int .i64 (r9.2.2.2.1)]) 0 _ _ _ _ rfl rfl rfl rfl rfl ?_
      refine r_s [(b13, 39, #[s11, Value.int .i64 (r9.2.1), Value.int .i64 (r9.2.2.1), Value.int .i64 (r9.2.2.2.1)]), (b3, 39, #[s11, Value.int .i64 (r9.2.1), Value.int .i64 (r9.2.2.1), Value.int .i64 (r9.2.2.2.1)]), (b2, 39, #[r_0v, Value.int .i64 (r_1), Value.int .i64 (r_2), Value.int .i64 (r_3)])] 1 _ _ _ (#[Value.slice none 0 0, Value.int .i64 (0), Value.int .i64 (0), Value.int .i64 (0)]) (#[s11, Value.int .i64 (r9.2.1), Value.int .i64 (r9.2.2.1), Value.int .i64 (r9.2.2.2.1)]) (#[s11, Value.int .i64 (r9.2.1), Value.int .i64 (r9.2.2.1), Value.int .i64 (r9.2.2.2.1)]) rfl rfl rfl rfl (.ofS rfl rfl (all_cons' (Shp.one (Rd.shp hs12)) (all_cons' rfl (all_cons' rfl (all_cons' rfl all_nil'))))) rfl rfl ?_
      refine r_v (Value.string (⟨#[]⟩)) rfl rfl rfl rfl ?_
      refine lx_nil ?_
      refine hK17 _ _ ?_; try clear hK17 K17
      obtain rfl := Option.some.inj hM
      refine A_ret (fun hn => endsO (v0 := Value.tuple #[Value.agg #[s11, Value.int .i64 (r9.2.1), Value.int .i64 (r9.2.2.1), Value.int .i64 (r9.2.2.2.1)], Value.string (⟨#[]⟩)]) (O := []) (res2 (res_cell hn 1 rfl rfl rfl) rfl) (Sub.nil _) ⟨s11, hs12, ⟨rfl, rfl⟩⟩)
    · replace hM := ifn (bne_f hc16) hM
      refine A_skip ?_
      refine hK14 _ _ ?_; try clear hK14 K14
      refine A_seq fun K18 hK18 => ?_
      refine A_seq fun K19 hK19 => ?_
      refine A_reg ?_
      refine r_v (Value.pointer (some ⟨b13, 0, none⟩)) rfl rfl rfl rfl ?_
      refine r_l (s11) 0 _ _ _ _ rfl rfl rfl rfl rfl ?_
      refine r_v (Value.int .i64 (((r9.1).length : Int))) rfl rfl rfl (ev_lenSl rfl rfl rfl (Rd.shp hs12)) ?_
      refine r_v (Value.int .i64 (r9.2.2.2.2)) rfl rfl rfl rfl ?_
      refine r_v (Value.bool (decide ((((r9.1).length : Int) : Int) < r9.2.2.2.2))) rfl rfl rfl rfl ?_
      refine lx_nil ?_
      refine hK19 _ _ ?_; try clear hK19 K19
      refine A_cond (decide ((((r9.1).length : Int) : Int) < r9.2.2.2.2)) rfl (fun hc20 => ?_) (fun hc20 => ?_)
      · replace hM := ifp (of_decide_eq_true hc20) hM
        refine A_seq fun K21 hK21 => ?_
        refine A_regC [(some 28, true)] (conG Try.prog [(28, fun _ _ v_ L_ U_ => ∀ u0_, shunterref07_fail_v1_m N r_0 r_1 r_2 r_3 3 r_1 = some u0_ → (pO (List.flatten []) (oR encY ro u0_.1 fun s_0 => (oE (Value.agg #[s_0, Value.int .i64 (u0_.2.1), Value.int .i64 (u0_.2.2.1), Value.int .i64 (u0_.2.2.2)]) []))) v_ L_ U_)]) ?_
        refine r_l (Value.agg #[r_0v, Value.int .i64 (r_1), Value.int .i64 (r_2), Value.int .i64 (r_3)]) 2 _ _ _ _ rfl rfl rfl rfl rfl ?_
        refine r_v (Value.pointer (some ⟨b2, 1, none⟩)) rfl rfl rfl rfl ?_
        refine r_l (Value.int .i64 (r_1)) 2 _ _ _ _ rfl rfl rfl rfl rfl ?_
        replace hM := bind_sm hM; obtain ⟨r22, hr23, hM⟩ := hM
        refine r_gm (Ls := [[(b13, 39, #[s11, Value.int .i64 (r9.2.1), Value.int .i64 (r9.2.2.1), Value.int .i64 (r9.2.2.2.1)])], [(b3, 39, #[Value.slice none 0 0, Value.int .i64 (0), Value.int .i64 (0), Value.int .i64 (0)])], [(b2, 39, #[r_0v, Value.int .i64 (r_1), Value.int .i64 (r_2), Value.int .i64 (r_3)])]]) (FL := []) (RL := [[(b13, 39, #[s11, Value.int .i64 (r9.2.1), Value.int .i64 (r9.2.2.1), Value.int .i64 (r9.2.2.2.1)])], [(b3, 39, #[Value.slice none 0 0, Value.int .i64 (0), Value.int .i64 (0), Value.int .i64 (0)])], [(b2, 39, #[r_0v, Value.int .i64 (r_1), Value.int .i64 (r_2), Value.int .i64 (r_3)])]]) [] (oR encY ro r22.1 fun s_0 => (oE (Value.agg #[s_0, Value.int .i64 (r22.2.1), Value.int .i64 (r22.2.2.1), Value.int .i64 (r22.2.2.2)]) [])) (some 28) 60 _ rfl rfl rfl rfl rfl (ev_callF rfl call_60 rfl) (fun own_ nw_ hn_ hs_ => DoesI.ro_mono (ro_sans (Ls := [[(b13, 39, #[s11, Value.int .i64 (r9.2.1), Value.int .i64 (r9.2.2.1), Value.int .i64 (r9.2.2.2.1)])], [(b3, 39, #[Value.slice none 0 0, Value.int .i64 (0), Value.int .i64 (0), Value.int .i64 (0)])], [(b2, 39, #[r_0v, Value.int .i64 (r_1), Value.int .i64 (r_2), Value.int .i64 (r_3)])]]) (is := []) rfl hs_) (shunterref07_fail_v1_g N r_0 r_1 r_2 r_3 3 r_1 _ hr23 ro r_0v hr_0)) (fun _ _ v_ L_ U_ => ⟨fun h_ => h_ _ hr23, fun h_ => by intro _ e_; cases Option.some.inj (e_.symm.trans hr23); exact h_⟩) (fun h_ => nomatch h_) ?_
        rintro _ _ ⟨s24, hs25, ⟨rfl, rfl⟩⟩
        refine lx_perm (Ls := [[(b13, 39, #[s11, Value.int .i64 (r9.2.1), Value.int .i64 (r9.2.2.1), Value.int .i64 (r9.2.2.2.1)])], [(b3, 39, #[Value.slice none 0 0, Value.int .i64 (0), Value.int .i64 (0), Value.int .i64 (0)])], [(b2, 39, #[r_0v, Value.int .i64 (r_1), Value.int .i64 (r_2), Value.int .i64 (r_3)])]]) (Ls' := [[(b13, 39, #[s11, Value.int .i64 (r9.2.1), Value.int .i64 (r9.2.2.1), Value.int .i64 (r9.2.2.2.1)])], [(b3, 39, #[Value.slice none 0 0, Value.int .i64 (0), Value.int .i64 (0), Value.int .i64 (0)])], [(b2, 39, #[r_0v, Value.int .i64 (r_1), Value.int .i64 (r_2), Value.int .i64 (r_3)])]]) [0, 1, 2] rfl rfl ?_
        refine r_s [(b13, 39, #[s11, Value.int .i64 (r9.2.1), Value.int .i64 (r9.2.2.1), Value.int .i64 (r9.2.2.2.1)]), (b3, 39, #[s24, Value.int .i64 (r22.2.1), Value.int .i64 (r22.2.2.1), Value.int .i64 (r22.2.2.2)]), (b2, 39, #[r_0v, Value.int .i64 (r_1), Value.int .i64 (r_2), Value.int .i64 (r_3)])] 1 _ _ _ (#[Value.slice none 0 0, Value.int .i64 (0), Value.int .i64 (0), Value.int .i64 (0)]) (#[s24, Value.int .i64 (r22.2.1), Value.int .i64 (r22.2.2.1), Value.int .i64 (r22.2.2.2)]) (#[s24, Value.int .i64 (r22.2.1), Value.int .i64 (r22.2.2.1), Value.int .i64 (r22.2.2.2)]) rfl rfl rfl rfl (.ofS rfl rfl (all_cons' (Shp.one (Rd.shp hs25)) (all_cons' rfl (all_cons' rfl (all_cons' rfl all_nil'))))) rfl rfl ?_
        refine r_v (Value.string (⟨#[]⟩)) rfl rfl rfl rfl ?_
        refine lx_nil ?_
        refine hK21 _ _ ?_; try clear hK21 K21
        obtain rfl := Option.some.inj hM
        refine A_ret (fun hn => endsO (v0 := Value.tuple #[Value.agg #[s24, Value.int .i64 (r22.2.1), Value.int .i64 (r22.2.2.1), Value.int .i64 (r22.2.2.2)], Value.string (⟨#[]⟩)]) (O := []) (res2 (res_cell hn 1 rfl rfl rfl) rfl) (Sub.nil _) ⟨s24, hs25, ⟨rfl, rfl⟩⟩)
      · replace hM := ifn (of_decide_eq_false hc20) hM
        refine A_skip ?_
        refine hK18 _ _ ?_; try clear hK18 K18
        refine A_seq fun K26 hK26 => ?_
        refine A_reg ?_
        refine r_v (Value.pointer (some ⟨b13, 0, none⟩)) rfl rfl rfl rfl ?_
        refine r_l (s11) 0 _ _ _ _ rfl rfl rfl rfl rfl ?_
        refine r_v (Value.int .i64 (r9.2.2.2.2)) rfl rfl rfl rfl ?_
        replace hM := ck_some hM; obtain ⟨ck27, hM⟩ := hM
        refine r_v (subA s11 (0) ((r9.2.2.2.2).toNat) 1) rfl rfl rfl (ev_v (ev_subSl2 rfl rfl rfl rfl (Rd.shp hs12) ck27)) ?_
        refine r_stl (e := 5) (((r9.1).take ((r9.2.2.2.2).toNat)).drop (0)) rfl rfl rfl rfl rfl (rd_sub (rd_ro hs12) (Nat.zero_le _) (toNat_len ck27.2)) ?_
        refine r_v (Value.string (⟨(((r9.1).take ((r9.2.2.2.2).toNat)).drop (0)).toArray⟩)) rfl rfl rfl rfl ?_
        refine lx_nil ?_
        refine hK26 _ _ ?_; try clear hK26 K26
        refine A_seq fun K28 hK28 => ?_
        refine A_seq fun K29 hK29 => ?_
        refine A_reg ?_
        refine r_v (Value.string (⟨(((r9.1).take ((r9.2.2.2.2).toNat)).drop (0)).toArray⟩)) rfl rfl rfl rfl ?_
        replace hM := bind_sm hM; obtain ⟨r30, hr31, hM⟩ := hM
        refine r_c (Value.bool (r30)) rfl _ _ (ev_callF rfl call_18 rfl) (shunterref05_May_g N (((r9.1).take ((r9.2.2.2.2).toNat)).drop (0)) _ hr31) ?_
        refine r_v (Value.bool (!(r30))) rfl rfl rfl rfl ?_
        refine lx_nil ?_
        refine hK29 _ _ ?_; try clear hK29 K29
        refine A_cond (!(r30)) rfl (fun hc32 => ?_) (fun hc32 => ?_)
        · replace hM := ifn (Bool.eq_false_iff.1 (not_t hc32)) hM
          refine A_seq fun K33 hK33 => ?_
          refine A_regC [(some 40, true)] (conG Try.prog [(40, fun _ _ v_ L_ U_ => ∀ u0_, shunterref07_fail_v1_m N r_0 r_1 r_2 r_3 4 r_1 = some u0_ → (pO (List.flatten []) (oR encY ro u0_.1 fun s_0 => (oE (Value.agg #[s_0, Value.int .i64 (u0_.2.1), Value.int .i64 (u0_.2.2.1), Value.int .i64 (u0_.2.2.2)]) []))) v_ L_ U_)]) ?_
          refine r_l (Value.agg #[r_0v, Value.int .i64 (r_1), Value.int .i64 (r_2), Value.int .i64 (r_3)]) 2 _ _ _ _ rfl rfl rfl rfl rfl ?_
          refine r_v (Value.pointer (some ⟨b2, 1, none⟩)) rfl rfl rfl rfl ?_
          refine r_l (Value.int .i64 (r_1)) 2 _ _ _ _ rfl rfl rfl rfl rfl ?_
          replace hM := bind_sm hM; obtain ⟨r34, hr35, hM⟩ := hM
          refine r_gm (Ls := [[(b13, 39, #[s11, Value.int .i64 (r9.2.1), Value.int .i64 (r9.2.2.1), Value.int .i64 (r9.2.2.2.1)])], [(b3, 39, #[Value.slice none 0 0, Value.int .i64 (0), Value.int .i64 (0), Value.int .i64 (0)])], [(b2, 39, #[r_0v, Value.int .i64 (r_1), Value.int .i64 (r_2), Value.int .i64 (r_3)])]]) (FL := []) (RL := [[(b13, 39, #[s11, Value.int .i64 (r9.2.1), Value.int .i64 (r9.2.2.1), Value.int .i64 (r9.2.2.2.1)])], [(b3, 39, #[Value.slice none 0 0, Value.int .i64 (0), Value.int .i64 (0), Value.int .i64 (0)])], [(b2, 39, #[r_0v, Value.int .i64 (r_1), Value.int .i64 (r_2), Value.int .i64 (r_3)])]]) [] (oR encY ro r34.1 fun s_0 => (oE (Value.agg #[s_0, Value.int .i64 (r34.2.1), Value.int .i64 (r34.2.2.1), Value.int .i64 (r34.2.2.2)]) [])) (some 40) 60 _ rfl rfl rfl rfl rfl (ev_callF rfl call_60 rfl) (fun own_ nw_ hn_ hs_ => DoesI.ro_mono (ro_sans (Ls := [[(b13, 39, #[s11, Value.int .i64 (r9.2.1), Value.int .i64 (r9.2.2.1), Value.int .i64 (r9.2.2.2.1)])], [(b3, 39, #[Value.slice none 0 0, Value.int .i64 (0), Value.int .i64 (0), Value.int .i64 (0)])], [(b2, 39, #[r_0v, Value.int .i64 (r_1), Value.int .i64 (r_2), Value.int .i64 (r_3)])]]) (is := []) rfl hs_) (shunterref07_fail_v1_g N r_0 r_1 r_2 r_3 4 r_1 _ hr35 ro r_0v hr_0)) (fun _ _ v_ L_ U_ => ⟨fun h_ => h_ _ hr35, fun h_ => by intro _ e_; cases Option.some.inj (e_.symm.trans hr35); exact h_⟩) (fun h_ => nomatch h_) ?_
          rintro _ _ ⟨s36, hs37, ⟨rfl, rfl⟩⟩
          refine lx_perm (Ls := [[(b13, 39, #[s11, Value.int .i64 (r9.2.1), Value.int .i64 (r9.2.2.1), Value.int .i64 (r9.2.2.2.1)])], [(b3, 39, #[Value.slice none 0 0, Value.int .i64 (0), Value.int .i64 (0), Value.int .i64 (0)])], [(b2, 39, #[r_0v, Value.int .i64 (r_1), Value.int .i64 (r_2), Value.int .i64 (r_3)])]]) (Ls' := [[(b13, 39, #[s11, Value.int .i64 (r9.2.1), Value.int .i64 (r9.2.2.1), Value.int .i64 (r9.2.2.2.1)])], [(b3, 39, #[Value.slice none 0 0, Value.int .i64 (0), Value.int .i64 (0), Value.int .i64 (0)])], [(b2, 39, #[r_0v, Value.int .i64 (r_1), Value.int .i64 (r_2), Value.int .i64 (r_3)])]]) [0, 1, 2] rfl rfl ?_
          refine r_s [(b13, 39, #[s11, Value.int .i64 (r9.2.1), Value.int .i64 (r9.2.2.1), Value.int .i64 (r9.2.2.2.1)]), (b3, 39, #[s36, Value.int .i64 (r34.2.1), Value.int .i64 (r34.2.2.1), Value.int .i64 (r34.2.2.2)]), (b2, 39, #[r_0v, Value.int .i64 (r_1), Value.int .i64 (r_2), Value.int .i64 (r_3)])] 1 _ _ _ (#[Value.slice none 0 0, Value.int .i64 (0), Value.int .i64 (0), Value.int .i64 (0)]) (#[s36, Value.int .i64 (r34.2.1), Value.int .i64 (r34.2.2.1), Value.int .i64 (r34.2.2.2)]) (#[s36, Value.int .i64 (r34.2.1), Value.int .i64 (r34.2.2.1), Value.int .i64 (r34.2.2.2)]) rfl rfl rfl rfl (.ofS rfl rfl (all_cons' (Shp.one (Rd.shp hs37)) (all_cons' rfl (all_cons' rfl (all_cons' rfl all_nil'))))) rfl rfl ?_
          refine r_v (Value.string (⟨#[]⟩)) rfl rfl rfl rfl ?_
          refine lx_nil ?_
          refine hK33 _ _ ?_; try clear hK33 K33
          refine A_gen [(2, Value.pointer (some ⟨b3, 0, none⟩)), (3, Value.string (⟨#[]⟩))] rfl (fun T => ?_)
          obtain rfl := Option.some.inj hM
          refine A_ret (fun hn => endsO (v0 := Value.tuple #[Value.agg #[s36, Value.int .i64 (r34.2.1), Value.int .i64 (r34.2.2.1), Value.int .i64 (r34.2.2.2)], Value.string (⟨#[]⟩)]) (O := []) (res2 (res_cell hn 1 rfl rfl rfl) rfl) (Sub.nil _) ⟨s36, hs37, ⟨rfl, rfl⟩⟩)
        · replace hM := ifp (not_f hc32) hM
          refine A_skip ?_
          refine hK28 _ _ ?_; try clear hK28 K28
          refine A_gen [(2, Value.pointer (some ⟨b3, 0, none⟩)), (4, Value.pointer (some ⟨b13, 0, none⟩)), (5, Value.int .i64 (r9.2.2.2.2)), (6, Value.string (⟨(((r9.1).take ((r9.2.2.2.2).toNat)).drop (0)).toArray⟩))] rfl (fun T => ?_)
          refine A_seq fun K38 hK38 => ?_
          refine A_reg ?_
          refine r_v (Value.pointer (some ⟨b13, 0, none⟩)) rfl rfl rfl rfl ?_
          refine r_l (s11) 0 _ _ _ _ rfl rfl rfl rfl rfl ?_
          refine r_v (Value.int .i64 (r9.2.2.2.2)) rfl rfl rfl rfl ?_
          replace hM := ck_some hM; obtain ⟨ck39, hM⟩ := hM
          refine r_v (subA s11 ((r9.2.2.2.2).toNat) ((r9.1).length) 1) rfl rfl rfl (ev_v (ev_subSl1 rfl rfl rfl rfl (Rd.shp hs12) ck39)) ?_
          refine r_v (Value.pointer (some ⟨b13, 0, none⟩)) rfl rfl rfl rfl ?_
          refine r_s [(b13, 39, #[subA s11 ((r9.2.2.2.2).toNat) ((r9.1).length) 1, Value.int .i64 (r9.2.1), Value.int .i64 (r9.2.2.1), Value.int .i64 (r9.2.2.2.1)]), (b3, 39, #[Value.slice none 0 0, Value.int .i64 (0), Value.int .i64 (0), Value.int .i64 (0)]), (b2, 39, #[r_0v, Value.int .i64 (r_1), Value.int .i64 (r_2), Value.int .i64 (r_3)])] 0 _ _ _ (#[s11, Value.int .i64 (r9.2.1), Value.int .i64 (r9.2.2.1), Value.int .i64 (r9.2.2.2.1)]) (#[subA s11 ((r9.2.2.2.2).toNat) ((r9.1).length) 1]) (#[subA s11 ((r9.2.2.2.2).toNat) ((r9.1).length) 1, Value.int .i64 (r9.2.1), Value.int .i64 (r9.2.2.1), Value.int .i64 (r9.2.2.2.1)]) rfl rfl rfl (cells_sl rfl (shp_len (Shp.sub (Rd.shp hs12) (toNat_len ck39.2) (Nat.le_refl _)) (len_td (Nat.le_refl _)))) (.ofS rfl rfl (all_cons' (Shp.one (shp_len (Shp.sub (Rd.shp hs12) (toNat_len ck39.2) (Nat.le_refl _)) (len_td (Nat.le_refl _)))) all_nil')) rfl rfl ?_
          refine lx_nil ?_
          refine hK38 _ _ ?_; try clear hK38 K38
          refine A_seq fun K40 hK40 => ?_
          refine A_reg ?_
          refine r_v (Value.pointer (some ⟨b13, 1, none⟩)) rfl rfl rfl rfl ?_
          refine r_l (Value.int .i64 (r9.2.1)) 0 _ _ _ _ rfl rfl rfl rfl rfl ?_
          refine r_v (Value.int .i64 (r9.2.2.2.2)) rfl rfl rfl rfl ?_
          replace hM := ck_some hM; obtain ⟨ck41, hM⟩ := hM
          refine r_v (Value.int .i64 ((r9.2.1 + r9.2.2.2.2))) rfl rfl (wi64 rfl ck41.1 ck41.2) rfl ?_
          refine r_v (Value.pointer (some ⟨b13, 1, none⟩)) rfl rfl rfl rfl ?_
          refine r_s [(b13, 39, #[subA s11 ((r9.2.2.2.2).toNat) ((r9.1).length) 1, Value.int .i64 ((r9.2.1 + r9.2.2.2.2)), Value.int .i64 (r9.2.2.1), Value.int .i64 (r9.2.2.2.1)]), (b3, 39, #[Value.slice none 0 0, Value.int .i64 (0), Value.int .i64 (0), Value.int .i64 (0)]), (b2, 39, #[r_0v, Value.int .i64 (r_1), Value.int .i64 (r_2), Value.int .i64 (r_3)])] 0 _ _ _ (#[subA s11 ((r9.2.2.2.2).toNat) ((r9.1).length) 1, Value.int .i64 (r9.2.1), Value.int .i64 (r9.2.2.1), Value.int .i64 (r9.2.2.2.1)]) (#[Value.int .i64 ((r9.2.1 + r9.2.2.2.2))]) (#[subA s11 ((r9.2.2.2.2).toNat) ((r9.1).length) 1, Value.int .i64 ((r9.2.1 + r9.2.2.2.2)), Value.int .i64 (r9.2.2.1), Value.int .i64 (r9.2.2.2.1)]) rfl rfl rfl rfl (.of rfl rfl) rfl rfl ?_
          refine lx_nil ?_
          refine hK40 _ _ ?_; try clear hK40 K40
          refine A_seq fun K42 hK42 => ?_
          refine A_reg ?_
          refine r_l (Value.agg #[subA s11 ((r9.2.2.2.2).toNat) ((r9.1).length) 1, Value.int .i64 ((r9.2.1 + r9.2.2.2.2)), Value.int .i64 (r9.2.2.1), Value.int .i64 (r9.2.2.2.1)]) 0 _ _ _ _ rfl rfl rfl rfl rfl ?_
          refine r_v (Value.string (⟨(((r9.1).take ((r9.2.2.2.2).toNat)).drop (0)).toArray⟩)) rfl rfl rfl rfl ?_
          refine r_s [(b13, 39, #[subA s11 ((r9.2.2.2.2).toNat) ((r9.1).length) 1, Value.int .i64 ((r9.2.1 + r9.2.2.2.2)), Value.int .i64 (r9.2.2.1), Value.int .i64 (r9.2.2.2.1)]), (b3, 39, #[subA s11 ((r9.2.2.2.2).toNat) ((r9.1).length) 1, Value.int .i64 ((r9.2.1 + r9.2.2.2.2)), Value.int .i64 (r9.2.2.1), Value.int .i64 (r9.2.2.2.1)]), (b2, 39, #[r_0v, Value.int .i64 (r_1), Value.int .i64 (r_2), Value.int .i64 (r_3)])] 1 _ _ _ (#[Value.slice none 0 0, Value.int .i64 (0), Value.int .i64 (0), Value.int .i64 (0)]) (#[subA s11 ((r9.2.2.2.2).toNat) ((r9.1).length) 1, Value.int .i64 ((r9.2.1 + r9.2.2.2.2)), Value.int .i64 (r9.2.2.1), Value.int .i64 (r9.2.2.2.1)]) (#[subA s11 ((r9.2.2.2.2).toNat) ((r9.1).length) 1, Value.int .i64 ((r9.2.1 + r9.2.2.2.2)), Value.int .i64 (r9.2.2.1), Value.int .i64 (r9.2.2.2.1)]) rfl rfl rfl rfl (.ofS rfl rfl (all_cons' (Shp.one (shp_len (Shp.sub (Rd.shp hs12) (toNat_len ck39.2) (Nat.le_refl _)) (len_td (Nat.le_refl _)))) (all_cons' rfl (all_cons' rfl (all_cons' rfl all_nil'))))) rfl rfl ?_
          refine r_v (Value.string (⟨(((r9.1).take ((r9.2.2.2.2).toNat)).drop (0)).toArray⟩)) rfl rfl rfl rfl ?_
          refine lx_nil ?_
          refine hK42 _ _ ?_; try clear hK42 K42
          obtain rfl := Option.some.inj hM
          refine A_ret (fun hn => endsO (v0 := Value.tuple #[Value.agg #[subA s11 ((r9.2.2.2.2).toNat) ((r9.1).length) 1, Value.int .i64 ((r9.2.1 + r9.2.2.2.2)), Value.int .i64 (r9.2.2.1), Value.int .i64 (r9.2.2.2.1)], Value.string (⟨(((r9.1).take ((r9.2.2.2.2).toNat)).drop (0)).toArray⟩)]) (O := []) (res2 (res_cell hn 1 rfl rfl rfl) rfl) (Sub.nil _) ⟨subA s11 ((r9.2.2.2.2).toNat) ((r9.1).length) 1, (Rd.sub hs12 (toNat_len ck39.2) (Nat.le_refl _)), ⟨rfl, rfl⟩⟩)
def wire_listOf_api_Vec__v2_l5 (N : Nat) (r5 : Int × (List UInt8) × Int × Int) : Nat → List (Int × BitVec 128) → Int → List UInt8 → Int → Int → Option ((List (Int × BitVec 128)) × (List UInt8) × Int × Int)
  | 0, _, _, _, _, _ => none
  | n10 + 1, l1_, x2_, rv4_, m3__1, m3__2 => if (x2_ : Int) < r5.1 then (wire_Reader_Vec_v1_m N rv4_ m3__1 m3__2).bind fun r15 => ck ((r15.2.2.1).length = (rv4_).length) (ck ((l1_).length + ([(r15.1, r15.2.1)]).length ≤ 5864062014805) (ck ((-9223372036854775808 ≤ (x2_ + 1) ∧ (x2_ + 1) ≤ 9223372036854775807)) ((wire_listOf_api_Vec__v2_l5 N r5 n10) ((l1_ ++ ([(r15.1, r15.2.1)]))) ((x2_ + 1)) (r15.2.2.1) (r15.2.2.2.1) (r15.2.2.2.2)))) else (wire_Reader_Bad_v1_m N rv4_ m3__1 m3__2).bind fun r30 => if (r30) = true then some ([], rv4_, m3__1, m3__2) else some (l1_, rv4_, m3__1, m3__2)
def wire_listOf_api_Vec__v2_m (N : Nat) (r_0 : List UInt8) (r_1 : Int) (r_2 : Int) (most : Int) : Option ((List (Int × BitVec 128)) × (List UInt8) × Int × Int) := (wire_Reader_number_v2_m N r_0 r_1 r_2 1 most 2).bind fun r5 => ck ((r5.2.1).length = (r_0).length) (wire_listOf_api_Vec__v2_l5 N r5 N ([]) (0) (r5.2.1) (r5.2.2.1) (r5.2.2.2))
set_option maxRecDepth 100000 in
set_option maxHeartbeats 8000000 in
theorem wire_listOf_api_Vec__v2_g (N : Nat) (r_0 : List UInt8) (r_1 : Int) (r_2 : Int) (most : Int) (r : (List (Int × BitVec 128)) × (List UInt8) × Int × Int) (hM : wire_listOf_api_Vec__v2_m N r_0 r_1 r_2 most = some r) (ro : Addr → Option Value) (br : Nat) (r_0v : Value) (Sr_0 : List Bl) (hr_0 : Sl 5 encY r_0v r_0 Sr_0) : Does Try.prog 63 #[Value.pointer (some ⟨br, 0, none⟩), Value.int .i64 (most), Value.func (.func 22) #[Value.pointer (some ⟨br, 0, none⟩)] #[]] ro (List.flatten [[(br, 69, #[r_0v, Value.int .i64 (r_1), Value.int .i64 (r_2)])], Sr_0]) (pO (List.flatten [[(br, 69, #[r_0v, Value.int .i64 (r_1), Value.int .i64 (r_2)])], Sr_0]) (oS 30 enc_30 r.1 fun s_0 => (oI 5 encY r_0v r.2.1 (oE (s_0) [[(br, 69, #[r_0v, Value.int .i64 (r.2.2.1), Value.int .i64 (r.2.2.2)])]])))) := by
  unfold wire_listOf_api_Vec__v2_m at hM
  refine doesO_of_A follows Try.func63 rfl 22 rfl (upd (upd (upd (fun _ => undef) 2 (Value.func (.func 22) #[Value.pointer (some ⟨br, 0, none⟩)] #[])) 1 (Value.int .i64 (most))) 0 (Value.pointer (some ⟨br, 0, none⟩))) (by funext k; match k with | 0 => rfl | 1 => rfl | 2 => rfl | k + 3 => rfl) (fun _ _ h_ _ => h_) (fun base0_ => ?_)
  refine A_seq fun K1 hK1 => ?_
  refine A_reg ?_
  refine r_v (Value.slice none 0 0) rfl rfl rfl rfl ?_
  refine lx_nil ?_
  refine hK1 _ _ ?_; try clear hK1 K1
  refine A_seq fun K2 hK2 => ?_
  refine A_reg ?_
  refine r_v (Value.slice none 0 0) rfl rfl rfl rfl ?_
  refine lx_nil ?_
  refine hK2 _ _ ?_; try clear hK2 K2
  refine A_seq fun K3 hK3 => ?_
  refine A_seq fun K4 hK4 => ?_
  refine A_regC [(some 10, true)] (conG Try.prog [(10, fun _ _ v_ L_ U_ => ∀ u0_, wire_Reader_number_v2_m N r_0 r_1 r_2 1 most 2 = some u0_ → (pO (List.flatten [[(br, 69, #[r_0v, Value.int .i64 (r_1), Value.int .i64 (r_2)])], Sr_0]) (oI 5 encY r_0v u0_.2.1 (oE (Value.int .i64 (u0_.1)) [[(br, 69, #[r_0v, Value.int .i64 (u0_.2.2.1), Value.int .i64 (u0_.2.2.2)])]]))) v_ L_ U_)]) ?_
  refine r_v (Value.pointer (some ⟨br, 0, none⟩)) rfl rfl rfl rfl ?_
  refine r_v (Value.int .i64 (most)) rfl rfl rfl rfl ?_
  replace hM := bind_sm hM; obtain ⟨r5, hr6, hM⟩ := hM
  replace hM := ck_some hM; obtain ⟨ck7, hM⟩ := hM
  refine r_gm (Ls := [[(br, 69, #[r_0v, Value.int .i64 (r_1), Value.int .i64 (r_2)])], Sr_0]) (FL := [[(br, 69, #[r_0v, Value.int .i64 (r_1), Value.int .i64 (r_2)])], Sr_0]) (RL := []) [0, 1] (oI 5 encY r_0v r5.2.1 (oE (Value.int .i64 (r5.1)) [[(br, 69, #[r_0v, Value.int .i64 (r5.2.2.1), Value.int .i64 (r5.2.2.2)])]])) (some 10) 47 _ rfl rfl rfl rfl rfl (ev_callF rfl call_47 rfl) (fun own_ nw_ hn_ hs_ => wire_Reader_number_v2_g N r_0 r_1 r_2 1 most 2 _ hr6 _ br r_0v Sr_0 hr_0) (fun _ _ v_ L_ U_ => ⟨fun h_ => h_ _ hr6, fun h_ => by intro _ e_; cases Option.some.inj (e_.symm.trans hr6); exact h_⟩) (fun h_ => nomatch h_) ?_
  rintro _ _ ⟨S8, _, H9, ⟨rfl, rfl⟩, rfl⟩
  refine lx_perm (Ls := [S8, [(br, 69, #[r_0v, Value.int .i64 (r5.2.2.1), Value.int .i64 (r5.2.2.2)])]]) (Ls' := [[(br, 69, #[r_0v, Value.int .i64 (r5.2.2.1), Value.int .i64 (r5.2.2.2)])], S8]) [1, 0] rfl rfl ?_
  refine r_v (Value.int .i64 (0)) rfl rfl rfl rfl ?_
  refine lx_nil ?_
  refine hK4 _ _ ?_; try clear hK4 K4
  refine A_block ?_
  refine A_forget _ (Sub.pickE (Ls := [[(br, 69, #[r_0v, Value.int .i64 (r5.2.2.1), Value.int .i64 (r5.2.2.2)])], S8, []]) (Ls0 := [[(br, 69, #[r_0v, Value.int .i64 (r5.2.2.1), Value.int .i64 (r5.2.2.2)])], S8]) rfl [0, 2, 1] rfl) ?_
  refine A_loop (fun tt ll nn => ∃ (n10 : Nat) (l1_ : List (Int × BitVec 128)) (x2_ : Int) (rv4_ : List UInt8) (m3__1 : Int) (m3__2 : Int), (wire_listOf_api_Vec__v2_l5 N r5 n10 l1_ x2_ rv4_ m3__1 m3__2 = some r) ∧ ∃ (vl1_ : Value) (Sl1_ : List Bl), Sl 30 enc_30 vl1_ l1_ Sl1_ ∧ ∃ (Srv4_ : List Bl), Sl 5 encY r_0v rv4_ Srv4_ ∧ Is [(0, Value.pointer (some ⟨br, 0, none⟩)), (2, Value.func (.func 22) #[Value.pointer (some ⟨br, 0, none⟩)] #[]), (7, vl1_), (10, Value.int .i64 (r5.1)), (11, Value.int .i64 (x2_))] (List.flatten [[(br, 69, #[r_0v, Value.int .i64 (m3__1), Value.int .i64 (m3__2)])], Sl1_, Srv4_]) tt ll ∧ nn = n10 + 1) (N + 1) ?_ ?_
  · exact ⟨N, [], 0, r5.2.1, r5.2.2.1, r5.2.2.2, hM, Value.slice none 0 0, [], Sl.nil, S8, H9, is_mk rfl rfl, rfl⟩
  · clear hM; rintro t l _ ⟨n10, l1_, x2_, rv4_, m3__1, m3__2, hM, vl1_, Sl1_, hl1_, Srv4_, hrv4_, ⟨⟨T, rfl⟩, rfl⟩, rfl⟩
    rcases n10 with _ | n10
    · exact absurd hM (by simp [wire_listOf_api_Vec__v2_l5])
    rw [wire_listOf_api_Vec__v2_l5] at hM
    refine A_seq fun K11 hK11 => ?_
    refine A_reg ?_
    refine r_v (Value.bool (decide ((x2_ : Int) < r5.1))) rfl rfl rfl rfl ?_
    refine lx_nil ?_
    refine hK11 _ _ ?_; try clear hK11 K11
    refine A_seq fun K12 hK12 => ?_
    refine A_cond (decide ((x2_ : Int) < r5.1)) rfl (fun hc13 => ?_) (fun hc13 => ?_)
    · replace hM := ifp (of_decide_eq_true hc13) hM
      refine A_skip ?_
      refine hK12 _ _ ?_; try clear hK12 K12
      refine A_seq fun K14 hK14 => ?_
      refine A_block ?_
      refine A_regC [(some 15, true), (some 16, false), (some 17, true)] (conG Try.prog [(15, fun _ _ v_ L_ U_ => ∀ u0_, wire_Reader_Vec_v1_m N rv4_ m3__1 m3__2 = some u0_ → (pO (List.flatten [[(br, 69, #[r_0v, Value.int .i64 (m3__1), Value.int .i64 (m3__2)])], Srv4_]) (oI 5 encY r_0v u0_.2.2.1 (oE (Value.agg #[Value.int .i64 (u0_.1), U (hi (u0_.2.1)), U (lo (u0_.2.1))]) [[(br, 69, #[r_0v, Value.int .i64 (u0_.2.2.2.1), Value.int .i64 (u0_.2.2.2.2)])]]))) v_ L_ U_)]) ?_
      refine r_v (vl1_) rfl rfl rfl rfl ?_
      refine r_v (Value.func (.func 22) #[Value.pointer (some ⟨br, 0, none⟩)] #[]) rfl rfl rfl rfl ?_
      replace hM := bind_sm hM; obtain ⟨r15, hr16, hM⟩ := hM
      replace hM := ck_some hM; obtain ⟨ck17, hM⟩ := hM
      refine r_gm (Ls := [[(br, 69, #[r_0v, Value.int .i64 (m3__1), Value.int .i64 (m3__2)])], Sl1_, Srv4_]) (FL := [[(br, 69, #[r_0v, Value.int .i64 (m3__1), Value.int .i64 (m3__2)])], Srv4_]) (RL := [Sl1_]) [0, 2] (oI 5 encY r_0v r15.2.2.1 (oE (Value.agg #[Value.int .i64 (r15.1), U (hi (r15.2.1)), U (lo (r15.2.1))]) [[(br, 69, #[r_0v, Value.int .i64 (r15.2.2.2.1), Value.int .i64 (r15.2.2.2.2)])]])) (some 15) 22 _ rfl rfl rfl rfl rfl (ev_callW (bd := [Value.pointer (some ⟨br, 0, none⟩)]) (caps := []) rfl call_22 rfl) (fun own_ nw_ hn_ hs_ => wire_Reader_Vec_v1_g N rv4_ m3__1 m3__2 _ hr16 _ br r_0v Srv4_ hrv4_) (fun _ _ v_ L_ U_ => ⟨fun h_ => h_ _ hr16, fun h_ => by intro _ e_; cases Option.some.inj (e_.symm.trans hr16); exact h_⟩) (fun h_ => nomatch h_) ?_
      rintro _ _ ⟨S18, _, H19, ⟨rfl, rfl⟩, rfl⟩
      refine lx_perm (Ls := [Sl1_, S18, [(br, 69, #[r_0v, Value.int .i64 (r15.2.2.2.1), Value.int .i64 (r15.2.2.2.2)])]]) (Ls' := [[(br, 69, #[r_0v, Value.int .i64 (r15.2.2.2.1), Value.int .i64 (r15.2.2.2.2)])], Sl1_, S18]) [2, 0, 1] rfl rfl ?_
      refine r_bs (cs0 := [(15, fun _ _ v_ L_ U_ => ∀ u0_, wire_Reader_Vec_v1_m N rv4_ m3__1 m3__2 = some u0_ → (pO (List.flatten [[(br, 69, #[r_0v, Value.int .i64 (m3__1), Value.int .i64 (m3__2)])], Srv4_]) (oI 5 encY r_0v u0_.2.2.1 (oE (Value.agg #[Value.int .i64 (u0_.1), U (hi (u0_.2.1)), U (lo (u0_.2.1))]) [[(br, 69, #[r_0v, Value.int .i64 (u0_.2.2.2.1), Value.int .i64 (u0_.2.2.2.2)])]]))) v_ L_ U_)]) (Ls := [[(br, 69, #[r_0v, Value.int .i64 (r15.2.2.2.1), Value.int .i64 (r15.2.2.2.2)])], Sl1_, S18]) 30 enc_30 [(r15.1, r15.2.1)] [Value.int .i64 (r15.1), U (hi (r15.2.1)), U (lo (r15.2.1))] [Value.int .i64 (0), U (0#64), U (0#64)] rfl rfl rfl rfl rfl rfl rfl (by kernel_rfl) (by kernel_rfl) rfl rfl rfl (fun s20 S21 H22 => ?_)
      replace hM := ck_some hM; obtain ⟨ck23, hM⟩ := hM
      refine r_app (cs0 := [(15, fun _ _ v_ L_ U_ => ∀ u0_, wire_Reader_Vec_v1_m N rv4_ m3__1 m3__2 = some u0_ → (pO (List.flatten [[(br, 69, #[r_0v, Value.int .i64 (m3__1), Value.int .i64 (m3__2)])], Srv4_]) (oI 5 encY r_0v u0_.2.2.1 (oE (Value.agg #[Value.int .i64 (u0_.1), U (hi (u0_.2.1)), U (lo (u0_.2.1))]) [[(br, 69, #[r_0v, Value.int .i64 (u0_.2.2.2.1), Value.int .i64 (u0_.2.2.2.2)])]]))) v_ L_ U_)]) (Ls := [[(br, 69, #[r_0v, Value.int .i64 (r15.2.2.2.1), Value.int .i64 (r15.2.2.2.2)])], Sl1_, S18, S21]) 1 (En := enc_30) rfl rfl rfl rfl rfl hl1_ rfl (rd_own H22 (mem_chunk (Ls := [[(br, 69, #[r_0v, Value.int .i64 (r15.2.2.2.1), Value.int .i64 (r15.2.2.2.2)])], Sl1_, S18, S21]) (k := 3) rfl rfl)) rfl rfl rfl rfl rfl (app_b ck23 rfl) (app_m ck23 rfl) rfl (fun s24 S25 H26 => ?_)
      refine r_v (s24) rfl rfl rfl rfl ?_
      refine lx_nil ?_
      refine hK14 _ _ ?_; try clear hK14 K14
      refine A_reg ?_
      replace hM := ck_some hM; obtain ⟨ck27, hM⟩ := hM
      refine r_v (Value.int .i64 ((x2_ + 1))) rfl rfl (wi64 rfl ck27.1 ck27.2) rfl ?_
      refine r_v (Value.int .i64 ((x2_ + 1))) rfl rfl rfl rfl ?_
      refine lx_nil ?_
      refine fg _ (Sub.pick [[(br, 69, #[r_0v, Value.int .i64 (r15.2.2.2.1), Value.int .i64 (r15.2.2.2.2)])], S25, S18, S21] [0, 1, 2] rfl) ?_
      exact ⟨n10 + 1, by omega, n10, (l1_ ++ ([(r15.1, r15.2.1)])), (x2_ + 1), r15.2.2.1, r15.2.2.2.1, r15.2.2.2.2, hM, s24, S25, H26, S18, H19, is_mk rfl rfl, rfl⟩
    · replace hM := ifn (of_decide_eq_false hc13) hM
      refine A_exit ?_
      refine hK3 _ _ ?_; try clear hK3 K3
      refine A_seq fun K28 hK28 => ?_
      refine A_seq fun K29 hK29 => ?_
      refine A_regC [(some 20, false)] (conG Try.prog [(20, fun _ _ v_ L_ U_ => ∀ u0_, wire_Reader_Bad_v1_m N rv4_ m3__1 m3__2 = some u0_ → (pV (Value.bool (u0_))) v_ L_ U_)]) ?_
      refine r_v (Value.pointer (some ⟨br, 0, none⟩)) rfl rfl rfl rfl ?_
      replace hM := bind_sm hM; obtain ⟨r30, hr31, hM⟩ := hM
      refine r_gv (Value.bool (r30)) 13 _ rfl rfl rfl (ev_callF rfl call_13 rfl) (fun own_ nw_ hs_ => wire_Reader_Bad_v1_g N rv4_ m3__1 m3__2 _ hr31 hs_.view br r_0v ((rd_own hrv4_ (mem_chunk (Ls := [[(br, 69, #[r_0v, Value.int .i64 (m3__1), Value.int .i64 (m3__2)])], Sl1_, Srv4_]) (k := 2) rfl rfl)) own_ nw_ hs_) (blk_own 0 rfl rfl own_ nw_ hs_)) (fun _ _ v_ L_ U_ => ⟨fun h_ => h_ _ hr31, fun h_ => by intro _ e_; cases Option.some.inj (e_.symm.trans hr31); exact h_⟩) ?_
      refine lx_nil ?_
      refine hK29 _ _ ?_; try clear hK29 K29
      refine A_cond (r30) rfl (fun hc32 => ?_) (fun hc32 => ?_)
      · replace hM := ifp hc32 hM
        refine A_seq fun K33 hK33 => ?_
        refine A_reg ?_
        refine r_v (Value.slice none 0 0) rfl rfl rfl rfl ?_
        refine lx_nil ?_
        refine hK33 _ _ ?_; try clear hK33 K33
        obtain rfl := Option.some.inj hM
        refine A_ret (fun hn => endsO (v0 := Value.slice none 0 0) (O := [[], Srv4_, [(br, 69, #[r_0v, Value.int .i64 (m3__1), Value.int .i64 (m3__2)])]]) (res1 rfl) (Sub.pickE (Ls := [[(br, 69, #[r_0v, Value.int .i64 (m3__1), Value.int .i64 (m3__2)])], Sl1_, Srv4_, []]) (Ls0 := [[(br, 69, #[r_0v, Value.int .i64 (m3__1), Value.int .i64 (m3__2)])], Sl1_, Srv4_]) rfl [3, 2, 0] rfl) ⟨Value.slice none 0 0, [], _, Sl.nil, ⟨Srv4_, _, hrv4_, ⟨rfl, rfl⟩, rfl⟩, rfl⟩)
      · replace hM := ifn (Bool.eq_false_iff.1 hc32) hM
        refine A_skip ?_
        refine hK28 _ _ ?_; try clear hK28 K28
        refine A_seq fun K34 hK34 => ?_
        refine A_reg ?_
        refine r_v (vl1_) rfl rfl rfl rfl ?_
        refine r_v (vl1_) rfl rfl rfl rfl ?_
        refine lx_nil ?_
        refine hK34 _ _ ?_; try clear hK34 K34
        obtain rfl := Option.some.inj hM
        refine A_ret (fun hn => endsO (v0 := vl1_) (O := [Sl1_, Srv4_, [(br, 69, #[r_0v, Value.int .i64 (m3__1), Value.int .i64 (m3__2)])]]) (res1 rfl) (Sub.pick [[(br, 69, #[r_0v, Value.int .i64 (m3__1), Value.int .i64 (m3__2)])], Sl1_, Srv4_] [1, 2, 0] rfl) ⟨vl1_, Sl1_, _, hl1_, ⟨Srv4_, _, hrv4_, ⟨rfl, rfl⟩, rfl⟩, rfl⟩)
def wire_Reader_Vecs_v1_m (N : Nat) (r_0 : List UInt8) (r_1 : Int) (r_2 : Int) (most : Int) : Option ((List (Int × BitVec 128)) × (List UInt8) × Int × Int) := (wire_listOf_api_Vec__v2_m N r_0 r_1 r_2 most).bind fun r3 => ck ((r3.2.1).length = (r_0).length) (some (r3.1, r3.2.1, r3.2.2.1, r3.2.2.2))
set_option maxRecDepth 100000 in
set_option maxHeartbeats 8000000 in
theorem wire_Reader_Vecs_v1_g (N : Nat) (r_0 : List UInt8) (r_1 : Int) (r_2 : Int) (most : Int) (r : (List (Int × BitVec 128)) × (List UInt8) × Int × Int) (hM : wire_Reader_Vecs_v1_m N r_0 r_1 r_2 most = some r) (ro : Addr → Option Value) (br : Nat) (r_0v : Value) (Sr_0 : List Bl) (hr_0 : Sl 5 encY r_0v r_0 Sr_0) : Does Try.prog 38 #[Value.pointer (some ⟨br, 0, none⟩), Value.int .i64 (most)] ro (List.flatten [[(br, 69, #[r_0v, Value.int .i64 (r_1), Value.int .i64 (r_2)])], Sr_0]) (pO (List.flatten [[(br, 69, #[r_0v, Value.int .i64 (r_1), Value.int .i64 (r_2)])], Sr_0]) (oS 30 enc_30 r.1 fun s_0 => (oI 5 encY r_0v r.2.1 (oE (s_0) [[(br, 69, #[r_0v, Value.int .i64 (r.2.2.1), Value.int .i64 (r.2.2.2)])]])))) := by
  unfold wire_Reader_Vecs_v1_m at hM
  refine doesO_of_A follows Try.func38 rfl 10 rfl (upd (upd (fun _ => undef) 1 (Value.int .i64 (most))) 0 (Value.pointer (some ⟨br, 0, none⟩))) (by funext k; match k with | 0 => rfl | 1 => rfl | k + 2 => rfl) (fun _ _ h_ _ => h_) (fun base0_ => ?_)
  refine A_seq fun K1 hK1 => ?_
  refine A_reg ?_
  refine r_v (Value.slice none 0 0) rfl rfl rfl rfl ?_
  refine lx_nil ?_
  refine hK1 _ _ ?_; try clear hK1 K1
  refine A_seq fun K2 hK2 => ?_
  refine A_regC [(some 9, true)] (conG Try.prog [(9, fun _ _ v_ L_ U_ => ∀ u0_, wire_listOf_api_Vec__v2_m N r_0 r_1 r_2 most = some u0_ → (pO (List.flatten [[(br, 69, #[r_0v, Value.int .i64 (r_1), Value.int .i64 (r_2)])], Sr_0]) (oS 30 enc_30 u0_.1 fun s_0 => (oI 5 encY r_0v u0_.2.1 (oE (s_0) [[(br, 69, #[r_0v, Value.int .i64 (u0_.2.2.1), Value.int .i64 (u0_.2.2.2)])]])))) v_ L_ U_)]) ?_
  refine r_v (Value.pointer (some ⟨br, 0, none⟩)) rfl rfl rfl rfl ?_
  refine r_v (Value.int .i64 (most)) rfl rfl rfl rfl ?_
  refine r_v (Value.pointer (some ⟨br, 0, none⟩)) rfl rfl rfl rfl ?_
  refine r_v (Value.func (.func 22) #[Value.pointer (some ⟨br, 0, none⟩)] #[]) rfl rfl rfl (ev_mkB rfl rfl) ?_
  replace hM := bind_sm hM; obtain ⟨r3, hr4, hM⟩ := hM
  replace hM := ck_some hM; obtain ⟨ck5, hM⟩ := hM
  refine r_gm (Ls := [[(br, 69, #[r_0v, Value.int .i64 (r_1), Value.int .i64 (r_2)])], Sr_0]) (FL := [[(br, 69, #[r_0v, Value.int .i64 (r_1), Value.int .i64 (r_2)])], Sr_0]) (RL := []) [0, 1] (oS 30 enc_30 r3.1 fun s_0 => (oI 5 encY r_0v r3.2.1 (oE (s_0) [[(br, 69, #[r_0v, Value.int .i64 (r3.2.2.1), Value.int .i64 (r3.2.2.2)])]]))) (some 9) 63 _ rfl rfl rfl rfl rfl (ev_callF rfl call_63 rfl) (fun own_ nw_ hn_ hs_ => wire_listOf_api_Vec__v2_g N r_0 r_1 r_2 most _ hr4 _ br r_0v Sr_0 hr_0) (fun _ _ v_ L_ U_ => ⟨fun h_ => h_ _ hr4, fun h_ => by intro _ e_; cases Option.some.inj (e_.symm.trans hr4); exact h_⟩) (fun h_ => nomatch h_) ?_
  rintro s8 _ ⟨_, S9, _, H10, ⟨S6, _, H7, ⟨rfl, rfl⟩, rfl⟩, rfl⟩
  refine lx_perm (Ls := [S9, S6, [(br, 69, #[r_0v, Value.int .i64 (r3.2.2.1), Value.int .i64 (r3.2.2.2)])]]) (Ls' := [[(br, 69, #[r_0v, Value.int .i64 (r3.2.2.1), Value.int .i64 (r3.2.2.2)])], S9, S6]) [2, 0, 1] rfl rfl ?_
  refine r_v (s8) rfl rfl rfl rfl ?_
  refine lx_nil ?_
  refine hK2 _ _ ?_; try clear hK2 K2
  obtain rfl := Option.some.inj hM
  refine A_ret (fun hn => endsO (v0 := s8) (O := [S9, S6, [(br, 69, #[r_0v, Value.int .i64 (r3.2.2.1), Value.int .i64 (r3.2.2.2)])]]) (res1 rfl) (Sub.pick [[(br, 69, #[r_0v, Value.int .i64 (r3.2.2.1), Value.int .i64 (r3.2.2.2)])], S9, S6] [1, 2, 0] rfl) ⟨s8, S9, _, H10, ⟨S6, _, H7, ⟨rfl, rfl⟩, rfl⟩, rfl⟩)
def shunterref07_Count_v1_k2 (N : Nat) (r_0 : List UInt8) (r_1 : Int) (r_2 : Int) (r_3 : Int) (r9 : (List UInt8) × Int × Int × Int × Int) (x1_ : Bool) : Option ((List UInt8) × Int × Int × Int × Int) := if (x1_) = true then (shunterref07_fail_v1_m N r_0 r_1 r_2 r_3 2 r_1).bind fun r17 => some (r17.1, r17.2.1, r17.2.2.1, r17.2.2.2, 0) else some (r9.1, r9.2.1, r9.2.2.1, r9.2.2.2.1, r9.2.2.2.2)
def shunterref07_Count_v1_m (N : Nat) (r_0 : List UInt8) (r_1 : Int) (r_2 : Int) (r_3 : Int) (most : Int) : Option ((List UInt8) × Int × Int × Int × Int) := if (r_2 : Int) ≠ 0 then some (r_0, r_1, r_2, r_3, 0) else (shunterref07_Take_v1_m N r_0 r_1 r_2 r_3 1 255).bind fun r9 => if (r9.2.2.1 : Int) = 0 then shunterref07_Count_v1_k2 N r_0 r_1 r_2 r_3 r9 (decide ((r9.2.2.2.2 : Int) > most)) else shunterref07_Count_v1_k2 N r_0 r_1 r_2 r_3 r9 (false)
set_option maxRecDepth 100000 in
set_option maxHeartbeats 8000000 in
theorem shunterref07_Count_v1_g (N : Nat) (r_0 : List UInt8) (r_1 : Int) (r_2 : Int) (r_3 : Int) (most : Int) (r : (List UInt8) × Int × Int × Int × Int) (hM : shunterref07_Count_v1_m N r_0 r_1 r_2 r_3 most = some r) (ro : Addr → Option Value) (r_0v : Value) (hr_0 : Rd encY ro r_0v r_0) : Does Try.prog 39 #[Value.agg #[r_0v, Value.int .i64 (r_1), Value.int .i64 (r_2), Value.int .i64 (r_3)], Value.int .i64 (most)] ro [] (pO [] (oR encY ro r.1 fun s_0 => (oE (Value.tuple #[Value.agg #[s_0, Value.int .i64 (r.2.1), Value.int .i64 (r.2.2.1), Value.int .i64 (r.2.2.2.1)], Value.int .i64 (r.2.2.2.2)]) []))) := by
  unfold shunterref07_Count_v1_m at hM
  refine doesO_of_A follows Try.func39 rfl 31 rfl (upd (upd (fun _ => undef) 1 (Value.int .i64 (most))) 0 (Value.agg #[r_0v, Value.int .i64 (r_1), Value.int .i64 (r_2), Value.int .i64 (r_3)])) (by funext k; match k with | 0 => rfl | 1 => rfl | k + 2 => rfl) (fun _ _ h_ _ => h_) (fun base0_ => ?_)
  refine A_seq fun K1 hK1 => ?_
  refine A_reg ?_
  refine r_a (39, #[r_0v, Value.int .i64 (r_1), Value.int .i64 (r_2), Value.int .i64 (r_3)]) rfl rfl rfl (fun b2 => ?_) (.inr rfl)
  refine r_a (39, #[Value.slice none 0 0, Value.int .i64 (0), Value.int .i64 (0), Value.int .i64 (0)]) rfl rfl rfl (fun b3 => ?_) (.inr rfl)
  refine r_v (Value.int .i64 (0)) rfl rfl rfl rfl ?_
  refine lx_nil ?_
  refine hK1 _ _ ?_; try clear hK1 K1
  refine A_seq fun K4 hK4 => ?_
  refine A_seq fun K5 hK5 => ?_
  refine A_reg ?_
  refine r_v (Value.pointer (some ⟨b2, 2, none⟩)) rfl rfl rfl rfl ?_
  refine r_l (Value.int .i64 (r_2)) 1 _ _ _ _ rfl rfl rfl rfl rfl ?_
  refine r_v (Value.bool (((r_2 : Int) != 0))) rfl rfl rfl rfl ?_
  refine lx_nil ?_
  refine hK5 _ _ ?_; try clear hK5 K5
  refine A_cond (((r_2 : Int) != 0)) rfl (fun hc6 => ?_) (fun hc6 => ?_)
  · replace hM := ifp (bne_iff_ne.1 hc6) hM
    refine A_seq fun K7 hK7 => ?_
    refine A_reg ?_
    refine r_l (Value.agg #[r_0v, Value.int .i64 (r_1), Value.int .i64 (r_2), Value.int .i64 (r_3)]) 1 _ _ _ _ rfl rfl rfl rfl rfl ?_
    refine r_s [(b3, 39, #[r_0v, Value.int .i64 (r_1), Value.int .i64 (r_2), Value.int .i64 (r_3)]), (b2, 39, #[r_0v, Value.int .i64 (r_1), Value.int .i64 (r_2), Value.int .i64 (r_3)])] 0 _ _ _ (#[Value.slice none 0 0, Value.int .i64 (0), Value.int .i64 (0), Value.int .i64 (0)]) (#[r_0v, Value.int .i64 (r_1), Value.int .i64 (r_2), Value.int .i64 (r_3)]) (#[r_0v, Value.int .i64 (r_1), Value.int .i64 (r_2), Value.int .i64 (r_3)]) rfl rfl rfl rfl (.ofS rfl rfl (all_cons' (Shp.one (Rd.shp hr_0)) (all_cons' rfl (all_cons' rfl (all_cons' rfl all_nil'))))) rfl rfl ?_
    refine r_v (Value.int .i64 (0)) rfl rfl rfl rfl ?_
    refine lx_nil ?_
    refine hK7 _ _ ?_; try clear hK7 K7
    obtain rfl := Option.some.inj hM
    refine A_ret (fun hn => endsO (v0 := Value.tuple #[Value.agg #[r_0v, Value.int .i64 (r_1), Value.int .i64 (r_2), Value.int .i64 (r_3)], Value.int .i64 (0)]) (O := []) (res2 (res_cell hn 0 rfl rfl rfl) rfl) (Sub.nil _) ⟨r_0v, hr_0, ⟨rfl, rfl⟩⟩)
  · replace hM := ifn (bne_f hc6) hM
    refine A_skip ?_
    refine hK4 _ _ ?_; try clear hK4 K4
    refine A_seq fun K8 hK8 => ?_
    refine A_regC [(some 14, true)] (conG Try.prog [(14, fun _ _ v_ L_ U_ => ∀ u0_, shunterref07_Take_v1_m N r_0 r_1 r_2 r_3 1 255 = some u0_ → (pO (List.flatten []) (oR encY ro u0_.1 fun s_0 => (oE (Value.tuple #[Value.agg #[s_0, Value.int .i64 (u0_.2.1), Value.int .i64 (u0_.2.2.1), Value.int .i64 (u0_.2.2.2.1)], Value.int .i64 (u0_.2.2.2.2)]) []))) v_ L_ U_)]) ?_
    refine r_l (Value.agg #[r_0v, Value.int .i64 (r_1), Value.int .i64 (r_2), Value.int .i64 (r_3)]) 1 _ _ _ _ rfl rfl rfl rfl rfl ?_
    replace hM := bind_sm hM; obtain ⟨r9, hr10, hM⟩ := hM
    refine r_gm (Ls := [[(b3, 39, #[Value.slice none 0 0, Value.int .i64 (0), Value.int .i64 (0), Value.int .i64 (0)])], [(b2, 39, #[r_0v, Value.int .i64 (r_1), Value.int .i64 (r_2), Value.int .i64 (r_3)])]]) (FL := []) (RL := [[(b3, 39, #[Value.slice none 0 0, Value.int .i64 (0), Value.int .i64 (0), Value.int .i64 (0)])], [(b2, 39, #[r_0v, Value.int .i64 (r_1), Value.int .i64 (r_2), Value.int .i64 (r_3)])]]) [] (oR encY ro r9.1 fun s_0 => (oE (Value.tuple #[Value.agg #[s_0, Value.int .i64 (r9.2.1), Value.int .i64 (r9.2.2.1), Value.int .i64 (r9.2.2.2.1)], Value.int .i64 (r9.2.2.2.2)]) [])) (some 14) 35 _ rfl rfl rfl rfl rfl (ev_callF rfl call_35 rfl) (fun own_ nw_ hn_ hs_ => DoesI.ro_mono (ro_sans (Ls := [[(b3, 39, #[Value.slice none 0 0, Value.int .i64 (0), Value.int .i64 (0), Value.int .i64 (0)])], [(b2, 39, #[r_0v, Value.int .i64 (r_1), Value.int .i64 (r_2), Value.int .i64 (r_3)])]]) (is := []) rfl hs_) (shunterref07_Take_v1_g N r_0 r_1 r_2 r_3 1 255 _ hr10 ro r_0v hr_0)) (fun _ _ v_ L_ U_ => ⟨fun h_ => h_ _ hr10, fun h_ => by intro _ e_; cases Option.some.inj (e_.symm.trans hr10); exact h_⟩) (fun h_ => nomatch h_) ?_
    rintro _ _ ⟨s11, hs12, ⟨rfl, rfl⟩⟩
    refine lx_perm (Ls := [[(b3, 39, #[Value.slice none 0 0, Value.int .i64 (0), Value.int .i64 (0), Value.int .i64 (0)])], [(b2, 39, #[r_0v, Value.int .i64 (r_1), Value.int .i64 (r_2), Value.int .i64 (r_3)])]]) (Ls' := [[(b3, 39, #[Value.slice none 0 0, Value.int .i64 (0), Value.int .i64 (0), Value.int .i64 (0)])], [(b2, 39, #[r_0v, Value.int .i64 (r_1), Value.int .i64 (r_2), Value.int .i64 (r_3)])]]) [0, 1] rfl rfl ?_
    refine r_v (Value.tuple #[Value.agg #[s11, Value.int .i64 (r9.2.1), Value.int .i64 (r9.2.2.1), Value.int .i64 (r9.2.2.2.1)], Value.int .i64 (r9.2.2.2.2)]) rfl rfl rfl rfl ?_
    refine r_v (Value.agg #[s11, Value.int .i64 (r9.2.1), Value.int .i64 (r9.2.2.1), Value.int .i64 (r9.2.2.2.1)]) rfl rfl rfl rfl ?_
    refine r_v (Value.int .i64 (r9.2.2.2.2)) rfl rfl rfl rfl ?_
    refine r_a (39, #[Value.slice none 0 0, Value.int .i64 (0), Value.int .i64 (0), Value.int .i64 (0)]) rfl rfl rfl (fun b13 => ?_) (.inr rfl)
    refine r_s [(b13, 39, #[s11, Value.int .i64 (r9.2.1), Value.int .i64 (r9.2.2.1), Value.int .i64 (r9.2.2.2.1)]), (b3, 39, #[Value.slice none 0 0, Value.int .i64 (0), Value.int .i64 (0), Value.int .i64 (0)]), (b2, 39, #[r_0v, Value.int .i64 (r_1), Value.int .i64 (r_2), Value.int .i64 (r_3)])] 0 _ _ _ (#[Value.slice none 0 0, Value.int .i64 (0), Value.int .i64 (0), Value.int .i64 (0)]) (#[s11, Value.int .i64 (r9.2.1), Value.int .i64 (r9.2.2.1), Value.int .i64 (r9.2.2.2.1)]) (#[s11, Value.int .i64 (r9.2.1), Value.int .i64 (r9.2.2.1), Value.int .i64 (r9.2.2.2.1)]) rfl rfl rfl rfl (.ofS rfl rfl (all_cons' (Shp.one (Rd.shp hs12)) (all_cons' rfl (all_cons' rfl (all_cons' rfl all_nil'))))) rfl rfl ?_
    refine r_v (Value.int .i64 (r9.2.2.2.2)) rfl rfl rfl rfl ?_
    refine lx_nil ?_
    refine hK8 _ _ ?_; try clear hK8 K8
    refine A_seq fun K14 hK14 => ?_
    refine A_cut (fun tt ll => ∃ (x1_ : Bool), (shunterref07_Count_v1_k2 N r_0 r_1 r_2 r_3 r9 x1_ = some r) ∧ Is [(2, Value.pointer (some ⟨b2, 0, none⟩)), (4, Value.pointer (some ⟨b3, 0, none⟩)), (6, Value.pointer (some ⟨b13, 0, none⟩)), (7, Value.int .i64 (r9.2.2.2.2)), (24, Value.bool (x1_))] [(b13, 39, #[s11, Value.int .i64 (r9.2.1), Value.int .i64 (r9.2.2.1), Value.int .i64 (r9.2.2.2.1)]), (b3, 39, #[Value.slice none 0 0, Value.int .i64 (0), Value.int .i64 (0), Value.int .i64 (0)]), (b2, 39, #[r_0v, Value.int .i64 (r_1), Value.int .i64 (r_2), Value.int .i64 (r_3)])] tt ll) ?_ ?_
    · refine A_reg ?_
      refine r_v (Value.pointer (some ⟨b13, 2, none⟩)) rfl rfl rfl rfl ?_
      refine r_l (Value.int .i64 (r9.2.2.1)) 0 _ _ _ _ rfl rfl rfl rfl rfl ?_
      refine r_v (Value.bool (((r9.2.2.1 : Int) == 0))) rfl rfl rfl rfl ?_
      refine r_v (Value.bool (((r9.2.2.1 : Int) == 0))) rfl rfl rfl rfl ?_
      rcases hg22 : (((r9.2.2.1 : Int) == 0)) with _ | _
      · replace hM := ifn (ne_of_beq_false hg22) hM
        refine r_n false rfl (by decide) rfl ?_
        refine r_n false rfl (by decide) rfl ?_
        refine r_n false rfl (by decide) rfl ?_
        refine r_v (Value.bool (false)) rfl rfl rfl rfl ?_
        refine lx_nil ?_
        refine fg _ (Sub.of (List.Sublist.cons_cons _ (List.Sublist.cons_cons _ (List.Sublist.cons_cons _ (List.Sublist.slnil))))) ?_
        exact ⟨false, hM, is_mk (by first | rfl | (simp only [hg22]; done) | (simp only [hg22]; rfl) | (simp only [app_hl]; rfl)) rfl⟩
      · replace hM := ifp (eq_of_beq hg22) hM
        refine r_y rfl ?_
        refine r_v (Value.int .i64 (r9.2.2.2.2)) rfl rfl rfl rfl ?_
        refine r_y rfl ?_
        refine r_v (Value.int .i64 (most)) rfl rfl rfl rfl ?_
        refine r_y rfl ?_
        refine r_v (Value.bool (decide ((r9.2.2.2.2 : Int) > most))) rfl rfl rfl rfl ?_
        refine r_v (Value.bool (decide ((r9.2.2.2.2 : Int) > most))) rfl rfl rfl rfl ?_
        refine lx_nil ?_
        refine fg _ (Sub.of (List.Sublist.cons_cons _ (List.Sublist.cons_cons _ (List.Sublist.cons_cons _ (List.Sublist.slnil))))) ?_
        exact ⟨decide ((r9.2.2.2.2 : Int) > most), hM, is_mk (by first | rfl | (simp only [hg22]; done) | (simp only [hg22]; rfl) | (simp only [app_hl]; rfl)) rfl⟩
    · clear hM; rintro t l ⟨x1_, hM, ⟨T, rfl⟩, rfl⟩
      unfold shunterref07_Count_v1_k2 at hM
      refine A_cond (x1_) rfl (fun hc15 => ?_) (fun hc15 => ?_)
      · replace hM := ifp hc15 hM
        refine A_seq fun K16 hK16 => ?_
        refine A_regC [(some 28, true)] (conG Try.prog [(28, fun _ _ v_ L_ U_ => ∀ u0_, shunterref07_fail_v1_m N r_0 r_1 r_2 r_3 2 r_1 = some u0_ → (pO (List.flatten []) (oR encY ro u0_.1 fun s_0 => (oE (Value.agg #[s_0, Value.int .i64 (u0_.2.1), Value.int .i64 (u0_.2.2.1), Value.int .i64 (u0_.2.2.2)]) []))) v_ L_ U_)]) ?_
        refine r_l (Value.agg #[r_0v, Value.int .i64 (r_1), Value.int .i64 (r_2), Value.int .i64 (r_3)]) 2 _ _ _ _ rfl rfl rfl rfl rfl ?_
        refine r_v (Value.pointer (some ⟨b2, 1, none⟩)) rfl rfl rfl rfl ?_
        refine r_l (Value.int .i64 (r_1)) 2 _ _ _ _ rfl rfl rfl rfl rfl ?_
        replace hM := bind_sm hM; obtain ⟨r17, hr18, hM⟩ := hM
        refine r_gm (Ls := [[(b13, 39, #[s11, Value.int .i64 (r9.2.1), Value.int .i64 (r9.2.2.1), Value.int .i64 (r9.2.2.2.1)])], [(b3, 39, #[Value.slice none 0 0, Value.int .i64 (0), Value.int .i64 (0), Value.int .i64 (0)])], [(b2, 39, #[r_0v, Value.int .i64 (r_1), Value.int .i64 (r_2), Value.int .i64 (r_3)])]]) (FL := []) (RL := [[(b13, 39, #[s11, Value.int .i64 (r9.2.1), Value.int .i64 (r9.2.2.1), Value.int .i64 (r9.2.2.2.1)])], [(b3, 39, #[Value.slice none 0 0, Value.int .i64 (0), Value.int .i64 (0), Value.int .i64 (0)])], [(b2, 39, #[r_0v, Value.int .i64 (r_1), Value.int .i64 (r_2), Value.int .i64 (r_3)])]]) [] (oR encY ro r17.1 fun s_0 => (oE (Value.agg #[s_0, Value.int .i64 (r17.2.1), Value.int .i64 (r17.2.2.1), Value.int .i64 (r17.2.2.2)]) [])) (some 28) 60 _ rfl rfl rfl rfl rfl (ev_callF rfl call_60 rfl) (fun own_ nw_ hn_ hs_ => DoesI.ro_mono (ro_sans (Ls := [[(b13, 39, #[s11, Value.int .i64 (r9.2.1), Value.int .i64 (r9.2.2.1), Value.int .i64 (r9.2.2.2.1)])], [(b3, 39, #[Value.slice none 0 0, Value.int .i64 (0), Value.int .i64 (0), Value.int .i64 (0)])], [(b2, 39, #[r_0v, Value.int .i64 (r_1), Value.int .i64 (r_2), Value.int .i64 (r_3)])]]) (is := []) rfl hs_) (shunterref07_fail_v1_g N r_0 r_1 r_2 r_3 2 r_1 _ hr18 ro r_0v hr_0)) (fun _ _ v_ L_ U_ => ⟨fun h_ => h_ _ hr18, fun h_ => by intro _ e_; cases Option.some.inj (e_.symm.trans hr18); exact h_⟩) (fun h_ => nomatch h_) ?_
        rintro _ _ ⟨s19, hs20, ⟨rfl, rfl⟩⟩
        refine lx_perm (Ls := [[(b13, 39, #[s11, Value.int .i64 (r9.2.1), Value.int .i64 (r9.2.2.1), Value.int .i64 (r9.2.2.2.1)])], [(b3, 39, #[Value.slice none 0 0, Value.int .i64 (0), Value.int .i64 (0), Value.int .i64 (0)])], [(b2, 39, #[r_0v, Value.int .i64 (r_1), Value.int .i64 (r_2), Value.int .i64 (r_3)])]]) (Ls' := [[(b13, 39, #[s11, Value.int .i64 (r9.2.1), Value.int .i64 (r9.2.2.1), Value.int .i64 (r9.2.2.2.1)])], [(b3, 39, #[Value.slice none 0 0, Value.int .i64 (0), Value.int .i64 (0), Value.int .i64 (0)])], [(b2, 39, #[r_0v, Value.int .i64 (r_1), Value.int .i64 (r_2), Value.int .i64 (r_3)])]]) [0, 1, 2] rfl rfl ?_
        refine r_s [(b13, 39, #[s11, Value.int .i64 (r9.2.1), Value.int .i64 (r9.2.2.1), Value.int .i64 (r9.2.2.2.1)]), (b3, 39, #[s19, Value.int .i64 (r17.2.1), Value.int .i64 (r17.2.2.1), Value.int .i64 (r17.2.2.2)]), (b2, 39, #[r_0v, Value.int .i64 (r_1), Value.int .i64 (r_2), Value.int .i64 (r_3)])] 1 _ _ _ (#[Value.slice none 0 0, Value.int .i64 (0), Value.int .i64 (0), Value.int .i64 (0)]) (#[s19, Value.int .i64 (r17.2.1), Value.int .i64 (r17.2.2.1), Value.int .i64 (r17.2.2.2)]) (#[s19, Value.int .i64 (r17.2.1), Value.int .i64 (r17.2.2.1), Value.int .i64 (r17.2.2.2)]) rfl rfl rfl rfl (.ofS rfl rfl (all_cons' (Shp.one (Rd.shp hs20)) (all_cons' rfl (all_cons' rfl (all_cons' rfl all_nil'))))) rfl rfl ?_
        refine r_v (Value.int .i64 (0)) rfl rfl rfl rfl ?_
        refine lx_nil ?_
        refine hK16 _ _ ?_; try clear hK16 K16
        obtain rfl := Option.some.inj hM
        refine A_ret (fun hn => endsO (v0 := Value.tuple #[Value.agg #[s19, Value.int .i64 (r17.2.1), Value.int .i64 (r17.2.2.1), Value.int .i64 (r17.2.2.2)], Value.int .i64 (0)]) (O := []) (res2 (res_cell hn 1 rfl rfl rfl) rfl) (Sub.nil _) ⟨s19, hs20, ⟨rfl, rfl⟩⟩)
      · replace hM := ifn (Bool.eq_false_iff.1 hc15) hM
        refine A_skip ?_
        refine hK14 _ _ ?_; try clear hK14 K14
        refine A_seq fun K21 hK21 => ?_
        refine A_reg ?_
        refine r_l (Value.agg #[s11, Value.int .i64 (r9.2.1), Value.int .i64 (r9.2.2.1), Value.int .i64 (r9.2.2.2.1)]) 0 _ _ _ _ rfl rfl rfl rfl rfl ?_
        refine r_v (Value.int .i64 (r9.2.2.2.2)) rfl rfl rfl rfl ?_
        refine r_s [(b13, 39, #[s11, Value.int .i64 (r9.2.1), Value.int .i64 (r9.2.2.1), Value.int .i64 (r9.2.2.2.1)]), (b3, 39, #[s11, Value.int .i64 (r9.2.1), Value.int .i64 (r9.2.2.1), Value.int .i64 (r9.2.2.2.1)]), (b2, 39, #[r_0v, Value.int .i64 (r_1), Value.int .i64 (r_2), Value.int .i64 (r_3)])] 1 _ _ _ (#[Value.slice none 0 0, Value.int .i64 (0), Value.int .i64 (0), Value.int .i64 (0)]) (#[s11, Value.int .i64 (r9.2.1), Value.int .i64 (r9.2.2.1), Value.int .i64 (r9.2.2.2.1)]) (#[s11, Value.int .i64 (r9.2.1), Value.int .i64 (r9.2.2.1), Value.int .i64 (r9.2.2.2.1)]) rfl rfl rfl rfl (.ofS rfl rfl (all_cons' (Shp.one (Rd.shp hs12)) (all_cons' rfl (all_cons' rfl (all_cons' rfl all_nil'))))) rfl rfl ?_
        refine r_v (Value.int .i64 (r9.2.2.2.2)) rfl rfl rfl rfl ?_
        refine lx_nil ?_
        refine hK21 _ _ ?_; try clear hK21 K21
        obtain rfl := Option.some.inj hM
        refine A_ret (fun hn => endsO (v0 := Value.tuple #[Value.agg #[s11, Value.int .i64 (r9.2.1), Value.int .i64 (r9.2.2.1), Value.int .i64 (r9.2.2.2.1)], Value.int .i64 (r9.2.2.2.2)]) (O := []) (res2 (res_cell hn 1 rfl rfl rfl) rfl) (Sub.nil _) ⟨s11, hs12, ⟨rfl, rfl⟩⟩)
def wire_Reader_Numbers_1_v2_m (N : Nat) (c0_p0__0 : List UInt8) (c0_p0__1 : Int) (c0_p0__2 : Int) (c1_ : Int) : Option (Int × (List UInt8) × Int × Int) := (wire_Reader_Byte_v2_m N c0_p0__0 c0_p0__1 c0_p0__2 c1_).bind fun r3 => ck ((r3.2.1).length = (c0_p0__0).length) (some (r3.1, r3.2.1, r3.2.2.1, r3.2.2.2))
set_option maxRecDepth 100000 in
set_option maxHeartbeats 8000000 in
theorem wire_Reader_Numbers_1_v2_g (N : Nat) (c0_p0__0 : List UInt8) (c0_p0__1 : Int) (c0_p0__2 : Int) (c1_ : Int) (r : Int × (List UInt8) × Int × Int) (hM : wire_Reader_Numbers_1_v2_m N c0_p0__0 c0_p0__1 c0_p0__2 c1_ = some r) (ro : Addr → Option Value) (bc0_ : Nat) (bc0_p0_ : Nat) (c0_p0__0v : Value) (Sc0_p0__0 : List Bl) (hc0_p0__0 : Sl 5 encY c0_p0__0v c0_p0__0 Sc0_p0__0) (hbc0_ : Blk ro bc0_ [Value.pointer (some ⟨bc0_p0_, 0, none⟩)]) (bc1_ : Nat) (hbc1_ : Blk ro bc1_ [Value.int .i64 (c1_)]) : Does Try.prog 65 #[Value.pointer (some ⟨bc0_, 0, none⟩), Value.pointer (some ⟨bc1_, 0, none⟩)] ro (List.flatten [[(bc0_p0_, 69, #[c0_p0__0v, Value.int .i64 (c0_p0__1), Value.int .i64 (c0_p0__2)])], Sc0_p0__0]) (pO (List.flatten [[(bc0_p0_, 69, #[c0_p0__0v, Value.int .i64 (c0_p0__1), Value.int .i64 (c0_p0__2)])], Sc0_p0__0]) (oI 5 encY c0_p0__0v r.2.1 (oE (Value.int .i64 (r.1)) [[(bc0_p0_, 69, #[c0_p0__0v, Value.int .i64 (r.2.2.1), Value.int .i64 (r.2.2.2)])]]))) := by
  unfold wire_Reader_Numbers_1_v2_m at hM
  refine doesO_of_A follows Try.func65 rfl 6 rfl (upd (upd (fun _ => undef) 1 (Value.pointer (some ⟨bc1_, 0, none⟩))) 0 (Value.pointer (some ⟨bc0_, 0, none⟩))) (by funext k; match k with | 0 => rfl | 1 => rfl | k + 2 => rfl) (fun _ _ h_ _ => h_) (fun base0_ => ?_)
  refine A_seq fun K1 hK1 => ?_
  refine A_reg ?_
  refine r_v (Value.int .i64 (0)) rfl rfl rfl rfl ?_
  refine lx_nil ?_
  refine hK1 _ _ ?_; try clear hK1 K1
  refine A_seq fun K2 hK2 => ?_
  refine A_regC [(some 5, true)] (conG Try.prog [(5, fun _ _ v_ L_ U_ => ∀ u0_, wire_Reader_Byte_v2_m N c0_p0__0 c0_p0__1 c0_p0__2 c1_ = some u0_ → (pO (List.flatten [[(bc0_p0_, 69, #[c0_p0__0v, Value.int .i64 (c0_p0__1), Value.int .i64 (c0_p0__2)])], Sc0_p0__0]) (oI 5 encY c0_p0__0v u0_.2.1 (oE (Value.int .i64 (u0_.1)) [[(bc0_p0_, 69, #[c0_p0__0v, Value.int .i64 (u0_.2.2.1), Value.int .i64 (u0_.2.2.2)])]]))) v_ L_ U_)]) ?_
  refine r_lb (Value.pointer (some ⟨bc0_p0_, 0, none⟩)) (vs := [Value.pointer (some ⟨bc0_p0_, 0, none⟩)]) (o := 0) rfl rfl (blk_ro hbc0_) rfl ?_
  refine r_lb (Value.int .i64 (c1_)) (vs := [Value.int .i64 (c1_)]) (o := 0) rfl rfl (blk_ro hbc1_) rfl ?_
  replace hM := bind_sm hM; obtain ⟨r3, hr4, hM⟩ := hM
  replace hM := ck_some hM; obtain ⟨ck5, hM⟩ := hM
  refine r_gm (Ls := [[(bc0_p0_, 69, #[c0_p0__0v, Value.int .i64 (c0_p0__1), Value.int .i64 (c0_p0__2)])], Sc0_p0__0]) (FL := [[(bc0_p0_, 69, #[c0_p0__0v, Value.int .i64 (c0_p0__1), Value.int .i64 (c0_p0__2)])], Sc0_p0__0]) (RL := []) [0, 1] (oI 5 encY c0_p0__0v r3.2.1 (oE (Value.int .i64 (r3.1)) [[(bc0_p0_, 69, #[c0_p0__0v, Value.int .i64 (r3.2.2.1), Value.int .i64 (r3.2.2.2)])]])) (some 5) 19 _ rfl rfl rfl rfl rfl (ev_callF rfl call_19 rfl) (fun own_ nw_ hn_ hs_ => wire_Reader_Byte_v2_g N c0_p0__0 c0_p0__1 c0_p0__2 c1_ _ hr4 _ bc0_p0_ c0_p0__0v Sc0_p0__0 hc0_p0__0) (fun _ _ v_ L_ U_ => ⟨fun h_ => h_ _ hr4, fun h_ => by intro _ e_; cases Option.some.inj (e_.symm.trans hr4); exact h_⟩) (fun h_ => nomatch h_) ?_
  rintro _ _ ⟨S6, _, H7, ⟨rfl, rfl⟩, rfl⟩
  refine lx_perm (Ls := [S6, [(bc0_p0_, 69, #[c0_p0__0v, Value.int .i64 (r3.2.2.1), Value.int .i64 (r3.2.2.2)])]]) (Ls' := [[(bc0_p0_, 69, #[c0_p0__0v, Value.int .i64 (r3.2.2.1), Value.int .i64 (r3.2.2.2)])], S6]) [1, 0] rfl rfl ?_
  refine r_v (Value.int .i64 (r3.1)) rfl rfl rfl rfl ?_
  refine lx_nil ?_
  refine hK2 _ _ ?_; try clear hK2 K2
  obtain rfl := Option.some.inj hM
  refine A_ret (fun hn => endsO (v0 := Value.int .i64 (r3.1)) (O := [S6, [(bc0_p0_, 69, #[c0_p0__0v, Value.int .i64 (r3.2.2.1), Value.int .i64 (r3.2.2.2)])]]) (res1 rfl) (Sub.pick [[(bc0_p0_, 69, #[c0_p0__0v, Value.int .i64 (r3.2.2.1), Value.int .i64 (r3.2.2.2)])], S6] [1, 0] rfl) ⟨S6, _, H7, ⟨rfl, rfl⟩, rfl⟩)
end Go.Proofs.Ytdgejbbelmhbdaa
