/- models of functions and their walks -/
import Derived.Test.YtmdjifehblijkaaBb
namespace Go.Proofs.Ytmdjifehblijkaa
open Go Go.RowKit Go.Eng
def shunterref05_Letter_k2 (c : Int) : Option (Bool) := if (c : Int) ≥ 192 then if (c : Int) ≤ 591 then some (true) else if (c : Int) ≥ 913 then if (c : Int) ≤ 969 then some (true) else if (c : Int) ≥ 1024 then some (decide ((c : Int) ≤ 1279)) else some (false) else if (c : Int) ≥ 1024 then some (decide ((c : Int) ≤ 1279)) else some (false) else if (c : Int) ≥ 913 then if (c : Int) ≤ 969 then some (true) else if (c : Int) ≥ 1024 then some (decide ((c : Int) ≤ 1279)) else some (false) else if (c : Int) ≥ 1024 then some (decide ((c : Int) ≤ 1279)) else some (false)
def shunterref05_Letter_k1 (c : Int) : Option (Bool) := if (c : Int) = 215 then some (false) else if (c : Int) = 247 then some (false) else if (c : Int) = 930 then some (false) else shunterref05_Letter_k2 c 
def shunterref05_Letter_m (_ : Nat) (c : Int) : Option (Bool) := if (c : Int) ≥ 65 then if (c : Int) ≤ 90 then some (true) else if (c : Int) ≥ 97 then if (c : Int) ≤ 122 then some (true) else if (c : Int) = 95 then some (true) else shunterref05_Letter_k1 c  else if (c : Int) = 95 then some (true) else shunterref05_Letter_k1 c  else if (c : Int) ≥ 97 then if (c : Int) ≤ 122 then some (true) else if (c : Int) = 95 then some (true) else shunterref05_Letter_k1 c  else if (c : Int) = 95 then some (true) else shunterref05_Letter_k1 c 
set_option maxRecDepth 100000 in
set_option maxHeartbeats 8000000 in
theorem shunterref05_Letter_g (N : Nat) (c : Int) (r : Bool) (hM : shunterref05_Letter_m N c = some r) : Gives Try.prog 16 #[Value.int .i64 (c)] (Value.bool (r)) := by
  unfold shunterref05_Letter_m at hM
  refine gives_of_A follows Try.func16 rfl 53 rfl (upd (fun _ => undef) 0 (Value.int .i64 (c))) (by funext k; match k with | 0 => rfl | k + 1 => rfl) (fun base0_ => ?_)
  refine A_seq fun K1 hK1 => ?_
  refine A_reg ?_
  refine r_v (Value.bool (false)) rfl rfl rfl rfl ?_
  refine lx_nil ?_
  refine hK1 _ _ ?_; try clear hK1 K1
  refine A_cut (fun tt ll => (shunterref05_Letter_k1 c  = some r) ∧ Is [(0, Value.int .i64 (c))] [] tt ll) ?_ ?_
  · refine A_seq fun K20 hK20 => ?_
    refine A_reg ?_
    refine r_v (Value.int .i64 (c)) rfl rfl rfl rfl ?_
    refine r_v (Value.bool (decide ((c : Int) ≥ 65))) rfl rfl rfl rfl ?_
    refine r_v (Value.bool (decide ((c : Int) ≥ 65))) rfl rfl rfl rfl ?_
    rcases hg21 : (decide ((c : Int) ≥ 65)) with _ | _
    · replace hM := ifn (of_decide_eq_false hg21) hM
      refine r_n false rfl (by decide) rfl ?_
      refine r_n false rfl (by decide) rfl ?_
      refine r_v (Value.bool (false)) rfl rfl rfl rfl ?_
      refine r_v (Value.bool (false)) rfl rfl rfl rfl ?_
      refine r_y rfl ?_
      refine r_v (Value.int .i64 (c)) rfl rfl rfl rfl ?_
      refine r_y rfl ?_
      refine r_v (Value.bool (decide ((c : Int) ≥ 97))) rfl rfl rfl rfl ?_
      refine r_y rfl ?_
      refine r_v (Value.bool (decide ((c : Int) ≥ 97))) rfl rfl rfl rfl ?_
      rcases hg22 : (decide ((c : Int) ≥ 97)) with _ | _
      · replace hM := ifn (of_decide_eq_false hg22) hM
        refine r_n false rfl (by decide) rfl ?_
        refine r_n false rfl (by decide) rfl ?_
        refine r_y rfl ?_
        refine r_v (Value.bool (false)) rfl rfl rfl rfl ?_
        refine r_v (Value.bool (false)) rfl rfl rfl rfl ?_
        refine r_v (Value.bool (false)) rfl rfl rfl rfl ?_
        refine r_y rfl ?_
        refine r_v (Value.int .i64 (c)) rfl rfl rfl rfl ?_
        refine r_y rfl ?_
        refine r_v (Value.bool (((c : Int) == 95))) rfl rfl rfl rfl ?_
        refine r_v (Value.bool (((c : Int) == 95))) rfl rfl rfl rfl ?_
        refine lx_nil ?_
        refine hK20 _ _ ?_; try clear hK20 K20
        refine A_cond (((c : Int) == 95)) rfl (fun hc23 => ?_) (fun hc23 => ?_)
        · replace hM := ifp (eq_of_beq hc23) hM
          refine A_seq fun K24 hK24 => ?_
          refine A_reg ?_
          refine r_v (Value.bool (true)) rfl rfl rfl rfl ?_
          refine lx_nil ?_
          refine hK24 _ _ ?_; try clear hK24 K24
          obtain rfl := Option.some.inj hM
          refine A_ret (fun hn => ends_eq (v0 := Value.bool (true)) rfl (res1 rfl))
        · replace hM := ifn (ne_of_beq_false hc23) hM
          refine A_skip ?_
          refine fg _ (Sub.of (List.Sublist.slnil)) ?_
          exact ⟨hM, is_mk rfl rfl⟩
      · replace hM := ifp (of_decide_eq_true hg22) hM
        refine r_y rfl ?_
        refine r_v (Value.int .i64 (c)) rfl rfl rfl rfl ?_
        refine r_y rfl ?_
        refine r_v (Value.bool (decide ((c : Int) ≤ 122))) rfl rfl rfl rfl ?_
        refine r_y rfl ?_
        refine r_v (Value.bool (decide ((c : Int) ≤ 122))) rfl rfl rfl rfl ?_
        refine r_v (Value.bool (decide ((c : Int) ≤ 122))) rfl rfl rfl rfl ?_
        refine r_v (Value.bool (decide ((c : Int) ≤ 122))) rfl rfl rfl rfl ?_
        rcases hg25 : (decide ((c : Int) ≤ 122)) with _ | _
        · replace hM := ifn (of_decide_eq_false hg25) hM
          refine r_y rfl ?_
          refine r_v (Value.int .i64 (c)) rfl rfl rfl rfl ?_
          refine r_y rfl ?_
          refine r_v (Value.bool (((c : Int) == 95))) rfl rfl rfl rfl ?_
          refine r_v (Value.bool (((c : Int) == 95))) rfl rfl rfl rfl ?_
          refine lx_nil ?_
          refine hK20 _ _ ?_; try clear hK20 K20
          refine A_cond (((c : Int) == 95)) rfl (fun hc26 => ?_) (fun hc26 => ?_)
          · replace hM := ifp (eq_of_beq hc26) hM
            refine A_seq fun K27 hK27 => ?_
            refine A_reg ?_
            refine r_v (Value.bool (true)) rfl rfl rfl rfl ?_
            refine lx_nil ?_
            refine hK27 _ _ ?_; try clear hK27 K27
            obtain rfl := Option.some.inj hM
            refine A_ret (fun hn => ends_eq (v0 := Value.bool (true)) rfl (res1 rfl))
          · replace hM := ifn (ne_of_beq_false hc26) hM
            refine A_skip ?_
            refine fg _ (Sub.of (List.Sublist.slnil)) ?_
            exact ⟨hM, is_mk rfl rfl⟩
        · replace hM := ifp (of_decide_eq_true hg25) hM
          refine r_n true rfl (by decide) rfl ?_
          refine r_n true rfl (by decide) rfl ?_
          refine r_v (Value.bool (true)) rfl rfl rfl rfl ?_
          refine lx_nil ?_
          refine hK20 _ _ ?_; try clear hK20 K20
          refine A_cond true rfl (fun _ => ?_) (fun h_ => nomatch h_)
          refine A_seq fun K28 hK28 => ?_
          refine A_reg ?_
          refine r_v (Value.bool (true)) rfl rfl rfl rfl ?_
          refine lx_nil ?_
          refine hK28 _ _ ?_; try clear hK28 K28
          obtain rfl := Option.some.inj hM
          refine A_ret (fun hn => ends_eq (v0 := Value.bool (true)) rfl (res1 rfl))
    · replace hM := ifp (of_decide_eq_true hg21) hM
      refine r_y rfl ?_
      refine r_v (Value.int .i64 (c)) rfl rfl rfl rfl ?_
      refine r_y rfl ?_
      refine r_v (Value.bool (decide ((c : Int) ≤ 90))) rfl rfl rfl rfl ?_
      refine r_v (Value.bool (decide ((c : Int) ≤ 90))) rfl rfl rfl rfl ?_
      refine r_v (Value.bool (decide ((c : Int) ≤ 90))) rfl rfl rfl rfl ?_
      rcases hg29 : (decide ((c : Int) ≤ 90)) with _ | _
      · replace hM := ifn (of_decide_eq_false hg29) hM
        refine r_y rfl ?_
        refine r_v (Value.int .i64 (c)) rfl rfl rfl rfl ?_
        refine r_y rfl ?_
        refine r_v (Value.bool (decide ((c : Int) ≥ 97))) rfl rfl rfl rfl ?_
        refine r_y rfl ?_
        refine r_v (Value.bool (decide ((c : Int) ≥ 97))) rfl rfl rfl rfl ?_
        rcases hg30 : (decide ((c : Int) ≥ 97)) with _ | _
        · replace hM := ifn (of_decide_eq_false hg30) hM
          refine r_n false rfl (by decide) rfl ?_
          refine r_n false rfl (by decide) rfl ?_
          refine r_y rfl ?_
          refine r_v (Value.bool (false)) rfl rfl rfl rfl ?_
          refine r_v (Value.bool (false)) rfl rfl rfl rfl ?_
          refine r_v (Value.bool (false)) rfl rfl rfl rfl ?_
          refine r_y rfl ?_
          refine r_v (Value.int .i64 (c)) rfl rfl rfl rfl ?_
          refine r_y rfl ?_
          refine r_v (Value.bool (((c : Int) == 95))) rfl rfl rfl rfl ?_
          refine r_v (Value.bool (((c : Int) == 95))) rfl rfl rfl rfl ?_
          refine lx_nil ?_
          refine hK20 _ _ ?_; try clear hK20 K20
          refine A_cond (((c : Int) == 95)) rfl (fun hc31 => ?_) (fun hc31 => ?_)
          · replace hM := ifp (eq_of_beq hc31) hM
            refine A_seq fun K32 hK32 => ?_
            refine A_reg ?_
            refine r_v (Value.bool (true)) rfl rfl rfl rfl ?_
            refine lx_nil ?_
            refine hK32 _ _ ?_; try clear hK32 K32
            obtain rfl := Option.some.inj hM
            refine A_ret (fun hn => ends_eq (v0 := Value.bool (true)) rfl (res1 rfl))
          · replace hM := ifn (ne_of_beq_false hc31) hM
            refine A_skip ?_
            refine fg _ (Sub.of (List.Sublist.slnil)) ?_
            exact ⟨hM, is_mk rfl rfl⟩
        · replace hM := ifp (of_decide_eq_true hg30) hM
          refine r_y rfl ?_
          refine r_v (Value.int .i64 (c)) rfl rfl rfl rfl ?_
          refine r_y rfl ?_
          refine r_v (Value.bool (decide ((c : Int) ≤ 122))) rfl rfl rfl rfl ?_
          refine r_y rfl ?_
          refine r_v (Value.bool (decide ((c : Int) ≤ 122))) rfl rfl rfl rfl ?_
          refine r_v (Value.bool (decide ((c : Int) ≤ 122))) rfl rfl rfl rfl ?_
          refine r_v (Value.bool (decide ((c : Int) ≤ 122))) rfl rfl rfl rfl ?_
          rcases hg33 : (decide ((c : Int) ≤ 122)) with _ | _
          · replace hM := ifn (of_decide_eq_false hg33) hM
            refine r_y rfl ?_
            refine r_v (Value.int .i64 (c)) rfl rfl rfl rfl ?_
            refine r_y rfl ?_
            refine r_v (Value.bool (((c : Int) == 95))) rfl rfl rfl rfl ?_
            refine r_v (Value.bool (((c : Int) == 95))) rfl rfl rfl rfl ?_
            refine lx_nil ?_
            refine hK20 _ _ ?_; try clear hK20 K20
            refine A_cond (((c : Int) == 95)) rfl (fun hc34 => ?_) (fun hc34 => ?_)
            · replace hM := ifp (eq_of_beq hc34) hM
              refine A_seq fun K35 hK35 => ?_
              refine A_reg ?_
              refine r_v (Value.bool (true)) rfl rfl rfl rfl ?_
              refine lx_nil ?_
              refine hK35 _ _ ?_; try clear hK35 K35
              obtain rfl := Option.some.inj hM
              refine A_ret (fun hn => ends_eq (v0 := Value.bool (true)) rfl (res1 rfl))
            · replace hM := ifn (ne_of_beq_false hc34) hM
              refine A_skip ?_
              refine fg _ (Sub.of (List.Sublist.slnil)) ?_
              exact ⟨hM, is_mk rfl rfl⟩
          · replace hM := ifp (of_decide_eq_true hg33) hM
            refine r_n true rfl (by decide) rfl ?_
            refine r_n true rfl (by decide) rfl ?_
            refine r_v (Value.bool (true)) rfl rfl rfl rfl ?_
            refine lx_nil ?_
            refine hK20 _ _ ?_; try clear hK20 K20
            refine A_cond true rfl (fun _ => ?_) (fun h_ => nomatch h_)
            refine A_seq fun K36 hK36 => ?_
            refine A_reg ?_
            refine r_v (Value.bool (true)) rfl rfl rfl rfl ?_
            refine lx_nil ?_
            refine hK36 _ _ ?_; try clear hK36 K36
            obtain rfl := Option.some.inj hM
            refine A_ret (fun hn => ends_eq (v0 := Value.bool (true)) rfl (res1 rfl))
      · replace hM := ifp (of_decide_eq_true hg29) hM
        refine r_n true rfl (by decide) rfl ?_
        refine r_n true rfl (by decide) rfl ?_
        refine r_n true rfl (by decide) rfl ?_
        refine r_nu rfl rfl ?_
        refine r_nu rfl rfl ?_
        refine r_n true rfl (by decide) rfl ?_
        refine r_v (Value.bool (true)) rfl rfl rfl rfl ?_
        refine r_v (Value.bool (true)) rfl rfl rfl rfl ?_
        refine r_n true rfl (by decide) rfl ?_
        refine r_n true rfl (by decide) rfl ?_
        refine r_v (Value.bool (true)) rfl rfl rfl rfl ?_
        refine lx_nil ?_
        refine hK20 _ _ ?_; try clear hK20 K20
        refine A_cond true rfl (fun _ => ?_) (fun h_ => nomatch h_)
        refine A_seq fun K37 hK37 => ?_
        refine A_reg ?_
        refine r_v (Value.bool (true)) rfl rfl rfl rfl ?_
        refine lx_nil ?_
        refine hK37 _ _ ?_; try clear hK37 K37
        obtain rfl := Option.some.inj hM
        refine A_ret (fun hn => ends_eq (v0 := Value.bool (true)) rfl (res1 rfl))
  · clear hM; rintro t l ⟨hM, ⟨T, rfl⟩, rfl⟩
    unfold shunterref05_Letter_k1 at hM
    refine A_cut (fun tt ll => (shunterref05_Letter_k2 c  = some r) ∧ Is [(0, Value.int .i64 (c))] [] tt ll) ?_ ?_
    · refine A_seq fun K13 hK13 => ?_
      refine A_reg ?_
      refine r_v (Value.int .i64 (c)) rfl rfl rfl rfl ?_
      refine r_v (Value.bool (((c : Int) == 215))) rfl rfl rfl rfl ?_
      refine r_v (Value.bool (((c : Int) == 215))) rfl rfl rfl rfl ?_
      rcases hg14 : (((c : Int) == 215)) with _ | _
      · replace hM := ifn (ne_of_beq_false hg14) hM
        refine r_y rfl ?_
        refine r_v (Value.int .i64 (c)) rfl rfl rfl rfl ?_
        refine r_y rfl ?_
        refine r_v (Value.bool (((c : Int) == 247))) rfl rfl rfl rfl ?_
        refine r_v (Value.bool (((c : Int) == 247))) rfl rfl rfl rfl ?_
        refine r_v (Value.bool (((c : Int) == 247))) rfl rfl rfl rfl ?_
        rcases hg15 : (((c : Int) == 247)) with _ | _
        · replace hM := ifn (ne_of_beq_false hg15) hM
          refine r_y rfl ?_
          refine r_v (Value.int .i64 (c)) rfl rfl rfl rfl ?_
          refine r_y rfl ?_
          refine r_v (Value.bool (((c : Int) == 930))) rfl rfl rfl rfl ?_
          refine r_v (Value.bool (((c : Int) == 930))) rfl rfl rfl rfl ?_
          refine lx_nil ?_
          refine hK13 _ _ ?_; try clear hK13 K13
          refine A_cond (((c : Int) == 930)) rfl (fun hc16 => ?_) (fun hc16 => ?_)
          · replace hM := ifp (eq_of_beq hc16) hM
            refine A_seq fun K17 hK17 => ?_
            refine A_reg ?_
            refine r_v (Value.bool (false)) rfl rfl rfl rfl ?_
            refine lx_nil ?_
            refine hK17 _ _ ?_; try clear hK17 K17
            obtain rfl := Option.some.inj hM
            refine A_ret (fun hn => ends_eq (v0 := Value.bool (false)) rfl (res1 rfl))
          · replace hM := ifn (ne_of_beq_false hc16) hM
            refine A_skip ?_
            refine fg _ (Sub.of (List.Sublist.slnil)) ?_
            exact ⟨hM, is_mk rfl rfl⟩
        · replace hM := ifp (eq_of_beq hg15) hM
          refine r_n true rfl (by decide) rfl ?_
          refine r_n true rfl (by decide) rfl ?_
          refine r_v (Value.bool (true)) rfl rfl rfl rfl ?_
          refine lx_nil ?_
          refine hK13 _ _ ?_; try clear hK13 K13
          refine A_cond true rfl (fun _ => ?_) (fun h_ => nomatch h_)
          refine A_seq fun K18 hK18 => ?_
          refine A_reg ?_
          refine r_v (Value.bool (false)) rfl rfl rfl rfl ?_
          refine lx_nil ?_
          refine hK18 _ _ ?_; try clear hK18 K18
          obtain rfl := Option.some.inj hM
          refine A_ret (fun hn => ends_eq (v0 := Value.bool (false)) rfl (res1 rfl))
      · replace hM := ifp (eq_of_beq hg14) hM
        refine r_n true rfl (by decide) rfl ?_
        refine r_n true rfl (by decide) rfl ?_
        refine r_v (Value.bool (true)) rfl rfl rfl rfl ?_
        refine r_v (Value.bool (true)) rfl rfl rfl rfl ?_
        refine r_n true rfl (by decide) rfl ?_
        refine r_n true rfl (by decide) rfl ?_
        refine r_v (Value.bool (true)) rfl rfl rfl rfl ?_
        refine lx_nil ?_
        refine hK13 _ _ ?_; try clear hK13 K13
        refine A_cond true rfl (fun _ => ?_) (fun h_ => nomatch h_)
        refine A_seq fun K19 hK19 => ?_
        refine A_reg ?_
        refine r_v (Value.bool (false)) rfl rfl rfl rfl ?_
        refine lx_nil ?_
        refine hK19 _ _ ?_; try clear hK19 K19
        obtain rfl := Option.some.inj hM
        refine A_ret (fun hn => ends_eq (v0 := Value.bool (false)) rfl (res1 rfl))
    · clear hM; rintro t l ⟨hM, ⟨T, rfl⟩, rfl⟩
      unfold shunterref05_Letter_k2 at hM
      refine A_seq fun K2 hK2 => ?_
      refine A_reg ?_
      refine r_v (Value.int .i64 (c)) rfl rfl rfl rfl ?_
      refine r_v (Value.bool (decide ((c : Int) ≥ 192))) rfl rfl rfl rfl ?_
      refine r_v (Value.bool (decide ((c : Int) ≥ 192))) rfl rfl rfl rfl ?_
      rcases hg3 : (decide ((c : Int) ≥ 192)) with _ | _
      · replace hM := ifn (of_decide_eq_false hg3) hM
        refine r_n false rfl (by decide) rfl ?_
        refine r_n false rfl (by decide) rfl ?_
        refine r_v (Value.bool (false)) rfl rfl rfl rfl ?_
        refine r_v (Value.bool (false)) rfl rfl rfl rfl ?_
        refine r_y rfl ?_
        refine r_v (Value.int .i64 (c)) rfl rfl rfl rfl ?_
        refine r_y rfl ?_
        refine r_v (Value.bool (decide ((c : Int) ≥ 913))) rfl rfl rfl rfl ?_
        refine r_y rfl ?_
        refine r_v (Value.bool (decide ((c : Int) ≥ 913))) rfl rfl rfl rfl ?_
        rcases hg4 : (decide ((c : Int) ≥ 913)) with _ | _
        · replace hM := ifn (of_decide_eq_false hg4) hM
          refine r_n false rfl (by decide) rfl ?_
          refine r_n false rfl (by decide) rfl ?_
          refine r_y rfl ?_
          refine r_v (Value.bool (false)) rfl rfl rfl rfl ?_
          refine r_v (Value.bool (false)) rfl rfl rfl rfl ?_
          refine r_v (Value.bool (false)) rfl rfl rfl rfl ?_
          refine r_y rfl ?_
          refine r_v (Value.int .i64 (c)) rfl rfl rfl rfl ?_
          refine r_y rfl ?_
          refine r_v (Value.bool (decide ((c : Int) ≥ 1024))) rfl rfl rfl rfl ?_
          refine r_y rfl ?_
          refine r_v (Value.bool (decide ((c : Int) ≥ 1024))) rfl rfl rfl rfl ?_
          rcases hg5 : (decide ((c : Int) ≥ 1024)) with _ | _
          · replace hM := ifn (of_decide_eq_false hg5) hM
            refine r_n false rfl (by decide) rfl ?_
            refine r_n false rfl (by decide) rfl ?_
            refine r_y rfl ?_
            refine r_v (Value.bool (false)) rfl rfl rfl rfl ?_
            refine r_v (Value.bool (false)) rfl rfl rfl rfl ?_
            refine r_v (Value.bool (false)) rfl rfl rfl rfl ?_
            refine lx_nil ?_
            refine hK2 _ _ ?_; try clear hK2 K2
            obtain rfl := Option.some.inj hM
            refine A_ret (fun hn => ends_eq (v0 := Value.bool (false)) rfl (res1 rfl))
          · replace hM := ifp (of_decide_eq_true hg5) hM
            refine r_y rfl ?_
            refine r_v (Value.int .i64 (c)) rfl rfl rfl rfl ?_
            refine r_y rfl ?_
            refine r_v (Value.bool (decide ((c : Int) ≤ 1279))) rfl rfl rfl rfl ?_
            refine r_y rfl ?_
            refine r_v (Value.bool (decide ((c : Int) ≤ 1279))) rfl rfl rfl rfl ?_
            refine r_v (Value.bool (decide ((c : Int) ≤ 1279))) rfl rfl rfl rfl ?_
            refine r_v (Value.bool (decide ((c : Int) ≤ 1279))) rfl rfl rfl rfl ?_
            refine lx_nil ?_
            refine hK2 _ _ ?_; try clear hK2 K2
            obtain rfl := Option.some.inj hM
            refine A_ret (fun hn => ends_eq (v0 := Value.bool (decide ((c : Int) ≤ 1279))) rfl (res1 rfl))
        · replace hM := ifp (of_decide_eq_true hg4) hM
          refine r_y rfl ?_
          refine r_v (Value.int .i64 (c)) rfl rfl rfl rfl ?_
          refine r_y rfl ?_
          refine r_v (Value.bool (decide ((c : Int) ≤ 969))) rfl rfl rfl rfl ?_
          refine r_y rfl ?_
          refine r_v (Value.bool (decide ((c : Int) ≤ 969))) rfl rfl rfl rfl ?_
          refine r_v (Value.bool (decide ((c : Int) ≤ 969))) rfl rfl rfl rfl ?_
          refine r_v (Value.bool (decide ((c : Int) ≤ 969))) rfl rfl rfl rfl ?_
          rcases hg6 : (decide ((c : Int) ≤ 969)) with _ | _
          · replace hM := ifn (of_decide_eq_false hg6) hM
            refine r_y rfl ?_
            refine r_v (Value.int .i64 (c)) rfl rfl rfl rfl ?_
            refine r_y rfl ?_
            refine r_v (Value.bool (decide ((c : Int) ≥ 1024))) rfl rfl rfl rfl ?_
            refine r_y rfl ?_
            refine r_v (Value.bool (decide ((c : Int) ≥ 1024))) rfl rfl rfl rfl ?_
            rcases hg7 : (decide ((c : Int) ≥ 1024)) with _ | _
            · replace hM := ifn (of_decide_eq_false hg7) hM
              refine r_n false rfl (by decide) rfl ?_
              refine r_n false rfl (by decide) rfl ?_
              refine r_y rfl ?_
              refine r_v (Value.bool (false)) rfl rfl rfl rfl ?_
              refine r_v (Value.bool (false)) rfl rfl rfl rfl ?_
              refine r_v (Value.bool (false)) rfl rfl rfl rfl ?_
              refine lx_nil ?_
              refine hK2 _ _ ?_; try clear hK2 K2
              obtain rfl := Option.some.inj hM
              refine A_ret (fun hn => ends_eq (v0 := Value.bool (false)) rfl (res1 rfl))
            · replace hM := ifp (of_decide_eq_true hg7) hM
              refine r_y rfl ?_
              refine r_v (Value.int .i64 (c)) rfl rfl rfl rfl ?_
              refine r_y rfl ?_
              refine r_v (Value.bool (decide ((c : Int) ≤ 1279))) rfl rfl rfl rfl ?_
              refine r_y rfl ?_
              refine r_v (Value.bool (decide ((c : Int) ≤ 1279))) rfl rfl rfl rfl ?_
              refine r_v (Value.bool (decide ((c : Int) ≤ 1279))) rfl rfl rfl rfl ?_
              refine r_v (Value.bool (decide ((c : Int) ≤ 1279))) rfl rfl rfl rfl ?_
              refine lx_nil ?_
              refine hK2 _ _ ?_; try clear hK2 K2
              obtain rfl := Option.some.inj hM
              refine A_ret (fun hn => ends_eq (v0 := Value.bool (decide ((c : Int) ≤ 1279))) rfl (res1 rfl))
          · replace hM := ifp (of_decide_eq_true hg6) hM
            refine r_n true rfl (by decide) rfl ?_
            refine r_n true rfl (by decide) rfl ?_
            refine r_n true rfl (by decide) rfl ?_
            refine r_nu rfl rfl ?_
            refine r_nu rfl rfl ?_
            refine r_n true rfl (by decide) rfl ?_
            refine r_v (Value.bool (true)) rfl rfl rfl rfl ?_
            refine r_v (Value.bool (true)) rfl rfl rfl rfl ?_
            refine lx_nil ?_
            refine hK2 _ _ ?_; try clear hK2 K2
            obtain rfl := Option.some.inj hM
            refine A_ret (fun hn => ends_eq (v0 := Value.bool (true)) rfl (res1 rfl))
      · replace hM := ifp (of_decide_eq_true hg3) hM
        refine r_y rfl ?_
        refine r_v (Value.int .i64 (c)) rfl rfl rfl rfl ?_
        refine r_y rfl ?_
        refine r_v (Value.bool (decide ((c : Int) ≤ 591))) rfl rfl rfl rfl ?_
        refine r_v (Value.bool (decide ((c : Int) ≤ 591))) rfl rfl rfl rfl ?_
        refine r_v (Value.bool (decide ((c : Int) ≤ 591))) rfl rfl rfl rfl ?_
        rcases hg8 : (decide ((c : Int) ≤ 591)) with _ | _
        · replace hM := ifn (of_decide_eq_false hg8) hM
          refine r_y rfl ?_
          refine r_v (Value.int .i64 (c)) rfl rfl rfl rfl ?_
          refine r_y rfl ?_
          refine r_v (Value.bool (decide ((c : Int) ≥ 913))) rfl rfl rfl rfl ?_
          refine r_y rfl ?_
          refine r_v (Value.bool (decide ((c : Int) ≥ 913))) rfl rfl rfl rfl ?_
          rcases hg9 : (decide ((c : Int) ≥ 913)) with _ | _
          · replace hM := ifn (of_decide_eq_false hg9) hM
            refine r_n false rfl (by decide) rfl ?_
            refine r_n false rfl (by decide) rfl ?_
            refine r_y rfl ?_
            refine r_v (Value.bool (false)) rfl rfl rfl rfl ?_
            refine r_v (Value.bool (false)) rfl rfl rfl rfl ?_
            refine r_v (Value.bool (false)) rfl rfl rfl rfl ?_
            refine r_y rfl ?_
            refine r_v (Value.int .i64 (c)) rfl rfl rfl rfl ?_
            refine r_y rfl ?_
            refine r_v (Value.bool (decide ((c : Int) ≥ 1024))) rfl rfl rfl rfl ?_
            refine r_y rfl ?_
            refine r_v (Value.bool (decide ((c : Int) ≥ 1024))) rfl rfl rfl rfl ?_
            rcases hg10 : (decide ((c : Int) ≥ 1024)) with _ | _
            · replace hM := ifn (of_decide_eq_false hg10) hM
              refine r_n false rfl (by decide) rfl ?_
              refine r_n false rfl (by decide) rfl ?_
              refine r_y rfl ?_
              refine r_v (Value.bool (false)) rfl rfl rfl rfl ?_
              refine r_v (Value.bool (false)) rfl rfl rfl rfl ?_
              refine r_v (Value.bool (false)) rfl rfl rfl rfl ?_
              refine lx_nil ?_
              refine hK2 _ _ ?_; try clear hK2 K2
              obtain rfl := Option.some.inj hM
              refine A_ret (fun hn => ends_eq (v0 := Value.bool (false)) rfl (res1 rfl))
            · replace hM := ifp (of_decide_eq_true hg10) hM
              refine r_y rfl ?_
              refine r_v (Value.int .i64 (c)) rfl rfl rfl rfl ?_
              refine r_y rfl ?_
              refine r_v (Value.bool (decide ((c : Int) ≤ 1279))) rfl rfl rfl rfl ?_
              refine r_y rfl ?_
              refine r_v (Value.bool (decide ((c : Int) ≤ 1279))) rfl rfl rfl rfl ?_
              refine r_v (Value.bool (decide ((c : Int) ≤ 1279))) rfl rfl rfl rfl ?_
              refine r_v (Value.bool (decide ((c : Int) ≤ 1279))) rfl rfl rfl rfl ?_
              refine lx_nil ?_
              refine hK2 _ _ ?_; try clear hK2 K2
              obtain rfl := Option.some.inj hM
              refine A_ret (fun hn => ends_eq (v0 := Value.bool (decide ((c : Int) ≤ 1279))) rfl (res1 rfl))
          · replace hM := ifp (of_decide_eq_true hg9) hM
            refine r_y rfl ?_
            refine r_v (Value.int .i64 (c)) rfl rfl rfl rfl ?_
            refine r_y rfl ?_
            refine r_v (Value.bool (decide ((c : Int) ≤ 969))) rfl rfl rfl rfl ?_
            refine r_y rfl ?_
            refine r_v (Value.bool (decide ((c : Int) ≤ 969))) rfl rfl rfl rfl ?_
            refine r_v (Value.bool (decide ((c : Int) ≤ 969))) rfl rfl rfl rfl ?_
            refine r_v (Value.bool (decide ((c : Int) ≤ 969))) rfl rfl rfl rfl ?_
            rcases hg11 : (decide ((c : Int) ≤ 969)) with _ | _
            · replace hM := ifn (of_decide_eq_false hg11) hM
              refine r_y rfl ?_
              refine r_v (Value.int .i64 (c)) rfl rfl rfl rfl ?_
              refine r_y rfl ?_
              refine r_v (Value.bool (decide ((c : Int) ≥ 1024))) rfl rfl rfl rfl ?_
              refine r_y rfl ?_
              refine r_v (Value.bool (decide ((c : Int) ≥ 1024))) rfl rfl rfl rfl ?_
              rcases hg12 : (decide ((c : Int) ≥ 1024)) with _ | _
              · replace hM := ifn (of_decide_eq_false hg12) hM
                refine r_n false rfl (by decide) rfl ?_
                refine r_n false rfl (by decide) rfl ?_
                refine r_y rfl ?_
                refine r_v (Value.bool (false)) rfl rfl rfl rfl ?_
                refine r_v (Value.bool (false)) rfl rfl rfl rfl ?_
                refine r_v (Value.bool (false)) rfl rfl rfl rfl ?_
                refine lx_nil ?_
                refine hK2 _ _ ?_; try clear hK2 K2
                obtain rfl := Option.some.inj hM
                refine A_ret (fun hn => ends_eq (v0 := Value.bool (false)) rfl (res1 rfl))
              · replace hM := ifp (of_decide_eq_true hg12) hM
                refine r_y rfl ?_
                refine r_v (Value.int .i64 (c)) rfl rfl rfl rfl ?_
                refine r_y rfl ?_
                refine r_v (Value.bool (decide ((c : Int) ≤ 1279))) rfl rfl rfl rfl ?_
                refine r_y rfl ?_
                refine r_v (Value.bool (decide ((c : Int) ≤ 1279))) rfl rfl rfl rfl ?_
                refine r_v (Value.bool (decide ((c : Int) ≤ 1279))) rfl rfl rfl rfl ?_
                refine r_v (Value.bool (decide ((c : Int) ≤ 1279))) rfl rfl rfl rfl ?_
                refine lx_nil ?_
                refine hK2 _ _ ?_; try clear hK2 K2
                obtain rfl := Option.some.inj hM
                refine A_ret (fun hn => ends_eq (v0 := Value.bool (decide ((c : Int) ≤ 1279))) rfl (res1 rfl))
            · replace hM := ifp (of_decide_eq_true hg11) hM
              refine r_n true rfl (by decide) rfl ?_
              refine r_n true rfl (by decide) rfl ?_
              refine r_n true rfl (by decide) rfl ?_
              refine r_nu rfl rfl ?_
              refine r_nu rfl rfl ?_
              refine r_n true rfl (by decide) rfl ?_
              refine r_v (Value.bool (true)) rfl rfl rfl rfl ?_
              refine r_v (Value.bool (true)) rfl rfl rfl rfl ?_
              refine lx_nil ?_
              refine hK2 _ _ ?_; try clear hK2 K2
              obtain rfl := Option.some.inj hM
              refine A_ret (fun hn => ends_eq (v0 := Value.bool (true)) rfl (res1 rfl))
        · replace hM := ifp (of_decide_eq_true hg8) hM
          refine r_n true rfl (by decide) rfl ?_
          refine r_n true rfl (by decide) rfl ?_
          refine r_n true rfl (by decide) rfl ?_
          refine r_nu rfl rfl ?_
          refine r_nu rfl rfl ?_
          refine r_n true rfl (by decide) rfl ?_
          refine r_v (Value.bool (true)) rfl rfl rfl rfl ?_
          refine r_v (Value.bool (true)) rfl rfl rfl rfl ?_
          refine r_n true rfl (by decide) rfl ?_
          refine r_n true rfl (by decide) rfl ?_
          refine r_n true rfl (by decide) rfl ?_
          refine r_nu rfl rfl ?_
          refine r_nu rfl rfl ?_
          refine r_n true rfl (by decide) rfl ?_
          refine r_v (Value.bool (true)) rfl rfl rfl rfl ?_
          refine r_v (Value.bool (true)) rfl rfl rfl rfl ?_
          refine lx_nil ?_
          refine hK2 _ _ ?_; try clear hK2 K2
          obtain rfl := Option.some.inj hM
          refine A_ret (fun hn => ends_eq (v0 := Value.bool (true)) rfl (res1 rfl))
def shunterref06_digit_m (_ : Nat) (c : Int) : Option (Bool) := if (c : Int) ≥ 48 then some (decide ((c : Int) ≤ 57)) else some (false)
set_option maxRecDepth 100000 in
set_option maxHeartbeats 8000000 in
theorem shunterref06_digit_g (N : Nat) (c : Int) (r : Bool) (hM : shunterref06_digit_m N c = some r) : Gives Try.prog 17 #[Value.int .i64 (c)] (Value.bool (r)) := by
  unfold shunterref06_digit_m at hM
  refine gives_of_A follows Try.func17 rfl 9 rfl (upd (fun _ => undef) 0 (Value.int .i64 (c))) (by funext k; match k with | 0 => rfl | k + 1 => rfl) (fun base0_ => ?_)
  refine A_seq fun K1 hK1 => ?_
  refine A_reg ?_
  refine r_v (Value.bool (false)) rfl rfl rfl rfl ?_
  refine lx_nil ?_
  refine hK1 _ _ ?_; try clear hK1 K1
  refine A_seq fun K2 hK2 => ?_
  refine A_reg ?_
  refine r_v (Value.int .i64 (c)) rfl rfl rfl rfl ?_
  refine r_v (Value.bool (decide ((c : Int) ≥ 48))) rfl rfl rfl rfl ?_
  refine r_v (Value.bool (decide ((c : Int) ≥ 48))) rfl rfl rfl rfl ?_
  rcases hg3 : (decide ((c : Int) ≥ 48)) with _ | _
  · replace hM := ifn (of_decide_eq_false hg3) hM
    refine r_n false rfl (by decide) rfl ?_
    refine r_n false rfl (by decide) rfl ?_
    refine r_v (Value.bool (false)) rfl rfl rfl rfl ?_
    refine r_v (Value.bool (false)) rfl rfl rfl rfl ?_
    refine lx_nil ?_
    refine hK2 _ _ ?_; try clear hK2 K2
    obtain rfl := Option.some.inj hM
    refine A_ret (fun hn => ends_eq (v0 := Value.bool (false)) rfl (res1 rfl))
  · replace hM := ifp (of_decide_eq_true hg3) hM
    refine r_y rfl ?_
    refine r_v (Value.int .i64 (c)) rfl rfl rfl rfl ?_
    refine r_y rfl ?_
    refine r_v (Value.bool (decide ((c : Int) ≤ 57))) rfl rfl rfl rfl ?_
    refine r_v (Value.bool (decide ((c : Int) ≤ 57))) rfl rfl rfl rfl ?_
    refine r_v (Value.bool (decide ((c : Int) ≤ 57))) rfl rfl rfl rfl ?_
    refine lx_nil ?_
    refine hK2 _ _ ?_; try clear hK2 K2
    obtain rfl := Option.some.inj hM
    refine A_ret (fun hn => ends_eq (v0 := Value.bool (decide ((c : Int) ≤ 57))) rfl (res1 rfl))
def shunterref05_Runes_l3 (N : Nat) : Nat → List UInt8 → List Int → Option (List Int)
  | 0, _, _ => none
  | n4 + 1, s1_, l2_ => if (((s1_).length : Int) : Int) > 0 then (shunterref05_First_m N s1_).bind fun r9 => ck ((l2_).length + ([r9.1]).length ≤ 17592186044416) (ck (0 ≤ r9.2 ∧ r9.2 ≤ ((s1_).length : Int)) ((shunterref05_Runes_l3 N n4) ((s1_).drop (r9.2).toNat) ((l2_ ++ ([r9.1]))))) else some (l2_)
def shunterref05_Runes_m (N : Nat) (s : List UInt8) : Option (List Int) := shunterref05_Runes_l3 N N (s) ([])
set_option maxRecDepth 100000 in
set_option maxHeartbeats 8000000 in
theorem shunterref05_Runes_g (N : Nat) (s : List UInt8) (r : List Int) (hM : shunterref05_Runes_m N s = some r) (ro : Addr → Option Value)  : Does Try.prog 29 #[Value.string (⟨(s).toArray⟩)] ro [] (p1 (fun s_ => s_) 3 encI r) := by
  unfold shunterref05_Runes_m at hM
  refine does_of_A follows Try.func29 rfl 22 rfl (upd (fun _ => undef) 0 (Value.string (⟨(s).toArray⟩))) (by funext k; match k with | 0 => rfl | k + 1 => rfl) (fun base0_ => ?_)
  refine A_seq fun K1 hK1 => ?_
  refine A_reg ?_
  refine r_v (Value.slice none 0 0) rfl rfl rfl rfl ?_
  refine lx_nil ?_
  refine hK1 _ _ ?_; try clear hK1 K1
  refine A_seq fun K2 hK2 => ?_
  refine A_reg ?_
  refine r_v (Value.slice none 0 0) rfl rfl rfl rfl ?_
  refine lx_nil ?_
  refine hK2 _ _ ?_; try clear hK2 K2
  refine A_seq fun K3 hK3 => ?_
  refine A_block ?_
  refine A_forget _ (Sub.pickE (Ls := [[]]) (Ls0 := []) rfl [0] rfl) ?_
  refine A_loop (fun tt ll nn => ∃ (n4 : Nat) (s1_ : List UInt8) (l2_ : List Int), (shunterref05_Runes_l3 N n4 s1_ l2_ = some r) ∧ ∃ (vl2_ : Value) (Sl2_ : List Bl), Sl 3 encI vl2_ l2_ Sl2_ ∧ Is [(0, Value.string (⟨(s1_).toArray⟩)), (3, vl2_)] (List.flatten [Sl2_]) tt ll ∧ nn = n4 + 1) (N + 1) ?_ ?_
  · exact ⟨N, s, [], hM, Value.slice none 0 0, [], Sl.nil, is_mk rfl rfl, rfl⟩
  · clear hM; rintro t l _ ⟨n4, s1_, l2_, hM, vl2_, Sl2_, hl2_, ⟨⟨T, rfl⟩, rfl⟩, rfl⟩
    rcases n4 with _ | n4
    · exact absurd hM (by simp [shunterref05_Runes_l3])
    rw [shunterref05_Runes_l3] at hM
    refine A_seq fun K5 hK5 => ?_
    refine A_seq fun K6 hK6 => ?_
    refine A_reg ?_
    refine r_v (Value.string (⟨(s1_).toArray⟩)) rfl rfl rfl rfl ?_
    refine r_v (Value.int .i64 (((s1_).length : Int))) rfl rfl rfl (ev_lenS rfl rfl rfl) ?_
    refine r_v (Value.bool (decide ((((s1_).length : Int) : Int) > 0))) rfl rfl rfl rfl ?_
    refine lx_nil ?_
    refine hK6 _ _ ?_; try clear hK6 K6
    refine A_cond (decide ((((s1_).length : Int) : Int) > 0)) rfl (fun hc7 => ?_) (fun hc7 => ?_)
    · replace hM := ifp (of_decide_eq_true hc7) hM
      refine A_skip ?_
      refine hK5 _ _ ?_; try clear hK5 K5
      refine A_block ?_
      refine A_seq fun K8 hK8 => ?_
      refine A_reg ?_
      refine r_v (Value.string (⟨(s1_).toArray⟩)) rfl rfl rfl rfl ?_
      replace hM := bind_sm hM; obtain ⟨r9, hr10, hM⟩ := hM
      refine r_c (Value.tuple #[Value.int .i64 (r9.1), Value.int .i64 (r9.2)]) rfl _ _ (ev_callF rfl call_15 rfl) (shunterref05_First_g N s1_ _ hr10) ?_
      refine r_v (Value.tuple #[Value.int .i64 (r9.1), Value.int .i64 (r9.2)]) rfl rfl rfl rfl ?_
      refine r_v (Value.int .i64 (r9.1)) rfl rfl rfl rfl ?_
      refine r_v (Value.int .i64 (r9.2)) rfl rfl rfl rfl ?_
      refine r_v (Value.int .i64 (r9.1)) rfl rfl rfl rfl ?_
      refine r_v (Value.int .i64 (r9.2)) rfl rfl rfl rfl ?_
      refine lx_nil ?_
      refine hK8 _ _ ?_; try clear hK8 K8
      refine A_seq fun K11 hK11 => ?_
      refine A_regC [(some 16, false), (some 17, true)] (conG Try.prog []) ?_
      refine r_v (vl2_) rfl rfl rfl rfl ?_
      refine r_v (Value.int .i64 (r9.1)) rfl rfl rfl rfl ?_
      refine r_bs (cs0 := []) (Ls := [Sl2_]) 3 encI [r9.1] [Value.int .i64 (r9.1)] [Value.int .i64 (0)] rfl rfl rfl rfl rfl rfl rfl (by kernel_rfl) (by kernel_rfl) rfl rfl rfl (fun s12 S13 H14 => ?_)
      replace hM := ck_some hM; obtain ⟨ck15, hM⟩ := hM
      refine r_app (cs0 := []) (Ls := [Sl2_, S13]) 0 (En := encI) rfl rfl rfl rfl rfl hl2_ rfl (rd_own H14 (mem_chunk (Ls := [Sl2_, S13]) (k := 1) rfl rfl)) rfl rfl rfl rfl rfl (app_b ck15 rfl) (app_m ck15 rfl) rfl (fun s16 S17 H18 => ?_)
      refine r_v (s16) rfl rfl rfl rfl ?_
      refine lx_nil ?_
      refine hK11 _ _ ?_; try clear hK11 K11
      refine A_reg ?_
      refine r_v (Value.string (⟨(s1_).toArray⟩)) rfl rfl rfl rfl ?_
      refine r_v (Value.int .i64 (r9.2)) rfl rfl rfl rfl ?_
      replace hM := ck_some hM; obtain ⟨ck19, hM⟩ := hM
      refine r_v (Value.string (⟨((s1_).drop (r9.2).toNat).toArray⟩)) rfl rfl rfl (ev_v (ev_sliceS1 rfl ck19)) ?_
      refine r_v (Value.string (⟨((s1_).drop (r9.2).toNat).toArray⟩)) rfl rfl rfl rfl ?_
      refine lx_nil ?_
      refine fg _ (Sub.pick [S17, S13] [0] rfl) ?_
      exact ⟨n4 + 1, by omega, n4, (s1_).drop (r9.2).toNat, (l2_ ++ ([r9.1])), hM, s16, S17, H18, is_mk rfl rfl, rfl⟩
    · replace hM := ifn (of_decide_eq_false hc7) hM
      refine A_exit ?_
      refine hK3 _ _ ?_; try clear hK3 K3
      refine A_seq fun K20 hK20 => ?_
      refine A_reg ?_
      refine r_v (vl2_) rfl rfl rfl rfl ?_
      refine r_v (vl2_) rfl rfl rfl rfl ?_
      refine lx_nil ?_
      refine hK20 _ _ ?_; try clear hK20 K20
      obtain rfl := Option.some.inj hM
      refine A_ret (fun hn => ends1 (v0 := vl2_) hl2_ (sub_one (Sub.pick [Sl2_] [0] rfl)) rfl (res1 rfl))
def shunterref05_May_l3 (N : Nat) (r3 : List Int) : Nat → Int → Option (Bool)
  | 0, _ => none
  | n10 + 1, i2_ => if (i2_ : Int) < ((r3).length : Int) then ck (0 ≤ i2_ ∧ i2_ < ((r3).length : Int)) ((shunterref05_Letter_m N ((r3)[(i2_).toNat]!)).bind fun r17 => if (r17) = true then ck ((-9223372036854775808 ≤ (i2_ + 1) ∧ (i2_ + 1) ≤ 9223372036854775807)) ((shunterref05_May_l3 N r3 n10) ((i2_ + 1))) else ck (0 ≤ i2_ ∧ i2_ < ((r3).length : Int)) (if ((r3)[(i2_).toNat]! : Int) ≥ 48 then ck (0 ≤ i2_ ∧ i2_ < ((r3).length : Int)) (if ((r3)[(i2_).toNat]! : Int) ≤ 57 then ck ((-9223372036854775808 ≤ (i2_ + 1) ∧ (i2_ + 1) ≤ 9223372036854775807)) ((shunterref05_May_l3 N r3 n10) ((i2_ + 1))) else ck (0 ≤ i2_ ∧ i2_ < ((r3).length : Int)) (if ((r3)[(i2_).toNat]! : Int) ≠ 45 then ck (0 ≤ i2_ ∧ i2_ < ((r3).length : Int)) (if ((r3)[(i2_).toNat]! : Int) ≠ 46 then some (false) else ck ((-9223372036854775808 ≤ (i2_ + 1) ∧ (i2_ + 1) ≤ 9223372036854775807)) ((shunterref05_May_l3 N r3 n10) ((i2_ + 1)))) else ck ((-9223372036854775808 ≤ (i2_ + 1) ∧ (i2_ + 1) ≤ 9223372036854775807)) ((shunterref05_May_l3 N r3 n10) ((i2_ + 1))))) else ck (0 ≤ i2_ ∧ i2_ < ((r3).length : Int)) (if ((r3)[(i2_).toNat]! : Int) ≠ 45 then ck (0 ≤ i2_ ∧ i2_ < ((r3).length : Int)) (if ((r3)[(i2_).toNat]! : Int) ≠ 46 then some (false) else ck ((-9223372036854775808 ≤ (i2_ + 1) ∧ (i2_ + 1) ≤ 9223372036854775807)) ((shunterref05_May_l3 N r3 n10) ((i2_ + 1)))) else ck ((-9223372036854775808 ≤ (i2_ + 1) ∧ (i2_ + 1) ≤ 9223372036854775807)) ((shunterref05_May_l3 N r3 n10) ((i2_ + 1)))))) else some (true)
def shunterref05_May_k1 (N : Nat) (r3 : List Int) : Option (Bool) := shunterref05_May_l3 N r3 N (0)
def shunterref05_May_m (N : Nat) (s : List UInt8) : Option (Bool) := (shunterref05_Runes_m N s).bind fun r3 => if (((r3).length : Int) : Int) < 1 then some (false) else if (((r3).length : Int) : Int) > 24 then some (false) else ck (0 ≤ (0 : Int) ∧ (0 : Int) < ((r3).length : Int)) ((shunterref05_Letter_m N ((r3)[((0 : Int)).toNat]!)).bind fun r45 => if (r45) = true then shunterref05_May_k1 N r3  else some (false))
set_option maxRecDepth 100000 in
set_option maxHeartbeats 8000000 in
theorem shunterref05_May_g (N : Nat) (s : List UInt8) (r : Bool) (hM : shunterref05_May_m N s = some r) : Gives Try.prog 18 #[Value.string (⟨(s).toArray⟩)] (Value.bool (r)) := by
  unfold shunterref05_May_m at hM
  refine gives_of_A follows Try.func18 rfl 63 rfl (upd (fun _ => undef) 0 (Value.string (⟨(s).toArray⟩))) (by funext k; match k with | 0 => rfl | k + 1 => rfl) (fun base0_ => ?_)
  refine A_seq fun K1 hK1 => ?_
  refine A_reg ?_
  refine r_v (Value.bool (false)) rfl rfl rfl rfl ?_
  refine lx_nil ?_
  refine hK1 _ _ ?_; try clear hK1 K1
  refine A_seq fun K2 hK2 => ?_
  refine A_regC [(some 6, false)] (conG Try.prog [(6, fun v_ L_ U_ => ∀ u0_, shunterref05_Runes_m N s = some u0_ → (p1 (fun s_ => s_) 3 encI (u0_)) v_ L_ U_)]) ?_
  refine r_v (Value.string (⟨(s).toArray⟩)) rfl rfl rfl rfl ?_
  replace hM := bind_sm hM; obtain ⟨r3, hr4, hM⟩ := hM
  refine r_g1 (Ls := []) (fun s5 => s5) 3 encI (r3) 29 _ rfl rfl rfl (ev_callF rfl call_29 rfl) (fun own_ nw_ hs_ => shunterref05_Runes_g N s _ hr4 hs_.view ) (fun _ _ v_ L_ U_ => ⟨fun h_ => h_ _ hr4, fun h_ => by intro _ e_; cases Option.some.inj (e_.symm.trans hr4); exact h_⟩) (fun s5 S6 H7 => ?_)
  refine r_v (s5) rfl rfl rfl rfl ?_
  refine lx_nil ?_
  refine hK2 _ _ ?_; try clear hK2 K2
  refine A_cut (fun tt ll => (shunterref05_May_k1 N r3  = some r) ∧ Is [(3, s5)] (List.flatten [S6]) tt ll) ?_ ?_
  · refine A_seq fun K41 hK41 => ?_
    refine A_reg ?_
    refine r_v (s5) rfl rfl rfl rfl ?_
    refine r_v (Value.int .i64 (((r3).length : Int))) rfl rfl rfl (ev_lenSl rfl rfl rfl (Sl.shp H7)) ?_
    refine r_v (Value.bool (decide ((((r3).length : Int) : Int) < 1))) rfl rfl rfl rfl ?_
    refine r_v (Value.bool (decide ((((r3).length : Int) : Int) < 1))) rfl rfl rfl rfl ?_
    rcases hg42 : (decide ((((r3).length : Int) : Int) < 1)) with _ | _
    · replace hM := ifn (of_decide_eq_false hg42) hM
      refine r_y rfl ?_
      refine r_v (s5) rfl rfl rfl rfl ?_
      refine r_y rfl ?_
      refine r_v (Value.int .i64 (((r3).length : Int))) rfl rfl rfl (ev_lenSl rfl rfl rfl (Sl.shp H7)) ?_
      refine r_y rfl ?_
      refine r_v (Value.bool (decide ((((r3).length : Int) : Int) > 24))) rfl rfl rfl rfl ?_
      refine r_v (Value.bool (decide ((((r3).length : Int) : Int) > 24))) rfl rfl rfl rfl ?_
      refine r_v (Value.bool (decide ((((r3).length : Int) : Int) > 24))) rfl rfl rfl rfl ?_
      rcases hg43 : (decide ((((r3).length : Int) : Int) > 24)) with _ | _
      · replace hM := ifn (of_decide_eq_false hg43) hM
        refine r_y rfl ?_
        refine r_v (s5) rfl rfl rfl rfl ?_
        refine r_y rfl ?_
        replace hM := ck_some hM; obtain ⟨ck44, hM⟩ := hM
        refine r_v (elA s5 (((0 : Int)).toNat * 1)) rfl rfl rfl (ev_v (ev_idxSl rfl rfl rfl (Sl.shp H7) ck44)) ?_
        refine r_y rfl ?_
        refine r_le (Value.int .i64 ((r3)[((0 : Int)).toNat]!)) (En := encI) ((r3)[((0 : Int)).toNat]!) (((0 : Int)).toNat) 0 rfl rfl (rd_own H7 (mem_chunk (Ls := [S6]) (k := 0) rfl rfl)) (get_of ck44) rfl ?_
        refine r_y rfl ?_
        replace hM := bind_sm hM; obtain ⟨r45, hr46, hM⟩ := hM
        refine r_c (Value.bool (r45)) rfl _ _ (ev_callF rfl call_16 rfl) (shunterref05_Letter_g N ((r3)[((0 : Int)).toNat]!) _ hr46) ?_
        refine r_y rfl ?_
        refine r_v (Value.bool (!(r45))) rfl rfl rfl rfl ?_
        refine r_v (Value.bool (!(r45))) rfl rfl rfl rfl ?_
        refine lx_nil ?_
        refine hK41 _ _ ?_; try clear hK41 K41
        refine A_cond (!(r45)) rfl (fun hc47 => ?_) (fun hc47 => ?_)
        · replace hM := ifn (Bool.eq_false_iff.1 (not_t hc47)) hM
          refine A_seq fun K48 hK48 => ?_
          refine A_reg ?_
          refine r_v (Value.bool (false)) rfl rfl rfl rfl ?_
          refine lx_nil ?_
          refine hK48 _ _ ?_; try clear hK48 K48
          obtain rfl := Option.some.inj hM
          refine A_ret (fun hn => ends_eq (v0 := Value.bool (false)) rfl (res1 rfl))
        · replace hM := ifp (not_f hc47) hM
          refine A_skip ?_
          refine fg _ (Sub.pick [S6] [0] rfl) ?_
          exact ⟨hM, is_mk rfl rfl⟩
      · replace hM := ifp (of_decide_eq_true hg43) hM
        refine r_n true rfl (by decide) rfl ?_
        refine r_n true rfl (by decide) rfl ?_
        refine r_n true rfl (by decide) rfl ?_
        refine r_n true rfl (by decide) rfl ?_
        refine r_n true rfl (by decide) rfl ?_
        refine r_v (Value.bool (true)) rfl rfl rfl rfl ?_
        refine lx_nil ?_
        refine hK41 _ _ ?_; try clear hK41 K41
        refine A_cond true rfl (fun _ => ?_) (fun h_ => nomatch h_)
        refine A_seq fun K49 hK49 => ?_
        refine A_reg ?_
        refine r_v (Value.bool (false)) rfl rfl rfl rfl ?_
        refine lx_nil ?_
        refine hK49 _ _ ?_; try clear hK49 K49
        obtain rfl := Option.some.inj hM
        refine A_ret (fun hn => ends_eq (v0 := Value.bool (false)) rfl (res1 rfl))
    · replace hM := ifp (of_decide_eq_true hg42) hM
      refine r_n true rfl (by decide) rfl ?_
      refine r_n true rfl (by decide) rfl ?_
      refine r_n true rfl (by decide) rfl ?_
      refine r_v (Value.bool (true)) rfl rfl rfl rfl ?_
      refine r_v (Value.bool (true)) rfl rfl rfl rfl ?_
      refine r_n true rfl (by decide) rfl ?_
      refine r_n true rfl (by decide) rfl ?_
      refine r_n true rfl (by decide) rfl ?_
      refine r_n true rfl (by decide) rfl ?_
      refine r_n true rfl (by decide) rfl ?_
      refine r_v (Value.bool (true)) rfl rfl rfl rfl ?_
      refine lx_nil ?_
      refine hK41 _ _ ?_; try clear hK41 K41
      refine A_cond true rfl (fun _ => ?_) (fun h_ => nomatch h_)
      refine A_seq fun K50 hK50 => ?_
      refine A_reg ?_
      refine r_v (Value.bool (false)) rfl rfl rfl rfl ?_
      refine lx_nil ?_
      refine hK50 _ _ ?_; try clear hK50 K50
      obtain rfl := Option.some.inj hM
      refine A_ret (fun hn => ends_eq (v0 := Value.bool (false)) rfl (res1 rfl))
  · clear hM; rintro t l ⟨hM, ⟨T, rfl⟩, rfl⟩
    unfold shunterref05_May_k1 at hM
    refine A_seq fun K8 hK8 => ?_
    refine A_seq fun K9 hK9 => ?_
    refine A_reg ?_
    refine r_v (Value.int .i64 (0)) rfl rfl rfl rfl ?_
    refine lx_nil ?_
    refine hK9 _ _ ?_; try clear hK9 K9
    refine A_block ?_
    refine A_forget _ (Sub.pick [S6] [0] rfl) ?_
    refine A_loop (fun tt ll nn => ∃ (n10 : Nat) (i2_ : Int), (shunterref05_May_l3 N r3 n10 i2_ = some r) ∧ Is [(3, s5), (4, Value.int .i64 (i2_))] (List.flatten [S6]) tt ll ∧ nn = n10 + 1) (N + 1) ?_ ?_
    · exact ⟨N, 0, hM, is_mk rfl rfl, rfl⟩
    · clear hM; rintro t l _ ⟨n10, i2_, hM, ⟨⟨T, rfl⟩, rfl⟩, rfl⟩
      rcases n10 with _ | n10
      · exact absurd hM (by simp [shunterref05_May_l3])
      rw [shunterref05_May_l3] at hM
      refine A_seq fun K11 hK11 => ?_
      refine A_seq fun K12 hK12 => ?_
      refine A_reg ?_
      refine r_v (Value.int .i64 (i2_)) rfl rfl rfl rfl ?_
      refine r_v (s5) rfl rfl rfl rfl ?_
      refine r_v (Value.int .i64 (((r3).length : Int))) rfl rfl rfl (ev_lenSl rfl rfl rfl (Sl.shp H7)) ?_
      refine r_v (Value.bool (decide ((i2_ : Int) < ((r3).length : Int)))) rfl rfl rfl rfl ?_
      refine lx_nil ?_
      refine hK12 _ _ ?_; try clear hK12 K12
      refine A_cond (decide ((i2_ : Int) < ((r3).length : Int))) rfl (fun hc13 => ?_) (fun hc13 => ?_)
      · replace hM := ifp (of_decide_eq_true hc13) hM
        refine A_skip ?_
        refine hK11 _ _ ?_; try clear hK11 K11
        refine A_seq fun K14 hK14 => ?_
        refine A_block ?_
        refine A_seq fun K15 hK15 => ?_
        refine A_reg ?_
        refine r_v (s5) rfl rfl rfl rfl ?_
        refine r_v (Value.int .i64 (i2_)) rfl rfl rfl rfl ?_
        replace hM := ck_some hM; obtain ⟨ck16, hM⟩ := hM
        refine r_v (elA s5 ((i2_).toNat * 1)) rfl rfl rfl (ev_v (ev_idxSl rfl rfl rfl (Sl.shp H7) ck16)) ?_
        refine r_le (Value.int .i64 ((r3)[(i2_).toNat]!)) (En := encI) ((r3)[(i2_).toNat]!) ((i2_).toNat) 0 rfl rfl (rd_own H7 (mem_chunk (Ls := [S6]) (k := 0) rfl rfl)) (get_of ck16) rfl ?_
        replace hM := bind_sm hM; obtain ⟨r17, hr18, hM⟩ := hM
        refine r_c (Value.bool (r17)) rfl _ _ (ev_callF rfl call_16 rfl) (shunterref05_Letter_g N ((r3)[(i2_).toNat]!) _ hr18) ?_
        refine r_v (Value.bool (!(r17))) rfl rfl rfl rfl ?_
        refine r_v (Value.bool (!(r17))) rfl rfl rfl rfl ?_
        rcases hg19 : (!(r17)) with _ | _
        · replace hM := ifp (not_f hg19) hM
          refine r_n false rfl (by decide) rfl ?_
          refine r_n false rfl (by decide) rfl ?_
          refine r_n false rfl (by decide) rfl ?_
          refine r_n false rfl (by decide) rfl ?_
          refine r_n false rfl (by decide) rfl ?_
          refine r_n false rfl (by decide) rfl ?_
          refine r_nu rfl rfl ?_
          refine r_nu rfl rfl ?_
          refine r_nu rfl rfl ?_
          refine r_nu rfl rfl ?_
          refine r_nu rfl rfl ?_
          refine r_n false rfl (by decide) rfl ?_
          refine r_n false rfl (by decide) rfl ?_
          refine r_v (Value.bool (false)) rfl rfl rfl rfl ?_
          refine r_v (Value.bool (false)) rfl rfl rfl rfl ?_
          refine r_n false rfl (by decide) rfl ?_
          refine r_n false rfl (by decide) rfl ?_
          refine r_n false rfl (by decide) rfl ?_
          refine r_n false rfl (by decide) rfl ?_
          refine r_n false rfl (by decide) rfl ?_
          refine r_v (Value.bool (false)) rfl rfl rfl rfl ?_
          refine r_v (Value.bool (false)) rfl rfl rfl rfl ?_
          refine r_n false rfl (by decide) rfl ?_
          refine r_n false rfl (by decide) rfl ?_
          refine r_n false rfl (by decide) rfl ?_
          refine r_n false rfl (by decide) rfl ?_
          refine r_n false rfl (by decide) rfl ?_
          refine r_v (Value.bool (false)) rfl rfl rfl rfl ?_
          refine lx_nil ?_
          refine hK15 _ _ ?_; try clear hK15 K15
          refine A_gen [(3, s5), (4, Value.int .i64 (i2_)), (62, Value.bool (false))] rfl (fun T => ?_)
          refine A_cond false rfl (fun h_ => nomatch h_) (fun _ => ?_)
          refine A_skip ?_
          refine hK14 _ _ ?_; try clear hK14 K14
          refine A_reg ?_
          refine r_v (Value.int .i64 (i2_)) rfl rfl rfl rfl ?_
          replace hM := ck_some hM; obtain ⟨ck20, hM⟩ := hM
          refine r_v (Value.int .i64 ((i2_ + 1))) rfl rfl (wi64 rfl ck20.1 ck20.2) rfl ?_
          refine r_v (Value.int .i64 ((i2_ + 1))) rfl rfl rfl rfl ?_
          refine lx_nil ?_
          refine fg _ (Sub.pick [S6] [0] rfl) ?_
          exact ⟨n10 + 1, by omega, n10, (i2_ + 1), hM, is_mk (by first | rfl | (simp only [hg19]; done) | (simp only [hg19]; rfl) | (simp only [app_hl]; rfl)) rfl, rfl⟩
        · replace hM := ifn (Bool.eq_false_iff.1 (not_t hg19)) hM
          refine r_y rfl ?_
          refine r_v (s5) rfl rfl rfl rfl ?_
          refine r_y rfl ?_
          refine r_v (Value.int .i64 (i2_)) rfl rfl rfl rfl ?_
          refine r_y rfl ?_
          replace hM := ck_some hM; obtain ⟨ck21, hM⟩ := hM
          refine r_v (elA s5 ((i2_).toNat * 1)) rfl rfl rfl (ev_v (ev_idxSl rfl rfl rfl (Sl.shp H7) ck21)) ?_
          refine r_y rfl ?_
          refine r_le (Value.int .i64 ((r3)[(i2_).toNat]!)) (En := encI) ((r3)[(i2_).toNat]!) ((i2_).toNat) 0 rfl rfl (rd_own H7 (mem_chunk (Ls := [S6]) (k := 0) rfl rfl)) (get_of ck21) rfl ?_
          refine r_y rfl ?_
          refine r_v (Value.bool (decide (((r3)[(i2_).toNat]! : Int) ≥ 48))) rfl rfl rfl rfl ?_
          refine r_y rfl ?_
          refine r_v (Value.bool (decide (((r3)[(i2_).toNat]! : Int) ≥ 48))) rfl rfl rfl rfl ?_
          rcases hg22 : (decide (((r3)[(i2_).toNat]! : Int) ≥ 48)) with _ | _
          · replace hM := ifn (of_decide_eq_false hg22) hM
            refine r_n false rfl (by decide) rfl ?_
            refine r_n false rfl (by decide) rfl ?_
            refine r_n false rfl (by decide) rfl ?_
            refine r_n false rfl (by decide) rfl ?_
            refine r_n false rfl (by decide) rfl ?_
            refine r_y rfl ?_
            refine r_v (Value.bool (false)) rfl rfl rfl rfl ?_
            refine r_y rfl ?_
            refine r_v (Value.bool (true)) rfl rfl rfl rfl ?_
            refine r_v (Value.bool (true)) rfl rfl rfl rfl ?_
            refine r_v (Value.bool (true)) rfl rfl rfl rfl ?_
            refine r_y rfl ?_
            refine r_v (s5) rfl rfl rfl rfl ?_
            refine r_y rfl ?_
            refine r_v (Value.int .i64 (i2_)) rfl rfl rfl rfl ?_
            refine r_y rfl ?_
            replace hM := ck_some hM; obtain ⟨ck23, hM⟩ := hM
            refine r_v (elA s5 ((i2_).toNat * 1)) rfl rfl rfl (ev_v (ev_idxSl rfl rfl rfl (Sl.shp H7) ck23)) ?_
            refine r_y rfl ?_
            refine r_le (Value.int .i64 ((r3)[(i2_).toNat]!)) (En := encI) ((r3)[(i2_).toNat]!) ((i2_).toNat) 0 rfl rfl (rd_own H7 (mem_chunk (Ls := [S6]) (k := 0) rfl rfl)) (get_of ck23) rfl ?_
            refine r_y rfl ?_
            refine r_v (Value.bool ((((r3)[(i2_).toNat]! : Int) != 45))) rfl rfl rfl rfl ?_
            refine r_v (Value.bool ((((r3)[(i2_).toNat]! : Int) != 45))) rfl rfl rfl rfl ?_
            refine r_v (Value.bool ((((r3)[(i2_).toNat]! : Int) != 45))) rfl rfl rfl rfl ?_
            rcases hg24 : ((((r3)[(i2_).toNat]! : Int) != 45)) with _ | _
            · replace hM := ifn (bne_f hg24) hM
              refine r_n false rfl (by decide) rfl ?_
              refine r_n false rfl (by decide) rfl ?_
              refine r_n false rfl (by decide) rfl ?_
              refine r_n false rfl (by decide) rfl ?_
              refine r_n false rfl (by decide) rfl ?_
              refine r_v (Value.bool (false)) rfl rfl rfl rfl ?_
              refine lx_nil ?_
              refine hK15 _ _ ?_; try clear hK15 K15
              refine A_gen [(3, s5), (4, Value.int .i64 (i2_)), (62, Value.bool (false))] rfl (fun T => ?_)
              refine A_cond false rfl (fun h_ => nomatch h_) (fun _ => ?_)
              refine A_skip ?_
              refine hK14 _ _ ?_; try clear hK14 K14
              refine A_reg ?_
              refine r_v (Value.int .i64 (i2_)) rfl rfl rfl rfl ?_
              replace hM := ck_some hM; obtain ⟨ck25, hM⟩ := hM
              refine r_v (Value.int .i64 ((i2_ + 1))) rfl rfl (wi64 rfl ck25.1 ck25.2) rfl ?_
              refine r_v (Value.int .i64 ((i2_ + 1))) rfl rfl rfl rfl ?_
              refine lx_nil ?_
              refine fg _ (Sub.pick [S6] [0] rfl) ?_
              exact ⟨n10 + 1, by omega, n10, (i2_ + 1), hM, is_mk (by first | rfl | (simp only [hg19, hg22, hg24]; done) | (simp only [hg19, hg22, hg24]; rfl) | (simp only [app_hl]; rfl)) rfl, rfl⟩
            · replace hM := ifp (bne_iff_ne.1 hg24) hM
              refine r_y rfl ?_
              refine r_v (s5) rfl rfl rfl rfl ?_
              refine r_y rfl ?_
              refine r_v (Value.int .i64 (i2_)) rfl rfl rfl rfl ?_
              refine r_y rfl ?_
              replace hM := ck_some hM; obtain ⟨ck26, hM⟩ := hM
              refine r_v (elA s5 ((i2_).toNat * 1)) rfl rfl rfl (ev_v (ev_idxSl rfl rfl rfl (Sl.shp H7) ck26)) ?_
              refine r_y rfl ?_
              refine r_le (Value.int .i64 ((r3)[(i2_).toNat]!)) (En := encI) ((r3)[(i2_).toNat]!) ((i2_).toNat) 0 rfl rfl (rd_own H7 (mem_chunk (Ls := [S6]) (k := 0) rfl rfl)) (get_of ck26) rfl ?_
              refine r_y rfl ?_
              refine r_v (Value.bool ((((r3)[(i2_).toNat]! : Int) != 46))) rfl rfl rfl rfl ?_
              refine r_v (Value.bool ((((r3)[(i2_).toNat]! : Int) != 46))) rfl rfl rfl rfl ?_
              refine lx_nil ?_
              refine hK15 _ _ ?_; try clear hK15 K15
              refine A_gen [(3, s5), (4, Value.int .i64 (i2_)), (62, Value.bool ((((r3)[(i2_).toNat]! : Int) != 46)))] rfl (fun T => ?_)
              refine A_cond ((((r3)[(i2_).toNat]! : Int) != 46)) rfl (fun hc27 => ?_) (fun hc27 => ?_)
              · replace hM := ifp (bne_iff_ne.1 hc27) hM
                refine A_seq fun K28 hK28 => ?_
                refine A_reg ?_
                refine r_v (Value.bool (false)) rfl rfl rfl rfl ?_
                refine lx_nil ?_
                refine hK28 _ _ ?_; try clear hK28 K28
                obtain rfl := Option.some.inj hM
                refine A_ret (fun hn => ends_eq (v0 := Value.bool (false)) rfl (res1 rfl))
              · replace hM := ifn (bne_f hc27) hM
                refine A_skip ?_
                refine hK14 _ _ ?_; try clear hK14 K14
                refine A_reg ?_
                refine r_v (Value.int .i64 (i2_)) rfl rfl rfl rfl ?_
                replace hM := ck_some hM; obtain ⟨ck29, hM⟩ := hM
                refine r_v (Value.int .i64 ((i2_ + 1))) rfl rfl (wi64 rfl ck29.1 ck29.2) rfl ?_
                refine r_v (Value.int .i64 ((i2_ + 1))) rfl rfl rfl rfl ?_
                refine lx_nil ?_
                refine fg _ (Sub.pick [S6] [0] rfl) ?_
                exact ⟨n10 + 1, by omega, n10, (i2_ + 1), hM, is_mk (by first | rfl | (simp only [hg19, hg22, hg24]; done) | (simp only [hg19, hg22, hg24]; rfl) | (simp only [app_hl]; rfl)) rfl, rfl⟩
          · replace hM := ifp (of_decide_eq_true hg22) hM
            refine r_y rfl ?_
            refine r_v (s5) rfl rfl rfl rfl ?_
            refine r_y rfl ?_
            refine r_v (Value.int .i64 (i2_)) rfl rfl rfl rfl ?_
            refine r_y rfl ?_
            replace hM := ck_some hM; obtain ⟨ck30, hM⟩ := hM
            refine r_v (elA s5 ((i2_).toNat * 1)) rfl rfl rfl (ev_v (ev_idxSl rfl rfl rfl (Sl.shp H7) ck30)) ?_
            refine r_y rfl ?_
            refine r_le (Value.int .i64 ((r3)[(i2_).toNat]!)) (En := encI) ((r3)[(i2_).toNat]!) ((i2_).toNat) 0 rfl rfl (rd_own H7 (mem_chunk (Ls := [S6]) (k := 0) rfl rfl)) (get_of ck30) rfl ?_
            refine r_y rfl ?_
            refine r_v (Value.bool (decide (((r3)[(i2_).toNat]! : Int) ≤ 57))) rfl rfl rfl rfl ?_
            refine r_y rfl ?_
            refine r_v (Value.bool (decide (((r3)[(i2_).toNat]! : Int) ≤ 57))) rfl rfl rfl rfl ?_
            refine r_y rfl ?_
            refine r_v (Value.bool (!(decide (((r3)[(i2_).toNat]! : Int) ≤ 57)))) rfl rfl rfl rfl ?_
            refine r_v (Value.bool (!(decide (((r3)[(i2_).toNat]! : Int) ≤ 57)))) rfl rfl rfl rfl ?_
            refine r_v (Value.bool (!(decide (((r3)[(i2_).toNat]! : Int) ≤ 57)))) rfl rfl rfl rfl ?_
            rcases hg31 : (!(decide (((r3)[(i2_).toNat]! : Int) ≤ 57))) with _ | _
            · replace hM := ifp (of_decide_eq_true (not_f hg31)) hM
              refine r_n false rfl (by decide) rfl ?_
              refine r_n false rfl (by decide) rfl ?_
              refine r_n false rfl (by decide) rfl ?_
              refine r_n false rfl (by decide) rfl ?_
              refine r_n false rfl (by decide) rfl ?_
              refine r_v (Value.bool (false)) rfl rfl rfl rfl ?_
              refine r_v (Value.bool (false)) rfl rfl rfl rfl ?_
              refine r_n false rfl (by decide) rfl ?_
              refine r_n false rfl (by decide) rfl ?_
              refine r_n false rfl (by decide) rfl ?_
              refine r_n false rfl (by decide) rfl ?_
              refine r_n false rfl (by decide) rfl ?_
              refine r_v (Value.bool (false)) rfl rfl rfl rfl ?_
              refine lx_nil ?_
              refine hK15 _ _ ?_; try clear hK15 K15
              refine A_gen [(3, s5), (4, Value.int .i64 (i2_)), (62, Value.bool (false))] rfl (fun T => ?_)
              refine A_cond false rfl (fun h_ => nomatch h_) (fun _ => ?_)
              refine A_skip ?_
              refine hK14 _ _ ?_; try clear hK14 K14
              refine A_reg ?_
              refine r_v (Value.int .i64 (i2_)) rfl rfl rfl rfl ?_
              replace hM := ck_some hM; obtain ⟨ck32, hM⟩ := hM
              refine r_v (Value.int .i64 ((i2_ + 1))) rfl rfl (wi64 rfl ck32.1 ck32.2) rfl ?_
              refine r_v (Value.int .i64 ((i2_ + 1))) rfl rfl rfl rfl ?_
              refine lx_nil ?_
              refine fg _ (Sub.pick [S6] [0] rfl) ?_
              exact ⟨n10 + 1, by omega, n10, (i2_ + 1), hM, is_mk (by first | rfl | (simp only [hg19, hg22, hg31]; done) | (simp only [hg19, hg22, hg31]; rfl) | (simp only [app_hl]; rfl)) rfl, rfl⟩
            · replace hM := ifn (of_decide_eq_false (not_t hg31)) hM
              refine r_y rfl ?_
              refine r_v (s5) rfl rfl rfl rfl ?_
              refine r_y rfl ?_
              refine r_v (Value.int .i64 (i2_)) rfl rfl rfl rfl ?_
              refine r_y rfl ?_
              replace hM := ck_some hM; obtain ⟨ck33, hM⟩ := hM
              refine r_v (elA s5 ((i2_).toNat * 1)) rfl rfl rfl (ev_v (ev_idxSl rfl rfl rfl (Sl.shp H7) ck33)) ?_
              refine r_y rfl ?_
              refine r_le (Value.int .i64 ((r3)[(i2_).toNat]!)) (En := encI) ((r3)[(i2_).toNat]!) ((i2_).toNat) 0 rfl rfl (rd_own H7 (mem_chunk (Ls := [S6]) (k := 0) rfl rfl)) (get_of ck33) rfl ?_
              refine r_y rfl ?_
              refine r_v (Value.bool ((((r3)[(i2_).toNat]! : Int) != 45))) rfl rfl rfl rfl ?_
              refine r_v (Value.bool ((((r3)[(i2_).toNat]! : Int) != 45))) rfl rfl rfl rfl ?_
              refine r_v (Value.bool ((((r3)[(i2_).toNat]! : Int) != 45))) rfl rfl rfl rfl ?_
              rcases hg34 : ((((r3)[(i2_).toNat]! : Int) != 45)) with _ | _
              · replace hM := ifn (bne_f hg34) hM
                refine r_n false rfl (by decide) rfl ?_
                refine r_n false rfl (by decide) rfl ?_
                refine r_n false rfl (by decide) rfl ?_
                refine r_n false rfl (by decide) rfl ?_
                refine r_n false rfl (by decide) rfl ?_
                refine r_v (Value.bool (false)) rfl rfl rfl rfl ?_
                refine lx_nil ?_
                refine hK15 _ _ ?_; try clear hK15 K15
                refine A_gen [(3, s5), (4, Value.int .i64 (i2_)), (62, Value.bool (false))] rfl (fun T => ?_)
                refine A_cond false rfl (fun h_ => nomatch h_) (fun _ => ?_)
                refine A_skip ?_
                refine hK14 _ _ ?_; try clear hK14 K14
                refine A_reg ?_
                refine r_v (Value.int .i64 (i2_)) rfl rfl rfl rfl ?_
                replace hM := ck_some hM; obtain ⟨ck35, hM⟩ := hM
                refine r_v (Value.int .i64 ((i2_ + 1))) rfl rfl (wi64 rfl ck35.1 ck35.2) rfl ?_
                refine r_v (Value.int .i64 ((i2_ + 1))) rfl rfl rfl rfl ?_
                refine lx_nil ?_
                refine fg _ (Sub.pick [S6] [0] rfl) ?_
                exact ⟨n10 + 1, by omega, n10, (i2_ + 1), hM, is_mk (by first | rfl | (simp only [hg19, hg22, hg31, hg34]; done) | (simp only [hg19, hg22, hg31, hg34]; rfl) | (simp only [app_hl]; rfl)) rfl, rfl⟩
              · replace hM := ifp (bne_iff_ne.1 hg34) hM
                refine r_y rfl ?_
                refine r_v (s5) rfl rfl rfl rfl ?_
                refine r_y rfl ?_
                refine r_v (Value.int .i64 (i2_)) rfl rfl rfl rfl ?_
                refine r_y rfl ?_
                replace hM := ck_some hM; obtain ⟨ck36, hM⟩ := hM
                refine r_v (elA s5 ((i2_).toNat * 1)) rfl rfl rfl (ev_v (ev_idxSl rfl rfl rfl (Sl.shp H7) ck36)) ?_
                refine r_y rfl ?_
                refine r_le (Value.int .i64 ((r3)[(i2_).toNat]!)) (En := encI) ((r3)[(i2_).toNat]!) ((i2_).toNat) 0 rfl rfl (rd_own H7 (mem_chunk (Ls := [S6]) (k := 0) rfl rfl)) (get_of ck36) rfl ?_
                refine r_y rfl ?_
                refine r_v (Value.bool ((((r3)[(i2_).toNat]! : Int) != 46))) rfl rfl rfl rfl ?_
                refine r_v (Value.bool ((((r3)[(i2_).toNat]! : Int) != 46))) rfl rfl rfl rfl ?_
                refine lx_nil ?_
                refine hK15 _ _ ?_; try clear hK15 K15
                refine A_gen [(3, s5), (4, Value.int .i64 (i2_)), (62, Value.bool ((((r3)[(i2_).toNat]! : Int) != 46)))] rfl (fun T => ?_)
                refine A_cond ((((r3)[(i2_).toNat]! : Int) != 46)) rfl (fun hc37 => ?_) (fun hc37 => ?_)
                · replace hM := ifp (bne_iff_ne.1 hc37) hM
                  refine A_seq fun K38 hK38 => ?_
                  refine A_reg ?_
                  refine r_v (Value.bool (false)) rfl rfl rfl rfl ?_
                  refine lx_nil ?_
                  refine hK38 _ _ ?_; try clear hK38 K38
                  obtain rfl := Option.some.inj hM
                  refine A_ret (fun hn => ends_eq (v0 := Value.bool (false)) rfl (res1 rfl))
                · replace hM := ifn (bne_f hc37) hM
                  refine A_skip ?_
                  refine hK14 _ _ ?_; try clear hK14 K14
                  refine A_reg ?_
                  refine r_v (Value.int .i64 (i2_)) rfl rfl rfl rfl ?_
                  replace hM := ck_some hM; obtain ⟨ck39, hM⟩ := hM
                  refine r_v (Value.int .i64 ((i2_ + 1))) rfl rfl (wi64 rfl ck39.1 ck39.2) rfl ?_
                  refine r_v (Value.int .i64 ((i2_ + 1))) rfl rfl rfl rfl ?_
                  refine lx_nil ?_
                  refine fg _ (Sub.pick [S6] [0] rfl) ?_
                  exact ⟨n10 + 1, by omega, n10, (i2_ + 1), hM, is_mk (by first | rfl | (simp only [hg19, hg22, hg31, hg34]; done) | (simp only [hg19, hg22, hg31, hg34]; rfl) | (simp only [app_hl]; rfl)) rfl, rfl⟩
      · replace hM := ifn (of_decide_eq_false hc13) hM
        refine A_exit ?_
        refine hK8 _ _ ?_; try clear hK8 K8
        refine A_seq fun K40 hK40 => ?_
        refine A_reg ?_
        refine r_v (Value.bool (true)) rfl rfl rfl rfl ?_
        refine lx_nil ?_
        refine hK40 _ _ ?_; try clear hK40 K40
        obtain rfl := Option.some.inj hM
        refine A_ret (fun hn => ends_eq (v0 := Value.bool (true)) rfl (res1 rfl))
def shunterref02_Parse_k6 (s : List UInt8) (at1_ : Int) : Option (Int × (BitVec 128) × Int) := ck ((((lo ((parseR ((s).take (at1_).toNat) (10)).1)).toNat : Nat) : Int) ≤ 9223372036854775807) (some ((((lo ((parseR ((s).take (at1_).toNat) (10)).1)).toNat : Nat) : Int), (parseR ((s).drop ((at1_ + 1)).toNat) (16)).1, 0))
def shunterref02_Parse_k5 (s : List UInt8) (at1_ : Int) : Option (Int × (BitVec 128) × Int) := if ((parseR ((s).drop ((at1_ + 1)).toNat) (16)).2 : Int) ≠ 0 then some (0, (0#64) ++ (0#64), 7) else ck ((((lo ((parseR ((s).take (at1_).toNat) (10)).1)).toNat : Nat) : Int) ≤ 9223372036854775807) (if (((len128 ((parseR ((s).drop ((at1_ + 1)).toNat) (16)).1) : Nat) : Int) : Int) > (((lo ((parseR ((s).take (at1_).toNat) (10)).1)).toNat : Nat) : Int) then some (0, (0#64) ++ (0#64), 7) else shunterref02_Parse_k6 s at1_ )
def shunterref02_Parse_k4 (s : List UInt8) (at1_ : Int) : Option (Int × (BitVec 128) × Int) := if (lo ((parseR ((s).take (at1_).toNat) (10)).1)) < (1#64) then some (0, (0#64) ++ (0#64), 9) else if (128#64) < (lo ((parseR ((s).take (at1_).toNat) (10)).1)) then some (0, (0#64) ++ (0#64), 9) else shunterref02_Parse_k5 s at1_ 
def shunterref02_Parse_k3 (s : List UInt8) (at1_ : Int) : Option (Int × (BitVec 128) × Int) := ck (0 ≤ at1_ ∧ at1_ ≤ ((s).length : Int)) (ck (((s).take (at1_).toNat).length ≤ 4611686018427387904) (ck ((-9223372036854775808 ≤ (at1_ + 1) ∧ (at1_ + 1) ≤ 9223372036854775807)) (ck (0 ≤ (at1_ + 1) ∧ (at1_ + 1) ≤ ((s).length : Int)) (ck (((s).drop ((at1_ + 1)).toNat).length ≤ 4611686018427387904) (if ((parseR ((s).take (at1_).toNat) (10)).2 : Int) ≠ 0 then some (0, (0#64) ++ (0#64), 4) else if ((parseR ((s).drop ((at1_ + 1)).toNat) (16)).2 : Int) = 4 then some (0, (0#64) ++ (0#64), 4) else if ((parseR ((s).drop ((at1_ + 1)).toNat) (16)).2 : Int) = 3 then some (0, (0#64) ++ (0#64), 4) else shunterref02_Parse_k4 s at1_ )))))
def shunterref02_Parse_k2 (s : List UInt8) (at1_ : Int) : Option (Int × (BitVec 128) × Int) := if (at1_ : Int) = ((s).length : Int) then some (0, (0#64) ++ (0#64), 4) else if (at1_ : Int) < 1 then some (0, (0#64) ++ (0#64), 4) else if (at1_ : Int) > 3 then some (0, (0#64) ++ (0#64), 4) else shunterref02_Parse_k3 s at1_ 
def shunterref02_Parse_l8 (s : List UInt8) : Nat → Int → Option (Int × (BitVec 128) × Int)
  | 0, _ => none
  | n42 + 1, at7_ => if (at7_ : Int) < ((s).length : Int) then ck ((0 : Int) ≤ at7_ ∧ at7_ < ((s).length : Int)) (if ((byteAt (s) (at7_)) : Int) ≠ 39 then ck ((-9223372036854775808 ≤ (at7_ + 1) ∧ (at7_ + 1) ≤ 9223372036854775807)) ((shunterref02_Parse_l8 s n42) ((at7_ + 1))) else shunterref02_Parse_k2 s (at7_)) else shunterref02_Parse_k2 s (at7_)
def shunterref02_Parse_m (N : Nat) (s : List UInt8) : Option (Int × (BitVec 128) × Int) := shunterref02_Parse_l8 s N (0)
set_option maxRecDepth 100000 in
set_option maxHeartbeats 8000000 in
theorem shunterref02_Parse_g (N : Nat) (s : List UInt8) (r : Int × (BitVec 128) × Int) (hM : shunterref02_Parse_m N s = some r) : Gives Try.prog 30 #[Value.string (⟨(s).toArray⟩)] (Value.tuple #[Value.agg #[Value.int .i64 (r.1), U (hi (r.2.1)), U (lo (r.2.1))], Value.int .i64 (r.2.2)]) := by
  unfold shunterref02_Parse_m at hM
  refine gives_of_A follows Try.func30 rfl 96 rfl (upd (fun _ => undef) 0 (Value.string (⟨(s).toArray⟩))) (by funext k; match k with | 0 => rfl | k + 1 => rfl) (fun base0_ => ?_)
  refine A_seq fun K1 hK1 => ?_
  refine A_reg ?_
  refine r_a (38, #[Value.int .i64 (0), U (0#64), U (0#64)]) rfl rfl rfl (fun b2 => ?_) (.inr rfl)
  refine r_v (Value.int .i64 (0)) rfl rfl rfl rfl ?_
  refine lx_nil ?_
  refine hK1 _ _ ?_; try clear hK1 K1
  refine A_seq fun K3 hK3 => ?_
  refine A_reg ?_
  refine r_v (Value.int .i64 (0)) rfl rfl rfl rfl ?_
  refine lx_nil ?_
  refine hK3 _ _ ?_; try clear hK3 K3
  refine A_cut (fun tt ll => ∃ (at1_ : Int), (shunterref02_Parse_k2 s at1_ = some r) ∧ Is [(0, Value.string (⟨(s).toArray⟩)), (2, Value.pointer (some ⟨b2, 0, none⟩)), (4, Value.int .i64 (at1_))] [(b2, 38, #[Value.int .i64 (0), U (0#64), U (0#64)])] tt ll) ?_ ?_
  · refine A_block ?_
    refine A_loop (fun tt ll nn => ∃ (n42 : Nat) (at7_ : Int), (shunterref02_Parse_l8 s n42 at7_ = some r) ∧ Is [(0, Value.string (⟨(s).toArray⟩)), (2, Value.pointer (some ⟨b2, 0, none⟩)), (4, Value.int .i64 (at7_))] [(b2, 38, #[Value.int .i64 (0), U (0#64), U (0#64)])] tt ll ∧ nn = n42 + 1) (N + 1) ?_ ?_
    · exact ⟨N, 0, hM, is_mk rfl (by first | rfl | simp only [app_hl]), rfl⟩
    · clear hM; rintro t l _ ⟨n42, at7_, hM, ⟨⟨T, rfl⟩, rfl⟩, rfl⟩
      rcases n42 with _ | n42
      · exact absurd hM (by simp [shunterref02_Parse_l8])
      rw [shunterref02_Parse_l8] at hM
      refine A_seq fun K43 hK43 => ?_
      refine A_seq fun K44 hK44 => ?_
      refine A_reg ?_
      refine r_v (Value.int .i64 (at7_)) rfl rfl rfl rfl ?_
      refine r_v (Value.string (⟨(s).toArray⟩)) rfl rfl rfl rfl ?_
      refine r_v (Value.int .i64 (((s).length : Int))) rfl rfl rfl (ev_lenS rfl rfl rfl) ?_
      refine r_v (Value.bool (decide ((at7_ : Int) < ((s).length : Int)))) rfl rfl rfl rfl ?_
      refine r_v (Value.bool (decide ((at7_ : Int) < ((s).length : Int)))) rfl rfl rfl rfl ?_
      rcases hg45 : (decide ((at7_ : Int) < ((s).length : Int))) with _ | _
      · replace hM := ifn (of_decide_eq_false hg45) hM
        refine r_n false rfl (by decide) rfl ?_
        refine r_n false rfl (by decide) rfl ?_
        refine r_n false rfl (by decide) rfl ?_
        refine r_n false rfl (by decide) rfl ?_
        refine r_v (Value.bool (false)) rfl rfl rfl rfl ?_
        refine lx_nil ?_
        refine hK44 _ _ ?_; try clear hK44 K44
        refine A_cond false rfl (fun h_ => nomatch h_) (fun _ => ?_)
        refine A_exit ?_
        refine fg _ (Sub.of (List.Sublist.cons_cons _ (List.Sublist.slnil))) ?_
        exact ⟨at7_, hM, is_mk (by first | rfl | (simp only [hg45]; done) | (simp only [hg45]; rfl) | (simp only [app_hl]; rfl)) (by first | rfl | simp only [app_hl])⟩
      · replace hM := ifp (of_decide_eq_true hg45) hM
        refine r_y rfl ?_
        refine r_v (Value.string (⟨(s).toArray⟩)) rfl rfl rfl rfl ?_
        refine r_y rfl ?_
        refine r_v (Value.int .i64 (at7_)) rfl rfl rfl rfl ?_
        refine r_y rfl ?_
        replace hM := ck_some hM; obtain ⟨ck46, hM⟩ := hM
        refine r_v (Value.int .u8 ((byteAt (s) (at7_)))) rfl rfl rfl (ev_v (ev_indexS rfl ck46)) ?_
        refine r_y rfl ?_
        refine r_v (Value.bool ((((byteAt (s) (at7_)) : Int) != 39))) rfl rfl rfl rfl ?_
        refine r_v (Value.bool ((((byteAt (s) (at7_)) : Int) != 39))) rfl rfl rfl rfl ?_
        refine lx_nil ?_
        refine hK44 _ _ ?_; try clear hK44 K44
        refine A_cond ((((byteAt (s) (at7_)) : Int) != 39)) rfl (fun hc47 => ?_) (fun hc47 => ?_)
        · replace hM := ifp (bne_iff_ne.1 hc47) hM
          refine A_skip ?_
          refine hK43 _ _ ?_; try clear hK43 K43
          refine A_block ?_
          refine A_reg ?_
          refine r_v (Value.int .i64 (at7_)) rfl rfl rfl rfl ?_
          replace hM := ck_some hM; obtain ⟨ck48, hM⟩ := hM
          refine r_v (Value.int .i64 ((at7_ + 1))) rfl rfl (wi64 rfl ck48.1 ck48.2) rfl ?_
          refine r_v (Value.int .i64 ((at7_ + 1))) rfl rfl rfl rfl ?_
          refine lx_nil ?_
          refine fg _ (Sub.of (List.Sublist.cons_cons _ (List.Sublist.slnil))) ?_
          exact ⟨n42 + 1, by omega, n42, (at7_ + 1), hM, is_mk (by first | rfl | (simp only [hg45]; done) | (simp only [hg45]; rfl) | (simp only [app_hl]; rfl)) (by first | rfl | simp only [app_hl]), rfl⟩
        · replace hM := ifn (bne_f hc47) hM
          refine A_exit ?_
          refine fg _ (Sub.of (List.Sublist.cons_cons _ (List.Sublist.slnil))) ?_
          exact ⟨at7_, hM, is_mk (by first | rfl | (simp only [hg45]; done) | (simp only [hg45]; rfl) | (simp only [app_hl]; rfl)) (by first | rfl | simp only [app_hl])⟩
  · clear hM; rintro t l ⟨at1_, hM, ⟨T, rfl⟩, rfl⟩
    unfold shunterref02_Parse_k2 at hM
    refine A_cut (fun tt ll => (shunterref02_Parse_k3 s at1_  = some r) ∧ Is [(0, Value.string (⟨(s).toArray⟩)), (2, Value.pointer (some ⟨b2, 0, none⟩)), (4, Value.int .i64 (at1_))] [(b2, 38, #[Value.int .i64 (0), U (0#64), U (0#64)])] tt ll) ?_ ?_
    · refine A_seq fun K35 hK35 => ?_
      refine A_reg ?_
      refine r_v (Value.int .i64 (at1_)) rfl rfl rfl rfl ?_
      refine r_v (Value.string (⟨(s).toArray⟩)) rfl rfl rfl rfl ?_
      refine r_v (Value.int .i64 (((s).length : Int))) rfl rfl rfl (ev_lenS rfl rfl rfl) ?_
      refine r_v (Value.bool (((at1_ : Int) == ((s).length : Int)))) rfl rfl rfl rfl ?_
      refine r_v (Value.bool (((at1_ : Int) == ((s).length : Int)))) rfl rfl rfl rfl ?_
      rcases hg36 : (((at1_ : Int) == ((s).length : Int))) with _ | _
      · replace hM := ifn (ne_of_beq_false hg36) hM
        refine r_y rfl ?_
        refine r_v (Value.int .i64 (at1_)) rfl rfl rfl rfl ?_
        refine r_y rfl ?_
        refine r_v (Value.bool (decide ((at1_ : Int) < 1))) rfl rfl rfl rfl ?_
        refine r_v (Value.bool (decide ((at1_ : Int) < 1))) rfl rfl rfl rfl ?_
        refine r_v (Value.bool (decide ((at1_ : Int) < 1))) rfl rfl rfl rfl ?_
        rcases hg37 : (decide ((at1_ : Int) < 1)) with _ | _
        · replace hM := ifn (of_decide_eq_false hg37) hM
          refine r_y rfl ?_
          refine r_v (Value.int .i64 (at1_)) rfl rfl rfl rfl ?_
          refine r_y rfl ?_
          refine r_v (Value.bool (decide ((at1_ : Int) > 3))) rfl rfl rfl rfl ?_
          refine r_v (Value.bool (decide ((at1_ : Int) > 3))) rfl rfl rfl rfl ?_
          refine lx_nil ?_
          refine hK35 _ _ ?_; try clear hK35 K35
          refine A_cond (decide ((at1_ : Int) > 3)) rfl (fun hc38 => ?_) (fun hc38 => ?_)
          · replace hM := ifp (of_decide_eq_true hc38) hM
            refine A_seq fun K39 hK39 => ?_
            refine A_reg ?_
            refine r_v (Value.agg #[Value.int .i64 (0), U (0#64), U (0#64)]) rfl rfl rfl (ev_buildS rfl rfl rfl rfl) ?_
            refine r_s [(b2, 38, #[Value.int .i64 (0), U (0#64), U (0#64)])] 0 _ _ _ (#[Value.int .i64 (0), U (0#64), U (0#64)]) (#[Value.int .i64 (0), U (0#64), U (0#64)]) (#[Value.int .i64 (0), U (0#64), U (0#64)]) rfl rfl rfl rfl (.of rfl rfl) rfl rfl ?_
            refine r_v (Value.int .i64 (4)) rfl rfl rfl rfl ?_
            refine lx_nil ?_
            refine hK39 _ _ ?_; try clear hK39 K39
            obtain rfl := Option.some.inj hM
            refine A_ret (fun hn => ends_eq (v0 := Value.tuple #[Value.agg #[Value.int .i64 (0), U (0#64), U (0#64)], Value.int .i64 (4)]) (by first | rfl | (simp only [app_hl]; done) | simp only [app_hl]) (res2 (res_cell hn 0 rfl rfl rfl) rfl))
          · replace hM := ifn (of_decide_eq_false hc38) hM
            refine A_skip ?_
            refine fg _ (Sub.of (List.Sublist.cons_cons _ (List.Sublist.slnil))) ?_
            exact ⟨hM, is_mk rfl (by first | rfl | simp only [app_hl])⟩
        · replace hM := ifp (of_decide_eq_true hg37) hM
          refine r_n true rfl (by decide) rfl ?_
          refine r_n true rfl (by decide) rfl ?_
          refine r_v (Value.bool (true)) rfl rfl rfl rfl ?_
          refine lx_nil ?_
          refine hK35 _ _ ?_; try clear hK35 K35
          refine A_cond true rfl (fun _ => ?_) (fun h_ => nomatch h_)
          refine A_seq fun K40 hK40 => ?_
          refine A_reg ?_
          refine r_v (Value.agg #[Value.int .i64 (0), U (0#64), U (0#64)]) rfl rfl rfl (ev_buildS rfl rfl rfl rfl) ?_
          refine r_s [(b2, 38, #[Value.int .i64 (0), U (0#64), U (0#64)])] 0 _ _ _ (#[Value.int .i64 (0), U (0#64), U (0#64)]) (#[Value.int .i64 (0), U (0#64), U (0#64)]) (#[Value.int .i64 (0), U (0#64), U (0#64)]) rfl rfl rfl rfl (.of rfl rfl) rfl rfl ?_
          refine r_v (Value.int .i64 (4)) rfl rfl rfl rfl ?_
          refine lx_nil ?_
          refine hK40 _ _ ?_; try clear hK40 K40
          obtain rfl := Option.some.inj hM
          refine A_ret (fun hn => ends_eq (v0 := Value.tuple #[Value.agg #[Value.int .i64 (0), U (0#64), U (0#64)], Value.int .i64 (4)]) (by first | rfl | (simp only [app_hl]; done) | simp only [app_hl]) (res2 (res_cell hn 0 rfl rfl rfl) rfl))
      · replace hM := ifp (eq_of_beq hg36) hM
        refine r_n true rfl (by decide) rfl ?_
        refine r_n true rfl (by decide) rfl ?_
        refine r_v (Value.bool (true)) rfl rfl rfl rfl ?_
        refine r_v (Value.bool (true)) rfl rfl rfl rfl ?_
        refine r_n true rfl (by decide) rfl ?_
        refine r_n true rfl (by decide) rfl ?_
        refine r_v (Value.bool (true)) rfl rfl rfl rfl ?_
        refine lx_nil ?_
        refine hK35 _ _ ?_; try clear hK35 K35
        refine A_cond true rfl (fun _ => ?_) (fun h_ => nomatch h_)
        refine A_seq fun K41 hK41 => ?_
        refine A_reg ?_
        refine r_v (Value.agg #[Value.int .i64 (0), U (0#64), U (0#64)]) rfl rfl rfl (ev_buildS rfl rfl rfl rfl) ?_
        refine r_s [(b2, 38, #[Value.int .i64 (0), U (0#64), U (0#64)])] 0 _ _ _ (#[Value.int .i64 (0), U (0#64), U (0#64)]) (#[Value.int .i64 (0), U (0#64), U (0#64)]) (#[Value.int .i64 (0), U (0#64), U (0#64)]) rfl rfl rfl rfl (.of rfl rfl) rfl rfl ?_
        refine r_v (Value.int .i64 (4)) rfl rfl rfl rfl ?_
        refine lx_nil ?_
        refine hK41 _ _ ?_; try clear hK41 K41
        obtain rfl := Option.some.inj hM
        refine A_ret (fun hn => ends_eq (v0 := Value.tuple #[Value.agg #[Value.int .i64 (0), U (0#64), U (0#64)], Value.int .i64 (4)]) (by first | rfl | (simp only [app_hl]; done) | simp only [app_hl]) (res2 (res_cell hn 0 rfl rfl rfl) rfl))
    · clear hM; rintro t l ⟨hM, ⟨T, rfl⟩, rfl⟩
      unfold shunterref02_Parse_k3 at hM
      refine A_seq fun K4 hK4 => ?_
      refine A_reg ?_
      refine r_v (Value.string (⟨(s).toArray⟩)) rfl rfl rfl rfl ?_
      refine r_v (Value.int .i64 (at1_)) rfl rfl rfl rfl ?_
      replace hM := ck_some hM; obtain ⟨ck5, hM⟩ := hM
      refine r_v (Value.string (⟨((s).take (at1_).toNat).toArray⟩)) rfl rfl rfl (ev_v (ev_sliceS2 rfl ck5)) ?_
      replace hM := ck_some hM; obtain ⟨ck6, hM⟩ := hM
      refine r_c (Value.tuple #[Value.agg (rowF (BitVec.getLsbD ((parseR ((s).take (at1_).toNat) (10)).1))), Value.int .i64 ((parseR ((s).take (at1_).toNat) (10)).2)]) rfl _ _ (ev_callF rfl call_31 rfl) (rparse_t ((s).take (at1_).toNat) (10) ck6) ?_
      refine r_v (Value.tuple #[Value.agg (rowF (BitVec.getLsbD ((parseR ((s).take (at1_).toNat) (10)).1))), Value.int .i64 ((parseR ((s).take (at1_).toNat) (10)).2)]) rfl rfl rfl rfl ?_
      refine r_v (Value.agg (rowF (BitVec.getLsbD ((parseR ((s).take (at1_).toNat) (10)).1)))) rfl rfl rfl rfl ?_
      refine r_v (Value.int .i64 ((parseR ((s).take (at1_).toNat) (10)).2)) rfl rfl rfl rfl ?_
      refine r_a (69, rowF (BitVec.getLsbD (0#128))) rfl rfl ((zrow z_69).trans (congrArg (fun x => some (69, x)) row_zero)) (fun b7 => ?_) (.inr rfl)
      refine r_s [(b7, 69, rowF (BitVec.getLsbD ((parseR ((s).take (at1_).toNat) (10)).1))), (b2, 38, #[Value.int .i64 (0), U (0#64), U (0#64)])] 0 _ _ _ (rowF (BitVec.getLsbD (0#128))) (rowF (BitVec.getLsbD ((parseR ((s).take (at1_).toNat) (10)).1))) (rowF (BitVec.getLsbD ((parseR ((s).take (at1_).toNat) (10)).1))) rfl rfl rfl rfl (stok_rows rfl rfl _ _) (splice_rows _ _) rfl ?_
      refine r_v (Value.int .i64 ((parseR ((s).take (at1_).toNat) (10)).2)) rfl rfl rfl rfl ?_
      refine lx_nil ?_
      refine hK4 _ _ ?_; try clear hK4 K4
      refine A_seq fun K8 hK8 => ?_
      refine A_reg ?_
      refine r_v (Value.string (⟨(s).toArray⟩)) rfl rfl rfl rfl ?_
      refine r_v (Value.int .i64 (at1_)) rfl rfl rfl rfl ?_
      replace hM := ck_some hM; obtain ⟨ck9, hM⟩ := hM
      refine r_v (Value.int .i64 ((at1_ + 1))) rfl rfl (wi64 rfl ck9.1 ck9.2) rfl ?_
      replace hM := ck_some hM; obtain ⟨ck10, hM⟩ := hM
      refine r_v (Value.string (⟨((s).drop ((at1_ + 1)).toNat).toArray⟩)) rfl rfl rfl (ev_v (ev_sliceS1 rfl ck10)) ?_
      replace hM := ck_some hM; obtain ⟨ck11, hM⟩ := hM
      refine r_c (Value.tuple #[Value.agg (rowF (BitVec.getLsbD ((parseR ((s).drop ((at1_ + 1)).toNat) (16)).1))), Value.int .i64 ((parseR ((s).drop ((at1_ + 1)).toNat) (16)).2)]) rfl _ _ (ev_callF rfl call_31 rfl) (rparse_t ((s).drop ((at1_ + 1)).toNat) (16) ck11) ?_
      refine r_v (Value.tuple #[Value.agg (rowF (BitVec.getLsbD ((parseR ((s).drop ((at1_ + 1)).toNat) (16)).1))), Value.int .i64 ((parseR ((s).drop ((at1_ + 1)).toNat) (16)).2)]) rfl rfl rfl rfl ?_
      refine r_v (Value.agg (rowF (BitVec.getLsbD ((parseR ((s).drop ((at1_ + 1)).toNat) (16)).1)))) rfl rfl rfl rfl ?_
      refine r_v (Value.int .i64 ((parseR ((s).drop ((at1_ + 1)).toNat) (16)).2)) rfl rfl rfl rfl ?_
      refine r_a (69, rowF (BitVec.getLsbD (0#128))) rfl rfl ((zrow z_69).trans (congrArg (fun x => some (69, x)) row_zero)) (fun b12 => ?_) (.inr rfl)
      refine r_s [(b12, 69, rowF (BitVec.getLsbD ((parseR ((s).drop ((at1_ + 1)).toNat) (16)).1))), (b7, 69, rowF (BitVec.getLsbD ((parseR ((s).take (at1_).toNat) (10)).1))), (b2, 38, #[Value.int .i64 (0), U (0#64), U (0#64)])] 0 _ _ _ (rowF (BitVec.getLsbD (0#128))) (rowF (BitVec.getLsbD ((parseR ((s).drop ((at1_ + 1)).toNat) (16)).1))) (rowF (BitVec.getLsbD ((parseR ((s).drop ((at1_ + 1)).toNat) (16)).1))) rfl rfl rfl rfl (stok_rows rfl rfl _ _) (splice_rows _ _) rfl ?_
      refine r_v (Value.int .i64 ((parseR ((s).drop ((at1_ + 1)).toNat) (16)).2)) rfl rfl rfl rfl ?_
      refine lx_nil ?_
      refine hK8 _ _ ?_; try clear hK8 K8
      refine A_cut (fun tt ll => (shunterref02_Parse_k4 s at1_  = some r) ∧ Is [(2, Value.pointer (some ⟨b2, 0, none⟩)), (5, Value.pointer (some ⟨b7, 0, none⟩)), (7, Value.pointer (some ⟨b12, 0, none⟩)), (8, Value.int .i64 ((parseR ((s).drop ((at1_ + 1)).toNat) (16)).2))] [(b12, 69, rowF (BitVec.getLsbD ((parseR ((s).drop ((at1_ + 1)).toNat) (16)).1))), (b7, 69, rowF (BitVec.getLsbD ((parseR ((s).take (at1_).toNat) (10)).1))), (b2, 38, #[Value.int .i64 (0), U (0#64), U (0#64)])] tt ll) ?_ ?_
      · refine A_seq fun K28 hK28 => ?_
        refine A_reg ?_
        refine r_v (Value.int .i64 ((parseR ((s).take (at1_).toNat) (10)).2)) rfl rfl rfl rfl ?_
        refine r_v (Value.bool ((((parseR ((s).take (at1_).toNat) (10)).2 : Int) != 0))) rfl rfl rfl rfl ?_
        refine r_v (Value.bool ((((parseR ((s).take (at1_).toNat) (10)).2 : Int) != 0))) rfl rfl rfl rfl ?_
        rcases hg29 : ((((parseR ((s).take (at1_).toNat) (10)).2 : Int) != 0)) with _ | _
        · replace hM := ifn (bne_f hg29) hM
          refine r_y rfl ?_
          refine r_v (Value.int .i64 ((parseR ((s).drop ((at1_ + 1)).toNat) (16)).2)) rfl rfl rfl rfl ?_
          refine r_y rfl ?_
          refine r_v (Value.bool ((((parseR ((s).drop ((at1_ + 1)).toNat) (16)).2 : Int) == 4))) rfl rfl rfl rfl ?_
          refine r_v (Value.bool ((((parseR ((s).drop ((at1_ + 1)).toNat) (16)).2 : Int) == 4))) rfl rfl rfl rfl ?_
          refine r_v (Value.bool ((((parseR ((s).drop ((at1_ + 1)).toNat) (16)).2 : Int) == 4))) rfl rfl rfl rfl ?_
          rcases hg30 : ((((parseR ((s).drop ((at1_ + 1)).toNat) (16)).2 : Int) == 4)) with _ | _
          · replace hM := ifn (ne_of_beq_false hg30) hM
            refine r_y rfl ?_
            refine r_v (Value.int .i64 ((parseR ((s).drop ((at1_ + 1)).toNat) (16)).2)) rfl rfl rfl rfl ?_
            refine r_y rfl ?_
            refine r_v (Value.bool ((((parseR ((s).drop ((at1_ + 1)).toNat) (16)).2 : Int) == 3))) rfl rfl rfl rfl ?_
            refine r_v (Value.bool ((((parseR ((s).drop ((at1_ + 1)).toNat) (16)).2 : Int) == 3))) rfl rfl rfl rfl ?_
            refine lx_nil ?_
            refine hK28 _ _ ?_; try clear hK28 K28
            refine A_gen [(2, Value.pointer (some ⟨b2, 0, none⟩)), (5, Value.pointer (some ⟨b7, 0, none⟩)), (7, Value.pointer (some ⟨b12, 0, none⟩)), (8, Value.int .i64 ((parseR ((s).drop ((at1_ + 1)).toNat) (16)).2)), (62, Value.bool ((((parseR ((s).drop ((at1_ + 1)).toNat) (16)).2 : Int) == 3)))] rfl (fun T => ?_)
            refine A_cond ((((parseR ((s).drop ((at1_ + 1)).toNat) (16)).2 : Int) == 3)) rfl (fun hc31 => ?_) (fun hc31 => ?_)
            · replace hM := ifp (eq_of_beq hc31) hM
              refine A_seq fun K32 hK32 => ?_
              refine A_reg ?_
              refine r_v (Value.agg #[Value.int .i64 (0), U (0#64), U (0#64)]) rfl rfl rfl (ev_buildS rfl rfl rfl rfl) ?_
              refine r_s [(b12, 69, rowF (BitVec.getLsbD ((parseR ((s).drop ((at1_ + 1)).toNat) (16)).1))), (b7, 69, rowF (BitVec.getLsbD ((parseR ((s).take (at1_).toNat) (10)).1))), (b2, 38, #[Value.int .i64 (0), U (0#64), U (0#64)])] 2 _ _ _ (#[Value.int .i64 (0), U (0#64), U (0#64)]) (#[Value.int .i64 (0), U (0#64), U (0#64)]) (#[Value.int .i64 (0), U (0#64), U (0#64)]) rfl rfl rfl rfl (.of rfl rfl) rfl rfl ?_
              refine r_v (Value.int .i64 (4)) rfl rfl rfl rfl ?_
              refine lx_nil ?_
              refine hK32 _ _ ?_; try clear hK32 K32
              obtain rfl := Option.some.inj hM
              refine A_ret (fun hn => ends_eq (v0 := Value.tuple #[Value.agg #[Value.int .i64 (0), U (0#64), U (0#64)], Value.int .i64 (4)]) (by first | rfl | (simp only [app_hl]; done) | simp only [app_hl]) (res2 (res_cell hn 2 rfl rfl rfl) rfl))
            · replace hM := ifn (ne_of_beq_false hc31) hM
              refine A_skip ?_
              refine fg _ (Sub.of (List.Sublist.cons_cons _ (List.Sublist.cons_cons _ (List.Sublist.cons_cons _ (List.Sublist.slnil))))) ?_
              exact ⟨hM, is_mk rfl (by first | rfl | simp only [app_hl])⟩
          · replace hM := ifp (eq_of_beq hg30) hM
            refine r_n true rfl (by decide) rfl ?_
            refine r_n true rfl (by decide) rfl ?_
            refine r_v (Value.bool (true)) rfl rfl rfl rfl ?_
            refine lx_nil ?_
            refine hK28 _ _ ?_; try clear hK28 K28
            refine A_gen [(2, Value.pointer (some ⟨b2, 0, none⟩)), (5, Value.pointer (some ⟨b7, 0, none⟩)), (7, Value.pointer (some ⟨b12, 0, none⟩)), (8, Value.int .i64 ((parseR ((s).drop ((at1_ + 1)).toNat) (16)).2)), (62, Value.bool (true))] rfl (fun T => ?_)
            refine A_cond true rfl (fun _ => ?_) (fun h_ => nomatch h_)
            refine A_seq fun K33 hK33 => ?_
            refine A_reg ?_
            refine r_v (Value.agg #[Value.int .i64 (0), U (0#64), U (0#64)]) rfl rfl rfl (ev_buildS rfl rfl rfl rfl) ?_
            refine r_s [(b12, 69, rowF (BitVec.getLsbD ((parseR ((s).drop ((at1_ + 1)).toNat) (16)).1))), (b7, 69, rowF (BitVec.getLsbD ((parseR ((s).take (at1_).toNat) (10)).1))), (b2, 38, #[Value.int .i64 (0), U (0#64), U (0#64)])] 2 _ _ _ (#[Value.int .i64 (0), U (0#64), U (0#64)]) (#[Value.int .i64 (0), U (0#64), U (0#64)]) (#[Value.int .i64 (0), U (0#64), U (0#64)]) rfl rfl rfl rfl (.of rfl rfl) rfl rfl ?_
            refine r_v (Value.int .i64 (4)) rfl rfl rfl rfl ?_
            refine lx_nil ?_
            refine hK33 _ _ ?_; try clear hK33 K33
            obtain rfl := Option.some.inj hM
            refine A_ret (fun hn => ends_eq (v0 := Value.tuple #[Value.agg #[Value.int .i64 (0), U (0#64), U (0#64)], Value.int .i64 (4)]) (by first | rfl | (simp only [app_hl]; done) | simp only [app_hl]) (res2 (res_cell hn 2 rfl rfl rfl) rfl))
        · replace hM := ifp (bne_iff_ne.1 hg29) hM
          refine r_n true rfl (by decide) rfl ?_
          refine r_n true rfl (by decide) rfl ?_
          refine r_v (Value.bool (true)) rfl rfl rfl rfl ?_
          refine r_v (Value.bool (true)) rfl rfl rfl rfl ?_
          refine r_n true rfl (by decide) rfl ?_
          refine r_n true rfl (by decide) rfl ?_
          refine r_v (Value.bool (true)) rfl rfl rfl rfl ?_
          refine lx_nil ?_
          refine hK28 _ _ ?_; try clear hK28 K28
          refine A_gen [(2, Value.pointer (some ⟨b2, 0, none⟩)), (5, Value.pointer (some ⟨b7, 0, none⟩)), (7, Value.pointer (some ⟨b12, 0, none⟩)), (8, Value.int .i64 ((parseR ((s).drop ((at1_ + 1)).toNat) (16)).2)), (62, Value.bool (true))] rfl (fun T => ?_)
          refine A_cond true rfl (fun _ => ?_) (fun h_ => nomatch h_)
          refine A_seq fun K34 hK34 => ?_
          refine A_reg ?_
          refine r_v (Value.agg #[Value.int .i64 (0), U (0#64), U (0#64)]) rfl rfl rfl (ev_buildS rfl rfl rfl rfl) ?_
          refine r_s [(b12, 69, rowF (BitVec.getLsbD ((parseR ((s).drop ((at1_ + 1)).toNat) (16)).1))), (b7, 69, rowF (BitVec.getLsbD ((parseR ((s).take (at1_).toNat) (10)).1))), (b2, 38, #[Value.int .i64 (0), U (0#64), U (0#64)])] 2 _ _ _ (#[Value.int .i64 (0), U (0#64), U (0#64)]) (#[Value.int .i64 (0), U (0#64), U (0#64)]) (#[Value.int .i64 (0), U (0#64), U (0#64)]) rfl rfl rfl rfl (.of rfl rfl) rfl rfl ?_
          refine r_v (Value.int .i64 (4)) rfl rfl rfl rfl ?_
          refine lx_nil ?_
          refine hK34 _ _ ?_; try clear hK34 K34
          obtain rfl := Option.some.inj hM
          refine A_ret (fun hn => ends_eq (v0 := Value.tuple #[Value.agg #[Value.int .i64 (0), U (0#64), U (0#64)], Value.int .i64 (4)]) (by first | rfl | (simp only [app_hl]; done) | simp only [app_hl]) (res2 (res_cell hn 2 rfl rfl rfl) rfl))
      · clear hM; rintro t l ⟨hM, ⟨T, rfl⟩, rfl⟩
        unfold shunterref02_Parse_k4 at hM
        refine A_seq fun K13 hK13 => ?_
        refine A_reg ?_
        refine r_l (Value.agg (rowF (BitVec.getLsbD ((parseR ((s).take (at1_).toNat) (10)).1)))) 1 _ _ _ _ rfl rfl rfl rfl (ld_rows rfl rfl rfl _) ?_
        refine r_c (Value.tuple #[U (hi ((parseR ((s).take (at1_).toNat) (10)).1)), U (lo ((parseR ((s).take (at1_).toNat) (10)).1))]) rfl _ _ (ev_callF rfl call_33 rfl) (halves_t ((parseR ((s).take (at1_).toNat) (10)).1)) ?_
        refine r_v (Value.tuple #[U (hi ((parseR ((s).take (at1_).toNat) (10)).1)), U (lo ((parseR ((s).take (at1_).toNat) (10)).1))]) rfl rfl rfl rfl ?_
        refine r_v (U (hi ((parseR ((s).take (at1_).toNat) (10)).1))) rfl rfl rfl rfl ?_
        refine r_v (U (lo ((parseR ((s).take (at1_).toNat) (10)).1))) rfl rfl rfl rfl ?_
        refine r_v (U (hi ((parseR ((s).take (at1_).toNat) (10)).1))) rfl rfl rfl rfl ?_
        refine r_v (U (lo ((parseR ((s).take (at1_).toNat) (10)).1))) rfl rfl rfl rfl ?_
        refine lx_nil ?_
        refine hK13 _ _ ?_; try clear hK13 K13
        refine A_cut (fun tt ll => (shunterref02_Parse_k5 s at1_  = some r) ∧ Is [(2, Value.pointer (some ⟨b2, 0, none⟩)), (7, Value.pointer (some ⟨b12, 0, none⟩)), (8, Value.int .i64 ((parseR ((s).drop ((at1_ + 1)).toNat) (16)).2)), (10, U (lo ((parseR ((s).take (at1_).toNat) (10)).1)))] [(b12, 69, rowF (BitVec.getLsbD ((parseR ((s).drop ((at1_ + 1)).toNat) (16)).1))), (b2, 38, #[Value.int .i64 (0), U (0#64), U (0#64)])] tt ll) ?_ ?_
        · refine A_seq fun K23 hK23 => ?_
          refine A_reg ?_
          refine r_v (U (lo ((parseR ((s).take (at1_).toNat) (10)).1))) rfl rfl rfl rfl ?_
          refine r_v (Value.bool (decide ((lo ((parseR ((s).take (at1_).toNat) (10)).1)) < (1#64)))) rfl rfl (U_lt (lo ((parseR ((s).take (at1_).toNat) (10)).1)) (1#64)) rfl ?_
          refine r_v (Value.bool (decide ((lo ((parseR ((s).take (at1_).toNat) (10)).1)) < (1#64)))) rfl rfl rfl rfl ?_
          rcases hg24 : (decide ((lo ((parseR ((s).take (at1_).toNat) (10)).1)) < (1#64))) with _ | _
          · replace hM := ifn (of_decide_eq_false hg24) hM
            refine r_y rfl ?_
            refine r_v (U (lo ((parseR ((s).take (at1_).toNat) (10)).1))) rfl rfl rfl rfl ?_
            refine r_y rfl ?_
            refine r_v (Value.bool (decide ((128#64) < (lo ((parseR ((s).take (at1_).toNat) (10)).1))))) rfl rfl (U_lt (128#64) (lo ((parseR ((s).take (at1_).toNat) (10)).1))) rfl ?_
            refine r_v (Value.bool (decide ((128#64) < (lo ((parseR ((s).take (at1_).toNat) (10)).1))))) rfl rfl rfl rfl ?_
            refine lx_nil ?_
            refine hK23 _ _ ?_; try clear hK23 K23
            refine A_cond (decide ((128#64) < (lo ((parseR ((s).take (at1_).toNat) (10)).1)))) rfl (fun hc25 => ?_) (fun hc25 => ?_)
            · replace hM := ifp (of_decide_eq_true hc25) hM
              refine A_seq fun K26 hK26 => ?_
              refine A_reg ?_
              refine r_v (Value.agg #[Value.int .i64 (0), U (0#64), U (0#64)]) rfl rfl rfl (ev_buildS rfl rfl rfl rfl) ?_
              refine r_s [(b12, 69, rowF (BitVec.getLsbD ((parseR ((s).drop ((at1_ + 1)).toNat) (16)).1))), (b7, 69, rowF (BitVec.getLsbD ((parseR ((s).take (at1_).toNat) (10)).1))), (b2, 38, #[Value.int .i64 (0), U (0#64), U (0#64)])] 2 _ _ _ (#[Value.int .i64 (0), U (0#64), U (0#64)]) (#[Value.int .i64 (0), U (0#64), U (0#64)]) (#[Value.int .i64 (0), U (0#64), U (0#64)]) rfl rfl rfl rfl (.of rfl rfl) rfl rfl ?_
              refine r_v (Value.int .i64 (9)) rfl rfl rfl rfl ?_
              refine lx_nil ?_
              refine hK26 _ _ ?_; try clear hK26 K26
              obtain rfl := Option.some.inj hM
              refine A_ret (fun hn => ends_eq (v0 := Value.tuple #[Value.agg #[Value.int .i64 (0), U (0#64), U (0#64)], Value.int .i64 (9)]) (by first | rfl | (simp only [app_hl]; done) | simp only [app_hl]) (res2 (res_cell hn 2 rfl rfl rfl) rfl))
            · replace hM := ifn (of_decide_eq_false hc25) hM
              refine A_skip ?_
              refine fg _ (Sub.of (List.Sublist.cons_cons _ (List.Sublist.cons _ (List.Sublist.cons_cons _ (List.Sublist.slnil))))) ?_
              exact ⟨hM, is_mk rfl (by first | rfl | simp only [app_hl])⟩
          · replace hM := ifp (of_decide_eq_true hg24) hM
            refine r_n true rfl (by decide) rfl ?_
            refine r_n true rfl (by decide) rfl ?_
            refine r_v (Value.bool (true)) rfl rfl rfl rfl ?_
            refine lx_nil ?_
            refine hK23 _ _ ?_; try clear hK23 K23
            refine A_cond true rfl (fun _ => ?_) (fun h_ => nomatch h_)
            refine A_seq fun K27 hK27 => ?_
            refine A_reg ?_
            refine r_v (Value.agg #[Value.int .i64 (0), U (0#64), U (0#64)]) rfl rfl rfl (ev_buildS rfl rfl rfl rfl) ?_
            refine r_s [(b12, 69, rowF (BitVec.getLsbD ((parseR ((s).drop ((at1_ + 1)).toNat) (16)).1))), (b7, 69, rowF (BitVec.getLsbD ((parseR ((s).take (at1_).toNat) (10)).1))), (b2, 38, #[Value.int .i64 (0), U (0#64), U (0#64)])] 2 _ _ _ (#[Value.int .i64 (0), U (0#64), U (0#64)]) (#[Value.int .i64 (0), U (0#64), U (0#64)]) (#[Value.int .i64 (0), U (0#64), U (0#64)]) rfl rfl rfl rfl (.of rfl rfl) rfl rfl ?_
            refine r_v (Value.int .i64 (9)) rfl rfl rfl rfl ?_
            refine lx_nil ?_
            refine hK27 _ _ ?_; try clear hK27 K27
            obtain rfl := Option.some.inj hM
            refine A_ret (fun hn => ends_eq (v0 := Value.tuple #[Value.agg #[Value.int .i64 (0), U (0#64), U (0#64)], Value.int .i64 (9)]) (by first | rfl | (simp only [app_hl]; done) | simp only [app_hl]) (res2 (res_cell hn 2 rfl rfl rfl) rfl))
        · clear hM; rintro t l ⟨hM, ⟨T, rfl⟩, rfl⟩
          unfold shunterref02_Parse_k5 at hM
          refine A_cut (fun tt ll => (shunterref02_Parse_k6 s at1_  = some r) ∧ Is [(2, Value.pointer (some ⟨b2, 0, none⟩)), (7, Value.pointer (some ⟨b12, 0, none⟩)), (10, U (lo ((parseR ((s).take (at1_).toNat) (10)).1)))] [(b12, 69, rowF (BitVec.getLsbD ((parseR ((s).drop ((at1_ + 1)).toNat) (16)).1))), (b2, 38, #[Value.int .i64 (0), U (0#64), U (0#64)])] tt ll) ?_ ?_
          · refine A_seq fun K17 hK17 => ?_
            refine A_reg ?_
            refine r_v (Value.int .i64 ((parseR ((s).drop ((at1_ + 1)).toNat) (16)).2)) rfl rfl rfl rfl ?_
            refine r_v (Value.bool ((((parseR ((s).drop ((at1_ + 1)).toNat) (16)).2 : Int) != 0))) rfl rfl rfl rfl ?_
            refine r_v (Value.bool ((((parseR ((s).drop ((at1_ + 1)).toNat) (16)).2 : Int) != 0))) rfl rfl rfl rfl ?_
            rcases hg18 : ((((parseR ((s).drop ((at1_ + 1)).toNat) (16)).2 : Int) != 0)) with _ | _
            · replace hM := ifn (bne_f hg18) hM
              refine r_y rfl ?_
              refine r_l (Value.agg (rowF (BitVec.getLsbD ((parseR ((s).drop ((at1_ + 1)).toNat) (16)).1)))) 0 _ _ _ _ rfl rfl rfl rfl (ld_rows rfl rfl rfl _) ?_
              refine r_y rfl ?_
              refine r_c (Value.int .i64 (((len128 ((parseR ((s).drop ((at1_ + 1)).toNat) (16)).1) : Nat) : Int))) rfl _ _ (ev_callF rfl call_32 rfl) (rlen_g ((parseR ((s).drop ((at1_ + 1)).toNat) (16)).1)) ?_
              refine r_y rfl ?_
              refine r_v (U (lo ((parseR ((s).take (at1_).toNat) (10)).1))) rfl rfl rfl rfl ?_
              refine r_y rfl ?_
              replace hM := ck_some hM; obtain ⟨ck19, hM⟩ := hM
              refine r_w (Value.int .i64 ((((lo ((parseR ((s).take (at1_).toNat) (10)).1)).toNat : Nat) : Int))) rfl rfl (wi64 rfl (by omega) ck19) (fun _ => rfl) ?_
              refine r_y rfl ?_
              refine r_v (Value.bool (decide ((((len128 ((parseR ((s).drop ((at1_ + 1)).toNat) (16)).1) : Nat) : Int) : Int) > (((lo ((parseR ((s).take (at1_).toNat) (10)).1)).toNat : Nat) : Int)))) rfl rfl rfl rfl ?_
              refine r_v (Value.bool (decide ((((len128 ((parseR ((s).drop ((at1_ + 1)).toNat) (16)).1) : Nat) : Int) : Int) > (((lo ((parseR ((s).take (at1_).toNat) (10)).1)).toNat : Nat) : Int)))) rfl rfl rfl rfl ?_
              refine lx_nil ?_
              refine hK17 _ _ ?_; try clear hK17 K17
              refine A_cond (decide ((((len128 ((parseR ((s).drop ((at1_ + 1)).toNat) (16)).1) : Nat) : Int) : Int) > (((lo ((parseR ((s).take (at1_).toNat) (10)).1)).toNat : Nat) : Int))) rfl (fun hc20 => ?_) (fun hc20 => ?_)
              · replace hM := ifp (of_decide_eq_true hc20) hM
                refine A_seq fun K21 hK21 => ?_
                refine A_reg ?_
                refine r_v (Value.agg #[Value.int .i64 (0), U (0#64), U (0#64)]) rfl rfl rfl (ev_buildS rfl rfl rfl rfl) ?_
                refine r_s [(b12, 69, rowF (BitVec.getLsbD ((parseR ((s).drop ((at1_ + 1)).toNat) (16)).1))), (b2, 38, #[Value.int .i64 (0), U (0#64), U (0#64)])] 1 _ _ _ (#[Value.int .i64 (0), U (0#64), U (0#64)]) (#[Value.int .i64 (0), U (0#64), U (0#64)]) (#[Value.int .i64 (0), U (0#64), U (0#64)]) rfl rfl rfl rfl (.of rfl rfl) rfl rfl ?_
                refine r_v (Value.int .i64 (7)) rfl rfl rfl rfl ?_
                refine lx_nil ?_
                refine hK21 _ _ ?_; try clear hK21 K21
                obtain rfl := Option.some.inj hM
                refine A_ret (fun hn => ends_eq (v0 := Value.tuple #[Value.agg #[Value.int .i64 (0), U (0#64), U (0#64)], Value.int .i64 (7)]) (by first | rfl | (simp only [app_hl]; done) | simp only [app_hl]) (res2 (res_cell hn 1 rfl rfl rfl) rfl))
              · replace hM := ifn (of_decide_eq_false hc20) hM
                refine A_skip ?_
                refine fg _ (Sub.of (List.Sublist.cons_cons _ (List.Sublist.cons_cons _ (List.Sublist.slnil)))) ?_
                exact ⟨hM, is_mk rfl (by first | rfl | simp only [app_hl])⟩
            · replace hM := ifp (bne_iff_ne.1 hg18) hM
              refine r_n true rfl (by decide) rfl ?_
              refine r_n true rfl (by decide) rfl ?_
              refine r_n true rfl (by decide) rfl ?_
              refine r_n true rfl (by decide) rfl ?_
              refine r_n true rfl (by decide) rfl ?_
              refine r_v (Value.bool (true)) rfl rfl rfl rfl ?_
              refine lx_nil ?_
              refine hK17 _ _ ?_; try clear hK17 K17
              refine A_cond true rfl (fun _ => ?_) (fun h_ => nomatch h_)
              refine A_seq fun K22 hK22 => ?_
              refine A_reg ?_
              refine r_v (Value.agg #[Value.int .i64 (0), U (0#64), U (0#64)]) rfl rfl rfl (ev_buildS rfl rfl rfl rfl) ?_
              refine r_s [(b12, 69, rowF (BitVec.getLsbD ((parseR ((s).drop ((at1_ + 1)).toNat) (16)).1))), (b2, 38, #[Value.int .i64 (0), U (0#64), U (0#64)])] 1 _ _ _ (#[Value.int .i64 (0), U (0#64), U (0#64)]) (#[Value.int .i64 (0), U (0#64), U (0#64)]) (#[Value.int .i64 (0), U (0#64), U (0#64)]) rfl rfl rfl rfl (.of rfl rfl) rfl rfl ?_
              refine r_v (Value.int .i64 (7)) rfl rfl rfl rfl ?_
              refine lx_nil ?_
              refine hK22 _ _ ?_; try clear hK22 K22
              obtain rfl := Option.some.inj hM
              refine A_ret (fun hn => ends_eq (v0 := Value.tuple #[Value.agg #[Value.int .i64 (0), U (0#64), U (0#64)], Value.int .i64 (7)]) (by first | rfl | (simp only [app_hl]; done) | simp only [app_hl]) (res2 (res_cell hn 1 rfl rfl rfl) rfl))
          · clear hM; rintro t l ⟨hM, ⟨T, rfl⟩, rfl⟩
            unfold shunterref02_Parse_k6 at hM
            refine A_seq fun K14 hK14 => ?_
            refine A_reg ?_
            refine r_l (Value.agg (rowF (BitVec.getLsbD ((parseR ((s).drop ((at1_ + 1)).toNat) (16)).1)))) 0 _ _ _ _ rfl rfl rfl rfl (ld_rows rfl rfl rfl _) ?_
            refine r_c (Value.tuple #[U (hi ((parseR ((s).drop ((at1_ + 1)).toNat) (16)).1)), U (lo ((parseR ((s).drop ((at1_ + 1)).toNat) (16)).1))]) rfl _ _ (ev_callF rfl call_33 rfl) (halves_t ((parseR ((s).drop ((at1_ + 1)).toNat) (16)).1)) ?_
            refine r_v (Value.tuple #[U (hi ((parseR ((s).drop ((at1_ + 1)).toNat) (16)).1)), U (lo ((parseR ((s).drop ((at1_ + 1)).toNat) (16)).1))]) rfl rfl rfl rfl ?_
            refine r_v (U (hi ((parseR ((s).drop ((at1_ + 1)).toNat) (16)).1))) rfl rfl rfl rfl ?_
            refine r_v (U (lo ((parseR ((s).drop ((at1_ + 1)).toNat) (16)).1))) rfl rfl rfl rfl ?_
            refine r_v (U (hi ((parseR ((s).drop ((at1_ + 1)).toNat) (16)).1))) rfl rfl rfl rfl ?_
            refine r_v (U (lo ((parseR ((s).drop ((at1_ + 1)).toNat) (16)).1))) rfl rfl rfl rfl ?_
            refine lx_nil ?_
            refine hK14 _ _ ?_; try clear hK14 K14
            refine A_seq fun K15 hK15 => ?_
            refine A_reg ?_
            refine r_v (U (lo ((parseR ((s).take (at1_).toNat) (10)).1))) rfl rfl rfl rfl ?_
            replace hM := ck_some hM; obtain ⟨ck16, hM⟩ := hM
            refine r_w (Value.int .i64 ((((lo ((parseR ((s).take (at1_).toNat) (10)).1)).toNat : Nat) : Int))) rfl rfl (wi64 rfl (by omega) ck16) (fun _ => rfl) ?_
            refine r_v (U (hi ((parseR ((s).drop ((at1_ + 1)).toNat) (16)).1))) rfl rfl rfl rfl ?_
            refine r_v (U (lo ((parseR ((s).drop ((at1_ + 1)).toNat) (16)).1))) rfl rfl rfl rfl ?_
            refine r_v (Value.agg #[Value.int .i64 ((((lo ((parseR ((s).take (at1_).toNat) (10)).1)).toNat : Nat) : Int)), U (hi ((parseR ((s).drop ((at1_ + 1)).toNat) (16)).1)), U (lo ((parseR ((s).drop ((at1_ + 1)).toNat) (16)).1))]) rfl rfl rfl (ev_buildS rfl rfl rfl rfl) ?_
            refine r_s [(b12, 69, rowF (BitVec.getLsbD ((parseR ((s).drop ((at1_ + 1)).toNat) (16)).1))), (b2, 38, #[Value.int .i64 ((((lo ((parseR ((s).take (at1_).toNat) (10)).1)).toNat : Nat) : Int)), U (hi ((parseR ((s).drop ((at1_ + 1)).toNat) (16)).1)), U (lo ((parseR ((s).drop ((at1_ + 1)).toNat) (16)).1))])] 1 _ _ _ (#[Value.int .i64 (0), U (0#64), U (0#64)]) (#[Value.int .i64 ((((lo ((parseR ((s).take (at1_).toNat) (10)).1)).toNat : Nat) : Int)), U (hi ((parseR ((s).drop ((at1_ + 1)).toNat) (16)).1)), U (lo ((parseR ((s).drop ((at1_ + 1)).toNat) (16)).1))]) (#[Value.int .i64 ((((lo ((parseR ((s).take (at1_).toNat) (10)).1)).toNat : Nat) : Int)), U (hi ((parseR ((s).drop ((at1_ + 1)).toNat) (16)).1)), U (lo ((parseR ((s).drop ((at1_ + 1)).toNat) (16)).1))]) rfl rfl rfl rfl (.of rfl rfl) rfl rfl ?_
            refine r_v (Value.int .i64 (0)) rfl rfl rfl rfl ?_
            refine lx_nil ?_
            refine hK15 _ _ ?_; try clear hK15 K15
            obtain rfl := Option.some.inj hM
            refine A_ret (fun hn => ends_eq (v0 := Value.tuple #[Value.agg #[Value.int .i64 ((((lo ((parseR ((s).take (at1_).toNat) (10)).1)).toNat : Nat) : Int)), U (hi ((parseR ((s).drop ((at1_ + 1)).toNat) (16)).1)), U (lo ((parseR ((s).drop ((at1_ + 1)).toNat) (16)).1))], Value.int .i64 (0)]) rfl (res2 (res_cell hn 1 rfl rfl rfl) rfl))
def shunterref06_Number_k7 (at' : Int) (s3_ : List UInt8) (base4_ : Int) : Option (Int × (List UInt8) × Int × Int × (BitVec 128) × Int × Int) := ck ((((lo ((parseR (s3_) (base4_)).1)).toNat : Nat) : Int) ≤ 9223372036854775807) (some (2, [], (((lo ((parseR (s3_) (base4_)).1)).toNat : Nat) : Int), 0, (0#64) ++ (0#64), at', 0))
def shunterref06_Number_k6 (at' : Int) (s3_ : List UInt8) (base4_ : Int) : Option (Int × (List UInt8) × Int × Int × (BitVec 128) × Int × Int) := if ((parseR (s3_) (base4_)).2 : Int) ≠ 0 then some (2, [], 0, 0, (0#64) ++ (0#64), at', 7) else if (((len128 ((parseR (s3_) (base4_)).1) : Nat) : Int) : Int) > 63 then some (2, [], 0, 0, (0#64) ++ (0#64), at', 7) else shunterref06_Number_k7 at' s3_ base4_ 
def shunterref06_Number_k5 (at' : Int) (s3_ : List UInt8) (base4_ : Int) : Option (Int × (List UInt8) × Int × Int × (BitVec 128) × Int × Int) := ck ((s3_).length ≤ 4611686018427387904) (if ((parseR (s3_) (base4_)).2 : Int) = 4 then some (2, [], 0, 0, (0#64) ++ (0#64), at', 4) else if ((parseR (s3_) (base4_)).2 : Int) = 3 then some (2, [], 0, 0, (0#64) ++ (0#64), at', 4) else shunterref06_Number_k6 at' s3_ base4_ )
def shunterref06_Number_l2 (N : Nat) (s : List UInt8) (at' : Int) : Nat → Int → Option (Int × (List UInt8) × Int × Int × (BitVec 128) × Int × Int)
  | 0, _ => none
  | n7 + 1, i1_ => if (i1_ : Int) < ((s).length : Int) then ck ((0 : Int) ≤ i1_ ∧ i1_ < ((s).length : Int)) (if ((byteAt (s) (i1_)) : Int) = 39 then (shunterref02_Parse_m N s).bind fun r16 => some (3, [], 0, r16.1, r16.2.1, at', r16.2.2) else ck ((-9223372036854775808 ≤ (i1_ + 1) ∧ (i1_ + 1) ≤ 9223372036854775807)) ((shunterref06_Number_l2 N s at' n7) ((i1_ + 1)))) else if (((s).length : Int) : Int) ≥ 2 then ck (0 ≤ (2 : Int) ∧ (2 : Int) ≤ ((s).length : Int)) (if ((s).take ((2 : Int)).toNat) = (([48, 120] : List UInt8)) then ck (0 ≤ (2 : Int) ∧ (2 : Int) ≤ ((s).length : Int)) (shunterref06_Number_k5 at' ((s).drop ((2 : Int)).toNat) (16)) else shunterref06_Number_k5 at' (s) (10)) else shunterref06_Number_k5 at' (s) (10)
def shunterref06_Number_m (N : Nat) (s : List UInt8) (at' : Int) : Option (Int × (List UInt8) × Int × Int × (BitVec 128) × Int × Int) := shunterref06_Number_l2 N s at' N (0)
set_option maxRecDepth 100000 in
set_option maxHeartbeats 8000000 in
theorem shunterref06_Number_g (N : Nat) (s : List UInt8) (at' : Int) (r : Int × (List UInt8) × Int × Int × (BitVec 128) × Int × Int) (hM : shunterref06_Number_m N s at' = some r) : Gives Try.prog 19 #[Value.string (⟨(s).toArray⟩), Value.int .i64 (at')] (Value.tuple #[Value.agg #[Value.int .i64 (r.1), Value.string (⟨(r.2.1).toArray⟩), Value.int .i64 (r.2.2.1), Value.int .i64 (r.2.2.2.1), U (hi (r.2.2.2.2.1)), U (lo (r.2.2.2.2.1)), Value.int .i64 (r.2.2.2.2.2.1)], Value.int .i64 (r.2.2.2.2.2.2)]) := by
  unfold shunterref06_Number_m at hM
  refine gives_of_A follows Try.func19 rfl 77 rfl (upd (upd (fun _ => undef) 1 (Value.int .i64 (at'))) 0 (Value.string (⟨(s).toArray⟩))) (by funext k; match k with | 0 => rfl | 1 => rfl | k + 2 => rfl) (fun base0_ => ?_)
  refine A_seq fun K1 hK1 => ?_
  refine A_reg ?_
  refine r_a (42, #[Value.int .i64 (0), Value.string (⟨#[]⟩), Value.int .i64 (0), Value.int .i64 (0), U (0#64), U (0#64), Value.int .i64 (0)]) rfl rfl rfl (fun b2 => ?_) (.inr rfl)
  refine r_v (Value.int .i64 (0)) rfl rfl rfl rfl ?_
  refine lx_nil ?_
  refine hK1 _ _ ?_; try clear hK1 K1
  refine A_seq fun K3 hK3 => ?_
  refine A_reg ?_
  refine r_v (Value.int .i64 (at')) rfl rfl rfl rfl ?_
  refine r_v (Value.agg #[Value.int .i64 (2), Value.string (⟨#[]⟩), Value.int .i64 (0), Value.int .i64 (0), U (0#64), U (0#64), Value.int .i64 (at')]) rfl rfl rfl (ev_buildS rfl rfl rfl rfl) ?_
  refine r_a (42, #[Value.int .i64 (0), Value.string (⟨#[]⟩), Value.int .i64 (0), Value.int .i64 (0), U (0#64), U (0#64), Value.int .i64 (0)]) rfl rfl rfl (fun b4 => ?_) (.inr rfl)
  refine r_s [(b4, 42, #[Value.int .i64 (2), Value.string (⟨#[]⟩), Value.int .i64 (0), Value.int .i64 (0), U (0#64), U (0#64), Value.int .i64 (at')]), (b2, 42, #[Value.int .i64 (0), Value.string (⟨#[]⟩), Value.int .i64 (0), Value.int .i64 (0), U (0#64), U (0#64), Value.int .i64 (0)])] 0 _ _ _ (#[Value.int .i64 (0), Value.string (⟨#[]⟩), Value.int .i64 (0), Value.int .i64 (0), U (0#64), U (0#64), Value.int .i64 (0)]) (#[Value.int .i64 (2), Value.string (⟨#[]⟩), Value.int .i64 (0), Value.int .i64 (0), U (0#64), U (0#64), Value.int .i64 (at')]) (#[Value.int .i64 (2), Value.string (⟨#[]⟩), Value.int .i64 (0), Value.int .i64 (0), U (0#64), U (0#64), Value.int .i64 (at')]) rfl rfl rfl rfl (.of rfl rfl) rfl rfl ?_
  refine lx_nil ?_
  refine hK3 _ _ ?_; try clear hK3 K3
  refine A_seq fun K5 hK5 => ?_
  refine A_seq fun K6 hK6 => ?_
  refine A_reg ?_
  refine r_v (Value.int .i64 (0)) rfl rfl rfl rfl ?_
  refine lx_nil ?_
  refine hK6 _ _ ?_; try clear hK6 K6
  refine A_block ?_
  refine A_loop (fun tt ll nn => ∃ (n7 : Nat) (i1_ : Int), (shunterref06_Number_l2 N s at' n7 i1_ = some r) ∧ Is [(0, Value.string (⟨(s).toArray⟩)), (4, Value.pointer (some ⟨b2, 0, none⟩)), (6, Value.pointer (some ⟨b4, 0, none⟩)), (7, Value.int .i64 (i1_))] [(b4, 42, #[Value.int .i64 (2), Value.string (⟨#[]⟩), Value.int .i64 (0), Value.int .i64 (0), U (0#64), U (0#64), Value.int .i64 (at')]), (b2, 42, #[Value.int .i64 (0), Value.string (⟨#[]⟩), Value.int .i64 (0), Value.int .i64 (0), U (0#64), U (0#64), Value.int .i64 (0)])] tt ll ∧ nn = n7 + 1) (N + 1) ?_ ?_
  · exact ⟨N, 0, hM, is_mk rfl (by first | rfl | simp only [app_hl]), rfl⟩
  · clear hM; rintro t l _ ⟨n7, i1_, hM, ⟨⟨T, rfl⟩, rfl⟩, rfl⟩
    rcases n7 with _ | n7
    · exact absurd hM (by simp [shunterref06_Number_l2])
    rw [shunterref06_Number_l2] at hM
    refine A_seq fun K8 hK8 => ?_
    refine A_seq fun K9 hK9 => ?_
    refine A_reg ?_
    refine r_v (Value.int .i64 (i1_)) rfl rfl rfl rfl ?_
    refine r_v (Value.string (⟨(s).toArray⟩)) rfl rfl rfl rfl ?_
    refine r_v (Value.int .i64 (((s).length : Int))) rfl rfl rfl (ev_lenS rfl rfl rfl) ?_
    refine r_v (Value.bool (decide ((i1_ : Int) < ((s).length : Int)))) rfl rfl rfl rfl ?_
    refine lx_nil ?_
    refine hK9 _ _ ?_; try clear hK9 K9
    refine A_cond (decide ((i1_ : Int) < ((s).length : Int))) rfl (fun hc10 => ?_) (fun hc10 => ?_)
    · replace hM := ifp (of_decide_eq_true hc10) hM
      refine A_skip ?_
      refine hK8 _ _ ?_; try clear hK8 K8
      refine A_seq fun K11 hK11 => ?_
      refine A_block ?_
      refine A_seq fun K12 hK12 => ?_
      refine A_reg ?_
      refine r_v (Value.string (⟨(s).toArray⟩)) rfl rfl rfl rfl ?_
      refine r_v (Value.int .i64 (i1_)) rfl rfl rfl rfl ?_
      replace hM := ck_some hM; obtain ⟨ck13, hM⟩ := hM
      refine r_v (Value.int .u8 ((byteAt (s) (i1_)))) rfl rfl rfl (ev_v (ev_indexS rfl ck13)) ?_
      refine r_v (Value.bool ((((byteAt (s) (i1_)) : Int) == 39))) rfl rfl rfl rfl ?_
      refine lx_nil ?_
      refine hK12 _ _ ?_; try clear hK12 K12
      refine A_cond ((((byteAt (s) (i1_)) : Int) == 39)) rfl (fun hc14 => ?_) (fun hc14 => ?_)
      · replace hM := ifp (eq_of_beq hc14) hM
        refine A_seq fun K15 hK15 => ?_
        refine A_reg ?_
        refine r_v (Value.string (⟨(s).toArray⟩)) rfl rfl rfl rfl ?_
        replace hM := bind_sm hM; obtain ⟨r16, hr17, hM⟩ := hM
        refine r_c (Value.tuple #[Value.agg #[Value.int .i64 (r16.1), U (hi (r16.2.1)), U (lo (r16.2.1))], Value.int .i64 (r16.2.2)]) rfl _ _ (ev_callF rfl call_30 rfl) (shunterref02_Parse_g N s _ hr17) ?_
        refine r_v (Value.tuple #[Value.agg #[Value.int .i64 (r16.1), U (hi (r16.2.1)), U (lo (r16.2.1))], Value.int .i64 (r16.2.2)]) rfl rfl rfl rfl ?_
        refine r_v (Value.agg #[Value.int .i64 (r16.1), U (hi (r16.2.1)), U (lo (r16.2.1))]) rfl rfl rfl rfl ?_
        refine r_v (Value.int .i64 (r16.2.2)) rfl rfl rfl rfl ?_
        refine r_a (38, #[Value.int .i64 (0), U (0#64), U (0#64)]) rfl rfl rfl (fun b18 => ?_) (.inr rfl)
        refine r_s [(b18, 38, #[Value.int .i64 (r16.1), U (hi (r16.2.1)), U (lo (r16.2.1))]), (b4, 42, #[Value.int .i64 (2), Value.string (⟨#[]⟩), Value.int .i64 (0), Value.int .i64 (0), U (0#64), U (0#64), Value.int .i64 (at')]), (b2, 42, #[Value.int .i64 (0), Value.string (⟨#[]⟩), Value.int .i64 (0), Value.int .i64 (0), U (0#64), U (0#64), Value.int .i64 (0)])] 0 _ _ _ (#[Value.int .i64 (0), U (0#64), U (0#64)]) (#[Value.int .i64 (r16.1), U (hi (r16.2.1)), U (lo (r16.2.1))]) (#[Value.int .i64 (r16.1), U (hi (r16.2.1)), U (lo (r16.2.1))]) rfl rfl rfl rfl (.of rfl rfl) rfl rfl ?_
        refine r_v (Value.int .i64 (r16.2.2)) rfl rfl rfl rfl ?_
        refine lx_nil ?_
        refine hK15 _ _ ?_; try clear hK15 K15
        refine A_seq fun K19 hK19 => ?_
        refine A_reg ?_
        refine r_v (Value.pointer (some ⟨b4, 0, none⟩)) rfl rfl rfl rfl ?_
        refine r_s [(b18, 38, #[Value.int .i64 (r16.1), U (hi (r16.2.1)), U (lo (r16.2.1))]), (b4, 42, #[Value.int .i64 (3), Value.string (⟨#[]⟩), Value.int .i64 (0), Value.int .i64 (0), U (0#64), U (0#64), Value.int .i64 (at')]), (b2, 42, #[Value.int .i64 (0), Value.string (⟨#[]⟩), Value.int .i64 (0), Value.int .i64 (0), U (0#64), U (0#64), Value.int .i64 (0)])] 1 _ _ _ (#[Value.int .i64 (2), Value.string (⟨#[]⟩), Value.int .i64 (0), Value.int .i64 (0), U (0#64), U (0#64), Value.int .i64 (at')]) (#[Value.int .i64 (3)]) (#[Value.int .i64 (3), Value.string (⟨#[]⟩), Value.int .i64 (0), Value.int .i64 (0), U (0#64), U (0#64), Value.int .i64 (at')]) rfl rfl rfl rfl (.of rfl rfl) rfl rfl ?_
        refine lx_nil ?_
        refine hK19 _ _ ?_; try clear hK19 K19
        refine A_seq fun K20 hK20 => ?_
        refine A_reg ?_
        refine r_l (Value.agg #[Value.int .i64 (r16.1), U (hi (r16.2.1)), U (lo (r16.2.1))]) 0 _ _ _ _ rfl rfl rfl rfl rfl ?_
        refine r_v (Value.pointer (some ⟨b4, 3, none⟩)) rfl rfl rfl rfl ?_
        refine r_s [(b18, 38, #[Value.int .i64 (r16.1), U (hi (r16.2.1)), U (lo (r16.2.1))]), (b4, 42, #[Value.int .i64 (3), Value.string (⟨#[]⟩), Value.int .i64 (0), Value.int .i64 (r16.1), U (hi (r16.2.1)), U (lo (r16.2.1)), Value.int .i64 (at')]), (b2, 42, #[Value.int .i64 (0), Value.string (⟨#[]⟩), Value.int .i64 (0), Value.int .i64 (0), U (0#64), U (0#64), Value.int .i64 (0)])] 1 _ _ _ (#[Value.int .i64 (3), Value.string (⟨#[]⟩), Value.int .i64 (0), Value.int .i64 (0), U (0#64), U (0#64), Value.int .i64 (at')]) (#[Value.int .i64 (r16.1), U (hi (r16.2.1)), U (lo (r16.2.1))]) (#[Value.int .i64 (3), Value.string (⟨#[]⟩), Value.int .i64 (0), Value.int .i64 (r16.1), U (hi (r16.2.1)), U (lo (r16.2.1)), Value.int .i64 (at')]) rfl rfl rfl rfl (.of rfl rfl) rfl rfl ?_
        refine lx_nil ?_
        refine hK20 _ _ ?_; try clear hK20 K20
        refine A_seq fun K21 hK21 => ?_
        refine A_reg ?_
        refine r_l (Value.agg #[Value.int .i64 (3), Value.string (⟨#[]⟩), Value.int .i64 (0), Value.int .i64 (r16.1), U (hi (r16.2.1)), U (lo (r16.2.1)), Value.int .i64 (at')]) 1 _ _ _ _ rfl rfl rfl rfl rfl ?_
        refine r_v (Value.int .i64 (r16.2.2)) rfl rfl rfl rfl ?_
        refine r_s [(b18, 38, #[Value.int .i64 (r16.1), U (hi (r16.2.1)), U (lo (r16.2.1))]), (b4, 42, #[Value.int .i64 (3), Value.string (⟨#[]⟩), Value.int .i64 (0), Value.int .i64 (r16.1), U (hi (r16.2.1)), U (lo (r16.2.1)), Value.int .i64 (at')]), (b2, 42, #[Value.int .i64 (3), Value.string (⟨#[]⟩), Value.int .i64 (0), Value.int .i64 (r16.1), U (hi (r16.2.1)), U (lo (r16.2.1)), Value.int .i64 (at')])] 2 _ _ _ (#[Value.int .i64 (0), Value.string (⟨#[]⟩), Value.int .i64 (0), Value.int .i64 (0), U (0#64), U (0#64), Value.int .i64 (0)]) (#[Value.int .i64 (3), Value.string (⟨#[]⟩), Value.int .i64 (0), Value.int .i64 (r16.1), U (hi (r16.2.1)), U (lo (r16.2.1)), Value.int .i64 (at')]) (#[Value.int .i64 (3), Value.string (⟨#[]⟩), Value.int .i64 (0), Value.int .i64 (r16.1), U (hi (r16.2.1)), U (lo (r16.2.1)), Value.int .i64 (at')]) rfl rfl rfl rfl (.of rfl rfl) rfl rfl ?_
        refine r_v (Value.int .i64 (r16.2.2)) rfl rfl rfl rfl ?_
        refine lx_nil ?_
        refine hK21 _ _ ?_; try clear hK21 K21
        obtain rfl := Option.some.inj hM
        refine A_ret (fun hn => ends_eq (v0 := Value.tuple #[Value.agg #[Value.int .i64 (3), Value.string (⟨#[]⟩), Value.int .i64 (0), Value.int .i64 (r16.1), U (hi (r16.2.1)), U (lo (r16.2.1)), Value.int .i64 (at')], Value.int .i64 (r16.2.2)]) rfl (res2 (res_cell hn 2 rfl rfl rfl) rfl))
      · replace hM := ifn (ne_of_beq_false hc14) hM
        refine A_skip ?_
        refine hK11 _ _ ?_; try clear hK11 K11
        refine A_reg ?_
        refine r_v (Value.int .i64 (i1_)) rfl rfl rfl rfl ?_
        replace hM := ck_some hM; obtain ⟨ck22, hM⟩ := hM
        refine r_v (Value.int .i64 ((i1_ + 1))) rfl rfl (wi64 rfl ck22.1 ck22.2) rfl ?_
        refine r_v (Value.int .i64 ((i1_ + 1))) rfl rfl rfl rfl ?_
        refine lx_nil ?_
        refine fg _ (Sub.of (List.Sublist.cons_cons _ (List.Sublist.cons_cons _ (List.Sublist.slnil)))) ?_
        exact ⟨n7 + 1, by omega, n7, (i1_ + 1), hM, is_mk rfl (by first | rfl | simp only [app_hl]), rfl⟩
    · replace hM := ifn (of_decide_eq_false hc10) hM
      refine A_exit ?_
      refine hK5 _ _ ?_; try clear hK5 K5
      refine A_seq fun K23 hK23 => ?_
      refine A_reg ?_
      refine r_v (Value.int .i64 (10)) rfl rfl rfl rfl ?_
      refine lx_nil ?_
      refine hK23 _ _ ?_; try clear hK23 K23
      refine A_cut (fun tt ll => ∃ (s3_ : List UInt8) (base4_ : Int), (shunterref06_Number_k5 at' s3_ base4_ = some r) ∧ Is [(0, Value.string (⟨(s3_).toArray⟩)), (4, Value.pointer (some ⟨b2, 0, none⟩)), (6, Value.pointer (some ⟨b4, 0, none⟩)), (10, Value.int .i64 (base4_))] [(b4, 42, #[Value.int .i64 (2), Value.string (⟨#[]⟩), Value.int .i64 (0), Value.int .i64 (0), U (0#64), U (0#64), Value.int .i64 (at')]), (b2, 42, #[Value.int .i64 (0), Value.string (⟨#[]⟩), Value.int .i64 (0), Value.int .i64 (0), U (0#64), U (0#64), Value.int .i64 (0)])] tt ll) ?_ ?_
      · refine A_seq fun K41 hK41 => ?_
        refine A_reg ?_
        refine r_v (Value.string (⟨(s).toArray⟩)) rfl rfl rfl rfl ?_
        refine r_v (Value.int .i64 (((s).length : Int))) rfl rfl rfl (ev_lenS rfl rfl rfl) ?_
        refine r_v (Value.bool (decide ((((s).length : Int) : Int) ≥ 2))) rfl rfl rfl rfl ?_
        refine r_v (Value.bool (decide ((((s).length : Int) : Int) ≥ 2))) rfl rfl rfl rfl ?_
        rcases hg42 : (decide ((((s).length : Int) : Int) ≥ 2)) with _ | _
        · replace hM := ifn (of_decide_eq_false hg42) hM
          refine r_n false rfl (by decide) rfl ?_
          refine r_n false rfl (by decide) rfl ?_
          refine r_n false rfl (by decide) rfl ?_
          refine r_v (Value.bool (false)) rfl rfl rfl rfl ?_
          refine lx_nil ?_
          refine hK41 _ _ ?_; try clear hK41 K41
          refine A_cond false rfl (fun h_ => nomatch h_) (fun _ => ?_)
          refine A_skip ?_
          refine fg _ (Sub.of (List.Sublist.cons_cons _ (List.Sublist.cons_cons _ (List.Sublist.slnil)))) ?_
          exact ⟨s, 10, hM, is_mk (by first | rfl | (simp only [hg42]; done) | (simp only [hg42]; rfl) | (simp only [app_hl]; rfl)) (by first | rfl | simp only [app_hl])⟩
        · replace hM := ifp (of_decide_eq_true hg42) hM
          refine r_y rfl ?_
          refine r_v (Value.string (⟨(s).toArray⟩)) rfl rfl rfl rfl ?_
          refine r_y rfl ?_
          replace hM := ck_some hM; obtain ⟨ck43, hM⟩ := hM
          refine r_v (Value.string (⟨((s).take ((2 : Int)).toNat).toArray⟩)) rfl rfl rfl (ev_v (ev_sliceS2 rfl ck43)) ?_
          refine r_y rfl ?_
          refine r_v (Value.bool (((s).take ((2 : Int)).toNat) == (([48, 120] : List UInt8)))) rfl rfl rfl (ev_eqS rfl rfl) ?_
          refine r_v (Value.bool (((s).take ((2 : Int)).toNat) == (([48, 120] : List UInt8)))) rfl rfl rfl rfl ?_
          refine lx_nil ?_
          refine hK41 _ _ ?_; try clear hK41 K41
          refine A_cond (((s).take ((2 : Int)).toNat) == (([48, 120] : List UInt8))) rfl (fun hc44 => ?_) (fun hc44 => ?_)
          · replace hM := ifp (eq_of_beq hc44) hM
            refine A_seq fun K45 hK45 => ?_
            refine A_reg ?_
            refine r_v (Value.string (⟨(s).toArray⟩)) rfl rfl rfl rfl ?_
            replace hM := ck_some hM; obtain ⟨ck46, hM⟩ := hM
            refine r_v (Value.string (⟨((s).drop ((2 : Int)).toNat).toArray⟩)) rfl rfl rfl (ev_v (ev_sliceS1 rfl ck46)) ?_
            refine r_v (Value.string (⟨((s).drop ((2 : Int)).toNat).toArray⟩)) rfl rfl rfl rfl ?_
            refine lx_nil ?_
            refine hK45 _ _ ?_; try clear hK45 K45
            refine A_reg ?_
            refine r_v (Value.int .i64 (16)) rfl rfl rfl rfl ?_
            refine lx_nil ?_
            refine fg _ (Sub.of (List.Sublist.cons_cons _ (List.Sublist.cons_cons _ (List.Sublist.slnil)))) ?_
            exact ⟨(s).drop ((2 : Int)).toNat, 16, hM, is_mk (by first | rfl | (simp only [hg42]; done) | (simp only [hg42]; rfl) | (simp only [app_hl]; rfl)) (by first | rfl | simp only [app_hl])⟩
          · replace hM := ifn (ne_of_beq_false hc44) hM
            refine A_skip ?_
            refine fg _ (Sub.of (List.Sublist.cons_cons _ (List.Sublist.cons_cons _ (List.Sublist.slnil)))) ?_
            exact ⟨s, 10, hM, is_mk (by first | rfl | (simp only [hg42]; done) | (simp only [hg42]; rfl) | (simp only [app_hl]; rfl)) (by first | rfl | simp only [app_hl])⟩
      · clear hM; rintro t l ⟨s3_, base4_, hM, ⟨T, rfl⟩, rfl⟩
        unfold shunterref06_Number_k5 at hM
        refine A_seq fun K24 hK24 => ?_
        refine A_reg ?_
        refine r_v (Value.string (⟨(s3_).toArray⟩)) rfl rfl rfl rfl ?_
        refine r_v (Value.int .i64 (base4_)) rfl rfl rfl rfl ?_
        replace hM := ck_some hM; obtain ⟨ck25, hM⟩ := hM
        refine r_c (Value.tuple #[Value.agg (rowF (BitVec.getLsbD ((parseR (s3_) (base4_)).1))), Value.int .i64 ((parseR (s3_) (base4_)).2)]) rfl _ _ (ev_callF rfl call_31 rfl) (rparse_t (s3_) (base4_) ck25) ?_
        refine r_v (Value.tuple #[Value.agg (rowF (BitVec.getLsbD ((parseR (s3_) (base4_)).1))), Value.int .i64 ((parseR (s3_) (base4_)).2)]) rfl rfl rfl rfl ?_
        refine r_v (Value.agg (rowF (BitVec.getLsbD ((parseR (s3_) (base4_)).1)))) rfl rfl rfl rfl ?_
        refine r_v (Value.int .i64 ((parseR (s3_) (base4_)).2)) rfl rfl rfl rfl ?_
        refine r_a (69, rowF (BitVec.getLsbD (0#128))) rfl rfl ((zrow z_69).trans (congrArg (fun x => some (69, x)) row_zero)) (fun b26 => ?_) (.inr rfl)
        refine r_s [(b26, 69, rowF (BitVec.getLsbD ((parseR (s3_) (base4_)).1))), (b4, 42, #[Value.int .i64 (2), Value.string (⟨#[]⟩), Value.int .i64 (0), Value.int .i64 (0), U (0#64), U (0#64), Value.int .i64 (at')]), (b2, 42, #[Value.int .i64 (0), Value.string (⟨#[]⟩), Value.int .i64 (0), Value.int .i64 (0), U (0#64), U (0#64), Value.int .i64 (0)])] 0 _ _ _ (rowF (BitVec.getLsbD (0#128))) (rowF (BitVec.getLsbD ((parseR (s3_) (base4_)).1))) (rowF (BitVec.getLsbD ((parseR (s3_) (base4_)).1))) rfl rfl rfl rfl (stok_rows rfl rfl _ _) (splice_rows _ _) rfl ?_
        refine r_v (Value.int .i64 ((parseR (s3_) (base4_)).2)) rfl rfl rfl rfl ?_
        refine lx_nil ?_
        refine hK24 _ _ ?_; try clear hK24 K24
        refine A_cut (fun tt ll => (shunterref06_Number_k6 at' s3_ base4_  = some r) ∧ Is [(4, Value.pointer (some ⟨b2, 0, none⟩)), (6, Value.pointer (some ⟨b4, 0, none⟩)), (11, Value.pointer (some ⟨b26, 0, none⟩)), (12, Value.int .i64 ((parseR (s3_) (base4_)).2))] [(b26, 69, rowF (BitVec.getLsbD ((parseR (s3_) (base4_)).1))), (b4, 42, #[Value.int .i64 (2), Value.string (⟨#[]⟩), Value.int .i64 (0), Value.int .i64 (0), U (0#64), U (0#64), Value.int .i64 (at')]), (b2, 42, #[Value.int .i64 (0), Value.string (⟨#[]⟩), Value.int .i64 (0), Value.int .i64 (0), U (0#64), U (0#64), Value.int .i64 (0)])] tt ll) ?_ ?_
        · refine A_seq fun K36 hK36 => ?_
          refine A_reg ?_
          refine r_v (Value.int .i64 ((parseR (s3_) (base4_)).2)) rfl rfl rfl rfl ?_
          refine r_v (Value.bool ((((parseR (s3_) (base4_)).2 : Int) == 4))) rfl rfl rfl rfl ?_
          refine r_v (Value.bool ((((parseR (s3_) (base4_)).2 : Int) == 4))) rfl rfl rfl rfl ?_
          rcases hg37 : ((((parseR (s3_) (base4_)).2 : Int) == 4)) with _ | _
          · replace hM := ifn (ne_of_beq_false hg37) hM
            refine r_y rfl ?_
            refine r_v (Value.int .i64 ((parseR (s3_) (base4_)).2)) rfl rfl rfl rfl ?_
            refine r_y rfl ?_
            refine r_v (Value.bool ((((parseR (s3_) (base4_)).2 : Int) == 3))) rfl rfl rfl rfl ?_
            refine r_v (Value.bool ((((parseR (s3_) (base4_)).2 : Int) == 3))) rfl rfl rfl rfl ?_
            refine lx_nil ?_
            refine hK36 _ _ ?_; try clear hK36 K36
            refine A_cond ((((parseR (s3_) (base4_)).2 : Int) == 3)) rfl (fun hc38 => ?_) (fun hc38 => ?_)
            · replace hM := ifp (eq_of_beq hc38) hM
              refine A_seq fun K39 hK39 => ?_
              refine A_reg ?_
              refine r_l (Value.agg #[Value.int .i64 (2), Value.string (⟨#[]⟩), Value.int .i64 (0), Value.int .i64 (0), U (0#64), U (0#64), Value.int .i64 (at')]) 1 _ _ _ _ rfl rfl rfl rfl rfl ?_
              refine r_s [(b26, 69, rowF (BitVec.getLsbD ((parseR (s3_) (base4_)).1))), (b4, 42, #[Value.int .i64 (2), Value.string (⟨#[]⟩), Value.int .i64 (0), Value.int .i64 (0), U (0#64), U (0#64), Value.int .i64 (at')]), (b2, 42, #[Value.int .i64 (2), Value.string (⟨#[]⟩), Value.int .i64 (0), Value.int .i64 (0), U (0#64), U (0#64), Value.int .i64 (at')])] 2 _ _ _ (#[Value.int .i64 (0), Value.string (⟨#[]⟩), Value.int .i64 (0), Value.int .i64 (0), U (0#64), U (0#64), Value.int .i64 (0)]) (#[Value.int .i64 (2), Value.string (⟨#[]⟩), Value.int .i64 (0), Value.int .i64 (0), U (0#64), U (0#64), Value.int .i64 (at')]) (#[Value.int .i64 (2), Value.string (⟨#[]⟩), Value.int .i64 (0), Value.int .i64 (0), U (0#64), U (0#64), Value.int .i64 (at')]) rfl rfl rfl rfl (.of rfl rfl) rfl rfl ?_
              refine r_v (Value.int .i64 (4)) rfl rfl rfl rfl ?_
              refine lx_nil ?_
              refine hK39 _ _ ?_; try clear hK39 K39
              obtain rfl := Option.some.inj hM
              refine A_ret (fun hn => ends_eq (v0 := Value.tuple #[Value.agg #[Value.int .i64 (2), Value.string (⟨#[]⟩), Value.int .i64 (0), Value.int .i64 (0), U (0#64), U (0#64), Value.int .i64 (at')], Value.int .i64 (4)]) (by first | rfl | (simp only [app_hl]; done) | simp only [app_hl]) (res2 (res_cell hn 2 rfl rfl rfl) rfl))
            · replace hM := ifn (ne_of_beq_false hc38) hM
              refine A_skip ?_
              refine fg _ (Sub.of (List.Sublist.cons_cons _ (List.Sublist.cons_cons _ (List.Sublist.cons_cons _ (List.Sublist.slnil))))) ?_
              exact ⟨hM, is_mk rfl (by first | rfl | simp only [app_hl])⟩
          · replace hM := ifp (eq_of_beq hg37) hM
            refine r_n true rfl (by decide) rfl ?_
            refine r_n true rfl (by decide) rfl ?_
            refine r_v (Value.bool (true)) rfl rfl rfl rfl ?_
            refine lx_nil ?_
            refine hK36 _ _ ?_; try clear hK36 K36
            refine A_cond true rfl (fun _ => ?_) (fun h_ => nomatch h_)
            refine A_seq fun K40 hK40 => ?_
            refine A_reg ?_
            refine r_l (Value.agg #[Value.int .i64 (2), Value.string (⟨#[]⟩), Value.int .i64 (0), Value.int .i64 (0), U (0#64), U (0#64), Value.int .i64 (at')]) 1 _ _ _ _ rfl rfl rfl rfl rfl ?_
            refine r_s [(b26, 69, rowF (BitVec.getLsbD ((parseR (s3_) (base4_)).1))), (b4, 42, #[Value.int .i64 (2), Value.string (⟨#[]⟩), Value.int .i64 (0), Value.int .i64 (0), U (0#64), U (0#64), Value.int .i64 (at')]), (b2, 42, #[Value.int .i64 (2), Value.string (⟨#[]⟩), Value.int .i64 (0), Value.int .i64 (0), U (0#64), U (0#64), Value.int .i64 (at')])] 2 _ _ _ (#[Value.int .i64 (0), Value.string (⟨#[]⟩), Value.int .i64 (0), Value.int .i64 (0), U (0#64), U (0#64), Value.int .i64 (0)]) (#[Value.int .i64 (2), Value.string (⟨#[]⟩), Value.int .i64 (0), Value.int .i64 (0), U (0#64), U (0#64), Value.int .i64 (at')]) (#[Value.int .i64 (2), Value.string (⟨#[]⟩), Value.int .i64 (0), Value.int .i64 (0), U (0#64), U (0#64), Value.int .i64 (at')]) rfl rfl rfl rfl (.of rfl rfl) rfl rfl ?_
            refine r_v (Value.int .i64 (4)) rfl rfl rfl rfl ?_
            refine lx_nil ?_
            refine hK40 _ _ ?_; try clear hK40 K40
            obtain rfl := Option.some.inj hM
            refine A_ret (fun hn => ends_eq (v0 := Value.tuple #[Value.agg #[Value.int .i64 (2), Value.string (⟨#[]⟩), Value.int .i64 (0), Value.int .i64 (0), U (0#64), U (0#64), Value.int .i64 (at')], Value.int .i64 (4)]) (by first | rfl | (simp only [app_hl]; done) | simp only [app_hl]) (res2 (res_cell hn 2 rfl rfl rfl) rfl))
        · clear hM; rintro t l ⟨hM, ⟨T, rfl⟩, rfl⟩
          unfold shunterref06_Number_k6 at hM
          refine A_cut (fun tt ll => (shunterref06_Number_k7 at' s3_ base4_  = some r) ∧ Is [(4, Value.pointer (some ⟨b2, 0, none⟩)), (6, Value.pointer (some ⟨b4, 0, none⟩)), (11, Value.pointer (some ⟨b26, 0, none⟩))] [(b26, 69, rowF (BitVec.getLsbD ((parseR (s3_) (base4_)).1))), (b4, 42, #[Value.int .i64 (2), Value.string (⟨#[]⟩), Value.int .i64 (0), Value.int .i64 (0), U (0#64), U (0#64), Value.int .i64 (at')]), (b2, 42, #[Value.int .i64 (0), Value.string (⟨#[]⟩), Value.int .i64 (0), Value.int .i64 (0), U (0#64), U (0#64), Value.int .i64 (0)])] tt ll) ?_ ?_
          · refine A_seq fun K31 hK31 => ?_
            refine A_reg ?_
            refine r_v (Value.int .i64 ((parseR (s3_) (base4_)).2)) rfl rfl rfl rfl ?_
            refine r_v (Value.bool ((((parseR (s3_) (base4_)).2 : Int) != 0))) rfl rfl rfl rfl ?_
            refine r_v (Value.bool ((((parseR (s3_) (base4_)).2 : Int) != 0))) rfl rfl rfl rfl ?_
            rcases hg32 : ((((parseR (s3_) (base4_)).2 : Int) != 0)) with _ | _
            · replace hM := ifn (bne_f hg32) hM
              refine r_y rfl ?_
              refine r_l (Value.agg (rowF (BitVec.getLsbD ((parseR (s3_) (base4_)).1)))) 0 _ _ _ _ rfl rfl rfl rfl (ld_rows rfl rfl rfl _) ?_
              refine r_y rfl ?_
              refine r_c (Value.int .i64 (((len128 ((parseR (s3_) (base4_)).1) : Nat) : Int))) rfl _ _ (ev_callF rfl call_32 rfl) (rlen_g ((parseR (s3_) (base4_)).1)) ?_
              refine r_y rfl ?_
              refine r_v (Value.bool (decide ((((len128 ((parseR (s3_) (base4_)).1) : Nat) : Int) : Int) > 63))) rfl rfl rfl rfl ?_
              refine r_v (Value.bool (decide ((((len128 ((parseR (s3_) (base4_)).1) : Nat) : Int) : Int) > 63))) rfl rfl rfl rfl ?_
              refine lx_nil ?_
              refine hK31 _ _ ?_; try clear hK31 K31
              refine A_cond (decide ((((len128 ((parseR (s3_) (base4_)).1) : Nat) : Int) : Int) > 63)) rfl (fun hc33 => ?_) (fun hc33 => ?_)
              · replace hM := ifp (of_decide_eq_true hc33) hM
                refine A_seq fun K34 hK34 => ?_
                refine A_reg ?_
                refine r_l (Value.agg #[Value.int .i64 (2), Value.string (⟨#[]⟩), Value.int .i64 (0), Value.int .i64 (0), U (0#64), U (0#64), Value.int .i64 (at')]) 1 _ _ _ _ rfl rfl rfl rfl rfl ?_
                refine r_s [(b26, 69, rowF (BitVec.getLsbD ((parseR (s3_) (base4_)).1))), (b4, 42, #[Value.int .i64 (2), Value.string (⟨#[]⟩), Value.int .i64 (0), Value.int .i64 (0), U (0#64), U (0#64), Value.int .i64 (at')]), (b2, 42, #[Value.int .i64 (2), Value.string (⟨#[]⟩), Value.int .i64 (0), Value.int .i64 (0), U (0#64), U (0#64), Value.int .i64 (at')])] 2 _ _ _ (#[Value.int .i64 (0), Value.string (⟨#[]⟩), Value.int .i64 (0), Value.int .i64 (0), U (0#64), U (0#64), Value.int .i64 (0)]) (#[Value.int .i64 (2), Value.string (⟨#[]⟩), Value.int .i64 (0), Value.int .i64 (0), U (0#64), U (0#64), Value.int .i64 (at')]) (#[Value.int .i64 (2), Value.string (⟨#[]⟩), Value.int .i64 (0), Value.int .i64 (0), U (0#64), U (0#64), Value.int .i64 (at')]) rfl rfl rfl rfl (.of rfl rfl) rfl rfl ?_
                refine r_v (Value.int .i64 (7)) rfl rfl rfl rfl ?_
                refine lx_nil ?_
                refine hK34 _ _ ?_; try clear hK34 K34
                obtain rfl := Option.some.inj hM
                refine A_ret (fun hn => ends_eq (v0 := Value.tuple #[Value.agg #[Value.int .i64 (2), Value.string (⟨#[]⟩), Value.int .i64 (0), Value.int .i64 (0), U (0#64), U (0#64), Value.int .i64 (at')], Value.int .i64 (7)]) (by first | rfl | (simp only [app_hl]; done) | simp only [app_hl]) (res2 (res_cell hn 2 rfl rfl rfl) rfl))
              · replace hM := ifn (of_decide_eq_false hc33) hM
                refine A_skip ?_
                refine fg _ (Sub.of (List.Sublist.cons_cons _ (List.Sublist.cons_cons _ (List.Sublist.cons_cons _ (List.Sublist.slnil))))) ?_
                exact ⟨hM, is_mk rfl (by first | rfl | simp only [app_hl])⟩
            · replace hM := ifp (bne_iff_ne.1 hg32) hM
              refine r_n true rfl (by decide) rfl ?_
              refine r_n true rfl (by decide) rfl ?_
              refine r_n true rfl (by decide) rfl ?_
              refine r_v (Value.bool (true)) rfl rfl rfl rfl ?_
              refine lx_nil ?_
              refine hK31 _ _ ?_; try clear hK31 K31
              refine A_cond true rfl (fun _ => ?_) (fun h_ => nomatch h_)
              refine A_seq fun K35 hK35 => ?_
              refine A_reg ?_
              refine r_l (Value.agg #[Value.int .i64 (2), Value.string (⟨#[]⟩), Value.int .i64 (0), Value.int .i64 (0), U (0#64), U (0#64), Value.int .i64 (at')]) 1 _ _ _ _ rfl rfl rfl rfl rfl ?_
              refine r_s [(b26, 69, rowF (BitVec.getLsbD ((parseR (s3_) (base4_)).1))), (b4, 42, #[Value.int .i64 (2), Value.string (⟨#[]⟩), Value.int .i64 (0), Value.int .i64 (0), U (0#64), U (0#64), Value.int .i64 (at')]), (b2, 42, #[Value.int .i64 (2), Value.string (⟨#[]⟩), Value.int .i64 (0), Value.int .i64 (0), U (0#64), U (0#64), Value.int .i64 (at')])] 2 _ _ _ (#[Value.int .i64 (0), Value.string (⟨#[]⟩), Value.int .i64 (0), Value.int .i64 (0), U (0#64), U (0#64), Value.int .i64 (0)]) (#[Value.int .i64 (2), Value.string (⟨#[]⟩), Value.int .i64 (0), Value.int .i64 (0), U (0#64), U (0#64), Value.int .i64 (at')]) (#[Value.int .i64 (2), Value.string (⟨#[]⟩), Value.int .i64 (0), Value.int .i64 (0), U (0#64), U (0#64), Value.int .i64 (at')]) rfl rfl rfl rfl (.of rfl rfl) rfl rfl ?_
              refine r_v (Value.int .i64 (7)) rfl rfl rfl rfl ?_
              refine lx_nil ?_
              refine hK35 _ _ ?_; try clear hK35 K35
              obtain rfl := Option.some.inj hM
              refine A_ret (fun hn => ends_eq (v0 := Value.tuple #[Value.agg #[Value.int .i64 (2), Value.string (⟨#[]⟩), Value.int .i64 (0), Value.int .i64 (0), U (0#64), U (0#64), Value.int .i64 (at')], Value.int .i64 (7)]) (by first | rfl | (simp only [app_hl]; done) | simp only [app_hl]) (res2 (res_cell hn 2 rfl rfl rfl) rfl))
          · clear hM; rintro t l ⟨hM, ⟨T, rfl⟩, rfl⟩
            unfold shunterref06_Number_k7 at hM
            refine A_seq fun K27 hK27 => ?_
            refine A_reg ?_
            refine r_l (Value.agg (rowF (BitVec.getLsbD ((parseR (s3_) (base4_)).1)))) 0 _ _ _ _ rfl rfl rfl rfl (ld_rows rfl rfl rfl _) ?_
            refine r_c (Value.tuple #[U (hi ((parseR (s3_) (base4_)).1)), U (lo ((parseR (s3_) (base4_)).1))]) rfl _ _ (ev_callF rfl call_33 rfl) (halves_t ((parseR (s3_) (base4_)).1)) ?_
            refine r_v (Value.tuple #[U (hi ((parseR (s3_) (base4_)).1)), U (lo ((parseR (s3_) (base4_)).1))]) rfl rfl rfl rfl ?_
            refine r_v (U (hi ((parseR (s3_) (base4_)).1))) rfl rfl rfl rfl ?_
            refine r_v (U (lo ((parseR (s3_) (base4_)).1))) rfl rfl rfl rfl ?_
            refine r_v (U (hi ((parseR (s3_) (base4_)).1))) rfl rfl rfl rfl ?_
            refine r_v (U (lo ((parseR (s3_) (base4_)).1))) rfl rfl rfl rfl ?_
            refine lx_nil ?_
            refine hK27 _ _ ?_; try clear hK27 K27
            refine A_seq fun K28 hK28 => ?_
            refine A_reg ?_
            refine r_v (U (lo ((parseR (s3_) (base4_)).1))) rfl rfl rfl rfl ?_
            replace hM := ck_some hM; obtain ⟨ck29, hM⟩ := hM
            refine r_w (Value.int .i64 ((((lo ((parseR (s3_) (base4_)).1)).toNat : Nat) : Int))) rfl rfl (wi64 rfl (by omega) ck29) (fun _ => rfl) ?_
            refine r_v (Value.pointer (some ⟨b4, 2, none⟩)) rfl rfl rfl rfl ?_
            refine r_s [(b26, 69, rowF (BitVec.getLsbD ((parseR (s3_) (base4_)).1))), (b4, 42, #[Value.int .i64 (2), Value.string (⟨#[]⟩), Value.int .i64 ((((lo ((parseR (s3_) (base4_)).1)).toNat : Nat) : Int)), Value.int .i64 (0), U (0#64), U (0#64), Value.int .i64 (at')]), (b2, 42, #[Value.int .i64 (0), Value.string (⟨#[]⟩), Value.int .i64 (0), Value.int .i64 (0), U (0#64), U (0#64), Value.int .i64 (0)])] 1 _ _ _ (#[Value.int .i64 (2), Value.string (⟨#[]⟩), Value.int .i64 (0), Value.int .i64 (0), U (0#64), U (0#64), Value.int .i64 (at')]) (#[Value.int .i64 ((((lo ((parseR (s3_) (base4_)).1)).toNat : Nat) : Int))]) (#[Value.int .i64 (2), Value.string (⟨#[]⟩), Value.int .i64 ((((lo ((parseR (s3_) (base4_)).1)).toNat : Nat) : Int)), Value.int .i64 (0), U (0#64), U (0#64), Value.int .i64 (at')]) rfl rfl rfl rfl (.of rfl rfl) rfl rfl ?_
            refine lx_nil ?_
            refine hK28 _ _ ?_; try clear hK28 K28
            refine A_seq fun K30 hK30 => ?_
            refine A_reg ?_
            refine r_l (Value.agg #[Value.int .i64 (2), Value.string (⟨#[]⟩), Value.int .i64 ((((lo ((parseR (s3_) (base4_)).1)).toNat : Nat) : Int)), Value.int .i64 (0), U (0#64), U (0#64), Value.int .i64 (at')]) 1 _ _ _ _ rfl rfl rfl rfl rfl ?_
            refine r_s [(b26, 69, rowF (BitVec.getLsbD ((parseR (s3_) (base4_)).1))), (b4, 42, #[Value.int .i64 (2), Value.string (⟨#[]⟩), Value.int .i64 ((((lo ((parseR (s3_) (base4_)).1)).toNat : Nat) : Int)), Value.int .i64 (0), U (0#64), U (0#64), Value.int .i64 (at')]), (b2, 42, #[Value.int .i64 (2), Value.string (⟨#[]⟩), Value.int .i64 ((((lo ((parseR (s3_) (base4_)).1)).toNat : Nat) : Int)), Value.int .i64 (0), U (0#64), U (0#64), Value.int .i64 (at')])] 2 _ _ _ (#[Value.int .i64 (0), Value.string (⟨#[]⟩), Value.int .i64 (0), Value.int .i64 (0), U (0#64), U (0#64), Value.int .i64 (0)]) (#[Value.int .i64 (2), Value.string (⟨#[]⟩), Value.int .i64 ((((lo ((parseR (s3_) (base4_)).1)).toNat : Nat) : Int)), Value.int .i64 (0), U (0#64), U (0#64), Value.int .i64 (at')]) (#[Value.int .i64 (2), Value.string (⟨#[]⟩), Value.int .i64 ((((lo ((parseR (s3_) (base4_)).1)).toNat : Nat) : Int)), Value.int .i64 (0), U (0#64), U (0#64), Value.int .i64 (at')]) rfl rfl rfl rfl (.of rfl rfl) rfl rfl ?_
            refine r_v (Value.int .i64 (0)) rfl rfl rfl rfl ?_
            refine lx_nil ?_
            refine hK30 _ _ ?_; try clear hK30 K30
            obtain rfl := Option.some.inj hM
            refine A_ret (fun hn => ends_eq (v0 := Value.tuple #[Value.agg #[Value.int .i64 (2), Value.string (⟨#[]⟩), Value.int .i64 ((((lo ((parseR (s3_) (base4_)).1)).toNat : Nat) : Int)), Value.int .i64 (0), U (0#64), U (0#64), Value.int .i64 (at')], Value.int .i64 (0)]) (by first | rfl | (simp only [app_hl]; done) | simp only [app_hl]) (res2 (res_cell hn 2 rfl rfl rfl) rfl))
def shunterref06_Scan_k8 (N : Nat) (s : List UInt8) (l1_ : List (Int × List UInt8 × Int × Int × BitVec 128 × Int)) (at2_ : Int) (rec_shunterref06_Scan_l3 : List (Int × List UInt8 × Int × Int × BitVec 128 × Int) → Int → Option ((List (Int × List UInt8 × Int × Int × BitVec 128 × Int)) × Int × Int)) (r37 : Bool) (end7_ : Int) : Option ((List (Int × List UInt8 × Int × Int × BitVec 128 × Int)) × Int × Int) := if (r37) = true then ck (0 ≤ at2_ ∧ at2_ ≤ end7_ ∧ end7_ ≤ ((s).length : Int)) ((shunterref05_May_m N (((s).take (end7_).toNat).drop (at2_).toNat)).bind fun r46 => if (r46) = true then ck (0 ≤ at2_ ∧ at2_ ≤ end7_ ∧ end7_ ≤ ((s).length : Int)) (ck ((l1_).length + ([(1, ((s).take (end7_).toNat).drop (at2_).toNat, 0, 0, (0#64) ++ (0#64), at2_)]).length ≤ 2199023255552) ((shunterref06_Skip_m N s end7_).bind fun r58 => rec_shunterref06_Scan_l3 ((l1_ ++ ([(1, ((s).take (end7_).toNat).drop (at2_).toNat, 0, 0, (0#64) ++ (0#64), at2_)]))) (r58))) else some ([], at2_, 2)) else ck (0 ≤ at2_ ∧ at2_ ≤ end7_ ∧ end7_ ≤ ((s).length : Int)) ((shunterref06_Number_m N (((s).take (end7_).toNat).drop (at2_).toNat) at2_).bind fun r62 => if (r62.2.2.2.2.2.2 : Int) ≠ 0 then some ([], at2_, r62.2.2.2.2.2.2) else ck ((l1_).length + ([(r62.1, r62.2.1, r62.2.2.1, r62.2.2.2.1, r62.2.2.2.2.1, r62.2.2.2.2.2.1)]).length ≤ 2199023255552) ((shunterref06_Skip_m N s end7_).bind fun r76 => rec_shunterref06_Scan_l3 ((l1_ ++ ([(r62.1, r62.2.1, r62.2.2.1, r62.2.2.2.1, r62.2.2.2.2.1, r62.2.2.2.2.2.1)]))) (r76)))
def shunterref06_Scan_l10 (N : Nat) (s : List UInt8) (l1_ : List (Int × List UInt8 × Int × Int × BitVec 128 × Int)) (at2_ : Int) (rec_shunterref06_Scan_l3 : List (Int × List UInt8 × Int × Int × BitVec 128 × Int) → Int → Option ((List (Int × List UInt8 × Int × Int × BitVec 128 × Int)) × Int × Int)) (r37 : Bool) : Nat → Int → Option ((List (Int × List UInt8 × Int × Int × BitVec 128 × Int)) × Int × Int)
  | 0, _ => none
  | n78 + 1, end9_ => if (end9_ : Int) < ((s).length : Int) then ck (0 ≤ end9_ ∧ end9_ ≤ ((s).length : Int)) ((shunterref05_First_m N ((s).drop (end9_).toNat)).bind fun r84 => (shunterref05_Letter_m N r84.1).bind fun r88 => if (r88) = true then ck ((-9223372036854775808 ≤ (end9_ + r84.2) ∧ (end9_ + r84.2) ≤ 9223372036854775807)) ((shunterref06_Scan_l10 N s l1_ at2_ rec_shunterref06_Scan_l3 r37 n78) ((end9_ + r84.2))) else (shunterref06_digit_m N r84.1).bind fun r92 => if (r92) = true then ck ((-9223372036854775808 ≤ (end9_ + r84.2) ∧ (end9_ + r84.2) ≤ 9223372036854775807)) ((shunterref06_Scan_l10 N s l1_ at2_ rec_shunterref06_Scan_l3 r37 n78) ((end9_ + r84.2))) else if (r37) = true then if (r84.1 : Int) = 45 then ck ((-9223372036854775808 ≤ (end9_ + r84.2) ∧ (end9_ + r84.2) ≤ 9223372036854775807)) ((shunterref06_Scan_l10 N s l1_ at2_ rec_shunterref06_Scan_l3 r37 n78) ((end9_ + r84.2))) else if (r84.1 : Int) = 46 then ck ((-9223372036854775808 ≤ (end9_ + r84.2) ∧ (end9_ + r84.2) ≤ 9223372036854775807)) ((shunterref06_Scan_l10 N s l1_ at2_ rec_shunterref06_Scan_l3 r37 n78) ((end9_ + r84.2))) else shunterref06_Scan_k8 N s l1_ at2_ rec_shunterref06_Scan_l3 r37 (end9_) else if (r84.1 : Int) = 39 then ck ((-9223372036854775808 ≤ (end9_ + r84.2) ∧ (end9_ + r84.2) ≤ 9223372036854775807)) ((shunterref06_Scan_l10 N s l1_ at2_ rec_shunterref06_Scan_l3 r37 n78) ((end9_ + r84.2))) else shunterref06_Scan_k8 N s l1_ at2_ rec_shunterref06_Scan_l3 r37 (end9_)) else shunterref06_Scan_k8 N s l1_ at2_ rec_shunterref06_Scan_l3 r37 (end9_)
def shunterref06_Scan_k6 (N : Nat) (s : List UInt8) (l1_ : List (Int × List UInt8 × Int × Int × BitVec 128 × Int)) (at2_ : Int) (rec_shunterref06_Scan_l3 : List (Int × List UInt8 × Int × Int × BitVec 128 × Int) → Int → Option ((List (Int × List UInt8 × Int × Int × BitVec 128 × Int)) × Int × Int)) (r37 : Bool) : Option ((List (Int × List UInt8 × Int × Int × BitVec 128 × Int)) × Int × Int) := shunterref06_Scan_l10 N s l1_ at2_ rec_shunterref06_Scan_l3 r37 N (at2_)
def shunterref06_Scan_k5 (N : Nat) (s : List UInt8) (l1_ : List (Int × List UInt8 × Int × Int × BitVec 128 × Int)) (at2_ : Int) (rec_shunterref06_Scan_l3 : List (Int × List UInt8 × Int × Int × BitVec 128 × Int) → Int → Option ((List (Int × List UInt8 × Int × Int × BitVec 128 × Int)) × Int × Int)) (r17 : Int × Int) (mark4_ : Bool) : Option ((List (Int × List UInt8 × Int × Int × BitVec 128 × Int)) × Int × Int) := if (mark4_) = true then ck ((-9223372036854775808 ≤ (at2_ + 1) ∧ (at2_ + 1) ≤ 9223372036854775807)) (ck (0 ≤ at2_ ∧ at2_ ≤ (at2_ + 1) ∧ (at2_ + 1) ≤ ((s).length : Int)) (ck ((l1_).length + ([(0, ((s).take ((at2_ + 1)).toNat).drop (at2_).toNat, 0, 0, (0#64) ++ (0#64), at2_)]).length ≤ 2199023255552) (ck ((-9223372036854775808 ≤ (at2_ + 1) ∧ (at2_ + 1) ≤ 9223372036854775807)) ((shunterref06_Skip_m N s (at2_ + 1)).bind fun r34 => rec_shunterref06_Scan_l3 ((l1_ ++ ([(0, ((s).take ((at2_ + 1)).toNat).drop (at2_).toNat, 0, 0, (0#64) ++ (0#64), at2_)]))) (r34))))) else (shunterref05_Letter_m N r17.1).bind fun r37 => if (r37) = true then shunterref06_Scan_k6 N s l1_ at2_ rec_shunterref06_Scan_l3 r37  else (shunterref06_digit_m N r17.1).bind fun r105 => if (r105) = true then shunterref06_Scan_k6 N s l1_ at2_ rec_shunterref06_Scan_l3 r37  else some ([], at2_, 4)
def shunterref06_Scan_l3 (N : Nat) (s : List UInt8) : Nat → List (Int × List UInt8 × Int × Int × BitVec 128 × Int) → Int → Option ((List (Int × List UInt8 × Int × Int × BitVec 128 × Int)) × Int × Int)
  | 0, _, _ => none
  | n11 + 1, l1_, at2_ => if (at2_ : Int) < ((s).length : Int) then ck (0 ≤ at2_ ∧ at2_ ≤ ((s).length : Int)) ((shunterref05_First_m N ((s).drop (at2_).toNat)).bind fun r17 => if (r17.1 : Int) = 123 then shunterref06_Scan_k5 N s l1_ at2_ (shunterref06_Scan_l3 N s n11) r17 (true) else if (r17.1 : Int) = 125 then shunterref06_Scan_k5 N s l1_ at2_ (shunterref06_Scan_l3 N s n11) r17 (true) else if (r17.1 : Int) = 40 then shunterref06_Scan_k5 N s l1_ at2_ (shunterref06_Scan_l3 N s n11) r17 (true) else if (r17.1 : Int) = 41 then shunterref06_Scan_k5 N s l1_ at2_ (shunterref06_Scan_l3 N s n11) r17 (true) else if (r17.1 : Int) = 91 then shunterref06_Scan_k5 N s l1_ at2_ (shunterref06_Scan_l3 N s n11) r17 (true) else if (r17.1 : Int) = 93 then shunterref06_Scan_k5 N s l1_ at2_ (shunterref06_Scan_l3 N s n11) r17 (true) else if (r17.1 : Int) = 59 then shunterref06_Scan_k5 N s l1_ at2_ (shunterref06_Scan_l3 N s n11) r17 (true) else if (r17.1 : Int) = 58 then shunterref06_Scan_k5 N s l1_ at2_ (shunterref06_Scan_l3 N s n11) r17 (true) else if (r17.1 : Int) = 44 then shunterref06_Scan_k5 N s l1_ at2_ (shunterref06_Scan_l3 N s n11) r17 (true) else if (r17.1 : Int) = 61 then shunterref06_Scan_k5 N s l1_ at2_ (shunterref06_Scan_l3 N s n11) r17 (true) else if (r17.1 : Int) = 47 then shunterref06_Scan_k5 N s l1_ at2_ (shunterref06_Scan_l3 N s n11) r17 (true) else shunterref06_Scan_k5 N s l1_ at2_ (shunterref06_Scan_l3 N s n11) r17 (((r17.1 : Int) == 38))) else some (l1_, 0, 0)
def shunterref06_Scan_m (N : Nat) (s : List UInt8) : Option ((List (Int × List UInt8 × Int × Int × BitVec 128 × Int)) × Int × Int) := if (((s).length : Int) : Int) > 16384 then some ([], 0, 2) else (shunterref06_Skip_m N s 0).bind fun r8 => shunterref06_Scan_l3 N s N ([]) (r8)
set_option maxRecDepth 100000 in
set_option maxHeartbeats 8000000 in
theorem shunterref06_Scan_g (N : Nat) (s : List UInt8) (r : (List (Int × List UInt8 × Int × Int × BitVec 128 × Int)) × Int × Int) (hM : shunterref06_Scan_m N s = some r) (ro : Addr → Option Value)  : Does Try.prog 7 #[Value.string (⟨(s).toArray⟩)] ro [] (p1 (fun s_ => Value.tuple #[s_, Value.int .i64 (r.2.1), Value.int .i64 (r.2.2)]) 42 enc_42 r.1) := by
  unfold shunterref06_Scan_m at hM
  refine does_of_A follows Try.func7 rfl 183 rfl (upd (fun _ => undef) 0 (Value.string (⟨(s).toArray⟩))) (by funext k; match k with | 0 => rfl | k + 1 => rfl) (fun base0_ => ?_)
  refine A_seq fun K1 hK1 => ?_
  refine A_reg ?_
  refine r_v (Value.slice none 0 0) rfl rfl rfl rfl ?_
  refine r_v (Value.int .i64 (0)) rfl rfl rfl rfl ?_
  refine r_v (Value.int .i64 (0)) rfl rfl rfl rfl ?_
  refine lx_nil ?_
  refine hK1 _ _ ?_; try clear hK1 K1
  refine A_seq fun K2 hK2 => ?_
  refine A_seq fun K3 hK3 => ?_
  refine A_reg ?_
  refine r_v (Value.string (⟨(s).toArray⟩)) rfl rfl rfl rfl ?_
  refine r_v (Value.int .i64 (((s).length : Int))) rfl rfl rfl (ev_lenS rfl rfl rfl) ?_
  refine r_v (Value.bool (decide ((((s).length : Int) : Int) > 16384))) rfl rfl rfl rfl ?_
  refine lx_nil ?_
  refine hK3 _ _ ?_; try clear hK3 K3
  refine A_cond (decide ((((s).length : Int) : Int) > 16384)) rfl (fun hc4 => ?_) (fun hc4 => ?_)
  · replace hM := ifp (of_decide_eq_true hc4) hM
    refine A_seq fun K5 hK5 => ?_
    refine A_reg ?_
    refine r_v (Value.slice none 0 0) rfl rfl rfl rfl ?_
    refine r_v (Value.int .i64 (0)) rfl rfl rfl rfl ?_
    refine r_v (Value.int .i64 (2)) rfl rfl rfl rfl ?_
    refine lx_nil ?_
    refine hK5 _ _ ?_; try clear hK5 K5
    obtain rfl := Option.some.inj hM
    refine A_ret (fun hn => ends1 (v0 := Value.tuple #[Value.slice none 0 0, Value.int .i64 (0), Value.int .i64 (2)]) Sl.nil (Sub.nil _) rfl (res3 rfl rfl rfl))
  · replace hM := ifn (of_decide_eq_false hc4) hM
    refine A_skip ?_
    refine hK2 _ _ ?_; try clear hK2 K2
    refine A_seq fun K6 hK6 => ?_
    refine A_reg ?_
    refine r_v (Value.slice none 0 0) rfl rfl rfl rfl ?_
    refine lx_nil ?_
    refine hK6 _ _ ?_; try clear hK6 K6
    refine A_seq fun K7 hK7 => ?_
    refine A_reg ?_
    refine r_v (Value.string (⟨(s).toArray⟩)) rfl rfl rfl rfl ?_
    replace hM := bind_sm hM; obtain ⟨r8, hr9, hM⟩ := hM
    refine r_c (Value.int .i64 (r8)) rfl _ _ (ev_callF rfl call_14 rfl) (shunterref06_Skip_g N s 0 _ hr9) ?_
    refine r_v (Value.int .i64 (r8)) rfl rfl rfl rfl ?_
    refine lx_nil ?_
    refine hK7 _ _ ?_; try clear hK7 K7
    refine A_seq fun K10 hK10 => ?_
    refine A_block ?_
    refine A_forget _ (Sub.pickE (Ls := [[]]) (Ls0 := []) rfl [0] rfl) ?_
    refine A_loop (fun tt ll nn => ∃ (n11 : Nat) (l1_ : List (Int × List UInt8 × Int × Int × BitVec 128 × Int)) (at2_ : Int), (shunterref06_Scan_l3 N s n11 l1_ at2_ = some r) ∧ ∃ (vl1_ : Value) (Sl1_ : List Bl), Sl 42 enc_42 vl1_ l1_ Sl1_ ∧ Is [(0, Value.string (⟨(s).toArray⟩)), (5, vl1_), (6, Value.int .i64 (at2_))] (List.flatten [Sl1_]) tt ll ∧ nn = n11 + 1) (N + 1) ?_ ?_
    · exact ⟨N, [], r8, hM, Value.slice none 0 0, [], Sl.nil, is_mk rfl rfl, rfl⟩
    · clear hM; rintro t l _ ⟨n11, l1_, at2_, hM, vl1_, Sl1_, hl1_, ⟨⟨T, rfl⟩, rfl⟩, rfl⟩
      rcases n11 with _ | n11
      · exact absurd hM (by simp [shunterref06_Scan_l3])
      rw [shunterref06_Scan_l3] at hM
      refine A_seq fun K12 hK12 => ?_
      refine A_seq fun K13 hK13 => ?_
      refine A_reg ?_
      refine r_v (Value.int .i64 (at2_)) rfl rfl rfl rfl ?_
      refine r_v (Value.string (⟨(s).toArray⟩)) rfl rfl rfl rfl ?_
      refine r_v (Value.int .i64 (((s).length : Int))) rfl rfl rfl (ev_lenS rfl rfl rfl) ?_
      refine r_v (Value.bool (decide ((at2_ : Int) < ((s).length : Int)))) rfl rfl rfl rfl ?_
      refine lx_nil ?_
      refine hK13 _ _ ?_; try clear hK13 K13
      refine A_cond (decide ((at2_ : Int) < ((s).length : Int))) rfl (fun hc14 => ?_) (fun hc14 => ?_)
      · replace hM := ifp (of_decide_eq_true hc14) hM
        refine A_skip ?_
        refine hK12 _ _ ?_; try clear hK12 K12
        refine A_block ?_
        refine A_seq fun K15 hK15 => ?_
        refine A_reg ?_
        refine r_v (Value.string (⟨(s).toArray⟩)) rfl rfl rfl rfl ?_
        refine r_v (Value.int .i64 (at2_)) rfl rfl rfl rfl ?_
        replace hM := ck_some hM; obtain ⟨ck16, hM⟩ := hM
        refine r_v (Value.string (⟨((s).drop (at2_).toNat).toArray⟩)) rfl rfl rfl (ev_v (ev_sliceS1 rfl ck16)) ?_
        replace hM := bind_sm hM; obtain ⟨r17, hr18, hM⟩ := hM
        refine r_c (Value.tuple #[Value.int .i64 (r17.1), Value.int .i64 (r17.2)]) rfl _ _ (ev_callF rfl call_15 rfl) (shunterref05_First_g N ((s).drop (at2_).toNat) _ hr18) ?_
        refine r_v (Value.tuple #[Value.int .i64 (r17.1), Value.int .i64 (r17.2)]) rfl rfl rfl rfl ?_
        refine r_v (Value.int .i64 (r17.1)) rfl rfl rfl rfl ?_
        refine r_v (Value.int .i64 (r17.2)) rfl rfl rfl rfl ?_
        refine r_v (Value.int .i64 (r17.1)) rfl rfl rfl rfl ?_
        refine r_v (Value.int .i64 (r17.2)) rfl rfl rfl rfl ?_
        refine lx_nil ?_
        refine hK15 _ _ ?_; try clear hK15 K15
        refine A_cut (fun tt ll => ∃ (mark4_ : Bool), (shunterref06_Scan_k5 N s l1_ at2_ (shunterref06_Scan_l3 N s n11) r17 mark4_ = some r) ∧ Is [(0, Value.string (⟨(s).toArray⟩)), (5, vl1_), (6, Value.int .i64 (at2_)), (7, Value.int .i64 (r17.1)), (9, Value.bool (mark4_))] (List.flatten [Sl1_]) tt ll) ?_ ?_
        · refine A_reg ?_
          refine r_v (Value.int .i64 (r17.1)) rfl rfl rfl rfl ?_
          refine r_v (Value.bool (((r17.1 : Int) == 123))) rfl rfl rfl rfl ?_
          refine r_v (Value.bool (((r17.1 : Int) == 123))) rfl rfl rfl rfl ?_
          rcases hg109 : (((r17.1 : Int) == 123)) with _ | _
          · replace hM := ifn (ne_of_beq_false hg109) hM
            refine r_y rfl ?_
            refine r_v (Value.int .i64 (r17.1)) rfl rfl rfl rfl ?_
            refine r_y rfl ?_
            refine r_v (Value.bool (((r17.1 : Int) == 125))) rfl rfl rfl rfl ?_
            refine r_v (Value.bool (((r17.1 : Int) == 125))) rfl rfl rfl rfl ?_
            refine r_v (Value.bool (((r17.1 : Int) == 125))) rfl rfl rfl rfl ?_
            rcases hg110 : (((r17.1 : Int) == 125)) with _ | _
            · replace hM := ifn (ne_of_beq_false hg110) hM
              refine r_y rfl ?_
              refine r_v (Value.int .i64 (r17.1)) rfl rfl rfl rfl ?_
              refine r_y rfl ?_
              refine r_v (Value.bool (((r17.1 : Int) == 40))) rfl rfl rfl rfl ?_
              refine r_v (Value.bool (((r17.1 : Int) == 40))) rfl rfl rfl rfl ?_
              refine r_v (Value.bool (((r17.1 : Int) == 40))) rfl rfl rfl rfl ?_
              rcases hg111 : (((r17.1 : Int) == 40)) with _ | _
              · replace hM := ifn (ne_of_beq_false hg111) hM
                refine r_y rfl ?_
                refine r_v (Value.int .i64 (r17.1)) rfl rfl rfl rfl ?_
                refine r_y rfl ?_
                refine r_v (Value.bool (((r17.1 : Int) == 41))) rfl rfl rfl rfl ?_
                refine r_v (Value.bool (((r17.1 : Int) == 41))) rfl rfl rfl rfl ?_
                refine r_v (Value.bool (((r17.1 : Int) == 41))) rfl rfl rfl rfl ?_
                rcases hg112 : (((r17.1 : Int) == 41)) with _ | _
                · replace hM := ifn (ne_of_beq_false hg112) hM
                  refine r_y rfl ?_
                  refine r_v (Value.int .i64 (r17.1)) rfl rfl rfl rfl ?_
                  refine r_y rfl ?_
                  refine r_v (Value.bool (((r17.1 : Int) == 91))) rfl rfl rfl rfl ?_
                  refine r_v (Value.bool (((r17.1 : Int) == 91))) rfl rfl rfl rfl ?_
                  refine r_v (Value.bool (((r17.1 : Int) == 91))) rfl rfl rfl rfl ?_
                  rcases hg113 : (((r17.1 : Int) == 91)) with _ | _
                  · replace hM := ifn (ne_of_beq_false hg113) hM
                    refine r_y rfl ?_
                    refine r_v (Value.int .i64 (r17.1)) rfl rfl rfl rfl ?_
                    refine r_y rfl ?_
                    refine r_v (Value.bool (((r17.1 : Int) == 93))) rfl rfl rfl rfl ?_
                    refine r_v (Value.bool (((r17.1 : Int) == 93))) rfl rfl rfl rfl ?_
                    refine r_v (Value.bool (((r17.1 : Int) == 93))) rfl rfl rfl rfl ?_
                    rcases hg114 : (((r17.1 : Int) == 93)) with _ | _
                    · replace hM := ifn (ne_of_beq_false hg114) hM
                      refine r_y rfl ?_
                      refine r_v (Value.int .i64 (r17.1)) rfl rfl rfl rfl ?_
                      refine r_y rfl ?_
                      refine r_v (Value.bool (((r17.1 : Int) == 59))) rfl rfl rfl rfl ?_
                      refine r_v (Value.bool (((r17.1 : Int) == 59))) rfl rfl rfl rfl ?_
                      refine r_v (Value.bool (((r17.1 : Int) == 59))) rfl rfl rfl rfl ?_
                      rcases hg115 : (((r17.1 : Int) == 59)) with _ | _
                      · replace hM := ifn (ne_of_beq_false hg115) hM
                        refine r_y rfl ?_
                        refine r_v (Value.int .i64 (r17.1)) rfl rfl rfl rfl ?_
                        refine r_y rfl ?_
                        refine r_v (Value.bool (((r17.1 : Int) == 58))) rfl rfl rfl rfl ?_
                        refine r_v (Value.bool (((r17.1 : Int) == 58))) rfl rfl rfl rfl ?_
                        refine r_v (Value.bool (((r17.1 : Int) == 58))) rfl rfl rfl rfl ?_
                        rcases hg116 : (((r17.1 : Int) == 58)) with _ | _
                        · replace hM := ifn (ne_of_beq_false hg116) hM
                          refine r_y rfl ?_
                          refine r_v (Value.int .i64 (r17.1)) rfl rfl rfl rfl ?_
                          refine r_y rfl ?_
                          refine r_v (Value.bool (((r17.1 : Int) == 44))) rfl rfl rfl rfl ?_
                          refine r_v (Value.bool (((r17.1 : Int) == 44))) rfl rfl rfl rfl ?_
                          refine r_v (Value.bool (((r17.1 : Int) == 44))) rfl rfl rfl rfl ?_
                          rcases hg117 : (((r17.1 : Int) == 44)) with _ | _
                          · replace hM := ifn (ne_of_beq_false hg117) hM
                            refine r_y rfl ?_
                            refine r_v (Value.int .i64 (r17.1)) rfl rfl rfl rfl ?_
                            refine r_y rfl ?_
                            refine r_v (Value.bool (((r17.1 : Int) == 61))) rfl rfl rfl rfl ?_
                            refine r_v (Value.bool (((r17.1 : Int) == 61))) rfl rfl rfl rfl ?_
                            refine r_v (Value.bool (((r17.1 : Int) == 61))) rfl rfl rfl rfl ?_
                            rcases hg118 : (((r17.1 : Int) == 61)) with _ | _
                            · replace hM := ifn (ne_of_beq_false hg118) hM
                              refine r_y rfl ?_
                              refine r_v (Value.int .i64 (r17.1)) rfl rfl rfl rfl ?_
                              refine r_y rfl ?_
                              refine r_v (Value.bool (((r17.1 : Int) == 47))) rfl rfl rfl rfl ?_
                              refine r_v (Value.bool (((r17.1 : Int) == 47))) rfl rfl rfl rfl ?_
                              refine r_v (Value.bool (((r17.1 : Int) == 47))) rfl rfl rfl rfl ?_
                              rcases hg119 : (((r17.1 : Int) == 47)) with _ | _
                              · replace hM := ifn (ne_of_beq_false hg119) hM
                                refine r_y rfl ?_
                                refine r_v (Value.int .i64 (r17.1)) rfl rfl rfl rfl ?_
                                refine r_y rfl ?_
                                refine r_v (Value.bool (((r17.1 : Int) == 38))) rfl rfl rfl rfl ?_
                                refine r_v (Value.bool (((r17.1 : Int) == 38))) rfl rfl rfl rfl ?_
                                refine r_v (Value.bool (((r17.1 : Int) == 38))) rfl rfl rfl rfl ?_
                                refine lx_nil ?_
                                refine fg _ (Sub.pick [Sl1_] [0] rfl) ?_
                                exact ⟨((r17.1 : Int) == 38), hM, is_mk (by first | rfl | (simp only [hg109, hg110, hg111, hg112, hg113, hg114, hg115, hg116, hg117, hg118, hg119]; done) | (simp only [hg109, hg110, hg111, hg112, hg113, hg114, hg115, hg116, hg117, hg118, hg119]; rfl) | (simp only [app_hl]; rfl)) rfl⟩
                              · replace hM := ifp (eq_of_beq hg119) hM
                                refine r_n true rfl (by decide) rfl ?_
                                refine r_n true rfl (by decide) rfl ?_
                                refine r_v (Value.bool (true)) rfl rfl rfl rfl ?_
                                refine r_v (Value.bool (true)) rfl rfl rfl rfl ?_
                                refine lx_nil ?_
                                refine fg _ (Sub.pick [Sl1_] [0] rfl) ?_
                                exact ⟨true, hM, is_mk (by first | rfl | (simp only [hg109, hg110, hg111, hg112, hg113, hg114, hg115, hg116, hg117, hg118, hg119]; done) | (simp only [hg109, hg110, hg111, hg112, hg113, hg114, hg115, hg116, hg117, hg118, hg119]; rfl) | (simp only [app_hl]; rfl)) rfl⟩
                            · replace hM := ifp (eq_of_beq hg118) hM
                              refine r_n true rfl (by decide) rfl ?_
                              refine r_n true rfl (by decide) rfl ?_
                              refine r_v (Value.bool (true)) rfl rfl rfl rfl ?_
                              refine r_v (Value.bool (true)) rfl rfl rfl rfl ?_
                              refine r_n true rfl (by decide) rfl ?_
                              refine r_n true rfl (by decide) rfl ?_
                              refine r_v (Value.bool (true)) rfl rfl rfl rfl ?_
                              refine r_v (Value.bool (true)) rfl rfl rfl rfl ?_
                              refine lx_nil ?_
                              refine fg _ (Sub.pick [Sl1_] [0] rfl) ?_
                              exact ⟨true, hM, is_mk (by first | rfl | (simp only [hg109, hg110, hg111, hg112, hg113, hg114, hg115, hg116, hg117, hg118]; done) | (simp only [hg109, hg110, hg111, hg112, hg113, hg114, hg115, hg116, hg117, hg118]; rfl) | (simp only [app_hl]; rfl)) rfl⟩
                          · replace hM := ifp (eq_of_beq hg117) hM
                            refine r_n true rfl (by decide) rfl ?_
                            refine r_n true rfl (by decide) rfl ?_
                            refine r_v (Value.bool (true)) rfl rfl rfl rfl ?_
                            refine r_v (Value.bool (true)) rfl rfl rfl rfl ?_
                            refine r_n true rfl (by decide) rfl ?_
                            refine r_n true rfl (by decide) rfl ?_
                            refine r_v (Value.bool (true)) rfl rfl rfl rfl ?_
                            refine r_v (Value.bool (true)) rfl rfl rfl rfl ?_
                            refine r_n true rfl (by decide) rfl ?_
                            refine r_n true rfl (by decide) rfl ?_
                            refine r_v (Value.bool (true)) rfl rfl rfl rfl ?_
                            refine r_v (Value.bool (true)) rfl rfl rfl rfl ?_
                            refine lx_nil ?_
                            refine fg _ (Sub.pick [Sl1_] [0] rfl) ?_
                            exact ⟨true, hM, is_mk (by first | rfl | (simp only [hg109, hg110, hg111, hg112, hg113, hg114, hg115, hg116, hg117]; done) | (simp only [hg109, hg110, hg111, hg112, hg113, hg114, hg115, hg116, hg117]; rfl) | (simp only [app_hl]; rfl)) rfl⟩
                        · replace hM := ifp (eq_of_beq hg116) hM
                          refine r_n true rfl (by decide) rfl ?_
                          refine r_n true rfl (by decide) rfl ?_
                          refine r_v (Value.bool (true)) rfl rfl rfl rfl ?_
                          refine r_v (Value.bool (true)) rfl rfl rfl rfl ?_
                          refine r_n true rfl (by decide) rfl ?_
                          refine r_n true rfl (by decide) rfl ?_
                          refine r_v (Value.bool (true)) rfl rfl rfl rfl ?_
                          refine r_v (Value.bool (true)) rfl rfl rfl rfl ?_
                          refine r_n true rfl (by decide) rfl ?_
                          refine r_n true rfl (by decide) rfl ?_
                          refine r_v (Value.bool (true)) rfl rfl rfl rfl ?_
                          refine r_v (Value.bool (true)) rfl rfl rfl rfl ?_
                          refine r_n true rfl (by decide) rfl ?_
                          refine r_n true rfl (by decide) rfl ?_
                          refine r_v (Value.bool (true)) rfl rfl rfl rfl ?_
                          refine r_v (Value.bool (true)) rfl rfl rfl rfl ?_
                          refine lx_nil ?_
                          refine fg _ (Sub.pick [Sl1_] [0] rfl) ?_
                          exact ⟨true, hM, is_mk (by first | rfl | (simp only [hg109, hg110, hg111, hg112, hg113, hg114, hg115, hg116]; done) | (simp only [hg109, hg110, hg111, hg112, hg113, hg114, hg115, hg116]; rfl) | (simp only [app_hl]; rfl)) rfl⟩
                      · replace hM := ifp (eq_of_beq hg115) hM
                        refine r_n true rfl (by decide) rfl ?_
                        refine r_n true rfl (by decide) rfl ?_
                        refine r_v (Value.bool (true)) rfl rfl rfl rfl ?_
                        refine r_v (Value.bool (true)) rfl rfl rfl rfl ?_
                        refine r_n true rfl (by decide) rfl ?_
                        refine r_n true rfl (by decide) rfl ?_
                        refine r_v (Value.bool (true)) rfl rfl rfl rfl ?_
                        refine r_v (Value.bool (true)) rfl rfl rfl rfl ?_
                        refine r_n true rfl (by decide) rfl ?_
                        refine r_n true rfl (by decide) rfl ?_
                        refine r_v (Value.bool (true)) rfl rfl rfl rfl ?_
                        refine r_v (Value.bool (true)) rfl rfl rfl rfl ?_
                        refine r_n true rfl (by decide) rfl ?_
                        refine r_n true rfl (by decide) rfl ?_
                        refine r_v (Value.bool (true)) rfl rfl rfl rfl ?_
                        refine r_v (Value.bool (true)) rfl rfl rfl rfl ?_
                        refine r_n true rfl (by decide) rfl ?_
                        refine r_n true rfl (by decide) rfl ?_
                        refine r_v (Value.bool (true)) rfl rfl rfl rfl ?_
                        refine r_v (Value.bool (true)) rfl rfl rfl rfl ?_
                        refine lx_nil ?_
                        refine fg _ (Sub.pick [Sl1_] [0] rfl) ?_
                        exact ⟨true, hM, is_mk (by first | rfl | (simp only [hg109, hg110, hg111, hg112, hg113, hg114, hg115]; done) | (simp only [hg109, hg110, hg111, hg112, hg113, hg114, hg115]; rfl) | (simp only [app_hl]; rfl)) rfl⟩
                    · replace hM := ifp (eq_of_beq hg114) hM
                      refine r_n true rfl (by decide) rfl ?_
                      refine r_n true rfl (by decide) rfl ?_
                      refine r_v (Value.bool (true)) rfl rfl rfl rfl ?_
                      refine r_v (Value.bool (true)) rfl rfl rfl rfl ?_
                      refine r_n true rfl (by decide) rfl ?_
                      refine r_n true rfl (by decide) rfl ?_
                      refine r_v (Value.bool (true)) rfl rfl rfl rfl ?_
                      refine r_v (Value.bool (true)) rfl rfl rfl rfl ?_
                      refine r_n true rfl (by decide) rfl ?_
                      refine r_n true rfl (by decide) rfl ?_
                      refine r_v (Value.bool (true)) rfl rfl rfl rfl ?_
                      refine r_v (Value.bool (true)) rfl rfl rfl rfl ?_
                      refine r_n true rfl (by decide) rfl ?_
                      refine r_n true rfl (by decide) rfl ?_
                      refine r_v (Value.bool (true)) rfl rfl rfl rfl ?_
                      refine r_v (Value.bool (true)) rfl rfl rfl rfl ?_
                      refine r_n true rfl (by decide) rfl ?_
                      refine r_n true rfl (by decide) rfl ?_
                      refine r_v (Value.bool (true)) rfl rfl rfl rfl ?_
                      refine r_v (Value.bool (true)) rfl rfl rfl rfl ?_
                      refine r_n true rfl (by decide) rfl ?_
                      refine r_n true rfl (by decide) rfl ?_
                      refine r_v (Value.bool (true)) rfl rfl rfl rfl ?_
                      refine r_v (Value.bool (true)) rfl rfl rfl rfl ?_
                      refine lx_nil ?_
                      refine fg _ (Sub.pick [Sl1_] [0] rfl) ?_
                      exact ⟨true, hM, is_mk (by first | rfl | (simp only [hg109, hg110, hg111, hg112, hg113, hg114]; done) | (simp only [hg109, hg110, hg111, hg112, hg113, hg114]; rfl) | (simp only [app_hl]; rfl)) rfl⟩
                  · replace hM := ifp (eq_of_beq hg113) hM
                    refine r_n true rfl (by decide) rfl ?_
                    refine r_n true rfl (by decide) rfl ?_
                    refine r_v (Value.bool (true)) rfl rfl rfl rfl ?_
                    refine r_v (Value.bool (true)) rfl rfl rfl rfl ?_
                    refine r_n true rfl (by decide) rfl ?_
                    refine r_n true rfl (by decide) rfl ?_
                    refine r_v (Value.bool (true)) rfl rfl rfl rfl ?_
                    refine r_v (Value.bool (true)) rfl rfl rfl rfl ?_
                    refine r_n true rfl (by decide) rfl ?_
                    refine r_n true rfl (by decide) rfl ?_
                    refine r_v (Value.bool (true)) rfl rfl rfl rfl ?_
                    refine r_v (Value.bool (true)) rfl rfl rfl rfl ?_
                    refine r_n true rfl (by decide) rfl ?_
                    refine r_n true rfl (by decide) rfl ?_
                    refine r_v (Value.bool (true)) rfl rfl rfl rfl ?_
                    refine r_v (Value.bool (true)) rfl rfl rfl rfl ?_
                    refine r_n true rfl (by decide) rfl ?_
                    refine r_n true rfl (by decide) rfl ?_
                    refine r_v (Value.bool (true)) rfl rfl rfl rfl ?_
                    refine r_v (Value.bool (true)) rfl rfl rfl rfl ?_
                    refine r_n true rfl (by decide) rfl ?_
                    refine r_n true rfl (by decide) rfl ?_
                    refine r_v (Value.bool (true)) rfl rfl rfl rfl ?_
                    refine r_v (Value.bool (true)) rfl rfl rfl rfl ?_
                    refine r_n true rfl (by decide) rfl ?_
                    refine r_n true rfl (by decide) rfl ?_
                    refine r_v (Value.bool (true)) rfl rfl rfl rfl ?_
                    refine r_v (Value.bool (true)) rfl rfl rfl rfl ?_
                    refine lx_nil ?_
                    refine fg _ (Sub.pick [Sl1_] [0] rfl) ?_
                    exact ⟨true, hM, is_mk (by first | rfl | (simp only [hg109, hg110, hg111, hg112, hg113]; done) | (simp only [hg109, hg110, hg111, hg112, hg113]; rfl) | (simp only [app_hl]; rfl)) rfl⟩
                · replace hM := ifp (eq_of_beq hg112) hM
                  refine r_n true rfl (by decide) rfl ?_
                  refine r_n true rfl (by decide) rfl ?_
                  refine r_v (Value.bool (true)) rfl rfl rfl rfl ?_
                  refine r_v (Value.bool (true)) rfl rfl rfl rfl ?_
                  refine r_n true rfl (by decide) rfl ?_
                  refine r_n true rfl (by decide) rfl ?_
                  refine r_v (Value.bool (true)) rfl rfl rfl rfl ?_
                  refine r_v (Value.bool (true)) rfl rfl rfl rfl ?_
                  refine r_n true rfl (by decide) rfl ?_
                  refine r_n true rfl (by decide) rfl ?_
                  refine r_v (Value.bool (true)) rfl rfl rfl rfl ?_
                  refine r_v (Value.bool (true)) rfl rfl rfl rfl ?_
                  refine r_n true rfl (by decide) rfl ?_
                  refine r_n true rfl (by decide) rfl ?_
                  refine r_v (Value.bool (true)) rfl rfl rfl rfl ?_
                  refine r_v (Value.bool (true)) rfl rfl rfl rfl ?_
                  refine r_n true rfl (by decide) rfl ?_
                  refine r_n true rfl (by decide) rfl ?_
                  refine r_v (Value.bool (true)) rfl rfl rfl rfl ?_
                  refine r_v (Value.bool (true)) rfl rfl rfl rfl ?_
                  refine r_n true rfl (by decide) rfl ?_
                  refine r_n true rfl (by decide) rfl ?_
                  refine r_v (Value.bool (true)) rfl rfl rfl rfl ?_
                  refine r_v (Value.bool (true)) rfl rfl rfl rfl ?_
                  refine r_n true rfl (by decide) rfl ?_
                  refine r_n true rfl (by decide) rfl ?_
                  refine r_v (Value.bool (true)) rfl rfl rfl rfl ?_
                  refine r_v (Value.bool (true)) rfl rfl rfl rfl ?_
                  refine r_n true rfl (by decide) rfl ?_
                  refine r_n true rfl (by decide) rfl ?_
                  refine r_v (Value.bool (true)) rfl rfl rfl rfl ?_
                  refine r_v (Value.bool (true)) rfl rfl rfl rfl ?_
                  refine lx_nil ?_
                  refine fg _ (Sub.pick [Sl1_] [0] rfl) ?_
                  exact ⟨true, hM, is_mk (by first | rfl | (simp only [hg109, hg110, hg111, hg112]; done) | (simp only [hg109, hg110, hg111, hg112]; rfl) | (simp only [app_hl]; rfl)) rfl⟩
              · replace hM := ifp (eq_of_beq hg111) hM
                refine r_n true rfl (by decide) rfl ?_
                refine r_n true rfl (by decide) rfl ?_
                refine r_v (Value.bool (true)) rfl rfl rfl rfl ?_
                refine r_v (Value.bool (true)) rfl rfl rfl rfl ?_
                refine r_n true rfl (by decide) rfl ?_
                refine r_n true rfl (by decide) rfl ?_
                refine r_v (Value.bool (true)) rfl rfl rfl rfl ?_
                refine r_v (Value.bool (true)) rfl rfl rfl rfl ?_
                refine r_n true rfl (by decide) rfl ?_
                refine r_n true rfl (by decide) rfl ?_
                refine r_v (Value.bool (true)) rfl rfl rfl rfl ?_
                refine r_v (Value.bool (true)) rfl rfl rfl rfl ?_
                refine r_n true rfl (by decide) rfl ?_
                refine r_n true rfl (by decide) rfl ?_
                refine r_v (Value.bool (true)) rfl rfl rfl rfl ?_
                refine r_v (Value.bool (true)) rfl rfl rfl rfl ?_
                refine r_n true rfl (by decide) rfl ?_
                refine r_n true rfl (by decide) rfl ?_
                refine r_v (Value.bool (true)) rfl rfl rfl rfl ?_
                refine r_v (Value.bool (true)) rfl rfl rfl rfl ?_
                refine r_n true rfl (by decide) rfl ?_
                refine r_n true rfl (by decide) rfl ?_
                refine r_v (Value.bool (true)) rfl rfl rfl rfl ?_
                refine r_v (Value.bool (true)) rfl rfl rfl rfl ?_
                refine r_n true rfl (by decide) rfl ?_
                refine r_n true rfl (by decide) rfl ?_
                refine r_v (Value.bool (true)) rfl rfl rfl rfl ?_
                refine r_v (Value.bool (true)) rfl rfl rfl rfl ?_
                refine r_n true rfl (by decide) rfl ?_
                refine r_n true rfl (by decide) rfl ?_
                refine r_v (Value.bool (true)) rfl rfl rfl rfl ?_
                refine r_v (Value.bool (true)) rfl rfl rfl rfl ?_
                refine r_n true rfl (by decide) rfl ?_
                refine r_n true rfl (by decide) rfl ?_
                refine r_v (Value.bool (true)) rfl rfl rfl rfl ?_
                refine r_v (Value.bool (true)) rfl rfl rfl rfl ?_
                refine lx_nil ?_
                refine fg _ (Sub.pick [Sl1_] [0] rfl) ?_
                exact ⟨true, hM, is_mk (by first | rfl | (simp only [hg109, hg110, hg111]; done) | (simp only [hg109, hg110, hg111]; rfl) | (simp only [app_hl]; rfl)) rfl⟩
            · replace hM := ifp (eq_of_beq hg110) hM
              refine r_n true rfl (by decide) rfl ?_
              refine r_n true rfl (by decide) rfl ?_
              refine r_v (Value.bool (true)) rfl rfl rfl rfl ?_
              refine r_v (Value.bool (true)) rfl rfl rfl rfl ?_
              refine r_n true rfl (by decide) rfl ?_
              refine r_n true rfl (by decide) rfl ?_
              refine r_v (Value.bool (true)) rfl rfl rfl rfl ?_
              refine r_v (Value.bool (true)) rfl rfl rfl rfl ?_
              refine r_n true rfl (by decide) rfl ?_
              refine r_n true rfl (by decide) rfl ?_
              refine r_v (Value.bool (true)) rfl rfl rfl rfl ?_
              refine r_v (Value.bool (true)) rfl rfl rfl rfl ?_
              refine r_n true rfl (by decide) rfl ?_
              refine r_n true rfl (by decide) rfl ?_
              refine r_v (Value.bool (true)) rfl rfl rfl rfl ?_
              refine r_v (Value.bool (true)) rfl rfl rfl rfl ?_
              refine r_n true rfl (by decide) rfl ?_
              refine r_n true rfl (by decide) rfl ?_
              refine r_v (Value.bool (true)) rfl rfl rfl rfl ?_
              refine r_v (Value.bool (true)) rfl rfl rfl rfl ?_
              refine r_n true rfl (by decide) rfl ?_
              refine r_n true rfl (by decide) rfl ?_
              refine r_v (Value.bool (true)) rfl rfl rfl rfl ?_
              refine r_v (Value.bool (true)) rfl rfl rfl rfl ?_
              refine r_n true rfl (by decide) rfl ?_
              refine r_n true rfl (by decide) rfl ?_
              refine r_v (Value.bool (true)) rfl rfl rfl rfl ?_
              refine r_v (Value.bool (true)) rfl rfl rfl rfl ?_
              refine r_n true rfl (by decide) rfl ?_
              refine r_n true rfl (by decide) rfl ?_
              refine r_v (Value.bool (true)) rfl rfl rfl rfl ?_
              refine r_v (Value.bool (true)) rfl rfl rfl rfl ?_
              refine r_n true rfl (by decide) rfl ?_
              refine r_n true rfl (by decide) rfl ?_
              refine r_v (Value.bool (true)) rfl rfl rfl rfl ?_
              refine r_v (Value.bool (true)) rfl rfl rfl rfl ?_
              refine r_n true rfl (by decide) rfl ?_
              refine r_n true rfl (by decide) rfl ?_
              refine r_v (Value.bool (true)) rfl rfl rfl rfl ?_
              refine r_v (Value.bool (true)) rfl rfl rfl rfl ?_
              refine lx_nil ?_
              refine fg _ (Sub.pick [Sl1_] [0] rfl) ?_
              exact ⟨true, hM, is_mk (by first | rfl | (simp only [hg109, hg110]; done) | (simp only [hg109, hg110]; rfl) | (simp only [app_hl]; rfl)) rfl⟩
          · replace hM := ifp (eq_of_beq hg109) hM
            refine r_n true rfl (by decide) rfl ?_
            refine r_n true rfl (by decide) rfl ?_
            refine r_v (Value.bool (true)) rfl rfl rfl rfl ?_
            refine r_v (Value.bool (true)) rfl rfl rfl rfl ?_
            refine r_n true rfl (by decide) rfl ?_
            refine r_n true rfl (by decide) rfl ?_
            refine r_v (Value.bool (true)) rfl rfl rfl rfl ?_
            refine r_v (Value.bool (true)) rfl rfl rfl rfl ?_
            refine r_n true rfl (by decide) rfl ?_
            refine r_n true rfl (by decide) rfl ?_
            refine r_v (Value.bool (true)) rfl rfl rfl rfl ?_
            refine r_v (Value.bool (true)) rfl rfl rfl rfl ?_
            refine r_n true rfl (by decide) rfl ?_
            refine r_n true rfl (by decide) rfl ?_
            refine r_v (Value.bool (true)) rfl rfl rfl rfl ?_
            refine r_v (Value.bool (true)) rfl rfl rfl rfl ?_
            refine r_n true rfl (by decide) rfl ?_
            refine r_n true rfl (by decide) rfl ?_
            refine r_v (Value.bool (true)) rfl rfl rfl rfl ?_
            refine r_v (Value.bool (true)) rfl rfl rfl rfl ?_
            refine r_n true rfl (by decide) rfl ?_
            refine r_n true rfl (by decide) rfl ?_
            refine r_v (Value.bool (true)) rfl rfl rfl rfl ?_
            refine r_v (Value.bool (true)) rfl rfl rfl rfl ?_
            refine r_n true rfl (by decide) rfl ?_
            refine r_n true rfl (by decide) rfl ?_
            refine r_v (Value.bool (true)) rfl rfl rfl rfl ?_
            refine r_v (Value.bool (true)) rfl rfl rfl rfl ?_
            refine r_n true rfl (by decide) rfl ?_
            refine r_n true rfl (by decide) rfl ?_
            refine r_v (Value.bool (true)) rfl rfl rfl rfl ?_
            refine r_v (Value.bool (true)) rfl rfl rfl rfl ?_
            refine r_n true rfl (by decide) rfl ?_
            refine r_n true rfl (by decide) rfl ?_
            refine r_v (Value.bool (true)) rfl rfl rfl rfl ?_
            refine r_v (Value.bool (true)) rfl rfl rfl rfl ?_
            refine r_n true rfl (by decide) rfl ?_
            refine r_n true rfl (by decide) rfl ?_
            refine r_v (Value.bool (true)) rfl rfl rfl rfl ?_
            refine r_v (Value.bool (true)) rfl rfl rfl rfl ?_
            refine r_n true rfl (by decide) rfl ?_
            refine r_n true rfl (by decide) rfl ?_
            refine r_v (Value.bool (true)) rfl rfl rfl rfl ?_
            refine r_v (Value.bool (true)) rfl rfl rfl rfl ?_
            refine lx_nil ?_
            refine fg _ (Sub.pick [Sl1_] [0] rfl) ?_
            exact ⟨true, hM, is_mk (by first | rfl | (simp only [hg109]; done) | (simp only [hg109]; rfl) | (simp only [app_hl]; rfl)) rfl⟩
        · clear hM; rintro t l ⟨mark4_, hM, ⟨T, rfl⟩, rfl⟩
          unfold shunterref06_Scan_k5 at hM
          refine A_seq fun K19 hK19 => ?_
          refine A_seq fun K20 hK20 => ?_
          refine A_reg ?_
          refine r_v (Value.bool (mark4_)) rfl rfl rfl rfl ?_
          refine lx_nil ?_
          refine hK20 _ _ ?_; try clear hK20 K20
          refine A_cond (mark4_) rfl (fun hc21 => ?_) (fun hc21 => ?_)
          · replace hM := ifp hc21 hM
            refine A_seq fun K22 hK22 => ?_
            refine A_regC [(some 85, false), (some 86, true)] (conG Try.prog []) ?_
            refine r_v (vl1_) rfl rfl rfl rfl ?_
            refine r_v (Value.string (⟨(s).toArray⟩)) rfl rfl rfl rfl ?_
            refine r_v (Value.int .i64 (at2_)) rfl rfl rfl rfl ?_
            refine r_v (Value.int .i64 (at2_)) rfl rfl rfl rfl ?_
            replace hM := ck_some hM; obtain ⟨ck23, hM⟩ := hM
            refine r_v (Value.int .i64 ((at2_ + 1))) rfl rfl (wi64 rfl ck23.1 ck23.2) rfl ?_
            replace hM := ck_some hM; obtain ⟨ck24, hM⟩ := hM
            refine r_v (Value.string (⟨(((s).take ((at2_ + 1)).toNat).drop (at2_).toNat).toArray⟩)) rfl rfl rfl (ev_v (ev_sliceS rfl ck24)) ?_
            refine r_v (Value.int .i64 (at2_)) rfl rfl rfl rfl ?_
            refine r_v (Value.agg #[Value.int .i64 (0), Value.string (⟨(((s).take ((at2_ + 1)).toNat).drop (at2_).toNat).toArray⟩), Value.int .i64 (0), Value.int .i64 (0), U (0#64), U (0#64), Value.int .i64 (at2_)]) rfl rfl rfl (ev_buildS rfl rfl rfl rfl) ?_
            refine r_bs (cs0 := []) (Ls := [Sl1_]) 42 enc_42 [(0, ((s).take ((at2_ + 1)).toNat).drop (at2_).toNat, 0, 0, (0#64) ++ (0#64), at2_)] [Value.int .i64 (0), Value.string (⟨(((s).take ((at2_ + 1)).toNat).drop (at2_).toNat).toArray⟩), Value.int .i64 (0), Value.int .i64 (0), U (0#64), U (0#64), Value.int .i64 (at2_)] [Value.int .i64 (0), Value.string (⟨#[]⟩), Value.int .i64 (0), Value.int .i64 (0), U (0#64), U (0#64), Value.int .i64 (0)] rfl rfl rfl rfl rfl rfl rfl (by kernel_rfl) (by kernel_rfl) (show [Value.int .i64 (0), Value.string (⟨(((s).take ((at2_ + 1)).toNat).drop (at2_).toNat).toArray⟩), Value.int .i64 (0), Value.int .i64 (0), U (0#64), U (0#64), Value.int .i64 (at2_)] = [Value.int .i64 (0), Value.string (⟨(((s).take ((at2_ + 1)).toNat).drop (at2_).toNat).toArray⟩), Value.int .i64 (0), Value.int .i64 (0), U (hi ((0#64) ++ (0#64))), U (lo ((0#64) ++ (0#64))), Value.int .i64 (at2_)] by simp only [app_hl]) rfl rfl (fun s25 S26 H27 => ?_)
            replace hM := ck_some hM; obtain ⟨ck28, hM⟩ := hM
            refine r_app (cs0 := []) (Ls := [Sl1_, S26]) 0 (En := enc_42) rfl rfl rfl rfl rfl hl1_ rfl (rd_own H27 (mem_chunk (Ls := [Sl1_, S26]) (k := 1) rfl rfl)) rfl rfl rfl rfl rfl (app_b ck28 rfl) (app_m ck28 rfl) rfl (fun s29 S30 H31 => ?_)
            refine r_v (s29) rfl rfl rfl rfl ?_
            refine lx_nil ?_
            refine hK22 _ _ ?_; try clear hK22 K22
            refine A_seq fun K32 hK32 => ?_
            refine A_reg ?_
            refine r_v (Value.string (⟨(s).toArray⟩)) rfl rfl rfl rfl ?_
            refine r_v (Value.int .i64 (at2_)) rfl rfl rfl rfl ?_
            replace hM := ck_some hM; obtain ⟨ck33, hM⟩ := hM
            refine r_v (Value.int .i64 ((at2_ + 1))) rfl rfl (wi64 rfl ck33.1 ck33.2) rfl ?_
            replace hM := bind_sm hM; obtain ⟨r34, hr35, hM⟩ := hM
            refine r_c (Value.int .i64 (r34)) rfl _ _ (ev_callF rfl call_14 rfl) (shunterref06_Skip_g N s (at2_ + 1) _ hr35) ?_
            refine r_v (Value.int .i64 (r34)) rfl rfl rfl rfl ?_
            refine lx_nil ?_
            refine hK32 _ _ ?_; try clear hK32 K32
            refine A_exit ?_
            refine fg _ (Sub.pick [S30, S26] [0] rfl) ?_
            exact ⟨n11 + 1, by omega, n11, (l1_ ++ ([(0, ((s).take ((at2_ + 1)).toNat).drop (at2_).toNat, 0, 0, (0#64) ++ (0#64), at2_)])), r34, hM, s29, S30, H31, is_mk rfl rfl, rfl⟩
          · replace hM := ifn (Bool.eq_false_iff.1 hc21) hM
            refine A_skip ?_
            refine hK19 _ _ ?_; try clear hK19 K19
            refine A_seq fun K36 hK36 => ?_
            refine A_reg ?_
            refine r_v (Value.int .i64 (r17.1)) rfl rfl rfl rfl ?_
            replace hM := bind_sm hM; obtain ⟨r37, hr38, hM⟩ := hM
            refine r_c (Value.bool (r37)) rfl _ _ (ev_callF rfl call_16 rfl) (shunterref05_Letter_g N r17.1 _ hr38) ?_
            refine r_v (Value.bool (r37)) rfl rfl rfl rfl ?_
            refine lx_nil ?_
            refine hK36 _ _ ?_; try clear hK36 K36
            refine A_cut (fun tt ll => (shunterref06_Scan_k6 N s l1_ at2_ (shunterref06_Scan_l3 N s n11) r37  = some r) ∧ Is [(0, Value.string (⟨(s).toArray⟩)), (5, vl1_), (6, Value.int .i64 (at2_)), (10, Value.bool (r37))] (List.flatten [Sl1_]) tt ll) ?_ ?_
            · refine A_seq fun K103 hK103 => ?_
              refine A_reg ?_
              refine r_v (Value.bool (r37)) rfl rfl rfl rfl ?_
              refine r_v (Value.bool (!(r37))) rfl rfl rfl rfl ?_
              refine r_v (Value.bool (!(r37))) rfl rfl rfl rfl ?_
              rcases hg104 : (!(r37)) with _ | _
              · replace hM := ifp (not_f hg104) hM
                refine r_n false rfl (by decide) rfl ?_
                refine r_n false rfl (by decide) rfl ?_
                refine r_n false rfl (by decide) rfl ?_
                refine r_v (Value.bool (false)) rfl rfl rfl rfl ?_
                refine lx_nil ?_
                refine hK103 _ _ ?_; try clear hK103 K103
                refine A_cond false rfl (fun h_ => nomatch h_) (fun _ => ?_)
                refine A_skip ?_
                refine fg _ (Sub.pick [Sl1_] [0] rfl) ?_
                exact ⟨hM, is_mk rfl rfl⟩
              · replace hM := ifn (Bool.eq_false_iff.1 (not_t hg104)) hM
                refine r_y rfl ?_
                refine r_v (Value.int .i64 (r17.1)) rfl rfl rfl rfl ?_
                refine r_y rfl ?_
                replace hM := bind_sm hM; obtain ⟨r105, hr106, hM⟩ := hM
                refine r_c (Value.bool (r105)) rfl _ _ (ev_callF rfl call_17 rfl) (shunterref06_digit_g N r17.1 _ hr106) ?_
                refine r_y rfl ?_
                refine r_v (Value.bool (!(r105))) rfl rfl rfl rfl ?_
                refine r_v (Value.bool (!(r105))) rfl rfl rfl rfl ?_
                refine lx_nil ?_
                refine hK103 _ _ ?_; try clear hK103 K103
                refine A_cond (!(r105)) rfl (fun hc107 => ?_) (fun hc107 => ?_)
                · replace hM := ifn (Bool.eq_false_iff.1 (not_t hc107)) hM
                  refine A_seq fun K108 hK108 => ?_
                  refine A_reg ?_
                  refine r_v (Value.int .i64 (at2_)) rfl rfl rfl rfl ?_
                  refine r_v (Value.slice none 0 0) rfl rfl rfl rfl ?_
                  refine r_v (Value.int .i64 (at2_)) rfl rfl rfl rfl ?_
                  refine r_v (Value.int .i64 (4)) rfl rfl rfl rfl ?_
                  refine lx_nil ?_
                  refine hK108 _ _ ?_; try clear hK108 K108
                  obtain rfl := Option.some.inj hM
                  refine A_ret (fun hn => ends1 (v0 := Value.tuple #[Value.slice none 0 0, Value.int .i64 (at2_), Value.int .i64 (4)]) Sl.nil (Sub.nil _) rfl (res3 rfl rfl rfl))
                · replace hM := ifp (not_f hc107) hM
                  refine A_skip ?_
                  refine fg _ (Sub.pick [Sl1_] [0] rfl) ?_
                  exact ⟨hM, is_mk rfl rfl⟩
            · clear hM; rintro t l ⟨hM, ⟨T, rfl⟩, rfl⟩
              unfold shunterref06_Scan_k6 at hM
              refine A_seq fun K39 hK39 => ?_
              refine A_reg ?_
              refine r_v (Value.int .i64 (at2_)) rfl rfl rfl rfl ?_
              refine r_v (Value.int .i64 (at2_)) rfl rfl rfl rfl ?_
              refine lx_nil ?_
              refine hK39 _ _ ?_; try clear hK39 K39
              refine A_cut (fun tt ll => ∃ (end7_ : Int), (shunterref06_Scan_k8 N s l1_ at2_ (shunterref06_Scan_l3 N s n11) r37 end7_ = some r) ∧ Is [(0, Value.string (⟨(s).toArray⟩)), (5, vl1_), (6, Value.int .i64 (at2_)), (10, Value.bool (r37)), (11, Value.int .i64 (end7_))] (List.flatten [Sl1_]) tt ll) ?_ ?_
              · refine A_block ?_
                refine A_forget _ (Sub.pick [Sl1_] [0] rfl) ?_
                refine A_loop (fun tt ll nn => ∃ (n78 : Nat) (end9_ : Int), (shunterref06_Scan_l10 N s l1_ at2_ (shunterref06_Scan_l3 N s n11) r37 n78 end9_ = some r) ∧ Is [(0, Value.string (⟨(s).toArray⟩)), (5, vl1_), (6, Value.int .i64 (at2_)), (10, Value.bool (r37)), (11, Value.int .i64 (end9_))] (List.flatten [Sl1_]) tt ll ∧ nn = n78 + 1) (N + 1) ?_ ?_
                · exact ⟨N, at2_, hM, is_mk rfl rfl, rfl⟩
                · clear hM; rintro t l _ ⟨n78, end9_, hM, ⟨⟨T, rfl⟩, rfl⟩, rfl⟩
                  rcases n78 with _ | n78
                  · exact absurd hM (by simp [shunterref06_Scan_l10])
                  rw [shunterref06_Scan_l10] at hM
                  refine A_seq fun K79 hK79 => ?_
                  refine A_seq fun K80 hK80 => ?_
                  refine A_reg ?_
                  refine r_v (Value.int .i64 (end9_)) rfl rfl rfl rfl ?_
                  refine r_v (Value.string (⟨(s).toArray⟩)) rfl rfl rfl rfl ?_
                  refine r_v (Value.int .i64 (((s).length : Int))) rfl rfl rfl (ev_lenS rfl rfl rfl) ?_
                  refine r_v (Value.bool (decide ((end9_ : Int) < ((s).length : Int)))) rfl rfl rfl rfl ?_
                  refine lx_nil ?_
                  refine hK80 _ _ ?_; try clear hK80 K80
                  refine A_cond (decide ((end9_ : Int) < ((s).length : Int))) rfl (fun hc81 => ?_) (fun hc81 => ?_)
                  · replace hM := ifp (of_decide_eq_true hc81) hM
                    refine A_skip ?_
                    refine hK79 _ _ ?_; try clear hK79 K79
                    refine A_block ?_
                    refine A_seq fun K82 hK82 => ?_
                    refine A_reg ?_
                    refine r_v (Value.string (⟨(s).toArray⟩)) rfl rfl rfl rfl ?_
                    refine r_v (Value.int .i64 (end9_)) rfl rfl rfl rfl ?_
                    replace hM := ck_some hM; obtain ⟨ck83, hM⟩ := hM
                    refine r_v (Value.string (⟨((s).drop (end9_).toNat).toArray⟩)) rfl rfl rfl (ev_v (ev_sliceS1 rfl ck83)) ?_
                    replace hM := bind_sm hM; obtain ⟨r84, hr85, hM⟩ := hM
                    refine r_c (Value.tuple #[Value.int .i64 (r84.1), Value.int .i64 (r84.2)]) rfl _ _ (ev_callF rfl call_15 rfl) (shunterref05_First_g N ((s).drop (end9_).toNat) _ hr85) ?_
                    refine r_v (Value.tuple #[Value.int .i64 (r84.1), Value.int .i64 (r84.2)]) rfl rfl rfl rfl ?_
                    refine r_v (Value.int .i64 (r84.1)) rfl rfl rfl rfl ?_
                    refine r_v (Value.int .i64 (r84.2)) rfl rfl rfl rfl ?_
                    refine r_v (Value.int .i64 (r84.1)) rfl rfl rfl rfl ?_
                    refine r_v (Value.int .i64 (r84.2)) rfl rfl rfl rfl ?_
                    refine lx_nil ?_
                    refine hK82 _ _ ?_; try clear hK82 K82
                    refine A_seq fun K86 hK86 => ?_
                    refine A_seq fun K87 hK87 => ?_
                    refine A_reg ?_
                    refine r_v (Value.int .i64 (r84.1)) rfl rfl rfl rfl ?_
                    replace hM := bind_sm hM; obtain ⟨r88, hr89, hM⟩ := hM
                    refine r_c (Value.bool (r88)) rfl _ _ (ev_callF rfl call_16 rfl) (shunterref05_Letter_g N r84.1 _ hr89) ?_
                    refine r_v (Value.bool (!(r88))) rfl rfl rfl rfl ?_
                    refine r_v (Value.bool (!(r88))) rfl rfl rfl rfl ?_
                    rcases hg90 : (!(r88)) with _ | _
                    · replace hM := ifp (not_f hg90) hM
                      refine r_n false rfl (by decide) rfl ?_
                      refine r_n false rfl (by decide) rfl ?_
                      refine r_n false rfl (by decide) rfl ?_
                      refine r_v (Value.bool (false)) rfl rfl rfl rfl ?_
                      refine r_v (Value.bool (false)) rfl rfl rfl rfl ?_
                      refine r_n false rfl (by decide) rfl ?_
                      refine r_n false rfl (by decide) rfl ?_
                      refine r_nu rfl rfl ?_
                      refine r_nu rfl rfl ?_
                      refine r_nu rfl rfl ?_
                      refine r_nu rfl rfl ?_
                      refine r_nu rfl rfl ?_
                      refine r_nu rfl rfl ?_
                      refine r_n false rfl (by decide) rfl ?_
                      refine r_n false rfl (by decide) rfl ?_
                      refine r_v (Value.bool (false)) rfl rfl rfl rfl ?_
                      refine r_v (Value.bool (false)) rfl rfl rfl rfl ?_
                      refine r_n false rfl (by decide) rfl ?_
                      refine r_n false rfl (by decide) rfl ?_
                      refine r_n false rfl (by decide) rfl ?_
                      refine r_nu rfl rfl ?_
                      refine r_nu rfl rfl ?_
                      refine r_n false rfl (by decide) rfl ?_
                      refine r_n false rfl (by decide) rfl ?_
                      refine r_v (Value.bool (false)) rfl rfl rfl rfl ?_
                      refine lx_nil ?_
                      refine hK87 _ _ ?_; try clear hK87 K87
                      refine A_gen [(0, Value.string (⟨(s).toArray⟩)), (5, vl1_), (6, Value.int .i64 (at2_)), (8, Value.int .i64 (r84.2)), (10, Value.bool (r37)), (11, Value.int .i64 (end9_)), (141, Value.bool (false))] rfl (fun T => ?_)
                      refine A_cond false rfl (fun h_ => nomatch h_) (fun _ => ?_)
                      refine A_skip ?_
                      refine hK86 _ _ ?_; try clear hK86 K86
                      refine A_reg ?_
                      refine r_v (Value.int .i64 (end9_)) rfl rfl rfl rfl ?_
                      refine r_v (Value.int .i64 (r84.2)) rfl rfl rfl rfl ?_
                      replace hM := ck_some hM; obtain ⟨ck91, hM⟩ := hM
                      refine r_v (Value.int .i64 ((end9_ + r84.2))) rfl rfl (wi64 rfl ck91.1 ck91.2) rfl ?_
                      refine r_v (Value.int .i64 ((end9_ + r84.2))) rfl rfl rfl rfl ?_
                      refine lx_nil ?_
                      refine fg _ (Sub.pick [Sl1_] [0] rfl) ?_
                      exact ⟨n78 + 1, by omega, n78, (end9_ + r84.2), hM, is_mk (by first | rfl | (simp only [hg90]; done) | (simp only [hg90]; rfl) | (simp only [app_hl]; rfl)) rfl, rfl⟩
                    · replace hM := ifn (Bool.eq_false_iff.1 (not_t hg90)) hM
                      refine r_y rfl ?_
                      refine r_v (Value.int .i64 (r84.1)) rfl rfl rfl rfl ?_
                      refine r_y rfl ?_
                      replace hM := bind_sm hM; obtain ⟨r92, hr93, hM⟩ := hM
                      refine r_c (Value.bool (r92)) rfl _ _ (ev_callF rfl call_17 rfl) (shunterref06_digit_g N r84.1 _ hr93) ?_
                      refine r_y rfl ?_
                      refine r_v (Value.bool (!(r92))) rfl rfl rfl rfl ?_
                      refine r_v (Value.bool (!(r92))) rfl rfl rfl rfl ?_
                      refine r_v (Value.bool (!(r92))) rfl rfl rfl rfl ?_
                      rcases hg94 : (!(r92)) with _ | _
                      · replace hM := ifp (not_f hg94) hM
                        refine r_n false rfl (by decide) rfl ?_
                        refine r_n false rfl (by decide) rfl ?_
                        refine r_nu rfl rfl ?_
                        refine r_nu rfl rfl ?_
                        refine r_nu rfl rfl ?_
                        refine r_nu rfl rfl ?_
                        refine r_nu rfl rfl ?_
                        refine r_nu rfl rfl ?_
                        refine r_n false rfl (by decide) rfl ?_
                        refine r_n false rfl (by decide) rfl ?_
                        refine r_v (Value.bool (false)) rfl rfl rfl rfl ?_
                        refine r_v (Value.bool (false)) rfl rfl rfl rfl ?_
                        refine r_n false rfl (by decide) rfl ?_
                        refine r_n false rfl (by decide) rfl ?_
                        refine r_n false rfl (by decide) rfl ?_
                        refine r_nu rfl rfl ?_
                        refine r_nu rfl rfl ?_
                        refine r_n false rfl (by decide) rfl ?_
                        refine r_n false rfl (by decide) rfl ?_
                        refine r_v (Value.bool (false)) rfl rfl rfl rfl ?_
                        refine lx_nil ?_
                        refine hK87 _ _ ?_; try clear hK87 K87
                        refine A_gen [(0, Value.string (⟨(s).toArray⟩)), (5, vl1_), (6, Value.int .i64 (at2_)), (8, Value.int .i64 (r84.2)), (10, Value.bool (r37)), (11, Value.int .i64 (end9_)), (141, Value.bool (false))] rfl (fun T => ?_)
                        refine A_cond false rfl (fun h_ => nomatch h_) (fun _ => ?_)
                        refine A_skip ?_
                        refine hK86 _ _ ?_; try clear hK86 K86
                        refine A_reg ?_
                        refine r_v (Value.int .i64 (end9_)) rfl rfl rfl rfl ?_
                        refine r_v (Value.int .i64 (r84.2)) rfl rfl rfl rfl ?_
                        replace hM := ck_some hM; obtain ⟨ck95, hM⟩ := hM
                        refine r_v (Value.int .i64 ((end9_ + r84.2))) rfl rfl (wi64 rfl ck95.1 ck95.2) rfl ?_
                        refine r_v (Value.int .i64 ((end9_ + r84.2))) rfl rfl rfl rfl ?_
                        refine lx_nil ?_
                        refine fg _ (Sub.pick [Sl1_] [0] rfl) ?_
                        exact ⟨n78 + 1, by omega, n78, (end9_ + r84.2), hM, is_mk (by first | rfl | (simp only [hg90, hg94]; done) | (simp only [hg90, hg94]; rfl) | (simp only [app_hl]; rfl)) rfl, rfl⟩
                      · replace hM := ifn (Bool.eq_false_iff.1 (not_t hg94)) hM
                        refine r_y rfl ?_
                        refine r_v (Value.bool (r37)) rfl rfl rfl rfl ?_
                        refine r_y rfl ?_
                        refine r_v (Value.bool (r37)) rfl rfl rfl rfl ?_
                        rcases hg96 : (r37) with _ | _
                        · replace hM := ifn (Bool.eq_false_iff.1 hg96) hM
                          refine r_n false rfl (by decide) rfl ?_
                          refine r_n false rfl (by decide) rfl ?_
                          refine r_n false rfl (by decide) rfl ?_
                          refine r_nu rfl rfl ?_
                          refine r_nu rfl rfl ?_
                          refine r_n false rfl (by decide) rfl ?_
                          refine r_y rfl ?_
                          refine r_v (Value.bool (false)) rfl rfl rfl rfl ?_
                          refine r_y rfl ?_
                          refine r_v (Value.bool (true)) rfl rfl rfl rfl ?_
                          refine r_v (Value.bool (true)) rfl rfl rfl rfl ?_
                          refine r_v (Value.bool (true)) rfl rfl rfl rfl ?_
                          refine r_y rfl ?_
                          refine r_v (Value.bool (false)) rfl rfl rfl rfl ?_
                          refine r_y rfl ?_
                          refine r_v (Value.bool (true)) rfl rfl rfl rfl ?_
                          refine r_y rfl ?_
                          refine r_v (Value.bool (true)) rfl rfl rfl rfl ?_
                          refine r_y rfl ?_
                          refine r_v (Value.int .i64 (r84.1)) rfl rfl rfl rfl ?_
                          refine r_y rfl ?_
                          refine r_v (Value.bool (((r84.1 : Int) == 39))) rfl rfl rfl rfl ?_
                          refine r_y rfl ?_
                          refine r_v (Value.bool (((r84.1 : Int) == 39))) rfl rfl rfl rfl ?_
                          refine r_y rfl ?_
                          refine r_v (Value.bool (!(((r84.1 : Int) == 39)))) rfl rfl rfl rfl ?_
                          refine r_v (Value.bool (!(((r84.1 : Int) == 39)))) rfl rfl rfl rfl ?_
                          refine lx_nil ?_
                          refine hK87 _ _ ?_; try clear hK87 K87
                          refine A_gen [(0, Value.string (⟨(s).toArray⟩)), (5, vl1_), (6, Value.int .i64 (at2_)), (8, Value.int .i64 (r84.2)), (10, Value.bool (false)), (11, Value.int .i64 (end9_)), (141, Value.bool (!(((r84.1 : Int) == 39))))] rfl (fun T => ?_)
                          refine A_cond (!(((r84.1 : Int) == 39))) rfl (fun hc97 => ?_) (fun hc97 => ?_)
                          · replace hM := ifn (ne_of_beq_false (not_t hc97)) hM
                            refine A_exit ?_
                            refine fg _ (Sub.pick [Sl1_] [0] rfl) ?_
                            exact ⟨end9_, hM, is_mk (by first | rfl | (simp only [hg90, hg94, hg96]; done) | (simp only [hg90, hg94, hg96]; rfl) | (simp only [app_hl]; rfl)) rfl⟩
                          · replace hM := ifp (eq_of_beq (not_f hc97)) hM
                            refine A_skip ?_
                            refine hK86 _ _ ?_; try clear hK86 K86
                            refine A_reg ?_
                            refine r_v (Value.int .i64 (end9_)) rfl rfl rfl rfl ?_
                            refine r_v (Value.int .i64 (r84.2)) rfl rfl rfl rfl ?_
                            replace hM := ck_some hM; obtain ⟨ck98, hM⟩ := hM
                            refine r_v (Value.int .i64 ((end9_ + r84.2))) rfl rfl (wi64 rfl ck98.1 ck98.2) rfl ?_
                            refine r_v (Value.int .i64 ((end9_ + r84.2))) rfl rfl rfl rfl ?_
                            refine lx_nil ?_
                            refine fg _ (Sub.pick [Sl1_] [0] rfl) ?_
                            exact ⟨n78 + 1, by omega, n78, (end9_ + r84.2), hM, is_mk (by first | rfl | (simp only [hg90, hg94, hg96]; done) | (simp only [hg90, hg94, hg96]; rfl) | (simp only [app_hl]; rfl)) rfl, rfl⟩
                        · replace hM := ifp hg96 hM
                          refine r_y rfl ?_
                          refine r_v (Value.int .i64 (r84.1)) rfl rfl rfl rfl ?_
                          refine r_y rfl ?_
                          refine r_v (Value.bool (((r84.1 : Int) == 45))) rfl rfl rfl rfl ?_
                          refine r_y rfl ?_
                          refine r_v (Value.bool (((r84.1 : Int) == 45))) rfl rfl rfl rfl ?_
                          rcases hg99 : (((r84.1 : Int) == 45)) with _ | _
                          · replace hM := ifn (ne_of_beq_false hg99) hM
                            refine r_y rfl ?_
                            refine r_v (Value.int .i64 (r84.1)) rfl rfl rfl rfl ?_
                            refine r_y rfl ?_
                            refine r_v (Value.bool (((r84.1 : Int) == 46))) rfl rfl rfl rfl ?_
                            refine r_y rfl ?_
                            refine r_v (Value.bool (((r84.1 : Int) == 46))) rfl rfl rfl rfl ?_
                            refine r_y rfl ?_
                            refine r_v (Value.bool (((r84.1 : Int) == 46))) rfl rfl rfl rfl ?_
                            refine r_y rfl ?_
                            refine r_v (Value.bool (!(((r84.1 : Int) == 46)))) rfl rfl rfl rfl ?_
                            refine r_v (Value.bool (!(((r84.1 : Int) == 46)))) rfl rfl rfl rfl ?_
                            refine r_v (Value.bool (!(((r84.1 : Int) == 46)))) rfl rfl rfl rfl ?_
                            rcases hg100 : (!(((r84.1 : Int) == 46))) with _ | _
                            · replace hM := ifp (eq_of_beq (not_f hg100)) hM
                              refine r_n false rfl (by decide) rfl ?_
                              refine r_n false rfl (by decide) rfl ?_
                              refine r_n false rfl (by decide) rfl ?_
                              refine r_nu rfl rfl ?_
                              refine r_nu rfl rfl ?_
                              refine r_n false rfl (by decide) rfl ?_
                              refine r_n false rfl (by decide) rfl ?_
                              refine r_v (Value.bool (false)) rfl rfl rfl rfl ?_
                              refine lx_nil ?_
                              refine hK87 _ _ ?_; try clear hK87 K87
                              refine A_gen [(0, Value.string (⟨(s).toArray⟩)), (5, vl1_), (6, Value.int .i64 (at2_)), (8, Value.int .i64 (r84.2)), (10, Value.bool (true)), (11, Value.int .i64 (end9_)), (141, Value.bool (false))] rfl (fun T => ?_)
                              refine A_cond false rfl (fun h_ => nomatch h_) (fun _ => ?_)
                              refine A_skip ?_
                              refine hK86 _ _ ?_; try clear hK86 K86
                              refine A_reg ?_
                              refine r_v (Value.int .i64 (end9_)) rfl rfl rfl rfl ?_
                              refine r_v (Value.int .i64 (r84.2)) rfl rfl rfl rfl ?_
                              replace hM := ck_some hM; obtain ⟨ck101, hM⟩ := hM
                              refine r_v (Value.int .i64 ((end9_ + r84.2))) rfl rfl (wi64 rfl ck101.1 ck101.2) rfl ?_
                              refine r_v (Value.int .i64 ((end9_ + r84.2))) rfl rfl rfl rfl ?_
                              refine lx_nil ?_
                              refine fg _ (Sub.pick [Sl1_] [0] rfl) ?_
                              exact ⟨n78 + 1, by omega, n78, (end9_ + r84.2), hM, is_mk (by first | rfl | (simp only [hg90, hg94, hg96, hg99, hg100]; done) | (simp only [hg90, hg94, hg96, hg99, hg100]; rfl) | (simp only [app_hl]; rfl)) rfl, rfl⟩
                            · replace hM := ifn (ne_of_beq_false (not_t hg100)) hM
                              refine r_y rfl ?_
                              refine r_v (Value.bool (true)) rfl rfl rfl rfl ?_
                              refine r_y rfl ?_
                              refine r_v (Value.bool (false)) rfl rfl rfl rfl ?_
                              refine r_y rfl ?_
                              refine r_v (Value.bool (false)) rfl rfl rfl rfl ?_
                              refine r_n false rfl (by decide) rfl ?_
                              refine r_n false rfl (by decide) rfl ?_
                              refine r_y rfl ?_
                              refine r_v (Value.bool (false)) rfl rfl rfl rfl ?_
                              refine r_y rfl ?_
                              refine r_v (Value.bool (true)) rfl rfl rfl rfl ?_
                              refine r_v (Value.bool (true)) rfl rfl rfl rfl ?_
                              refine lx_nil ?_
                              refine hK87 _ _ ?_; try clear hK87 K87
                              refine A_gen [(0, Value.string (⟨(s).toArray⟩)), (5, vl1_), (6, Value.int .i64 (at2_)), (8, Value.int .i64 (r84.2)), (10, Value.bool (true)), (11, Value.int .i64 (end9_)), (141, Value.bool (true))] rfl (fun T => ?_)
                              refine A_cond true rfl (fun _ => ?_) (fun h_ => nomatch h_)
                              refine A_exit ?_
                              refine fg _ (Sub.pick [Sl1_] [0] rfl) ?_
                              exact ⟨end9_, hM, is_mk (by first | rfl | (simp only [hg90, hg94, hg96, hg99, hg100]; done) | (simp only [hg90, hg94, hg96, hg99, hg100]; rfl) | (simp only [app_hl]; rfl)) rfl⟩
                          · replace hM := ifp (eq_of_beq hg99) hM
                            refine r_n true rfl (by decide) rfl ?_
                            refine r_n true rfl (by decide) rfl ?_
                            refine r_y rfl ?_
                            refine r_v (Value.bool (true)) rfl rfl rfl rfl ?_
                            refine r_y rfl ?_
                            refine r_v (Value.bool (true)) rfl rfl rfl rfl ?_
                            refine r_y rfl ?_
                            refine r_v (Value.bool (false)) rfl rfl rfl rfl ?_
                            refine r_v (Value.bool (false)) rfl rfl rfl rfl ?_
                            refine r_v (Value.bool (false)) rfl rfl rfl rfl ?_
                            refine r_n false rfl (by decide) rfl ?_
                            refine r_n false rfl (by decide) rfl ?_
                            refine r_n false rfl (by decide) rfl ?_
                            refine r_nu rfl rfl ?_
                            refine r_nu rfl rfl ?_
                            refine r_n false rfl (by decide) rfl ?_
                            refine r_n false rfl (by decide) rfl ?_
                            refine r_v (Value.bool (false)) rfl rfl rfl rfl ?_
                            refine lx_nil ?_
                            refine hK87 _ _ ?_; try clear hK87 K87
                            refine A_gen [(0, Value.string (⟨(s).toArray⟩)), (5, vl1_), (6, Value.int .i64 (at2_)), (8, Value.int .i64 (r84.2)), (10, Value.bool (true)), (11, Value.int .i64 (end9_)), (141, Value.bool (false))] rfl (fun T => ?_)
                            refine A_cond false rfl (fun h_ => nomatch h_) (fun _ => ?_)
                            refine A_skip ?_
                            refine hK86 _ _ ?_; try clear hK86 K86
                            refine A_reg ?_
                            refine r_v (Value.int .i64 (end9_)) rfl rfl rfl rfl ?_
                            refine r_v (Value.int .i64 (r84.2)) rfl rfl rfl rfl ?_
                            replace hM := ck_some hM; obtain ⟨ck102, hM⟩ := hM
                            refine r_v (Value.int .i64 ((end9_ + r84.2))) rfl rfl (wi64 rfl ck102.1 ck102.2) rfl ?_
                            refine r_v (Value.int .i64 ((end9_ + r84.2))) rfl rfl rfl rfl ?_
                            refine lx_nil ?_
                            refine fg _ (Sub.pick [Sl1_] [0] rfl) ?_
                            exact ⟨n78 + 1, by omega, n78, (end9_ + r84.2), hM, is_mk (by first | rfl | (simp only [hg90, hg94, hg96, hg99]; done) | (simp only [hg90, hg94, hg96, hg99]; rfl) | (simp only [app_hl]; rfl)) rfl, rfl⟩
                  · replace hM := ifn (of_decide_eq_false hc81) hM
                    refine A_exit ?_
                    refine fg _ (Sub.pick [Sl1_] [0] rfl) ?_
                    exact ⟨end9_, hM, is_mk rfl rfl⟩
              · clear hM; rintro t l ⟨end7_, hM, ⟨T, rfl⟩, rfl⟩
                unfold shunterref06_Scan_k8 at hM
                refine A_seq fun K40 hK40 => ?_
                refine A_seq fun K41 hK41 => ?_
                refine A_reg ?_
                refine r_v (Value.bool (r37)) rfl rfl rfl rfl ?_
                refine lx_nil ?_
                refine hK41 _ _ ?_; try clear hK41 K41
                refine A_cond (r37) rfl (fun hc42 => ?_) (fun hc42 => ?_)
                · replace hM := ifp hc42 hM
                  refine A_seq fun K43 hK43 => ?_
                  refine A_seq fun K44 hK44 => ?_
                  refine A_reg ?_
                  refine r_v (Value.string (⟨(s).toArray⟩)) rfl rfl rfl rfl ?_
                  refine r_v (Value.int .i64 (at2_)) rfl rfl rfl rfl ?_
                  refine r_v (Value.int .i64 (end7_)) rfl rfl rfl rfl ?_
                  replace hM := ck_some hM; obtain ⟨ck45, hM⟩ := hM
                  refine r_v (Value.string (⟨(((s).take (end7_).toNat).drop (at2_).toNat).toArray⟩)) rfl rfl rfl (ev_v (ev_sliceS rfl ck45)) ?_
                  replace hM := bind_sm hM; obtain ⟨r46, hr47, hM⟩ := hM
                  refine r_c (Value.bool (r46)) rfl _ _ (ev_callF rfl call_18 rfl) (shunterref05_May_g N (((s).take (end7_).toNat).drop (at2_).toNat) _ hr47) ?_
                  refine r_v (Value.bool (!(r46))) rfl rfl rfl rfl ?_
                  refine lx_nil ?_
                  refine hK44 _ _ ?_; try clear hK44 K44
                  refine A_cond (!(r46)) rfl (fun hc48 => ?_) (fun hc48 => ?_)
                  · replace hM := ifn (Bool.eq_false_iff.1 (not_t hc48)) hM
                    refine A_seq fun K49 hK49 => ?_
                    refine A_reg ?_
                    refine r_v (Value.int .i64 (at2_)) rfl rfl rfl rfl ?_
                    refine r_v (Value.slice none 0 0) rfl rfl rfl rfl ?_
                    refine r_v (Value.int .i64 (at2_)) rfl rfl rfl rfl ?_
                    refine r_v (Value.int .i64 (2)) rfl rfl rfl rfl ?_
                    refine lx_nil ?_
                    refine hK49 _ _ ?_; try clear hK49 K49
                    obtain rfl := Option.some.inj hM
                    refine A_ret (fun hn => ends1 (v0 := Value.tuple #[Value.slice none 0 0, Value.int .i64 (at2_), Value.int .i64 (2)]) Sl.nil (Sub.nil _) rfl (res3 rfl rfl rfl))
                  · replace hM := ifp (not_f hc48) hM
                    refine A_skip ?_
                    refine hK43 _ _ ?_; try clear hK43 K43
                    refine A_regC [(some 160, false), (some 161, true)] (conG Try.prog []) ?_
                    refine r_v (vl1_) rfl rfl rfl rfl ?_
                    refine r_v (Value.string (⟨(s).toArray⟩)) rfl rfl rfl rfl ?_
                    refine r_v (Value.int .i64 (at2_)) rfl rfl rfl rfl ?_
                    refine r_v (Value.int .i64 (end7_)) rfl rfl rfl rfl ?_
                    replace hM := ck_some hM; obtain ⟨ck50, hM⟩ := hM
                    refine r_v (Value.string (⟨(((s).take (end7_).toNat).drop (at2_).toNat).toArray⟩)) rfl rfl rfl (ev_v (ev_sliceS rfl ck50)) ?_
                    refine r_v (Value.int .i64 (at2_)) rfl rfl rfl rfl ?_
                    refine r_v (Value.agg #[Value.int .i64 (1), Value.string (⟨(((s).take (end7_).toNat).drop (at2_).toNat).toArray⟩), Value.int .i64 (0), Value.int .i64 (0), U (0#64), U (0#64), Value.int .i64 (at2_)]) rfl rfl rfl (ev_buildS rfl rfl rfl rfl) ?_
                    refine r_bs (cs0 := []) (Ls := [Sl1_]) 42 enc_42 [(1, ((s).take (end7_).toNat).drop (at2_).toNat, 0, 0, (0#64) ++ (0#64), at2_)] [Value.int .i64 (1), Value.string (⟨(((s).take (end7_).toNat).drop (at2_).toNat).toArray⟩), Value.int .i64 (0), Value.int .i64 (0), U (0#64), U (0#64), Value.int .i64 (at2_)] [Value.int .i64 (0), Value.string (⟨#[]⟩), Value.int .i64 (0), Value.int .i64 (0), U (0#64), U (0#64), Value.int .i64 (0)] rfl rfl rfl rfl rfl rfl rfl (by kernel_rfl) (by kernel_rfl) (show [Value.int .i64 (1), Value.string (⟨(((s).take (end7_).toNat).drop (at2_).toNat).toArray⟩), Value.int .i64 (0), Value.int .i64 (0), U (0#64), U (0#64), Value.int .i64 (at2_)] = [Value.int .i64 (1), Value.string (⟨(((s).take (end7_).toNat).drop (at2_).toNat).toArray⟩), Value.int .i64 (0), Value.int .i64 (0), U (hi ((0#64) ++ (0#64))), U (lo ((0#64) ++ (0#64))), Value.int .i64 (at2_)] by simp only [app_hl]) rfl rfl (fun s51 S52 H53 => ?_)
                    replace hM := ck_some hM; obtain ⟨ck54, hM⟩ := hM
                    refine r_app (cs0 := []) (Ls := [Sl1_, S52]) 0 (En := enc_42) rfl rfl rfl rfl rfl hl1_ rfl (rd_own H53 (mem_chunk (Ls := [Sl1_, S52]) (k := 1) rfl rfl)) rfl rfl rfl rfl rfl (app_b ck54 rfl) (app_m ck54 rfl) rfl (fun s55 S56 H57 => ?_)
                    refine r_v (s55) rfl rfl rfl rfl ?_
                    refine lx_nil ?_
                    refine hK40 _ _ ?_; try clear hK40 K40
                    refine A_reg ?_
                    refine r_v (Value.string (⟨(s).toArray⟩)) rfl rfl rfl rfl ?_
                    refine r_v (Value.int .i64 (end7_)) rfl rfl rfl rfl ?_
                    replace hM := bind_sm hM; obtain ⟨r58, hr59, hM⟩ := hM
                    refine r_c (Value.int .i64 (r58)) rfl _ _ (ev_callF rfl call_14 rfl) (shunterref06_Skip_g N s end7_ _ hr59) ?_
                    refine r_v (Value.int .i64 (r58)) rfl rfl rfl rfl ?_
                    refine lx_nil ?_
                    refine fg _ (Sub.pick [S56, S52] [0] rfl) ?_
                    exact ⟨n11 + 1, by omega, n11, (l1_ ++ ([(1, ((s).take (end7_).toNat).drop (at2_).toNat, 0, 0, (0#64) ++ (0#64), at2_)])), r58, hM, s55, S56, H57, is_mk rfl rfl, rfl⟩
                · replace hM := ifn (Bool.eq_false_iff.1 hc42) hM
                  refine A_seq fun K60 hK60 => ?_
                  refine A_reg ?_
                  refine r_v (Value.string (⟨(s).toArray⟩)) rfl rfl rfl rfl ?_
                  refine r_v (Value.int .i64 (at2_)) rfl rfl rfl rfl ?_
                  refine r_v (Value.int .i64 (end7_)) rfl rfl rfl rfl ?_
                  replace hM := ck_some hM; obtain ⟨ck61, hM⟩ := hM
                  refine r_v (Value.string (⟨(((s).take (end7_).toNat).drop (at2_).toNat).toArray⟩)) rfl rfl rfl (ev_v (ev_sliceS rfl ck61)) ?_
                  refine r_v (Value.int .i64 (at2_)) rfl rfl rfl rfl ?_
                  replace hM := bind_sm hM; obtain ⟨r62, hr63, hM⟩ := hM
                  refine r_c (Value.tuple #[Value.agg #[Value.int .i64 (r62.1), Value.string (⟨(r62.2.1).toArray⟩), Value.int .i64 (r62.2.2.1), Value.int .i64 (r62.2.2.2.1), U (hi (r62.2.2.2.2.1)), U (lo (r62.2.2.2.2.1)), Value.int .i64 (r62.2.2.2.2.2.1)], Value.int .i64 (r62.2.2.2.2.2.2)]) rfl _ _ (ev_callF rfl call_19 rfl) (shunterref06_Number_g N (((s).take (end7_).toNat).drop (at2_).toNat) at2_ _ hr63) ?_
                  refine r_v (Value.tuple #[Value.agg #[Value.int .i64 (r62.1), Value.string (⟨(r62.2.1).toArray⟩), Value.int .i64 (r62.2.2.1), Value.int .i64 (r62.2.2.2.1), U (hi (r62.2.2.2.2.1)), U (lo (r62.2.2.2.2.1)), Value.int .i64 (r62.2.2.2.2.2.1)], Value.int .i64 (r62.2.2.2.2.2.2)]) rfl rfl rfl rfl ?_
                  refine r_v (Value.agg #[Value.int .i64 (r62.1), Value.string (⟨(r62.2.1).toArray⟩), Value.int .i64 (r62.2.2.1), Value.int .i64 (r62.2.2.2.1), U (hi (r62.2.2.2.2.1)), U (lo (r62.2.2.2.2.1)), Value.int .i64 (r62.2.2.2.2.2.1)]) rfl rfl rfl rfl ?_
                  refine r_v (Value.int .i64 (r62.2.2.2.2.2.2)) rfl rfl rfl rfl ?_
                  refine r_a (42, #[Value.int .i64 (0), Value.string (⟨#[]⟩), Value.int .i64 (0), Value.int .i64 (0), U (0#64), U (0#64), Value.int .i64 (0)]) rfl rfl rfl (fun b64 => ?_) (.inr rfl)
                  refine r_s (List.flatten [[(b64, 42, #[Value.int .i64 (r62.1), Value.string (⟨(r62.2.1).toArray⟩), Value.int .i64 (r62.2.2.1), Value.int .i64 (r62.2.2.2.1), U (hi (r62.2.2.2.2.1)), U (lo (r62.2.2.2.2.1)), Value.int .i64 (r62.2.2.2.2.2.1)])], Sl1_]) 0 _ _ _ (#[Value.int .i64 (0), Value.string (⟨#[]⟩), Value.int .i64 (0), Value.int .i64 (0), U (0#64), U (0#64), Value.int .i64 (0)]) (#[Value.int .i64 (r62.1), Value.string (⟨(r62.2.1).toArray⟩), Value.int .i64 (r62.2.2.1), Value.int .i64 (r62.2.2.2.1), U (hi (r62.2.2.2.2.1)), U (lo (r62.2.2.2.2.1)), Value.int .i64 (r62.2.2.2.2.2.1)]) (#[Value.int .i64 (r62.1), Value.string (⟨(r62.2.1).toArray⟩), Value.int .i64 (r62.2.2.1), Value.int .i64 (r62.2.2.2.1), U (hi (r62.2.2.2.2.1)), U (lo (r62.2.2.2.2.1)), Value.int .i64 (r62.2.2.2.2.2.1)]) rfl rfl rfl rfl (.of rfl rfl) rfl rfl ?_
                  refine r_v (Value.int .i64 (r62.2.2.2.2.2.2)) rfl rfl rfl rfl ?_
                  refine lx_nil ?_
                  refine hK60 _ _ ?_; try clear hK60 K60
                  refine A_seq fun K65 hK65 => ?_
                  refine A_seq fun K66 hK66 => ?_
                  refine A_reg ?_
                  refine r_v (Value.int .i64 (r62.2.2.2.2.2.2)) rfl rfl rfl rfl ?_
                  refine r_v (Value.bool (((r62.2.2.2.2.2.2 : Int) != 0))) rfl rfl rfl rfl ?_
                  refine lx_nil ?_
                  refine hK66 _ _ ?_; try clear hK66 K66
                  refine A_cond (((r62.2.2.2.2.2.2 : Int) != 0)) rfl (fun hc67 => ?_) (fun hc67 => ?_)
                  · replace hM := ifp (bne_iff_ne.1 hc67) hM
                    refine A_seq fun K68 hK68 => ?_
                    refine A_reg ?_
                    refine r_v (Value.int .i64 (at2_)) rfl rfl rfl rfl ?_
                    refine r_v (Value.int .i64 (r62.2.2.2.2.2.2)) rfl rfl rfl rfl ?_
                    refine r_v (Value.slice none 0 0) rfl rfl rfl rfl ?_
                    refine r_v (Value.int .i64 (at2_)) rfl rfl rfl rfl ?_
                    refine r_v (Value.int .i64 (r62.2.2.2.2.2.2)) rfl rfl rfl rfl ?_
                    refine lx_nil ?_
                    refine hK68 _ _ ?_; try clear hK68 K68
                    obtain rfl := Option.some.inj hM
                    refine A_ret (fun hn => ends1 (v0 := Value.tuple #[Value.slice none 0 0, Value.int .i64 (at2_), Value.int .i64 (r62.2.2.2.2.2.2)]) Sl.nil (Sub.nil _) rfl (res3 rfl rfl rfl))
                  · replace hM := ifn (bne_f hc67) hM
                    refine A_skip ?_
                    refine hK65 _ _ ?_; try clear hK65 K65
                    refine A_regC [(some 177, false), (some 178, true)] (conG Try.prog []) ?_
                    refine r_v (vl1_) rfl rfl rfl rfl ?_
                    refine r_l (Value.agg #[Value.int .i64 (r62.1), Value.string (⟨(r62.2.1).toArray⟩), Value.int .i64 (r62.2.2.1), Value.int .i64 (r62.2.2.2.1), U (hi (r62.2.2.2.2.1)), U (lo (r62.2.2.2.2.1)), Value.int .i64 (r62.2.2.2.2.2.1)]) 0 _ _ _ _ rfl rfl rfl rfl rfl ?_
                    refine r_bs (cs0 := []) (Ls := [[(b64, 42, #[Value.int .i64 (r62.1), Value.string (⟨(r62.2.1).toArray⟩), Value.int .i64 (r62.2.2.1), Value.int .i64 (r62.2.2.2.1), U (hi (r62.2.2.2.2.1)), U (lo (r62.2.2.2.2.1)), Value.int .i64 (r62.2.2.2.2.2.1)])], Sl1_]) 42 enc_42 [(r62.1, r62.2.1, r62.2.2.1, r62.2.2.2.1, r62.2.2.2.2.1, r62.2.2.2.2.2.1)] [Value.int .i64 (r62.1), Value.string (⟨(r62.2.1).toArray⟩), Value.int .i64 (r62.2.2.1), Value.int .i64 (r62.2.2.2.1), U (hi (r62.2.2.2.2.1)), U (lo (r62.2.2.2.2.1)), Value.int .i64 (r62.2.2.2.2.2.1)] [Value.int .i64 (0), Value.string (⟨#[]⟩), Value.int .i64 (0), Value.int .i64 (0), U (0#64), U (0#64), Value.int .i64 (0)] rfl rfl rfl rfl rfl rfl rfl (by kernel_rfl) (by kernel_rfl) rfl rfl rfl (fun s69 S70 H71 => ?_)
                    replace hM := ck_some hM; obtain ⟨ck72, hM⟩ := hM
                    refine r_app (cs0 := []) (Ls := [[(b64, 42, #[Value.int .i64 (r62.1), Value.string (⟨(r62.2.1).toArray⟩), Value.int .i64 (r62.2.2.1), Value.int .i64 (r62.2.2.2.1), U (hi (r62.2.2.2.2.1)), U (lo (r62.2.2.2.2.1)), Value.int .i64 (r62.2.2.2.2.2.1)])], Sl1_, S70]) 1 (En := enc_42) rfl rfl rfl rfl rfl hl1_ rfl (rd_own H71 (mem_chunk (Ls := [[(b64, 42, #[Value.int .i64 (r62.1), Value.string (⟨(r62.2.1).toArray⟩), Value.int .i64 (r62.2.2.1), Value.int .i64 (r62.2.2.2.1), U (hi (r62.2.2.2.2.1)), U (lo (r62.2.2.2.2.1)), Value.int .i64 (r62.2.2.2.2.2.1)])], Sl1_, S70]) (k := 2) rfl rfl)) rfl rfl rfl rfl rfl (app_b ck72 rfl) (app_m ck72 rfl) rfl (fun s73 S74 H75 => ?_)
                    refine r_v (s73) rfl rfl rfl rfl ?_
                    refine lx_nil ?_
                    refine hK40 _ _ ?_; try clear hK40 K40
                    refine A_reg ?_
                    refine r_v (Value.string (⟨(s).toArray⟩)) rfl rfl rfl rfl ?_
                    refine r_v (Value.int .i64 (end7_)) rfl rfl rfl rfl ?_
                    replace hM := bind_sm hM; obtain ⟨r76, hr77, hM⟩ := hM
                    refine r_c (Value.int .i64 (r76)) rfl _ _ (ev_callF rfl call_14 rfl) (shunterref06_Skip_g N s end7_ _ hr77) ?_
                    refine r_v (Value.int .i64 (r76)) rfl rfl rfl rfl ?_
                    refine lx_nil ?_
                    refine fg _ (Sub.pick [[(b64, 42, #[Value.int .i64 (r62.1), Value.string (⟨(r62.2.1).toArray⟩), Value.int .i64 (r62.2.2.1), Value.int .i64 (r62.2.2.2.1), U (hi (r62.2.2.2.2.1)), U (lo (r62.2.2.2.2.1)), Value.int .i64 (r62.2.2.2.2.2.1)])], S74, S70] [1] rfl) ?_
                    exact ⟨n11 + 1, by omega, n11, (l1_ ++ ([(r62.1, r62.2.1, r62.2.2.1, r62.2.2.2.1, r62.2.2.2.2.1, r62.2.2.2.2.2.1)])), r76, hM, s73, S74, H75, is_mk rfl rfl, rfl⟩
      · replace hM := ifn (of_decide_eq_false hc14) hM
        refine A_exit ?_
        refine hK10 _ _ ?_; try clear hK10 K10
        refine A_seq fun K120 hK120 => ?_
        refine A_reg ?_
        refine r_v (vl1_) rfl rfl rfl rfl ?_
        refine r_v (vl1_) rfl rfl rfl rfl ?_
        refine r_v (Value.int .i64 (0)) rfl rfl rfl rfl ?_
        refine r_v (Value.int .i64 (0)) rfl rfl rfl rfl ?_
        refine lx_nil ?_
        refine hK120 _ _ ?_; try clear hK120 K120
        obtain rfl := Option.some.inj hM
        refine A_ret (fun hn => ends1 (v0 := Value.tuple #[vl1_, Value.int .i64 (0), Value.int .i64 (0)]) hl1_ (sub_one (Sub.pick [Sl1_] [0] rfl)) rfl (res3 rfl rfl rfl))
end Go.Proofs.Ytmdjifehblijkaa
