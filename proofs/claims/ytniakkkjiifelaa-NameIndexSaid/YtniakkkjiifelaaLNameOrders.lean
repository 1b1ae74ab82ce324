/- models of functions and their walks -/
import Derived.Test.YtniakkkjiifelaaBc
namespace Go.Proofs.Ytniakkkjiifelaa
open Go Go.RowKit Go.Eng
def shunterlaw05_NameOrders_k4 (N : Nat) (a : List UInt8) (b : List UInt8) : Option (Bool) := (name_Alike_m N a b).bind fun r3 => (name_Alike_m N b a).bind fun r5 => if (r3) = (r5) then (name_Key_m N a).bind fun r8 => (name_Alike_m N a r8).bind fun r10 => if (r10) = true then (name_Key_m N a).bind fun r13 => (name_Key_m N r13).bind fun r15 => (name_Key_m N a).bind fun r17 => if (r15) = (r17) then (name_Key_m N a).bind fun r20 => (name_May_m N r20).bind fun r22 => (name_May_m N a).bind fun r24 => if (r22) = (r24) then (name_Len_m N a).bind fun r27 => (name_Clip_m N a r27).bind fun r29 => if (r29) = (a) then (shunterlaw05_lives_m N ).bind fun r32 => some (r32) else some (false) else some (false) else some (false) else some (false) else some (false)
def shunterlaw05_NameOrders_k3 (N : Nat) (a : List UInt8) (b : List UInt8) (c : List UInt8) : Option (Bool) := (name_Alike_m N a c).bind fun r35 => if (r35) = true then (name_Less_m N a b).bind fun r38 => if (r38) = true then (name_Less_m N b c).bind fun r41 => if (r41) = true then (name_Alike_m N a b).bind fun r44 => if (r44) = true then shunterlaw05_NameOrders_k4 N a b  else some (false) else shunterlaw05_NameOrders_k4 N a b  else shunterlaw05_NameOrders_k4 N a b  else shunterlaw05_NameOrders_k4 N a b 
def shunterlaw05_NameOrders_k2 (N : Nat) (a : List UInt8) (b : List UInt8) (c : List UInt8) : Option (Bool) := (name_Less_m N a b).bind fun r49 => if (r49) = true then (name_Less_m N b c).bind fun r52 => if (r52) = true then (name_Less_m N a c).bind fun r55 => if (r55) = true then shunterlaw05_NameOrders_k3 N a b c  else some (false) else shunterlaw05_NameOrders_k3 N a b c  else shunterlaw05_NameOrders_k3 N a b c 
def shunterlaw05_NameOrders_k1 (N : Nat) (a : List UInt8) (b : List UInt8) (c : List UInt8) : Option (Bool) := (name_Less_m N a b).bind fun r60 => if (r60) = true then (name_Less_m N b a).bind fun r72 => if (r72) = true then some (false) else (name_Less_m N a b).bind fun r75 => if (r75) = true then if ((a) == (b)) ≠ (false) then some (false) else shunterlaw05_NameOrders_k2 N a b c  else (name_Less_m N b a).bind fun r80 => if ((a) == (b)) ≠ (!(r80)) then some (false) else shunterlaw05_NameOrders_k2 N a b c  else (name_Less_m N a b).bind fun r63 => if (r63) = true then if ((a) == (b)) ≠ (false) then some (false) else shunterlaw05_NameOrders_k2 N a b c  else (name_Less_m N b a).bind fun r68 => if ((a) == (b)) ≠ (!(r68)) then some (false) else shunterlaw05_NameOrders_k2 N a b c 
def shunterlaw05_NameOrders_m (N : Nat) (a : List UInt8) (b : List UInt8) (c : List UInt8) : Option (Bool) := if (((a).length : Int) : Int) > 300 then (shunterlaw05_lives_m N ).bind fun r96 => some (r96) else if (((b).length : Int) : Int) > 300 then (shunterlaw05_lives_m N ).bind fun r93 => some (r93) else if (((c).length : Int) : Int) > 300 then (shunterlaw05_lives_m N ).bind fun r90 => some (r90) else shunterlaw05_NameOrders_k1 N a b c 
set_option maxRecDepth 100000 in
set_option maxHeartbeats 400000 in
theorem shunterlaw05_NameOrders_g (N : Nat) (a : List UInt8) (b : List UInt8) (c : List UInt8) (r : Bool) (hM : shunterlaw05_NameOrders_m N a b c = some r) : Gives Try.prog 6 #[Value.string (⟨(a).toArray⟩), Value.string (⟨(b).toArray⟩), Value.string (⟨(c).toArray⟩)] (Value.bool (r)) := by
  unfold shunterlaw05_NameOrders_m at hM
  refine gives_of_A follows Try.func6 rfl 118 rfl (upd (upd (upd (fun _ => undef) 2 (Value.string (⟨(c).toArray⟩))) 1 (Value.string (⟨(b).toArray⟩))) 0 (Value.string (⟨(a).toArray⟩))) (by funext k; match k with | 0 => rfl | 1 => rfl | 2 => rfl | k + 3 => rfl) (fun base0_ => ?_)
  refine A_seq fun K1 hK1 => ?_
  refine A_reg ?_
  refine r_v (Value.bool (false)) rfl rfl rfl rfl ?_
  refine lx_nil ?_
  refine hK1 _ _ ?_; try clear hK1 K1
  refine A_cut (fun tt ll => (shunterlaw05_NameOrders_k1 N a b c  = some r) ∧ Is [(0, Value.string (⟨(a).toArray⟩)), (1, Value.string (⟨(b).toArray⟩)), (2, Value.string (⟨(c).toArray⟩))] [] tt ll) ?_ ?_
  · refine A_seq fun K85 hK85 => ?_
    refine A_reg ?_
    refine r_v (Value.string (⟨(a).toArray⟩)) rfl rfl rfl rfl ?_
    refine r_v (Value.int .i64 (((a).length : Int))) rfl rfl rfl (ev_lenS rfl rfl rfl) ?_
    refine r_v (Value.bool (decide ((((a).length : Int) : Int) > 300))) rfl rfl rfl rfl ?_
    refine r_v (Value.bool (decide ((((a).length : Int) : Int) > 300))) rfl rfl rfl rfl ?_
    rcases hg86 : (decide ((((a).length : Int) : Int) > 300)) with _ | _
    · replace hM := ifn (of_decide_eq_false hg86) hM
      refine r_y rfl ?_
      refine r_v (Value.string (⟨(b).toArray⟩)) rfl rfl rfl rfl ?_
      refine r_y rfl ?_
      refine r_v (Value.int .i64 (((b).length : Int))) rfl rfl rfl (ev_lenS rfl rfl rfl) ?_
      refine r_y rfl ?_
      refine r_v (Value.bool (decide ((((b).length : Int) : Int) > 300))) rfl rfl rfl rfl ?_
      refine r_v (Value.bool (decide ((((b).length : Int) : Int) > 300))) rfl rfl rfl rfl ?_
      refine r_v (Value.bool (decide ((((b).length : Int) : Int) > 300))) rfl rfl rfl rfl ?_
      rcases hg87 : (decide ((((b).length : Int) : Int) > 300)) with _ | _
      · replace hM := ifn (of_decide_eq_false hg87) hM
        refine r_y rfl ?_
        refine r_v (Value.string (⟨(c).toArray⟩)) rfl rfl rfl rfl ?_
        refine r_y rfl ?_
        refine r_v (Value.int .i64 (((c).length : Int))) rfl rfl rfl (ev_lenS rfl rfl rfl) ?_
        refine r_y rfl ?_
        refine r_v (Value.bool (decide ((((c).length : Int) : Int) > 300))) rfl rfl rfl rfl ?_
        refine r_v (Value.bool (decide ((((c).length : Int) : Int) > 300))) rfl rfl rfl rfl ?_
        refine lx_nil ?_
        refine hK85 _ _ ?_; try clear hK85 K85
        refine A_cond (decide ((((c).length : Int) : Int) > 300)) rfl (fun hc88 => ?_) (fun hc88 => ?_)
        · replace hM := ifp (of_decide_eq_true hc88) hM
          refine A_seq fun K89 hK89 => ?_
          refine A_reg ?_
          replace hM := bind_sm hM; obtain ⟨r90, hr91, hM⟩ := hM
          refine r_c (Value.bool (r90)) rfl _ _ (ev_callF rfl call_9 rfl) (shunterlaw05_lives_g N  _ hr91) ?_
          refine r_v (Value.bool (r90)) rfl rfl rfl rfl ?_
          refine lx_nil ?_
          refine hK89 _ _ ?_; try clear hK89 K89
          obtain rfl := Option.some.inj hM
          refine A_ret (fun hn => ends_eq (v0 := Value.bool (r90)) rfl (res1 rfl))
        · replace hM := ifn (of_decide_eq_false hc88) hM
          refine A_skip ?_
          refine fg _ (Sub.of (List.Sublist.slnil)) ?_
          exact ⟨hM, is_mk rfl rfl⟩
      · replace hM := ifp (of_decide_eq_true hg87) hM
        refine r_n true rfl (by decide) rfl ?_
        refine r_n true rfl (by decide) rfl ?_
        refine r_n true rfl (by decide) rfl ?_
        refine r_v (Value.bool (true)) rfl rfl rfl rfl ?_
        refine lx_nil ?_
        refine hK85 _ _ ?_; try clear hK85 K85
        refine A_cond true rfl (fun _ => ?_) (fun h_ => nomatch h_)
        refine A_seq fun K92 hK92 => ?_
        refine A_reg ?_
        replace hM := bind_sm hM; obtain ⟨r93, hr94, hM⟩ := hM
        refine r_c (Value.bool (r93)) rfl _ _ (ev_callF rfl call_9 rfl) (shunterlaw05_lives_g N  _ hr94) ?_
        refine r_v (Value.bool (r93)) rfl rfl rfl rfl ?_
        refine lx_nil ?_
        refine hK92 _ _ ?_; try clear hK92 K92
        obtain rfl := Option.some.inj hM
        refine A_ret (fun hn => ends_eq (v0 := Value.bool (r93)) rfl (res1 rfl))
    · replace hM := ifp (of_decide_eq_true hg86) hM
      refine r_n true rfl (by decide) rfl ?_
      refine r_n true rfl (by decide) rfl ?_
      refine r_n true rfl (by decide) rfl ?_
      refine r_v (Value.bool (true)) rfl rfl rfl rfl ?_
      refine r_v (Value.bool (true)) rfl rfl rfl rfl ?_
      refine r_n true rfl (by decide) rfl ?_
      refine r_n true rfl (by decide) rfl ?_
      refine r_n true rfl (by decide) rfl ?_
      refine r_v (Value.bool (true)) rfl rfl rfl rfl ?_
      refine lx_nil ?_
      refine hK85 _ _ ?_; try clear hK85 K85
      refine A_cond true rfl (fun _ => ?_) (fun h_ => nomatch h_)
      refine A_seq fun K95 hK95 => ?_
      refine A_reg ?_
      replace hM := bind_sm hM; obtain ⟨r96, hr97, hM⟩ := hM
      refine r_c (Value.bool (r96)) rfl _ _ (ev_callF rfl call_9 rfl) (shunterlaw05_lives_g N  _ hr97) ?_
      refine r_v (Value.bool (r96)) rfl rfl rfl rfl ?_
      refine lx_nil ?_
      refine hK95 _ _ ?_; try clear hK95 K95
      obtain rfl := Option.some.inj hM
      refine A_ret (fun hn => ends_eq (v0 := Value.bool (r96)) rfl (res1 rfl))
  · clear hM; rintro t l ⟨hM, ⟨T, rfl⟩, rfl⟩
    unfold shunterlaw05_NameOrders_k1 at hM
    refine A_cut (fun tt ll => (shunterlaw05_NameOrders_k2 N a b c  = some r) ∧ Is [(0, Value.string (⟨(a).toArray⟩)), (1, Value.string (⟨(b).toArray⟩)), (2, Value.string (⟨(c).toArray⟩))] [] tt ll) ?_ ?_
    · refine A_seq fun K59 hK59 => ?_
      refine A_reg ?_
      refine r_v (Value.string (⟨(a).toArray⟩)) rfl rfl rfl rfl ?_
      refine r_v (Value.string (⟨(b).toArray⟩)) rfl rfl rfl rfl ?_
      replace hM := bind_sm hM; obtain ⟨r60, hr61, hM⟩ := hM
      refine r_c (Value.bool (r60)) rfl _ _ (ev_callF rfl call_26 rfl) (name_Less_g N a b _ hr61) ?_
      refine r_v (Value.bool (r60)) rfl rfl rfl rfl ?_
      rcases hg62 : (r60) with _ | _
      · replace hM := ifn (Bool.eq_false_iff.1 hg62) hM
        refine r_n false rfl (by decide) rfl ?_
        refine r_n false rfl (by decide) rfl ?_
        refine r_n false rfl (by decide) rfl ?_
        refine r_v (Value.bool (false)) rfl rfl rfl rfl ?_
        refine r_v (Value.bool (false)) rfl rfl rfl rfl ?_
        refine r_y rfl ?_
        refine r_v (Value.string (⟨(a).toArray⟩)) rfl rfl rfl rfl ?_
        refine r_y rfl ?_
        refine r_v (Value.string (⟨(b).toArray⟩)) rfl rfl rfl rfl ?_
        refine r_y rfl ?_
        refine r_v (Value.bool ((a) == (b))) rfl rfl rfl (ev_eqS rfl rfl) ?_
        refine r_y rfl ?_
        refine r_v (Value.string (⟨(a).toArray⟩)) rfl rfl rfl rfl ?_
        refine r_y rfl ?_
        refine r_v (Value.string (⟨(b).toArray⟩)) rfl rfl rfl rfl ?_
        refine r_y rfl ?_
        replace hM := bind_sm hM; obtain ⟨r63, hr64, hM⟩ := hM
        refine r_c (Value.bool (r63)) rfl _ _ (ev_callF rfl call_26 rfl) (name_Less_g N a b _ hr64) ?_
        refine r_y rfl ?_
        refine r_v (Value.bool (!(r63))) rfl rfl rfl rfl ?_
        refine r_y rfl ?_
        refine r_v (Value.bool (!(r63))) rfl rfl rfl rfl ?_
        rcases hg65 : (!(r63)) with _ | _
        · replace hM := ifp (not_f hg65) hM
          refine r_n false rfl (by decide) rfl ?_
          refine r_n false rfl (by decide) rfl ?_
          refine r_n false rfl (by decide) rfl ?_
          refine r_n false rfl (by decide) rfl ?_
          refine r_y rfl ?_
          refine r_v (Value.bool (false)) rfl rfl rfl rfl ?_
          refine r_y rfl ?_
          refine r_v (Value.bool (((a) == (b)) != (false))) rfl rfl rfl (ev_binBn rfl rfl rfl) ?_
          refine r_v (Value.bool (((a) == (b)) != (false))) rfl rfl rfl rfl ?_
          refine lx_nil ?_
          refine hK59 _ _ ?_; try clear hK59 K59
          refine A_cond (((a) == (b)) != (false)) rfl (fun hc66 => ?_) (fun hc66 => ?_)
          · replace hM := ifp (bne_iff_ne.1 hc66) hM
            refine A_seq fun K67 hK67 => ?_
            refine A_reg ?_
            refine r_v (Value.bool (false)) rfl rfl rfl rfl ?_
            refine lx_nil ?_
            refine hK67 _ _ ?_; try clear hK67 K67
            refine A_gen [(6, Value.bool (false))] rfl (fun T => ?_)
            obtain rfl := Option.some.inj hM
            refine A_ret (fun hn => ends_eq (v0 := Value.bool (false)) rfl (res1 rfl))
          · replace hM := ifn (bne_f hc66) hM
            refine A_skip ?_
            refine fg _ (Sub.of (List.Sublist.slnil)) ?_
            exact ⟨hM, is_mk rfl rfl⟩
        · replace hM := ifn (Bool.eq_false_iff.1 (not_t hg65)) hM
          refine r_y rfl ?_
          refine r_v (Value.string (⟨(b).toArray⟩)) rfl rfl rfl rfl ?_
          refine r_y rfl ?_
          refine r_v (Value.string (⟨(a).toArray⟩)) rfl rfl rfl rfl ?_
          refine r_y rfl ?_
          replace hM := bind_sm hM; obtain ⟨r68, hr69, hM⟩ := hM
          refine r_c (Value.bool (r68)) rfl _ _ (ev_callF rfl call_26 rfl) (name_Less_g N b a _ hr69) ?_
          refine r_y rfl ?_
          refine r_v (Value.bool (!(r68))) rfl rfl rfl rfl ?_
          refine r_y rfl ?_
          refine r_v (Value.bool (!(r68))) rfl rfl rfl rfl ?_
          refine r_y rfl ?_
          refine r_v (Value.bool (((a) == (b)) != (!(r68)))) rfl rfl rfl (ev_binBn rfl rfl rfl) ?_
          refine r_v (Value.bool (((a) == (b)) != (!(r68)))) rfl rfl rfl rfl ?_
          refine lx_nil ?_
          refine hK59 _ _ ?_; try clear hK59 K59
          refine A_cond (((a) == (b)) != (!(r68))) rfl (fun hc70 => ?_) (fun hc70 => ?_)
          · replace hM := ifp (bne_iff_ne.1 hc70) hM
            refine A_seq fun K71 hK71 => ?_
            refine A_reg ?_
            refine r_v (Value.bool (false)) rfl rfl rfl rfl ?_
            refine lx_nil ?_
            refine hK71 _ _ ?_; try clear hK71 K71
            refine A_gen [(6, Value.bool (false))] rfl (fun T => ?_)
            obtain rfl := Option.some.inj hM
            refine A_ret (fun hn => ends_eq (v0 := Value.bool (false)) rfl (res1 rfl))
          · replace hM := ifn (bne_f hc70) hM
            refine A_skip ?_
            refine fg _ (Sub.of (List.Sublist.slnil)) ?_
            exact ⟨hM, is_mk rfl rfl⟩
      · replace hM := ifp hg62 hM
        refine r_y rfl ?_
        refine r_v (Value.string (⟨(b).toArray⟩)) rfl rfl rfl rfl ?_
        refine r_y rfl ?_
        refine r_v (Value.string (⟨(a).toArray⟩)) rfl rfl rfl rfl ?_
        refine r_y rfl ?_
        replace hM := bind_sm hM; obtain ⟨r72, hr73, hM⟩ := hM
        refine r_c (Value.bool (r72)) rfl _ _ (ev_callF rfl call_26 rfl) (name_Less_g N b a _ hr73) ?_
        refine r_v (Value.bool (r72)) rfl rfl rfl rfl ?_
        refine r_v (Value.bool (r72)) rfl rfl rfl rfl ?_
        rcases hg74 : (r72) with _ | _
        · replace hM := ifn (Bool.eq_false_iff.1 hg74) hM
          refine r_y rfl ?_
          refine r_v (Value.string (⟨(a).toArray⟩)) rfl rfl rfl rfl ?_
          refine r_y rfl ?_
          refine r_v (Value.string (⟨(b).toArray⟩)) rfl rfl rfl rfl ?_
          refine r_y rfl ?_
          refine r_v (Value.bool ((a) == (b))) rfl rfl rfl (ev_eqS rfl rfl) ?_
          refine r_y rfl ?_
          refine r_v (Value.string (⟨(a).toArray⟩)) rfl rfl rfl rfl ?_
          refine r_y rfl ?_
          refine r_v (Value.string (⟨(b).toArray⟩)) rfl rfl rfl rfl ?_
          refine r_y rfl ?_
          replace hM := bind_sm hM; obtain ⟨r75, hr76, hM⟩ := hM
          refine r_c (Value.bool (r75)) rfl _ _ (ev_callF rfl call_26 rfl) (name_Less_g N a b _ hr76) ?_
          refine r_y rfl ?_
          refine r_v (Value.bool (!(r75))) rfl rfl rfl rfl ?_
          refine r_y rfl ?_
          refine r_v (Value.bool (!(r75))) rfl rfl rfl rfl ?_
          rcases hg77 : (!(r75)) with _ | _
          · replace hM := ifp (not_f hg77) hM
            refine r_n false rfl (by decide) rfl ?_
            refine r_n false rfl (by decide) rfl ?_
            refine r_n false rfl (by decide) rfl ?_
            refine r_n false rfl (by decide) rfl ?_
            refine r_y rfl ?_
            refine r_v (Value.bool (false)) rfl rfl rfl rfl ?_
            refine r_y rfl ?_
            refine r_v (Value.bool (((a) == (b)) != (false))) rfl rfl rfl (ev_binBn rfl rfl rfl) ?_
            refine r_v (Value.bool (((a) == (b)) != (false))) rfl rfl rfl rfl ?_
            refine lx_nil ?_
            refine hK59 _ _ ?_; try clear hK59 K59
            refine A_cond (((a) == (b)) != (false)) rfl (fun hc78 => ?_) (fun hc78 => ?_)
            · replace hM := ifp (bne_iff_ne.1 hc78) hM
              refine A_seq fun K79 hK79 => ?_
              refine A_reg ?_
              refine r_v (Value.bool (false)) rfl rfl rfl rfl ?_
              refine lx_nil ?_
              refine hK79 _ _ ?_; try clear hK79 K79
              refine A_gen [(6, Value.bool (false))] rfl (fun T => ?_)
              obtain rfl := Option.some.inj hM
              refine A_ret (fun hn => ends_eq (v0 := Value.bool (false)) rfl (res1 rfl))
            · replace hM := ifn (bne_f hc78) hM
              refine A_skip ?_
              refine fg _ (Sub.of (List.Sublist.slnil)) ?_
              exact ⟨hM, is_mk rfl rfl⟩
          · replace hM := ifn (Bool.eq_false_iff.1 (not_t hg77)) hM
            refine r_y rfl ?_
            refine r_v (Value.string (⟨(b).toArray⟩)) rfl rfl rfl rfl ?_
            refine r_y rfl ?_
            refine r_v (Value.string (⟨(a).toArray⟩)) rfl rfl rfl rfl ?_
            refine r_y rfl ?_
            replace hM := bind_sm hM; obtain ⟨r80, hr81, hM⟩ := hM
            refine r_c (Value.bool (r80)) rfl _ _ (ev_callF rfl call_26 rfl) (name_Less_g N b a _ hr81) ?_
            refine r_y rfl ?_
            refine r_v (Value.bool (!(r80))) rfl rfl rfl rfl ?_
            refine r_y rfl ?_
            refine r_v (Value.bool (!(r80))) rfl rfl rfl rfl ?_
            refine r_y rfl ?_
            refine r_v (Value.bool (((a) == (b)) != (!(r80)))) rfl rfl rfl (ev_binBn rfl rfl rfl) ?_
            refine r_v (Value.bool (((a) == (b)) != (!(r80)))) rfl rfl rfl rfl ?_
            refine lx_nil ?_
            refine hK59 _ _ ?_; try clear hK59 K59
            refine A_cond (((a) == (b)) != (!(r80))) rfl (fun hc82 => ?_) (fun hc82 => ?_)
            · replace hM := ifp (bne_iff_ne.1 hc82) hM
              refine A_seq fun K83 hK83 => ?_
              refine A_reg ?_
              refine r_v (Value.bool (false)) rfl rfl rfl rfl ?_
              refine lx_nil ?_
              refine hK83 _ _ ?_; try clear hK83 K83
              refine A_gen [(6, Value.bool (false))] rfl (fun T => ?_)
              obtain rfl := Option.some.inj hM
              refine A_ret (fun hn => ends_eq (v0 := Value.bool (false)) rfl (res1 rfl))
            · replace hM := ifn (bne_f hc82) hM
              refine A_skip ?_
              refine fg _ (Sub.of (List.Sublist.slnil)) ?_
              exact ⟨hM, is_mk rfl rfl⟩
        · replace hM := ifp hg74 hM
          refine r_n true rfl (by decide) rfl ?_
          refine r_n true rfl (by decide) rfl ?_
          refine r_n true rfl (by decide) rfl ?_
          refine r_n true rfl (by decide) rfl ?_
          refine r_n true rfl (by decide) rfl ?_
          refine r_n true rfl (by decide) rfl ?_
          refine r_n true rfl (by decide) rfl ?_
          refine r_n true rfl (by decide) rfl ?_
          refine r_nu rfl rfl ?_
          refine r_nu rfl rfl ?_
          refine r_nu rfl rfl ?_
          refine r_nu rfl rfl ?_
          refine r_n true rfl (by decide) rfl ?_
          refine r_n true rfl (by decide) rfl ?_
          refine r_v (Value.bool (true)) rfl rfl rfl rfl ?_
          refine lx_nil ?_
          refine hK59 _ _ ?_; try clear hK59 K59
          refine A_cond true rfl (fun _ => ?_) (fun h_ => nomatch h_)
          refine A_seq fun K84 hK84 => ?_
          refine A_reg ?_
          refine r_v (Value.bool (false)) rfl rfl rfl rfl ?_
          refine lx_nil ?_
          refine hK84 _ _ ?_; try clear hK84 K84
          refine A_gen [(6, Value.bool (false))] rfl (fun T => ?_)
          obtain rfl := Option.some.inj hM
          refine A_ret (fun hn => ends_eq (v0 := Value.bool (false)) rfl (res1 rfl))
    · clear hM; rintro t l ⟨hM, ⟨T, rfl⟩, rfl⟩
      unfold shunterlaw05_NameOrders_k2 at hM
      refine A_cut (fun tt ll => (shunterlaw05_NameOrders_k3 N a b c  = some r) ∧ Is [(0, Value.string (⟨(a).toArray⟩)), (1, Value.string (⟨(b).toArray⟩)), (2, Value.string (⟨(c).toArray⟩))] [] tt ll) ?_ ?_
      · refine A_seq fun K48 hK48 => ?_
        refine A_reg ?_
        refine r_v (Value.string (⟨(a).toArray⟩)) rfl rfl rfl rfl ?_
        refine r_v (Value.string (⟨(b).toArray⟩)) rfl rfl rfl rfl ?_
        replace hM := bind_sm hM; obtain ⟨r49, hr50, hM⟩ := hM
        refine r_c (Value.bool (r49)) rfl _ _ (ev_callF rfl call_26 rfl) (name_Less_g N a b _ hr50) ?_
        refine r_v (Value.bool (r49)) rfl rfl rfl rfl ?_
        rcases hg51 : (r49) with _ | _
        · replace hM := ifn (Bool.eq_false_iff.1 hg51) hM
          refine r_n false rfl (by decide) rfl ?_
          refine r_n false rfl (by decide) rfl ?_
          refine r_n false rfl (by decide) rfl ?_
          refine r_v (Value.bool (false)) rfl rfl rfl rfl ?_
          refine r_v (Value.bool (false)) rfl rfl rfl rfl ?_
          refine r_n false rfl (by decide) rfl ?_
          refine r_n false rfl (by decide) rfl ?_
          refine r_n false rfl (by decide) rfl ?_
          refine r_n false rfl (by decide) rfl ?_
          refine r_v (Value.bool (false)) rfl rfl rfl rfl ?_
          refine lx_nil ?_
          refine hK48 _ _ ?_; try clear hK48 K48
          refine A_cond false rfl (fun h_ => nomatch h_) (fun _ => ?_)
          refine A_skip ?_
          refine fg _ (Sub.of (List.Sublist.slnil)) ?_
          exact ⟨hM, is_mk rfl rfl⟩
        · replace hM := ifp hg51 hM
          refine r_y rfl ?_
          refine r_v (Value.string (⟨(b).toArray⟩)) rfl rfl rfl rfl ?_
          refine r_y rfl ?_
          refine r_v (Value.string (⟨(c).toArray⟩)) rfl rfl rfl rfl ?_
          refine r_y rfl ?_
          replace hM := bind_sm hM; obtain ⟨r52, hr53, hM⟩ := hM
          refine r_c (Value.bool (r52)) rfl _ _ (ev_callF rfl call_26 rfl) (name_Less_g N b c _ hr53) ?_
          refine r_v (Value.bool (r52)) rfl rfl rfl rfl ?_
          refine r_v (Value.bool (r52)) rfl rfl rfl rfl ?_
          rcases hg54 : (r52) with _ | _
          · replace hM := ifn (Bool.eq_false_iff.1 hg54) hM
            refine r_n false rfl (by decide) rfl ?_
            refine r_n false rfl (by decide) rfl ?_
            refine r_n false rfl (by decide) rfl ?_
            refine r_n false rfl (by decide) rfl ?_
            refine r_v (Value.bool (false)) rfl rfl rfl rfl ?_
            refine lx_nil ?_
            refine hK48 _ _ ?_; try clear hK48 K48
            refine A_cond false rfl (fun h_ => nomatch h_) (fun _ => ?_)
            refine A_skip ?_
            refine fg _ (Sub.of (List.Sublist.slnil)) ?_
            exact ⟨hM, is_mk rfl rfl⟩
          · replace hM := ifp hg54 hM
            refine r_y rfl ?_
            refine r_v (Value.string (⟨(a).toArray⟩)) rfl rfl rfl rfl ?_
            refine r_y rfl ?_
            refine r_v (Value.string (⟨(c).toArray⟩)) rfl rfl rfl rfl ?_
            refine r_y rfl ?_
            replace hM := bind_sm hM; obtain ⟨r55, hr56, hM⟩ := hM
            refine r_c (Value.bool (r55)) rfl _ _ (ev_callF rfl call_26 rfl) (name_Less_g N a c _ hr56) ?_
            refine r_y rfl ?_
            refine r_v (Value.bool (!(r55))) rfl rfl rfl rfl ?_
            refine r_v (Value.bool (!(r55))) rfl rfl rfl rfl ?_
            refine lx_nil ?_
            refine hK48 _ _ ?_; try clear hK48 K48
            refine A_cond (!(r55)) rfl (fun hc57 => ?_) (fun hc57 => ?_)
            · replace hM := ifn (Bool.eq_false_iff.1 (not_t hc57)) hM
              refine A_seq fun K58 hK58 => ?_
              refine A_reg ?_
              refine r_v (Value.bool (false)) rfl rfl rfl rfl ?_
              refine lx_nil ?_
              refine hK58 _ _ ?_; try clear hK58 K58
              obtain rfl := Option.some.inj hM
              refine A_ret (fun hn => ends_eq (v0 := Value.bool (false)) rfl (res1 rfl))
            · replace hM := ifp (not_f hc57) hM
              refine A_skip ?_
              refine fg _ (Sub.of (List.Sublist.slnil)) ?_
              exact ⟨hM, is_mk rfl rfl⟩
      · clear hM; rintro t l ⟨hM, ⟨T, rfl⟩, rfl⟩
        unfold shunterlaw05_NameOrders_k3 at hM
        refine A_cut (fun tt ll => (shunterlaw05_NameOrders_k4 N a b  = some r) ∧ Is [(0, Value.string (⟨(a).toArray⟩)), (1, Value.string (⟨(b).toArray⟩))] [] tt ll) ?_ ?_
        · refine A_seq fun K34 hK34 => ?_
          refine A_reg ?_
          refine r_v (Value.string (⟨(a).toArray⟩)) rfl rfl rfl rfl ?_
          refine r_v (Value.string (⟨(c).toArray⟩)) rfl rfl rfl rfl ?_
          replace hM := bind_sm hM; obtain ⟨r35, hr36, hM⟩ := hM
          refine r_c (Value.bool (r35)) rfl _ _ (ev_callF rfl call_25 rfl) (name_Alike_g N a c _ hr36) ?_
          refine r_v (Value.bool (r35)) rfl rfl rfl rfl ?_
          rcases hg37 : (r35) with _ | _
          · replace hM := ifn (Bool.eq_false_iff.1 hg37) hM
            refine r_n false rfl (by decide) rfl ?_
            refine r_n false rfl (by decide) rfl ?_
            refine r_n false rfl (by decide) rfl ?_
            refine r_v (Value.bool (false)) rfl rfl rfl rfl ?_
            refine r_v (Value.bool (false)) rfl rfl rfl rfl ?_
            refine r_n false rfl (by decide) rfl ?_
            refine r_n false rfl (by decide) rfl ?_
            refine r_n false rfl (by decide) rfl ?_
            refine r_v (Value.bool (false)) rfl rfl rfl rfl ?_
            refine r_v (Value.bool (false)) rfl rfl rfl rfl ?_
            refine r_n false rfl (by decide) rfl ?_
            refine r_n false rfl (by decide) rfl ?_
            refine r_n false rfl (by decide) rfl ?_
            refine r_n false rfl (by decide) rfl ?_
            refine r_v (Value.bool (false)) rfl rfl rfl rfl ?_
            refine lx_nil ?_
            refine hK34 _ _ ?_; try clear hK34 K34
            refine A_cond false rfl (fun h_ => nomatch h_) (fun _ => ?_)
            refine A_skip ?_
            refine fg _ (Sub.of (List.Sublist.slnil)) ?_
            exact ⟨hM, is_mk rfl rfl⟩
          · replace hM := ifp hg37 hM
            refine r_y rfl ?_
            refine r_v (Value.string (⟨(a).toArray⟩)) rfl rfl rfl rfl ?_
            refine r_y rfl ?_
            refine r_v (Value.string (⟨(b).toArray⟩)) rfl rfl rfl rfl ?_
            refine r_y rfl ?_
            replace hM := bind_sm hM; obtain ⟨r38, hr39, hM⟩ := hM
            refine r_c (Value.bool (r38)) rfl _ _ (ev_callF rfl call_26 rfl) (name_Less_g N a b _ hr39) ?_
            refine r_v (Value.bool (r38)) rfl rfl rfl rfl ?_
            refine r_v (Value.bool (r38)) rfl rfl rfl rfl ?_
            rcases hg40 : (r38) with _ | _
            · replace hM := ifn (Bool.eq_false_iff.1 hg40) hM
              refine r_n false rfl (by decide) rfl ?_
              refine r_n false rfl (by decide) rfl ?_
              refine r_n false rfl (by decide) rfl ?_
              refine r_v (Value.bool (false)) rfl rfl rfl rfl ?_
              refine r_v (Value.bool (false)) rfl rfl rfl rfl ?_
              refine r_n false rfl (by decide) rfl ?_
              refine r_n false rfl (by decide) rfl ?_
              refine r_n false rfl (by decide) rfl ?_
              refine r_n false rfl (by decide) rfl ?_
              refine r_v (Value.bool (false)) rfl rfl rfl rfl ?_
              refine lx_nil ?_
              refine hK34 _ _ ?_; try clear hK34 K34
              refine A_cond false rfl (fun h_ => nomatch h_) (fun _ => ?_)
              refine A_skip ?_
              refine fg _ (Sub.of (List.Sublist.slnil)) ?_
              exact ⟨hM, is_mk rfl rfl⟩
            · replace hM := ifp hg40 hM
              refine r_y rfl ?_
              refine r_v (Value.string (⟨(b).toArray⟩)) rfl rfl rfl rfl ?_
              refine r_y rfl ?_
              refine r_v (Value.string (⟨(c).toArray⟩)) rfl rfl rfl rfl ?_
              refine r_y rfl ?_
              replace hM := bind_sm hM; obtain ⟨r41, hr42, hM⟩ := hM
              refine r_c (Value.bool (r41)) rfl _ _ (ev_callF rfl call_26 rfl) (name_Less_g N b c _ hr42) ?_
              refine r_v (Value.bool (r41)) rfl rfl rfl rfl ?_
              refine r_v (Value.bool (r41)) rfl rfl rfl rfl ?_
              rcases hg43 : (r41) with _ | _
              · replace hM := ifn (Bool.eq_false_iff.1 hg43) hM
                refine r_n false rfl (by decide) rfl ?_
                refine r_n false rfl (by decide) rfl ?_
                refine r_n false rfl (by decide) rfl ?_
                refine r_n false rfl (by decide) rfl ?_
                refine r_v (Value.bool (false)) rfl rfl rfl rfl ?_
                refine lx_nil ?_
                refine hK34 _ _ ?_; try clear hK34 K34
                refine A_cond false rfl (fun h_ => nomatch h_) (fun _ => ?_)
                refine A_skip ?_
                refine fg _ (Sub.of (List.Sublist.slnil)) ?_
                exact ⟨hM, is_mk rfl rfl⟩
              · replace hM := ifp hg43 hM
                refine r_y rfl ?_
                refine r_v (Value.string (⟨(a).toArray⟩)) rfl rfl rfl rfl ?_
                refine r_y rfl ?_
                refine r_v (Value.string (⟨(b).toArray⟩)) rfl rfl rfl rfl ?_
                refine r_y rfl ?_
                replace hM := bind_sm hM; obtain ⟨r44, hr45, hM⟩ := hM
                refine r_c (Value.bool (r44)) rfl _ _ (ev_callF rfl call_25 rfl) (name_Alike_g N a b _ hr45) ?_
                refine r_y rfl ?_
                refine r_v (Value.bool (!(r44))) rfl rfl rfl rfl ?_
                refine r_v (Value.bool (!(r44))) rfl rfl rfl rfl ?_
                refine lx_nil ?_
                refine hK34 _ _ ?_; try clear hK34 K34
                refine A_cond (!(r44)) rfl (fun hc46 => ?_) (fun hc46 => ?_)
                · replace hM := ifn (Bool.eq_false_iff.1 (not_t hc46)) hM
                  refine A_seq fun K47 hK47 => ?_
                  refine A_reg ?_
                  refine r_v (Value.bool (false)) rfl rfl rfl rfl ?_
                  refine lx_nil ?_
                  refine hK47 _ _ ?_; try clear hK47 K47
                  obtain rfl := Option.some.inj hM
                  refine A_ret (fun hn => ends_eq (v0 := Value.bool (false)) rfl (res1 rfl))
                · replace hM := ifp (not_f hc46) hM
                  refine A_skip ?_
                  refine fg _ (Sub.of (List.Sublist.slnil)) ?_
                  exact ⟨hM, is_mk rfl rfl⟩
        · clear hM; rintro t l ⟨hM, ⟨T, rfl⟩, rfl⟩
          unfold shunterlaw05_NameOrders_k4 at hM
          refine A_seq fun K2 hK2 => ?_
          refine A_reg ?_
          refine r_v (Value.string (⟨(a).toArray⟩)) rfl rfl rfl rfl ?_
          refine r_v (Value.string (⟨(b).toArray⟩)) rfl rfl rfl rfl ?_
          replace hM := bind_sm hM; obtain ⟨r3, hr4, hM⟩ := hM
          refine r_c (Value.bool (r3)) rfl _ _ (ev_callF rfl call_25 rfl) (name_Alike_g N a b _ hr4) ?_
          refine r_v (Value.string (⟨(b).toArray⟩)) rfl rfl rfl rfl ?_
          refine r_v (Value.string (⟨(a).toArray⟩)) rfl rfl rfl rfl ?_
          replace hM := bind_sm hM; obtain ⟨r5, hr6, hM⟩ := hM
          refine r_c (Value.bool (r5)) rfl _ _ (ev_callF rfl call_25 rfl) (name_Alike_g N b a _ hr6) ?_
          refine r_v (Value.bool ((r3) == (r5))) rfl rfl rfl (ev_binB rfl rfl rfl) ?_
          refine r_v (Value.bool ((r3) == (r5))) rfl rfl rfl rfl ?_
          rcases hg7 : ((r3) == (r5)) with _ | _
          · replace hM := ifn (ne_of_beq_false hg7) hM
            refine r_n false rfl (by decide) rfl ?_
            refine r_n false rfl (by decide) rfl ?_
            refine r_n false rfl (by decide) rfl ?_
            refine r_n false rfl (by decide) rfl ?_
            refine r_v (Value.bool (false)) rfl rfl rfl rfl ?_
            refine r_v (Value.bool (false)) rfl rfl rfl rfl ?_
            refine r_n false rfl (by decide) rfl ?_
            refine r_n false rfl (by decide) rfl ?_
            refine r_n false rfl (by decide) rfl ?_
            refine r_n false rfl (by decide) rfl ?_
            refine r_n false rfl (by decide) rfl ?_
            refine r_n false rfl (by decide) rfl ?_
            refine r_v (Value.bool (false)) rfl rfl rfl rfl ?_
            refine r_v (Value.bool (false)) rfl rfl rfl rfl ?_
            refine r_n false rfl (by decide) rfl ?_
            refine r_n false rfl (by decide) rfl ?_
            refine r_n false rfl (by decide) rfl ?_
            refine r_n false rfl (by decide) rfl ?_
            refine r_n false rfl (by decide) rfl ?_
            refine r_n false rfl (by decide) rfl ?_
            refine r_v (Value.bool (false)) rfl rfl rfl rfl ?_
            refine r_v (Value.bool (false)) rfl rfl rfl rfl ?_
            refine r_n false rfl (by decide) rfl ?_
            refine r_n false rfl (by decide) rfl ?_
            refine r_n false rfl (by decide) rfl ?_
            refine r_n false rfl (by decide) rfl ?_
            refine r_n false rfl (by decide) rfl ?_
            refine r_n false rfl (by decide) rfl ?_
            refine r_v (Value.bool (false)) rfl rfl rfl rfl ?_
            refine r_v (Value.bool (false)) rfl rfl rfl rfl ?_
            refine r_n false rfl (by decide) rfl ?_
            refine r_v (Value.bool (false)) rfl rfl rfl rfl ?_
            refine r_v (Value.bool (false)) rfl rfl rfl rfl ?_
            refine lx_nil ?_
            refine hK2 _ _ ?_; try clear hK2 K2
            refine A_gen [(6, Value.bool (false))] rfl (fun T => ?_)
            obtain rfl := Option.some.inj hM
            refine A_ret (fun hn => ends_eq (v0 := Value.bool (false)) rfl (res1 rfl))
          · replace hM := ifp (eq_of_beq hg7) hM
            refine r_y rfl ?_
            refine r_v (Value.string (⟨(a).toArray⟩)) rfl rfl rfl rfl ?_
            refine r_y rfl ?_
            refine r_v (Value.string (⟨(a).toArray⟩)) rfl rfl rfl rfl ?_
            refine r_y rfl ?_
            replace hM := bind_sm hM; obtain ⟨r8, hr9, hM⟩ := hM
            refine r_c (Value.string (⟨(r8).toArray⟩)) rfl _ _ (ev_callF rfl call_23 rfl) (name_Key_g N a _ hr9) ?_
            refine r_y rfl ?_
            replace hM := bind_sm hM; obtain ⟨r10, hr11, hM⟩ := hM
            refine r_c (Value.bool (r10)) rfl _ _ (ev_callF rfl call_25 rfl) (name_Alike_g N a r8 _ hr11) ?_
            refine r_v (Value.bool (r10)) rfl rfl rfl rfl ?_
            refine r_v (Value.bool (r10)) rfl rfl rfl rfl ?_
            rcases hg12 : (r10) with _ | _
            · replace hM := ifn (Bool.eq_false_iff.1 hg12) hM
              refine r_n false rfl (by decide) rfl ?_
              refine r_n false rfl (by decide) rfl ?_
              refine r_n false rfl (by decide) rfl ?_
              refine r_n false rfl (by decide) rfl ?_
              refine r_n false rfl (by decide) rfl ?_
              refine r_n false rfl (by decide) rfl ?_
              refine r_v (Value.bool (false)) rfl rfl rfl rfl ?_
              refine r_v (Value.bool (false)) rfl rfl rfl rfl ?_
              refine r_n false rfl (by decide) rfl ?_
              refine r_n false rfl (by decide) rfl ?_
              refine r_n false rfl (by decide) rfl ?_
              refine r_n false rfl (by decide) rfl ?_
              refine r_n false rfl (by decide) rfl ?_
              refine r_n false rfl (by decide) rfl ?_
              refine r_v (Value.bool (false)) rfl rfl rfl rfl ?_
              refine r_v (Value.bool (false)) rfl rfl rfl rfl ?_
              refine r_n false rfl (by decide) rfl ?_
              refine r_n false rfl (by decide) rfl ?_
              refine r_n false rfl (by decide) rfl ?_
              refine r_n false rfl (by decide) rfl ?_
              refine r_n false rfl (by decide) rfl ?_
              refine r_n false rfl (by decide) rfl ?_
              refine r_v (Value.bool (false)) rfl rfl rfl rfl ?_
              refine r_v (Value.bool (false)) rfl rfl rfl rfl ?_
              refine r_n false rfl (by decide) rfl ?_
              refine r_v (Value.bool (false)) rfl rfl rfl rfl ?_
              refine r_v (Value.bool (false)) rfl rfl rfl rfl ?_
              refine lx_nil ?_
              refine hK2 _ _ ?_; try clear hK2 K2
              refine A_gen [(6, Value.bool (false))] rfl (fun T => ?_)
              obtain rfl := Option.some.inj hM
              refine A_ret (fun hn => ends_eq (v0 := Value.bool (false)) rfl (res1 rfl))
            · replace hM := ifp hg12 hM
              refine r_y rfl ?_
              refine r_v (Value.string (⟨(a).toArray⟩)) rfl rfl rfl rfl ?_
              refine r_y rfl ?_
              replace hM := bind_sm hM; obtain ⟨r13, hr14, hM⟩ := hM
              refine r_c (Value.string (⟨(r13).toArray⟩)) rfl _ _ (ev_callF rfl call_23 rfl) (name_Key_g N a _ hr14) ?_
              refine r_y rfl ?_
              replace hM := bind_sm hM; obtain ⟨r15, hr16, hM⟩ := hM
              refine r_c (Value.string (⟨(r15).toArray⟩)) rfl _ _ (ev_callF rfl call_23 rfl) (name_Key_g N r13 _ hr16) ?_
              refine r_y rfl ?_
              refine r_v (Value.string (⟨(a).toArray⟩)) rfl rfl rfl rfl ?_
              refine r_y rfl ?_
              replace hM := bind_sm hM; obtain ⟨r17, hr18, hM⟩ := hM
              refine r_c (Value.string (⟨(r17).toArray⟩)) rfl _ _ (ev_callF rfl call_23 rfl) (name_Key_g N a _ hr18) ?_
              refine r_y rfl ?_
              refine r_v (Value.bool ((r15) == (r17))) rfl rfl rfl (ev_eqS rfl rfl) ?_
              refine r_v (Value.bool ((r15) == (r17))) rfl rfl rfl rfl ?_
              refine r_v (Value.bool ((r15) == (r17))) rfl rfl rfl rfl ?_
              rcases hg19 : ((r15) == (r17)) with _ | _
              · replace hM := ifn (ne_of_beq_false hg19) hM
                refine r_n false rfl (by decide) rfl ?_
                refine r_n false rfl (by decide) rfl ?_
                refine r_n false rfl (by decide) rfl ?_
                refine r_n false rfl (by decide) rfl ?_
                refine r_n false rfl (by decide) rfl ?_
                refine r_n false rfl (by decide) rfl ?_
                refine r_v (Value.bool (false)) rfl rfl rfl rfl ?_
                refine r_v (Value.bool (false)) rfl rfl rfl rfl ?_
                refine r_n false rfl (by decide) rfl ?_
                refine r_n false rfl (by decide) rfl ?_
                refine r_n false rfl (by decide) rfl ?_
                refine r_n false rfl (by decide) rfl ?_
                refine r_n false rfl (by decide) rfl ?_
                refine r_n false rfl (by decide) rfl ?_
                refine r_v (Value.bool (false)) rfl rfl rfl rfl ?_
                refine r_v (Value.bool (false)) rfl rfl rfl rfl ?_
                refine r_n false rfl (by decide) rfl ?_
                refine r_v (Value.bool (false)) rfl rfl rfl rfl ?_
                refine r_v (Value.bool (false)) rfl rfl rfl rfl ?_
                refine lx_nil ?_
                refine hK2 _ _ ?_; try clear hK2 K2
                refine A_gen [(6, Value.bool (false))] rfl (fun T => ?_)
                obtain rfl := Option.some.inj hM
                refine A_ret (fun hn => ends_eq (v0 := Value.bool (false)) rfl (res1 rfl))
              · replace hM := ifp (eq_of_beq hg19) hM
                refine r_y rfl ?_
                refine r_v (Value.string (⟨(a).toArray⟩)) rfl rfl rfl rfl ?_
                refine r_y rfl ?_
                replace hM := bind_sm hM; obtain ⟨r20, hr21, hM⟩ := hM
                refine r_c (Value.string (⟨(r20).toArray⟩)) rfl _ _ (ev_callF rfl call_23 rfl) (name_Key_g N a _ hr21) ?_
                refine r_y rfl ?_
                replace hM := bind_sm hM; obtain ⟨r22, hr23, hM⟩ := hM
                refine r_c (Value.bool (r22)) rfl _ _ (ev_callF rfl call_15 rfl) (name_May_g N r20 _ hr23) ?_
                refine r_y rfl ?_
                refine r_v (Value.string (⟨(a).toArray⟩)) rfl rfl rfl rfl ?_
                refine r_y rfl ?_
                replace hM := bind_sm hM; obtain ⟨r24, hr25, hM⟩ := hM
                refine r_c (Value.bool (r24)) rfl _ _ (ev_callF rfl call_15 rfl) (name_May_g N a _ hr25) ?_
                refine r_y rfl ?_
                refine r_v (Value.bool ((r22) == (r24))) rfl rfl rfl (ev_binB rfl rfl rfl) ?_
                refine r_v (Value.bool ((r22) == (r24))) rfl rfl rfl rfl ?_
                refine r_v (Value.bool ((r22) == (r24))) rfl rfl rfl rfl ?_
                rcases hg26 : ((r22) == (r24)) with _ | _
                · replace hM := ifn (ne_of_beq_false hg26) hM
                  refine r_n false rfl (by decide) rfl ?_
                  refine r_n false rfl (by decide) rfl ?_
                  refine r_n false rfl (by decide) rfl ?_
                  refine r_n false rfl (by decide) rfl ?_
                  refine r_n false rfl (by decide) rfl ?_
                  refine r_n false rfl (by decide) rfl ?_
                  refine r_v (Value.bool (false)) rfl rfl rfl rfl ?_
                  refine r_v (Value.bool (false)) rfl rfl rfl rfl ?_
                  refine r_n false rfl (by decide) rfl ?_
                  refine r_v (Value.bool (false)) rfl rfl rfl rfl ?_
                  refine r_v (Value.bool (false)) rfl rfl rfl rfl ?_
                  refine lx_nil ?_
                  refine hK2 _ _ ?_; try clear hK2 K2
                  refine A_gen [(6, Value.bool (false))] rfl (fun T => ?_)
                  obtain rfl := Option.some.inj hM
                  refine A_ret (fun hn => ends_eq (v0 := Value.bool (false)) rfl (res1 rfl))
                · replace hM := ifp (eq_of_beq hg26) hM
                  refine r_y rfl ?_
                  refine r_v (Value.string (⟨(a).toArray⟩)) rfl rfl rfl rfl ?_
                  refine r_y rfl ?_
                  refine r_v (Value.string (⟨(a).toArray⟩)) rfl rfl rfl rfl ?_
                  refine r_y rfl ?_
                  replace hM := bind_sm hM; obtain ⟨r27, hr28, hM⟩ := hM
                  refine r_c (Value.int .i64 (r27)) rfl _ _ (ev_callF rfl call_12 rfl) (name_Len_g N a _ hr28) ?_
                  refine r_y rfl ?_
                  replace hM := bind_sm hM; obtain ⟨r29, hr30, hM⟩ := hM
                  refine r_c (Value.string (⟨(r29).toArray⟩)) rfl _ _ (ev_callF rfl call_13 rfl) (name_Clip_g N a r27 _ hr30) ?_
                  refine r_y rfl ?_
                  refine r_v (Value.string (⟨(a).toArray⟩)) rfl rfl rfl rfl ?_
                  refine r_y rfl ?_
                  refine r_v (Value.bool ((r29) == (a))) rfl rfl rfl (ev_eqS rfl rfl) ?_
                  refine r_v (Value.bool ((r29) == (a))) rfl rfl rfl rfl ?_
                  refine r_v (Value.bool ((r29) == (a))) rfl rfl rfl rfl ?_
                  rcases hg31 : ((r29) == (a)) with _ | _
                  · replace hM := ifn (ne_of_beq_false hg31) hM
                    refine r_n false rfl (by decide) rfl ?_
                    refine r_v (Value.bool (false)) rfl rfl rfl rfl ?_
                    refine r_v (Value.bool (false)) rfl rfl rfl rfl ?_
                    refine lx_nil ?_
                    refine hK2 _ _ ?_; try clear hK2 K2
                    refine A_gen [(6, Value.bool (false))] rfl (fun T => ?_)
                    obtain rfl := Option.some.inj hM
                    refine A_ret (fun hn => ends_eq (v0 := Value.bool (false)) rfl (res1 rfl))
                  · replace hM := ifp (eq_of_beq hg31) hM
                    refine r_y rfl ?_
                    replace hM := bind_sm hM; obtain ⟨r32, hr33, hM⟩ := hM
                    refine r_c (Value.bool (r32)) rfl _ _ (ev_callF rfl call_9 rfl) (shunterlaw05_lives_g N  _ hr33) ?_
                    refine r_v (Value.bool (r32)) rfl rfl rfl rfl ?_
                    refine r_v (Value.bool (r32)) rfl rfl rfl rfl ?_
                    refine lx_nil ?_
                    refine hK2 _ _ ?_; try clear hK2 K2
                    refine A_gen [(6, Value.bool (r32))] rfl (fun T => ?_)
                    obtain rfl := Option.some.inj hM
                    refine A_ret (fun hn => ends_eq (v0 := Value.bool (r32)) rfl (res1 rfl))
end Go.Proofs.Ytniakkkjiifelaa
