/- models of functions and their walks -/
import Derived.Test.YtdgejbbelmhbdaaBe
namespace Go.Proofs.Ytdgejbbelmhbdaa
open Go Go.RowKit Go.Eng
def wire_Reader_At_v1_m (_ : Nat) (_ : List UInt8) (r_1 : Int) (_ : Int) : Option (Int) := some (r_1)
set_option maxRecDepth 100000 in
set_option maxHeartbeats 8000000 in
theorem wire_Reader_At_v1_g (N : Nat) (r_0 : List UInt8) (r_1 : Int) (r_2 : Int) (r : Int) (hM : wire_Reader_At_v1_m N r_0 r_1 r_2 = some r) (ro : Addr → Option Value) (br : Nat) (r_0v : Value) (_hr_0 : Rd encY ro r_0v r_0) (hbr : Blk ro br [r_0v, Value.int .i64 (r_1), Value.int .i64 (r_2)]) : Does Try.prog 11 #[Value.pointer (some ⟨br, 0, none⟩)] ro [] (pV (Value.int .i64 (r))) := by
  unfold wire_Reader_At_v1_m at hM
  refine does_of_A follows Try.func11 rfl 10 rfl (upd (fun _ => undef) 0 (Value.pointer (some ⟨br, 0, none⟩))) (by funext k; match k with | 0 => rfl | k + 1 => rfl) (fun base0_ => ?_)
  refine A_seq fun K1 hK1 => ?_
  refine A_reg ?_
  refine r_v (Value.int .i64 (0)) rfl rfl rfl rfl ?_
  refine lx_nil ?_
  refine hK1 _ _ ?_; try clear hK1 K1
  refine A_seq fun K2 hK2 => ?_
  refine A_seq fun K3 hK3 => ?_
  refine A_reg ?_
  refine r_v (Value.pointer (some ⟨br, 0, none⟩)) rfl rfl rfl rfl ?_
  refine r_v (Value.bool (false)) rfl rfl rfl rfl ?_
  refine lx_nil ?_
  refine hK3 _ _ ?_; try clear hK3 K3
  refine A_cond false rfl (fun h_ => nomatch h_) (fun _ => ?_)
  refine A_skip ?_
  refine hK2 _ _ ?_; try clear hK2 K2
  refine A_seq fun K4 hK4 => ?_
  refine A_reg ?_
  refine r_v (Value.pointer (some ⟨br, 0, none⟩)) rfl rfl rfl rfl ?_
  refine r_v (Value.pointer (some ⟨br, 0, none⟩)) rfl rfl rfl rfl ?_
  refine r_v (Value.pointer (some ⟨br, 1, none⟩)) rfl rfl rfl rfl ?_
  refine r_v (Value.pointer (some ⟨br, 1, none⟩)) rfl rfl rfl rfl ?_
  refine r_lb (Value.int .i64 (r_1)) (vs := [r_0v, Value.int .i64 (r_1), Value.int .i64 (r_2)]) (o := 1) rfl rfl (blk_ro hbr) rfl ?_
  refine r_v (Value.int .i64 (r_1)) rfl rfl rfl rfl ?_
  refine lx_nil ?_
  refine hK4 _ _ ?_; try clear hK4 K4
  obtain rfl := Option.some.inj hM
  refine A_ret (fun hn => endsV (v0 := Value.int .i64 (r_1)) rfl (res1 rfl))
def wire_Reader_Left_v1_m (_ : Nat) (r_0 : List UInt8) (r_1 : Int) (_ : Int) : Option (Int) := ck ((-9223372036854775808 ≤ (((r_0).length : Int) - r_1) ∧ (((r_0).length : Int) - r_1) ≤ 9223372036854775807)) (some ((((r_0).length : Int) - r_1)))
set_option maxRecDepth 100000 in
set_option maxHeartbeats 8000000 in
theorem wire_Reader_Left_v1_g (N : Nat) (r_0 : List UInt8) (r_1 : Int) (r_2 : Int) (r : Int) (hM : wire_Reader_Left_v1_m N r_0 r_1 r_2 = some r) (ro : Addr → Option Value) (br : Nat) (r_0v : Value) (hr_0 : Rd encY ro r_0v r_0) (hbr : Blk ro br [r_0v, Value.int .i64 (r_1), Value.int .i64 (r_2)]) : Does Try.prog 12 #[Value.pointer (some ⟨br, 0, none⟩)] ro [] (pV (Value.int .i64 (r))) := by
  unfold wire_Reader_Left_v1_m at hM
  refine does_of_A follows Try.func12 rfl 16 rfl (upd (fun _ => undef) 0 (Value.pointer (some ⟨br, 0, none⟩))) (by funext k; match k with | 0 => rfl | k + 1 => rfl) (fun base0_ => ?_)
  refine A_seq fun K1 hK1 => ?_
  refine A_reg ?_
  refine r_v (Value.int .i64 (0)) rfl rfl rfl rfl ?_
  refine lx_nil ?_
  refine hK1 _ _ ?_; try clear hK1 K1
  refine A_seq fun K2 hK2 => ?_
  refine A_seq fun K3 hK3 => ?_
  refine A_reg ?_
  refine r_v (Value.pointer (some ⟨br, 0, none⟩)) rfl rfl rfl rfl ?_
  refine r_v (Value.bool (false)) rfl rfl rfl rfl ?_
  refine lx_nil ?_
  refine hK3 _ _ ?_; try clear hK3 K3
  refine A_cond false rfl (fun h_ => nomatch h_) (fun _ => ?_)
  refine A_skip ?_
  refine hK2 _ _ ?_; try clear hK2 K2
  refine A_seq fun K4 hK4 => ?_
  refine A_draw [] (by decide +kernel) (fun hn => sep_nil) ?_
  refine r_v (Value.pointer (some ⟨br, 0, none⟩)) rfl rfl rfl rfl ?_
  refine r_v (Value.pointer (some ⟨br, 0, none⟩)) rfl rfl rfl rfl ?_
  refine r_v (Value.pointer (some ⟨br, 0, none⟩)) rfl rfl rfl rfl ?_
  refine r_lb (r_0v) (vs := [r_0v, Value.int .i64 (r_1), Value.int .i64 (r_2)]) (o := 0) rfl rfl (blk_ro hbr) rfl ?_
  refine r_v (Value.int .i64 (((r_0).length : Int))) rfl rfl rfl (ev_lenSl rfl rfl rfl (Rd.shp hr_0)) ?_
  refine r_v (Value.pointer (some ⟨br, 0, none⟩)) rfl rfl rfl rfl ?_
  refine r_v (Value.pointer (some ⟨br, 0, none⟩)) rfl rfl rfl rfl ?_
  refine r_v (Value.pointer (some ⟨br, 1, none⟩)) rfl rfl rfl rfl ?_
  refine r_v (Value.pointer (some ⟨br, 1, none⟩)) rfl rfl rfl rfl ?_
  refine r_lb (Value.int .i64 (r_1)) (vs := [r_0v, Value.int .i64 (r_1), Value.int .i64 (r_2)]) (o := 1) rfl rfl (blk_ro hbr) rfl ?_
  replace hM := ck_some hM; obtain ⟨ck5, hM⟩ := hM
  refine r_v (Value.int .i64 ((((r_0).length : Int) - r_1))) rfl rfl (wi64 rfl ck5.1 ck5.2) rfl ?_
  refine r_v (Value.int .i64 ((((r_0).length : Int) - r_1))) rfl rfl rfl rfl ?_
  refine lx_nil ?_
  refine hK4 _ _ ?_; try clear hK4 K4
  obtain rfl := Option.some.inj hM
  refine A_ret (fun hn => endsV (v0 := Value.int .i64 ((((r_0).length : Int) - r_1))) rfl (res1 rfl))
inductive Sum46 where
  | nil
  | t80 (x0 : Int) (x1 : Int)
  deriving Inhabited
def Sum46.on {β : Type} (x : Sum46) (a : β) (f80 : Int → Int → β) : β := match x with | .nil => a | .t80 x0 x1 => f80 x0 x1
theorem Sum46.on_nil {β : Type} {x : Sum46} {a r : β} {f80 : Int → Int → β} (h : x = .nil) (e : Sum46.on x a f80 = r) : a = r := by subst h; exact e
theorem Sum46.on_t80 {β : Type} {x : Sum46} {a r : β} {f80 : Int → Int → β} {x0 : Int} {x1 : Int} (h : x = .t80 x0 x1) (e : Sum46.on x a f80 = r) : f80 x0 x1 = r := by subst h; exact e
def Sum46.onP (x : Sum46) (a : PO) (f80 : Int → Int → PO) : PO := match x with | .nil => a | .t80 x0 x1 => f80 x0 x1
theorem Sum46.onP_nil {x : Sum46} {a : PO} {f80 : Int → Int → PO} {v : Value} {O : List (List Bl)} (h : x = .nil) (e : Sum46.onP x a f80 v O) : a v O := by subst h; exact e
theorem Sum46.onP_t80 {x : Sum46} {a : PO} {f80 : Int → Int → PO} {x0 : Int} {x1 : Int} {v : Value} {O : List (List Bl)} (h : x = .t80 x0 x1) (e : Sum46.onP x a f80 v O) : f80 x0 x1 v O := by subst h; exact e
theorem Sum46.cases (x : Sum46) : x = .nil ∨ (∃ x0 x1, x = .t80 x0 x1) := by cases x <;> simp
def wire_Reader_End_v1_m (N : Nat) (r_0 : List UInt8) (r_1 : Int) (r_2 : Int) : Option (Sum46) := if (r_2 : Int) ≠ 0 then some ((.t80 r_2 r_1)) else (wire_Reader_Left_v1_m N r_0 r_1 r_2).bind fun r9 => if (r9 : Int) > 0 then some ((.t80 2 r_1)) else some (.nil)
set_option maxRecDepth 100000 in
set_option maxHeartbeats 8000000 in
theorem wire_Reader_End_v1_g (N : Nat) (r_0 : List UInt8) (r_1 : Int) (r_2 : Int) (r : Sum46) (hM : wire_Reader_End_v1_m N r_0 r_1 r_2 = some r) (ro : Addr → Option Value) (br : Nat) (r_0v : Value) (hr_0 : Rd encY ro r_0v r_0) (hbr : Blk ro br [r_0v, Value.int .i64 (r_1), Value.int .i64 (r_2)]) : Does Try.prog 15 #[Value.pointer (some ⟨br, 0, none⟩)] ro [] (pO [] (Sum46.onP r (oE (Value.nilIface) []) (fun y0_0 y0_1 => (oB 84 #[Value.int .i64 (y0_0), Value.int .i64 (y0_1)] fun bs_0 => (oE (Value.iface 80 (Value.pointer (some ⟨bs_0, 0, none⟩))) []))))) := by
  unfold wire_Reader_End_v1_m at hM
  refine doesO_of_A follows Try.func15 rfl 41 rfl (upd (fun _ => undef) 0 (Value.pointer (some ⟨br, 0, none⟩))) (by funext k; match k with | 0 => rfl | k + 1 => rfl) (fun _ _ h_ _ => h_) (fun base0_ => ?_)
  refine A_seq fun K1 hK1 => ?_
  refine A_reg ?_
  refine r_v (Value.nilIface) rfl rfl rfl rfl ?_
  refine lx_nil ?_
  refine hK1 _ _ ?_; try clear hK1 K1
  refine A_seq fun K2 hK2 => ?_
  refine A_block ?_
  refine A_seq fun K3 hK3 => ?_
  refine A_reg ?_
  refine r_v (Value.pointer (some ⟨br, 0, none⟩)) rfl rfl rfl rfl ?_
  refine r_v (Value.bool (false)) rfl rfl rfl rfl ?_
  refine r_v (Value.bool (false)) rfl rfl rfl rfl ?_
  refine lx_nil ?_
  refine hK3 _ _ ?_; try clear hK3 K3
  refine A_cond false rfl (fun h_ => nomatch h_) (fun _ => ?_)
  refine A_seq fun K4 hK4 => ?_
  refine A_reg ?_
  refine r_v (Value.pointer (some ⟨br, 0, none⟩)) rfl rfl rfl rfl ?_
  refine r_v (Value.pointer (some ⟨br, 0, none⟩)) rfl rfl rfl rfl ?_
  refine r_v (Value.pointer (some ⟨br, 1, none⟩)) rfl rfl rfl rfl ?_
  refine r_v (Value.pointer (some ⟨br, 2, none⟩)) rfl rfl rfl rfl ?_
  refine r_lb (Value.int .i64 (r_2)) (vs := [r_0v, Value.int .i64 (r_1), Value.int .i64 (r_2)]) (o := 2) rfl rfl (blk_ro hbr) rfl ?_
  refine r_v (Value.bool (((r_2 : Int) != 0))) rfl rfl rfl rfl ?_
  refine r_v (Value.bool (((r_2 : Int) != 0))) rfl rfl rfl rfl ?_
  refine lx_nil ?_
  refine hK4 _ _ ?_; try clear hK4 K4
  refine A_cond (((r_2 : Int) != 0)) rfl (fun hc5 => ?_) (fun hc5 => ?_)
  · replace hM := ifp (bne_iff_ne.1 hc5) hM
    refine A_seq fun K6 hK6 => ?_
    refine A_draw [] (by decide +kernel) (fun hn => sep_nil) ?_
    refine r_v (Value.pointer (some ⟨br, 0, none⟩)) rfl rfl rfl rfl ?_
    refine r_v (Value.pointer (some ⟨br, 0, none⟩)) rfl rfl rfl rfl ?_
    refine r_v (Value.pointer (some ⟨br, 1, none⟩)) rfl rfl rfl rfl ?_
    refine r_v (Value.pointer (some ⟨br, 2, none⟩)) rfl rfl rfl rfl ?_
    refine r_lb (Value.int .i64 (r_2)) (vs := [r_0v, Value.int .i64 (r_1), Value.int .i64 (r_2)]) (o := 2) rfl rfl (blk_ro hbr) rfl ?_
    refine r_v (Value.pointer (some ⟨br, 0, none⟩)) rfl rfl rfl rfl ?_
    refine r_v (Value.pointer (some ⟨br, 0, none⟩)) rfl rfl rfl rfl ?_
    refine r_v (Value.pointer (some ⟨br, 1, none⟩)) rfl rfl rfl rfl ?_
    refine r_v (Value.pointer (some ⟨br, 1, none⟩)) rfl rfl rfl rfl ?_
    refine r_lb (Value.int .i64 (r_1)) (vs := [r_0v, Value.int .i64 (r_1), Value.int .i64 (r_2)]) (o := 1) rfl rfl (blk_ro hbr) rfl ?_
    refine r_v (Value.agg #[Value.int .i64 (r_2), Value.int .i64 (r_1)]) rfl rfl rfl (ev_buildS rfl rfl rfl rfl) ?_
    refine r_a (84, #[Value.int .i64 (r_2), Value.int .i64 (r_1)]) rfl rfl rfl (fun b7 => ?_) (.inl rfl)
    refine r_v (Value.iface 80 (Value.pointer (some ⟨b7, 0, none⟩))) rfl rfl rfl rfl ?_
    refine r_v (Value.iface 80 (Value.pointer (some ⟨b7, 0, none⟩))) rfl rfl rfl rfl ?_
    refine lx_nil ?_
    refine hK6 _ _ ?_; try clear hK6 K6
    obtain rfl := Option.some.inj hM
    refine A_ret (fun hn => endsO (v0 := Value.iface 80 (Value.pointer (some ⟨b7, 0, none⟩))) (O := [[(b7, 84, #[Value.int .i64 (r_2), Value.int .i64 (r_1)])]]) (res1 rfl) (Sub.pick [[(b7, 84, #[Value.int .i64 (r_2), Value.int .i64 (r_1)])]] [0] rfl) ⟨b7, _, ⟨rfl, rfl⟩, rfl⟩)
  · replace hM := ifn (bne_f hc5) hM
    refine A_seq fun K8 hK8 => ?_
    refine A_regC [(some 31, false)] (conG Try.prog [(31, fun _ _ v_ L_ U_ => ∀ u0_, wire_Reader_Left_v1_m N r_0 r_1 r_2 = some u0_ → (pV (Value.int .i64 (u0_))) v_ L_ U_)]) ?_
    refine r_v (Value.pointer (some ⟨br, 0, none⟩)) rfl rfl rfl rfl ?_
    replace hM := bind_sm hM; obtain ⟨r9, hr10, hM⟩ := hM
    refine r_gv (Value.int .i64 (r9)) 12 _ rfl rfl rfl (ev_callF rfl call_12 rfl) (fun own_ nw_ hs_ => wire_Reader_Left_v1_g N r_0 r_1 r_2 _ hr10 hs_.view br r_0v ((rd_ro hr_0) own_ nw_ hs_) (blk_ro hbr own_ nw_ hs_)) (fun _ _ v_ L_ U_ => ⟨fun h_ => h_ _ hr10, fun h_ => by intro _ e_; cases Option.some.inj (e_.symm.trans hr10); exact h_⟩) ?_
    refine r_v (Value.bool (decide ((r9 : Int) > 0))) rfl rfl rfl rfl ?_
    refine r_v (Value.bool (decide ((r9 : Int) > 0))) rfl rfl rfl rfl ?_
    refine lx_nil ?_
    refine hK8 _ _ ?_; try clear hK8 K8
    refine A_cond (decide ((r9 : Int) > 0)) rfl (fun hc11 => ?_) (fun hc11 => ?_)
    · replace hM := ifp (of_decide_eq_true hc11) hM
      refine A_seq fun K12 hK12 => ?_
      refine A_reg ?_
      refine r_v (Value.pointer (some ⟨br, 0, none⟩)) rfl rfl rfl rfl ?_
      refine r_v (Value.pointer (some ⟨br, 0, none⟩)) rfl rfl rfl rfl ?_
      refine r_v (Value.pointer (some ⟨br, 1, none⟩)) rfl rfl rfl rfl ?_
      refine r_v (Value.pointer (some ⟨br, 1, none⟩)) rfl rfl rfl rfl ?_
      refine r_lb (Value.int .i64 (r_1)) (vs := [r_0v, Value.int .i64 (r_1), Value.int .i64 (r_2)]) (o := 1) rfl rfl (blk_ro hbr) rfl ?_
      refine r_v (Value.agg #[Value.int .i64 (2), Value.int .i64 (r_1)]) rfl rfl rfl (ev_buildS rfl rfl rfl rfl) ?_
      refine r_a (84, #[Value.int .i64 (2), Value.int .i64 (r_1)]) rfl rfl rfl (fun b13 => ?_) (.inr rfl)
      refine r_v (Value.iface 80 (Value.pointer (some ⟨b13, 0, none⟩))) rfl rfl rfl rfl ?_
      refine r_v (Value.iface 80 (Value.pointer (some ⟨b13, 0, none⟩))) rfl rfl rfl rfl ?_
      refine lx_nil ?_
      refine hK12 _ _ ?_; try clear hK12 K12
      obtain rfl := Option.some.inj hM
      refine A_ret (fun hn => endsO (v0 := Value.iface 80 (Value.pointer (some ⟨b13, 0, none⟩))) (O := [[(b13, 84, #[Value.int .i64 (2), Value.int .i64 (r_1)])]]) (res1 rfl) (Sub.pick [[(b13, 84, #[Value.int .i64 (2), Value.int .i64 (r_1)])]] [0] rfl) ⟨b13, _, ⟨rfl, rfl⟩, rfl⟩)
    · replace hM := ifn (of_decide_eq_false hc11) hM
      refine A_skip ?_
      refine hK2 _ _ ?_; try clear hK2 K2
      refine A_seq fun K14 hK14 => ?_
      refine A_reg ?_
      refine r_v (Value.nilIface) rfl rfl rfl rfl ?_
      refine lx_nil ?_
      refine hK14 _ _ ?_; try clear hK14 K14
      obtain rfl := Option.some.inj hM
      refine A_ret (fun hn => endsO (v0 := Value.nilIface) (O := []) (res1 rfl) (Sub.nil _) ⟨rfl, rfl⟩)
def wire_Why_v1_m (_ : Nat) : Option (Int × Int) := some (0, 0)
set_option maxRecDepth 100000 in
set_option maxHeartbeats 8000000 in
theorem wire_Why_v1_g (N : Nat) (r : Int × Int) (hM : wire_Why_v1_m N = some r) : Gives Try.prog 14 #[Value.nilIface] (Value.tuple #[Value.int .i64 (r.1), Value.int .i64 (r.2)]) := by
  unfold wire_Why_v1_m at hM
  refine gives_of_A follows Try.func14 rfl 27 rfl (upd (fun _ => undef) 0 (Value.nilIface)) (by funext k; match k with | 0 => rfl | k + 1 => rfl) (fun base0_ => ?_)
  refine A_seq fun K1 hK1 => ?_
  refine A_reg ?_
  refine r_v (Value.int .i64 (0)) rfl rfl rfl rfl ?_
  refine r_v (Value.int .i64 (0)) rfl rfl rfl rfl ?_
  refine lx_nil ?_
  refine hK1 _ _ ?_; try clear hK1 K1
  refine A_seq fun K2 hK2 => ?_
  refine A_seq fun K3 hK3 => ?_
  refine A_reg ?_
  refine r_v (Value.nilIface) rfl rfl rfl rfl ?_
  refine r_v (Value.bool (true)) rfl rfl rfl rfl ?_
  refine lx_nil ?_
  refine hK3 _ _ ?_; try clear hK3 K3
  refine A_cond true rfl (fun _ => ?_) (fun h_ => nomatch h_)
  refine A_seq fun K4 hK4 => ?_
  refine A_reg ?_
  refine r_v (Value.int .i64 (0)) rfl rfl rfl rfl ?_
  refine r_v (Value.int .i64 (0)) rfl rfl rfl rfl ?_
  refine lx_nil ?_
  refine hK4 _ _ ?_; try clear hK4 K4
  obtain rfl := Option.some.inj hM
  refine A_ret (fun hn => ends_eq (v0 := Value.tuple #[Value.int .i64 (0), Value.int .i64 (0)]) rfl (res2 rfl rfl))
def shunterref07_End_v1_m (_ : Nat) (r_0 : List UInt8) (r_1 : Int) (r_2 : Int) (r_3 : Int) : Option (Int × Int) := if (r_2 : Int) ≠ 0 then some (r_2, r_3) else if (((r_0).length : Int) : Int) > 0 then some (2, r_1) else some (0, 0)
set_option maxRecDepth 100000 in
set_option maxHeartbeats 8000000 in
theorem shunterref07_End_v1_g (N : Nat) (r_0 : List UInt8) (r_1 : Int) (r_2 : Int) (r_3 : Int) (r : Int × Int) (hM : shunterref07_End_v1_m N r_0 r_1 r_2 r_3 = some r) (ro : Addr → Option Value) (r_0v : Value) (hr_0 : Rd encY ro r_0v r_0) : Does Try.prog 16 #[Value.agg #[r_0v, Value.int .i64 (r_1), Value.int .i64 (r_2), Value.int .i64 (r_3)]] ro [] (pV (Value.tuple #[Value.int .i64 (r.1), Value.int .i64 (r.2)])) := by
  unfold shunterref07_End_v1_m at hM
  refine does_of_A follows Try.func16 rfl 17 rfl (upd (fun _ => undef) 0 (Value.agg #[r_0v, Value.int .i64 (r_1), Value.int .i64 (r_2), Value.int .i64 (r_3)])) (by funext k; match k with | 0 => rfl | k + 1 => rfl) (fun base0_ => ?_)
  refine A_seq fun K1 hK1 => ?_
  refine A_reg ?_
  refine r_a (39, #[r_0v, Value.int .i64 (r_1), Value.int .i64 (r_2), Value.int .i64 (r_3)]) rfl rfl rfl (fun b2 => ?_) (.inr rfl)
  refine r_v (Value.int .i64 (0)) rfl rfl rfl rfl ?_
  refine r_v (Value.int .i64 (0)) rfl rfl rfl rfl ?_
  refine lx_nil ?_
  refine hK1 _ _ ?_; try clear hK1 K1
  refine A_seq fun K3 hK3 => ?_
  refine A_seq fun K4 hK4 => ?_
  refine A_reg ?_
  refine r_v (Value.pointer (some ⟨b2, 2, none⟩)) rfl rfl rfl rfl ?_
  refine r_l (Value.int .i64 (r_2)) 0 _ _ _ _ rfl rfl rfl rfl rfl ?_
  refine r_v (Value.bool (((r_2 : Int) != 0))) rfl rfl rfl rfl ?_
  refine lx_nil ?_
  refine hK4 _ _ ?_; try clear hK4 K4
  refine A_cond (((r_2 : Int) != 0)) rfl (fun hc5 => ?_) (fun hc5 => ?_)
  · replace hM := ifp (bne_iff_ne.1 hc5) hM
    refine A_seq fun K6 hK6 => ?_
    refine A_draw [] (by decide +kernel) (fun hn => sep_nil) ?_
    refine r_v (Value.pointer (some ⟨b2, 2, none⟩)) rfl rfl rfl rfl ?_
    refine r_l (Value.int .i64 (r_2)) 0 _ _ _ _ rfl rfl rfl rfl rfl ?_
    refine r_v (Value.pointer (some ⟨b2, 3, none⟩)) rfl rfl rfl rfl ?_
    refine r_l (Value.int .i64 (r_3)) 0 _ _ _ _ rfl rfl rfl rfl rfl ?_
    refine r_v (Value.int .i64 (r_2)) rfl rfl rfl rfl ?_
    refine r_v (Value.int .i64 (r_3)) rfl rfl rfl rfl ?_
    refine lx_nil ?_
    refine hK6 _ _ ?_; try clear hK6 K6
    obtain rfl := Option.some.inj hM
    refine A_ret (fun hn => endsV (v0 := Value.tuple #[Value.int .i64 (r_2), Value.int .i64 (r_3)]) rfl (res2 rfl rfl))
  · replace hM := ifn (bne_f hc5) hM
    refine A_skip ?_
    refine hK3 _ _ ?_; try clear hK3 K3
    refine A_seq fun K7 hK7 => ?_
    refine A_seq fun K8 hK8 => ?_
    refine A_reg ?_
    refine r_v (Value.pointer (some ⟨b2, 0, none⟩)) rfl rfl rfl rfl ?_
    refine r_l (r_0v) 0 _ _ _ _ rfl rfl rfl rfl rfl ?_
    refine r_v (Value.int .i64 (((r_0).length : Int))) rfl rfl rfl (ev_lenSl rfl rfl rfl (Rd.shp hr_0)) ?_
    refine r_v (Value.bool (decide ((((r_0).length : Int) : Int) > 0))) rfl rfl rfl rfl ?_
    refine lx_nil ?_
    refine hK8 _ _ ?_; try clear hK8 K8
    refine A_cond (decide ((((r_0).length : Int) : Int) > 0)) rfl (fun hc9 => ?_) (fun hc9 => ?_)
    · replace hM := ifp (of_decide_eq_true hc9) hM
      refine A_seq fun K10 hK10 => ?_
      refine A_draw [] (by decide +kernel) (fun hn => sep_nil) ?_
      refine r_v (Value.pointer (some ⟨b2, 1, none⟩)) rfl rfl rfl rfl ?_
      refine r_l (Value.int .i64 (r_1)) 0 _ _ _ _ rfl rfl rfl rfl rfl ?_
      refine r_v (Value.int .i64 (2)) rfl rfl rfl rfl ?_
      refine r_v (Value.int .i64 (r_1)) rfl rfl rfl rfl ?_
      refine lx_nil ?_
      refine hK10 _ _ ?_; try clear hK10 K10
      obtain rfl := Option.some.inj hM
      refine A_ret (fun hn => endsV (v0 := Value.tuple #[Value.int .i64 (2), Value.int .i64 (r_1)]) rfl (res2 rfl rfl))
    · replace hM := ifn (of_decide_eq_false hc9) hM
      refine A_skip ?_
      refine hK7 _ _ ?_; try clear hK7 K7
      refine A_seq fun K11 hK11 => ?_
      refine A_reg ?_
      refine r_v (Value.int .i64 (0)) rfl rfl rfl rfl ?_
      refine r_v (Value.int .i64 (0)) rfl rfl rfl rfl ?_
      refine lx_nil ?_
      refine hK11 _ _ ?_; try clear hK11 K11
      obtain rfl := Option.some.inj hM
      refine A_ret (fun hn => endsV (v0 := Value.tuple #[Value.int .i64 (0), Value.int .i64 (0)]) rfl (res2 rfl rfl))
def wire_asFault_v1_m (_ : Nat) (_ : Int) (_ : Int) : Option (Bool) := some (true)
set_option maxRecDepth 100000 in
set_option maxHeartbeats 8000000 in
theorem wire_asFault_v1_g (N : Nat) (err_0 : Int) (err_1 : Int) (r : Bool) (hM : wire_asFault_v1_m N err_0 err_1 = some r) (ro : Addr → Option Value) (berr : Nat) (_hberr : Blk ro berr [Value.int .i64 (err_0), Value.int .i64 (err_1)]) : Does Try.prog 42 #[Value.iface 80 (Value.pointer (some ⟨berr, 0, none⟩))] ro [] (pV (Value.tuple #[Value.pointer (some ⟨berr, 0, none⟩), Value.bool (r)])) := by
  unfold wire_asFault_v1_m at hM
  refine does_of_A follows Try.func42 rfl 13 rfl (upd (fun _ => undef) 0 (Value.iface 80 (Value.pointer (some ⟨berr, 0, none⟩)))) (by funext k; match k with | 0 => rfl | k + 1 => rfl) (fun base0_ => ?_)
  refine A_seq fun K1 hK1 => ?_
  refine A_reg ?_
  refine r_v (Value.pointer none) rfl rfl rfl rfl ?_
  refine r_v (Value.bool (false)) rfl rfl rfl rfl ?_
  refine lx_nil ?_
  refine hK1 _ _ ?_; try clear hK1 K1
  refine A_seq fun K2 hK2 => ?_
  refine A_reg ?_
  refine r_v (Value.iface 80 (Value.pointer (some ⟨berr, 0, none⟩))) rfl rfl rfl rfl ?_
  refine r_v (Value.tuple #[Value.pointer (some ⟨berr, 0, none⟩), Value.bool (true)]) rfl rfl rfl rfl ?_
  refine r_v (Value.tuple #[Value.pointer (some ⟨berr, 0, none⟩), Value.bool (true)]) rfl rfl rfl rfl ?_
  refine r_v (Value.pointer (some ⟨berr, 0, none⟩)) rfl rfl rfl rfl ?_
  refine r_v (Value.bool (true)) rfl rfl rfl rfl ?_
  refine r_v (Value.pointer (some ⟨berr, 0, none⟩)) rfl rfl rfl rfl ?_
  refine r_v (Value.bool (true)) rfl rfl rfl rfl ?_
  refine lx_nil ?_
  refine hK2 _ _ ?_; try clear hK2 K2
  refine A_seq fun K3 hK3 => ?_
  refine A_reg ?_
  refine r_v (Value.pointer (some ⟨berr, 0, none⟩)) rfl rfl rfl rfl ?_
  refine r_v (Value.bool (true)) rfl rfl rfl rfl ?_
  refine r_v (Value.pointer (some ⟨berr, 0, none⟩)) rfl rfl rfl rfl ?_
  refine r_v (Value.bool (true)) rfl rfl rfl rfl ?_
  refine lx_nil ?_
  refine hK3 _ _ ?_; try clear hK3 K3
  obtain rfl := Option.some.inj hM
  refine A_ret (fun hn => endsV (v0 := Value.tuple #[Value.pointer (some ⟨berr, 0, none⟩), Value.bool (true)]) rfl (res2 rfl rfl))
def wire_Why_v2_m (N : Nat) (err_0 : Int) (err_1 : Int) : Option (Int × Int) := (wire_asFault_v1_m N err_0 err_1).bind fun r5 => if (r5) = true then some (err_0, err_1) else some (10, 0)
set_option maxRecDepth 100000 in
set_option maxHeartbeats 8000000 in
theorem wire_Why_v2_g (N : Nat) (err_0 : Int) (err_1 : Int) (r : Int × Int) (hM : wire_Why_v2_m N err_0 err_1 = some r) (ro : Addr → Option Value) (berr : Nat) (hberr : Blk ro berr [Value.int .i64 (err_0), Value.int .i64 (err_1)]) : Does Try.prog 14 #[Value.iface 80 (Value.pointer (some ⟨berr, 0, none⟩))] ro [] (pV (Value.tuple #[Value.int .i64 (r.1), Value.int .i64 (r.2)])) := by
  unfold wire_Why_v2_m at hM
  refine does_of_A follows Try.func14 rfl 27 rfl (upd (fun _ => undef) 0 (Value.iface 80 (Value.pointer (some ⟨berr, 0, none⟩)))) (by funext k; match k with | 0 => rfl | k + 1 => rfl) (fun base0_ => ?_)
  refine A_seq fun K1 hK1 => ?_
  refine A_reg ?_
  refine r_v (Value.int .i64 (0)) rfl rfl rfl rfl ?_
  refine r_v (Value.int .i64 (0)) rfl rfl rfl rfl ?_
  refine lx_nil ?_
  refine hK1 _ _ ?_; try clear hK1 K1
  refine A_seq fun K2 hK2 => ?_
  refine A_seq fun K3 hK3 => ?_
  refine A_reg ?_
  refine r_v (Value.iface 80 (Value.pointer (some ⟨berr, 0, none⟩))) rfl rfl rfl rfl ?_
  refine r_v (Value.bool (false)) rfl rfl rfl rfl ?_
  refine lx_nil ?_
  refine hK3 _ _ ?_; try clear hK3 K3
  refine A_cond false rfl (fun h_ => nomatch h_) (fun _ => ?_)
  refine A_skip ?_
  refine hK2 _ _ ?_; try clear hK2 K2
  refine A_seq fun K4 hK4 => ?_
  refine A_regC [(some 10, false)] (conG Try.prog [(10, fun _ _ v_ L_ U_ => ∀ u0_, wire_asFault_v1_m N err_0 err_1 = some u0_ → (pV (Value.tuple #[Value.pointer (some ⟨berr, 0, none⟩), Value.bool (u0_)])) v_ L_ U_)]) ?_
  refine r_v (Value.iface 80 (Value.pointer (some ⟨berr, 0, none⟩))) rfl rfl rfl rfl ?_
  replace hM := bind_sm hM; obtain ⟨r5, hr6, hM⟩ := hM
  refine r_gv (Value.tuple #[Value.pointer (some ⟨berr, 0, none⟩), Value.bool (r5)]) 42 _ rfl rfl rfl (ev_callF rfl call_42 rfl) (fun own_ nw_ hs_ => wire_asFault_v1_g N err_0 err_1 _ hr6 hs_.view berr (blk_ro hberr own_ nw_ hs_)) (fun _ _ v_ L_ U_ => ⟨fun h_ => h_ _ hr6, fun h_ => by intro _ e_; cases Option.some.inj (e_.symm.trans hr6); exact h_⟩) ?_
  refine r_v (Value.tuple #[Value.pointer (some ⟨berr, 0, none⟩), Value.bool (r5)]) rfl rfl rfl rfl ?_
  refine r_v (Value.pointer (some ⟨berr, 0, none⟩)) rfl rfl rfl rfl ?_
  refine r_v (Value.bool (r5)) rfl rfl rfl rfl ?_
  refine r_v (Value.pointer (some ⟨berr, 0, none⟩)) rfl rfl rfl rfl ?_
  refine r_v (Value.bool (r5)) rfl rfl rfl rfl ?_
  refine lx_nil ?_
  refine hK4 _ _ ?_; try clear hK4 K4
  refine A_seq fun K7 hK7 => ?_
  refine A_block ?_
  refine A_seq fun K8 hK8 => ?_
  refine A_reg ?_
  refine r_v (Value.bool (r5)) rfl rfl rfl rfl ?_
  refine r_v (Value.bool (!(r5))) rfl rfl rfl rfl ?_
  refine r_v (Value.bool (!(r5))) rfl rfl rfl rfl ?_
  refine lx_nil ?_
  refine hK8 _ _ ?_; try clear hK8 K8
  refine A_cond (!(r5)) rfl (fun hc9 => ?_) (fun hc9 => ?_)
  · replace hM := ifn (Bool.eq_false_iff.1 (not_t hc9)) hM
    refine A_seq fun K10 hK10 => ?_
    refine A_reg ?_
    refine r_v (Value.int .i64 (10)) rfl rfl rfl rfl ?_
    refine r_v (Value.int .i64 (0)) rfl rfl rfl rfl ?_
    refine lx_nil ?_
    refine hK10 _ _ ?_; try clear hK10 K10
    obtain rfl := Option.some.inj hM
    refine A_ret (fun hn => endsV (v0 := Value.tuple #[Value.int .i64 (10), Value.int .i64 (0)]) rfl (res2 rfl rfl))
  · replace hM := ifp (not_f hc9) hM
    refine A_seq fun K11 hK11 => ?_
    refine A_reg ?_
    refine r_v (Value.pointer (some ⟨berr, 0, none⟩)) rfl rfl rfl rfl ?_
    refine r_v (Value.bool (false)) rfl rfl rfl rfl ?_
    refine r_v (Value.bool (false)) rfl rfl rfl rfl ?_
    refine lx_nil ?_
    refine hK11 _ _ ?_; try clear hK11 K11
    refine A_cond false rfl (fun h_ => nomatch h_) (fun _ => ?_)
    refine A_skip ?_
    refine hK7 _ _ ?_; try clear hK7 K7
    refine A_seq fun K12 hK12 => ?_
    refine A_draw [] (by decide +kernel) (fun hn => sep_nil) ?_
    refine r_v (Value.pointer (some ⟨berr, 0, none⟩)) rfl rfl rfl rfl ?_
    refine r_v (Value.pointer (some ⟨berr, 0, none⟩)) rfl rfl rfl rfl ?_
    refine r_v (Value.pointer (some ⟨berr, 0, none⟩)) rfl rfl rfl rfl ?_
    refine r_lb (Value.int .i64 (err_0)) (vs := [Value.int .i64 (err_0), Value.int .i64 (err_1)]) (o := 0) rfl rfl (blk_ro hberr) rfl ?_
    refine r_v (Value.pointer (some ⟨berr, 0, none⟩)) rfl rfl rfl rfl ?_
    refine r_v (Value.pointer (some ⟨berr, 0, none⟩)) rfl rfl rfl rfl ?_
    refine r_v (Value.pointer (some ⟨berr, 1, none⟩)) rfl rfl rfl rfl ?_
    refine r_lb (Value.int .i64 (err_1)) (vs := [Value.int .i64 (err_0), Value.int .i64 (err_1)]) (o := 1) rfl rfl (blk_ro hberr) rfl ?_
    refine r_v (Value.int .i64 (err_0)) rfl rfl rfl rfl ?_
    refine r_v (Value.int .i64 (err_1)) rfl rfl rfl rfl ?_
    refine lx_nil ?_
    refine hK12 _ _ ?_; try clear hK12 K12
    obtain rfl := Option.some.inj hM
    refine A_ret (fun hn => endsV (v0 := Value.tuple #[Value.int .i64 (err_0), Value.int .i64 (err_1)]) rfl (res2 rfl rfl))
end Go.Proofs.Ytdgejbbelmhbdaa
