/- models of functions and their walks -/
import Derived.Test.YtdmakhnmfnkcmaaIt
import Derived.Test.YtdmakhnmfnkcmaaYt
import Derived.Test.YtdmakhnmfnkcmaaAs
import Derived.Test.YtdmakhnmfnkcmaaBu
import Derived.Test.YtdmakhnmfnkcmaaBase
namespace Go.Proofs.Ytdmakhnmfnkcmaa
open Go Go.RowKit Go.Eng
abbrev kBa52_0 (b : Nat) (x0 : List UInt8) (x1 : Int) : List Bl := [(b, 52, #[vS x0, vI x1])]
abbrev kBa22_1 (b : Nat) (x0 : Value) : List Bl := [(b, 22, #[x0])]
abbrev kBa81_2 (b : Nat) (x0 : Value) (x1 : Value) : List Bl := [(b, 81, #[x0, x1])]
abbrev kBa9_3 (b : Nat) (x0 : List UInt8) : List Bl := [(b, 9, #[vS x0])]
abbrev kBa24_4 (b : Nat) (x0 : Value) (x1 : Value) (x2 : Int) (x3 : Int) (x4 : Int) (x5 : Int) : List Bl := [(b, 24, #[x0, x1, vI x2, vI x3, vI x4, vI x5])]
abbrev kBa33_5 (b : Nat) (x0 : Value) : List Bl := [(b, 33, #[x0])]
theorem index_one (c : UInt8) : ∀ s : List UInt8, Lib.index s [c] = Lib.indexByte s c
  | [] => rfl
  | b :: l => by
    rw [Lib.index, Lib.indexByte, index_one c l]
    by_cases h : c = b
    · subst h; simp [List.isPrefixOf]
    · have h2 : ¬ b = c := fun e => h e.symm
      simp [List.isPrefixOf, h, h2]
theorem index1_g (s sep : List UInt8) (h : sep.length = 1) : Gives Try.prog 71 #[.string ⟨s.toArray⟩, .string ⟨sep.toArray⟩] (.int .i64 (Lib.index s sep)) := by
 obtain ⟨c, rfl⟩ := List.length_eq_one_iff.mp h
 rw [index_one]
 exact Gives.of_same (fun w => Try.stringslite_Index_one ⟨s.toArray⟩ c w)
def enc_52 : Enc (List UInt8 × Int) := ⟨fun x => [vS x.1, vI x.2], 2, by decide, fun _ => rfl, fun x v h => by simp only [List.mem_cons, List.not_mem_nil, or_false] at h; rcases h with rfl | rfl <;> rfl, True⟩
def enc_44 : Enc (List UInt8 × Int × Int) := ⟨fun x => [vS x.1, vI x.2.1, vI x.2.2], 3, by decide, fun _ => rfl, fun x v h => by simp only [List.mem_cons, List.not_mem_nil, or_false] at h; rcases h with rfl | rfl | rfl <;> rfl, True⟩
def enc_45 : Enc (Int × Int) := ⟨fun x => [vI x.1, vI x.2], 2, by decide, fun _ => rfl, fun x v h => by simp only [List.mem_cons, List.not_mem_nil, or_false] at h; rcases h with rfl | rfl <;> rfl, True⟩
def encr_24 : EncR ((List UInt8) × (List (List UInt8 × Int)) × Int × Int × Int × Int) := ⟨fun c x vs => ∃ (s0 : Value), Rd enc_52 c s0 x.2.1 ∧ vs = [vS x.1, s0, vI x.2.2.1, vI x.2.2.2.1, vI x.2.2.2.2.1, vI x.2.2.2.2.2], 6, by decide, fun hc ⟨s0, h0, hv⟩ => ⟨s0, h0.mono hc, hv⟩⟩
def shunterlaw08_few_l3 (l' : List (List UInt8 × Int × Int)) : Nat → Int → Option Bool
  | 0, _ => none
  | n4 + 1, i2_ => if i2_ < ((l').length : Int) then ck (0 ≤ i2_ ∧ i2_ < ((l').length : Int)) (if (((((l')[(i2_).toNat]!).1).length : Int) : Int) > 200 then some false else ck (-9223372036854775808 ≤ (i2_ + 1) ∧ (i2_ + 1) ≤ 9223372036854775807) ((shunterlaw08_few_l3 l' n4) (i2_ + 1))) else some true
def shunterlaw08_few_k1 (N : Nat) (l' : List (List UInt8 × Int × Int)) : Option Bool := shunterlaw08_few_l3 l' N 0
def shunterlaw08_few_m (N : Nat) (headers : List ((List UInt8) × (List (List UInt8 × Int)) × Int × Int × Int × Int)) (l' : List (List UInt8 × Int × Int)) : Option Bool := if (((headers).length : Int) : Int) > 30 then some false else if (((l').length : Int) : Int) > 40 then some false else shunterlaw08_few_k1 N l' 
set_option maxRecDepth 100000 in
set_option maxHeartbeats 8000000 in
theorem shunterlaw08_few_g (N : Nat) (headers : List ((List UInt8) × (List (List UInt8 × Int)) × Int × Int × Int × Int)) (l' : List (List UInt8 × Int × Int)) (r) (hM : shunterlaw08_few_m N headers l' = some r) (ro : Addr → Option Value) (headersv : Value) (hheaders : RdN encr_24 ro headersv headers) (l'v : Value) (hl' : Rd enc_44 ro l'v l') : Does Try.prog 12 #[headersv, l'v] ro [] (pV (vB r)) := by
 unfold shunterlaw08_few_m at hM
 refine does_of_A follows Try.func12 rfl 27 rfl (upd (upd (fun _ => undef) 1 l'v) 0 headersv) (by funext k; match k with | 0 => rfl | 1 => rfl | k + 2 => rfl) (fun base0_ => ?_)
 refine A_sr <| r_V (vB false) rfl <| lx_nil <| A_cut (fun tt ll => (shunterlaw08_few_k1 N l'  = some r) ∧ Is [(1, l'v)] [] tt ll) ?_ ?_
 ·refine A_seq fun K15 hK15 => A_reg <| r_V headersv rfl <| r_W (vI ((headers).length : Int)) rfl (ev_lenSl rfl rfl rfl (RdN.shp hheaders)) <| r_R [vB (decide ((((headers).length : Int) : Int) > 30)), vB (decide ((((headers).length : Int) : Int) > 30))] rfl ?_
  rcases hg16 : (decide ((((headers).length : Int) : Int) > 30)) with _ | _
  ·replace hM := ifn (of_decide_eq_false hg16) hM
   refine r_R [l'v] rfl <| r_y rfl <| r_W (vI ((l').length : Int)) rfl (ev_lenSl rfl rfl rfl (Rd.shp hl')) <| r_R [vB (decide ((((l').length : Int) : Int) > 40)), vB (decide ((((l').length : Int) : Int) > 40))] rfl <| lx_nil <| hK15 _ _ ?_; try clear hK15 K15
   refine A_cond (decide ((((l').length : Int) : Int) > 40)) rfl (fun hc17 => ?_) (fun hc17 => ?_)
   ·replace hM := ifp (of_decide_eq_true hc17) hM
    refine A_sr <| r_V (vB false) rfl <| lx_nil ?_
    obtain rfl := Option.some.inj hM
    refine A_ret (fun hn => endsV (v0 := vB false) rfl (res1 rfl))
   replace hM := ifn (of_decide_eq_false hc17) hM
   refine A_skip <| fg _ (Sub.of List.Sublist.slnil) ?_
   exact ⟨hM, is_mk rfl rfl⟩
  replace hM := ifp (of_decide_eq_true hg16) hM
  refine r_R [none, none, none, vB true] rfl <| lx_nil <| hK15 _ _ ?_; try clear hK15 K15
  refine A_cond true rfl (fun _ => ?_) (fun h_ => nomatch h_)
  refine A_sr <| r_V (vB false) rfl <| lx_nil ?_
  obtain rfl := Option.some.inj hM
  refine A_ret (fun hn => endsV (v0 := vB false) rfl (res1 rfl))
 clear hM; rintro t l ⟨hM, ⟨T, rfl⟩, rfl⟩
 unfold shunterlaw08_few_k1 at hM
 refine A_seq fun K2 hK2 => A_sr <| r_V (vI 0) rfl <| lx_nil <| A_block <| A_loop (fun tt ll nn => ∃ (n4 : Nat) (i2_ : Int), (shunterlaw08_few_l3 l' n4 i2_ = some r) ∧ Is [(1, l'v), (5, vI i2_)] [] tt ll ∧ nn = n4 + 1) (N + 1) ?_ ?_
 ·exact ⟨N, 0, hM, is_mk rfl rfl, rfl⟩
 clear hM; rintro t l _ ⟨n4, i2_, hM, ⟨⟨T, rfl⟩, rfl⟩, rfl⟩
 rcases n4 with _ | n4
 ·exact absurd hM (by simp [shunterlaw08_few_l3])
 rw [shunterlaw08_few_l3] at hM
 refine A_seq fun K5 hK5 => A_sr <| r_R [vI i2_, l'v] rfl <| r_W (vI ((l').length : Int)) rfl (ev_lenSl rfl rfl rfl (Rd.shp hl')) <| r_V (vB (decide (i2_ < ((l').length : Int)))) rfl <| lx_nil <| A_cond (decide (i2_ < ((l').length : Int))) rfl (fun hc7 => ?_) (fun hc7 => ?_)
 ·replace hM := ifp (of_decide_eq_true hc7) hM
  refine A_skip <| hK5 _ _ ?_; try clear hK5 K5
  refine A_seq fun K8 hK8 => A_block <| A_sr <| r_R [l'v, vI i2_] rfl ?_
  obtain ⟨ck10, hM⟩ := ck_some hM
  refine r_W (elA l'v ((i2_).toNat * 3)) rfl (ev_v (ev_idxSl rfl rfl rfl (Rd.shp hl') ck10)) <| r_W (elA l'v ((i2_).toNat * 3 + 0)) rfl (ev_v (ev_fieldX rfl rfl rfl rfl rfl rfl (Rd.shp hl') (pos_of ck10))) <| r_le (vS (((l')[(i2_).toNat]!).1)) (En := enc_44) ((l')[(i2_).toNat]!) ((i2_).toNat) 0 rfl rfl (rd_ro hl') (get_of ck10) rfl <| r_W (vI (((((l')[(i2_).toNat]!).1).length : Int))) rfl (ev_lenS rfl rfl rfl) <| r_V (vB (decide ((((((l')[(i2_).toNat]!).1).length : Int) : Int) > 200))) rfl <| lx_nil <| A_cond (decide ((((((l')[(i2_).toNat]!).1).length : Int) : Int) > 200)) rfl (fun hc11 => ?_) (fun hc11 => ?_)
  ·replace hM := ifp (of_decide_eq_true hc11) hM
   refine A_sr <| r_V (vB false) rfl <| lx_nil ?_
   obtain rfl := Option.some.inj hM
   refine A_ret (fun hn => endsV (v0 := vB false) rfl (res1 rfl))
  replace hM := ifn (of_decide_eq_false hc11) hM
  refine A_skip <| hK8 _ _ ?_; try clear hK8 K8
  refine A_reg <| r_V (vI i2_) rfl ?_
  obtain ⟨ck13, hM⟩ := ck_some hM
  refine r_X (vI (i2_ + 1)) rfl (wi64 rfl ck13.1 ck13.2) rfl <| r_V (vI (i2_ + 1)) rfl <| lx_nil <| fg _ (Sub.of List.Sublist.slnil) ?_
  exact ⟨n4 + 1, by omega, n4, (i2_ + 1), hM, is_mk rfl rfl, rfl⟩
 replace hM := ifn (of_decide_eq_false hc7) hM
 refine A_exit <| hK2 _ _ ?_; try clear hK2 K2
 refine A_sr <| r_V (vB true) rfl <| lx_nil ?_
 obtain rfl := Option.some.inj hM
 refine A_ret (fun hn => endsV (v0 := vB true) rfl (res1 rfl))
def shape_within_m (_ : Nat) (n : Int) (least : Int) (most : Int) : Option Bool := if n ≥ least then some (decide (n ≤ most)) else some false
set_option maxRecDepth 100000 in
set_option maxHeartbeats 8000000 in
theorem shape_within_g (N : Nat) (n least most : Int) (r) (hM : shape_within_m N n least most = some r) : Gives Try.prog 27 #[vI n, vI least, vI most] (vB r) := by
 unfold shape_within_m at hM
 refine gives_of_A follows Try.func27 rfl 15 rfl (upd (upd (upd (fun _ => undef) 2 (vI most)) 1 (vI least)) 0 (vI n)) (by funext k; match k with | 0 => rfl | 1 => rfl | 2 => rfl | k + 3 => rfl) (fun base0_ => ?_)
 refine A_sr <| r_V (vB false) rfl <| lx_nil <| A_seq fun K2 hK2 => A_reg <| r_R [vI n, vI least, vB (decide (n ≥ least)), vB (decide (n ≥ least))] rfl ?_
 rcases hg3 : (decide (n ≥ least)) with _ | _
 ·replace hM := ifn (of_decide_eq_false hg3) hM
  refine r_R [none, none, none, vB false, vB false] rfl <| lx_nil <| hK2 _ _ ?_; try clear hK2 K2
  obtain rfl := Option.some.inj hM
  refine A_ret (fun hn => ends_eq (v0 := vB false) rfl (res1 rfl))
 replace hM := ifp (of_decide_eq_true hg3) hM
 refine r_R [vI n, vI most, vB (decide (n ≤ most)), vB (decide (n ≤ most)), vB (decide (n ≤ most))] rfl <| lx_nil <| hK2 _ _ ?_; try clear hK2 K2
 obtain rfl := Option.some.inj hM
 refine A_ret (fun hn => ends_eq (v0 := vB (decide (n ≤ most))) rfl (res1 rfl))
def shape_width_l3 (l' : List (List UInt8 × Int)) : Nat → Int → Int → Option Int
  | 0, _, _ => none
  | n5 + 1, n1_, x2_ => if x2_ < ((l').length : Int) then ck (0 ≤ x2_ ∧ x2_ < ((l').length : Int)) (ck ((-9223372036854775808 ≤ (n1_ + ((l')[(x2_).toNat]!).2) ∧ (n1_ + ((l')[(x2_).toNat]!).2) ≤ 9223372036854775807)) (ck (-9223372036854775808 ≤ (x2_ + 1) ∧ (x2_ + 1) ≤ 9223372036854775807) ((shape_width_l3 l' n5) (n1_ + ((l')[(x2_).toNat]!).2) (x2_ + 1)))) else some n1_
def shape_width_m (N : Nat) (l' : List (List UInt8 × Int)) : Option Int := shape_width_l3 l' N 0 0
set_option maxRecDepth 100000 in
set_option maxHeartbeats 8000000 in
theorem shape_width_g (N : Nat) (l' : List (List UInt8 × Int)) (r) (hM : shape_width_m N l' = some r) (ro : Addr → Option Value) (l'v : Value) (hl' : Rd enc_52 ro l'v l') : Does Try.prog 39 #[l'v] ro [] (pV (vI r)) := by
 unfold shape_width_m at hM
 refine does_of_A follows Try.func39 rfl 18 rfl (upd (fun _ => undef) 0 l'v) (by funext k; match k with | 0 => rfl | k + 1 => rfl) (fun base0_ => ?_)
 refine A_sr <| r_V (vI 0) rfl <| lx_nil <| A_sr <| r_V (vI 0) rfl <| lx_nil <| A_seq fun K3 hK3 => A_sr <| r_V l'v rfl <| r_W (vI ((l').length : Int)) rfl (ev_lenSl rfl rfl rfl (Rd.shp hl')) <| r_V (vI 0) rfl <| lx_nil <| A_block <| A_loop (fun tt ll nn => ∃ (n5 : Nat) (n1_ : Int) (x2_ : Int), (shape_width_l3 l' n5 n1_ x2_ = some r) ∧ Is [(3, vI n1_), (6, l'v), (7, vI ((l').length : Int)), (8, vI x2_)] [] tt ll ∧ nn = n5 + 1) (N + 1) ?_ ?_
 ·exact ⟨N, 0, 0, hM, is_mk rfl rfl, rfl⟩
 clear hM; rintro t l _ ⟨n5, n1_, x2_, hM, ⟨⟨T, rfl⟩, rfl⟩, rfl⟩
 rcases n5 with _ | n5
 ·exact absurd hM (by simp [shape_width_l3])
 rw [shape_width_l3] at hM
 refine A_sr <| r_V (vB (decide (x2_ < ((l').length : Int)))) rfl <| lx_nil <| A_seq fun K7 hK7 => A_cond (decide (x2_ < ((l').length : Int))) rfl (fun hc8 => ?_) (fun hc8 => ?_)
 ·replace hM := ifp (of_decide_eq_true hc8) hM
  refine A_skip <| hK7 _ _ ?_; try clear hK7 K7
  refine A_seq fun K9 hK9 => A_block <| A_sr ?_
  obtain ⟨ck11, hM⟩ := ck_some hM
  refine r_W (elA l'v ((x2_).toNat * 2)) rfl (ev_v (ev_idxSl rfl rfl rfl (Rd.shp hl') ck11)) <| r_le (vA #[vS (((l')[(x2_).toNat]!).1), vI (((l')[(x2_).toNat]!).2)]) (En := enc_52) ((l')[(x2_).toNat]!) ((x2_).toNat) 0 rfl rfl (rd_ro hl') (get_of ck11) rfl <| r_a (52, #[Value.string (⟨#[]⟩), vI 0]) rfl rfl rfl (fun b12 => ?_) (.inr rfl)
  refine r_s (kBa52_0 b12 (((l')[(x2_).toNat]!).1) (((l')[(x2_).toNat]!).2)) 0 _ _ _ _ _ (#[vS (((l')[(x2_).toNat]!).1), vI (((l')[(x2_).toNat]!).2)]) rfl rfl rfl rfl (.of rfl rfl) rfl rfl <| lx_nil <| A_reg <| r_R [vI n1_, vP b12 1] rfl <| r_l (vI (((l')[(x2_).toNat]!).2)) 0 _ _ _ _ rfl rfl rfl rfl rfl ?_
  obtain ⟨ck13, hM⟩ := ck_some hM
  refine r_X (vI (n1_ + ((l')[(x2_).toNat]!).2)) rfl (wi64 rfl ck13.1 ck13.2) rfl <| r_V (vI (n1_ + ((l')[(x2_).toNat]!).2)) rfl <| lx_nil <| hK9 _ _ ?_; try clear hK9 K9
  refine A_reg ?_
  obtain ⟨ck14, hM⟩ := ck_some hM
  refine r_X (vI (x2_ + 1)) rfl (wi64 rfl ck14.1 ck14.2) rfl <| r_V (vI (x2_ + 1)) rfl <| lx_nil <| fg _ (Sub.of (List.Sublist.cons _ List.Sublist.slnil)) ?_
  exact ⟨n5 + 1, by omega, n5, (n1_ + ((l')[(x2_).toNat]!).2), (x2_ + 1), hM, is_mk rfl rfl, rfl⟩
 replace hM := ifn (of_decide_eq_false hc8) hM
 refine A_exit <| hK3 _ _ ?_; try clear hK3 K3
 refine A_sr <| r_R [vI n1_, vI n1_] rfl <| lx_nil ?_
 obtain rfl := Option.some.inj hM
 refine A_ret (fun hn => endsV (v0 := vI n1_) rfl (res1 rfl))
def shape_Offset_v1_m (N : Nat) (_ : List UInt8) (h_1 : List (List UInt8 × Int)) (_ : Int) (_ : Int) (_ : Int) (_ : Int) (f : Int) : Option (Int × Bool) := ck ((-9223372036854775808 ≤ (((h_1).length : Int) - 1) ∧ (((h_1).length : Int) - 1) ≤ 9223372036854775807)) ((shape_within_m N f 0 (((h_1).length : Int) - 1)).bind fun r6 => if r6 = true then ck (0 ≤ f ∧ f ≤ ((h_1).length : Int)) ((shape_width_m N (((h_1).take ((f).toNat)).drop 0)).bind fun r12 => some (r12, true)) else some (0, false))
set_option maxRecDepth 100000 in
set_option maxHeartbeats 8000000 in
theorem shape_Offset_v1_g (N : Nat) (h_0 : List UInt8) (h_1 : List (List UInt8 × Int)) (h_2 : Int) (h_3 : Int) (h_4 : Int) (h_5 : Int) (f : Int) (r) (hM : shape_Offset_v1_m N h_0 h_1 h_2 h_3 h_4 h_5 f = some r) (ro : Addr → Option Value) (h_1v : Value) (hh_1 : Rd enc_52 ro h_1v h_1) : Does Try.prog 23 #[vA #[vS h_0, h_1v, vI h_2, vI h_3, vI h_4, vI h_5], vI f] ro [] (pV (vT #[vI r.1, vB r.2])) := by
 unfold shape_Offset_v1_m at hM
 refine does_of_A follows Try.func23 rfl 18 rfl (upd (upd (fun _ => undef) 1 (vI f)) 0 (vA #[vS h_0, h_1v, vI h_2, vI h_3, vI h_4, vI h_5])) (by funext k; match k with | 0 => rfl | 1 => rfl | k + 2 => rfl) (fun base0_ => ?_)
 refine A_sr <| r_a (24, #[vS h_0, h_1v, vI h_2, vI h_3, vI h_4, vI h_5]) rfl rfl rfl (fun b2 => ?_) (.inr rfl)
 refine r_R [vI 0, vB false] rfl <| lx_nil <| A_seq fun K3 hK3 => A_sr <| r_R [vI f, vP b2 1] rfl <| r_l h_1v 0 _ _ _ _ rfl rfl rfl rfl rfl <| r_W (vI ((h_1).length : Int)) rfl (ev_lenSl rfl rfl rfl (Rd.shp hh_1)) ?_
 obtain ⟨ck5, hM⟩ := ck_some hM
 refine r_X (vI (((h_1).length : Int) - 1)) rfl (wi64 rfl ck5.1 ck5.2) rfl ?_
 obtain ⟨r6, hr7, hM⟩ := bind_sm hM
 refine r_c (vB r6) rfl _ _ (ev_callF rfl call_27 rfl) (shape_within_g N f 0 (((h_1).length : Int) - 1) _ hr7) <| r_V (vB (!(r6))) rfl <| lx_nil <| A_cond (!(r6)) rfl (fun hc8 => ?_) (fun hc8 => ?_)
 ·replace hM := ifn (Bool.eq_false_iff.1 (not_t hc8)) hM
  refine A_sr <| r_R [vI 0, vB false] rfl <| lx_nil ?_
  obtain rfl := Option.some.inj hM
  refine A_ret (fun hn => endsV (v0 := vT #[vI 0, vB false]) rfl (res2 rfl rfl))
 replace hM := ifp (not_f hc8) hM
 refine A_skip <| hK3 _ _ ?_; try clear hK3 K3
 refine A_sc [(some 17, false)] (conG Try.prog [(17, fun _ _ v_ L_ U_ => ∀ u0_, shape_width_m N (((h_1).take ((f).toNat)).drop 0) = some u0_ → (pV (vI u0_)) v_ L_ U_)]) <| r_V (vP b2 1) rfl <| r_l h_1v 0 _ _ _ _ rfl rfl rfl rfl rfl <| r_V (vI f) rfl ?_
 obtain ⟨ck11, hM⟩ := ck_some hM
 refine r_W (subA h_1v 0 ((f).toNat) 2) rfl (ev_v (ev_subSl2 rfl rfl rfl rfl (Rd.shp hh_1) ck11)) ?_
 obtain ⟨r12, hr13, hM⟩ := bind_sm hM
 refine r_gv (vI r12) 39 _ rfl rfl rfl (ev_callF rfl call_39 rfl) (fun own_ nw_ hs_ => shape_width_g N (((h_1).take ((f).toNat)).drop 0) _ hr13 hs_.view (subA h_1v 0 ((f).toNat) 2) ((rd_sub (rd_ro hh_1) (Nat.zero_le _) (toNat_len ck11.2)) own_ nw_ hs_)) (conE hr13) <| r_R [vI r12, vB true] rfl <| lx_nil ?_
 obtain rfl := Option.some.inj hM
 refine A_ret (fun hn => endsV (v0 := vT #[vI r12, vB true]) rfl (res2 rfl rfl))
def name_within_m (_ : Nat) (c : Int) (first : Int) (last : Int) : Option Bool := if c ≥ first then some (decide (c ≤ last)) else some false
set_option maxRecDepth 100000 in
set_option maxHeartbeats 8000000 in
theorem name_within_g (N : Nat) (c first last : Int) (r) (hM : name_within_m N c first last = some r) : Gives Try.prog 69 #[Value.int .i32 c, Value.int .i32 first, Value.int .i32 last] (vB r) := by
 unfold name_within_m at hM
 refine gives_of_A follows Try.func69 rfl 15 rfl (upd (upd (upd (fun _ => undef) 2 (Value.int .i32 last)) 1 (Value.int .i32 first)) 0 (Value.int .i32 c)) (by funext k; match k with | 0 => rfl | 1 => rfl | 2 => rfl | k + 3 => rfl) (fun base0_ => ?_)
 refine A_sr <| r_V (vB false) rfl <| lx_nil <| A_seq fun K2 hK2 => A_reg <| r_R [Value.int .i32 c, Value.int .i32 first, vB (decide (c ≥ first)), vB (decide (c ≥ first))] rfl ?_
 rcases hg3 : (decide (c ≥ first)) with _ | _
 ·replace hM := ifn (of_decide_eq_false hg3) hM
  refine r_R [none, none, none, vB false, vB false] rfl <| lx_nil <| hK2 _ _ ?_; try clear hK2 K2
  obtain rfl := Option.some.inj hM
  refine A_ret (fun hn => ends_eq (v0 := vB false) rfl (res1 rfl))
 replace hM := ifp (of_decide_eq_true hg3) hM
 refine r_R [Value.int .i32 c, Value.int .i32 last, vB (decide (c ≤ last)), vB (decide (c ≤ last)), vB (decide (c ≤ last))] rfl <| lx_nil <| hK2 _ _ ?_; try clear hK2 K2
 obtain rfl := Option.some.inj hM
 refine A_ret (fun hn => ends_eq (v0 := vB (decide (c ≤ last))) rfl (res1 rfl))
def name_Letter_k1 (N : Nat) (c : Int) : Option Bool := (name_within_m N c 65 90).bind fun r3 => if r3 = true then some true else (name_within_m N c 97 122).bind fun r6 => if r6 = true then some true else if c = 95 then some true else (name_within_m N c 192 591).bind fun r10 => if r10 = true then some true else (name_within_m N c 913 969).bind fun r13 => if r13 = true then some true else (name_within_m N c 1024 1279).bind fun r16 => some r16
def name_Letter_m (N : Nat) (c : Int) : Option Bool := if c = 215 then if c = 215 then some false else name_Letter_k1 N c  else if c = 247 then if c = 247 then some false else name_Letter_k1 N c  else if c = 930 then some false else name_Letter_k1 N c 
set_option maxRecDepth 100000 in
set_option maxHeartbeats 8000000 in
theorem name_Letter_g (N : Nat) (c : Int) (r) (hM : name_Letter_m N c = some r) : Gives Try.prog 68 #[Value.int .i32 c] (vB r) := by
 unfold name_Letter_m at hM
 refine gives_of_A follows Try.func68 rfl 30 rfl (upd (fun _ => undef) 0 (Value.int .i32 c)) (by funext k; match k with | 0 => rfl | k + 1 => rfl) (fun base0_ => ?_)
 refine A_sr <| r_V (vB false) rfl <| lx_nil <| A_cut (fun tt ll => (name_Letter_k1 N c  = some r) ∧ Is [(0, Value.int .i32 c)] [] tt ll) ?_ ?_
 ·refine A_sr <| r_V (Value.int .i32 c) rfl <| lx_nil <| A_block <| A_seq fun K19 hK19 => A_sr <| r_R [vB (c == 215), vB (c == 215)] rfl <| lx_nil <| A_cond (c == 215) rfl (fun hc21 => ?_) (fun hc21 => ?_)
  ·replace hM := ifp (eq_of_beq hc21) hM
   refine A_skip <| hK19 _ _ ?_; try clear hK19 K19
   refine A_cond (c == 215) rfl (fun hc22 => ?_) (fun hc22 => ?_)
   ·replace hM := ifp (eq_of_beq hc22) hM
    refine A_sr <| r_V (vB false) rfl <| lx_nil ?_
    obtain rfl := Option.some.inj hM
    refine A_ret (fun hn => ends_eq (v0 := vB false) rfl (res1 rfl))
   replace hM := ifn (ne_of_beq_false hc22) hM
   refine A_skip <| fg _ (Sub.of List.Sublist.slnil) ?_
   exact ⟨hM, is_mk rfl rfl⟩
  replace hM := ifn (ne_of_beq_false hc21) hM
  refine A_sr <| r_R [vB (c == 247), vB (c == 247)] rfl <| lx_nil <| A_cond (c == 247) rfl (fun hc25 => ?_) (fun hc25 => ?_)
  ·replace hM := ifp (eq_of_beq hc25) hM
   refine A_skip <| hK19 _ _ ?_; try clear hK19 K19
   refine A_cond (c == 247) rfl (fun hc26 => ?_) (fun hc26 => ?_)
   ·replace hM := ifp (eq_of_beq hc26) hM
    refine A_sr <| r_V (vB false) rfl <| lx_nil ?_
    obtain rfl := Option.some.inj hM
    refine A_ret (fun hn => ends_eq (v0 := vB false) rfl (res1 rfl))
   replace hM := ifn (ne_of_beq_false hc26) hM
   refine A_skip <| fg _ (Sub.of List.Sublist.slnil) ?_
   exact ⟨hM, is_mk rfl rfl⟩
  replace hM := ifn (ne_of_beq_false hc25) hM
  refine A_reg <| r_R [vB (c == 930), vB (c == 930)] rfl <| lx_nil <| hK19 _ _ ?_; try clear hK19 K19
  refine A_cond (c == 930) rfl (fun hc28 => ?_) (fun hc28 => ?_)
  ·replace hM := ifp (eq_of_beq hc28) hM
   refine A_sr <| r_V (vB false) rfl <| lx_nil ?_
   obtain rfl := Option.some.inj hM
   refine A_ret (fun hn => ends_eq (v0 := vB false) rfl (res1 rfl))
  replace hM := ifn (ne_of_beq_false hc28) hM
  refine A_skip <| fg _ (Sub.of List.Sublist.slnil) ?_
  exact ⟨hM, is_mk rfl rfl⟩
 clear hM; rintro t l ⟨hM, ⟨T, rfl⟩, rfl⟩
 unfold name_Letter_k1 at hM
 refine A_seq fun K2 hK2 => A_reg <| r_V (Value.int .i32 c) rfl ?_
 obtain ⟨r3, hr4, hM⟩ := bind_sm hM
 refine r_c (vB r3) rfl _ _ (ev_callF rfl call_69 rfl) (name_within_g N c 65 90 _ hr4) <| r_V (vB r3) rfl ?_
 rcases hg5 : r3 with _ | _
 ·replace hM := ifn (Bool.eq_false_iff.1 hg5) hM
  refine r_R [Value.int .i32 c] rfl <| r_y rfl ?_
  obtain ⟨r6, hr7, hM⟩ := bind_sm hM
  refine r_c (vB r6) rfl _ _ (ev_callF rfl call_69 rfl) (name_within_g N c 97 122 _ hr7) <| r_R [vB r6, vB r6] rfl ?_
  rcases hg8 : r6 with _ | _
  ·replace hM := ifn (Bool.eq_false_iff.1 hg8) hM
   refine r_R [Value.int .i32 c, vB (c == 95), vB (c == 95), vB (c == 95)] rfl ?_
   rcases hg9 : (c == 95) with _ | _
   ·replace hM := ifn (ne_of_beq_false hg9) hM
    refine r_R [Value.int .i32 c] rfl <| r_y rfl ?_
    obtain ⟨r10, hr11, hM⟩ := bind_sm hM
    refine r_c (vB r10) rfl _ _ (ev_callF rfl call_69 rfl) (name_within_g N c 192 591 _ hr11) <| r_R [vB r10, vB r10] rfl ?_
    rcases hg12 : r10 with _ | _
    ·replace hM := ifn (Bool.eq_false_iff.1 hg12) hM
     refine r_R [Value.int .i32 c] rfl <| r_y rfl ?_
     obtain ⟨r13, hr14, hM⟩ := bind_sm hM
     refine r_c (vB r13) rfl _ _ (ev_callF rfl call_69 rfl) (name_within_g N c 913 969 _ hr14) <| r_R [vB r13, vB r13] rfl ?_
     rcases hg15 : r13 with _ | _
     ·replace hM := ifn (Bool.eq_false_iff.1 hg15) hM
      refine r_R [Value.int .i32 c] rfl <| r_y rfl ?_
      obtain ⟨r16, hr17, hM⟩ := bind_sm hM
      refine r_c (vB r16) rfl _ _ (ev_callF rfl call_69 rfl) (name_within_g N c 1024 1279 _ hr17) <| r_R [vB r16, vB r16] rfl <| lx_nil <| hK2 _ _ ?_; try clear hK2 K2
      obtain rfl := Option.some.inj hM
      refine A_ret (fun hn => ends_eq (v0 := vB r16) rfl (res1 rfl))
     replace hM := ifp hg15 hM
     refine r_R [none, none, vB true, vB true] rfl <| lx_nil <| hK2 _ _ ?_; try clear hK2 K2
     obtain rfl := Option.some.inj hM
     refine A_ret (fun hn => ends_eq (v0 := vB true) rfl (res1 rfl))
    replace hM := ifp hg12 hM
    refine r_R [none, none, vB true, vB true, none, none, vB true, vB true] rfl <| lx_nil <| hK2 _ _ ?_; try clear hK2 K2
    obtain rfl := Option.some.inj hM
    refine A_ret (fun hn => ends_eq (v0 := vB true) rfl (res1 rfl))
   replace hM := ifp (eq_of_beq hg9) hM
   refine r_R [none, none, vB true, vB true, none, none, vB true, vB true, none, none, vB true, vB true] rfl <| lx_nil <| hK2 _ _ ?_; try clear hK2 K2
   obtain rfl := Option.some.inj hM
   refine A_ret (fun hn => ends_eq (v0 := vB true) rfl (res1 rfl))
  replace hM := ifp hg8 hM
  refine r_R [none, none, vB true, vB true, none, none, vB true, vB true, none, none, vB true, vB true, none, none, vB true, vB true] rfl <| lx_nil <| hK2 _ _ ?_; try clear hK2 K2
  obtain rfl := Option.some.inj hM
  refine A_ret (fun hn => ends_eq (v0 := vB true) rfl (res1 rfl))
 replace hM := ifp hg5 hM
 refine r_R [none, none, vB true, vB true, none, none, vB true, vB true, none, none, vB true, vB true, none, none, vB true, vB true, none, none, vB true, vB true] rfl <| lx_nil <| hK2 _ _ ?_; try clear hK2 K2
 obtain rfl := Option.some.inj hM
 refine A_ret (fun hn => ends_eq (v0 := vB true) rfl (res1 rfl))
def name_Digit_m (N : Nat) (c : Int) : Option Bool := (name_within_m N c 48 57).bind fun r3 => some r3
set_option maxRecDepth 100000 in
set_option maxHeartbeats 8000000 in
theorem name_Digit_g (N : Nat) (c : Int) (r) (hM : name_Digit_m N c = some r) : Gives Try.prog 70 #[Value.int .i32 c] (vB r) := by
 unfold name_Digit_m at hM
 refine gives_of_A follows Try.func70 rfl 5 rfl (upd (fun _ => undef) 0 (Value.int .i32 c)) (by funext k; match k with | 0 => rfl | k + 1 => rfl) (fun base0_ => ?_)
 refine A_sr <| r_V (vB false) rfl <| lx_nil <| A_sr <| r_V (Value.int .i32 c) rfl ?_
 obtain ⟨r3, hr4, hM⟩ := bind_sm hM
 refine r_c (vB r3) rfl _ _ (ev_callF rfl call_69 rfl) (name_within_g N c 48 57 _ hr4) <| r_V (vB r3) rfl <| lx_nil ?_
 obtain rfl := Option.some.inj hM
 refine A_ret (fun hn => ends_eq (v0 := vB r3) rfl (res1 rfl))
def name_mayStand_m (N : Nat) (c : Int) (ahead : Int) : Option Bool := (name_Letter_m N c).bind fun r3 => if r3 = true then some true else if ahead > 0 then (name_Digit_m N c).bind fun r7 => if r7 = true then some true else if c = 45 then some true else some (c == 46) else some false
set_option maxRecDepth 100000 in
set_option maxHeartbeats 8000000 in
theorem name_mayStand_g (N : Nat) (c ahead : Int) (r) (hM : name_mayStand_m N c ahead = some r) : Gives Try.prog 61 #[Value.int .i32 c, vI ahead] (vB r) := by
 unfold name_mayStand_m at hM
 refine gives_of_A follows Try.func61 rfl 23 rfl (upd (upd (fun _ => undef) 1 (vI ahead)) 0 (Value.int .i32 c)) (by funext k; match k with | 0 => rfl | 1 => rfl | k + 2 => rfl) (fun base0_ => ?_)
 refine A_sr <| r_V (vB false) rfl <| lx_nil <| A_seq fun K2 hK2 => A_reg <| r_V (Value.int .i32 c) rfl ?_
 obtain ⟨r3, hr4, hM⟩ := bind_sm hM
 refine r_c (vB r3) rfl _ _ (ev_callF rfl call_68 rfl) (name_Letter_g N c _ hr4) <| r_V (vB r3) rfl ?_
 rcases hg5 : r3 with _ | _
 ·replace hM := ifn (Bool.eq_false_iff.1 hg5) hM
  refine r_R [vI ahead, vB (decide (ahead > 0)), vB (decide (ahead > 0))] rfl ?_
  rcases hg6 : (decide (ahead > 0)) with _ | _
  ·replace hM := ifn (of_decide_eq_false hg6) hM
   refine r_R [none, none, none] rfl <| r_nu rfl rfl <| r_nu rfl rfl <| r_R [none, none] rfl <| r_nu rfl rfl <| r_nu rfl rfl <| r_R [none, vB false, vB false, vB false] rfl <| lx_nil <| hK2 _ _ ?_; try clear hK2 K2
   obtain rfl := Option.some.inj hM
   refine A_ret (fun hn => ends_eq (v0 := vB false) rfl (res1 rfl))
  replace hM := ifp (of_decide_eq_true hg6) hM
  refine r_R [Value.int .i32 c] rfl <| r_y rfl ?_
  obtain ⟨r7, hr8, hM⟩ := bind_sm hM
  refine r_c (vB r7) rfl _ _ (ev_callF rfl call_70 rfl) (name_Digit_g N c _ hr8) <| r_R [vB r7] rfl ?_
  rcases hg9 : r7 with _ | _
  ·replace hM := ifn (Bool.eq_false_iff.1 hg9) hM
   refine r_R [Value.int .i32 c, vB (c == 45), vB (c == 45), vB (c == 45)] rfl ?_
   rcases hg10 : (c == 45) with _ | _
   ·replace hM := ifn (ne_of_beq_false hg10) hM
    refine r_R [Value.int .i32 c, vB (c == 46), vB (c == 46), vB (c == 46), vB (c == 46), vB (c == 46)] rfl <| lx_nil <| hK2 _ _ ?_; try clear hK2 K2
    obtain rfl := Option.some.inj hM
    refine A_ret (fun hn => ends_eq (v0 := vB (c == 46)) rfl (res1 rfl))
   replace hM := ifp (eq_of_beq hg10) hM
   refine r_R [none, none, vB true, vB true, vB true, vB true] rfl <| lx_nil <| hK2 _ _ ?_; try clear hK2 K2
   obtain rfl := Option.some.inj hM
   refine A_ret (fun hn => ends_eq (v0 := vB true) rfl (res1 rfl))
  replace hM := ifp hg9 hM
  refine r_R [none, none, vB true, vB true, none, none, vB true, vB true, vB true, vB true] rfl <| lx_nil <| hK2 _ _ ?_; try clear hK2 K2
  obtain rfl := Option.some.inj hM
  refine A_ret (fun hn => ends_eq (v0 := vB true) rfl (res1 rfl))
 replace hM := ifp hg5 hM
 refine r_R [none, none, none] rfl <| r_nu rfl rfl <| r_nu rfl rfl <| r_nu rfl rfl <| r_nu rfl rfl <| r_nu rfl rfl <| r_nu rfl rfl <| r_nu rfl rfl <| r_nu rfl rfl <| r_nu rfl rfl <| r_nu rfl rfl <| r_R [none, vB true, vB true] rfl <| lx_nil <| hK2 _ _ ?_; try clear hK2 K2
 obtain rfl := Option.some.inj hM
 refine A_ret (fun hn => ends_eq (v0 := vB true) rfl (res1 rfl))
def name_May_l3 (N : Nat) (s : List UInt8) : Nat → Int → Nat → Option Bool
  | 0, _, _ => none
  | n6 + 1, count1_, m2_ => if m2_ < (s).length then ck (m2_ < (s).length) (if count1_ = 24 then some false else (name_mayStand_m N ((runeAt s m2_ : Nat) : Int) count1_).bind fun r15 => if r15 = true then ck (-9223372036854775808 ≤ (count1_ + 1) ∧ (count1_ + 1) ≤ 9223372036854775807) ((name_May_l3 N s n6) (count1_ + 1) (nextP s m2_)) else some false) else some (decide (count1_ > 0))
def name_May_m (N : Nat) (s : List UInt8) : Option Bool := name_May_l3 N s N 0 0
set_option maxRecDepth 100000 in
set_option maxHeartbeats 8000000 in
theorem name_May_g (N : Nat) (s : List UInt8) (r) (hM : name_May_m N s = some r) : Gives Try.prog 51 #[vS s] (vB r) := by
 unfold name_May_m at hM
 refine gives_of_A follows Try.func51 rfl 23 rfl (upd (fun _ => undef) 0 (vS s)) (by funext k; match k with | 0 => rfl | k + 1 => rfl) (fun base0_ => ?_)
 refine A_sr <| r_V (vB false) rfl <| lx_nil <| A_sr <| r_V (vI 0) rfl <| lx_nil <| A_seq fun K3 hK3 => A_sc [(some 7, false)] (conG Try.prog [(7, fun _ _ v_ L_ U_ => (pIt s) v_ L_ U_)]) <| r_V (vS s) rfl <| r_range s rfl rfl rfl rfl rfl (fun _ _ _ _ _ => Iff.rfl) (fun b5 => ?_)
 refine lx_nil <| A_block <| A_loop (fun tt ll nn => ∃ (n6 : Nat) (count1_ : Int) (m2_ : Nat), (name_May_l3 N s n6 count1_ m2_ = some r) ∧ Is [(3, vI count1_), (7, vP b5 0)] [(b5, (itT s m2_), #[])] tt ll ∧ nn = n6 + 1) (N + 1) ?_ ?_
 ·exact ⟨N, 0, 0, hM, is_mk rfl rfl, rfl⟩
 clear hM; rintro t l _ ⟨n6, count1_, m2_, hM, ⟨⟨T, rfl⟩, rfl⟩, rfl⟩
 rcases n6 with _ | n6
 ·exact absurd hM (by simp [name_May_l3])
 rw [name_May_l3] at hM
 refine A_sc [(some 8, true)] (conG Try.prog [(8, fun _ _ v_ L_ U_ => (pNx b5 s m2_) v_ L_ U_)]) <| r_next (lN := [(b5, (itT s (nextP s m2_)), #[])]) 0 b5 s m2_ rfl rfl rfl rfl rfl rfl (fun _ _ _ _ _ => Iff.rfl) rfl <| r_W (vB (decide (m2_ < (s).length))) rfl (ev_v (ev_next0 s m2_)) <| lx_nil <| A_seq fun K8 hK8 => A_cond (decide (m2_ < (s).length)) rfl (fun hc9 => ?_) (fun hc9 => ?_)
 ·replace hM := ifp (of_decide_eq_true hc9) hM
  refine A_skip <| hK8 _ _ ?_; try clear hK8 K8
  refine A_block <| A_sr ?_
  obtain ⟨ck11, hM⟩ := ck_some hM
  refine r_W (Value.int .i32 ((runeAt s m2_ : Nat) : Int)) rfl (ev_v (ev_next2 ck11)) <| r_V (Value.int .i32 ((runeAt s m2_ : Nat) : Int)) rfl <| lx_nil <| A_seq fun K12 hK12 => A_seq fun K13 hK13 => A_reg <| r_R [vI count1_, vB (count1_ == 24), vB (count1_ == 24)] rfl ?_
  rcases hg14 : (count1_ == 24) with _ | _
  ·replace hM := ifn (ne_of_beq_false hg14) hM
   refine r_R [Value.int .i32 ((runeAt s m2_ : Nat) : Int), vI count1_] rfl <| r_y rfl ?_
   obtain ⟨r15, hr16, hM⟩ := bind_sm hM
   refine r_c (vB r15) rfl _ _ (ev_callF rfl call_61 rfl) (name_mayStand_g N ((runeAt s m2_ : Nat) : Int) count1_ _ hr16) <| r_R [vB (!(r15)), vB (!(r15))] rfl <| lx_nil <| hK13 _ _ ?_; try clear hK13 K13
   refine A_cond (!(r15)) rfl (fun hc17 => ?_) (fun hc17 => ?_)
   ·replace hM := ifn (Bool.eq_false_iff.1 (not_t hc17)) hM
    refine A_sr <| r_V (vB false) rfl <| lx_nil ?_
    obtain rfl := Option.some.inj hM
    refine A_ret (fun hn => ends_eq (v0 := vB false) rfl (res1 rfl))
   replace hM := ifp (not_f hc17) hM
   refine A_skip <| hK12 _ _ ?_; try clear hK12 K12
   refine A_reg <| r_V (vI count1_) rfl ?_
   obtain ⟨ck19, hM⟩ := ck_some hM
   refine r_X (vI (count1_ + 1)) rfl (wi64 rfl ck19.1 ck19.2) rfl <| r_V (vI (count1_ + 1)) rfl <| lx_nil <| fg _ (Sub.of (List.Sublist.cons_cons _ List.Sublist.slnil)) ?_
   exact ⟨n6 + 1, by omega, n6, (count1_ + 1), nextP s m2_, hM, is_mk (by first | rfl | (simp only [hg14]; done) | (simp only [hg14]; rfl) | (simp only [app_hl]; rfl)) rfl, rfl⟩
  replace hM := ifp (eq_of_beq hg14) hM
  refine r_R [none, none, none, none, vB true] rfl <| lx_nil <| hK13 _ _ ?_; try clear hK13 K13
  refine A_cond true rfl (fun _ => ?_) (fun h_ => nomatch h_)
  refine A_sr <| r_V (vB false) rfl <| lx_nil ?_
  obtain rfl := Option.some.inj hM
  refine A_ret (fun hn => ends_eq (v0 := vB false) rfl (res1 rfl))
 replace hM := ifn (of_decide_eq_false hc9) hM
 refine A_exit <| hK3 _ _ ?_; try clear hK3 K3
 refine A_sr <| r_R [vI count1_, vB (decide (count1_ > 0)), vB (decide (count1_ > 0))] rfl <| lx_nil ?_
 obtain rfl := Option.some.inj hM
 refine A_ret (fun hn => ends_eq (v0 := vB (decide (count1_ > 0))) rfl (res1 rfl))
def strings_Index_m (_ : Nat) (s : List UInt8) (substr : List UInt8) : Option Int := ck ((substr).length = 1) (some (Lib.index s substr))
set_option maxRecDepth 100000 in
set_option maxHeartbeats 8000000 in
theorem strings_Index_g (N : Nat) (s substr : List UInt8) (r) (hM : strings_Index_m N s substr = some r) : Gives Try.prog 62 #[vS s, vS substr] (vI r) := by
 unfold strings_Index_m at hM
 refine gives_of_A follows Try.func62 rfl 8 rfl (upd (upd (fun _ => undef) 1 (vS substr)) 0 (vS s)) (by funext k; match k with | 0 => rfl | 1 => rfl | k + 2 => rfl) (fun base0_ => ?_)
 refine A_sr <| r_V (vI 0) rfl <| lx_nil <| A_sr <| r_R [vS s, vS substr] rfl ?_
 obtain ⟨ck3, hM⟩ := ck_some hM
 refine r_c (vI (Lib.index s substr)) rfl _ _ (ev_callF rfl call_71 rfl) (index1_g s substr ck3) <| r_V (vI (Lib.index s substr)) rfl <| lx_nil ?_
 obtain rfl := Option.some.inj hM
 refine A_ret (fun hn => ends_eq (v0 := vI (Lib.index s substr)) rfl (res1 rfl))
def strings_Contains_m (N : Nat) (s : List UInt8) (substr : List UInt8) : Option Bool := (strings_Index_m N s substr).bind fun r3 => some (decide (r3 ≥ 0))
set_option maxRecDepth 100000 in
set_option maxHeartbeats 8000000 in
theorem strings_Contains_g (N : Nat) (s substr : List UInt8) (r) (hM : strings_Contains_m N s substr = some r) : Gives Try.prog 52 #[vS s, vS substr] (vB r) := by
 unfold strings_Contains_m at hM
 refine gives_of_A follows Try.func52 rfl 9 rfl (upd (upd (fun _ => undef) 1 (vS substr)) 0 (vS s)) (by funext k; match k with | 0 => rfl | 1 => rfl | k + 2 => rfl) (fun base0_ => ?_)
 refine A_sr <| r_V (vB false) rfl <| lx_nil <| A_sr <| r_R [vS s, vS substr] rfl ?_
 obtain ⟨r3, hr4, hM⟩ := bind_sm hM
 refine r_c (vI r3) rfl _ _ (ev_callF rfl call_62 rfl) (strings_Index_g N s substr _ hr4) <| r_R [vB (decide (r3 ≥ 0)), vB (decide (r3 ≥ 0))] rfl <| lx_nil ?_
 obtain rfl := Option.some.inj hM
 refine A_ret (fun hn => ends_eq (v0 := vB (decide (r3 ≥ 0))) rfl (res1 rfl))
def shape_plain_m (N : Nat) (s : List UInt8) : Option Bool := (name_May_m N s).bind fun r3 => if r3 = true then (strings_Contains_m N s ([46] : List UInt8)).bind fun r6 => some (!(r6)) else some false
set_option maxRecDepth 100000 in
set_option maxHeartbeats 8000000 in
theorem shape_plain_g (N : Nat) (s : List UInt8) (r) (hM : shape_plain_m N s = some r) : Gives Try.prog 37 #[vS s] (vB r) := by
 unfold shape_plain_m at hM
 refine gives_of_A follows Try.func37 rfl 10 rfl (upd (fun _ => undef) 0 (vS s)) (by funext k; match k with | 0 => rfl | k + 1 => rfl) (fun base0_ => ?_)
 refine A_sr <| r_V (vB false) rfl <| lx_nil <| A_seq fun K2 hK2 => A_reg <| r_V (vS s) rfl ?_
 obtain ⟨r3, hr4, hM⟩ := bind_sm hM
 refine r_c (vB r3) rfl _ _ (ev_callF rfl call_51 rfl) (name_May_g N s _ hr4) <| r_V (vB r3) rfl ?_
 rcases hg5 : r3 with _ | _
 ·replace hM := ifn (Bool.eq_false_iff.1 hg5) hM
  refine r_R [none, none, none, vB false, vB false] rfl <| lx_nil <| hK2 _ _ ?_; try clear hK2 K2
  obtain rfl := Option.some.inj hM
  refine A_ret (fun hn => ends_eq (v0 := vB false) rfl (res1 rfl))
 replace hM := ifp hg5 hM
 refine r_R [vS s] rfl <| r_y rfl ?_
 obtain ⟨r6, hr7, hM⟩ := bind_sm hM
 refine r_c (vB r6) rfl _ _ (ev_callF rfl call_52 rfl) (strings_Contains_g N s ([46] : List UInt8) _ hr7) <| r_R [vB (!(r6)), vB (!(r6)), vB (!(r6))] rfl <| lx_nil <| hK2 _ _ ?_; try clear hK2 K2
 obtain rfl := Option.some.inj hM
 refine A_ret (fun hn => ends_eq (v0 := vB (!(r6))) rfl (res1 rfl))
def shape_fieldNames_1_v1_m (_ : Nat) (i : Int) (c1_ : List (List UInt8 × Int)) : Option (List UInt8) := ck (0 ≤ i ∧ i < ((c1_).length : Int)) (some (((c1_)[(i).toNat]!).1))
set_option maxRecDepth 100000 in
set_option maxHeartbeats 8000000 in
theorem shape_fieldNames_1_v1_g (N : Nat) (i : Int) (c1_ : List (List UInt8 × Int)) (r) (hM : shape_fieldNames_1_v1_m N i c1_ = some r) (ro : Addr → Option Value) (bc1_ : Nat) (c1_v : Value) (hc1_ : Rd enc_52 ro c1_v c1_) (hbc1_ : Blk ro bc1_ [c1_v]) : Does Try.prog 63 #[vI i, vP bc1_ 0] ro [] (pV (vS r)) := by
 unfold shape_fieldNames_1_v1_m at hM
 refine does_of_A follows Try.func63 rfl 9 rfl (upd (upd (fun _ => undef) 1 (vP bc1_ 0)) 0 (vI i)) (by funext k; match k with | 0 => rfl | 1 => rfl | k + 2 => rfl) (fun base0_ => ?_)
 refine A_sr <| r_V (Value.string (⟨#[]⟩)) rfl <| lx_nil <| A_sr <| r_lb c1_v (vs := [c1_v]) (o := 0) rfl rfl (blk_ro hbc1_) rfl <| r_V (vI i) rfl ?_
 obtain ⟨ck3, hM⟩ := ck_some hM
 refine r_W (elA c1_v ((i).toNat * 2)) rfl (ev_v (ev_idxSl rfl rfl rfl (Rd.shp hc1_) ck3)) <| r_W (elA c1_v ((i).toNat * 2 + 0)) rfl (ev_v (ev_fieldX rfl rfl rfl rfl rfl rfl (Rd.shp hc1_) (pos_of ck3))) <| r_le (vS (((c1_)[(i).toNat]!).1)) (En := enc_52) ((c1_)[(i).toNat]!) ((i).toNat) 0 rfl rfl (rd_ro hc1_) (get_of ck3) rfl <| r_V (vS (((c1_)[(i).toNat]!).1)) rfl <| lx_nil ?_
 obtain rfl := Option.some.inj hM
 refine A_ret (fun hn => endsV (v0 := vS (((c1_)[(i).toNat]!).1)) rfl (res1 rfl))
def shape_gather_v1_l3 (N : Nat) (count : Int) (at0_ : List (List UInt8 × Int)) : Nat → List (List UInt8) → Int → Option (List (List UInt8))
  | 0, _, _ => none
  | n9 + 1, s1_, x2_ => if x2_ < count then (shape_fieldNames_1_v1_m N x2_ at0_).bind fun r15 => ck (0 ≤ x2_ ∧ x2_ < ((s1_).length : Int)) (ck (-9223372036854775808 ≤ (x2_ + 1) ∧ (x2_ + 1) ≤ 9223372036854775807) ((shape_gather_v1_l3 N count at0_ n9) ((s1_).set ((x2_).toNat) r15) (x2_ + 1))) else some s1_
def shape_gather_v1_m (N : Nat) (count : Int) (at0_ : List (List UInt8 × Int)) : Option (List (List UInt8)) := ck (0 ≤ count ∧ count ≤ 8796093022208) (shape_gather_v1_l3 N count at0_ N (List.replicate (count).toNat ([])) 0)
set_option maxRecDepth 100000 in
set_option maxHeartbeats 8000000 in
theorem shape_gather_v1_g (N : Nat) (count : Int) (at0_ : List (List UInt8 × Int)) (r) (hM : shape_gather_v1_m N count at0_ = some r) (ro : Addr → Option Value) (bat0_ : Nat) (at0_v : Value) (hat0_ : Rd enc_52 ro at0_v at0_) (hbat0_ : Blk ro bat0_ [at0_v]) : Does Try.prog 42 #[vI count, Value.func (.func 63) #[] #[vP bat0_ 0]] ro [] (p1 (fun s_ => s_) 9 encS r) := by
 unfold shape_gather_v1_m at hM
 refine does_of_A follows Try.func42 rfl 21 rfl (upd (upd (fun _ => undef) 1 (Value.func (.func 63) #[] #[vP bat0_ 0])) 0 (vI count)) (by funext k; match k with | 0 => rfl | 1 => rfl | k + 2 => rfl) (fun base0_ => ?_)
 refine A_sr <| r_V nS rfl <| lx_nil <| A_sc [(some 8, false)] (conG Try.prog [(8, fun _ _ v_ L_ U_ => (p1 (fun v => v) 9 encS (List.replicate (count).toNat ([]))) v_ L_ U_)]) <| r_V (vI count) rfl ?_
 obtain ⟨ck3, hM⟩ := ck_some hM
 refine r_mk (Ls := []) 9 encS ([]) count rfl rfl rfl rfl rfl rfl rfl rfl rfl rfl 8796093022208 rfl ck3 (fun _ _ _ _ _ => Iff.rfl) (fun s4 S5 H6 => ?_)
 refine r_V s4 rfl <| lx_nil <| A_seq fun K7 hK7 => A_sr <| r_R [vI count, vI 0] rfl <| lx_nil <| A_block <| A_forget _ (Sub.pick [S5] [0] rfl) <| A_loop (fun tt ll nn => ∃ (n9 : Nat) (s1_ : List (List UInt8)) (x2_ : Int), (shape_gather_v1_l3 N count at0_ n9 s1_ x2_ = some r) ∧ ∃ (Ss1_ : List Bl), Sl 9 encS s4 s1_ Ss1_ ∧ Is [(1, Value.func (.func 63) #[] #[vP bat0_ 0]), (5, s4), (9, vI count), (10, vI x2_)] (List.flatten [Ss1_]) tt ll ∧ nn = n9 + 1) (N + 1) ?_ ?_
 ·exact ⟨N, (List.replicate (count).toNat ([])), 0, hM, S5, H6, is_mk rfl rfl, rfl⟩
 clear hM; rintro t l _ ⟨n9, s1_, x2_, hM, Ss1_, hs1_, ⟨⟨T, rfl⟩, rfl⟩, rfl⟩
 rcases n9 with _ | n9
 ·exact absurd hM (by simp [shape_gather_v1_l3])
 rw [shape_gather_v1_l3] at hM
 refine A_sr <| r_V (vB (decide (x2_ < count))) rfl <| lx_nil <| A_seq fun K11 hK11 => A_cond (decide (x2_ < count)) rfl (fun hc12 => ?_) (fun hc12 => ?_)
 ·replace hM := ifp (of_decide_eq_true hc12) hM
  refine A_skip <| hK11 _ _ ?_; try clear hK11 K11
  refine A_seq fun K13 hK13 => A_block <| A_sr <| r_R [vI x2_, vI x2_] rfl <| lx_nil <| A_regC [(some 17, false)] (conG Try.prog [(17, fun _ _ v_ L_ U_ => ∀ u0_, shape_fieldNames_1_v1_m N x2_ at0_ = some u0_ → (pV (vS u0_)) v_ L_ U_)]) <| r_R [s4, vI x2_, Value.func (.func 63) #[] #[vP bat0_ 0], vI x2_] rfl ?_
  obtain ⟨r15, hr16, hM⟩ := bind_sm hM
  refine r_gv (vS r15) 63 _ rfl rfl rfl (ev_callV (caps := [vP bat0_ 0]) rfl call_63 rfl) (fun own_ nw_ hs_ => shape_fieldNames_1_v1_g N x2_ at0_ _ hr16 hs_.view bat0_ at0_v ((rd_ro hat0_) own_ nw_ hs_) (blk_ro hbat0_ own_ nw_ hs_)) (conE hr16) ?_
  obtain ⟨ck17, hM⟩ := ck_some hM
  refine r_W (elA s4 ((x2_).toNat * 1)) rfl (ev_v (ev_idxSl rfl rfl rfl (Sl.shp hs1_) ck17)) <| r_se (Ls := [Ss1_]) 0 (En := encS) ((s1_)[(x2_).toNat]!) r15 ((x2_).toNat) 0 rfl rfl rfl hs1_ (get_of ck17) rfl rfl rfl (one_all rfl) rfl (fun S18 H19 => ?_)
  refine lx_nil <| hK13 _ _ ?_; try clear hK13 K13
  refine A_reg ?_
  obtain ⟨ck20, hM⟩ := ck_some hM
  refine r_X (vI (x2_ + 1)) rfl (wi64 rfl ck20.1 ck20.2) rfl <| r_V (vI (x2_ + 1)) rfl <| lx_nil <| fg _ (Sub.pick [S18] [0] rfl) ?_
  exact ⟨n9 + 1, by omega, n9, (s1_).set ((x2_).toNat) r15, (x2_ + 1), hM, S18, H19, is_mk rfl rfl, rfl⟩
 replace hM := ifn (of_decide_eq_false hc12) hM
 refine A_exit <| hK7 _ _ ?_; try clear hK7 K7
 refine A_sr <| r_R [s4, s4] rfl <| lx_nil ?_
 obtain rfl := Option.some.inj hM
 refine A_ret (fun hn => ends1 (v0 := s4) hs1_ (sub_one (Sub.pick [Ss1_] [0] rfl)) rfl (res1 rfl))
def shape_fieldNames_m (N : Nat) (l' : List (List UInt8 × Int)) : Option (List (List UInt8)) := (shape_gather_v1_m N ((l').length : Int) l').bind fun r4 => some r4
set_option maxRecDepth 100000 in
set_option maxHeartbeats 8000000 in
theorem shape_fieldNames_g (N : Nat) (l' : List (List UInt8 × Int)) (r) (hM : shape_fieldNames_m N l' = some r) (ro : Addr → Option Value) (l'v : Value) (hl' : Rd enc_52 ro l'v l') : Does Try.prog 53 #[l'v] ro [] (p1 (fun s_ => s_) 9 encS r) := by
 unfold shape_fieldNames_m at hM
 refine does_of_A follows Try.func53 rfl 7 rfl (upd (fun _ => undef) 0 l'v) (by funext k; match k with | 0 => rfl | k + 1 => rfl) (fun base0_ => ?_)
 refine A_sr <| r_a (22, #[l'v]) rfl rfl (alloc_sl rfl (Rd.shp hl')) (fun b2 => ?_) (.inr rfl)
 refine r_V nS rfl <| lx_nil <| A_sc [(some 6, false)] (conG Try.prog [(6, fun _ _ v_ L_ U_ => ∀ u0_, shape_gather_v1_m N ((l').length : Int) l' = some u0_ → (p1 (fun s_ => s_) 9 encS u0_) v_ L_ U_)]) <| r_l l'v 0 _ _ _ _ rfl rfl rfl rfl rfl <| r_W (vI ((l').length : Int)) rfl (ev_lenSl rfl rfl rfl (Rd.shp hl')) <| r_W (Value.func (.func 63) #[] #[vP b2 0]) rfl (ev_mkF rfl) ?_
 obtain ⟨r4, hr5, hM⟩ := bind_sm hM
 refine r_g1 (Ls := [(kBa22_1 b2 l'v)]) (fun s6 => s6) 9 encS r4 42 _ rfl rfl rfl (ev_callF rfl call_42 rfl) (fun own_ nw_ hs_ => shape_gather_v1_g N ((l').length : Int) l' _ hr5 hs_.view b2 l'v ((rd_ro hl') own_ nw_ hs_) (blk_own 0 rfl rfl own_ nw_ hs_)) (conE hr5) (fun s6 S7 H8 => ?_)
 refine r_V s6 rfl <| lx_nil ?_
 obtain rfl := Option.some.inj hM
 refine A_ret (fun hn => ends1 (v0 := s6) H8 (sub_one (Sub.pick [(kBa22_1 b2 l'v), S7] [1] rfl)) rfl (res1 rfl))
def strings_Builder_copyCheck_v1_m (_ : Nat) : Option Unit := some ()
set_option maxRecDepth 100000 in
set_option maxHeartbeats 8000000 in
theorem strings_Builder_copyCheck_v1_g (N : Nat) (r) (hM : strings_Builder_copyCheck_v1_m N = some r) (ro : Addr → Option Value) (bb : Nat) : Does Try.prog 65 #[vP bb 0] ro (kBa81_2 bb (Value.pointer none) nS) (pO (kBa81_2 bb (Value.pointer none) nS) (oE (vT #[]) [(kBa81_2 bb (vP bb 0) nS)])) := by
 unfold strings_Builder_copyCheck_v1_m at hM
 refine doesO_of_A follows Try.func65 rfl 20 rfl (upd (fun _ => undef) 0 (vP bb 0)) (by funext k; match k with | 0 => rfl | k + 1 => rfl) (fun _ _ h_ _ => h_) (fun base0_ => ?_)
 refine A_sr <| r_R [vP bb 0, vP bb 0, vP bb 0] rfl <| r_l (Value.pointer none) 0 _ _ _ _ rfl rfl rfl rfl rfl <| r_V (vB true) rfl <| lx_nil <| A_cond true rfl (fun _ => ?_) (fun h_ => nomatch h_)
 refine A_regC [(some 9, true), (some 10, true), (some 11, true)] (conG Try.prog [(9, fun _ _ v_ L_ U_ => (pUp (fun v_ U_ => v_ = vP bb 0 ∧ U_ = (kBa81_2 bb (Value.pointer none) nS))) v_ L_ U_), (10, fun _ _ v_ L_ U_ => (pUp (fun v_ U_ => v_ = vP bb 0 ∧ U_ = (kBa81_2 bb (Value.pointer none) nS))) v_ L_ U_), (11, fun _ _ v_ L_ U_ => (pUp (fun v_ U_ => v_ = vP bb 0 ∧ U_ = (kBa81_2 bb (Value.pointer none) nS))) v_ L_ U_)]) <| r_R [vP bb 0, vP bb 0] rfl <| r_hv (Ls := [(kBa81_2 bb (Value.pointer none) nS)]) (vP bb 0) 0 rfl rfl rfl rfl rfl (run_toU (TB := 81) (cs := #[Value.pointer none, nS]) rfl rfl rfl rfl rfl rfl rfl (List.mem_singleton.2 rfl)) (fun _ _ _ _ _ => Iff.rfl) ?_
 refine r_hv (Ls := [(kBa81_2 bb (Value.pointer none) nS)]) (vP bb 0) 0 rfl rfl rfl rfl rfl (fun w_ _ => run_ext (args := #[vP bb 0]) (e := Extern.AbiNoEscape.same) (w' := w_) (exec_fn rfl) Try.func72 (by kernel_rfl) (by kernel_rfl) (by kernel_rfl) (by kernel_rfl) rfl) (fun _ _ _ _ _ => Iff.rfl) <| r_hv (Ls := [(kBa81_2 bb (Value.pointer none) nS)]) (vP bb 0) 0 rfl rfl rfl rfl rfl (run_fromU (TB := 81) (cs := #[Value.pointer none, nS]) 2 rfl rfl rfl rfl rfl (List.mem_singleton.2 rfl) rfl (by kernel_rfl)) (fun _ _ _ _ _ => Iff.rfl) <| r_R [vP bb 0, vP bb 0] rfl <| r_s (kBa81_2 bb (vP bb 0) nS) 0 _ _ _ _ _ (#[vP bb 0, nS]) rfl rfl rfl rfl (.of rfl rfl) rfl rfl <| lx_nil ?_
 obtain rfl := Option.some.inj hM
 refine endsN (v0 := vT #[]) (O := [(kBa81_2 bb (vP bb 0) nS)]) rfl (Sub.pick [(kBa81_2 bb (vP bb 0) nS)] [0] rfl) ⟨rfl, rfl⟩
def strings_Builder_grow_v1_m (_ : Nat) (n : Int) : Option (List UInt8) := ck (-9223372036854775808 ≤ (0 + n) ∧ (0 + n) ≤ 9223372036854775807) (ck (0 ≤ (0 + n) ∧ (0 + n) ≤ 140737488355328) (some ((([] : List UInt8)).take (([] : List UInt8)).length ++ (([] : List UInt8)).drop (([] : List UInt8)).length)))
set_option maxRecDepth 100000 in
set_option maxHeartbeats 8000000 in
theorem strings_Builder_grow_v1_g (N : Nat) (n : Int) (r) (hM : strings_Builder_grow_v1_m N n = some r) (ro : Addr → Option Value) (bb : Nat) : Does Try.prog 66 #[vP bb 0, vI n] ro (kBa81_2 bb (vP bb 0) nS) (pO (kBa81_2 bb (vP bb 0) nS) (oS 5 encYs r fun s_0 => (oE (vT #[]) [(kBa81_2 bb (vP bb 0) s_0)]))) := by
 unfold strings_Builder_grow_v1_m at hM
 refine doesO_of_A follows Try.func66 rfl 30 rfl (upd (upd (fun _ => undef) 1 (vI n)) 0 (vP bb 0)) (by funext k; match k with | 0 => rfl | 1 => rfl | k + 2 => rfl) (fun _ _ h_ _ => h_) (fun base0_ => ?_)
 refine A_seq fun K1 hK1 => A_drawR [(some 13, false)] (conG Try.prog [(13, fun _ _ v_ L_ U_ => (pMnz 5 ((0 + n)).toNat) v_ L_ U_)]) [] (by decide +kernel) (fun hn => sep_nil) <| r_R [vP bb 0, vP bb 0, vP bb 1] rfl <| r_l nS 0 _ _ _ _ rfl rfl rfl rfl rfl <| r_W (vI 0) rfl (ev_cap0 rfl rfl rfl) <| r_X (vI 0) rfl (wi64 rfl (by decide) (by decide)) rfl <| r_V (vI n) rfl ?_
 obtain ⟨ck2, hM⟩ := ck_some hM
 refine r_X (vI (0 + n)) rfl (wi64 rfl ck2.1 ck2.2) rfl ?_
 obtain ⟨ck3, hM⟩ := ck_some hM
 refine r_mnz (Ls := [(kBa81_2 bb (vP bb 0) nS)]) (ps := #[3]) (t := 79) 5 (0 + n) rfl rfl rfl (exec_fn rfl) Try.func73 (by kernel_rfl) (by kernel_rfl) (by kernel_rfl) (by kernel_rfl) rfl ck3 (fun _ _ _ _ _ => Iff.rfl) (fun s5 S6 xs4 _ H7 => ?_)
 refine r_R [vP bb 0, vP bb 0, vP bb 1] rfl <| r_l nS 0 _ _ _ _ rfl rfl rfl rfl rfl <| r_W (vI ((([] : List UInt8)).length : Int)) rfl (ev_lenSl rfl rfl rfl (.inl ⟨rfl, rfl⟩)) <| r_W (subA s5 0 ((((([] : List UInt8)).length : Int)).toNat) 1) rfl (ev_v (ev_subSl2 rfl rfl rfl rfl (Sl.shp H7) (by exact ⟨by decide, Int.natCast_nonneg _⟩))) <| r_V (subA s5 0 ((((([] : List UInt8)).length : Int)).toNat) 1) rfl <| lx_nil <| hK1 _ _ ?_; try clear hK1 K1
 refine A_sc [(some 25, true)] (conG Try.prog [(25, fun _ _ v_ L_ U_ => (pUp (fun v_ U_ => v_ = .int .i64 ((min (([] : List UInt8)).length (([] : List UInt8)).length : Nat) : Int) ∧ Sl 5 encYs (subA s5 0 ((((([] : List UInt8)).length : Int)).toNat) 1) ((([] : List UInt8)).take (([] : List UInt8)).length ++ (([] : List UInt8)).drop (([] : List UInt8)).length) U_ ∧ U_.map (·.1) = S6.map (·.1))) v_ L_ U_)]) <| r_R [subA s5 0 ((((([] : List UInt8)).length : Int)).toNat) 1, vP bb 0, vP bb 0, vP bb 1] rfl <| r_l nS 0 _ _ _ _ rfl rfl rfl rfl rfl ?_
 refine r_cpy (Ls := [(kBa81_2 bb (vP bb 0) nS), S6]) 1 (En := encYs) (ys := ([] : List UInt8)) rfl rfl rfl rfl rfl rfl (Sl.take00 H7) (.inl ⟨rfl, rfl⟩) (fun _ _ _ => .inl ⟨rfl, rfl⟩) rfl rfl rfl rfl (fun _ _ _ _ _ => Iff.rfl) (fun S9 H10 => ?_)
 refine lx_nil <| A_reg <| r_R [vP bb 0, subA s5 0 ((((([] : List UInt8)).length : Int)).toNat) 1, vP bb 0, vP bb 1] rfl <| r_s (List.flatten [(kBa81_2 bb (vP bb 0) (subA s5 0 ((((([] : List UInt8)).length : Int)).toNat) 1)), S9]) 0 _ _ _ _ _ (#[vP bb 0, subA s5 0 ((((([] : List UInt8)).length : Int)).toNat) 1]) rfl rfl rfl (cells_sl rfl (Sl.shp H10)) (.ofS rfl rfl (all_cons' (Shp.one (Sl.shp H10)) all_nil')) rfl rfl <| lx_nil ?_
 obtain rfl := Option.some.inj hM
 refine endsN (v0 := vT #[]) (O := [S9, (kBa81_2 bb (vP bb 0) (subA s5 0 ((((([] : List UInt8)).length : Int)).toNat) 1))]) rfl (Sub.pick [(kBa81_2 bb (vP bb 0) (subA s5 0 ((((([] : List UInt8)).length : Int)).toNat) 1)), S9] [1, 0] rfl) ⟨subA s5 0 ((((([] : List UInt8)).length : Int)).toNat) 1, S9, _, H10, ⟨rfl, rfl⟩, rfl⟩
def strings_Builder_Grow_v1_k1 (N : Nat) (n : Int) : Option (List UInt8) := ck ((-9223372036854775808 ≤ (0 - ((([] : List UInt8)).length : Int)) ∧ (0 - ((([] : List UInt8)).length : Int)) ≤ 9223372036854775807)) (if ((0 - ((([] : List UInt8)).length : Int)) : Int) < n then (strings_Builder_grow_v1_m N n).bind fun r7 => some r7 else some ([] : List UInt8))
def strings_Builder_Grow_v1_m (N : Nat) (n : Int) : Option (List UInt8) := (strings_Builder_copyCheck_v1_m N ).bind fun r2 => if n < 0 then none else strings_Builder_Grow_v1_k1 N n 
set_option maxRecDepth 100000 in
set_option maxHeartbeats 8000000 in
theorem strings_Builder_Grow_v1_g (N : Nat) (n : Int) (r) (hM : strings_Builder_Grow_v1_m N n = some r) (ro : Addr → Option Value) (bb : Nat) : Does Try.prog 57 #[vP bb 0, vI n] ro (kBa81_2 bb (Value.pointer none) nS) (pO (kBa81_2 bb (Value.pointer none) nS) (oS 5 encYs r fun s_0 => (oE (vT #[]) [(kBa81_2 bb (vP bb 0) s_0)]))) := by
 unfold strings_Builder_Grow_v1_m at hM
 refine doesO_of_A follows Try.func57 rfl 25 rfl (upd (upd (fun _ => undef) 1 (vI n)) 0 (vP bb 0)) (by funext k; match k with | 0 => rfl | 1 => rfl | k + 2 => rfl) (fun _ _ h_ _ => h_) (fun base0_ => ?_)
 refine A_sc [(some 5, true)] (conG Try.prog [(5, fun _ _ v_ L_ U_ => (pO (List.flatten [(kBa81_2 bb (Value.pointer none) nS)]) (oE (vT #[]) [(kBa81_2 bb (vP bb 0) nS)])) v_ L_ U_)]) <| r_V (vP bb 0) rfl ?_
 obtain ⟨r2, hr3, hM⟩ := bind_sm hM
 refine r_gm (Ls := [(kBa81_2 bb (Value.pointer none) nS)]) (FL := [(kBa81_2 bb (Value.pointer none) nS)]) [0] _ (some 5) 65 _ rfl rfl rfl rfl rfl (ev_callF rfl call_65 rfl) (fun own_ nw_ hn_ hs_ => strings_Builder_copyCheck_v1_g N  _ hr3 _ bb) (fun _ _ _ _ _ => Iff.rfl) (fun h_ => nomatch h_) ?_
 rintro _ _ ⟨rfl, rfl⟩
 refine lx_perm (Ls := [(kBa81_2 bb (vP bb 0) nS)]) (Ls' := [(kBa81_2 bb (vP bb 0) nS)]) [0] rfl rfl <| lx_nil <| A_cut (fun tt ll => (strings_Builder_Grow_v1_k1 N n  = some r) ∧ Is [(0, vP bb 0), (1, vI n)] (kBa81_2 bb (vP bb 0) nS) tt ll) ?_ ?_
 ·refine A_sr <| r_R [vI n, vB (decide (n < 0))] rfl <| lx_nil <| A_cond (decide (n < 0)) rfl (fun hc13 => ?_) (fun hc13 => ?_)
  ·replace hM := ifp (of_decide_eq_true hc13) hM
   refine A_reg <| r_V (Value.iface 9 (Value.string (⟨#[115, 116, 114, 105, 110, 103, 115, 46, 66, 117, 105, 108, 100, 101, 114, 46, 71, 114, 111, 119, 58, 32, 110, 101, 103, 97, 116, 105, 118, 101, 32, 99, 111, 117, 110, 116]⟩))) rfl ?_
   cases hM
  replace hM := ifn (of_decide_eq_false hc13) hM
  refine A_skip <| fg _ (Sub.of (List.Sublist.cons_cons _ List.Sublist.slnil)) ?_
  exact ⟨hM, is_mk rfl rfl⟩
 clear hM; rintro t l ⟨hM, ⟨T, rfl⟩, rfl⟩
 unfold strings_Builder_Grow_v1_k1 at hM
 refine A_seq fun K4 hK4 => A_draw [] (by decide +kernel) (fun hn => sep_nil) <| r_R [vP bb 0, vP bb 0, vP bb 1] rfl <| r_l nS 0 _ _ _ _ rfl rfl rfl rfl rfl <| r_W (vI 0) rfl (ev_cap0 rfl rfl rfl) <| r_R [vP bb 0, vP bb 0, vP bb 1] rfl <| r_l nS 0 _ _ _ _ rfl rfl rfl rfl rfl <| r_W (vI ((([] : List UInt8)).length : Int)) rfl (ev_lenSl rfl rfl rfl (.inl ⟨rfl, rfl⟩)) ?_
 obtain ⟨ck5, hM⟩ := ck_some hM
 refine r_X (vI ((0 - ((([] : List UInt8)).length : Int)))) rfl (wi64 rfl ck5.1 ck5.2) rfl <| r_R [vI n, vB (decide (((0 - ((([] : List UInt8)).length : Int)) : Int) < n))] rfl <| lx_nil <| hK4 _ _ ?_; try clear hK4 K4
 refine A_cond (decide (((0 - ((([] : List UInt8)).length : Int)) : Int) < n)) rfl (fun hc6 => ?_) (fun hc6 => ?_)
 ·replace hM := ifp (of_decide_eq_true hc6) hM
  refine A_regC [(some 24, true)] (conG Try.prog [(24, fun _ _ v_ L_ U_ => ∀ u0_, strings_Builder_grow_v1_m N n = some u0_ → (pO (List.flatten [(kBa81_2 bb (vP bb 0) nS)]) (oS 5 encYs u0_ fun s_0 => (oE (vT #[]) [(kBa81_2 bb (vP bb 0) s_0)]))) v_ L_ U_)]) <| r_R [vP bb 0, vI n] rfl ?_
  obtain ⟨r7, hr8, hM⟩ := bind_sm hM
  refine r_gm (Ls := [(kBa81_2 bb (vP bb 0) nS)]) (FL := [(kBa81_2 bb (vP bb 0) nS)]) [0] _ (some 24) 66 _ rfl rfl rfl rfl rfl (ev_callF rfl call_66 rfl) (fun own_ nw_ hn_ hs_ => strings_Builder_grow_v1_g N n _ hr8 _ bb) (conE hr8) (fun h_ => nomatch h_) ?_
  rintro _ _ ⟨s9, S10, _, H11, ⟨rfl, rfl⟩, rfl⟩
  refine lx_perm (Ls := [S10, (kBa81_2 bb (vP bb 0) s9)]) (Ls' := [(kBa81_2 bb (vP bb 0) s9), S10]) [1, 0] rfl rfl <| lx_nil ?_
  obtain rfl := Option.some.inj hM
  refine endsN (v0 := vT #[]) (O := [S10, (kBa81_2 bb (vP bb 0) s9)]) rfl (Sub.pick [(kBa81_2 bb (vP bb 0) s9), S10] [1, 0] rfl) ⟨s9, S10, _, H11, ⟨rfl, rfl⟩, rfl⟩
 replace hM := ifn (of_decide_eq_false hc6) hM
 refine A_skip ?_
 obtain rfl := Option.some.inj hM
 refine endsN (v0 := vT #[]) (O := [[], (kBa81_2 bb (vP bb 0) nS)]) rfl (Sub.pickE (Ls := [(kBa81_2 bb (vP bb 0) nS), []]) (Ls0 := [(kBa81_2 bb (vP bb 0) nS)]) rfl [1, 0] rfl) ⟨nS, [], _, Sl.nil, ⟨rfl, rfl⟩, rfl⟩
def name_Fold_k2 (N : Nat) (c : Int) (x1_ : Bool) : Option Int := if x1_ = true then some (IntKind.i32.wrap (c + 32)) else (name_within_m N c 1024 1039).bind fun r11 => if r11 = true then some (IntKind.i32.wrap (c + 80)) else if c = 962 then some 963 else some c
def name_Fold_m (N : Nat) (c : Int) : Option Int := (name_Letter_m N c).bind fun r4 => if r4 = true then (name_within_m N c 65 90).bind fun r20 => if r20 = true then name_Fold_k2 N c r20 else (name_within_m N c 192 222).bind fun r24 => if r24 = true then name_Fold_k2 N c r24 else (name_within_m N c 913 937).bind fun r28 => if r28 = true then name_Fold_k2 N c r28 else (name_within_m N c 1040 1071).bind fun r31 => name_Fold_k2 N c r31 else some c
set_option maxRecDepth 100000 in
set_option maxHeartbeats 8000000 in
theorem name_Fold_g (N : Nat) (c r : Int) (hM : name_Fold_m N c = some r) : Gives Try.prog 59 #[Value.int .i32 c] (Value.int .i32 r) := by
 unfold name_Fold_m at hM
 refine gives_of_A follows Try.func59 rfl 28 rfl (upd (fun _ => undef) 0 (Value.int .i32 c)) (by funext k; match k with | 0 => rfl | k + 1 => rfl) (fun base0_ => ?_)
 refine A_sr <| r_V (Value.int .i32 0) rfl <| lx_nil <| A_seq fun K2 hK2 => A_block <| A_sr <| r_V (Value.int .i32 c) rfl ?_
 obtain ⟨r4, hr5, hM⟩ := bind_sm hM
 refine r_c (vB r4) rfl _ _ (ev_callF rfl call_68 rfl) (name_Letter_g N c _ hr5) <| r_R [vB (!(r4)), vB (!(r4))] rfl <| lx_nil <| A_cond (!(r4)) rfl (fun hc6 => ?_) (fun hc6 => ?_)
 ·replace hM := ifn (Bool.eq_false_iff.1 (not_t hc6)) hM
  refine A_sr <| r_R [Value.int .i32 c, Value.int .i32 c] rfl <| lx_nil ?_
  obtain rfl := Option.some.inj hM
  refine A_ret (fun hn => ends_eq (v0 := Value.int .i32 c) rfl (res1 rfl))
 replace hM := ifp (not_f hc6) hM
 refine A_cut (fun tt ll => ∃ (x1_ : Bool), (name_Fold_k2 N c x1_ = some r) ∧ Is [(0, Value.int .i32 c), (8, vB x1_)] [] tt ll) ?_ ?_
 ·refine A_sr <| r_V (Value.int .i32 c) rfl ?_
  obtain ⟨r20, hr21, hM⟩ := bind_sm hM
  refine r_c (vB r20) rfl _ _ (ev_callF rfl call_69 rfl) (name_within_g N c 65 90 _ hr21) <| r_V (vB r20) rfl <| lx_nil <| A_cond r20 rfl (fun hc22 => ?_) (fun hc22 => ?_)
  ·replace hM := ifp hc22 hM
   refine A_skip <| fg _ (Sub.of List.Sublist.slnil) ?_
   exact ⟨r20, hM, is_mk rfl rfl⟩
  replace hM := ifn (Bool.eq_false_iff.1 hc22) hM
  refine A_sr <| r_V (Value.int .i32 c) rfl ?_
  obtain ⟨r24, hr25, hM⟩ := bind_sm hM
  refine r_c (vB r24) rfl _ _ (ev_callF rfl call_69 rfl) (name_within_g N c 192 222 _ hr25) <| r_V (vB r24) rfl <| lx_nil <| A_cond r24 rfl (fun hc26 => ?_) (fun hc26 => ?_)
  ·replace hM := ifp hc26 hM
   refine A_skip <| fg _ (Sub.of List.Sublist.slnil) ?_
   exact ⟨r24, hM, is_mk rfl rfl⟩
  replace hM := ifn (Bool.eq_false_iff.1 hc26) hM
  refine A_sr <| r_V (Value.int .i32 c) rfl ?_
  obtain ⟨r28, hr29, hM⟩ := bind_sm hM
  refine r_c (vB r28) rfl _ _ (ev_callF rfl call_69 rfl) (name_within_g N c 913 937 _ hr29) <| r_V (vB r28) rfl <| lx_nil <| A_cond r28 rfl (fun hc30 => ?_) (fun hc30 => ?_)
  ·replace hM := ifp hc30 hM
   refine A_skip <| fg _ (Sub.of List.Sublist.slnil) ?_
   exact ⟨r28, hM, is_mk rfl rfl⟩
  replace hM := ifn (Bool.eq_false_iff.1 hc30) hM
  refine A_reg <| r_V (Value.int .i32 c) rfl ?_
  obtain ⟨r31, hr32, hM⟩ := bind_sm hM
  refine r_c (vB r31) rfl _ _ (ev_callF rfl call_69 rfl) (name_within_g N c 1040 1071 _ hr32) <| r_V (vB r31) rfl <| lx_nil <| fg _ (Sub.of List.Sublist.slnil) ?_
  exact ⟨r31, hM, is_mk rfl rfl⟩
 clear hM; rintro t l ⟨x1_, hM, ⟨T, rfl⟩, rfl⟩
 unfold name_Fold_k2 at hM
 refine A_cond x1_ rfl (fun hc8 => ?_) (fun hc8 => ?_)
 ·replace hM := ifp hc8 hM
  refine A_sr <| r_R [Value.int .i32 c, Value.int .i32 (IntKind.i32.wrap (c + 32)), Value.int .i32 (IntKind.i32.wrap (c + 32))] rfl <| lx_nil ?_
  obtain rfl := Option.some.inj hM
  refine A_ret (fun hn => ends_eq (v0 := Value.int .i32 (IntKind.i32.wrap (c + 32))) rfl (res1 rfl))
 replace hM := ifn (Bool.eq_false_iff.1 hc8) hM
 refine A_sr <| r_V (Value.int .i32 c) rfl ?_
 obtain ⟨r11, hr12, hM⟩ := bind_sm hM
 refine r_c (vB r11) rfl _ _ (ev_callF rfl call_69 rfl) (name_within_g N c 1024 1039 _ hr12) <| r_V (vB r11) rfl <| lx_nil <| A_cond r11 rfl (fun hc13 => ?_) (fun hc13 => ?_)
 ·replace hM := ifp hc13 hM
  refine A_sr <| r_R [Value.int .i32 c, Value.int .i32 (IntKind.i32.wrap (c + 80)), Value.int .i32 (IntKind.i32.wrap (c + 80))] rfl <| lx_nil ?_
  obtain rfl := Option.some.inj hM
  refine A_ret (fun hn => ends_eq (v0 := Value.int .i32 (IntKind.i32.wrap (c + 80))) rfl (res1 rfl))
 replace hM := ifn (Bool.eq_false_iff.1 hc13) hM
 refine A_sr <| r_R [Value.int .i32 c, vB (c == 962), vB (c == 962)] rfl <| lx_nil <| A_cond (c == 962) rfl (fun hc16 => ?_) (fun hc16 => ?_)
 ·replace hM := ifp (eq_of_beq hc16) hM
  refine A_sr <| r_V (Value.int .i32 963) rfl <| lx_nil ?_
  obtain rfl := Option.some.inj hM
  refine A_ret (fun hn => ends_eq (v0 := Value.int .i32 963) rfl (res1 rfl))
 replace hM := ifn (ne_of_beq_false hc16) hM
 refine A_skip <| hK2 _ _ ?_; try clear hK2 K2
 refine A_sr <| r_R [Value.int .i32 c, Value.int .i32 c] rfl <| lx_nil ?_
 obtain rfl := Option.some.inj hM
 refine A_ret (fun hn => ends_eq (v0 := Value.int .i32 c) rfl (res1 rfl))
def strings_Builder_copyCheck_v2_m (_ : Nat) (b : List UInt8) : Option (List UInt8) := some b
set_option maxRecDepth 100000 in
set_option maxHeartbeats 8000000 in
theorem strings_Builder_copyCheck_v2_g (N : Nat) (b r : List UInt8) (hM : strings_Builder_copyCheck_v2_m N b = some r) (ro : Addr → Option Value) (bb : Nat) (bv : Value) (Sb : List Bl) (hb : Sl 5 encYs bv b Sb) : Does Try.prog 65 #[vP bb 0] ro (List.flatten [(kBa81_2 bb (Value.pointer none) bv), Sb]) (pO (List.flatten [(kBa81_2 bb (Value.pointer none) bv), Sb]) (oI 5 encYs bv r (oE (vT #[]) [(kBa81_2 bb (vP bb 0) bv)]))) := by
 unfold strings_Builder_copyCheck_v2_m at hM
 refine doesO_of_A follows Try.func65 rfl 20 rfl (upd (fun _ => undef) 0 (vP bb 0)) (by funext k; match k with | 0 => rfl | k + 1 => rfl) (fun _ _ h_ _ => h_) (fun base0_ => ?_)
 refine A_sr <| r_R [vP bb 0, vP bb 0, vP bb 0] rfl <| r_l (Value.pointer none) 0 _ _ _ _ rfl rfl rfl rfl rfl <| r_V (vB true) rfl <| lx_nil <| A_cond true rfl (fun _ => ?_) (fun h_ => nomatch h_)
 refine A_regC [(some 9, true), (some 10, true), (some 11, true)] (conG Try.prog [(9, fun _ _ v_ L_ U_ => (pUp (fun v_ U_ => v_ = vP bb 0 ∧ U_ = (kBa81_2 bb (Value.pointer none) bv))) v_ L_ U_), (10, fun _ _ v_ L_ U_ => (pUp (fun v_ U_ => v_ = vP bb 0 ∧ U_ = (kBa81_2 bb (Value.pointer none) bv))) v_ L_ U_), (11, fun _ _ v_ L_ U_ => (pUp (fun v_ U_ => v_ = vP bb 0 ∧ U_ = (kBa81_2 bb (Value.pointer none) bv))) v_ L_ U_)]) <| r_R [vP bb 0, vP bb 0] rfl <| r_hv (Ls := [(kBa81_2 bb (Value.pointer none) bv), Sb]) (vP bb 0) 0 rfl rfl rfl rfl rfl (run_toU (TB := 81) (cs := #[Value.pointer none, bv]) rfl rfl rfl rfl rfl rfl rfl (List.mem_singleton.2 rfl)) (fun _ _ _ _ _ => Iff.rfl) ?_
 refine r_hv (Ls := [(kBa81_2 bb (Value.pointer none) bv), Sb]) (vP bb 0) 0 rfl rfl rfl rfl rfl (fun w_ _ => run_ext (args := #[vP bb 0]) (e := Extern.AbiNoEscape.same) (w' := w_) (exec_fn rfl) Try.func72 (by kernel_rfl) (by kernel_rfl) (by kernel_rfl) (by kernel_rfl) rfl) (fun _ _ _ _ _ => Iff.rfl) <| r_hv (Ls := [(kBa81_2 bb (Value.pointer none) bv), Sb]) (vP bb 0) 0 rfl rfl rfl rfl rfl (run_fromU (TB := 81) (cs := #[Value.pointer none, bv]) 2 rfl rfl rfl rfl rfl (List.mem_singleton.2 rfl) rfl (by kernel_rfl)) (fun _ _ _ _ _ => Iff.rfl) <| r_R [vP bb 0, vP bb 0] rfl ?_
 refine r_s (List.flatten [(kBa81_2 bb (vP bb 0) bv), Sb]) 0 _ _ _ _ _ (#[vP bb 0, bv]) rfl rfl rfl rfl (.of rfl rfl) rfl rfl <| lx_nil ?_
 obtain rfl := Option.some.inj hM
 refine endsN (v0 := vT #[]) (O := [Sb, (kBa81_2 bb (vP bb 0) bv)]) rfl (Sub.pick [(kBa81_2 bb (vP bb 0) bv), Sb] [1, 0] rfl) ⟨Sb, _, hb, ⟨rfl, rfl⟩, rfl⟩
def unicode_utf8_appendRuneNonASCII_v1_k4 (p : List UInt8) (r' : Int) (x3_ : Bool) : Option (List UInt8) := if x3_ = true then ck ((0 : Int) ≤ ((18#64).toNat : Int)) (ck ((0 : Int) ≤ ((12#64).toNat : Int)) (ck ((0 : Int) ≤ ((6#64).toNat : Int)) (ck ((p).length + ([((240 : UInt8) ||| (byteI (shrI r' 18))), ((128 : UInt8) ||| ((byteI (shrI r' 12)) &&& (63 : UInt8))), ((128 : UInt8) ||| ((byteI (shrI r' 6)) &&& (63 : UInt8))), ((128 : UInt8) ||| ((byteI r') &&& (63 : UInt8)))]).length ≤ 140737488355328) (some ((p ++ ([((240 : UInt8) ||| (byteI (shrI r' 18))), ((128 : UInt8) ||| ((byteI (shrI r' 12)) &&& (63 : UInt8))), ((128 : UInt8) ||| ((byteI (shrI r' 6)) &&& (63 : UInt8))), ((128 : UInt8) ||| ((byteI r') &&& (63 : UInt8)))]))))))) else ck ((p).length + ([(239 : UInt8), (191 : UInt8), (189 : UInt8)]).length ≤ 140737488355328) (some (p ++ ([(239 : UInt8), (191 : UInt8), (189 : UInt8)])))
def unicode_utf8_appendRuneNonASCII_v1_k2 (p : List UInt8) (r' : Int) (x1_ : Bool) : Option (List UInt8) := if x1_ = true then ck ((0 : Int) ≤ ((12#64).toNat : Int)) (ck ((0 : Int) ≤ ((6#64).toNat : Int)) (ck ((p).length + ([((224 : UInt8) ||| (byteI (shrI r' 12))), ((128 : UInt8) ||| ((byteI (shrI r' 6)) &&& (63 : UInt8))), ((128 : UInt8) ||| ((byteI r') &&& (63 : UInt8)))]).length ≤ 140737488355328) (some ((p ++ ([((224 : UInt8) ||| (byteI (shrI r' 12))), ((128 : UInt8) ||| ((byteI (shrI r' 6)) &&& (63 : UInt8))), ((128 : UInt8) ||| ((byteI r') &&& (63 : UInt8)))])))))) else if ((((int32 r').toNat : Nat) : Int) : Int) > 65535 then unicode_utf8_appendRuneNonASCII_v1_k4 p r' (decide (((((int32 r').toNat : Nat) : Int) : Int) ≤ 1114111)) else unicode_utf8_appendRuneNonASCII_v1_k4 p r' false
def unicode_utf8_appendRuneNonASCII_v1_m (_ : Nat) (p : List UInt8) (r' : Int) : Option (List UInt8) := if ((((int32 r').toNat : Nat) : Int) : Int) ≤ 2047 then ck ((0 : Int) ≤ ((6#64).toNat : Int)) (ck ((p).length + ([((192 : UInt8) ||| (byteI (shrI r' 6))), ((128 : UInt8) ||| ((byteI r') &&& (63 : UInt8)))]).length ≤ 140737488355328) (some ((p ++ ([((192 : UInt8) ||| (byteI (shrI r' 6))), ((128 : UInt8) ||| ((byteI r') &&& (63 : UInt8)))]))))) else if ((((int32 r').toNat : Nat) : Int) : Int) < 55296 then unicode_utf8_appendRuneNonASCII_v1_k2 p r' (decide (((((int32 r').toNat : Nat) : Int) : Int) < 55296)) else if (57343 : Int) < (((int32 r').toNat : Nat) : Int) then unicode_utf8_appendRuneNonASCII_v1_k2 p r' (decide (((((int32 r').toNat : Nat) : Int) : Int) ≤ 65535)) else unicode_utf8_appendRuneNonASCII_v1_k2 p r' false
set_option maxRecDepth 100000 in
set_option maxHeartbeats 8000000 in
theorem unicode_utf8_appendRuneNonASCII_v1_g (N : Nat) (p : List UInt8) (r' : Int) (r) (hM : unicode_utf8_appendRuneNonASCII_v1_m N p r' = some r) (ro : Addr → Option Value) (pv : Value) (Sp : List Bl) (hp : Sl 5 encYs pv p Sp) : Does Try.prog 74 #[pv, Value.int .i32 r'] ro (List.flatten [Sp]) (pO (List.flatten [Sp]) (oS 5 encYs r fun s_0 => (oE s_0 []))) := by
 unfold unicode_utf8_appendRuneNonASCII_v1_m at hM
 refine doesO_of_A follows Try.func74 rfl 78 rfl (upd (upd (fun _ => undef) 1 (Value.int .i32 r')) 0 pv) (by funext k; match k with | 0 => rfl | 1 => rfl | k + 2 => rfl) (fun _ _ h_ _ => h_) (fun base0_ => ?_)
 refine A_sr <| r_V nS rfl <| lx_nil <| A_sr <| r_V (Value.int .i32 r') rfl <| r_w (Value.int .u32 (((int32 r').toNat : Nat) : Int)) rfl rfl (Z32_wrap r') (fun _ => rfl) <| r_V (Value.int .u32 (((int32 r').toNat : Nat) : Int)) rfl <| lx_nil <| A_block <| A_sr <| r_R [Value.int .u32 (((int32 r').toNat : Nat) : Int), vB (decide (((((int32 r').toNat : Nat) : Int) : Int) ≤ 2047)), vB (decide (((((int32 r').toNat : Nat) : Int) : Int) ≤ 2047))] rfl <| lx_nil <| A_cond (decide (((((int32 r').toNat : Nat) : Int) : Int) ≤ 2047)) rfl (fun hc4 => ?_) (fun hc4 => ?_)
 ·replace hM := ifp (of_decide_eq_true hc4) hM
  refine A_sc [(some 23, false), (some 24, true)] (conG Try.prog []) <| r_R [pv, Value.int .i32 r'] rfl ?_
  obtain ⟨ck6, hM⟩ := ck_some hM
  refine r_W (Value.int .i32 (shrI r' 6)) rfl (ev_shrJ (x := r') 6 rfl rfl) <| r_w (Value.int .u8 ((((byteI (shrI r' 6)).toNat : Nat) : Int))) rfl rfl (u8_wrap (shrI r' 6)) (fun _ => rfl) <| r_X (Value.int .u8 (((((192 : UInt8) ||| (byteI (shrI r' 6))).toNat : Nat) : Int))) rfl (Y_or (192 : UInt8) (byteI (shrI r' 6))) rfl <| r_V (Value.int .i32 r') rfl <| r_w (Value.int .u8 (((byteI r').toNat : Nat) : Int)) rfl rfl (u8_wrap r') (fun _ => rfl) <| r_X (Value.int .u8 (((((byteI r') &&& (63 : UInt8)).toNat : Nat) : Int))) rfl (Y_and (byteI r') (63 : UInt8)) rfl ?_
  refine r_X (Value.int .u8 (((((128 : UInt8) ||| ((byteI r') &&& (63 : UInt8))).toNat : Nat) : Int))) rfl (Y_or (128 : UInt8) ((byteI r') &&& (63 : UInt8))) rfl <| r_bs (cs0 := []) (Ls := [Sp]) 5 encY [((192 : UInt8) ||| (byteI (shrI r' 6))), ((128 : UInt8) ||| ((byteI r') &&& (63 : UInt8)))] [Value.int .u8 (((((192 : UInt8) ||| (byteI (shrI r' 6))).toNat : Nat) : Int)), Value.int .u8 (((((128 : UInt8) ||| ((byteI r') &&& (63 : UInt8))).toNat : Nat) : Int))] [Value.int .u8 0, Value.int .u8 0] rfl rfl rfl rfl rfl rfl rfl (by kernel_rfl) (by kernel_rfl) rfl rfl rfl (fun s7 S8 H9 => ?_)
  obtain ⟨ck10, hM⟩ := ck_some hM
  refine r_app (cs0 := []) (Ls := [Sp, S8]) 0 (En := encYs) rfl rfl rfl rfl rfl hp rfl (fun own_ nw_ hs_ => rd_strict ((rd_own H9 (mem_chunk (Ls := [Sp, S8]) (k := 1) rfl rfl)) own_ nw_ hs_)) rfl rfl rfl rfl rfl (app_b ck10 rfl) (app_m ck10 rfl) rfl (fun s11 S12 H13 => ?_)
  refine r_V s11 rfl <| lx_nil ?_
  obtain rfl := Option.some.inj hM
  refine A_ret (fun hn => endsO (v0 := s11) (O := [S12]) (res1 rfl) (Sub.pick [S12, S8] [0] rfl) ⟨s11, S12, _, H13, ⟨rfl, rfl⟩, rfl⟩)
 replace hM := ifn (of_decide_eq_false hc4) hM
 refine A_cut (fun tt ll => ∃ (x1_ : Bool), (unicode_utf8_appendRuneNonASCII_v1_k2 p r' x1_ = some r) ∧ Is [(0, pv), (1, Value.int .i32 r'), (5, Value.int .u32 (((int32 r').toNat : Nat) : Int)), (25, vB x1_)] (List.flatten [Sp]) tt ll) ?_ ?_
 ·refine A_sr <| r_R [Value.int .u32 (((int32 r').toNat : Nat) : Int), vB (decide (((((int32 r').toNat : Nat) : Int) : Int) < 55296)), vB (decide (((((int32 r').toNat : Nat) : Int) : Int) < 55296))] rfl <| lx_nil <| A_cond (decide (((((int32 r').toNat : Nat) : Int) : Int) < 55296)) rfl (fun hc47 => ?_) (fun hc47 => ?_)
  ·replace hM := ifp (of_decide_eq_true hc47) hM
   refine A_skip <| fg _ (Sub.pick [Sp] [0] rfl) ?_
   exact ⟨decide (((((int32 r').toNat : Nat) : Int) : Int) < 55296), hM, is_mk rfl rfl⟩
  replace hM := ifn (of_decide_eq_false hc47) hM
  refine A_reg <| r_R [Value.int .u32 (((int32 r').toNat : Nat) : Int), vB (decide ((57343 : Int) < (((int32 r').toNat : Nat) : Int))), vB (decide ((57343 : Int) < (((int32 r').toNat : Nat) : Int)))] rfl ?_
  rcases hg48 : (decide ((57343 : Int) < (((int32 r').toNat : Nat) : Int))) with _ | _
  ·replace hM := ifn (of_decide_eq_false hg48) hM
   refine r_R [none, none, vB false, vB false] rfl <| lx_nil <| fg _ (Sub.pick [Sp] [0] rfl) ?_
   exact ⟨false, hM, is_mk (by first | rfl | (simp only [hg48]; done) | (simp only [hg48]; rfl) | (simp only [app_hl]; rfl)) rfl⟩
  replace hM := ifp (of_decide_eq_true hg48) hM
  refine r_R [Value.int .u32 (((int32 r').toNat : Nat) : Int), vB (decide (((((int32 r').toNat : Nat) : Int) : Int) ≤ 65535)), vB (decide (((((int32 r').toNat : Nat) : Int) : Int) ≤ 65535)), vB (decide (((((int32 r').toNat : Nat) : Int) : Int) ≤ 65535))] rfl <| lx_nil <| fg _ (Sub.pick [Sp] [0] rfl) ?_
  exact ⟨decide (((((int32 r').toNat : Nat) : Int) : Int) ≤ 65535), hM, is_mk (by first | rfl | (simp only [hg48]; done) | (simp only [hg48]; rfl) | (simp only [app_hl]; rfl)) rfl⟩
 clear hM; rintro t l ⟨x1_, hM, ⟨T, rfl⟩, rfl⟩
 unfold unicode_utf8_appendRuneNonASCII_v1_k2 at hM
 refine A_cond x1_ rfl (fun hc14 => ?_) (fun hc14 => ?_)
 ·replace hM := ifp hc14 hM
  refine A_sc [(some 48, false), (some 49, true)] (conG Try.prog []) <| r_R [pv, Value.int .i32 r'] rfl ?_
  obtain ⟨ck16, hM⟩ := ck_some hM
  refine r_W (Value.int .i32 (shrI r' 12)) rfl (ev_shrJ (x := r') 12 rfl rfl) <| r_w (Value.int .u8 ((((byteI (shrI r' 12)).toNat : Nat) : Int))) rfl rfl (u8_wrap (shrI r' 12)) (fun _ => rfl) <| r_X (Value.int .u8 (((((224 : UInt8) ||| (byteI (shrI r' 12))).toNat : Nat) : Int))) rfl (Y_or (224 : UInt8) (byteI (shrI r' 12))) rfl <| r_V (Value.int .i32 r') rfl ?_
  obtain ⟨ck17, hM⟩ := ck_some hM
  refine r_W (Value.int .i32 (shrI r' 6)) rfl (ev_shrJ (x := r') 6 rfl rfl) <| r_w (Value.int .u8 ((((byteI (shrI r' 6)).toNat : Nat) : Int))) rfl rfl (u8_wrap (shrI r' 6)) (fun _ => rfl) <| r_X (Value.int .u8 (((((byteI (shrI r' 6)) &&& (63 : UInt8)).toNat : Nat) : Int))) rfl (Y_and (byteI (shrI r' 6)) (63 : UInt8)) rfl <| r_X (Value.int .u8 (((((128 : UInt8) ||| ((byteI (shrI r' 6)) &&& (63 : UInt8))).toNat : Nat) : Int))) rfl (Y_or (128 : UInt8) ((byteI (shrI r' 6)) &&& (63 : UInt8))) rfl <| r_V (Value.int .i32 r') rfl <| r_w (Value.int .u8 (((byteI r').toNat : Nat) : Int)) rfl rfl (u8_wrap r') (fun _ => rfl) ?_
  refine r_X (Value.int .u8 (((((byteI r') &&& (63 : UInt8)).toNat : Nat) : Int))) rfl (Y_and (byteI r') (63 : UInt8)) rfl <| r_X (Value.int .u8 (((((128 : UInt8) ||| ((byteI r') &&& (63 : UInt8))).toNat : Nat) : Int))) rfl (Y_or (128 : UInt8) ((byteI r') &&& (63 : UInt8))) rfl ?_
  refine r_bs (cs0 := []) (Ls := [Sp]) 5 encY [((224 : UInt8) ||| (byteI (shrI r' 12))), ((128 : UInt8) ||| ((byteI (shrI r' 6)) &&& (63 : UInt8))), ((128 : UInt8) ||| ((byteI r') &&& (63 : UInt8)))] [Value.int .u8 (((((224 : UInt8) ||| (byteI (shrI r' 12))).toNat : Nat) : Int)), Value.int .u8 (((((128 : UInt8) ||| ((byteI (shrI r' 6)) &&& (63 : UInt8))).toNat : Nat) : Int)), Value.int .u8 (((((128 : UInt8) ||| ((byteI r') &&& (63 : UInt8))).toNat : Nat) : Int))] [Value.int .u8 0, Value.int .u8 0, Value.int .u8 0] rfl rfl rfl rfl rfl rfl rfl (by kernel_rfl) (by kernel_rfl) rfl rfl rfl (fun s18 S19 H20 => ?_)
  obtain ⟨ck21, hM⟩ := ck_some hM
  refine r_app (cs0 := []) (Ls := [Sp, S19]) 0 (En := encYs) rfl rfl rfl rfl rfl hp rfl (fun own_ nw_ hs_ => rd_strict ((rd_own H20 (mem_chunk (Ls := [Sp, S19]) (k := 1) rfl rfl)) own_ nw_ hs_)) rfl rfl rfl rfl rfl (app_b ck21 rfl) (app_m ck21 rfl) rfl (fun s22 S23 H24 => ?_)
  refine r_V s22 rfl <| lx_nil ?_
  obtain rfl := Option.some.inj hM
  refine A_ret (fun hn => endsO (v0 := s22) (O := [S23]) (res1 rfl) (Sub.pick [S23, S19] [0] rfl) ⟨s22, S23, _, H24, ⟨rfl, rfl⟩, rfl⟩)
 replace hM := ifn (Bool.eq_false_iff.1 hc14) hM
 refine A_cut (fun tt ll => ∃ (x3_ : Bool), (unicode_utf8_appendRuneNonASCII_v1_k4 p r' x3_ = some r) ∧ Is [(0, pv), (1, Value.int .i32 r'), (50, vB x3_)] (List.flatten [Sp]) tt ll) ?_ ?_
 ·refine A_reg <| r_R [Value.int .u32 (((int32 r').toNat : Nat) : Int), vB (decide (((((int32 r').toNat : Nat) : Int) : Int) > 65535)), vB (decide (((((int32 r').toNat : Nat) : Int) : Int) > 65535))] rfl ?_
  rcases hg45 : (decide (((((int32 r').toNat : Nat) : Int) : Int) > 65535)) with _ | _
  ·replace hM := ifn (of_decide_eq_false hg45) hM
   refine r_R [none, none, vB false, vB false] rfl <| lx_nil <| fg _ (Sub.pick [Sp] [0] rfl) ?_
   exact ⟨false, hM, is_mk (by first | rfl | (simp only [hg45]; done) | (simp only [hg45]; rfl) | (simp only [app_hl]; rfl)) rfl⟩
  replace hM := ifp (of_decide_eq_true hg45) hM
  refine r_R [Value.int .u32 (((int32 r').toNat : Nat) : Int), vB (decide (((((int32 r').toNat : Nat) : Int) : Int) ≤ 1114111)), vB (decide (((((int32 r').toNat : Nat) : Int) : Int) ≤ 1114111)), vB (decide (((((int32 r').toNat : Nat) : Int) : Int) ≤ 1114111))] rfl <| lx_nil <| fg _ (Sub.pick [Sp] [0] rfl) ?_
  exact ⟨decide (((((int32 r').toNat : Nat) : Int) : Int) ≤ 1114111), hM, is_mk (by first | rfl | (simp only [hg45]; done) | (simp only [hg45]; rfl) | (simp only [app_hl]; rfl)) rfl⟩
 clear hM; rintro t l ⟨x3_, hM, ⟨T, rfl⟩, rfl⟩
 unfold unicode_utf8_appendRuneNonASCII_v1_k4 at hM
 refine A_cond x3_ rfl (fun hc25 => ?_) (fun hc25 => ?_)
 ·replace hM := ifp hc25 hM
  refine A_sc [(some 76, false), (some 77, true)] (conG Try.prog []) <| r_R [pv, Value.int .i32 r'] rfl ?_
  obtain ⟨ck27, hM⟩ := ck_some hM
  refine r_W (Value.int .i32 (shrI r' 18)) rfl (ev_shrJ (x := r') 18 rfl rfl) <| r_w (Value.int .u8 ((((byteI (shrI r' 18)).toNat : Nat) : Int))) rfl rfl (u8_wrap (shrI r' 18)) (fun _ => rfl) <| r_X (Value.int .u8 (((((240 : UInt8) ||| (byteI (shrI r' 18))).toNat : Nat) : Int))) rfl (Y_or (240 : UInt8) (byteI (shrI r' 18))) rfl <| r_V (Value.int .i32 r') rfl ?_
  obtain ⟨ck28, hM⟩ := ck_some hM
  refine r_W (Value.int .i32 (shrI r' 12)) rfl (ev_shrJ (x := r') 12 rfl rfl) <| r_w (Value.int .u8 ((((byteI (shrI r' 12)).toNat : Nat) : Int))) rfl rfl (u8_wrap (shrI r' 12)) (fun _ => rfl) <| r_X (Value.int .u8 (((((byteI (shrI r' 12)) &&& (63 : UInt8)).toNat : Nat) : Int))) rfl (Y_and (byteI (shrI r' 12)) (63 : UInt8)) rfl <| r_X (Value.int .u8 (((((128 : UInt8) ||| ((byteI (shrI r' 12)) &&& (63 : UInt8))).toNat : Nat) : Int))) rfl (Y_or (128 : UInt8) ((byteI (shrI r' 12)) &&& (63 : UInt8))) rfl <| r_V (Value.int .i32 r') rfl ?_
  obtain ⟨ck29, hM⟩ := ck_some hM
  refine r_W (Value.int .i32 (shrI r' 6)) rfl (ev_shrJ (x := r') 6 rfl rfl) <| r_w (Value.int .u8 ((((byteI (shrI r' 6)).toNat : Nat) : Int))) rfl rfl (u8_wrap (shrI r' 6)) (fun _ => rfl) <| r_X (Value.int .u8 (((((byteI (shrI r' 6)) &&& (63 : UInt8)).toNat : Nat) : Int))) rfl (Y_and (byteI (shrI r' 6)) (63 : UInt8)) rfl <| r_X (Value.int .u8 (((((128 : UInt8) ||| ((byteI (shrI r' 6)) &&& (63 : UInt8))).toNat : Nat) : Int))) rfl (Y_or (128 : UInt8) ((byteI (shrI r' 6)) &&& (63 : UInt8))) rfl <| r_V (Value.int .i32 r') rfl <| r_w (Value.int .u8 (((byteI r').toNat : Nat) : Int)) rfl rfl (u8_wrap r') (fun _ => rfl) ?_
  refine r_X (Value.int .u8 (((((byteI r') &&& (63 : UInt8)).toNat : Nat) : Int))) rfl (Y_and (byteI r') (63 : UInt8)) rfl <| r_X (Value.int .u8 (((((128 : UInt8) ||| ((byteI r') &&& (63 : UInt8))).toNat : Nat) : Int))) rfl (Y_or (128 : UInt8) ((byteI r') &&& (63 : UInt8))) rfl ?_
  refine r_bs (cs0 := []) (Ls := [Sp]) 5 encY [((240 : UInt8) ||| (byteI (shrI r' 18))), ((128 : UInt8) ||| ((byteI (shrI r' 12)) &&& (63 : UInt8))), ((128 : UInt8) ||| ((byteI (shrI r' 6)) &&& (63 : UInt8))), ((128 : UInt8) ||| ((byteI r') &&& (63 : UInt8)))] [Value.int .u8 (((((240 : UInt8) ||| (byteI (shrI r' 18))).toNat : Nat) : Int)), Value.int .u8 (((((128 : UInt8) ||| ((byteI (shrI r' 12)) &&& (63 : UInt8))).toNat : Nat) : Int)), Value.int .u8 (((((128 : UInt8) ||| ((byteI (shrI r' 6)) &&& (63 : UInt8))).toNat : Nat) : Int)), Value.int .u8 (((((128 : UInt8) ||| ((byteI r') &&& (63 : UInt8))).toNat : Nat) : Int))] [Value.int .u8 0, Value.int .u8 0, Value.int .u8 0, Value.int .u8 0] rfl rfl rfl rfl rfl rfl rfl (by kernel_rfl) (by kernel_rfl) rfl rfl rfl (fun s30 S31 H32 => ?_)
  obtain ⟨ck33, hM⟩ := ck_some hM
  refine r_app (cs0 := []) (Ls := [Sp, S31]) 0 (En := encYs) rfl rfl rfl rfl rfl hp rfl (fun own_ nw_ hs_ => rd_strict ((rd_own H32 (mem_chunk (Ls := [Sp, S31]) (k := 1) rfl rfl)) own_ nw_ hs_)) rfl rfl rfl rfl rfl (app_b ck33 rfl) (app_m ck33 rfl) rfl (fun s34 S35 H36 => ?_)
  refine r_V s34 rfl <| lx_nil ?_
  obtain rfl := Option.some.inj hM
  refine A_ret (fun hn => endsO (v0 := s34) (O := [S35]) (res1 rfl) (Sub.pick [S35, S31] [0] rfl) ⟨s34, S35, _, H36, ⟨rfl, rfl⟩, rfl⟩)
 replace hM := ifn (Bool.eq_false_iff.1 hc25) hM
 refine A_sc [(some 9, false), (some 10, true)] (conG Try.prog []) <| r_V pv rfl <| r_bs (cs0 := []) (Ls := [Sp]) 5 encY [(239 : UInt8), (191 : UInt8), (189 : UInt8)] [Value.int .u8 239, Value.int .u8 191, Value.int .u8 189] [Value.int .u8 0, Value.int .u8 0, Value.int .u8 0] rfl rfl rfl rfl rfl rfl rfl (by kernel_rfl) (by kernel_rfl) rfl rfl rfl (fun s38 S39 H40 => ?_)
 obtain ⟨ck41, hM⟩ := ck_some hM
 refine r_app (cs0 := []) (Ls := [Sp, S39]) 0 (En := encYs) rfl rfl rfl rfl rfl hp rfl (fun own_ nw_ hs_ => rd_strict ((rd_own H40 (mem_chunk (Ls := [Sp, S39]) (k := 1) rfl rfl)) own_ nw_ hs_)) rfl rfl rfl rfl rfl (app_b ck41 rfl) (app_m ck41 rfl) rfl (fun s42 S43 H44 => ?_)
 refine r_V s42 rfl <| lx_nil ?_
 obtain rfl := Option.some.inj hM
 refine A_ret (fun hn => endsO (v0 := s42) (O := [S43]) (res1 rfl) (Sub.pick [S43, S39] [0] rfl) ⟨s42, S43, _, H44, ⟨rfl, rfl⟩, rfl⟩)
def unicode_utf8_AppendRune_v1_m (N : Nat) (p : List UInt8) (r' : Int) : Option (List UInt8) := if ((((int32 r').toNat : Nat) : Int) : Int) ≤ 127 then ck ((p).length + ([(byteI r')]).length ≤ 140737488355328) (some (p ++ ([(byteI r')]))) else (unicode_utf8_appendRuneNonASCII_v1_m N p r').bind fun r14 => some r14
set_option maxRecDepth 100000 in
set_option maxHeartbeats 8000000 in
theorem unicode_utf8_AppendRune_v1_g (N : Nat) (p : List UInt8) (r' : Int) (r) (hM : unicode_utf8_AppendRune_v1_m N p r' = some r) (ro : Addr → Option Value) (pv : Value) (Sp : List Bl) (hp : Sl 5 encYs pv p Sp) : Does Try.prog 67 #[pv, Value.int .i32 r'] ro (List.flatten [Sp]) (pO (List.flatten [Sp]) (oS 5 encYs r fun s_0 => (oE s_0 []))) := by
 unfold unicode_utf8_AppendRune_v1_m at hM
 refine doesO_of_A follows Try.func67 rfl 16 rfl (upd (upd (fun _ => undef) 1 (Value.int .i32 r')) 0 pv) (by funext k; match k with | 0 => rfl | 1 => rfl | k + 2 => rfl) (fun _ _ h_ _ => h_) (fun base0_ => ?_)
 refine A_sr <| r_V nS rfl <| lx_nil <| A_seq fun K2 hK2 => A_sr <| r_V (Value.int .i32 r') rfl <| r_w (Value.int .u32 (((int32 r').toNat : Nat) : Int)) rfl rfl (Z32_wrap r') (fun _ => rfl) <| r_V (vB (decide (((((int32 r').toNat : Nat) : Int) : Int) ≤ 127))) rfl <| lx_nil <| A_cond (decide (((((int32 r').toNat : Nat) : Int) : Int) ≤ 127)) rfl (fun hc4 => ?_) (fun hc4 => ?_)
 ·replace hM := ifp (of_decide_eq_true hc4) hM
  refine A_sc [(some 11, false), (some 12, true)] (conG Try.prog []) <| r_R [pv, Value.int .i32 r'] rfl <| r_w (Value.int .u8 (((byteI r').toNat : Nat) : Int)) rfl rfl (u8_wrap r') (fun _ => rfl) <| r_bs (cs0 := []) (Ls := [Sp]) 5 encY [(byteI r')] [Value.int .u8 (((byteI r').toNat : Nat) : Int)] [Value.int .u8 0] rfl rfl rfl rfl rfl rfl rfl (by kernel_rfl) (by kernel_rfl) rfl rfl rfl (fun s6 S7 H8 => ?_)
  obtain ⟨ck9, hM⟩ := ck_some hM
  refine r_app (cs0 := []) (Ls := [Sp, S7]) 0 (En := encYs) rfl rfl rfl rfl rfl hp rfl (fun own_ nw_ hs_ => rd_strict ((rd_own H8 (mem_chunk (Ls := [Sp, S7]) (k := 1) rfl rfl)) own_ nw_ hs_)) rfl rfl rfl rfl rfl (app_b ck9 rfl) (app_m ck9 rfl) rfl (fun s10 S11 H12 => ?_)
  refine r_V s10 rfl <| lx_nil ?_
  obtain rfl := Option.some.inj hM
  refine A_ret (fun hn => endsO (v0 := s10) (O := [S11]) (res1 rfl) (Sub.pick [S11, S7] [0] rfl) ⟨s10, S11, _, H12, ⟨rfl, rfl⟩, rfl⟩)
 replace hM := ifn (of_decide_eq_false hc4) hM
 refine A_skip <| hK2 _ _ ?_; try clear hK2 K2
 refine A_sc [(some 15, true)] (conG Try.prog [(15, fun _ _ v_ L_ U_ => ∀ u0_, unicode_utf8_appendRuneNonASCII_v1_m N p r' = some u0_ → (pO (List.flatten [Sp]) (oS 5 encYs u0_ fun s_0 => (oE s_0 []))) v_ L_ U_)]) <| r_R [pv, Value.int .i32 r'] rfl ?_
 obtain ⟨r14, hr15, hM⟩ := bind_sm hM
 refine r_gm (Ls := [Sp]) (FL := [Sp]) [0] _ (some 15) 74 _ rfl rfl rfl rfl rfl (ev_callF rfl call_74 rfl) (fun own_ nw_ hn_ hs_ => unicode_utf8_appendRuneNonASCII_v1_g N p r' _ hr15 _ pv Sp hp) (conE hr15) (fun h_ => nomatch h_) ?_
 rintro s16 _ ⟨_, S17, _, H18, ⟨rfl, rfl⟩, rfl⟩
 refine lx_perm (Ls := [S17]) (Ls' := [S17]) [0] rfl rfl <| r_V s16 rfl <| lx_nil ?_
 obtain rfl := Option.some.inj hM
 refine A_ret (fun hn => endsO (v0 := s16) (O := [S17]) (res1 rfl) (Sub.pick [S17] [0] rfl) ⟨s16, S17, _, H18, ⟨rfl, rfl⟩, rfl⟩)
def strings_Builder_WriteRune_v1_m (N : Nat) (b : List UInt8) (r' : Int) : Option (Int × (List UInt8)) := (strings_Builder_copyCheck_v2_m N b).bind fun r3 => ck ((r3).length = (b).length) ((unicode_utf8_AppendRune_v1_m N r3 r').bind fun r10 => ck ((-9223372036854775808 ≤ (((r10).length : Int) - ((r3).length : Int)) ∧ (((r10).length : Int) - ((r3).length : Int)) ≤ 9223372036854775807)) (some ((((r10).length : Int) - ((r3).length : Int)), r10)))
set_option maxRecDepth 100000 in
set_option maxHeartbeats 8000000 in
theorem strings_Builder_WriteRune_v1_g (N : Nat) (b : List UInt8) (r' : Int) (r) (hM : strings_Builder_WriteRune_v1_m N b r' = some r) (ro : Addr → Option Value) (bb : Nat) (bv : Value) (Sb : List Bl) (hb : Sl 5 encYs bv b Sb) : Does Try.prog 58 #[vP bb 0, Value.int .i32 r'] ro (List.flatten [(kBa81_2 bb (Value.pointer none) bv), Sb]) (pO (List.flatten [(kBa81_2 bb (Value.pointer none) bv), Sb]) (oS 5 encYs r.2 fun s_0 => (oE (vT #[vI r.1, Value.nilIface]) [(kBa81_2 bb (vP bb 0) s_0)]))) := by
 unfold strings_Builder_WriteRune_v1_m at hM
 refine doesO_of_A follows Try.func58 rfl 30 rfl (upd (upd (fun _ => undef) 1 (Value.int .i32 r')) 0 (vP bb 0)) (by funext k; match k with | 0 => rfl | 1 => rfl | k + 2 => rfl) (fun _ _ h_ _ => h_) (fun base0_ => ?_)
 refine A_sr <| r_R [vI 0, Value.nilIface] rfl <| lx_nil <| A_sc [(some 8, true)] (conG Try.prog [(8, fun _ _ v_ L_ U_ => ∀ u0_, strings_Builder_copyCheck_v2_m N b = some u0_ → (pO (List.flatten [(kBa81_2 bb (Value.pointer none) bv), Sb]) (oI 5 encYs bv u0_ (oE (vT #[]) [(kBa81_2 bb (vP bb 0) bv)]))) v_ L_ U_)]) <| r_V (vP bb 0) rfl ?_
 obtain ⟨r3, hr4, hM⟩ := bind_sm hM
 obtain ⟨ck5, hM⟩ := ck_some hM
 refine r_gm (Ls := [(kBa81_2 bb (Value.pointer none) bv), Sb]) (FL := [(kBa81_2 bb (Value.pointer none) bv), Sb]) [0, 1] _ (some 8) 65 _ rfl rfl rfl rfl rfl (ev_callF rfl call_65 rfl) (fun own_ nw_ hn_ hs_ => strings_Builder_copyCheck_v2_g N b _ hr4 _ bb bv Sb hb) (conE hr4) (fun h_ => nomatch h_) ?_
 rintro _ _ ⟨S6, _, H7, ⟨rfl, rfl⟩, rfl⟩
 refine lx_perm (Ls := [S6, (kBa81_2 bb (vP bb 0) bv)]) (Ls' := [(kBa81_2 bb (vP bb 0) bv), S6]) [1, 0] rfl rfl <| lx_nil <| A_sr <| r_R [vP bb 0, vP bb 0, vP bb 1] rfl <| r_l bv 0 _ _ _ _ rfl rfl rfl rfl rfl <| r_W (vI ((r3).length : Int)) rfl (ev_lenSl rfl rfl rfl (Sl.shp H7)) <| r_V (vI ((r3).length : Int)) rfl <| lx_nil <| A_sc [(some 20, true)] (conG Try.prog [(20, fun _ _ v_ L_ U_ => ∀ u0_, unicode_utf8_AppendRune_v1_m N r3 r' = some u0_ → (pO (List.flatten [S6]) (oS 5 encYs u0_ fun s_0 => (oE s_0 []))) v_ L_ U_)]) <| r_R [vP bb 0, vP bb 0, vP bb 0, vP bb 1] rfl <| r_l bv 0 _ _ _ _ rfl rfl rfl rfl rfl <| r_V (Value.int .i32 r') rfl ?_
 obtain ⟨r10, hr11, hM⟩ := bind_sm hM
 refine r_gm (Ls := [(kBa81_2 bb (vP bb 0) bv), S6]) (FL := [S6]) [1] _ (some 20) 67 _ rfl rfl rfl rfl rfl (ev_callF rfl call_67 rfl) (fun own_ nw_ hn_ hs_ => unicode_utf8_AppendRune_v1_g N r3 r' _ hr11 _ bv S6 H7) (conE hr11) (fun h_ => nomatch h_) ?_
 rintro s12 _ ⟨_, S13, _, H14, ⟨rfl, rfl⟩, rfl⟩
 refine lx_perm (Ls := [(kBa81_2 bb (vP bb 0) bv), S13]) (Ls' := [(kBa81_2 bb (vP bb 0) bv), S13]) [0, 1] rfl rfl <| r_R [vP bb 0, vP bb 1] rfl <| r_s (List.flatten [(kBa81_2 bb (vP bb 0) s12), S13]) 0 _ _ _ _ _ (#[vP bb 0, s12]) rfl rfl rfl (cells_sl rfl (Sl.shp H14)) (.ofS rfl rfl (all_cons' (Shp.one (Sl.shp H14)) all_nil')) rfl rfl <| lx_nil <| A_sr <| r_R [vP bb 0, vP bb 0, vP bb 1] rfl <| r_l s12 0 _ _ _ _ rfl rfl rfl rfl rfl <| r_W (vI ((r10).length : Int)) rfl (ev_lenSl rfl rfl rfl (Sl.shp H14)) <| r_V (vI ((r3).length : Int)) rfl ?_
 obtain ⟨ck16, hM⟩ := ck_some hM
 refine r_X (vI (((r10).length : Int) - ((r3).length : Int))) rfl (wi64 rfl ck16.1 ck16.2) rfl <| r_R [vI (((r10).length : Int) - ((r3).length : Int)), Value.nilIface] rfl <| lx_nil <| A_gen [(4, vI (((r10).length : Int) - ((r3).length : Int))), (5, Value.nilIface)] rfl (fun T => ?_)
 obtain rfl := Option.some.inj hM
 refine A_ret (fun hn => endsO (v0 := vT #[vI (((r10).length : Int) - ((r3).length : Int)), Value.nilIface]) (O := [S13, (kBa81_2 bb (vP bb 0) s12)]) (res2 rfl rfl) (Sub.pick [(kBa81_2 bb (vP bb 0) s12), S13] [1, 0] rfl) ⟨s12, S13, _, H14, ⟨rfl, rfl⟩, rfl⟩)
def strings_Builder_copyCheck_v3_m (_ : Nat) (b : List UInt8) : Option (List UInt8) := some b
set_option maxRecDepth 100000 in
set_option maxHeartbeats 8000000 in
theorem strings_Builder_copyCheck_v3_g (N : Nat) (b r : List UInt8) (hM : strings_Builder_copyCheck_v3_m N b = some r) (ro : Addr → Option Value) (bb : Nat) (bv : Value) (Sb : List Bl) (hb : Sl 5 encYs bv b Sb) : Does Try.prog 65 #[vP bb 0] ro (List.flatten [(kBa81_2 bb (vP bb 0) bv), Sb]) (pO (List.flatten [(kBa81_2 bb (vP bb 0) bv), Sb]) (oI 5 encYs bv r (oE (vT #[]) [(kBa81_2 bb (vP bb 0) bv)]))) := by
 unfold strings_Builder_copyCheck_v3_m at hM
 refine doesO_of_A follows Try.func65 rfl 20 rfl (upd (fun _ => undef) 0 (vP bb 0)) (by funext k; match k with | 0 => rfl | k + 1 => rfl) (fun _ _ h_ _ => h_) (fun base0_ => ?_)
 refine A_sr <| r_R [vP bb 0, vP bb 0, vP bb 0] rfl <| r_l (vP bb 0) 0 _ _ _ _ rfl rfl rfl rfl rfl <| r_V (vB false) rfl <| lx_nil <| A_cond false rfl (fun h_ => nomatch h_) (fun _ => ?_)
 refine A_sr <| r_R [vP bb 0, vP bb 0, vP bb 0] rfl <| r_l (vP bb 0) 0 _ _ _ _ rfl rfl rfl rfl rfl <| r_V (vP bb 0) rfl <| r_W (vB false) rfl (ev_neqP rfl rfl rfl rfl rfl) <| lx_nil <| A_cond false rfl (fun h_ => nomatch h_) (fun _ => ?_)
 refine A_skip ?_
 obtain rfl := Option.some.inj hM
 refine endsN (v0 := vT #[]) (O := [Sb, (kBa81_2 bb (vP bb 0) bv)]) rfl (Sub.pick [(kBa81_2 bb (vP bb 0) bv), Sb] [1, 0] rfl) ⟨Sb, _, hb, ⟨rfl, rfl⟩, rfl⟩
def strings_Builder_WriteRune_v2_m (N : Nat) (b : List UInt8) (r' : Int) : Option (Int × (List UInt8)) := (strings_Builder_copyCheck_v3_m N b).bind fun r3 => ck ((r3).length = (b).length) ((unicode_utf8_AppendRune_v1_m N r3 r').bind fun r10 => ck ((-9223372036854775808 ≤ (((r10).length : Int) - ((r3).length : Int)) ∧ (((r10).length : Int) - ((r3).length : Int)) ≤ 9223372036854775807)) (some ((((r10).length : Int) - ((r3).length : Int)), r10)))
set_option maxRecDepth 100000 in
set_option maxHeartbeats 8000000 in
theorem strings_Builder_WriteRune_v2_g (N : Nat) (b : List UInt8) (r' : Int) (r) (hM : strings_Builder_WriteRune_v2_m N b r' = some r) (ro : Addr → Option Value) (bb : Nat) (bv : Value) (Sb : List Bl) (hb : Sl 5 encYs bv b Sb) : Does Try.prog 58 #[vP bb 0, Value.int .i32 r'] ro (List.flatten [(kBa81_2 bb (vP bb 0) bv), Sb]) (pO (List.flatten [(kBa81_2 bb (vP bb 0) bv), Sb]) (oS 5 encYs r.2 fun s_0 => (oE (vT #[vI r.1, Value.nilIface]) [(kBa81_2 bb (vP bb 0) s_0)]))) := by
 unfold strings_Builder_WriteRune_v2_m at hM
 refine doesO_of_A follows Try.func58 rfl 30 rfl (upd (upd (fun _ => undef) 1 (Value.int .i32 r')) 0 (vP bb 0)) (by funext k; match k with | 0 => rfl | 1 => rfl | k + 2 => rfl) (fun _ _ h_ _ => h_) (fun base0_ => ?_)
 refine A_sr <| r_R [vI 0, Value.nilIface] rfl <| lx_nil <| A_sc [(some 8, true)] (conG Try.prog [(8, fun _ _ v_ L_ U_ => ∀ u0_, strings_Builder_copyCheck_v3_m N b = some u0_ → (pO (List.flatten [(kBa81_2 bb (vP bb 0) bv), Sb]) (oI 5 encYs bv u0_ (oE (vT #[]) [(kBa81_2 bb (vP bb 0) bv)]))) v_ L_ U_)]) <| r_V (vP bb 0) rfl ?_
 obtain ⟨r3, hr4, hM⟩ := bind_sm hM
 obtain ⟨ck5, hM⟩ := ck_some hM
 refine r_gm (Ls := [(kBa81_2 bb (vP bb 0) bv), Sb]) (FL := [(kBa81_2 bb (vP bb 0) bv), Sb]) [0, 1] _ (some 8) 65 _ rfl rfl rfl rfl rfl (ev_callF rfl call_65 rfl) (fun own_ nw_ hn_ hs_ => strings_Builder_copyCheck_v3_g N b _ hr4 _ bb bv Sb hb) (conE hr4) (fun h_ => nomatch h_) ?_
 rintro _ _ ⟨S6, _, H7, ⟨rfl, rfl⟩, rfl⟩
 refine lx_perm (Ls := [S6, (kBa81_2 bb (vP bb 0) bv)]) (Ls' := [(kBa81_2 bb (vP bb 0) bv), S6]) [1, 0] rfl rfl <| lx_nil <| A_sr <| r_R [vP bb 0, vP bb 0, vP bb 1] rfl <| r_l bv 0 _ _ _ _ rfl rfl rfl rfl rfl <| r_W (vI ((r3).length : Int)) rfl (ev_lenSl rfl rfl rfl (Sl.shp H7)) <| r_V (vI ((r3).length : Int)) rfl <| lx_nil <| A_sc [(some 20, true)] (conG Try.prog [(20, fun _ _ v_ L_ U_ => ∀ u0_, unicode_utf8_AppendRune_v1_m N r3 r' = some u0_ → (pO (List.flatten [S6]) (oS 5 encYs u0_ fun s_0 => (oE s_0 []))) v_ L_ U_)]) <| r_R [vP bb 0, vP bb 0, vP bb 0, vP bb 1] rfl <| r_l bv 0 _ _ _ _ rfl rfl rfl rfl rfl <| r_V (Value.int .i32 r') rfl ?_
 obtain ⟨r10, hr11, hM⟩ := bind_sm hM
 refine r_gm (Ls := [(kBa81_2 bb (vP bb 0) bv), S6]) (FL := [S6]) [1] _ (some 20) 67 _ rfl rfl rfl rfl rfl (ev_callF rfl call_67 rfl) (fun own_ nw_ hn_ hs_ => unicode_utf8_AppendRune_v1_g N r3 r' _ hr11 _ bv S6 H7) (conE hr11) (fun h_ => nomatch h_) ?_
 rintro s12 _ ⟨_, S13, _, H14, ⟨rfl, rfl⟩, rfl⟩
 refine lx_perm (Ls := [(kBa81_2 bb (vP bb 0) bv), S13]) (Ls' := [(kBa81_2 bb (vP bb 0) bv), S13]) [0, 1] rfl rfl <| r_R [vP bb 0, vP bb 1] rfl <| r_s (List.flatten [(kBa81_2 bb (vP bb 0) s12), S13]) 0 _ _ _ _ _ (#[vP bb 0, s12]) rfl rfl rfl (cells_sl rfl (Sl.shp H14)) (.ofS rfl rfl (all_cons' (Shp.one (Sl.shp H14)) all_nil')) rfl rfl <| lx_nil <| A_sr <| r_R [vP bb 0, vP bb 0, vP bb 1] rfl <| r_l s12 0 _ _ _ _ rfl rfl rfl rfl rfl <| r_W (vI ((r10).length : Int)) rfl (ev_lenSl rfl rfl rfl (Sl.shp H14)) <| r_V (vI ((r3).length : Int)) rfl ?_
 obtain ⟨ck16, hM⟩ := ck_some hM
 refine r_X (vI (((r10).length : Int) - ((r3).length : Int))) rfl (wi64 rfl ck16.1 ck16.2) rfl <| r_R [vI (((r10).length : Int) - ((r3).length : Int)), Value.nilIface] rfl <| lx_nil <| A_gen [(4, vI (((r10).length : Int) - ((r3).length : Int))), (5, Value.nilIface)] rfl (fun T => ?_)
 obtain rfl := Option.some.inj hM
 refine A_ret (fun hn => endsO (v0 := vT #[vI (((r10).length : Int) - ((r3).length : Int)), Value.nilIface]) (O := [S13, (kBa81_2 bb (vP bb 0) s12)]) (res2 rfl rfl) (Sub.pick [(kBa81_2 bb (vP bb 0) s12), S13] [1, 0] rfl) ⟨s12, S13, _, H14, ⟨rfl, rfl⟩, rfl⟩)
def strings_Builder_WriteRune_v2b_m (N : Nat) (b : List UInt8) (r' : Int) : Option (Int × (List UInt8)) := strings_Builder_WriteRune_v2_m N b r'
set_option maxRecDepth 100000 in
theorem strings_Builder_WriteRune_v2b_g (N : Nat) (b : List UInt8) (r' : Int) (r) (hM : strings_Builder_WriteRune_v2b_m N b r' = some r) (ro : Addr → Option Value) (vb_ : Value) (Sb_ : List Bl) (Hb_ : Bd 81 5 vb_ b Sb_) : Does Try.prog 58 #[vb_, Value.int .i32 r'] ro (List.flatten [Sb_]) (pO (List.flatten [Sb_]) (oIB 81 5 vb_ r.2 (oE (vT #[vI r.1, Value.nilIface]) []))) := by
 rw [flat_one]
 obtain ⟨b_, f_, s_, S0_, rfl, H0_, rfl⟩ := Hb_
 cases f_
 ·exact bd_w (f := true) (strings_Builder_WriteRune_v1_g N b r' r hM ro b_ s_ S0_ H0_ )
 exact bd_w (f := true) (strings_Builder_WriteRune_v2_g N b r' r hM ro b_ s_ S0_ H0_ )
def strings_Builder_String_v1_m (_ : Nat) (b : List UInt8) : Option (List UInt8) := ck ((b).length ≤ 140737488355328) (some b)
set_option maxRecDepth 100000 in
set_option maxHeartbeats 8000000 in
theorem strings_Builder_String_v1_g (N : Nat) (b r : List UInt8) (hM : strings_Builder_String_v1_m N b = some r) (ro : Addr → Option Value) (bb : Nat) (bv : Value) (Sb : List Bl) (hb : Sl 5 encYs bv b Sb) : Does Try.prog 60 #[vP bb 0] ro (List.flatten [(kBa81_2 bb (Value.pointer none) bv), Sb]) (pO (List.flatten [(kBa81_2 bb (Value.pointer none) bv), Sb]) (oE (vS r) [])) := by
 unfold strings_Builder_String_v1_m at hM
 refine doesO_of_A follows Try.func60 rfl 14 rfl (upd (fun _ => undef) 0 (vP bb 0)) (by funext k; match k with | 0 => rfl | k + 1 => rfl) (fun _ _ h_ _ => h_) (fun base0_ => ?_)
 refine A_sr <| r_V (Value.string (⟨#[]⟩)) rfl <| lx_nil <| A_seq fun K2 hK2 => A_drawR [(some 7, false), (some 13, true)] (conG Try.prog [(7, fun _ _ v_ L_ U_ => (fun v_ L_ U_ => UsdP bv v_ ∧ L_ = [] ∧ U_ = []) v_ L_ U_), (13, fun _ _ v_ L_ U_ => (pUp (fun v_ U_ => v_ = .string ⟨(b).toArray⟩ ∧ U_ = deadB Sb)) v_ L_ U_)]) [] (by decide +kernel) (fun hn => sep_nil) <| r_R [vP bb 0, vP bb 0, vP bb 1] rfl <| r_l bv 0 _ _ _ _ rfl rfl rfl rfl rfl <| r_usd (Ls := [(kBa81_2 bb (Value.pointer none) bv), Sb]) 1 rfl rfl rfl rfl rfl hb rfl rfl (fun _ _ _ _ _ => Iff.rfl) (fun u3 hu4 => ?_)
 refine r_R [vP bb 0, vP bb 0, vP bb 1] rfl <| r_l bv 0 _ _ _ _ rfl rfl rfl rfl rfl <| r_W (vI ((b).length : Int)) rfl (ev_lenSl rfl rfl rfl (Sl.shp hb)) ?_
 obtain ⟨ck5, hM⟩ := ck_some hM
 refine r_uss (Ls := [(kBa81_2 bb (Value.pointer none) bv), Sb]) 1 (xs := b) rfl rfl rfl rfl rfl rfl hb hu4 rfl (by kernel_rfl) rfl ck5 (fun _ _ _ _ _ => Iff.rfl) <| lx_perm (Ls := [(kBa81_2 bb (Value.pointer none) bv), deadB Sb]) (Ls' := [(kBa81_2 bb (Value.pointer none) bv)]) [0] rfl rfl <| r_V (vS b) rfl <| lx_nil <| hK2 _ _ ?_; try clear hK2 K2
 obtain rfl := Option.some.inj hM
 refine A_ret (fun hn => endsO (v0 := vS b) (O := []) (res1 rfl) (Sub.nil _) ⟨rfl, rfl⟩)
def strings_Builder_String_v2_m (_ : Nat) (b : List UInt8) : Option (List UInt8) := ck ((b).length ≤ 140737488355328) (some b)
set_option maxRecDepth 100000 in
set_option maxHeartbeats 8000000 in
theorem strings_Builder_String_v2_g (N : Nat) (b r : List UInt8) (hM : strings_Builder_String_v2_m N b = some r) (ro : Addr → Option Value) (bb : Nat) (bv : Value) (Sb : List Bl) (hb : Sl 5 encYs bv b Sb) : Does Try.prog 60 #[vP bb 0] ro (List.flatten [(kBa81_2 bb (vP bb 0) bv), Sb]) (pO (List.flatten [(kBa81_2 bb (vP bb 0) bv), Sb]) (oE (vS r) [])) := by
 unfold strings_Builder_String_v2_m at hM
 refine doesO_of_A follows Try.func60 rfl 14 rfl (upd (fun _ => undef) 0 (vP bb 0)) (by funext k; match k with | 0 => rfl | k + 1 => rfl) (fun _ _ h_ _ => h_) (fun base0_ => ?_)
 refine A_sr <| r_V (Value.string (⟨#[]⟩)) rfl <| lx_nil <| A_seq fun K2 hK2 => A_drawR [(some 7, false), (some 13, true)] (conG Try.prog [(7, fun _ _ v_ L_ U_ => (fun v_ L_ U_ => UsdP bv v_ ∧ L_ = [] ∧ U_ = []) v_ L_ U_), (13, fun _ _ v_ L_ U_ => (pUp (fun v_ U_ => v_ = .string ⟨(b).toArray⟩ ∧ U_ = deadB Sb)) v_ L_ U_)]) [] (by decide +kernel) (fun hn => sep_nil) <| r_R [vP bb 0, vP bb 0, vP bb 1] rfl <| r_l bv 0 _ _ _ _ rfl rfl rfl rfl rfl <| r_usd (Ls := [(kBa81_2 bb (vP bb 0) bv), Sb]) 1 rfl rfl rfl rfl rfl hb rfl rfl (fun _ _ _ _ _ => Iff.rfl) (fun u3 hu4 => ?_)
 refine r_R [vP bb 0, vP bb 0, vP bb 1] rfl <| r_l bv 0 _ _ _ _ rfl rfl rfl rfl rfl <| r_W (vI ((b).length : Int)) rfl (ev_lenSl rfl rfl rfl (Sl.shp hb)) ?_
 obtain ⟨ck5, hM⟩ := ck_some hM
 refine r_uss (Ls := [(kBa81_2 bb (vP bb 0) bv), Sb]) 1 (xs := b) rfl rfl rfl rfl rfl rfl hb hu4 rfl (by kernel_rfl) rfl ck5 (fun _ _ _ _ _ => Iff.rfl) <| lx_perm (Ls := [(kBa81_2 bb (vP bb 0) bv), deadB Sb]) (Ls' := [(kBa81_2 bb (vP bb 0) bv)]) [0] rfl rfl <| r_V (vS b) rfl <| lx_nil <| hK2 _ _ ?_; try clear hK2 K2
 obtain rfl := Option.some.inj hM
 refine A_ret (fun hn => endsO (v0 := vS b) (O := []) (res1 rfl) (Sub.nil _) ⟨rfl, rfl⟩)
def strings_Builder_String_v2b_m (N : Nat) (b : List UInt8) : Option (List UInt8) := strings_Builder_String_v2_m N b
set_option maxRecDepth 100000 in
theorem strings_Builder_String_v2b_g (N : Nat) (b r : List UInt8) (hM : strings_Builder_String_v2b_m N b = some r) (ro : Addr → Option Value) (vb_ : Value) (Sb_ : List Bl) (Hb_ : Bd 81 5 vb_ b Sb_) : Does Try.prog 60 #[vb_] ro (List.flatten [Sb_]) (pO (List.flatten [Sb_]) (oE (vS r) [])) := by
 rw [flat_one]
 obtain ⟨b_, f_, s_, S0_, rfl, H0_, rfl⟩ := Hb_
 cases f_
 ·exact strings_Builder_String_v1_g N b r hM ro b_ s_ S0_ H0_ 
 exact strings_Builder_String_v2_g N b r hM ro b_ s_ S0_ H0_ 
def name_Key_l3 (N : Nat) (s : List UInt8) : Nat → List UInt8 → Nat → Option (List UInt8)
  | 0, _, _ => none
  | n15 + 1, Valuep1_, m2_ => if m2_ < (s).length then ck (m2_ < (s).length) ((name_Fold_m N ((runeAt s m2_ : Nat) : Int)).bind fun r21 => (strings_Builder_WriteRune_v2b_m N Valuep1_ r21).bind fun r23 => (name_Key_l3 N s n15) r23.2 (nextP s m2_)) else (strings_Builder_String_v2b_m N Valuep1_).bind fun r28 => some r28
def name_Key_m (N : Nat) (s : List UInt8) : Option (List UInt8) := (strings_Builder_Grow_v1_m N ((s).length : Int)).bind fun r5 => name_Key_l3 N s N r5 0
set_option maxRecDepth 100000 in
set_option maxHeartbeats 8000000 in
theorem name_Key_g (N : Nat) (s r : List UInt8) (hM : name_Key_m N s = some r) : Gives Try.prog 48 #[vS s] (vS r) := by
 unfold name_Key_m at hM
 refine gives_of_A follows Try.func48 rfl 18 rfl (upd (fun _ => undef) 0 (vS s)) (by funext k; match k with | 0 => rfl | k + 1 => rfl) (fun base0_ => ?_)
 refine A_sr <| r_V (Value.string (⟨#[]⟩)) rfl <| lx_nil <| A_sr <| r_a (81, #[Value.pointer none, nS]) rfl rfl rfl (fun b3 => ?_) (.inr rfl)
 refine lx_nil <| A_sc [(some 8, true)] (conG Try.prog [(8, fun _ _ v_ L_ U_ => ∀ u0_, strings_Builder_Grow_v1_m N ((s).length : Int) = some u0_ → (pO (List.flatten [(kBa81_2 b3 (Value.pointer none) nS)]) (oS 5 encYs u0_ fun s_0 => (oE (vT #[]) [(kBa81_2 b3 (vP b3 0) s_0)]))) v_ L_ U_)]) <| r_V (vS s) rfl <| r_W (vI ((s).length : Int)) rfl (ev_lenS rfl rfl rfl) ?_
 obtain ⟨r5, hr6, hM⟩ := bind_sm hM
 refine r_gm (Ls := [(kBa81_2 b3 (Value.pointer none) nS)]) (FL := [(kBa81_2 b3 (Value.pointer none) nS)]) [0] _ (some 8) 57 _ rfl rfl rfl rfl rfl (ev_callF rfl call_57 rfl) (fun own_ nw_ hn_ hs_ => strings_Builder_Grow_v1_g N ((s).length : Int) _ hr6 _ b3) (conE hr6) (fun h_ => nomatch h_) ?_
 rintro _ _ ⟨s7, S8, _, H9, ⟨rfl, rfl⟩, rfl⟩
 refine lx_perm (Ls := [S8, (kBa81_2 b3 (vP b3 0) s7)]) (Ls' := [(kBa81_2 b3 (vP b3 0) s7), S8]) [1, 0] rfl rfl <| lx_perm (Ls := [(kBa81_2 b3 (vP b3 0) s7), S8]) (Ls' := [(kBa81_2 b3 (vP b3 0) s7), S8]) [0, 1] rfl rfl <| lx_eq (Ls := [(kBa81_2 b3 (vP b3 0) s7), S8]) (Ls' := [(List.flatten [(kBa81_2 b3 (vP b3 0) s7), S8])]) (by simp only [List.flatten_cons, List.flatten_nil, List.append_nil, List.append_assoc]) <| lx_name (Ls := [(List.flatten [(kBa81_2 b3 (vP b3 0) s7), S8])]) (p := fun S_ => Bd 81 5 (vP b3 0) r5 S_) 0 rfl ⟨b3, true, _, _, rfl, H9, rfl⟩ (fun S10 H11 => ?_)
 refine lx_nil <| A_seq fun K12 hK12 => A_sc [(some 10, false)] (conG Try.prog [(10, fun _ _ v_ L_ U_ => (pIt s) v_ L_ U_)]) <| r_V (vS s) rfl <| r_range s rfl rfl rfl rfl rfl (fun _ _ _ _ _ => Iff.rfl) (fun b14 => ?_)
 refine lx_app1 (Ls := [S10]) <| lx_perm (Ls := [S10, [(b14, (itT s 0), #[])]]) (Ls' := [[(b14, (itT s 0), #[])], S10]) [1, 0] rfl rfl <| lx_nil <| A_block <| A_forget _ (Sub.pick [[(b14, (itT s 0), #[])], S10] [0, 1] rfl) <| A_loop (fun tt ll nn => ∃ (n15 : Nat) (Valuep1_ : List UInt8) (m2_ : Nat), (name_Key_l3 N s n15 Valuep1_ m2_ = some r) ∧ ∃ (SValuep1_ : List Bl), Bd 81 5 (vP b3 0) Valuep1_ SValuep1_ ∧ Is [(3, vP b3 0), (10, vP b14 0)] (List.flatten [[(b14, (itT s m2_), #[])], SValuep1_]) tt ll ∧ nn = n15 + 1) (N + 1) ?_ ?_
 ·exact ⟨N, r5, 0, hM, S10, H11, is_mk rfl rfl, rfl⟩
 clear hM; rintro t l _ ⟨n15, Valuep1_, m2_, hM, SValuep1_, hValuep1_, ⟨⟨T, rfl⟩, rfl⟩, rfl⟩
 rcases n15 with _ | n15
 ·exact absurd hM (by simp [name_Key_l3])
 rw [name_Key_l3] at hM
 refine A_sc [(some 11, true)] (conG Try.prog [(11, fun _ _ v_ L_ U_ => (pNx b14 s m2_) v_ L_ U_)]) <| r_next (lN := (List.flatten [[(b14, (itT s (nextP s m2_)), #[])], SValuep1_])) 0 b14 s m2_ rfl rfl rfl rfl rfl rfl (fun _ _ _ _ _ => Iff.rfl) rfl <| r_W (vB (decide (m2_ < (s).length))) rfl (ev_v (ev_next0 s m2_)) <| lx_nil <| A_seq fun K17 hK17 => A_cond (decide (m2_ < (s).length)) rfl (fun hc18 => ?_) (fun hc18 => ?_)
 ·replace hM := ifp (of_decide_eq_true hc18) hM
  refine A_skip <| hK17 _ _ ?_; try clear hK17 K17
  refine A_block <| A_sr ?_
  obtain ⟨ck20, hM⟩ := ck_some hM
  refine r_W (Value.int .i32 ((runeAt s m2_ : Nat) : Int)) rfl (ev_v (ev_next2 ck20)) <| r_V (Value.int .i32 ((runeAt s m2_ : Nat) : Int)) rfl <| lx_nil <| A_regC [(some 16, true)] (conG Try.prog [(16, fun _ _ v_ L_ U_ => ∀ u0_, name_Fold_m N ((runeAt s m2_ : Nat) : Int) = some u0_ → ∀ u1_, strings_Builder_WriteRune_v2b_m N Valuep1_ u0_ = some u1_ → (pO (List.flatten [SValuep1_]) (oIB 81 5 (vP b3 0) u1_.2 (oE (vT #[vI u1_.1, Value.nilIface]) []))) v_ L_ U_)]) <| r_V (Value.int .i32 ((runeAt s m2_ : Nat) : Int)) rfl ?_
  obtain ⟨r21, hr22, hM⟩ := bind_sm hM
  refine r_c (Value.int .i32 r21) rfl _ _ (ev_callF rfl call_59 rfl) (name_Fold_g N ((runeAt s m2_ : Nat) : Int) _ hr22) ?_
  obtain ⟨r23, hr24, hM⟩ := bind_sm hM
  refine r_gm (Ls := [[(b14, (itT s (nextP s m2_)), #[])], SValuep1_]) (FL := [SValuep1_]) [1] _ (some 16) 58 _ rfl rfl rfl rfl rfl (ev_callF rfl call_58 rfl) (fun own_ nw_ hn_ hs_ => strings_Builder_WriteRune_v2b_g N Valuep1_ r21 _ hr24 _ (vP b3 0) SValuep1_ hValuep1_) (fun _ _ v_ L_ U_ => ⟨fun h_ => h_ _ hr22 _ hr24, fun h_ => by intro _ e_; cases Option.some.inj (e_.symm.trans hr22); intro _ e_; cases Option.some.inj (e_.symm.trans hr24); exact h_⟩) (fun h_ => nomatch h_) ?_
  rintro _ _ ⟨S25, _, H26, ⟨rfl, rfl⟩, rfl⟩
  refine lx_perm (Ls := [[(b14, (itT s (nextP s m2_)), #[])], S25]) (Ls' := [[(b14, (itT s (nextP s m2_)), #[])], S25]) [0, 1] rfl rfl <| lx_nil <| fg _ (Sub.pick [[(b14, (itT s (nextP s m2_)), #[])], S25] [0, 1] rfl) ?_
  exact ⟨n15 + 1, by omega, n15, r23.2, nextP s m2_, hM, S25, H26, is_mk rfl rfl, rfl⟩
 replace hM := ifn (of_decide_eq_false hc18) hM
 refine A_exit <| hK12 _ _ ?_; try clear hK12 K12
 refine A_sc [(some 17, true)] (conG Try.prog [(17, fun _ _ v_ L_ U_ => ∀ u0_, strings_Builder_String_v2b_m N Valuep1_ = some u0_ → (pO (List.flatten [SValuep1_]) (oE (vS u0_) [])) v_ L_ U_)]) ?_
 obtain ⟨r28, hr29, hM⟩ := bind_sm hM
 refine r_gm (Ls := [[(b14, (itT s (nextP s m2_)), #[])], SValuep1_]) (FL := [SValuep1_]) [1] _ (some 17) 60 _ rfl rfl rfl rfl rfl (ev_callF rfl call_60 rfl) (fun own_ nw_ hn_ hs_ => strings_Builder_String_v2b_g N Valuep1_ _ hr29 _ (vP b3 0) SValuep1_ hValuep1_) (conE hr29) (fun h_ => nomatch h_) ?_
 rintro _ _ ⟨rfl, rfl⟩
 refine lx_perm (Ls := [[(b14, (itT s (nextP s m2_)), #[])]]) (Ls' := [[(b14, (itT s (nextP s m2_)), #[])]]) [0] rfl rfl <| r_V (vS r28) rfl <| lx_nil ?_
 obtain rfl := Option.some.inj hM
 refine A_ret (fun hn => ends_eq (v0 := vS r28) rfl (res1 rfl))
def name_Index_1_v1_m (N : Nat) (other : List UInt8) (c1_ : List UInt8) : Option Bool := (name_Key_m N other).bind fun r3 => some (r3 == c1_)
set_option maxRecDepth 100000 in
set_option maxHeartbeats 8000000 in
theorem name_Index_1_v1_g (N : Nat) (other c1_ : List UInt8) (r) (hM : name_Index_1_v1_m N other c1_ = some r) (ro : Addr → Option Value) (bc1_ : Nat) (hbc1_ : Blk ro bc1_ [vS c1_]) : Does Try.prog 50 #[vS other, vP bc1_ 0] ro [] (pV (vB r)) := by
 unfold name_Index_1_v1_m at hM
 refine does_of_A follows Try.func50 rfl 8 rfl (upd (upd (fun _ => undef) 1 (vP bc1_ 0)) 0 (vS other)) (by funext k; match k with | 0 => rfl | 1 => rfl | k + 2 => rfl) (fun base0_ => ?_)
 refine A_sr <| r_V (vB false) rfl <| lx_nil <| A_seq fun K2 hK2 => A_draw [] (by decide +kernel) (fun hn => sep_nil) <| r_V (vS other) rfl ?_
 obtain ⟨r3, hr4, hM⟩ := bind_sm hM
 refine r_c (vS r3) rfl _ _ (ev_callF rfl call_48 rfl) (name_Key_g N other _ hr4) <| r_lb (vS c1_) (vs := [vS c1_]) (o := 0) rfl rfl (blk_ro hbc1_) rfl <| r_W (vB (r3 == c1_)) rfl (ev_eqS rfl rfl) <| r_V (vB (r3 == c1_)) rfl <| lx_nil <| hK2 _ _ ?_; try clear hK2 K2
 obtain rfl := Option.some.inj hM
 refine A_ret (fun hn => endsV (v0 := vB (r3 == c1_)) rfl (res1 rfl))
def slices_IndexFunc___string_string__v1_l2 (N : Nat) (s : List (List UInt8)) (f0_ : List UInt8) : Nat → Int → Option Int
  | 0, _ => none
  | n4 + 1, x1_ => if x1_ < ((s).length : Int) then ck (0 ≤ x1_ ∧ x1_ < ((s).length : Int)) ((name_Index_1_v1_m N ((s)[(x1_).toNat]!) f0_).bind fun r12 => if r12 = true then some x1_ else ck (-9223372036854775808 ≤ (x1_ + 1) ∧ (x1_ + 1) ≤ 9223372036854775807) ((slices_IndexFunc___string_string__v1_l2 N s f0_ n4) (x1_ + 1))) else some (-1)
def slices_IndexFunc___string_string__v1_m (N : Nat) (s : List (List UInt8)) (f0_ : List UInt8) : Option Int := slices_IndexFunc___string_string__v1_l2 N s f0_ N 0
set_option maxRecDepth 100000 in
set_option maxHeartbeats 8000000 in
theorem slices_IndexFunc___string_string__v1_g (N : Nat) (s : List (List UInt8)) (f0_ : List UInt8) (r) (hM : slices_IndexFunc___string_string__v1_m N s f0_ = some r) (ro : Addr → Option Value) (sv : Value) (hs : Rd encS ro sv s) (bf0_ : Nat) (hbf0_ : Blk ro bf0_ [vS f0_]) : Does Try.prog 49 #[sv, Value.func (.func 50) #[] #[vP bf0_ 0]] ro [] (pV (vI r)) := by
 unfold slices_IndexFunc___string_string__v1_m at hM
 refine does_of_A follows Try.func49 rfl 19 rfl (upd (upd (fun _ => undef) 1 (Value.func (.func 50) #[] #[vP bf0_ 0])) 0 sv) (by funext k; match k with | 0 => rfl | 1 => rfl | k + 2 => rfl) (fun base0_ => ?_)
 refine A_sr <| r_V (vI 0) rfl <| lx_nil <| A_seq fun K2 hK2 => A_sr <| r_V sv rfl <| r_W (vI ((s).length : Int)) rfl (ev_lenSl rfl rfl rfl (Rd.shp hs)) <| r_V (vI 0) rfl <| lx_nil <| A_block <| A_loop (fun tt ll nn => ∃ (n4 : Nat) (x1_ : Int), (slices_IndexFunc___string_string__v1_l2 N s f0_ n4 x1_ = some r) ∧ Is [(0, sv), (1, Value.func (.func 50) #[] #[vP bf0_ 0]), (7, vI ((s).length : Int)), (8, vI x1_)] [] tt ll ∧ nn = n4 + 1) (N + 1) ?_ ?_
 ·exact ⟨N, 0, hM, is_mk rfl rfl, rfl⟩
 clear hM; rintro t l _ ⟨n4, x1_, hM, ⟨⟨T, rfl⟩, rfl⟩, rfl⟩
 rcases n4 with _ | n4
 ·exact absurd hM (by simp [slices_IndexFunc___string_string__v1_l2])
 rw [slices_IndexFunc___string_string__v1_l2] at hM
 refine A_sr <| r_V (vB (decide (x1_ < ((s).length : Int)))) rfl <| lx_nil <| A_seq fun K6 hK6 => A_cond (decide (x1_ < ((s).length : Int))) rfl (fun hc7 => ?_) (fun hc7 => ?_)
 ·replace hM := ifp (of_decide_eq_true hc7) hM
  refine A_skip <| hK6 _ _ ?_; try clear hK6 K6
  refine A_seq fun K8 hK8 => A_block <| A_sr <| r_R [vI x1_, vI x1_] rfl <| lx_nil <| A_sc [(some 16, false)] (conG Try.prog [(16, fun _ _ v_ L_ U_ => ∀ u0_, name_Index_1_v1_m N ((s)[(x1_).toNat]!) f0_ = some u0_ → (pV (vB u0_)) v_ L_ U_)]) <| r_R [Value.func (.func 50) #[] #[vP bf0_ 0], sv, vI x1_] rfl ?_
  obtain ⟨ck11, hM⟩ := ck_some hM
  refine r_W (elA sv ((x1_).toNat * 1)) rfl (ev_v (ev_idxSl rfl rfl rfl (Rd.shp hs) ck11)) <| r_le (vS ((s)[(x1_).toNat]!)) (En := encS) ((s)[(x1_).toNat]!) ((x1_).toNat) 0 rfl rfl (rd_ro hs) (get_of ck11) rfl ?_
  obtain ⟨r12, hr13, hM⟩ := bind_sm hM
  refine r_gv (vB r12) 50 _ rfl rfl rfl (ev_callV (caps := [vP bf0_ 0]) rfl call_50 rfl) (fun own_ nw_ hs_ => name_Index_1_v1_g N ((s)[(x1_).toNat]!) f0_ _ hr13 hs_.view bf0_ (blk_ro hbf0_ own_ nw_ hs_)) (conE hr13) <| lx_nil <| A_cond r12 rfl (fun hc14 => ?_) (fun hc14 => ?_)
  ·replace hM := ifp hc14 hM
   refine A_sr <| r_R [vI x1_, vI x1_] rfl <| lx_nil ?_
   obtain rfl := Option.some.inj hM
   refine A_ret (fun hn => endsV (v0 := vI x1_) rfl (res1 rfl))
  replace hM := ifn (Bool.eq_false_iff.1 hc14) hM
  refine A_skip <| hK8 _ _ ?_; try clear hK8 K8
  refine A_reg ?_
  obtain ⟨ck16, hM⟩ := ck_some hM
  refine r_X (vI (x1_ + 1)) rfl (wi64 rfl ck16.1 ck16.2) rfl <| r_V (vI (x1_ + 1)) rfl <| lx_nil <| fg _ (Sub.of List.Sublist.slnil) ?_
  exact ⟨n4 + 1, by omega, n4, (x1_ + 1), hM, is_mk rfl rfl, rfl⟩
 replace hM := ifn (of_decide_eq_false hc7) hM
 refine A_exit <| hK2 _ _ ?_; try clear hK2 K2
 refine A_sr <| r_V (vI (-1)) rfl <| lx_nil ?_
 obtain rfl := Option.some.inj hM
 refine A_ret (fun hn => endsV (v0 := vI (-1)) rfl (res1 rfl))
def name_Index_m (N : Nat) (l' : List (List UInt8)) (s : List UInt8) : Option Int := (name_Key_m N s).bind fun r3 => (slices_IndexFunc___string_string__v1_m N l' r3).bind fun r7 => some r7
set_option maxRecDepth 100000 in
set_option maxHeartbeats 8000000 in
theorem name_Index_g (N : Nat) (l' : List (List UInt8)) (s : List UInt8) (r) (hM : name_Index_m N l' s = some r) (ro : Addr → Option Value) (l'v : Value) (hl' : Rd encS ro l'v l') : Does Try.prog 36 #[l'v, vS s] ro [] (pV (vI r)) := by
 unfold name_Index_m at hM
 refine does_of_A follows Try.func36 rfl 11 rfl (upd (upd (fun _ => undef) 1 (vS s)) 0 l'v) (by funext k; match k with | 0 => rfl | 1 => rfl | k + 2 => rfl) (fun base0_ => ?_)
 refine A_sr <| r_V (vI 0) rfl <| lx_nil <| A_sr <| r_V (vS s) rfl ?_
 obtain ⟨r3, hr4, hM⟩ := bind_sm hM
 refine r_c (vS r3) rfl _ _ (ev_callF rfl call_48 rfl) (name_Key_g N s _ hr4) <| r_a (9, #[Value.string (⟨#[]⟩)]) rfl rfl rfl (fun b5 => ?_) (.inr rfl)
 refine r_s (kBa9_3 b5 r3) 0 _ _ _ _ _ (#[vS r3]) rfl rfl rfl rfl (.of rfl rfl) rfl rfl <| lx_nil <| A_sc [(some 10, false)] (conG Try.prog [(10, fun _ _ v_ L_ U_ => ∀ u0_, slices_IndexFunc___string_string__v1_m N l' r3 = some u0_ → (pV (vI u0_)) v_ L_ U_)]) <| r_V l'v rfl <| r_W (Value.func (.func 50) #[] #[vP b5 0]) rfl (ev_mkF rfl) ?_
 obtain ⟨r7, hr8, hM⟩ := bind_sm hM
 refine r_gv (vI r7) 49 _ rfl rfl rfl (ev_callF rfl call_49 rfl) (fun own_ nw_ hs_ => slices_IndexFunc___string_string__v1_g N l' r3 _ hr8 hs_.view l'v ((rd_ro hl') own_ nw_ hs_) b5 (blk_own 0 rfl rfl own_ nw_ hs_)) (conE hr8) <| r_V (vI r7) rfl <| lx_nil ?_
 obtain rfl := Option.some.inj hM
 refine A_ret (fun hn => endsV (v0 := vI r7) rfl (res1 rfl))
def shape_mayName_m (N : Nat) (names : List (List UInt8)) (i : Int) : Option Int := ck (0 ≤ i ∧ i < ((names).length : Int)) ((shape_plain_m N ((names)[(i).toNat]!)).bind fun r5 => if r5 = true then ck (0 ≤ i ∧ i ≤ ((names).length : Int)) (ck (0 ≤ i ∧ i < ((names).length : Int)) ((name_Index_m N (((names).take ((i).toNat)).drop 0) ((names)[(i).toNat]!)).bind fun r12 => if r12 ≥ 0 then some 6 else some 0)) else some 4)
set_option maxRecDepth 100000 in
set_option maxHeartbeats 8000000 in
theorem shape_mayName_g (N : Nat) (names : List (List UInt8)) (i r : Int) (hM : shape_mayName_m N names i = some r) (ro : Addr → Option Value) (namesv : Value) (hnames : Rd encS ro namesv names) : Does Try.prog 30 #[namesv, vI i] ro [] (pV (vI r)) := by
 unfold shape_mayName_m at hM
 refine does_of_A follows Try.func30 rfl 22 rfl (upd (upd (fun _ => undef) 1 (vI i)) 0 namesv) (by funext k; match k with | 0 => rfl | 1 => rfl | k + 2 => rfl) (fun base0_ => ?_)
 refine A_sr <| r_V (vI 0) rfl <| lx_nil <| A_seq fun K2 hK2 => A_block <| A_sr <| r_R [namesv, vI i] rfl ?_
 obtain ⟨ck4, hM⟩ := ck_some hM
 refine r_W (elA namesv ((i).toNat * 1)) rfl (ev_v (ev_idxSl rfl rfl rfl (Rd.shp hnames) ck4)) <| r_le (vS ((names)[(i).toNat]!)) (En := encS) ((names)[(i).toNat]!) ((i).toNat) 0 rfl rfl (rd_ro hnames) (get_of ck4) rfl ?_
 obtain ⟨r5, hr6, hM⟩ := bind_sm hM
 refine r_c (vB r5) rfl _ _ (ev_callF rfl call_37 rfl) (shape_plain_g N ((names)[(i).toNat]!) _ hr6) <| r_R [vB (!(r5)), vB (!(r5))] rfl <| lx_nil <| A_cond (!(r5)) rfl (fun hc7 => ?_) (fun hc7 => ?_)
 ·replace hM := ifn (Bool.eq_false_iff.1 (not_t hc7)) hM
  refine A_sr <| r_V (vI 4) rfl <| lx_nil ?_
  obtain rfl := Option.some.inj hM
  refine A_ret (fun hn => endsV (v0 := vI 4) rfl (res1 rfl))
 replace hM := ifp (not_f hc7) hM
 refine A_seq fun K9 hK9 => A_drawR [(some 20, false)] (conG Try.prog [(20, fun _ _ v_ L_ U_ => ∀ u0_, name_Index_m N (((names).take ((i).toNat)).drop 0) ((names)[(i).toNat]!) = some u0_ → (pV (vI u0_)) v_ L_ U_)]) [] (by decide +kernel) (fun hn => sep_nil) <| r_R [namesv, vI i] rfl ?_
 obtain ⟨ck10, hM⟩ := ck_some hM
 refine r_W (subA namesv 0 ((i).toNat) 1) rfl (ev_v (ev_subSl2 rfl rfl rfl rfl (Rd.shp hnames) ck10)) <| r_R [namesv, vI i] rfl ?_
 obtain ⟨ck11, hM⟩ := ck_some hM
 refine r_W (elA namesv ((i).toNat * 1)) rfl (ev_v (ev_idxSl rfl rfl rfl (Rd.shp hnames) ck11)) <| r_le (vS ((names)[(i).toNat]!)) (En := encS) ((names)[(i).toNat]!) ((i).toNat) 0 rfl rfl (rd_ro hnames) (get_of ck11) rfl ?_
 obtain ⟨r12, hr13, hM⟩ := bind_sm hM
 refine r_gv (vI r12) 36 _ rfl rfl rfl (ev_callF rfl call_36 rfl) (fun own_ nw_ hs_ => name_Index_g N (((names).take ((i).toNat)).drop 0) ((names)[(i).toNat]!) _ hr13 hs_.view (subA namesv 0 ((i).toNat) 1) ((rd_sub (rd_ro hnames) (Nat.zero_le _) (toNat_len ck10.2)) own_ nw_ hs_)) (conE hr13) <| r_R [vB (decide (r12 ≥ 0)), vB (decide (r12 ≥ 0))] rfl <| lx_nil <| hK9 _ _ ?_; try clear hK9 K9
 refine A_cond (decide (r12 ≥ 0)) rfl (fun hc14 => ?_) (fun hc14 => ?_)
 ·replace hM := ifp (of_decide_eq_true hc14) hM
  refine A_sr <| r_V (vI 6) rfl <| lx_nil ?_
  obtain rfl := Option.some.inj hM
  refine A_ret (fun hn => endsV (v0 := vI 6) rfl (res1 rfl))
 replace hM := ifn (of_decide_eq_false hc14) hM
 refine A_skip <| hK2 _ _ ?_; try clear hK2 K2
 refine A_sr <| r_V (vI 0) rfl <| lx_nil ?_
 obtain rfl := Option.some.inj hM
 refine A_ret (fun hn => endsV (v0 := vI 0) rfl (res1 rfl))
def shape_mayFields_l2 (N : Nat) (l' : List (List UInt8 × Int)) (r3 : List (List UInt8)) : Nat → Int → Option Int
  | 0, _ => none
  | n10 + 1, x1_ => if x1_ < ((l').length : Int) then ck (0 ≤ x1_ ∧ x1_ < ((l').length : Int)) ((shape_mayName_m N r3 x1_).bind fun r20 => if (r20 : Int) ≠ 0 then some r20 else (shape_within_m N (((l')[(x1_).toNat]!).2) 1 128).bind fun r26 => if r26 = true then ck (-9223372036854775808 ≤ (x1_ + 1) ∧ (x1_ + 1) ≤ 9223372036854775807) ((shape_mayFields_l2 N l' r3 n10) (x1_ + 1)) else some 9) else some 0
def shape_mayFields_m (N : Nat) (l' : List (List UInt8 × Int)) : Option Int := (shape_fieldNames_m N l').bind fun r3 => shape_mayFields_l2 N l' r3 N 0
set_option maxRecDepth 100000 in
set_option maxHeartbeats 8000000 in
theorem shape_mayFields_g (N : Nat) (l' : List (List UInt8 × Int)) (r) (hM : shape_mayFields_m N l' = some r) (ro : Addr → Option Value) (l'v : Value) (hl' : Rd enc_52 ro l'v l') : Does Try.prog 38 #[l'v] ro [] (pV (vI r)) := by
 unfold shape_mayFields_m at hM
 refine does_of_A follows Try.func38 rfl 27 rfl (upd (fun _ => undef) 0 l'v) (by funext k; match k with | 0 => rfl | k + 1 => rfl) (fun base0_ => ?_)
 refine A_sr <| r_V (vI 0) rfl <| lx_nil <| A_sc [(some 8, false)] (conG Try.prog [(8, fun _ _ v_ L_ U_ => ∀ u0_, shape_fieldNames_m N l' = some u0_ → (p1 (fun s_ => s_) 9 encS u0_) v_ L_ U_)]) <| r_V l'v rfl ?_
 obtain ⟨r3, hr4, hM⟩ := bind_sm hM
 refine r_g1 (Ls := []) (fun s5 => s5) 9 encS r3 53 _ rfl rfl rfl (ev_callF rfl call_53 rfl) (fun own_ nw_ hs_ => shape_fieldNames_g N l' _ hr4 hs_.view l'v ((rd_ro hl') own_ nw_ hs_)) (conE hr4) (fun s5 S6 H7 => ?_)
 refine r_V s5 rfl <| lx_nil <| A_seq fun K8 hK8 => A_sr <| r_V l'v rfl <| r_W (vI ((l').length : Int)) rfl (ev_lenSl rfl rfl rfl (Rd.shp hl')) <| r_V (vI 0) rfl <| lx_nil <| A_block <| A_forget _ (Sub.pick [S6] [0] rfl) <| A_loop (fun tt ll nn => ∃ (n10 : Nat) (x1_ : Int), (shape_mayFields_l2 N l' r3 n10 x1_ = some r) ∧ Is [(3, s5), (9, l'v), (10, vI ((l').length : Int)), (11, vI x1_)] (List.flatten [S6]) tt ll ∧ nn = n10 + 1) (N + 1) ?_ ?_
 ·exact ⟨N, 0, hM, is_mk rfl rfl, rfl⟩
 clear hM; rintro t l _ ⟨n10, x1_, hM, ⟨⟨T, rfl⟩, rfl⟩, rfl⟩
 rcases n10 with _ | n10
 ·exact absurd hM (by simp [shape_mayFields_l2])
 rw [shape_mayFields_l2] at hM
 refine A_sr <| r_V (vB (decide (x1_ < ((l').length : Int)))) rfl <| lx_nil <| A_seq fun K12 hK12 => A_cond (decide (x1_ < ((l').length : Int))) rfl (fun hc13 => ?_) (fun hc13 => ?_)
 ·replace hM := ifp (of_decide_eq_true hc13) hM
  refine A_skip <| hK12 _ _ ?_; try clear hK12 K12
  refine A_seq fun K14 hK14 => A_block <| A_sr <| r_V (vI x1_) rfl ?_
  obtain ⟨ck16, hM⟩ := ck_some hM
  refine r_W (elA l'v ((x1_).toNat * 2)) rfl (ev_v (ev_idxSl rfl rfl rfl (Rd.shp hl') ck16)) <| r_le (vA #[vS (((l')[(x1_).toNat]!).1), vI (((l')[(x1_).toNat]!).2)]) (En := enc_52) ((l')[(x1_).toNat]!) ((x1_).toNat) 0 rfl rfl (rd_ro hl') (get_of ck16) rfl <| r_a (52, #[Value.string (⟨#[]⟩), vI 0]) rfl rfl rfl (fun b17 => ?_) (.inr rfl)
  refine r_V (vI x1_) rfl <| r_s (List.flatten [(kBa52_0 b17 (((l')[(x1_).toNat]!).1) (((l')[(x1_).toNat]!).2)), S6]) 0 _ _ _ _ _ (#[vS (((l')[(x1_).toNat]!).1), vI (((l')[(x1_).toNat]!).2)]) rfl rfl rfl rfl (.of rfl rfl) rfl rfl <| lx_nil <| A_seq fun K18 hK18 => A_sc [(some 18, false)] (conG Try.prog [(18, fun _ _ v_ L_ U_ => ∀ u0_, shape_mayName_m N r3 x1_ = some u0_ → (pV (vI u0_)) v_ L_ U_)]) <| r_R [s5, vI x1_] rfl ?_
  obtain ⟨r20, hr21, hM⟩ := bind_sm hM
  refine r_gv (vI r20) 30 _ rfl rfl rfl (ev_callF rfl call_30 rfl) (fun own_ nw_ hs_ => shape_mayName_g N r3 x1_ _ hr21 hs_.view s5 ((rd_own H7 (mem_chunk (Ls := [(kBa52_0 b17 (((l')[(x1_).toNat]!).1) (((l')[(x1_).toNat]!).2)), S6]) (k := 1) rfl rfl)) own_ nw_ hs_)) (conE hr21) <| r_V (vI r20) rfl <| lx_nil <| A_sr <| r_R [vI r20, vB (r20 != 0)] rfl <| lx_nil <| A_cond (r20 != 0) rfl (fun hc23 => ?_) (fun hc23 => ?_)
  ·replace hM := ifp (bne_iff_ne.1 hc23) hM
   refine A_sr <| r_R [vI r20, vI r20] rfl <| lx_nil ?_
   obtain rfl := Option.some.inj hM
   refine A_ret (fun hn => endsV (v0 := vI r20) rfl (res1 rfl))
  replace hM := ifn (bne_f hc23) hM
  refine A_skip <| hK18 _ _ ?_; try clear hK18 K18
  refine A_sr <| r_V (vP b17 1) rfl <| r_l (vI (((l')[(x1_).toNat]!).2)) 0 _ _ _ _ rfl rfl rfl rfl rfl ?_
  obtain ⟨r26, hr27, hM⟩ := bind_sm hM
  refine r_c (vB r26) rfl _ _ (ev_callF rfl call_27 rfl) (shape_within_g N (((l')[(x1_).toNat]!).2) 1 128 _ hr27) <| r_V (vB (!(r26))) rfl <| lx_nil <| A_cond (!(r26)) rfl (fun hc28 => ?_) (fun hc28 => ?_)
  ·replace hM := ifn (Bool.eq_false_iff.1 (not_t hc28)) hM
   refine A_sr <| r_V (vI 9) rfl <| lx_nil ?_
   obtain rfl := Option.some.inj hM
   refine A_ret (fun hn => endsV (v0 := vI 9) rfl (res1 rfl))
  replace hM := ifp (not_f hc28) hM
  refine A_skip <| hK14 _ _ ?_; try clear hK14 K14
  refine A_reg ?_
  obtain ⟨ck30, hM⟩ := ck_some hM
  refine r_X (vI (x1_ + 1)) rfl (wi64 rfl ck30.1 ck30.2) rfl <| r_V (vI (x1_ + 1)) rfl <| lx_nil <| fg _ (Sub.pick [(kBa52_0 b17 (((l')[(x1_).toNat]!).1) (((l')[(x1_).toNat]!).2)), S6] [1] rfl) ?_
  exact ⟨n10 + 1, by omega, n10, (x1_ + 1), hM, is_mk rfl rfl, rfl⟩
 replace hM := ifn (of_decide_eq_false hc13) hM
 refine A_exit <| hK8 _ _ ?_; try clear hK8 K8
 refine A_sr <| r_V (vI 0) rfl <| lx_nil ?_
 obtain rfl := Option.some.inj hM
 refine A_ret (fun hn => endsV (v0 := vI 0) rfl (res1 rfl))
def shape_mayVary_v1_m (N : Nat) (_ : List UInt8) (h_1 : List (List UInt8 × Int)) (h_2 : Int) (h_3 : Int) (h_4 : Int) (h_5 : Int) : Option Bool := if h_2 = 0 then if h_3 = 0 then if h_4 = 0 then some (h_5 == 0) else some false else some false else (shape_within_m N h_2 1 64).bind fun r10 => if r10 = true then ck ((-9223372036854775808 ≤ (((h_1).length : Int) - 1) ∧ (((h_1).length : Int) - 1) ≤ 9223372036854775807)) ((shape_within_m N h_3 0 (((h_1).length : Int) - 1)).bind fun r14 => if r14 = true then ck (0 ≤ h_3 ∧ h_3 < ((h_1).length : Int)) (if (((h_1)[(h_3).toNat]!).2 : Int) ≤ 16 then (shape_within_m N h_4 1 64).bind fun r19 => if r19 = true then (shape_within_m N h_5 0 4096).bind fun r22 => some r22 else some false else some false) else some false) else some false
set_option maxRecDepth 100000 in
set_option maxHeartbeats 8000000 in
theorem shape_mayVary_v1_g (N : Nat) (h_0 : List UInt8) (h_1 : List (List UInt8 × Int)) (h_2 : Int) (h_3 : Int) (h_4 : Int) (h_5 : Int) (r) (hM : shape_mayVary_v1_m N h_0 h_1 h_2 h_3 h_4 h_5 = some r) (ro : Addr → Option Value) (h_1v : Value) (hh_1 : Rd enc_52 ro h_1v h_1) : Does Try.prog 40 #[vA #[vS h_0, h_1v, vI h_2, vI h_3, vI h_4, vI h_5]] ro [] (pV (vB r)) := by
 unfold shape_mayVary_v1_m at hM
 refine does_of_A follows Try.func40 rfl 51 rfl (upd (fun _ => undef) 0 (vA #[vS h_0, h_1v, vI h_2, vI h_3, vI h_4, vI h_5])) (by funext k; match k with | 0 => rfl | k + 1 => rfl) (fun base0_ => ?_)
 refine A_sr <| r_a (24, #[vS h_0, h_1v, vI h_2, vI h_3, vI h_4, vI h_5]) rfl rfl rfl (fun b2 => ?_) (.inr rfl)
 refine r_V (vB false) rfl <| lx_nil <| A_seq fun K3 hK3 => A_sr <| r_V (vP b2 2) rfl <| r_l (vI h_2) 0 _ _ _ _ rfl rfl rfl rfl rfl <| r_V (vB (h_2 == 0)) rfl <| lx_nil <| A_cond (h_2 == 0) rfl (fun hc5 => ?_) (fun hc5 => ?_)
 ·replace hM := ifp (eq_of_beq hc5) hM
  refine A_seq fun K6 hK6 => A_reg <| r_V (vP b2 3) rfl <| r_l (vI h_3) 0 _ _ _ _ rfl rfl rfl rfl rfl <| r_R [vB (h_3 == 0), vB (h_3 == 0)] rfl ?_
  rcases hg7 : (h_3 == 0) with _ | _
  ·replace hM := ifn (ne_of_beq_false hg7) hM
   refine r_R [none, none, none, vB false, vB false, none, none, none, vB false, vB false] rfl <| lx_nil <| hK6 _ _ ?_; try clear hK6 K6
   obtain rfl := Option.some.inj hM
   refine A_ret (fun hn => endsV (v0 := vB false) rfl (res1 rfl))
  replace hM := ifp (eq_of_beq hg7) hM
  refine r_R [vP b2 4] rfl <| r_y rfl <| r_l (vI h_4) 0 _ _ _ _ rfl rfl rfl rfl rfl <| r_R [vB (h_4 == 0), vB (h_4 == 0), vB (h_4 == 0)] rfl ?_
  rcases hg8 : (h_4 == 0) with _ | _
  ·replace hM := ifn (ne_of_beq_false hg8) hM
   refine r_R [none, none, none, vB false, vB false] rfl <| lx_nil <| hK6 _ _ ?_; try clear hK6 K6
   obtain rfl := Option.some.inj hM
   refine A_ret (fun hn => endsV (v0 := vB false) rfl (res1 rfl))
  replace hM := ifp (eq_of_beq hg8) hM
  refine r_R [vP b2 5] rfl <| r_y rfl <| r_l (vI h_5) 0 _ _ _ _ rfl rfl rfl rfl rfl <| r_R [vB (h_5 == 0), vB (h_5 == 0), vB (h_5 == 0)] rfl <| lx_nil <| hK6 _ _ ?_; try clear hK6 K6
  obtain rfl := Option.some.inj hM
  refine A_ret (fun hn => endsV (v0 := vB (h_5 == 0)) rfl (res1 rfl))
 replace hM := ifn (ne_of_beq_false hc5) hM
 refine A_skip <| hK3 _ _ ?_; try clear hK3 K3
 refine A_seq fun K9 hK9 => A_reg <| r_V (vP b2 2) rfl <| r_l (vI h_2) 0 _ _ _ _ rfl rfl rfl rfl rfl ?_
 obtain ⟨r10, hr11, hM⟩ := bind_sm hM
 refine r_c (vB r10) rfl _ _ (ev_callF rfl call_27 rfl) (shape_within_g N h_2 1 64 _ hr11) <| r_V (vB r10) rfl ?_
 rcases hg12 : r10 with _ | _
 ·replace hM := ifn (Bool.eq_false_iff.1 hg12) hM
  refine r_R [none, none, none, none, none, none, none, vB false, vB false, none, none, none, none, none, none, none, none, vB false, vB false, none, none, none, vB false, vB false] rfl <| r_R [none, none, none, vB false, vB false] rfl <| lx_nil <| hK9 _ _ ?_; try clear hK9 K9
  refine A_gen [(2, vB false)] rfl (fun T => ?_)
  obtain rfl := Option.some.inj hM
  refine A_ret (fun hn => endsV (v0 := vB false) rfl (res1 rfl))
 replace hM := ifp hg12 hM
 refine r_R [vP b2 3] rfl <| r_y rfl <| r_l (vI h_3) 0 _ _ _ _ rfl rfl rfl rfl rfl <| r_R [vP b2 1] rfl <| r_y rfl <| r_l h_1v 0 _ _ _ _ rfl rfl rfl rfl rfl <| r_y rfl <| r_W (vI ((h_1).length : Int)) rfl (ev_lenSl rfl rfl rfl (Rd.shp hh_1)) <| r_y rfl ?_
 obtain ⟨ck13, hM⟩ := ck_some hM
 refine r_X (vI (((h_1).length : Int) - 1)) rfl (wi64 rfl ck13.1 ck13.2) rfl <| r_y rfl ?_
 obtain ⟨r14, hr15, hM⟩ := bind_sm hM
 refine r_c (vB r14) rfl _ _ (ev_callF rfl call_27 rfl) (shape_within_g N h_3 0 (((h_1).length : Int) - 1) _ hr15) <| r_R [vB r14, vB r14] rfl ?_
 rcases hg16 : r14 with _ | _
 ·replace hM := ifn (Bool.eq_false_iff.1 hg16) hM
  refine r_R [none, none, none, none, none, none, none, none, vB false, vB false, none, none, none, vB false, vB false, none, none, none, vB false, vB false] rfl <| lx_nil <| hK9 _ _ ?_; try clear hK9 K9
  refine A_gen [(2, vB false)] rfl (fun T => ?_)
  obtain rfl := Option.some.inj hM
  refine A_ret (fun hn => endsV (v0 := vB false) rfl (res1 rfl))
 replace hM := ifp hg16 hM
 refine r_R [vP b2 1] rfl <| r_y rfl <| r_l h_1v 0 _ _ _ _ rfl rfl rfl rfl rfl <| r_R [vP b2 3] rfl <| r_y rfl <| r_l (vI h_3) 0 _ _ _ _ rfl rfl rfl rfl rfl <| r_y rfl ?_
 obtain ⟨ck17, hM⟩ := ck_some hM
 refine r_W (elA h_1v ((h_3).toNat * 2)) rfl (ev_v (ev_idxSl rfl rfl rfl (Rd.shp hh_1) ck17)) <| r_y rfl <| r_W (elA h_1v ((h_3).toNat * 2 + 1)) rfl (ev_v (ev_fieldX rfl rfl rfl rfl rfl rfl (Rd.shp hh_1) (pos_of ck17))) <| r_y rfl <| r_le (vI (((h_1)[(h_3).toNat]!).2)) (En := enc_52) ((h_1)[(h_3).toNat]!) ((h_3).toNat) 1 rfl rfl (rd_ro hh_1) (get_of ck17) rfl <| r_R [vB (decide ((((h_1)[(h_3).toNat]!).2 : Int) ≤ 16)), vB (decide ((((h_1)[(h_3).toNat]!).2 : Int) ≤ 16)), vB (decide ((((h_1)[(h_3).toNat]!).2 : Int) ≤ 16))] rfl ?_
 rcases hg18 : (decide ((((h_1)[(h_3).toNat]!).2 : Int) ≤ 16)) with _ | _
 ·replace hM := ifn (of_decide_eq_false hg18) hM
  refine r_R [none, none, none, vB false, vB false, none, none, none, vB false, vB false] rfl <| lx_nil <| hK9 _ _ ?_; try clear hK9 K9
  refine A_gen [(2, vB false)] rfl (fun T => ?_)
  obtain rfl := Option.some.inj hM
  refine A_ret (fun hn => endsV (v0 := vB false) rfl (res1 rfl))
 replace hM := ifp (of_decide_eq_true hg18) hM
 refine r_R [vP b2 4] rfl <| r_y rfl <| r_l (vI h_4) 0 _ _ _ _ rfl rfl rfl rfl rfl <| r_y rfl ?_
 obtain ⟨r19, hr20, hM⟩ := bind_sm hM
 refine r_c (vB r19) rfl _ _ (ev_callF rfl call_27 rfl) (shape_within_g N h_4 1 64 _ hr20) <| r_R [vB r19, vB r19] rfl ?_
 rcases hg21 : r19 with _ | _
 ·replace hM := ifn (Bool.eq_false_iff.1 hg21) hM
  refine r_R [none, none, none, vB false, vB false] rfl <| lx_nil <| hK9 _ _ ?_; try clear hK9 K9
  refine A_gen [(2, vB false)] rfl (fun T => ?_)
  obtain rfl := Option.some.inj hM
  refine A_ret (fun hn => endsV (v0 := vB false) rfl (res1 rfl))
 replace hM := ifp hg21 hM
 refine r_R [vP b2 5] rfl <| r_y rfl <| r_l (vI h_5) 0 _ _ _ _ rfl rfl rfl rfl rfl <| r_y rfl ?_
 obtain ⟨r22, hr23, hM⟩ := bind_sm hM
 refine r_c (vB r22) rfl _ _ (ev_callF rfl call_27 rfl) (shape_within_g N h_5 0 4096 _ hr23) <| r_R [vB r22, vB r22] rfl <| lx_nil <| hK9 _ _ ?_; try clear hK9 K9
 refine A_gen [(2, vB r22)] rfl (fun T => ?_)
 obtain rfl := Option.some.inj hM
 refine A_ret (fun hn => endsV (v0 := vB r22) rfl (res1 rfl))
def shape_May_v1_m (N : Nat) (h_0 : List UInt8) (h_1 : List (List UInt8 × Int)) (h_2 : Int) (h_3 : Int) (h_4 : Int) (h_5 : Int) : Option Int := (shape_plain_m N h_0).bind fun r5 => if r5 = true then if (((h_1).length : Int) : Int) > 16 then some 2 else if (((h_1).length : Int) : Int) = 0 then some 5 else (shape_mayFields_m N h_1).bind fun r17 => if (r17 : Int) ≠ 0 then some r17 else (shape_width_m N h_1).bind fun r24 => ck (0 ≤ r24 ∧ r24 ≤ 9223372036854775807) (if (r24 % 8 : Int) ≠ 0 then some 9 else (shape_mayVary_v1_m N h_0 h_1 h_2 h_3 h_4 h_5).bind fun r30 => if r30 = true then some 0 else some 7) else some 4
set_option maxRecDepth 100000 in
set_option maxHeartbeats 8000000 in
theorem shape_May_v1_g (N : Nat) (h_0 : List UInt8) (h_1 : List (List UInt8 × Int)) (h_2 : Int) (h_3 : Int) (h_4 : Int) (h_5 : Int) (r) (hM : shape_May_v1_m N h_0 h_1 h_2 h_3 h_4 h_5 = some r) (ro : Addr → Option Value) (h_1v : Value) (hh_1 : Rd enc_52 ro h_1v h_1) : Does Try.prog 22 #[vA #[vS h_0, h_1v, vI h_2, vI h_3, vI h_4, vI h_5]] ro [] (pV (vI r)) := by
 unfold shape_May_v1_m at hM
 refine does_of_A follows Try.func22 rfl 35 rfl (upd (fun _ => undef) 0 (vA #[vS h_0, h_1v, vI h_2, vI h_3, vI h_4, vI h_5])) (by funext k; match k with | 0 => rfl | k + 1 => rfl) (fun base0_ => ?_)
 refine A_sr <| r_a (24, #[vS h_0, h_1v, vI h_2, vI h_3, vI h_4, vI h_5]) rfl rfl rfl (fun b2 => ?_) (.inr rfl)
 refine r_V (vI 0) rfl <| lx_nil <| A_seq fun K3 hK3 => A_block <| A_sr <| r_V (vP b2 0) rfl <| r_l (vS h_0) 0 _ _ _ _ rfl rfl rfl rfl rfl ?_
 obtain ⟨r5, hr6, hM⟩ := bind_sm hM
 refine r_c (vB r5) rfl _ _ (ev_callF rfl call_37 rfl) (shape_plain_g N h_0 _ hr6) <| r_R [vB (!(r5)), vB (!(r5))] rfl <| lx_nil <| A_cond (!(r5)) rfl (fun hc7 => ?_) (fun hc7 => ?_)
 ·replace hM := ifn (Bool.eq_false_iff.1 (not_t hc7)) hM
  refine A_sr <| r_V (vI 4) rfl <| lx_nil ?_
  obtain rfl := Option.some.inj hM
  refine A_ret (fun hn => endsV (v0 := vI 4) rfl (res1 rfl))
 replace hM := ifp (not_f hc7) hM
 refine A_sr <| r_V (vP b2 1) rfl <| r_l h_1v 0 _ _ _ _ rfl rfl rfl rfl rfl <| r_W (vI ((h_1).length : Int)) rfl (ev_lenSl rfl rfl rfl (Rd.shp hh_1)) <| r_R [vB (decide ((((h_1).length : Int) : Int) > 16)), vB (decide ((((h_1).length : Int) : Int) > 16))] rfl <| lx_nil <| A_cond (decide ((((h_1).length : Int) : Int) > 16)) rfl (fun hc10 => ?_) (fun hc10 => ?_)
 ·replace hM := ifp (of_decide_eq_true hc10) hM
  refine A_sr <| r_V (vI 2) rfl <| lx_nil ?_
  obtain rfl := Option.some.inj hM
  refine A_ret (fun hn => endsV (v0 := vI 2) rfl (res1 rfl))
 replace hM := ifn (of_decide_eq_false hc10) hM
 refine A_sr <| r_V (vP b2 1) rfl <| r_l h_1v 0 _ _ _ _ rfl rfl rfl rfl rfl <| r_W (vI ((h_1).length : Int)) rfl (ev_lenSl rfl rfl rfl (Rd.shp hh_1)) <| r_R [vB (((((h_1).length : Int) : Int) == 0)), vB (((((h_1).length : Int) : Int) == 0))] rfl <| lx_nil <| A_cond (((((h_1).length : Int) : Int) == 0)) rfl (fun hc13 => ?_) (fun hc13 => ?_)
 ·replace hM := ifp (eq_of_beq hc13) hM
  refine A_sr <| r_V (vI 5) rfl <| lx_nil ?_
  obtain rfl := Option.some.inj hM
  refine A_ret (fun hn => endsV (v0 := vI 5) rfl (res1 rfl))
 replace hM := ifn (ne_of_beq_false hc13) hM
 refine A_skip <| hK3 _ _ ?_; try clear hK3 K3
 refine A_seq fun K15 hK15 => A_sc [(some 21, false)] (conG Try.prog [(21, fun _ _ v_ L_ U_ => ∀ u0_, shape_mayFields_m N h_1 = some u0_ → (pV (vI u0_)) v_ L_ U_)]) <| r_V (vP b2 1) rfl <| r_l h_1v 0 _ _ _ _ rfl rfl rfl rfl rfl ?_
 obtain ⟨r17, hr18, hM⟩ := bind_sm hM
 refine r_gv (vI r17) 38 _ rfl rfl rfl (ev_callF rfl call_38 rfl) (fun own_ nw_ hs_ => shape_mayFields_g N h_1 _ hr18 hs_.view h_1v ((rd_ro hh_1) own_ nw_ hs_)) (conE hr18) <| r_V (vI r17) rfl <| lx_nil <| A_sr <| r_R [vI r17, vB (r17 != 0)] rfl <| lx_nil <| A_cond (r17 != 0) rfl (fun hc20 => ?_) (fun hc20 => ?_)
 ·replace hM := ifp (bne_iff_ne.1 hc20) hM
  refine A_sr <| r_R [vI r17, vI r17] rfl <| lx_nil ?_
  obtain rfl := Option.some.inj hM
  refine A_ret (fun hn => endsV (v0 := vI r17) rfl (res1 rfl))
 replace hM := ifn (bne_f hc20) hM
 refine A_skip <| hK15 _ _ ?_; try clear hK15 K15
 refine A_seq fun K22 hK22 => A_block <| A_sc [(some 28, false)] (conG Try.prog [(28, fun _ _ v_ L_ U_ => ∀ u0_, shape_width_m N h_1 = some u0_ → (pV (vI u0_)) v_ L_ U_)]) <| r_V (vP b2 1) rfl <| r_l h_1v 0 _ _ _ _ rfl rfl rfl rfl rfl ?_
 obtain ⟨r24, hr25, hM⟩ := bind_sm hM
 refine r_gv (vI r24) 39 _ rfl rfl rfl (ev_callF rfl call_39 rfl) (fun own_ nw_ hs_ => shape_width_g N h_1 _ hr25 hs_.view h_1v ((rd_ro hh_1) own_ nw_ hs_)) (conE hr25) ?_
 obtain ⟨ck26, hM⟩ := ck_some hM
 refine r_X (vI (r24 % 8)) rfl (rem_i64 ck26.1) rfl <| r_R [vB ((r24 % 8 : Int) != 0), vB ((r24 % 8 : Int) != 0)] rfl <| lx_nil <| A_gen [(1, vP b2 0), (25, vB ((r24 % 8 : Int) != 0))] rfl (fun T => ?_)
 refine A_cond ((r24 % 8 : Int) != 0) rfl (fun hc27 => ?_) (fun hc27 => ?_)
 ·replace hM := ifp (bne_iff_ne.1 hc27) hM
  refine A_sr <| r_V (vI 9) rfl <| lx_nil ?_
  obtain rfl := Option.some.inj hM
  refine A_ret (fun hn => endsV (v0 := vI 9) rfl (res1 rfl))
 replace hM := ifn (bne_f hc27) hM
 refine A_sc [(some 33, false)] (conG Try.prog [(33, fun _ _ v_ L_ U_ => ∀ u0_, shape_mayVary_v1_m N h_0 h_1 h_2 h_3 h_4 h_5 = some u0_ → (pV (vB u0_)) v_ L_ U_)]) <| r_l (vA #[vS h_0, h_1v, vI h_2, vI h_3, vI h_4, vI h_5]) 0 _ _ _ _ rfl rfl rfl rfl rfl ?_
 obtain ⟨r30, hr31, hM⟩ := bind_sm hM
 refine r_gv (vB r30) 40 _ rfl rfl rfl (ev_callF rfl call_40 rfl) (fun own_ nw_ hs_ => shape_mayVary_v1_g N h_0 h_1 h_2 h_3 h_4 h_5 _ hr31 hs_.view h_1v ((rd_ro hh_1) own_ nw_ hs_)) (conE hr31) <| r_R [vB (!(r30)), vB (!(r30))] rfl <| lx_nil <| A_cond (!(r30)) rfl (fun hc32 => ?_) (fun hc32 => ?_)
 ·replace hM := ifn (Bool.eq_false_iff.1 (not_t hc32)) hM
  refine A_sr <| r_V (vI 7) rfl <| lx_nil ?_
  obtain rfl := Option.some.inj hM
  refine A_ret (fun hn => endsV (v0 := vI 7) rfl (res1 rfl))
 replace hM := ifp (not_f hc32) hM
 refine A_skip <| hK22 _ _ ?_; try clear hK22 K22
 refine A_sr <| r_V (vI 0) rfl <| lx_nil ?_
 obtain rfl := Option.some.inj hM
 refine A_ret (fun hn => endsV (v0 := vI 0) rfl (res1 rfl))
def shape_Bits_v1_m (N : Nat) (h_0 : List UInt8) (h_1 : List (List UInt8 × Int)) (h_2 : Int) (h_3 : Int) (h_4 : Int) (h_5 : Int) : Option Int := (shape_May_v1_m N h_0 h_1 h_2 h_3 h_4 h_5).bind fun r5 => if (r5 : Int) ≠ 0 then some 0 else (shape_width_m N h_1).bind fun r10 => some r10
set_option maxRecDepth 100000 in
set_option maxHeartbeats 8000000 in
theorem shape_Bits_v1_g (N : Nat) (h_0 : List UInt8) (h_1 : List (List UInt8 × Int)) (h_2 : Int) (h_3 : Int) (h_4 : Int) (h_5 : Int) (r) (hM : shape_Bits_v1_m N h_0 h_1 h_2 h_3 h_4 h_5 = some r) (ro : Addr → Option Value) (h_1v : Value) (hh_1 : Rd enc_52 ro h_1v h_1) : Does Try.prog 24 #[vA #[vS h_0, h_1v, vI h_2, vI h_3, vI h_4, vI h_5]] ro [] (pV (vI r)) := by
 unfold shape_Bits_v1_m at hM
 refine does_of_A follows Try.func24 rfl 9 rfl (upd (fun _ => undef) 0 (vA #[vS h_0, h_1v, vI h_2, vI h_3, vI h_4, vI h_5])) (by funext k; match k with | 0 => rfl | k + 1 => rfl) (fun base0_ => ?_)
 refine A_sr <| r_a (24, #[vS h_0, h_1v, vI h_2, vI h_3, vI h_4, vI h_5]) rfl rfl rfl (fun b2 => ?_) (.inr rfl)
 refine r_V (vI 0) rfl <| lx_nil <| A_seq fun K3 hK3 => A_sc [(some 4, false)] (conG Try.prog [(4, fun _ _ v_ L_ U_ => ∀ u0_, shape_May_v1_m N h_0 h_1 h_2 h_3 h_4 h_5 = some u0_ → (pV (vI u0_)) v_ L_ U_)]) <| r_l (vA #[vS h_0, h_1v, vI h_2, vI h_3, vI h_4, vI h_5]) 0 _ _ _ _ rfl rfl rfl rfl rfl ?_
 obtain ⟨r5, hr6, hM⟩ := bind_sm hM
 refine r_gv (vI r5) 22 _ rfl rfl rfl (ev_callF rfl call_22 rfl) (fun own_ nw_ hs_ => shape_May_v1_g N h_0 h_1 h_2 h_3 h_4 h_5 _ hr6 hs_.view h_1v ((rd_ro hh_1) own_ nw_ hs_)) (conE hr6) <| r_V (vB (r5 != 0)) rfl <| lx_nil <| A_cond (r5 != 0) rfl (fun hc7 => ?_) (fun hc7 => ?_)
 ·replace hM := ifp (bne_iff_ne.1 hc7) hM
  refine A_sr <| r_V (vI 0) rfl <| lx_nil ?_
  obtain rfl := Option.some.inj hM
  refine A_ret (fun hn => endsV (v0 := vI 0) rfl (res1 rfl))
 replace hM := ifn (bne_f hc7) hM
 refine A_skip <| hK3 _ _ ?_; try clear hK3 K3
 refine A_sc [(some 8, false)] (conG Try.prog [(8, fun _ _ v_ L_ U_ => ∀ u0_, shape_width_m N h_1 = some u0_ → (pV (vI u0_)) v_ L_ U_)]) <| r_V (vP b2 1) rfl <| r_l h_1v 0 _ _ _ _ rfl rfl rfl rfl rfl ?_
 obtain ⟨r10, hr11, hM⟩ := bind_sm hM
 refine r_gv (vI r10) 39 _ rfl rfl rfl (ev_callF rfl call_39 rfl) (fun own_ nw_ hs_ => shape_width_g N h_1 _ hr11 hs_.view h_1v ((rd_ro hh_1) own_ nw_ hs_)) (conE hr11) <| r_V (vI r10) rfl <| lx_nil ?_
 obtain rfl := Option.some.inj hM
 refine A_ret (fun hn => endsV (v0 := vI r10) rfl (res1 rfl))
def shape_Bytes_v1_m (N : Nat) (h_0 : List UInt8) (h_1 : List (List UInt8 × Int)) (h_2 : Int) (h_3 : Int) (h_4 : Int) (h_5 : Int) : Option Int := (shape_Bits_v1_m N h_0 h_1 h_2 h_3 h_4 h_5).bind fun r4 => ck (0 ≤ r4 ∧ r4 ≤ 9223372036854775807) (some (r4 / 8))
set_option maxRecDepth 100000 in
set_option maxHeartbeats 8000000 in
theorem shape_Bytes_v1_g (N : Nat) (h_0 : List UInt8) (h_1 : List (List UInt8 × Int)) (h_2 : Int) (h_3 : Int) (h_4 : Int) (h_5 : Int) (r) (hM : shape_Bytes_v1_m N h_0 h_1 h_2 h_3 h_4 h_5 = some r) (ro : Addr → Option Value) (h_1v : Value) (hh_1 : Rd enc_52 ro h_1v h_1) : Does Try.prog 25 #[vA #[vS h_0, h_1v, vI h_2, vI h_3, vI h_4, vI h_5]] ro [] (pV (vI r)) := by
 unfold shape_Bytes_v1_m at hM
 refine does_of_A follows Try.func25 rfl 6 rfl (upd (fun _ => undef) 0 (vA #[vS h_0, h_1v, vI h_2, vI h_3, vI h_4, vI h_5])) (by funext k; match k with | 0 => rfl | k + 1 => rfl) (fun base0_ => ?_)
 refine A_sr <| r_a (24, #[vS h_0, h_1v, vI h_2, vI h_3, vI h_4, vI h_5]) rfl rfl rfl (fun b2 => ?_) (.inr rfl)
 refine r_V (vI 0) rfl <| lx_nil <| A_sc [(some 4, false)] (conG Try.prog [(4, fun _ _ v_ L_ U_ => ∀ u0_, shape_Bits_v1_m N h_0 h_1 h_2 h_3 h_4 h_5 = some u0_ → (pV (vI u0_)) v_ L_ U_)]) <| r_l (vA #[vS h_0, h_1v, vI h_2, vI h_3, vI h_4, vI h_5]) 0 _ _ _ _ rfl rfl rfl rfl rfl ?_
 obtain ⟨r4, hr5, hM⟩ := bind_sm hM
 refine r_gv (vI r4) 24 _ rfl rfl rfl (ev_callF rfl call_24 rfl) (fun own_ nw_ hs_ => shape_Bits_v1_g N h_0 h_1 h_2 h_3 h_4 h_5 _ hr5 hs_.view h_1v ((rd_ro hh_1) own_ nw_ hs_)) (conE hr5) ?_
 obtain ⟨ck6, hM⟩ := ck_some hM
 refine r_X (vI (r4 / 8)) rfl (quo_i64 ck6.1 (by decide) ck6.2) rfl <| r_V (vI (r4 / 8)) rfl <| lx_nil ?_
 obtain rfl := Option.some.inj hM
 refine A_ret (fun hn => endsV (v0 := vI (r4 / 8)) rfl (res1 rfl))
def shunterlaw08_lives_m (N : Nat) : Option Bool := (shape_Offset_v1_m N ([104] : List UInt8) ([(([97] : List UInt8), 4), (([98] : List UInt8), 4), (([99] : List UInt8), 8)]) 0 0 0 0 2).bind fun r8 => (shape_Bytes_v1_m N ([104] : List UInt8) ([(([97] : List UInt8), 4), (([98] : List UInt8), 4), (([99] : List UInt8), 8)]) 0 0 0 0).bind fun r11 => if r11 = 2 then if r8.1 = 8 then if r8.2 = true then (shape_May_v1_m N ([104] : List UInt8) ([(([97] : List UInt8), 4), (([98] : List UInt8), 4), (([99] : List UInt8), 8)]) 0 0 0 0).bind fun r16 => some (r16 == 0) else some false else some false else some false
set_option maxRecDepth 100000 in
set_option maxHeartbeats 8000000 in
theorem shunterlaw08_lives_g (N : Nat) (r) (hM : shunterlaw08_lives_m N = some r) : Gives Try.prog 8 #[] (vB r) := by
 unfold shunterlaw08_lives_m at hM
 refine gives_of_A follows Try.func8 rfl 29 rfl (fun _ => undef) (by funext k; rfl) (fun base0_ => ?_)
 refine A_sr <| r_V (vB false) rfl <| lx_nil <| A_sc [(some 7, false)] (conG Try.prog []) <| r_W (vA #[Value.string (⟨#[97]⟩), vI 4]) rfl (ev_buildS rfl rfl rfl rfl) <| r_W (vA #[Value.string (⟨#[98]⟩), vI 4]) rfl (ev_buildS rfl rfl rfl rfl) <| r_W (vA #[Value.string (⟨#[99]⟩), vI 8]) rfl (ev_buildS rfl rfl rfl rfl) ?_
 refine r_bs (cs0 := []) (Ls := []) 52 enc_52 [(([97] : List UInt8), 4), (([98] : List UInt8), 4), (([99] : List UInt8), 8)] [Value.string (⟨#[97]⟩), vI 4, Value.string (⟨#[98]⟩), vI 4, Value.string (⟨#[99]⟩), vI 8] [Value.string (⟨#[]⟩), vI 0, Value.string (⟨#[]⟩), vI 0, Value.string (⟨#[]⟩), vI 0] rfl rfl rfl rfl rfl rfl rfl (by kernel_rfl) (by kernel_rfl) rfl rfl rfl (fun s3 S4 H5 => ?_)
 refine r_W (vA #[Value.string (⟨#[104]⟩), s3, vI 0, vI 0, vI 0, vI 0]) rfl (ev_buildSC rfl rfl rfl (pc_cons rfl (pc_cons (cells_sl rfl (Sl.shp H5)) pc_nil)) rfl) <| r_a (24, #[Value.string (⟨#[]⟩), nS, vI 0, vI 0, vI 0, vI 0]) rfl rfl rfl (fun b6 => ?_) (.inr rfl)
 refine r_s (List.flatten [(kBa24_4 b6 (Value.string (⟨#[104]⟩)) s3 0 0 0 0), S4]) 0 _ _ _ _ _ (#[Value.string (⟨#[104]⟩), s3, vI 0, vI 0, vI 0, vI 0]) rfl rfl rfl rfl (.ofS rfl rfl (all_cons' rfl (all_cons' (Shp.one (Sl.shp H5)) (all_cons' rfl (all_cons' rfl (all_cons' rfl (all_cons' rfl all_nil'))))))) rfl rfl <| lx_nil <| A_sc [(some 11, false)] (conG Try.prog [(11, fun _ _ v_ L_ U_ => ∀ u0_, shape_Offset_v1_m N ([104] : List UInt8) ([(([97] : List UInt8), 4), (([98] : List UInt8), 4), (([99] : List UInt8), 8)]) 0 0 0 0 2 = some u0_ → (pV (vT #[vI u0_.1, vB u0_.2])) v_ L_ U_)]) ?_
 refine r_l (vA #[Value.string (⟨#[104]⟩), s3, vI 0, vI 0, vI 0, vI 0]) 0 _ _ _ _ rfl rfl rfl rfl rfl ?_
 obtain ⟨r8, hr9, hM⟩ := bind_sm hM
 refine r_gv (vT #[vI r8.1, vB r8.2]) 23 _ rfl rfl rfl (ev_callF rfl call_23 rfl) (fun own_ nw_ hs_ => shape_Offset_v1_g N ([104] : List UInt8) ([(([97] : List UInt8), 4), (([98] : List UInt8), 4), (([99] : List UInt8), 8)]) 0 0 0 0 2 _ hr9 hs_.view s3 ((rd_own H5 (mem_chunk (Ls := [(kBa24_4 b6 (Value.string (⟨#[104]⟩)) s3 0 0 0 0), S4]) (k := 1) rfl rfl)) own_ nw_ hs_)) (conE hr9) <| r_R [vT #[vI r8.1, vB r8.2], vI r8.1, vB r8.2, vI r8.1, vB r8.2] rfl <| lx_nil <| A_seq fun K10 hK10 => ?_
 refine A_regC [(some 15, false), (some 26, false)] (conG Try.prog [(15, fun _ _ v_ L_ U_ => ∀ u0_, shape_Bytes_v1_m N ([104] : List UInt8) ([(([97] : List UInt8), 4), (([98] : List UInt8), 4), (([99] : List UInt8), 8)]) 0 0 0 0 = some u0_ → (pV (vI u0_)) v_ L_ U_), (26, fun _ _ v_ L_ U_ => ∀ u0_, shape_May_v1_m N ([104] : List UInt8) ([(([97] : List UInt8), 4), (([98] : List UInt8), 4), (([99] : List UInt8), 8)]) 0 0 0 0 = some u0_ → (pV (vI u0_)) v_ L_ U_)]) <| r_l (vA #[Value.string (⟨#[104]⟩), s3, vI 0, vI 0, vI 0, vI 0]) 0 _ _ _ _ rfl rfl rfl rfl rfl ?_
 obtain ⟨r11, hr12, hM⟩ := bind_sm hM
 refine r_gv (vI r11) 25 _ rfl rfl rfl (ev_callF rfl call_25 rfl) (fun own_ nw_ hs_ => shape_Bytes_v1_g N ([104] : List UInt8) ([(([97] : List UInt8), 4), (([98] : List UInt8), 4), (([99] : List UInt8), 8)]) 0 0 0 0 _ hr12 hs_.view s3 ((rd_own H5 (mem_chunk (Ls := [(kBa24_4 b6 (Value.string (⟨#[104]⟩)) s3 0 0 0 0), S4]) (k := 1) rfl rfl)) own_ nw_ hs_)) (conE hr12) <| r_R [vB (r11 == 2), vB (r11 == 2)] rfl ?_
 rcases hg13 : (r11 == 2) with _ | _
 ·replace hM := ifn (ne_of_beq_false hg13) hM
  refine r_R [none, none, vB false, vB false, none, vB false, vB false, none, none, none, vB false, vB false] rfl <| lx_nil <| hK10 _ _ ?_; try clear hK10 K10
  refine A_gen [(0, vB false)] rfl (fun T => ?_)
  obtain rfl := Option.some.inj hM
  refine A_ret (fun hn => ends_eq (v0 := vB false) rfl (res1 rfl))
 replace hM := ifp (eq_of_beq hg13) hM
 refine r_R [vI r8.1, vB (r8.1 == 8), vB (r8.1 == 8), vB (r8.1 == 8)] rfl ?_
 rcases hg14 : (r8.1 == 8) with _ | _
 ·replace hM := ifn (ne_of_beq_false hg14) hM
  refine r_R [none, vB false, vB false, none, none, none, vB false, vB false] rfl <| lx_nil <| hK10 _ _ ?_; try clear hK10 K10
  refine A_gen [(0, vB false)] rfl (fun T => ?_)
  obtain rfl := Option.some.inj hM
  refine A_ret (fun hn => ends_eq (v0 := vB false) rfl (res1 rfl))
 replace hM := ifp (eq_of_beq hg14) hM
 refine r_R [vB r8.2, vB r8.2, vB r8.2] rfl ?_
 rcases hg15 : r8.2 with _ | _
 ·replace hM := ifn (Bool.eq_false_iff.1 hg15) hM
  refine r_R [none, none, none, vB false, vB false] rfl <| lx_nil <| hK10 _ _ ?_; try clear hK10 K10
  refine A_gen [(0, vB false)] rfl (fun T => ?_)
  obtain rfl := Option.some.inj hM
  refine A_ret (fun hn => ends_eq (v0 := vB false) rfl (res1 rfl))
 replace hM := ifp hg15 hM
 refine r_y rfl <| r_l (vA #[Value.string (⟨#[104]⟩), s3, vI 0, vI 0, vI 0, vI 0]) 0 _ _ _ _ rfl rfl rfl rfl rfl <| r_y rfl ?_
 obtain ⟨r16, hr17, hM⟩ := bind_sm hM
 refine r_gv (vI r16) 22 _ rfl rfl rfl (ev_callF rfl call_22 rfl) (fun own_ nw_ hs_ => shape_May_v1_g N ([104] : List UInt8) ([(([97] : List UInt8), 4), (([98] : List UInt8), 4), (([99] : List UInt8), 8)]) 0 0 0 0 _ hr17 hs_.view s3 ((rd_own H5 (mem_chunk (Ls := [(kBa24_4 b6 (Value.string (⟨#[104]⟩)) s3 0 0 0 0), S4]) (k := 1) rfl rfl)) own_ nw_ hs_)) (conE hr17) <| r_R [vB (r16 == 0), vB (r16 == 0), vB (r16 == 0)] rfl <| lx_nil <| hK10 _ _ ?_; try clear hK10 K10
 refine A_gen [(0, vB (r16 == 0))] rfl (fun T => ?_)
 obtain rfl := Option.some.inj hM
 refine A_ret (fun hn => ends_eq (v0 := vB (r16 == 0)) rfl (res1 rfl))
def shunterref08_Slots_k9 (i2_ : Int) (out6_ : List (Int × Int)) (k7_ : Int) (rec_shunterref08_Slots_l8 : List (Int × Int) → Int → Option (List (Int × Int))) : Option (List (Int × Int)) := ck ((out6_).length + ([(i2_, k7_)]).length ≤ 8796093022208) (ck (-9223372036854775808 ≤ (k7_ + 1) ∧ (k7_ + 1) ≤ 9223372036854775807) (rec_shunterref08_Slots_l8 (out6_ ++ ([(i2_, k7_)])) (k7_ + 1)))
def shunterref08_Slots_l8 (i2_ : Int) (rec_shunterref08_Slots_l3 : List (Int × Int) → Int → Option (List (Int × Int))) (n4_ : Int) : Nat → List (Int × Int) → Int → Option (List (Int × Int))
  | 0, _, _ => none
  | n13 + 1, out6_, k7_ => if k7_ < n4_ then if n4_ ≤ 4 then shunterref08_Slots_k9 i2_ out6_ k7_ (shunterref08_Slots_l8 i2_ rec_shunterref08_Slots_l3 n4_ n13)  else ck (-9223372036854775808 ≤ (i2_ + 1) ∧ (i2_ + 1) ≤ 9223372036854775807) (rec_shunterref08_Slots_l3 out6_ (i2_ + 1)) else ck (-9223372036854775808 ≤ (i2_ + 1) ∧ (i2_ + 1) ≤ 9223372036854775807) (rec_shunterref08_Slots_l3 out6_ (i2_ + 1))
def shunterref08_Slots_k5 (N : Nat) (out1_ : List (Int × Int)) (i2_ : Int) (rec_shunterref08_Slots_l3 : List (Int × Int) → Int → Option (List (Int × Int))) (n4_ : Int) : Option (List (Int × Int)) := shunterref08_Slots_l8 i2_ rec_shunterref08_Slots_l3 n4_ N out1_ 0
def shunterref08_Slots_l3 (N : Nat) (l' : List (List UInt8 × Int × Int)) : Nat → List (Int × Int) → Int → Option (List (Int × Int))
  | 0, _, _ => none
  | n5 + 1, out1_, i2_ => if i2_ < ((l').length : Int) then ck (0 ≤ i2_ ∧ i2_ < ((l').length : Int)) (if (((l')[(i2_).toNat]!).2.2 : Int) = 0 then shunterref08_Slots_k5 N out1_ i2_ (shunterref08_Slots_l3 N l' n5) 1 else shunterref08_Slots_k5 N out1_ i2_ (shunterref08_Slots_l3 N l' n5) (((l')[(i2_).toNat]!).2.2)) else some out1_
def shunterref08_Slots_m (N : Nat) (l' : List (List UInt8 × Int × Int)) : Option (List (Int × Int)) := shunterref08_Slots_l3 N l' N ([]) 0
set_option maxRecDepth 100000 in
set_option maxHeartbeats 8000000 in
theorem shunterref08_Slots_g (N : Nat) (l' : List (List UInt8 × Int × Int)) (r) (hM : shunterref08_Slots_m N l' = some r) (ro : Addr → Option Value) (l'v : Value) (hl' : Rd enc_44 ro l'v l') : Does Try.prog 13 #[l'v] ro [] (p1 (fun s_ => s_) 45 enc_45 r) := by
 unfold shunterref08_Slots_m at hM
 refine does_of_A follows Try.func13 rfl 36 rfl (upd (fun _ => undef) 0 l'v) (by funext k; match k with | 0 => rfl | k + 1 => rfl) (fun base0_ => ?_)
 refine A_sr <| r_V nS rfl <| lx_nil <| A_sr <| r_V nS rfl <| lx_nil <| A_seq fun K3 hK3 => A_sr <| r_V (vI 0) rfl <| lx_nil <| A_block <| A_forget _ (Sub.pickE (Ls := [[]]) (Ls0 := []) rfl [0] rfl) <| A_loop (fun tt ll nn => ∃ (n5 : Nat) (out1_ : List (Int × Int)) (i2_ : Int), (shunterref08_Slots_l3 N l' n5 out1_ i2_ = some r) ∧ ∃ (vout1_ : Value) (Sout1_ : List Bl), Sl 45 enc_45 vout1_ out1_ Sout1_ ∧ Is [(0, l'v), (3, vout1_), (4, vI i2_)] (List.flatten [Sout1_]) tt ll ∧ nn = n5 + 1) (N + 1) ?_ ?_
 ·exact ⟨N, [], 0, hM, nS, [], Sl.nil, is_mk rfl rfl, rfl⟩
 clear hM; rintro t l _ ⟨n5, out1_, i2_, hM, vout1_, Sout1_, hout1_, ⟨⟨T, rfl⟩, rfl⟩, rfl⟩
 rcases n5 with _ | n5
 ·exact absurd hM (by simp [shunterref08_Slots_l3])
 rw [shunterref08_Slots_l3] at hM
 refine A_seq fun K6 hK6 => A_sr <| r_R [vI i2_, l'v] rfl <| r_W (vI ((l').length : Int)) rfl (ev_lenSl rfl rfl rfl (Rd.shp hl')) <| r_V (vB (decide (i2_ < ((l').length : Int)))) rfl <| lx_nil <| A_cond (decide (i2_ < ((l').length : Int))) rfl (fun hc8 => ?_) (fun hc8 => ?_)
 ·replace hM := ifp (of_decide_eq_true hc8) hM
  refine A_skip <| hK6 _ _ ?_; try clear hK6 K6
  refine A_seq fun K9 hK9 => A_block <| A_sr <| r_R [l'v, vI i2_] rfl ?_
  obtain ⟨ck11, hM⟩ := ck_some hM
  refine r_W (elA l'v ((i2_).toNat * 3)) rfl (ev_v (ev_idxSl rfl rfl rfl (Rd.shp hl') ck11)) <| r_W (elA l'v ((i2_).toNat * 3 + 2)) rfl (ev_v (ev_fieldX rfl rfl rfl rfl rfl rfl (Rd.shp hl') (pos_of ck11))) <| r_le (vI (((l')[(i2_).toNat]!).2.2)) (En := enc_44) ((l')[(i2_).toNat]!) ((i2_).toNat) 2 rfl rfl (rd_ro hl') (get_of ck11) rfl <| r_V (vI (((l')[(i2_).toNat]!).2.2)) rfl <| lx_nil <| A_cut (fun tt ll => ∃ (n4_ : Int), (shunterref08_Slots_k5 N out1_ i2_ (shunterref08_Slots_l3 N l' n5) n4_ = some r) ∧ Is [(0, l'v), (3, vout1_), (4, vI i2_), (5, vI n4_)] (List.flatten [Sout1_]) tt ll) ?_ ?_
  ·refine A_sr <| r_R [vI (((l')[(i2_).toNat]!).2.2), vB (((((l')[(i2_).toNat]!).2.2 : Int) == 0))] rfl <| lx_nil <| A_cond (((((l')[(i2_).toNat]!).2.2 : Int) == 0)) rfl (fun hc29 => ?_) (fun hc29 => ?_)
   ·replace hM := ifp (eq_of_beq hc29) hM
    refine A_reg <| r_V (vI 1) rfl <| lx_nil <| fg _ (Sub.pick [Sout1_] [0] rfl) ?_
    exact ⟨1, hM, is_mk rfl rfl⟩
   replace hM := ifn (ne_of_beq_false hc29) hM
   refine A_skip <| fg _ (Sub.pick [Sout1_] [0] rfl) ?_
   exact ⟨((l')[(i2_).toNat]!).2.2, hM, is_mk rfl rfl⟩
  clear hM; rintro t l ⟨n4_, hM, ⟨T, rfl⟩, rfl⟩
  unfold shunterref08_Slots_k5 at hM
  refine A_sr <| r_V (vI 0) rfl <| lx_nil <| A_block <| A_forget _ (Sub.pick [Sout1_] [0] rfl) <| A_loop (fun tt ll nn => ∃ (n13 : Nat) (out6_ : List (Int × Int)) (k7_ : Int), (shunterref08_Slots_l8 i2_ (shunterref08_Slots_l3 N l' n5) n4_ n13 out6_ k7_ = some r) ∧ ∃ (vout6_ : Value) (Sout6_ : List Bl), Sl 45 enc_45 vout6_ out6_ Sout6_ ∧ Is [(0, l'v), (3, vout6_), (4, vI i2_), (5, vI n4_), (6, vI k7_)] (List.flatten [Sout6_]) tt ll ∧ nn = n13 + 1) (N + 1) ?_ ?_
  ·exact ⟨N, out1_, 0, hM, vout1_, Sout1_, hout1_, is_mk rfl rfl, rfl⟩
  clear hM; rintro t l _ ⟨n13, out6_, k7_, hM, vout6_, Sout6_, hout6_, ⟨⟨T, rfl⟩, rfl⟩, rfl⟩
  rcases n13 with _ | n13
  ·exact absurd hM (by simp [shunterref08_Slots_l8])
  rw [shunterref08_Slots_l8] at hM
  refine A_cut (fun tt ll => (shunterref08_Slots_k9 i2_ out6_ k7_ (shunterref08_Slots_l8 i2_ (shunterref08_Slots_l3 N l' n5) n4_ n13)  = some r) ∧ Is [(0, l'v), (3, vout6_), (4, vI i2_), (5, vI n4_), (6, vI k7_)] (List.flatten [Sout6_]) tt ll) ?_ ?_
  ·refine A_seq fun K23 hK23 => A_reg <| r_R [vI k7_, vI n4_, vB (decide (k7_ < n4_)), vB (decide (k7_ < n4_))] rfl ?_
   rcases hg24 : (decide (k7_ < n4_)) with _ | _
   ·replace hM := ifn (of_decide_eq_false hg24) hM
    refine r_R [none, none, vB false] rfl <| lx_nil <| hK23 _ _ ?_; try clear hK23 K23
    refine A_cond false rfl (fun h_ => nomatch h_) (fun _ => ?_)
    refine A_exit <| hK9 _ _ ?_; try clear hK9 K9
    refine A_reg <| r_V (vI i2_) rfl ?_
    obtain ⟨ck25, hM⟩ := ck_some hM
    refine r_X (vI (i2_ + 1)) rfl (wi64 rfl ck25.1 ck25.2) rfl <| r_V (vI (i2_ + 1)) rfl <| lx_nil <| fg _ (Sub.pick [Sout6_] [0] rfl) ?_
    exact ⟨n5 + 1, by omega, n5, out6_, (i2_ + 1), hM, vout6_, Sout6_, hout6_, is_mk (by first | rfl | (simp only [hg24]; done) | (simp only [hg24]; rfl) | (simp only [app_hl]; rfl)) rfl, rfl⟩
   replace hM := ifp (of_decide_eq_true hg24) hM
   refine r_R [vI n4_, vB (decide (n4_ ≤ 4)), vB (decide (n4_ ≤ 4))] rfl <| lx_nil <| hK23 _ _ ?_; try clear hK23 K23
   refine A_cond (decide (n4_ ≤ 4)) rfl (fun hc26 => ?_) (fun hc26 => ?_)
   ·replace hM := ifp (of_decide_eq_true hc26) hM
    refine A_skip <| fg _ (Sub.pick [Sout6_] [0] rfl) ?_
    exact ⟨hM, is_mk rfl rfl⟩
   replace hM := ifn (of_decide_eq_false hc26) hM
   refine A_exit <| hK9 _ _ ?_; try clear hK9 K9
   refine A_reg <| r_V (vI i2_) rfl ?_
   obtain ⟨ck27, hM⟩ := ck_some hM
   refine r_X (vI (i2_ + 1)) rfl (wi64 rfl ck27.1 ck27.2) rfl <| r_V (vI (i2_ + 1)) rfl <| lx_nil <| fg _ (Sub.pick [Sout6_] [0] rfl) ?_
   exact ⟨n5 + 1, by omega, n5, out6_, (i2_ + 1), hM, vout6_, Sout6_, hout6_, is_mk (by first | rfl | (simp only [hg24]; done) | (simp only [hg24]; rfl) | (simp only [app_hl]; rfl)) rfl, rfl⟩
  clear hM; rintro t l ⟨hM, ⟨T, rfl⟩, rfl⟩
  unfold shunterref08_Slots_k9 at hM
  refine A_seq fun K14 hK14 => A_block <| A_regC [(some 33, false), (some 34, true)] (conG Try.prog []) <| r_R [vout6_, vI i2_, vI k7_] rfl <| r_W (vA #[vI i2_, vI k7_]) rfl (ev_buildA rfl rfl rfl rfl) <| r_bs (cs0 := []) (Ls := [Sout6_]) 45 enc_45 [(i2_, k7_)] [vI i2_, vI k7_] [vI 0, vI 0] rfl rfl rfl rfl rfl rfl rfl (by kernel_rfl) (by kernel_rfl) rfl rfl rfl (fun s15 S16 H17 => ?_)
  obtain ⟨ck18, hM⟩ := ck_some hM
  refine r_app (cs0 := []) (Ls := [Sout6_, S16]) 0 (En := enc_45) rfl rfl rfl rfl rfl hout6_ rfl (rd_own H17 (mem_chunk (Ls := [Sout6_, S16]) (k := 1) rfl rfl)) rfl rfl rfl rfl rfl (app_b ck18 rfl) (app_m ck18 rfl) rfl (fun s19 S20 H21 => ?_)
  refine r_V s19 rfl <| lx_nil <| hK14 _ _ ?_; try clear hK14 K14
  refine A_reg <| r_V (vI k7_) rfl ?_
  obtain ⟨ck22, hM⟩ := ck_some hM
  refine r_X (vI (k7_ + 1)) rfl (wi64 rfl ck22.1 ck22.2) rfl <| r_V (vI (k7_ + 1)) rfl <| lx_nil <| fg _ (Sub.pick [S20, S16] [0] rfl) ?_
  exact ⟨n13 + 1, by omega, n13, (out6_ ++ ([(i2_, k7_)])), (k7_ + 1), hM, s19, S20, H21, is_mk rfl rfl, rfl⟩
 replace hM := ifn (of_decide_eq_false hc8) hM
 refine A_exit <| hK3 _ _ ?_; try clear hK3 K3
 refine A_sr <| r_R [vout1_, vout1_] rfl <| lx_nil ?_
 obtain rfl := Option.some.inj hM
 refine A_ret (fun hn => ends1 (v0 := vout1_) hout1_ (sub_one (Sub.pick [Sout1_] [0] rfl)) rfl (res1 rfl))
def shape_instNames_1_v1_m (_ : Nat) (i : Int) (c1_ : List (List UInt8 × Int × Int)) : Option (List UInt8) := ck (0 ≤ i ∧ i < ((c1_).length : Int)) (some (((c1_)[(i).toNat]!).1))
set_option maxRecDepth 100000 in
set_option maxHeartbeats 8000000 in
theorem shape_instNames_1_v1_g (N : Nat) (i : Int) (c1_ : List (List UInt8 × Int × Int)) (r) (hM : shape_instNames_1_v1_m N i c1_ = some r) (ro : Addr → Option Value) (bc1_ : Nat) (c1_v : Value) (hc1_ : Rd enc_44 ro c1_v c1_) (hbc1_ : Blk ro bc1_ [c1_v]) : Does Try.prog 43 #[vI i, vP bc1_ 0] ro [] (pV (vS r)) := by
 unfold shape_instNames_1_v1_m at hM
 refine does_of_A follows Try.func43 rfl 9 rfl (upd (upd (fun _ => undef) 1 (vP bc1_ 0)) 0 (vI i)) (by funext k; match k with | 0 => rfl | 1 => rfl | k + 2 => rfl) (fun base0_ => ?_)
 refine A_sr <| r_V (Value.string (⟨#[]⟩)) rfl <| lx_nil <| A_sr <| r_lb c1_v (vs := [c1_v]) (o := 0) rfl rfl (blk_ro hbc1_) rfl <| r_V (vI i) rfl ?_
 obtain ⟨ck3, hM⟩ := ck_some hM
 refine r_W (elA c1_v ((i).toNat * 3)) rfl (ev_v (ev_idxSl rfl rfl rfl (Rd.shp hc1_) ck3)) <| r_W (elA c1_v ((i).toNat * 3 + 0)) rfl (ev_v (ev_fieldX rfl rfl rfl rfl rfl rfl (Rd.shp hc1_) (pos_of ck3))) <| r_le (vS (((c1_)[(i).toNat]!).1)) (En := enc_44) ((c1_)[(i).toNat]!) ((i).toNat) 0 rfl rfl (rd_ro hc1_) (get_of ck3) rfl <| r_V (vS (((c1_)[(i).toNat]!).1)) rfl <| lx_nil ?_
 obtain rfl := Option.some.inj hM
 refine A_ret (fun hn => endsV (v0 := vS (((c1_)[(i).toNat]!).1)) rfl (res1 rfl))
def shape_gather_v2_l3 (N : Nat) (count : Int) (at0_ : List (List UInt8 × Int × Int)) : Nat → List (List UInt8) → Int → Option (List (List UInt8))
  | 0, _, _ => none
  | n9 + 1, s1_, x2_ => if x2_ < count then (shape_instNames_1_v1_m N x2_ at0_).bind fun r15 => ck (0 ≤ x2_ ∧ x2_ < ((s1_).length : Int)) (ck (-9223372036854775808 ≤ (x2_ + 1) ∧ (x2_ + 1) ≤ 9223372036854775807) ((shape_gather_v2_l3 N count at0_ n9) ((s1_).set ((x2_).toNat) r15) (x2_ + 1))) else some s1_
def shape_gather_v2_m (N : Nat) (count : Int) (at0_ : List (List UInt8 × Int × Int)) : Option (List (List UInt8)) := ck (0 ≤ count ∧ count ≤ 8796093022208) (shape_gather_v2_l3 N count at0_ N (List.replicate (count).toNat ([])) 0)
set_option maxRecDepth 100000 in
set_option maxHeartbeats 8000000 in
theorem shape_gather_v2_g (N : Nat) (count : Int) (at0_ : List (List UInt8 × Int × Int)) (r) (hM : shape_gather_v2_m N count at0_ = some r) (ro : Addr → Option Value) (bat0_ : Nat) (at0_v : Value) (hat0_ : Rd enc_44 ro at0_v at0_) (hbat0_ : Blk ro bat0_ [at0_v]) : Does Try.prog 42 #[vI count, Value.func (.func 43) #[] #[vP bat0_ 0]] ro [] (p1 (fun s_ => s_) 9 encS r) := by
 unfold shape_gather_v2_m at hM
 refine does_of_A follows Try.func42 rfl 21 rfl (upd (upd (fun _ => undef) 1 (Value.func (.func 43) #[] #[vP bat0_ 0])) 0 (vI count)) (by funext k; match k with | 0 => rfl | 1 => rfl | k + 2 => rfl) (fun base0_ => ?_)
 refine A_sr <| r_V nS rfl <| lx_nil <| A_sc [(some 8, false)] (conG Try.prog [(8, fun _ _ v_ L_ U_ => (p1 (fun v => v) 9 encS (List.replicate (count).toNat ([]))) v_ L_ U_)]) <| r_V (vI count) rfl ?_
 obtain ⟨ck3, hM⟩ := ck_some hM
 refine r_mk (Ls := []) 9 encS ([]) count rfl rfl rfl rfl rfl rfl rfl rfl rfl rfl 8796093022208 rfl ck3 (fun _ _ _ _ _ => Iff.rfl) (fun s4 S5 H6 => ?_)
 refine r_V s4 rfl <| lx_nil <| A_seq fun K7 hK7 => A_sr <| r_R [vI count, vI 0] rfl <| lx_nil <| A_block <| A_forget _ (Sub.pick [S5] [0] rfl) <| A_loop (fun tt ll nn => ∃ (n9 : Nat) (s1_ : List (List UInt8)) (x2_ : Int), (shape_gather_v2_l3 N count at0_ n9 s1_ x2_ = some r) ∧ ∃ (Ss1_ : List Bl), Sl 9 encS s4 s1_ Ss1_ ∧ Is [(1, Value.func (.func 43) #[] #[vP bat0_ 0]), (5, s4), (9, vI count), (10, vI x2_)] (List.flatten [Ss1_]) tt ll ∧ nn = n9 + 1) (N + 1) ?_ ?_
 ·exact ⟨N, (List.replicate (count).toNat ([])), 0, hM, S5, H6, is_mk rfl rfl, rfl⟩
 clear hM; rintro t l _ ⟨n9, s1_, x2_, hM, Ss1_, hs1_, ⟨⟨T, rfl⟩, rfl⟩, rfl⟩
 rcases n9 with _ | n9
 ·exact absurd hM (by simp [shape_gather_v2_l3])
 rw [shape_gather_v2_l3] at hM
 refine A_sr <| r_V (vB (decide (x2_ < count))) rfl <| lx_nil <| A_seq fun K11 hK11 => A_cond (decide (x2_ < count)) rfl (fun hc12 => ?_) (fun hc12 => ?_)
 ·replace hM := ifp (of_decide_eq_true hc12) hM
  refine A_skip <| hK11 _ _ ?_; try clear hK11 K11
  refine A_seq fun K13 hK13 => A_block <| A_sr <| r_R [vI x2_, vI x2_] rfl <| lx_nil <| A_regC [(some 17, false)] (conG Try.prog [(17, fun _ _ v_ L_ U_ => ∀ u0_, shape_instNames_1_v1_m N x2_ at0_ = some u0_ → (pV (vS u0_)) v_ L_ U_)]) <| r_R [s4, vI x2_, Value.func (.func 43) #[] #[vP bat0_ 0], vI x2_] rfl ?_
  obtain ⟨r15, hr16, hM⟩ := bind_sm hM
  refine r_gv (vS r15) 43 _ rfl rfl rfl (ev_callV (caps := [vP bat0_ 0]) rfl call_43 rfl) (fun own_ nw_ hs_ => shape_instNames_1_v1_g N x2_ at0_ _ hr16 hs_.view bat0_ at0_v ((rd_ro hat0_) own_ nw_ hs_) (blk_ro hbat0_ own_ nw_ hs_)) (conE hr16) ?_
  obtain ⟨ck17, hM⟩ := ck_some hM
  refine r_W (elA s4 ((x2_).toNat * 1)) rfl (ev_v (ev_idxSl rfl rfl rfl (Sl.shp hs1_) ck17)) <| r_se (Ls := [Ss1_]) 0 (En := encS) ((s1_)[(x2_).toNat]!) r15 ((x2_).toNat) 0 rfl rfl rfl hs1_ (get_of ck17) rfl rfl rfl (one_all rfl) rfl (fun S18 H19 => ?_)
  refine lx_nil <| hK13 _ _ ?_; try clear hK13 K13
  refine A_reg ?_
  obtain ⟨ck20, hM⟩ := ck_some hM
  refine r_X (vI (x2_ + 1)) rfl (wi64 rfl ck20.1 ck20.2) rfl <| r_V (vI (x2_ + 1)) rfl <| lx_nil <| fg _ (Sub.pick [S18] [0] rfl) ?_
  exact ⟨n9 + 1, by omega, n9, (s1_).set ((x2_).toNat) r15, (x2_ + 1), hM, S18, H19, is_mk rfl rfl, rfl⟩
 replace hM := ifn (of_decide_eq_false hc12) hM
 refine A_exit <| hK7 _ _ ?_; try clear hK7 K7
 refine A_sr <| r_R [s4, s4] rfl <| lx_nil ?_
 obtain rfl := Option.some.inj hM
 refine A_ret (fun hn => ends1 (v0 := s4) hs1_ (sub_one (Sub.pick [Ss1_] [0] rfl)) rfl (res1 rfl))
def shape_instNames_m (N : Nat) (l' : List (List UInt8 × Int × Int)) : Option (List (List UInt8)) := (shape_gather_v2_m N ((l').length : Int) l').bind fun r4 => some r4
set_option maxRecDepth 100000 in
set_option maxHeartbeats 8000000 in
theorem shape_instNames_g (N : Nat) (l' : List (List UInt8 × Int × Int)) (r) (hM : shape_instNames_m N l' = some r) (ro : Addr → Option Value) (l'v : Value) (hl' : Rd enc_44 ro l'v l') : Does Try.prog 29 #[l'v] ro [] (p1 (fun s_ => s_) 9 encS r) := by
 unfold shape_instNames_m at hM
 refine does_of_A follows Try.func29 rfl 7 rfl (upd (fun _ => undef) 0 l'v) (by funext k; match k with | 0 => rfl | k + 1 => rfl) (fun base0_ => ?_)
 refine A_sr <| r_a (33, #[l'v]) rfl rfl (alloc_sl rfl (Rd.shp hl')) (fun b2 => ?_) (.inr rfl)
 refine r_V nS rfl <| lx_nil <| A_sc [(some 6, false)] (conG Try.prog [(6, fun _ _ v_ L_ U_ => ∀ u0_, shape_gather_v2_m N ((l').length : Int) l' = some u0_ → (p1 (fun s_ => s_) 9 encS u0_) v_ L_ U_)]) <| r_l l'v 0 _ _ _ _ rfl rfl rfl rfl rfl <| r_W (vI ((l').length : Int)) rfl (ev_lenSl rfl rfl rfl (Rd.shp hl')) <| r_W (Value.func (.func 43) #[] #[vP b2 0]) rfl (ev_mkF rfl) ?_
 obtain ⟨r4, hr5, hM⟩ := bind_sm hM
 refine r_g1 (Ls := [(kBa33_5 b2 l'v)]) (fun s6 => s6) 9 encS r4 42 _ rfl rfl rfl (ev_callF rfl call_42 rfl) (fun own_ nw_ hs_ => shape_gather_v2_g N ((l').length : Int) l' _ hr5 hs_.view b2 l'v ((rd_ro hl') own_ nw_ hs_) (blk_own 0 rfl rfl own_ nw_ hs_)) (conE hr5) (fun s6 S7 H8 => ?_)
 refine r_V s6 rfl <| lx_nil ?_
 obtain rfl := Option.some.inj hM
 refine A_ret (fun hn => ends1 (v0 := s6) H8 (sub_one (Sub.pick [(kBa33_5 b2 l'v), S7] [1] rfl)) rfl (res1 rfl))
def shape_mayDepth_m (N : Nat) (_ : List UInt8) (_ : Int) (x_2 : Int) : Option Bool := (shape_within_m N x_2 0 4).bind fun r4 => some r4
set_option maxRecDepth 100000 in
set_option maxHeartbeats 8000000 in
theorem shape_mayDepth_g (N : Nat) (x_0 : List UInt8) (x_1 x_2 : Int) (r) (hM : shape_mayDepth_m N x_0 x_1 x_2 = some r) : Gives Try.prog 31 #[vA #[vS x_0, vI x_1, vI x_2]] (vB r) := by
 unfold shape_mayDepth_m at hM
 refine gives_of_A follows Try.func31 rfl 6 rfl (upd (fun _ => undef) 0 (vA #[vS x_0, vI x_1, vI x_2])) (by funext k; match k with | 0 => rfl | k + 1 => rfl) (fun base0_ => ?_)
 refine A_sr <| r_a (44, #[vS x_0, vI x_1, vI x_2]) rfl rfl rfl (fun b2 => ?_) (.inr rfl)
 refine r_V (vB false) rfl <| lx_nil <| A_sr <| r_V (vP b2 2) rfl <| r_l (vI x_2) 0 _ _ _ _ rfl rfl rfl rfl rfl ?_
 obtain ⟨r4, hr5, hM⟩ := bind_sm hM
 refine r_c (vB r4) rfl _ _ (ev_callF rfl call_27 rfl) (shape_within_g N x_2 0 4 _ hr5) <| r_V (vB r4) rfl <| lx_nil ?_
 obtain rfl := Option.some.inj hM
 refine A_ret (fun hn => ends_eq (v0 := vB r4) rfl (res1 rfl))
def shape_slotsOf_m (N : Nat) (x_0 : List UInt8) (x_1 : Int) (x_2 : Int) : Option Int := (shape_mayDepth_m N x_0 x_1 x_2).bind fun r5 => if r5 = true then some (max x_2 1) else some 0
set_option maxRecDepth 100000 in
set_option maxHeartbeats 8000000 in
theorem shape_slotsOf_g (N : Nat) (x_0 : List UInt8) (x_1 x_2 r : Int) (hM : shape_slotsOf_m N x_0 x_1 x_2 = some r) : Gives Try.prog 32 #[vA #[vS x_0, vI x_1, vI x_2]] (vI r) := by
 unfold shape_slotsOf_m at hM
 refine gives_of_A follows Try.func32 rfl 9 rfl (upd (fun _ => undef) 0 (vA #[vS x_0, vI x_1, vI x_2])) (by funext k; match k with | 0 => rfl | k + 1 => rfl) (fun base0_ => ?_)
 refine A_sr <| r_a (44, #[vS x_0, vI x_1, vI x_2]) rfl rfl rfl (fun b2 => ?_) (.inr rfl)
 refine r_V (vI 0) rfl <| lx_nil <| A_seq fun K3 hK3 => A_sr <| r_l (vA #[vS x_0, vI x_1, vI x_2]) 0 _ _ _ _ rfl rfl rfl rfl rfl ?_
 obtain ⟨r5, hr6, hM⟩ := bind_sm hM
 refine r_c (vB r5) rfl _ _ (ev_callF rfl call_31 rfl) (shape_mayDepth_g N x_0 x_1 x_2 _ hr6) <| r_V (vB (!(r5))) rfl <| lx_nil <| A_cond (!(r5)) rfl (fun hc7 => ?_) (fun hc7 => ?_)
 ·replace hM := ifn (Bool.eq_false_iff.1 (not_t hc7)) hM
  refine A_sr <| r_V (vI 0) rfl <| lx_nil ?_
  obtain rfl := Option.some.inj hM
  refine A_ret (fun hn => ends_eq (v0 := vI 0) rfl (res1 rfl))
 replace hM := ifp (not_f hc7) hM
 refine A_skip <| hK3 _ _ ?_; try clear hK3 K3
 refine A_sr <| r_V (vP b2 2) rfl <| r_l (vI x_2) 0 _ _ _ _ rfl rfl rfl rfl rfl <| r_W (vI (max x_2 1)) rfl (ev_max rfl rfl) <| r_V (vI (max x_2 1)) rfl <| lx_nil ?_
 obtain rfl := Option.some.inj hM
 refine A_ret (fun hn => ends_eq (v0 := vI (max x_2 1)) rfl (res1 rfl))
end Go.Proofs.Ytdmakhnmfnkcmaa
