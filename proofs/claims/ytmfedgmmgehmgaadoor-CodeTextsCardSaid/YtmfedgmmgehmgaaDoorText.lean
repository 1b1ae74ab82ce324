/- models of functions and their walks -/
import Derived.Test.YtmfedgmmgehmgaaDoorPaQ
import Derived.Test.YtmfedgmmgehmgaaDoorHv
namespace Go.Proofs.YtmfedgmmgehmgaaDoor
open Go Go.RowKit Go.Eng
def textI (b : Int) (x : BitVec 128) : List UInt8 := if 2 ≤ b ∧ b ≤ 16 then textL b.toNat 128 x.toNat else []
set_option maxRecDepth 100000 in
set_option maxHeartbeats 400000 in
theorem textx_g (x : BitVec 128) (b : Int) (hb : ¬ (2 ≤ b ∧ b ≤ 16)) : Gives Tryd.prog 51 #[Value.agg #[U (hi (x)), U (lo (x))], Value.int .i64 (b)] (Value.string (⟨([]).toArray⟩)) := by
  refine gives_of_A follows Tryd.func51 rfl 34 rfl (upd (upd (fun _ => undef) 1 (Value.int .i64 (b))) 0 (Value.agg #[U (hi (x)), U (lo (x))])) (by funext k; match k with | 0 => rfl | 1 => rfl | k + 2 => rfl) (fun base => ?_)
  refine A_seq fun K1 hK1 => ?_
  refine A_reg ?_
  refine r_a (118, #[U (hi (x)), U (lo (x))]) rfl rfl rfl (fun b2 => ?_) (.inr rfl)
  refine r_v (Value.string (⟨#[]⟩)) rfl rfl rfl rfl ?_
  refine lx_nil ?_
  refine hK1 _ _ ?_; try clear hK1 K1
  refine A_seq fun K3 hK3 => ?_
  refine A_seq fun K4 hK4 => ?_
  refine A_reg ?_
  refine r_v (Value.int .i64 (b)) rfl rfl rfl rfl ?_
  refine r_c (Value.bool (decide (b ≥ 2) && decide (b ≤ 16))) rfl _ _ (ev_callF rfl call_59 rfl) (mayBase_g (b)) ?_
  refine r_v (Value.bool (!(decide (b ≥ 2) && decide (b ≤ 16)))) rfl rfl rfl rfl ?_
  refine lx_nil ?_
  refine hK4 _ _ ?_; try clear hK4 K4
  refine A_cond (!(decide (b ≥ 2) && decide (b ≤ 16))) rfl (fun _ => ?_) (fun h_ => absurd (h_.symm.trans (show (!(decide (b ≥ 2) && decide (b ≤ 16))) = true by simp only [Bool.not_eq_true', Bool.and_eq_false_iff, decide_eq_false_iff_not]; omega)) (by decide))
  refine A_seq fun K6 hK6 => ?_
  refine A_reg ?_
  refine r_v (Value.string (⟨#[]⟩)) rfl rfl rfl rfl ?_
  refine lx_nil ?_
  refine hK6 _ _ ?_; try clear hK6 K6
  refine A_ret (fun hn => ends_eq (v0 := Value.string (⟨#[]⟩)) (by simp []) (res1 rfl))
theorem text_t (x : BitVec 128) (b : Int) : Gives Tryd.prog 51 #[Value.agg #[U (hi (x)), U (lo (x))], Value.int .i64 b] (Value.string (⟨(textI b x).toArray⟩)) := by
  unfold textI
  by_cases h : 2 ≤ b ∧ b ≤ 16
  · rw [if_pos h]
    have := text_g x b.toNat (by omega) (by omega)
    rwa [show ((b.toNat : Nat) : Int) = b from by omega] at this
  · rw [if_neg h]; exact textx_g x b h
theorem halves_t (x : BitVec 128) : Gives Tryd.prog 55 #[Value.agg (rowF (BitVec.getLsbD (x)))] (Value.tuple #[U (hi (x)), U (lo (x))]) := shunterref01_Halves_g 65 x _ (halves_s 65 x (by omega))
theorem small_t (n : Int) : Gives Tryd.prog 54 #[Value.int .i64 n] (Value.agg (rowF (BitVec.getLsbD (zx (BitVec.ofInt 64 n))))) := shunterref01_small_g 0 n _ (small_s 0 n)
def shunterref01_Text_k4 (base : Int) (s1_ : List UInt8) (m2_ : BitVec 128) (rec_shunterref01_Text_l3 : List UInt8 → BitVec 128 → Option (List UInt8)) : Option (List UInt8) := ck ((zx (BitVec.ofInt 64 (base))) ≠ 0#128) (ck (0 ≤ (((lo ((m2_) % (zx (BitVec.ofInt 64 (base))))).toNat : Nat) : Int) ∧ (((lo ((m2_) % (zx (BitVec.ofInt 64 (base))))).toNat : Nat) : Int) ≤ ((((lo ((m2_) % (zx (BitVec.ofInt 64 (base)))) + 1#64)).toNat : Nat) : Int) ∧ ((((lo ((m2_) % (zx (BitVec.ofInt 64 (base)))) + 1#64)).toNat : Nat) : Int) ≤ ((([48, 49, 50, 51, 52, 53, 54, 55, 56, 57, 97, 98, 99, 100, 101, 102] : List UInt8)).length : Int)) (ck (((((([48, 49, 50, 51, 52, 53, 54, 55, 56, 57, 97, 98, 99, 100, 101, 102] : List UInt8)).take (((((lo ((m2_) % (zx (BitVec.ofInt 64 (base)))) + 1#64)).toNat : Nat) : Int)).toNat).drop ((((lo ((m2_) % (zx (BitVec.ofInt 64 (base))))).toNat : Nat) : Int)).toNat).length : Int) + ((s1_).length : Int) ≤ 9223372036854775807) (rec_shunterref01_Text_l3 ((((([48, 49, 50, 51, 52, 53, 54, 55, 56, 57, 97, 98, 99, 100, 101, 102] : List UInt8)).take (((((lo ((m2_) % (zx (BitVec.ofInt 64 (base)))) + 1#64)).toNat : Nat) : Int)).toNat).drop ((((lo ((m2_) % (zx (BitVec.ofInt 64 (base))))).toNat : Nat) : Int)).toNat) ++ (s1_)) ((m2_) / (zx (BitVec.ofInt 64 (base)))))))
def shunterref01_Text_l3 (base : Int) : Nat → List UInt8 → BitVec 128 → Option (List UInt8)
  | 0, _, _ => none
  | n5 + 1, s1_, m2_ => if (((len128 (m2_) : Nat) : Int) : Int) > 0 then shunterref01_Text_k4 base s1_ m2_ (shunterref01_Text_l3 base n5)  else if (s1_) = ([]) then shunterref01_Text_k4 base s1_ m2_ (shunterref01_Text_l3 base n5)  else some (s1_)
def shunterref01_Text_m (N : Nat) (a : BitVec 128) (base : Int) : Option (List UInt8) := shunterref01_Text_l3 base N ([]) (a)
set_option maxRecDepth 100000 in
set_option maxHeartbeats 400000 in
theorem shunterref01_Text_g (N : Nat) (a : BitVec 128) (base : Int) (r : List UInt8) (hM : shunterref01_Text_m N a base = some r) : Gives Tryd.prog 45 #[Value.agg (rowF (BitVec.getLsbD (a))), Value.int .i64 (base)] (Value.string (⟨(r).toArray⟩)) := by
  unfold shunterref01_Text_m at hM
  refine gives_of_A follows Tryd.func45 rfl 37 rfl (upd (upd (fun _ => undef) 1 (Value.int .i64 (base))) 0 (Value.agg (rowF (BitVec.getLsbD (a))))) (by funext k; match k with | 0 => rfl | 1 => rfl | k + 2 => rfl) (fun base0_ => ?_)
  refine A_seq fun K1 hK1 => ?_
  refine A_reg ?_
  refine r_a (100, rowF (BitVec.getLsbD (a))) rfl rfl rfl (fun b2 => ?_) (.inr rfl)
  refine r_v (Value.string (⟨#[]⟩)) rfl rfl rfl rfl ?_
  refine lx_nil ?_
  refine hK1 _ _ ?_; try clear hK1 K1
  refine A_seq fun K3 hK3 => ?_
  refine A_reg ?_
  refine r_v (Value.string (⟨#[]⟩)) rfl rfl rfl rfl ?_
  refine lx_nil ?_
  refine hK3 _ _ ?_; try clear hK3 K3
  refine A_seq fun K4 hK4 => ?_
  refine A_block ?_
  refine A_loop (fun tt ll nn => ∃ (n5 : Nat) (s1_ : List UInt8) (m2_ : BitVec 128), (shunterref01_Text_l3 base n5 s1_ m2_ = some r) ∧ Is [(1, Value.int .i64 (base)), (2, Value.pointer (some ⟨b2, 0, none⟩)), (5, Value.string (⟨(s1_).toArray⟩))] [(b2, 100, rowF (BitVec.getLsbD (m2_)))] tt ll ∧ nn = n5 + 1) (N + 1) ?_ ?_
  · exact ⟨N, [], a, hM, is_mk rfl rfl, rfl⟩
  · clear hM; rintro t l _ ⟨n5, s1_, m2_, hM, ⟨⟨T, rfl⟩, rfl⟩, rfl⟩
    rcases n5 with _ | n5
    · exact absurd hM (by simp [shunterref01_Text_l3])
    rw [shunterref01_Text_l3] at hM
    refine A_cut (fun tt ll => (shunterref01_Text_k4 base s1_ m2_ (shunterref01_Text_l3 base n5)  = some r) ∧ Is [(1, Value.int .i64 (base)), (2, Value.pointer (some ⟨b2, 0, none⟩)), (5, Value.string (⟨(s1_).toArray⟩))] [(b2, 100, rowF (BitVec.getLsbD (m2_)))] tt ll) ?_ ?_
    · refine A_seq fun K14 hK14 => ?_
      refine A_reg ?_
      refine r_l (Value.agg (rowF (BitVec.getLsbD (m2_)))) 0 _ _ _ _ rfl rfl rfl rfl (ld_rows rfl rfl rfl _) ?_
      refine r_c (Value.int .i64 (((len128 (m2_) : Nat) : Int))) rfl _ _ (ev_callF rfl call_36 rfl) (rlen_g (m2_)) ?_
      refine r_v (Value.bool (decide ((((len128 (m2_) : Nat) : Int) : Int) > 0))) rfl rfl rfl rfl ?_
      refine r_v (Value.bool (decide ((((len128 (m2_) : Nat) : Int) : Int) > 0))) rfl rfl rfl rfl ?_
      rcases hg15 : (decide ((((len128 (m2_) : Nat) : Int) : Int) > 0)) with _ | _
      · replace hM := ifn (of_decide_eq_false hg15) hM
        refine r_y rfl ?_
        refine r_v (Value.string (⟨(s1_).toArray⟩)) rfl rfl rfl rfl ?_
        refine r_y rfl ?_
        refine r_v (Value.bool ((s1_) == ([]))) rfl rfl rfl (ev_eqS rfl rfl) ?_
        refine r_v (Value.bool ((s1_) == ([]))) rfl rfl rfl rfl ?_
        refine lx_nil ?_
        refine hK14 _ _ ?_; try clear hK14 K14
        refine A_cond ((s1_) == ([])) rfl (fun hc16 => ?_) (fun hc16 => ?_)
        · replace hM := ifp (eq_of_beq hc16) hM
          refine A_skip ?_
          refine fg _ (Sub.of (List.Sublist.cons_cons _ (List.Sublist.slnil))) ?_
          exact ⟨hM, is_mk rfl rfl⟩
        · replace hM := ifn (ne_of_beq_false hc16) hM
          refine A_exit ?_
          refine hK4 _ _ ?_; try clear hK4 K4
          refine A_seq fun K17 hK17 => ?_
          refine A_reg ?_
          refine r_v (Value.string (⟨(s1_).toArray⟩)) rfl rfl rfl rfl ?_
          refine r_v (Value.string (⟨(s1_).toArray⟩)) rfl rfl rfl rfl ?_
          refine lx_nil ?_
          refine hK17 _ _ ?_; try clear hK17 K17
          obtain rfl := Option.some.inj hM
          refine A_ret (fun hn => ends_eq (v0 := Value.string (⟨(s1_).toArray⟩)) rfl (res1 rfl))
      · replace hM := ifp (of_decide_eq_true hg15) hM
        refine r_n true rfl (by decide) rfl ?_
        refine r_n true rfl (by decide) rfl ?_
        refine r_v (Value.bool (true)) rfl rfl rfl rfl ?_
        refine lx_nil ?_
        refine hK14 _ _ ?_; try clear hK14 K14
        refine A_cond true rfl (fun _ => ?_) (fun h_ => nomatch h_)
        refine A_skip ?_
        refine fg _ (Sub.of (List.Sublist.cons_cons _ (List.Sublist.slnil))) ?_
        exact ⟨hM, is_mk rfl rfl⟩
    · clear hM; rintro t l ⟨hM, ⟨T, rfl⟩, rfl⟩
      unfold shunterref01_Text_k4 at hM
      refine A_block ?_
      refine A_seq fun K6 hK6 => ?_
      refine A_draw [] (by decide +kernel) (fun hn => sep_nil) ?_
      refine r_l (Value.agg (rowF (BitVec.getLsbD (m2_)))) 0 _ _ _ _ rfl rfl rfl rfl (ld_rows rfl rfl rfl _) ?_
      refine r_v (Value.int .i64 (base)) rfl rfl rfl rfl ?_
      refine r_c (Value.agg (rowF (BitVec.getLsbD (zx (BitVec.ofInt 64 (base)))))) rfl _ _ (ev_callF rfl call_54 rfl) (small_t (base)) ?_
      replace hM := ck_some hM; obtain ⟨ck7, hM⟩ := hM
      refine r_c (Value.tuple #[Value.agg (rowF (BitVec.getLsbD ((m2_) / (zx (BitVec.ofInt 64 (base)))))), Value.agg (rowF (BitVec.getLsbD ((m2_) % (zx (BitVec.ofInt 64 (base))))))]) rfl _ _ (ev_callF rfl call_53 rfl) (part_g (m2_) (zx (BitVec.ofInt 64 (base))) ck7) ?_
      refine r_v (Value.tuple #[Value.agg (rowF (BitVec.getLsbD ((m2_) / (zx (BitVec.ofInt 64 (base)))))), Value.agg (rowF (BitVec.getLsbD ((m2_) % (zx (BitVec.ofInt 64 (base))))))]) rfl rfl rfl rfl ?_
      refine r_v (Value.agg (rowF (BitVec.getLsbD ((m2_) / (zx (BitVec.ofInt 64 (base))))))) rfl rfl rfl rfl ?_
      refine r_v (Value.agg (rowF (BitVec.getLsbD ((m2_) % (zx (BitVec.ofInt 64 (base))))))) rfl rfl rfl rfl ?_
      refine r_a (100, rowF (BitVec.getLsbD (0#128))) rfl rfl ((zrow z_100).trans (congrArg (fun x => some (100, x)) row_zero)) (fun b8 => ?_) (.inl rfl)
      refine r_a (100, rowF (BitVec.getLsbD (0#128))) rfl rfl ((zrow z_100).trans (congrArg (fun x => some (100, x)) row_zero)) (fun b9 => ?_) (.inl rfl)
      refine r_sn [(b9, 100, rowF (BitVec.getLsbD (0#128))), (b8, 100, rowF (BitVec.getLsbD ((m2_) / (zx (BitVec.ofInt 64 (base)))))), (b2, 100, rowF (BitVec.getLsbD (m2_)))] 1 _ _ _ (rowF (BitVec.getLsbD (0#128))) (rowF (BitVec.getLsbD ((m2_) / (zx (BitVec.ofInt 64 (base)))))) (rowF (BitVec.getLsbD ((m2_) / (zx (BitVec.ofInt 64 (base)))))) rfl rfl rfl rfl rfl (stok_rows rfl rfl _ _) (splice_rows _ _) rfl ?_
      refine r_sn [(b9, 100, rowF (BitVec.getLsbD ((m2_) % (zx (BitVec.ofInt 64 (base)))))), (b8, 100, rowF (BitVec.getLsbD ((m2_) / (zx (BitVec.ofInt 64 (base)))))), (b2, 100, rowF (BitVec.getLsbD (m2_)))] 0 _ _ _ (rowF (BitVec.getLsbD (0#128))) (rowF (BitVec.getLsbD ((m2_) % (zx (BitVec.ofInt 64 (base)))))) (rowF (BitVec.getLsbD ((m2_) % (zx (BitVec.ofInt 64 (base)))))) rfl rfl rfl rfl rfl (stok_rows rfl rfl _ _) (splice_rows _ _) rfl ?_
      refine lx_nil ?_
      refine hK6 _ _ ?_; try clear hK6 K6
      refine A_seq fun K10 hK10 => ?_
      refine A_reg ?_
      refine r_l (Value.agg (rowF (BitVec.getLsbD ((m2_) % (zx (BitVec.ofInt 64 (base))))))) 0 _ _ _ _ rfl rfl rfl rfl (ld_rows rfl rfl rfl _) ?_
      refine r_c (Value.tuple #[U (hi ((m2_) % (zx (BitVec.ofInt 64 (base))))), U (lo ((m2_) % (zx (BitVec.ofInt 64 (base)))))]) rfl _ _ (ev_callF rfl call_55 rfl) (halves_t ((m2_) % (zx (BitVec.ofInt 64 (base))))) ?_
      refine r_v (Value.tuple #[U (hi ((m2_) % (zx (BitVec.ofInt 64 (base))))), U (lo ((m2_) % (zx (BitVec.ofInt 64 (base)))))]) rfl rfl rfl rfl ?_
      refine r_v (U (hi ((m2_) % (zx (BitVec.ofInt 64 (base)))))) rfl rfl rfl rfl ?_
      refine r_v (U (lo ((m2_) % (zx (BitVec.ofInt 64 (base)))))) rfl rfl rfl rfl ?_
      refine r_v (U (hi ((m2_) % (zx (BitVec.ofInt 64 (base)))))) rfl rfl rfl rfl ?_
      refine r_v (U (lo ((m2_) % (zx (BitVec.ofInt 64 (base)))))) rfl rfl rfl rfl ?_
      refine lx_nil ?_
      refine hK10 _ _ ?_; try clear hK10 K10
      refine A_seq fun K11 hK11 => ?_
      refine A_reg ?_
      refine r_v (U (lo ((m2_) % (zx (BitVec.ofInt 64 (base)))))) rfl rfl rfl rfl ?_
      refine r_v (U (lo ((m2_) % (zx (BitVec.ofInt 64 (base)))))) rfl rfl rfl rfl ?_
      refine r_v (U ((lo ((m2_) % (zx (BitVec.ofInt 64 (base)))) + 1#64))) rfl rfl (U_add (lo ((m2_) % (zx (BitVec.ofInt 64 (base))))) (1#64)) rfl ?_
      replace hM := ck_some hM; obtain ⟨ck12, hM⟩ := hM
      refine r_v (Value.string (⟨(((([48, 49, 50, 51, 52, 53, 54, 55, 56, 57, 97, 98, 99, 100, 101, 102] : List UInt8)).take (((((lo ((m2_) % (zx (BitVec.ofInt 64 (base)))) + 1#64)).toNat : Nat) : Int)).toNat).drop ((((lo ((m2_) % (zx (BitVec.ofInt 64 (base))))).toNat : Nat) : Int)).toNat).toArray⟩)) rfl rfl rfl (ev_v (ev_sliceS rfl ck12)) ?_
      refine r_v (Value.string (⟨(s1_).toArray⟩)) rfl rfl rfl rfl ?_
      replace hM := ck_some hM; obtain ⟨ck13, hM⟩ := hM
      refine r_v (Value.string (⟨((((([48, 49, 50, 51, 52, 53, 54, 55, 56, 57, 97, 98, 99, 100, 101, 102] : List UInt8)).take (((((lo ((m2_) % (zx (BitVec.ofInt 64 (base)))) + 1#64)).toNat : Nat) : Int)).toNat).drop ((((lo ((m2_) % (zx (BitVec.ofInt 64 (base))))).toNat : Nat) : Int)).toNat) ++ (s1_)).toArray⟩)) rfl rfl rfl (ev_addS ck13 rfl rfl) ?_
      refine r_v (Value.string (⟨((((([48, 49, 50, 51, 52, 53, 54, 55, 56, 57, 97, 98, 99, 100, 101, 102] : List UInt8)).take (((((lo ((m2_) % (zx (BitVec.ofInt 64 (base)))) + 1#64)).toNat : Nat) : Int)).toNat).drop ((((lo ((m2_) % (zx (BitVec.ofInt 64 (base))))).toNat : Nat) : Int)).toNat) ++ (s1_)).toArray⟩)) rfl rfl rfl rfl ?_
      refine lx_nil ?_
      refine hK11 _ _ ?_; try clear hK11 K11
      refine A_reg ?_
      refine r_l (Value.agg (rowF (BitVec.getLsbD ((m2_) / (zx (BitVec.ofInt 64 (base))))))) 1 _ _ _ _ rfl rfl rfl rfl (ld_rows rfl rfl rfl _) ?_
      refine r_s [(b9, 100, rowF (BitVec.getLsbD ((m2_) % (zx (BitVec.ofInt 64 (base)))))), (b8, 100, rowF (BitVec.getLsbD ((m2_) / (zx (BitVec.ofInt 64 (base)))))), (b2, 100, rowF (BitVec.getLsbD ((m2_) / (zx (BitVec.ofInt 64 (base))))))] 2 _ _ _ (rowF (BitVec.getLsbD (m2_))) (rowF (BitVec.getLsbD ((m2_) / (zx (BitVec.ofInt 64 (base)))))) (rowF (BitVec.getLsbD ((m2_) / (zx (BitVec.ofInt 64 (base)))))) rfl rfl rfl rfl (stok_rows rfl rfl _ _) (splice_rows _ _) rfl ?_
      refine lx_nil ?_
      refine fg _ (Sub.of (List.Sublist.cons _ (List.Sublist.cons _ (List.Sublist.cons_cons _ (List.Sublist.slnil))))) ?_
      exact ⟨n5 + 1, by omega, n5, (((([48, 49, 50, 51, 52, 53, 54, 55, 56, 57, 97, 98, 99, 100, 101, 102] : List UInt8)).take (((((lo ((m2_) % (zx (BitVec.ofInt 64 (base)))) + 1#64)).toNat : Nat) : Int)).toNat).drop ((((lo ((m2_) % (zx (BitVec.ofInt 64 (base))))).toNat : Nat) : Int)).toNat) ++ (s1_), (m2_) / (zx (BitVec.ofInt 64 (base))), hM, is_mk rfl rfl, rfl⟩
end Go.Proofs.YtmfedgmmgehmgaaDoor
