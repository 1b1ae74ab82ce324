/- models of functions and their walks -/
import Derived.Test.YtdgejbbelmhbdaaDoorPaQ
import Derived.Test.YtdgejbbelmhbdaaDoorHv
namespace Go.Proofs.YtdgejbbelmhbdaaDoor
open Go Go.RowKit Go.Eng
def textI (b : Int) (x : BitVec 128) : List UInt8 := if 2 ≤ b ∧ b ≤ 16 then textL b.toNat 128 x.toNat else []
theorem halves_t (x : BitVec 128) : Gives Tryd.prog 49 #[Value.agg (rowF (BitVec.getLsbD (x)))] (Value.tuple #[U (hi (x)), U (lo (x))]) := shunterref01_Halves_g 65 x _ (halves_s 65 x (by omega))
theorem small_t (n : Int) : Gives Tryd.prog 48 #[Value.int .i64 n] (Value.agg (rowF (BitVec.getLsbD (zx (BitVec.ofInt 64 n))))) := shunterref01_small_g 0 n _ (small_s 0 n)
def shunterref01_Text_k4 (base : Int) (s1_ : List UInt8) (m2_ : BitVec 128) (rec_shunterref01_Text_l3 : List UInt8 → BitVec 128 → Option (List UInt8)) : Option (List UInt8) := ck ((zx (BitVec.ofInt 64 (base))) ≠ 0#128) (ck (0 ≤ (((lo ((m2_) % (zx (BitVec.ofInt 64 (base))))).toNat : Nat) : Int) ∧ (((lo ((m2_) % (zx (BitVec.ofInt 64 (base))))).toNat : Nat) : Int) ≤ ((((lo ((m2_) % (zx (BitVec.ofInt 64 (base)))) + 1#64)).toNat : Nat) : Int) ∧ ((((lo ((m2_) % (zx (BitVec.ofInt 64 (base)))) + 1#64)).toNat : Nat) : Int) ≤ ((([48, 49, 50, 51, 52, 53, 54, 55, 56, 57, 97, 98, 99, 100, 101, 102] : List UInt8)).length : Int)) (ck (((((([48, 49, 50, 51, 52, 53, 54, 55, 56, 57, 97, 98, 99, 100, 101, 102] : List UInt8)).take (((((lo ((m2_) % (zx (BitVec.ofInt 64 (base)))) + 1#64)).toNat : Nat) : Int)).toNat).drop ((((lo ((m2_) % (zx (BitVec.ofInt 64 (base))))).toNat : Nat) : Int)).toNat).length : Int) + ((s1_).length : Int) ≤ 9223372036854775807) (rec_shunterref01_Text_l3 ((((([48, 49, 50, 51, 52, 53, 54, 55, 56, 57, 97, 98, 99, 100, 101, 102] : List UInt8)).take (((((lo ((m2_) % (zx (BitVec.ofInt 64 (base)))) + 1#64)).toNat : Nat) : Int)).toNat).drop ((((lo ((m2_) % (zx (BitVec.ofInt 64 (base))))).toNat : Nat) : Int)).toNat) ++ (s1_)) ((m2_) / (zx (BitVec.ofInt 64 (base)))))))
def shunterref01_Text_l3 (base : Int) : Nat → List UInt8 → BitVec 128 → Option (List UInt8)
  | 0, _, _ => none
  | n5 + 1, s1_, m2_ => if (((len128 (m2_) : Nat) : Int) : Int) > 0 then shunterref01_Text_k4 base s1_ m2_ (shunterref01_Text_l3 base n5)  else if (s1_) = ([]) then shunterref01_Text_k4 base s1_ m2_ (shunterref01_Text_l3 base n5)  else some (s1_)
def shunterref01_Text_m (N : Nat) (a : BitVec 128) (base : Int) : Option (List UInt8) := shunterref01_Text_l3 base N ([]) (a)
set_option maxRecDepth 100000 in
set_option maxHeartbeats 400000 in
theorem shunterref01_Text_g (N : Nat) (a : BitVec 128) (base : Int) (r : List UInt8) (hM : shunterref01_Text_m N a base = some r) : Gives Tryd.prog 35 #[Value.agg (rowF (BitVec.getLsbD (a))), Value.int .i64 (base)] (Value.string (⟨(r).toArray⟩)) := by
  unfold shunterref01_Text_m at hM
  refine gives_of_A follows Tryd.func35 rfl 37 rfl (upd (upd (fun _ => undef) 1 (Value.int .i64 (base))) 0 (Value.agg (rowF (BitVec.getLsbD (a))))) (by funext k; match k with | 0 => rfl | 1 => rfl | k + 2 => rfl) (fun base0_ => ?_)
  refine A_seq fun K1 hK1 => ?_
  refine A_reg ?_
  refine r_a (67, rowF (BitVec.getLsbD (a))) rfl rfl rfl (fun b2 => ?_) (.inr rfl)
  refine r_v (Value.string (⟨#[]⟩)) rfl rfl rfl rfl ?_
  refine lx_nil ?_
  refine hK1 _ _ ?_; try clear hK1 K1
  refine A_seq fun K3 hK3 => ?_
  refine A_reg ?_
  refine r_v (Value.string (⟨#[]⟩)) rfl rfl rfl rfl ?_
  refine lx_nil ?_
  refine hK3 _ _ ?_; try clear hK3 K3
  refine A_seq fun K4 hK4 => ?_
  refine A_block ?_
  refine A_loop (fun tt ll nn => ∃ (n5 : Nat) (s1_ : List UInt8) (m2_ : BitVec 128), (shunterref01_Text_l3 base n5 s1_ m2_ = some r) ∧ Is [(1, Value.int .i64 (base)), (2, Value.pointer (some ⟨b2, 0, none⟩)), (5, Value.string (⟨(s1_).toArray⟩))] [(b2, 67, rowF (BitVec.getLsbD (m2_)))] tt ll ∧ nn = n5 + 1) (N + 1) ?_ ?_
  · exact ⟨N, [], a, hM, is_mk rfl rfl, rfl⟩
  · clear hM; rintro t l _ ⟨n5, s1_, m2_, hM, ⟨⟨T, rfl⟩, rfl⟩, rfl⟩
    rcases n5 with _ | n5
    · exact absurd hM (by simp [shunterref01_Text_l3])
    rw [shunterref01_Text_l3] at hM
    refine A_cut (fun tt ll => (shunterref01_Text_k4 base s1_ m2_ (shunterref01_Text_l3 base n5)  = some r) ∧ Is [(1, Value.int .i64 (base)), (2, Value.pointer (some ⟨b2, 0, none⟩)), (5, Value.string (⟨(s1_).toArray⟩))] [(b2, 67, rowF (BitVec.getLsbD (m2_)))] tt ll) ?_ ?_
    · refine A_seq fun K14 hK14 => ?_
      refine A_reg ?_
      refine r_l (Value.agg (rowF (BitVec.getLsbD (m2_)))) 0 _ _ _ _ rfl rfl rfl rfl (ld_rows rfl rfl rfl _) ?_
      refine r_c (Value.int .i64 (((len128 (m2_) : Nat) : Int))) rfl _ _ (ev_callF rfl call_46 rfl) (rlen_g (m2_)) ?_
      refine r_v (Value.bool (decide ((((len128 (m2_) : Nat) : Int) : Int) > 0))) rfl rfl rfl rfl ?_
      refine r_v (Value.bool (decide ((((len128 (m2_) : Nat) : Int) : Int) > 0))) rfl rfl rfl rfl ?_
      rcases hg15 : (decide ((((len128 (m2_) : Nat) : Int) : Int) > 0)) with _ | _
      · replace hM := ifn (of_decide_eq_false hg15) hM
        refine r_y rfl ?_
        refine r_v (Value.string (⟨(s1_).toArray⟩)) rfl rfl rfl rfl ?_
        refine r_y rfl ?_
        refine r_v (Value.bool ((s1_) == ([]))) rfl rfl rfl (ev_eqS rfl rfl) ?_
        refine r_v (Value.bool ((s1_) == ([]))) rfl rfl rfl rfl ?_
        refine lx_nil ?_
        refine hK14 _ _ ?_; try clear hK14 K14
        refine A_cond ((s1_) == ([])) rfl (fun hc16 => ?_) (fun hc16 => ?_)
        · replace hM := ifp (eq_of_beq hc16) hM
          refine A_skip ?_
          refine fg _ (Sub.of (List.Sublist.cons_cons _ (List.Sublist.slnil))) ?_
          exact ⟨hM, is_mk rfl rfl⟩
        · replace hM := ifn (ne_of_beq_false hc16) hM
          refine A_exit ?_
          refine hK4 _ _ ?_; try clear hK4 K4
          refine A_seq fun K17 hK17 => ?_
          refine A_reg ?_
          refine r_v (Value.string (⟨(s1_).toArray⟩)) rfl rfl rfl rfl ?_
          refine r_v (Value.string (⟨(s1_).toArray⟩)) rfl rfl rfl rfl ?_
          refine lx_nil ?_
          refine hK17 _ _ ?_; try clear hK17 K17
          obtain rfl := Option.some.inj hM
          refine A_ret (fun hn => ends_eq (v0 := Value.string (⟨(s1_).toArray⟩)) rfl (res1 rfl))
      · replace hM := ifp (of_decide_eq_true hg15) hM
        refine r_n true rfl (by decide) rfl ?_
        refine r_n true rfl (by decide) rfl ?_
        refine r_v (Value.bool (true)) rfl rfl rfl rfl ?_
        refine lx_nil ?_
        refine hK14 _ _ ?_; try clear hK14 K14
        refine A_cond true rfl (fun _ => ?_) (fun h_ => nomatch h_)
        refine A_skip ?_
        refine fg _ (Sub.of (List.Sublist.cons_cons _ (List.Sublist.slnil))) ?_
        exact ⟨hM, is_mk rfl rfl⟩
    · clear hM; rintro t l ⟨hM, ⟨T, rfl⟩, rfl⟩
      unfold shunterref01_Text_k4 at hM
      refine A_block ?_
      refine A_seq fun K6 hK6 => ?_
      refine A_draw [] (by decide +kernel) (fun hn => sep_nil) ?_
      refine r_l (Value.agg (rowF (BitVec.getLsbD (m2_)))) 0 _ _ _ _ rfl rfl rfl rfl (ld_rows rfl rfl rfl _) ?_
      refine r_v (Value.int .i64 (base)) rfl rfl rfl rfl ?_
      refine r_c (Value.agg (rowF (BitVec.getLsbD (zx (BitVec.ofInt 64 (base)))))) rfl _ _ (ev_callF rfl call_48 rfl) (small_t (base)) ?_
      replace hM := ck_some hM; obtain ⟨ck7, hM⟩ := hM
      refine r_c (Value.tuple #[Value.agg (rowF (BitVec.getLsbD ((m2_) / (zx (BitVec.ofInt 64 (base)))))), Value.agg (rowF (BitVec.getLsbD ((m2_) % (zx (BitVec.ofInt 64 (base))))))]) rfl _ _ (ev_callF rfl call_47 rfl) (part_g (m2_) (zx (BitVec.ofInt 64 (base))) ck7) ?_
      refine r_v (Value.tuple #[Value.agg (rowF (BitVec.getLsbD ((m2_) / (zx (BitVec.ofInt 64 (base)))))), Value.agg (rowF (BitVec.getLsbD ((m2_) % (zx (BitVec.ofInt 64 (base))))))]) rfl rfl rfl rfl ?_
      refine r_v (Value.agg (rowF (BitVec.getLsbD ((m2_) / (zx (BitVec.ofInt 64 (base))))))) rfl rfl rfl rfl ?_
      refine r_v (Value.agg (rowF (BitVec.getLsbD ((m2_) % (zx (BitVec.ofInt 64 (base))))))) rfl rfl rfl rfl ?_
      refine r_a (67, rowF (BitVec.getLsbD (0#128))) rfl rfl ((zrow z_67).trans (congrArg (fun x => some (67, x)) row_zero)) (fun b8 => ?_) (.inl rfl)
      refine r_a (67, rowF (BitVec.getLsbD (0#128))) rfl rfl ((zrow z_67).trans (congrArg (fun x => some (67, x)) row_zero)) (fun b9 => ?_) (.inl rfl)
      refine r_sn [(b9, 67, rowF (BitVec.getLsbD (0#128))), (b8, 67, rowF (BitVec.getLsbD ((m2_) / (zx (BitVec.ofInt 64 (base)))))), (b2, 67, rowF (BitVec.getLsbD (m2_)))] 1 _ _ _ (rowF (BitVec.getLsbD (0#128))) (rowF (BitVec.getLsbD ((m2_) / (zx (BitVec.ofInt 64 (base)))))) (rowF (BitVec.getLsbD ((m2_) / (zx (BitVec.ofInt 64 (base)))))) rfl rfl rfl rfl rfl (stok_rows rfl rfl _ _) (splice_rows _ _) rfl ?_
      refine r_sn [(b9, 67, rowF (BitVec.getLsbD ((m2_) % (zx (BitVec.ofInt 64 (base)))))), (b8, 67, rowF (BitVec.getLsbD ((m2_) / (zx (BitVec.ofInt 64 (base)))))), (b2, 67, rowF (BitVec.getLsbD (m2_)))] 0 _ _ _ (rowF (BitVec.getLsbD (0#128))) (rowF (BitVec.getLsbD ((m2_) % (zx (BitVec.ofInt 64 (base)))))) (rowF (BitVec.getLsbD ((m2_) % (zx (BitVec.ofInt 64 (base)))))) rfl rfl rfl rfl rfl (stok_rows rfl rfl _ _) (splice_rows _ _) rfl ?_
      refine lx_nil ?_
      refine hK6 _ _ ?_; try clear hK6 K6
      refine A_seq fun K10 hK10 => ?_
      refine A_reg ?_
      refine r_l (Value.agg (rowF (BitVec.getLsbD ((m2_) % (zx (BitVec.ofInt 64 (base))))))) 0 _ _ _ _ rfl rfl rfl rfl (ld_rows rfl rfl rfl _) ?_
      refine r_c (Value.tuple #[U (hi ((m2_) % (zx (BitVec.ofInt 64 (base))))), U (lo ((m2_) % (zx (BitVec.ofInt 64 (base)))))]) rfl _ _ (ev_callF rfl call_49 rfl) (halves_t ((m2_) % (zx (BitVec.ofInt 64 (base))))) ?_
      refine r_v (Value.tuple #[U (hi ((m2_) % (zx (BitVec.ofInt 64 (base))))), U (lo ((m2_) % (zx (BitVec.ofInt 64 (base)))))]) rfl rfl rfl rfl ?_
      refine r_v (U (hi ((m2_) % (zx (BitVec.ofInt 64 (base)))))) rfl rfl rfl rfl ?_
      refine r_v (U (lo ((m2_) % (zx (BitVec.ofInt 64 (base)))))) rfl rfl rfl rfl ?_
      refine r_v (U (hi ((m2_) % (zx (BitVec.ofInt 64 (base)))))) rfl rfl rfl rfl ?_
      refine r_v (U (lo ((m2_) % (zx (BitVec.ofInt 64 (base)))))) rfl rfl rfl rfl ?_
      refine lx_nil ?_
      refine hK10 _ _ ?_; try clear hK10 K10
      refine A_seq fun K11 hK11 => ?_
      refine A_reg ?_
      refine r_v (U (lo ((m2_) % (zx (BitVec.ofInt 64 (base)))))) rfl rfl rfl rfl ?_
      refine r_v (U (lo ((m2_) % (zx (BitVec.ofInt 64 (base)))))) rfl rfl rfl rfl ?_
      refine r_v (U ((lo ((m2_) % (zx (BitVec.ofInt 64 (base)))) + 1#64))) rfl rfl (U_add (lo ((m2_) % (zx (BitVec.ofInt 64 (base))))) (1#64)) rfl ?_
      replace hM := ck_some hM; obtain ⟨ck12, hM⟩ := hM
      refine r_v (Value.string (⟨(((([48, 49, 50, 51, 52, 53, 54, 55, 56, 57, 97, 98, 99, 100, 101, 102] : List UInt8)).take (((((lo ((m2_) % (zx (BitVec.ofInt 64 (base)))) + 1#64)).toNat : Nat) : Int)).toNat).drop ((((lo ((m2_) % (zx (BitVec.ofInt 64 (base))))).toNat : Nat) : Int)).toNat).toArray⟩)) rfl rfl rfl (ev_v (ev_sliceS rfl ck12)) ?_
      refine r_v (Value.string (⟨(s1_).toArray⟩)) rfl rfl rfl rfl ?_
      replace hM := ck_some hM; obtain ⟨ck13, hM⟩ := hM
      refine r_v (Value.string (⟨((((([48, 49, 50, 51, 52, 53, 54, 55, 56, 57, 97, 98, 99, 100, 101, 102] : List UInt8)).take (((((lo ((m2_) % (zx (BitVec.ofInt 64 (base)))) + 1#64)).toNat : Nat) : Int)).toNat).drop ((((lo ((m2_) % (zx (BitVec.ofInt 64 (base))))).toNat : Nat) : Int)).toNat) ++ (s1_)).toArray⟩)) rfl rfl rfl (ev_addS ck13 rfl rfl) ?_
      refine r_v (Value.string (⟨((((([48, 49, 50, 51, 52, 53, 54, 55, 56, 57, 97, 98, 99, 100, 101, 102] : List UInt8)).take (((((lo ((m2_) % (zx (BitVec.ofInt 64 (base)))) + 1#64)).toNat : Nat) : Int)).toNat).drop ((((lo ((m2_) % (zx (BitVec.ofInt 64 (base))))).toNat : Nat) : Int)).toNat) ++ (s1_)).toArray⟩)) rfl rfl rfl rfl ?_
      refine lx_nil ?_
      refine hK11 _ _ ?_; try clear hK11 K11
      refine A_reg ?_
      refine r_l (Value.agg (rowF (BitVec.getLsbD ((m2_) / (zx (BitVec.ofInt 64 (base))))))) 1 _ _ _ _ rfl rfl rfl rfl (ld_rows rfl rfl rfl _) ?_
      refine r_s [(b9, 67, rowF (BitVec.getLsbD ((m2_) % (zx (BitVec.ofInt 64 (base)))))), (b8, 67, rowF (BitVec.getLsbD ((m2_) / (zx (BitVec.ofInt 64 (base)))))), (b2, 67, rowF (BitVec.getLsbD ((m2_) / (zx (BitVec.ofInt 64 (base))))))] 2 _ _ _ (rowF (BitVec.getLsbD (m2_))) (rowF (BitVec.getLsbD ((m2_) / (zx (BitVec.ofInt 64 (base)))))) (rowF (BitVec.getLsbD ((m2_) / (zx (BitVec.ofInt 64 (base)))))) rfl rfl rfl rfl (stok_rows rfl rfl _ _) (splice_rows _ _) rfl ?_
      refine lx_nil ?_
      refine fg _ (Sub.of (List.Sublist.cons _ (List.Sublist.cons _ (List.Sublist.cons_cons _ (List.Sublist.slnil))))) ?_
      exact ⟨n5 + 1, by omega, n5, (((([48, 49, 50, 51, 52, 53, 54, 55, 56, 57, 97, 98, 99, 100, 101, 102] : List UInt8)).take (((((lo ((m2_) % (zx (BitVec.ofInt 64 (base)))) + 1#64)).toNat : Nat) : Int)).toNat).drop ((((lo ((m2_) % (zx (BitVec.ofInt 64 (base))))).toNat : Nat) : Int)).toNat) ++ (s1_), (m2_) / (zx (BitVec.ofInt 64 (base))), hM, is_mk rfl rfl, rfl⟩
end Go.Proofs.YtdgejbbelmhbdaaDoor
/- What the document's digits are. Conditions: none. -/
namespace Go.Proofs.YtdgejbbelmhbdaaDoor
open Go Go.RowKit Go.Eng
theorem len_pos (x : BitVec 128) : (((len128 x : Nat) : Int) > 0) ↔ x ≠ 0#128 := by
  obtain ⟨a, b, _⟩ := len128_spec x
  constructor
  · intro h e
    have := b (by omega)
    rw [e] at this
    have h2 : 0 < 2 ^ (len128 (0#128) - 1) := Nat.two_pow_pos _
    simp at this
  · intro h
    have h0 : x.toNat ≠ 0 := fun e => h (BitVec.eq_of_toNat_eq (by simpa using e))
    by_cases h1 : len128 x = 0
    · rw [h1] at a; simp at a; exact absurd a h0
    · omega
theorem hex_at : ∀ d : Nat, d < 16 → (([48, 49, 50, 51, 52, 53, 54, 55, 56, 57, 97, 98, 99, 100, 101, 102] : List UInt8).take (((d + 1 : Nat) : Int)).toNat).drop ((d : Nat) : Int).toNat = [dch d] := by decide
theorem rtext_loop (b : Nat) (h1 : 2 ≤ b) (h2 : b ≤ 16) : ∀ (k f : Nat) (y : BitVec 128) (S : List UInt8), k < f → 1 ≤ k → y.toNat < 2 ^ k → S.length + k ≤ 4000 → (y ≠ 0#128 ∨ S = []) →
    shunterref01_Text_l3 (b : Int) f S y = some (textL b k y.toNat ++ S) := by
  intro k
  induction k with
  | zero => intro f y S _ h; omega
  | succ k ih =>
    intro f y S hf _ hy hS hent
    obtain ⟨f, rfl⟩ : ∃ j, f = j + 1 := ⟨f - 1, by omega⟩
    have hB : zx (BitVec.ofInt 64 (b : Int)) = BitVec.ofNat 128 b := smalln b (by omega)
    have hbn : (BitVec.ofNat 128 b).toNat = b := by rw [BitVec.toNat_ofNat, Nat.mod_eq_of_lt (by omega)]
    have hb0 : BitVec.ofNat 128 b ≠ 0#128 := by intro h; rw [h] at hbn; simp at hbn; omega
    have hlt : y.toNat % b < b := Nat.mod_lt _ (by omega)
    have hlo : (lo (y % BitVec.ofNat 128 b)).toNat = y.toNat % b := by rw [lo_toNat, BitVec.toNat_umod, hbn, Nat.mod_eq_of_lt]; omega
    have hlo1 : (lo (y % BitVec.ofNat 128 b) + 1#64).toNat = y.toNat % b + 1 := by rw [BitVec.toNat_add, hlo]; show (y.toNat % b + 1) % 2 ^ 64 = _; rw [Nat.mod_eq_of_lt]; omega
    have hdiv : (y / BitVec.ofNat 128 b).toNat = y.toNat / b := by rw [BitVec.toNat_udiv, hbn]
    have hx := hex_at (y.toNat % b) (by omega)
    have body : ck (zx (BitVec.ofInt 64 (b : Int)) ≠ 0#128) (ck (0 ≤ (((lo (y % (zx (BitVec.ofInt 64 (b : Int))))).toNat : Nat) : Int) ∧ (((lo (y % (zx (BitVec.ofInt 64 (b : Int))))).toNat : Nat) : Int) ≤ ((((lo (y % (zx (BitVec.ofInt 64 (b : Int)))) + 1#64)).toNat : Nat) : Int) ∧ ((((lo (y % (zx (BitVec.ofInt 64 (b : Int)))) + 1#64)).toNat : Nat) : Int) ≤ ((([48, 49, 50, 51, 52, 53, 54, 55, 56, 57, 97, 98, 99, 100, 101, 102] : List UInt8)).length : Int))
        (ck (((((([48, 49, 50, 51, 52, 53, 54, 55, 56, 57, 97, 98, 99, 100, 101, 102] : List UInt8)).take (((((lo (y % (zx (BitVec.ofInt 64 (b : Int)))) + 1#64)).toNat : Nat) : Int)).toNat).drop ((((lo (y % (zx (BitVec.ofInt 64 (b : Int))))).toNat : Nat) : Int)).toNat).length : Int) + (S.length : Int) ≤ 9223372036854775807)
        ((shunterref01_Text_l3 (b : Int) f) ((((([48, 49, 50, 51, 52, 53, 54, 55, 56, 57, 97, 98, 99, 100, 101, 102] : List UInt8)).take (((((lo (y % (zx (BitVec.ofInt 64 (b : Int)))) + 1#64)).toNat : Nat) : Int)).toNat).drop ((((lo (y % (zx (BitVec.ofInt 64 (b : Int))))).toNat : Nat) : Int)).toNat) ++ S) (y / (zx (BitVec.ofInt 64 (b : Int))))))) =
        some (textL b (k + 1) y.toNat ++ S) := by
      rw [hB, ck_pos _ hb0, hlo, hlo1, ck_pos _ (by simp; omega), hx, ck_pos _ (by simp; omega)]
      rw [textL]
      by_cases hz : y.toNat / b = 0
      · rw [if_pos hz]
        obtain ⟨f, rfl⟩ : ∃ j, f = j + 1 := ⟨f - 1, by omega⟩
        have h0 : y / BitVec.ofNat 128 b = 0#128 := BitVec.eq_of_toNat_eq (by rw [hdiv, hz]; rfl)
        rw [shunterref01_Text_l3, h0, if_neg (by rw [len_pos]; simp), if_neg (by simp)]
      · rw [if_neg hz]
        have h0 : y / BitVec.ofNat 128 b ≠ 0#128 := by intro h; apply hz; rw [← hdiv, h]; rfl
        have hlt2 : y.toNat / b < 2 ^ k := by
          rw [Nat.div_lt_iff_lt_mul (by omega)]
          calc y.toNat < 2 ^ (k + 1) := hy
            _ = 2 ^ k * 2 := Nat.pow_succ ..
            _ ≤ 2 ^ k * b := Nat.mul_le_mul_left _ h1
        have hk : 1 ≤ k := by
          rcases Nat.eq_zero_or_pos k with h | h
          · rw [h, Nat.pow_zero] at hlt2; omega
          · exact h
        rw [ih f _ _ (by omega) hk (by rw [hdiv]; exact hlt2) (by simp; omega) (.inl h0), hdiv]
        simp
    rw [shunterref01_Text_l3]
    split
    · exact body
    · rename_i hz
      rw [len_pos] at hz
      rw [if_pos (hent.resolve_left hz)]
      exact body
theorem rtext_s (N : Nat) (hN : 128 < N) (x : BitVec 128) (b : Int) (hb : 2 ≤ b ∧ b ≤ 16) : shunterref01_Text_m N x b = some (textI b x) := by
  unfold shunterref01_Text_m textI
  rw [if_pos hb]
  have := rtext_loop b.toNat (by omega) (by omega) 128 N x [] hN (by omega) x.isLt (by simp) (.inr rfl)
  rw [show ((b.toNat : Nat) : Int) = b from by omega, List.append_nil] at this
  exact this
theorem rtext_t (x : BitVec 128) (b : Int) (hb : 2 ≤ b ∧ b ≤ 16) : Gives Tryd.prog 35 #[Value.agg (rowF (BitVec.getLsbD (x))), Value.int .i64 b] (Value.string (⟨(textI b x).toArray⟩)) := shunterref01_Text_g 129 x b _ (rtext_s 129 (by omega) x b hb)
end Go.Proofs.YtdgejbbelmhbdaaDoor
