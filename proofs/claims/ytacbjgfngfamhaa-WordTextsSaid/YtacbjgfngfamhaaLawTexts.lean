/- The statement WordTexts holds: of any word, any text and any base, digits and parsing are the document's. Conditions: none. -/
import Derived.Test.YtacbjgfngfamhaaTeP
import Derived.Test.YtacbjgfngfamhaaLaw
import Derived.ChangeMaps5
namespace Go.Proofs.Ytacbjgfngfamhaa
open Go Go.RowKit Go.Eng Go.ChangeShapes Go.WideShapes Go.ChangeAt Go.Joins Go.Deep
def shunterlaw01_WordTexts_k2 (a : BitVec 128) (s : List UInt8) (base : Int) (x1_ : Bool) : Option (Bool) := if (x1_) = true then if (textI (base) (a)) = ([]) then if ((parseR (s) (base)).2 : Int) = 1 then some (true) else some (false) else some (false) else ck (2 ≤ base ∧ base ≤ 16) (if (textI (base) (a)) = (textI (base) (a)) then some (true) else some (false))
def shunterlaw01_WordTexts_m (N : Nat) (a : BitVec 128) (s : List UInt8) (base : Int) : Option (Bool) := if (((s).length : Int) : Int) > 300 then some (true) else ck ((s).length ≤ 4611686018427387904) (ck ((s).length ≤ 4611686018427387904) (if ((parseR (s) (base)).2 : Int) ≠ (parseR (s) (base)).2 then some (false) else if ((parseR (s) (base)).1) = ((parseR (s) (base)).1) then if (base : Int) < 2 then shunterlaw01_WordTexts_k2 a s base (true) else shunterlaw01_WordTexts_k2 a s base (decide ((base : Int) > 16)) else some (false)))
set_option maxRecDepth 100000 in
set_option maxHeartbeats 400000 in
theorem shunterlaw01_WordTexts_g (N : Nat) (a : BitVec 128) (s : List UInt8) (base : Int) (r : Bool) (hM : shunterlaw01_WordTexts_m N a s base = some r) : Gives Try.prog 7 #[Value.agg #[U (hi (a)), U (lo (a))], Value.string (⟨(s).toArray⟩), Value.int .i64 (base)] (Value.bool (r)) := by
  unfold shunterlaw01_WordTexts_m at hM
  refine gives_of_A follows Try.func7 rfl 64 rfl (upd (upd (upd (fun _ => undef) 2 (Value.int .i64 (base))) 1 (Value.string (⟨(s).toArray⟩))) 0 (Value.agg #[U (hi (a)), U (lo (a))])) (by funext k; match k with | 0 => rfl | 1 => rfl | 2 => rfl | k + 3 => rfl) (fun base0_ => ?_)
  refine A_seq fun K1 hK1 => ?_
  refine A_reg ?_
  refine r_a (24, #[U (hi (a)), U (lo (a))]) rfl rfl rfl (fun b2 => ?_) (.inr rfl)
  refine r_v (Value.bool (false)) rfl rfl rfl rfl ?_
  refine lx_nil ?_
  refine hK1 _ _ ?_; try clear hK1 K1
  refine A_seq fun K3 hK3 => ?_
  refine A_seq fun K4 hK4 => ?_
  refine A_reg ?_
  refine r_v (Value.string (⟨(s).toArray⟩)) rfl rfl rfl rfl ?_
  refine r_v (Value.int .i64 (((s).length : Int))) rfl rfl rfl (ev_lenS rfl rfl rfl) ?_
  refine r_v (Value.bool (decide ((((s).length : Int) : Int) > 300))) rfl rfl rfl rfl ?_
  refine lx_nil ?_
  refine hK4 _ _ ?_; try clear hK4 K4
  refine A_cond (decide ((((s).length : Int) : Int) > 300)) rfl (fun hc5 => ?_) (fun hc5 => ?_)
  · have hM := ifp (of_decide_eq_true hc5) hM
    refine A_seq fun K6 hK6 => ?_
    refine A_reg ?_
    refine r_c (Value.bool (true)) rfl _ _ (ev_callF rfl call_14 rfl) lives_g ?_
    refine r_v (Value.bool (true)) rfl rfl rfl rfl ?_
    refine lx_nil ?_
    refine hK6 _ _ ?_; try clear hK6 K6
    obtain rfl := Option.some.inj hM
    refine A_ret (fun hn => ends_eq (v0 := Value.bool (true)) rfl (res1 rfl))
  · have hM := ifn (of_decide_eq_false hc5) hM
    refine A_skip ?_
    refine hK3 _ _ ?_; try clear hK3 K3
    refine A_seq fun K7 hK7 => ?_
    refine A_reg ?_
    refine r_v (Value.string (⟨(s).toArray⟩)) rfl rfl rfl rfl ?_
    refine r_v (Value.int .i64 (base)) rfl rfl rfl rfl ?_
    obtain ⟨ck8, hM⟩ := ck_some hM
    refine r_c (Value.tuple #[Value.agg #[U (hi ((parseR (s) (base)).1)), U (lo ((parseR (s) (base)).1))], Value.int .i64 ((parseR (s) (base)).2)]) rfl _ _ (ev_callF rfl call_33 rfl) (parse_t (s) (base) ck8) ?_
    refine r_v (Value.tuple #[Value.agg #[U (hi ((parseR (s) (base)).1)), U (lo ((parseR (s) (base)).1))], Value.int .i64 ((parseR (s) (base)).2)]) rfl rfl rfl rfl ?_
    refine r_v (Value.agg #[U (hi ((parseR (s) (base)).1)), U (lo ((parseR (s) (base)).1))]) rfl rfl rfl rfl ?_
    refine r_v (Value.int .i64 ((parseR (s) (base)).2)) rfl rfl rfl rfl ?_
    refine r_a (24, #[U (0#64), U (0#64)]) rfl rfl rfl (fun b9 => ?_) (.inr rfl)
    refine r_s [(b9, 24, #[U (hi ((parseR (s) (base)).1)), U (lo ((parseR (s) (base)).1))]), (b2, 24, #[U (hi (a)), U (lo (a))])] 0 _ _ _ (#[U (0#64), U (0#64)]) (#[U (hi ((parseR (s) (base)).1)), U (lo ((parseR (s) (base)).1))]) (#[U (hi ((parseR (s) (base)).1)), U (lo ((parseR (s) (base)).1))]) rfl rfl rfl rfl (.of rfl rfl) rfl rfl ?_
    refine r_v (Value.int .i64 ((parseR (s) (base)).2)) rfl rfl rfl rfl ?_
    refine lx_nil ?_
    refine hK7 _ _ ?_; try clear hK7 K7
    refine A_seq fun K10 hK10 => ?_
    refine A_reg ?_
    refine r_v (Value.string (⟨(s).toArray⟩)) rfl rfl rfl rfl ?_
    refine r_v (Value.int .i64 (base)) rfl rfl rfl rfl ?_
    obtain ⟨ck11, hM⟩ := ck_some hM
    refine r_c (Value.tuple #[Value.agg (rowF (BitVec.getLsbD ((parseR (s) (base)).1))), Value.int .i64 ((parseR (s) (base)).2)]) rfl _ _ (ev_callF rfl call_34 rfl) (rparse_t (s) (base) ck11) ?_
    refine r_v (Value.tuple #[Value.agg (rowF (BitVec.getLsbD ((parseR (s) (base)).1))), Value.int .i64 ((parseR (s) (base)).2)]) rfl rfl rfl rfl ?_
    refine r_v (Value.agg (rowF (BitVec.getLsbD ((parseR (s) (base)).1)))) rfl rfl rfl rfl ?_
    refine r_v (Value.int .i64 ((parseR (s) (base)).2)) rfl rfl rfl rfl ?_
    refine r_a (28, rowF (BitVec.getLsbD (0#128))) rfl rfl ((zrow z_28).trans (congrArg (fun x => some (28, x)) row_zero)) (fun b12 => ?_) (.inr rfl)
    refine r_s [(b12, 28, rowF (BitVec.getLsbD ((parseR (s) (base)).1))), (b9, 24, #[U (hi ((parseR (s) (base)).1)), U (lo ((parseR (s) (base)).1))]), (b2, 24, #[U (hi (a)), U (lo (a))])] 0 _ _ _ (rowF (BitVec.getLsbD (0#128))) (rowF (BitVec.getLsbD ((parseR (s) (base)).1))) (rowF (BitVec.getLsbD ((parseR (s) (base)).1))) rfl rfl rfl rfl (stok_rows rfl rfl _ _) (splice_rows _ _) rfl ?_
    refine r_v (Value.int .i64 ((parseR (s) (base)).2)) rfl rfl rfl rfl ?_
    refine lx_nil ?_
    refine hK10 _ _ ?_; try clear hK10 K10
    refine A_seq fun K13 hK13 => ?_
    refine A_seq fun K14 hK14 => ?_
    refine A_draw [] (by decide +kernel) (fun hn => sep_nil) ?_
    refine r_v (Value.int .i64 ((parseR (s) (base)).2)) rfl rfl rfl rfl ?_
    refine r_v (Value.int .i64 ((parseR (s) (base)).2)) rfl rfl rfl rfl ?_
    refine r_v (Value.bool ((((parseR (s) (base)).2 : Int) != (parseR (s) (base)).2))) rfl rfl rfl rfl ?_
    refine r_v (Value.bool ((((parseR (s) (base)).2 : Int) != (parseR (s) (base)).2))) rfl rfl rfl rfl ?_
    rcases hg15 : ((((parseR (s) (base)).2 : Int) != (parseR (s) (base)).2)) with _ | _
    · have hM := ifn (bne_f hg15) hM
      refine r_y rfl ?_
      refine r_l (Value.agg #[U (hi ((parseR (s) (base)).1)), U (lo ((parseR (s) (base)).1))]) 1 _ _ _ _ rfl rfl rfl rfl rfl ?_
      refine r_y rfl ?_
      refine r_c (Value.agg (rowF (BitVec.getLsbD ((parseR (s) (base)).1)))) rfl _ _ (ev_callF rfl call_11 rfl) (lof_g ((parseR (s) (base)).1)) ?_
      refine r_y rfl ?_
      refine r_l (Value.agg (rowF (BitVec.getLsbD ((parseR (s) (base)).1)))) 0 _ _ _ _ rfl rfl rfl rfl (ld_rows rfl rfl rfl _) ?_
      refine r_y rfl ?_
      refine r_v (Value.bool (!(((parseR (s) (base)).1) == ((parseR (s) (base)).1)))) rfl rfl rfl (ev_binNe rfl rfl eg_28 (eqrow_28 ((parseR (s) (base)).1) ((parseR (s) (base)).1))) ?_
      refine r_v (Value.bool (!(((parseR (s) (base)).1) == ((parseR (s) (base)).1)))) rfl rfl rfl rfl ?_
      refine lx_nil ?_
      refine hK14 _ _ ?_; try clear hK14 K14
      refine A_cond (!(((parseR (s) (base)).1) == ((parseR (s) (base)).1))) rfl (fun hc16 => ?_) (fun hc16 => ?_)
      · have hM := ifn (ne_of_beq_false (not_t hc16)) hM
        refine A_seq fun K17 hK17 => ?_
        refine A_reg ?_
        refine r_v (Value.bool (false)) rfl rfl rfl rfl ?_
        refine lx_nil ?_
        refine hK17 _ _ ?_; try clear hK17 K17
        obtain rfl := Option.some.inj hM
        refine A_ret (fun hn => ends_eq (v0 := Value.bool (false)) rfl (res1 rfl))
      · have hM := ifp (eq_of_beq (not_f hc16)) hM
        refine A_skip ?_
        refine hK13 _ _ ?_; try clear hK13 K13
        refine A_seq fun K18 hK18 => ?_
        refine A_cut (fun tt ll => ∃ (x1_ : Bool), (shunterlaw01_WordTexts_k2 a s base x1_ = some r) ∧ Is [(2, Value.int .i64 (base)), (3, Value.pointer (some ⟨b2, 0, none⟩)), (8, Value.int .i64 ((parseR (s) (base)).2)), (41, Value.bool (x1_))] [(b2, 24, #[U (hi (a)), U (lo (a))])] tt ll) ?_ ?_
        · refine A_reg ?_
          refine r_v (Value.int .i64 (base)) rfl rfl rfl rfl ?_
          refine r_v (Value.bool (decide ((base : Int) < 2))) rfl rfl rfl rfl ?_
          refine r_v (Value.bool (decide ((base : Int) < 2))) rfl rfl rfl rfl ?_
          rcases hg26 : (decide ((base : Int) < 2)) with _ | _
          · have hM := ifn (of_decide_eq_false hg26) hM
            refine r_y rfl ?_
            refine r_v (Value.int .i64 (base)) rfl rfl rfl rfl ?_
            refine r_y rfl ?_
            refine r_v (Value.bool (decide ((base : Int) > 16))) rfl rfl rfl rfl ?_
            refine r_v (Value.bool (decide ((base : Int) > 16))) rfl rfl rfl rfl ?_
            refine lx_nil ?_
            refine fg _ (List.Sublist.cons _ (List.Sublist.cons _ (List.Sublist.cons_cons _ (List.Sublist.slnil)))) ?_
            exact ⟨decide ((base : Int) > 16), hM, is_mk rfl rfl⟩
          · have hM := ifp (of_decide_eq_true hg26) hM
            refine r_n true rfl (by decide) rfl ?_
            refine r_n true rfl (by decide) rfl ?_
            refine r_v (Value.bool (true)) rfl rfl rfl rfl ?_
            refine lx_nil ?_
            refine fg _ (List.Sublist.cons _ (List.Sublist.cons _ (List.Sublist.cons_cons _ (List.Sublist.slnil)))) ?_
            exact ⟨true, hM, is_mk rfl rfl⟩
        · clear hM; rintro t l ⟨x1_, hM, ⟨T, rfl⟩, rfl⟩
          unfold shunterlaw01_WordTexts_k2 at hM
          refine A_cond (x1_) rfl (fun hc19 => ?_) (fun hc19 => ?_)
          · have hM := ifp hc19 hM
            refine A_seq fun K20 hK20 => ?_
            refine A_reg ?_
            refine r_l (Value.agg #[U (hi (a)), U (lo (a))]) 0 _ _ _ _ rfl rfl rfl rfl rfl ?_
            refine r_v (Value.int .i64 (base)) rfl rfl rfl rfl ?_
            refine r_c (Value.string (⟨(textI (base) (a)).toArray⟩)) rfl _ _ (ev_callF rfl call_35 rfl) (text_t (a) (base)) ?_
            refine r_v (Value.bool ((textI (base) (a)) == ([]))) rfl rfl rfl (ev_eqS rfl rfl) ?_
            refine r_v (Value.bool ((textI (base) (a)) == ([]))) rfl rfl rfl rfl ?_
            rcases hg21 : ((textI (base) (a)) == ([])) with _ | _
            · have hM := ifn (ne_of_beq_false hg21) hM
              refine r_n false rfl (by decide) rfl ?_
              refine r_n false rfl (by decide) rfl ?_
              refine r_v (Value.bool (false)) rfl rfl rfl rfl ?_
              refine r_v (Value.bool (false)) rfl rfl rfl rfl ?_
              refine r_n false rfl (by decide) rfl ?_
              refine r_v (Value.bool (false)) rfl rfl rfl rfl ?_
              refine r_v (Value.bool (false)) rfl rfl rfl rfl ?_
              refine lx_nil ?_
              refine hK20 _ _ ?_; try clear hK20 K20
              obtain rfl := Option.some.inj hM
              refine A_ret (fun hn => ends_eq (v0 := Value.bool (false)) rfl (res1 rfl))
            · have hM := ifp (eq_of_beq hg21) hM
              refine r_y rfl ?_
              refine r_v (Value.int .i64 ((parseR (s) (base)).2)) rfl rfl rfl rfl ?_
              refine r_y rfl ?_
              refine r_v (Value.bool ((((parseR (s) (base)).2 : Int) == 1))) rfl rfl rfl rfl ?_
              refine r_v (Value.bool ((((parseR (s) (base)).2 : Int) == 1))) rfl rfl rfl rfl ?_
              refine r_v (Value.bool ((((parseR (s) (base)).2 : Int) == 1))) rfl rfl rfl rfl ?_
              rcases hg22 : ((((parseR (s) (base)).2 : Int) == 1)) with _ | _
              · have hM := ifn (ne_of_beq_false hg22) hM
                refine r_n false rfl (by decide) rfl ?_
                refine r_v (Value.bool (false)) rfl rfl rfl rfl ?_
                refine r_v (Value.bool (false)) rfl rfl rfl rfl ?_
                refine lx_nil ?_
                refine hK20 _ _ ?_; try clear hK20 K20
                obtain rfl := Option.some.inj hM
                refine A_ret (fun hn => ends_eq (v0 := Value.bool (false)) rfl (res1 rfl))
              · have hM := ifp (eq_of_beq hg22) hM
                refine r_y rfl ?_
                refine r_c (Value.bool (true)) rfl _ _ (ev_callF rfl call_14 rfl) lives_g ?_
                refine r_v (Value.bool (true)) rfl rfl rfl rfl ?_
                refine r_v (Value.bool (true)) rfl rfl rfl rfl ?_
                refine lx_nil ?_
                refine hK20 _ _ ?_; try clear hK20 K20
                obtain rfl := Option.some.inj hM
                refine A_ret (fun hn => ends_eq (v0 := Value.bool (true)) rfl (res1 rfl))
          · have hM := ifn (Bool.eq_false_iff.1 hc19) hM
            refine A_skip ?_
            refine hK18 _ _ ?_; try clear hK18 K18
            refine A_seq fun K23 hK23 => ?_
            refine A_draw [] (by decide +kernel) (fun hn => sep_nil) ?_
            refine r_l (Value.agg #[U (hi (a)), U (lo (a))]) 0 _ _ _ _ rfl rfl rfl rfl rfl ?_
            refine r_v (Value.int .i64 (base)) rfl rfl rfl rfl ?_
            refine r_c (Value.string (⟨(textI (base) (a)).toArray⟩)) rfl _ _ (ev_callF rfl call_35 rfl) (text_t (a) (base)) ?_
            refine r_l (Value.agg #[U (hi (a)), U (lo (a))]) 0 _ _ _ _ rfl rfl rfl rfl rfl ?_
            refine r_c (Value.agg (rowF (BitVec.getLsbD (a)))) rfl _ _ (ev_callF rfl call_11 rfl) (lof_g (a)) ?_
            refine r_v (Value.int .i64 (base)) rfl rfl rfl rfl ?_
            obtain ⟨ck24, hM⟩ := ck_some hM
            refine r_c (Value.string (⟨(textI (base) (a)).toArray⟩)) rfl _ _ (ev_callF rfl call_36 rfl) (rtext_t (a) (base) ck24) ?_
            refine r_v (Value.bool ((textI (base) (a)) == (textI (base) (a)))) rfl rfl rfl (ev_eqS rfl rfl) ?_
            refine r_v (Value.bool ((textI (base) (a)) == (textI (base) (a)))) rfl rfl rfl rfl ?_
            rcases hg25 : ((textI (base) (a)) == (textI (base) (a))) with _ | _
            · have hM := ifn (ne_of_beq_false hg25) hM
              refine r_n false rfl (by decide) rfl ?_
              refine r_v (Value.bool (false)) rfl rfl rfl rfl ?_
              refine r_v (Value.bool (false)) rfl rfl rfl rfl ?_
              refine lx_nil ?_
              refine hK23 _ _ ?_; try clear hK23 K23
              obtain rfl := Option.some.inj hM
              refine A_ret (fun hn => ends_eq (v0 := Value.bool (false)) rfl (res1 rfl))
            · have hM := ifp (eq_of_beq hg25) hM
              refine r_y rfl ?_
              refine r_c (Value.bool (true)) rfl _ _ (ev_callF rfl call_14 rfl) lives_g ?_
              refine r_v (Value.bool (true)) rfl rfl rfl rfl ?_
              refine r_v (Value.bool (true)) rfl rfl rfl rfl ?_
              refine lx_nil ?_
              refine hK23 _ _ ?_; try clear hK23 K23
              obtain rfl := Option.some.inj hM
              refine A_ret (fun hn => ends_eq (v0 := Value.bool (true)) rfl (res1 rfl))
    · have hM := ifp (bne_iff_ne.1 hg15) hM
      refine r_n true rfl (by decide) rfl ?_
      refine r_n true rfl (by decide) rfl ?_
      refine r_n true rfl (by decide) rfl ?_
      refine r_n true rfl (by decide) rfl ?_
      refine r_v (Value.bool (true)) rfl rfl rfl rfl ?_
      refine lx_nil ?_
      refine hK14 _ _ ?_; try clear hK14 K14
      refine A_cond true rfl (fun _ => ?_) (fun h => nomatch h)
      refine A_seq fun K27 hK27 => ?_
      refine A_reg ?_
      refine r_v (Value.bool (false)) rfl rfl rfl rfl ?_
      refine lx_nil ?_
      refine hK27 _ _ ?_; try clear hK27 K27
      obtain rfl := Option.some.inj hM
      refine A_ret (fun hn => ends_eq (v0 := Value.bool (false)) rfl (res1 rfl))
theorem wordTexts_s (N : Nat) (x : BitVec 128) (s : List UInt8) (b : Int) : shunterlaw01_WordTexts_m N x s b = some true := by
  unfold shunterlaw01_WordTexts_m
  split
  · rfl
  · rename_i h
    rw [ck_pos _ (by omega), ck_pos _ (by omega), if_neg (by simp), if_pos rfl]
    unfold shunterlaw01_WordTexts_k2
    have hp : ∀ h : b < 2 ∨ 16 < b, textI b x = [] ∧ parseR s b = (0#128, 1) := fun h => ⟨if_neg (by omega), if_pos h⟩
    by_cases h1 : b < 2
    · obtain ⟨e1, e2⟩ := hp (.inl h1)
      rw [if_pos h1, if_pos rfl, if_pos e1, e2, if_pos rfl]
    · rw [if_neg h1]
      by_cases h2 : b > 16
      · obtain ⟨e1, e2⟩ := hp (.inr h2)
        rw [if_pos (decide_eq_true h2), if_pos e1, e2, if_pos rfl]
      · rw [if_neg (fun h => h2 (of_decide_eq_true h)), ck_pos _ (by omega), if_pos rfl]
theorem wordTexts_w (x : BitVec 128) (s : ByteArray) (b : Int) : Gives Try.prog 7 #[Value.agg #[U (hi (x)), U (lo (x))], Value.string s, Value.int .i64 b] (Value.bool true) := shunterlaw01_WordTexts_g 0 x s.data.toList b true (wordTexts_s 0 x s.data.toList b)
set_option maxRecDepth 100000 in
theorem wordTexts_lifted (os : Os) (started : os.Started) (H : Type) (enc : TypeId × Value → H) :
    ReturnsInHanded {} Try.checked os 7 .any (Rows.wordTextsSpec.pre6 enc Try.prog Try.f7 Rows.wordTextsRow.domain false) (Rows.wordTextsSpec.post enc Try.prog Try.f7 false true false false) := by
  refine returnsInHanded_of_change (C := Try.checked) own started (by kernel_rfl) Try.func7
    (ChangeSpec.witness6 (enc := enc) (C := Try.checked) false ⟨#[], #[.agg #[.int .u64 0, .int .u64 0], .string ⟨#[]⟩, .int .i64 0], []⟩ 8 (by kernel_rfl) (by kernel_rfl) (by kernel_rfl) (by kernel_rfl)) ?_
  intro W base args ds gs before hval0 hW _ _
  have hval : ∀ (j : Nat) t v, Try.f7.params[j]? = some t → args[j]? = some v → Value.okWide Try.prog W .any base t v := hval0
  have hW' := hW
  obtain ⟨p, q, hA0, hV, rfl, _, _⟩ := hW
  have hA : DataW.TrodAll enc Try.prog W 0 (fun _ => true) true Try.f7.params.toList args.toList ds p := hA0
  rw [Try.params7] at hA hval
  obtain ⟨v0, v1, v2, d0, d1, d2, p0, p1, p2, rfl, rfl, rfl, h0, h1, h2⟩ := trodAll_three hA
  obtain ⟨rfl, rfl⟩ := trodVars_none hV
  obtain ⟨x0, rfl⟩ := open_word (P := Try.prog) (t := 24) rfl (by kernel_rfl) (by kernel_rfl) rfl rfl (hval 0 24 v0 rfl rfl) h0
  obtain ⟨x1, rfl, rfl, rfl, ws1⟩ := Go.ChangeMaps.open_string (P := Try.prog) (t := 9) rfl (hval 1 9 v1 rfl rfl) h1
  obtain ⟨x2, rfl, rfl, rfl, wa2⟩ := open_int (P := Try.prog) (t := 3) rfl (hval 2 3 v2 rfl rfl) h2
  obtain ⟨lo2, hi2⟩ := i64_of_wf wa2
  refine ((wordTexts_w x0 x1 x2) W).mono fun e W' ⟨he, hb⟩ => ?_
  subst he
  exact ⟨_, rfl, law_post (f := Try.f7) laidOut (by kernel_rfl) rfl (by rfl) rfl hW' rfl hb⟩

theorem wordTexts_holds : Rows.WordTextsSaid :=
  OpenClaim.holds_of_wide 7 Try.f7 rfl rfl rfl rfl rfl rfl rfl ⟨rfl, rfl, rfl, rfl, rfl⟩ rfl rfl rfl rfl rfl (by kernel_rfl) Try.func7 (by kernel_rfl)
    (of_decide_eq_true (by kernel_rfl)) (by unfold Func.isWrapper; first | (rw [if_pos (by decide +kernel)]; kernel_rfl) | (rw [if_neg (by decide +kernel)]; exact ⟨rfl, rfl⟩))
    (fun os started H enc _ => wordTexts_lifted os started H enc)

end Go.Proofs.Ytacbjgfngfamhaa
