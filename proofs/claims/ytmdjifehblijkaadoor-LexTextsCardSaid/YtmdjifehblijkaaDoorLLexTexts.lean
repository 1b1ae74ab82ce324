/- models of functions and their walks -/
import Derived.Test.YtmdjifehblijkaaDoorBc
namespace Go.Proofs.YtmdjifehblijkaaDoor
open Go Go.RowKit Go.Eng
def shunterlaw06_LexTexts_k6 (N : Nat) (l' : List (Int × List UInt8 × Int × Int × BitVec 128 × Int)) (m1_ : List (Int × List UInt8 × Int × Int × BitVec 128 × Int)) (i3_ : Int) (rec_shunterlaw06_LexTexts_l4 : List (Int × List UInt8 × Int × Int × BitVec 128 × Int) → List UInt8 → Int → Option (Bool)) (want5_ : List UInt8) : Option (Bool) := ck (0 ≤ i3_ ∧ i3_ < ((l').length : Int)) ((shunterref06_Text_m N (((l')[(i3_).toNat]!).1) (((l')[(i3_).toNat]!).2.1) (((l')[(i3_).toNat]!).2.2.1) (((l')[(i3_).toNat]!).2.2.2.1) (((l')[(i3_).toNat]!).2.2.2.2.1) (((l')[(i3_).toNat]!).2.2.2.2.2)).bind fun r41 => ck (((want5_).length : Int) + ((r41).length : Int) ≤ 9223372036854775807) ((lex_Text_m N (((l')[(i3_).toNat]!).1) (((l')[(i3_).toNat]!).2.1) (((l')[(i3_).toNat]!).2.2.1) (((l')[(i3_).toNat]!).2.2.2.1) (((l')[(i3_).toNat]!).2.2.2.2.1) (((l')[(i3_).toNat]!).2.2.2.2.2)).bind fun r45 => ck (0 ≤ i3_ ∧ i3_ < ((l').length : Int)) ((shunterref06_Text_m N (((l')[(i3_).toNat]!).1) (((l')[(i3_).toNat]!).2.1) (((l')[(i3_).toNat]!).2.2.1) (((l')[(i3_).toNat]!).2.2.2.1) (((l')[(i3_).toNat]!).2.2.2.2.1) (((l')[(i3_).toNat]!).2.2.2.2.2)).bind fun r48 => if (r45) ≠ (r48) then some (false) else ck ((-9223372036854775808 ≤ (i3_ + 1) ∧ (i3_ + 1) ≤ 9223372036854775807)) (rec_shunterlaw06_LexTexts_l4 ((m1_ ++ ([(((l')[(i3_).toNat]!).1, ((l')[(i3_).toNat]!).2.1, ((l')[(i3_).toNat]!).2.2.1, ((l')[(i3_).toNat]!).2.2.2.1, ((l')[(i3_).toNat]!).2.2.2.2.1, ((l')[(i3_).toNat]!).2.2.2.2.2)]))) ((want5_) ++ (r41)) ((i3_ + 1))))))
def shunterlaw06_LexTexts_l4 (N : Nat) (l' : List (Int × List UInt8 × Int × Int × BitVec 128 × Int)) : Nat → List (Int × List UInt8 × Int × Int × BitVec 128 × Int) → List UInt8 → Int → Option (Bool)
  | 0, _, _, _ => none
  | n12 + 1, m1_, want2_, i3_ => if (i3_ : Int) < ((l').length : Int) then ck (0 ≤ i3_ ∧ i3_ < ((l').length : Int)) (if (((((l')[(i3_).toNat]!).2.1).length : Int) : Int) > 200 then (shunterlaw06_lives_m N ).bind fun r22 => some (r22) else ck (0 ≤ i3_ ∧ i3_ < ((l').length : Int)) (ck (0 ≤ i3_ ∧ i3_ < ((l').length : Int)) (ck (0 ≤ i3_ ∧ i3_ < ((l').length : Int)) (ck (0 ≤ i3_ ∧ i3_ < ((l').length : Int)) (ck (0 ≤ i3_ ∧ i3_ < ((l').length : Int)) (ck ((m1_).length + ([(((l')[(i3_).toNat]!).1, ((l')[(i3_).toNat]!).2.1, ((l')[(i3_).toNat]!).2.2.1, ((l')[(i3_).toNat]!).2.2.2.1, ((l')[(i3_).toNat]!).2.2.2.2.1, ((l')[(i3_).toNat]!).2.2.2.2.2)]).length ≤ 2199023255552) (if (i3_ : Int) > 0 then ck (((want2_).length : Int) + ((([32] : List UInt8)).length : Int) ≤ 9223372036854775807) (shunterlaw06_LexTexts_k6 N l' m1_ i3_ (shunterlaw06_LexTexts_l4 N l' n12) ((want2_) ++ (([32] : List UInt8)))) else shunterlaw06_LexTexts_k6 N l' m1_ i3_ (shunterlaw06_LexTexts_l4 N l' n12) (want2_)))))))) else (lex_Join_m N m1_).bind fun r57 => if (r57) = (want2_) then (shunterlaw06_lives_m N ).bind fun r60 => some (r60) else some (false)
def shunterlaw06_LexTexts_m (N : Nat) (l' : List (Int × List UInt8 × Int × Int × BitVec 128 × Int)) : Option (Bool) := if (((l').length : Int) : Int) > 60 then (shunterlaw06_lives_m N ).bind fun r6 => some (r6) else shunterlaw06_LexTexts_l4 N l' N ([]) ([]) (0)
set_option maxRecDepth 100000 in
set_option maxHeartbeats 8000000 in
theorem shunterlaw06_LexTexts_g (N : Nat) (l' : List (Int × List UInt8 × Int × Int × BitVec 128 × Int)) (r : Bool) (hM : shunterlaw06_LexTexts_m N l' = some r) (ro : Addr → Option Value) (l'v : Value) (hl' : Rd enc_44 ro l'v l') : DoesI Tryd.prog 4 #[l'v] MemI ro [] (pV (Value.bool (r))) := by
  unfold shunterlaw06_LexTexts_m at hM
  refine doesI_of_A follows Tryd.func4 rfl 81 rfl (upd (fun _ => undef) 0 (l'v)) (by funext k; match k with | 0 => rfl | k + 1 => rfl) memI_kept (fun base0_ => ?_)
  refine A_seq fun K1 hK1 => ?_
  refine A_reg ?_
  refine r_v (Value.bool (false)) rfl rfl rfl rfl ?_
  refine lx_nil ?_
  refine hK1 _ _ ?_; try clear hK1 K1
  refine A_seq fun K2 hK2 => ?_
  refine A_seq fun K3 hK3 => ?_
  refine A_reg ?_
  refine r_v (l'v) rfl rfl rfl rfl ?_
  refine r_v (Value.int .i64 (((l').length : Int))) rfl rfl rfl (ev_lenSl rfl rfl rfl (Rd.shp hl')) ?_
  refine r_v (Value.bool (decide ((((l').length : Int) : Int) > 60))) rfl rfl rfl rfl ?_
  refine lx_nil ?_
  refine hK3 _ _ ?_; try clear hK3 K3
  refine A_cond (decide ((((l').length : Int) : Int) > 60)) rfl (fun hc4 => ?_) (fun hc4 => ?_)
  · replace hM := ifp (of_decide_eq_true hc4) hM
    refine A_seq fun K5 hK5 => ?_
    refine A_reg ?_
    replace hM := bind_sm hM; obtain ⟨r6, hr7, hM⟩ := hM
    refine r_c (Value.bool (r6)) rfl _ _ (ev_callF rfl call_6 rfl) (shunterlaw06_lives_g N  _ hr7) ?_
    refine r_v (Value.bool (r6)) rfl rfl rfl rfl ?_
    refine lx_nil ?_
    refine hK5 _ _ ?_; try clear hK5 K5
    obtain rfl := Option.some.inj hM
    refine A_ret (fun hn => endsV (v0 := Value.bool (r6)) rfl (res1 rfl))
  · replace hM := ifn (of_decide_eq_false hc4) hM
    refine A_skip ?_
    refine hK2 _ _ ?_; try clear hK2 K2
    refine A_seq fun K8 hK8 => ?_
    refine A_reg ?_
    refine r_v (Value.slice none 0 0) rfl rfl rfl rfl ?_
    refine lx_nil ?_
    refine hK8 _ _ ?_; try clear hK8 K8
    refine A_seq fun K9 hK9 => ?_
    refine A_reg ?_
    refine r_v (Value.string (⟨#[]⟩)) rfl rfl rfl rfl ?_
    refine lx_nil ?_
    refine hK9 _ _ ?_; try clear hK9 K9
    refine A_seq fun K10 hK10 => ?_
    refine A_seq fun K11 hK11 => ?_
    refine A_reg ?_
    refine r_v (Value.int .i64 (0)) rfl rfl rfl rfl ?_
    refine lx_nil ?_
    refine hK11 _ _ ?_; try clear hK11 K11
    refine A_block ?_
    refine A_forget _ (Sub.pickE (Ls := [[]]) (Ls0 := []) rfl [0] rfl) ?_
    refine A_loop (fun tt ll nn => ∃ (n12 : Nat) (m1_ : List (Int × List UInt8 × Int × Int × BitVec 128 × Int)) (want2_ : List UInt8) (i3_ : Int), (shunterlaw06_LexTexts_l4 N l' n12 m1_ want2_ i3_ = some r) ∧ ∃ (vm1_ : Value) (Sm1_ : List Bl), Sl 47 enc_47 vm1_ m1_ Sm1_ ∧ Is [(0, l'v), (3, vm1_), (4, Value.string (⟨(want2_).toArray⟩)), (5, Value.int .i64 (i3_))] (List.flatten [Sm1_]) tt ll ∧ nn = n12 + 1) (N + 1) ?_ ?_
    · exact ⟨N, [], [], 0, hM, Value.slice none 0 0, [], Sl.nil, is_mk rfl rfl, rfl⟩
    · clear hM; rintro t l _ ⟨n12, m1_, want2_, i3_, hM, vm1_, Sm1_, hm1_, ⟨⟨T, rfl⟩, rfl⟩, rfl⟩
      rcases n12 with _ | n12
      · exact absurd hM (by simp [shunterlaw06_LexTexts_l4])
      rw [shunterlaw06_LexTexts_l4] at hM
      refine A_seq fun K13 hK13 => ?_
      refine A_seq fun K14 hK14 => ?_
      refine A_reg ?_
      refine r_v (Value.int .i64 (i3_)) rfl rfl rfl rfl ?_
      refine r_v (l'v) rfl rfl rfl rfl ?_
      refine r_v (Value.int .i64 (((l').length : Int))) rfl rfl rfl (ev_lenSl rfl rfl rfl (Rd.shp hl')) ?_
      refine r_v (Value.bool (decide ((i3_ : Int) < ((l').length : Int)))) rfl rfl rfl rfl ?_
      refine lx_nil ?_
      refine hK14 _ _ ?_; try clear hK14 K14
      refine A_cond (decide ((i3_ : Int) < ((l').length : Int))) rfl (fun hc15 => ?_) (fun hc15 => ?_)
      · replace hM := ifp (of_decide_eq_true hc15) hM
        refine A_skip ?_
        refine hK13 _ _ ?_; try clear hK13 K13
        refine A_seq fun K16 hK16 => ?_
        refine A_block ?_
        refine A_seq fun K17 hK17 => ?_
        refine A_seq fun K18 hK18 => ?_
        refine A_reg ?_
        refine r_v (l'v) rfl rfl rfl rfl ?_
        refine r_v (Value.int .i64 (i3_)) rfl rfl rfl rfl ?_
        replace hM := ck_some hM; obtain ⟨ck19, hM⟩ := hM
        refine r_v (elA l'v ((i3_).toNat * 7)) rfl rfl rfl (ev_v (ev_idxSl rfl rfl rfl (Rd.shp hl') ck19)) ?_
        refine r_v (elA l'v ((i3_).toNat * 7 + 1)) rfl rfl rfl (ev_v (ev_fieldX rfl rfl rfl rfl rfl rfl (Rd.shp hl') (pos_of ck19))) ?_
        refine r_le (Value.string (⟨(((l')[(i3_).toNat]!).2.1).toArray⟩)) (En := enc_44) ((l')[(i3_).toNat]!) ((i3_).toNat) 1 rfl rfl (rd_ro hl') (get_of ck19) rfl ?_
        refine r_v (Value.int .i64 (((((l')[(i3_).toNat]!).2.1).length : Int))) rfl rfl rfl (ev_lenS rfl rfl rfl) ?_
        refine r_v (Value.bool (decide ((((((l')[(i3_).toNat]!).2.1).length : Int) : Int) > 200))) rfl rfl rfl rfl ?_
        refine lx_nil ?_
        refine hK18 _ _ ?_; try clear hK18 K18
        refine A_cond (decide ((((((l')[(i3_).toNat]!).2.1).length : Int) : Int) > 200)) rfl (fun hc20 => ?_) (fun hc20 => ?_)
        · replace hM := ifp (of_decide_eq_true hc20) hM
          refine A_seq fun K21 hK21 => ?_
          refine A_reg ?_
          replace hM := bind_sm hM; obtain ⟨r22, hr23, hM⟩ := hM
          refine r_c (Value.bool (r22)) rfl _ _ (ev_callF rfl call_6 rfl) (shunterlaw06_lives_g N  _ hr23) ?_
          refine r_v (Value.bool (r22)) rfl rfl rfl rfl ?_
          refine lx_nil ?_
          refine hK21 _ _ ?_; try clear hK21 K21
          obtain rfl := Option.some.inj hM
          refine A_ret (fun hn => endsV (v0 := Value.bool (r22)) rfl (res1 rfl))
        · replace hM := ifn (of_decide_eq_false hc20) hM
          refine A_skip ?_
          refine hK17 _ _ ?_; try clear hK17 K17
          refine A_seq fun K24 hK24 => ?_
          refine A_draw [] (by decide +kernel) (fun hn => sep_nil) ?_
          refine r_v (l'v) rfl rfl rfl rfl ?_
          refine r_v (Value.int .i64 (i3_)) rfl rfl rfl rfl ?_
          replace hM := ck_some hM; obtain ⟨ck25, hM⟩ := hM
          refine r_v (elA l'v ((i3_).toNat * 7)) rfl rfl rfl (ev_v (ev_idxSl rfl rfl rfl (Rd.shp hl') ck25)) ?_
          refine r_v (elA l'v ((i3_).toNat * 7 + 0)) rfl rfl rfl (ev_v (ev_fieldX rfl rfl rfl rfl rfl rfl (Rd.shp hl') (pos_of ck25))) ?_
          refine r_le (Value.int .i64 (((l')[(i3_).toNat]!).1)) (En := enc_44) ((l')[(i3_).toNat]!) ((i3_).toNat) 0 rfl rfl (rd_ro hl') (get_of ck25) rfl ?_
          refine r_v (l'v) rfl rfl rfl rfl ?_
          refine r_v (Value.int .i64 (i3_)) rfl rfl rfl rfl ?_
          replace hM := ck_some hM; obtain ⟨ck26, hM⟩ := hM
          refine r_v (elA l'v ((i3_).toNat * 7)) rfl rfl rfl (ev_v (ev_idxSl rfl rfl rfl (Rd.shp hl') ck26)) ?_
          refine r_v (elA l'v ((i3_).toNat * 7 + 1)) rfl rfl rfl (ev_v (ev_fieldX rfl rfl rfl rfl rfl rfl (Rd.shp hl') (pos_of ck26))) ?_
          refine r_le (Value.string (⟨(((l')[(i3_).toNat]!).2.1).toArray⟩)) (En := enc_44) ((l')[(i3_).toNat]!) ((i3_).toNat) 1 rfl rfl (rd_ro hl') (get_of ck26) rfl ?_
          refine r_v (l'v) rfl rfl rfl rfl ?_
          refine r_v (Value.int .i64 (i3_)) rfl rfl rfl rfl ?_
          replace hM := ck_some hM; obtain ⟨ck27, hM⟩ := hM
          refine r_v (elA l'v ((i3_).toNat * 7)) rfl rfl rfl (ev_v (ev_idxSl rfl rfl rfl (Rd.shp hl') ck27)) ?_
          refine r_v (elA l'v ((i3_).toNat * 7 + 2)) rfl rfl rfl (ev_v (ev_fieldX rfl rfl rfl rfl rfl rfl (Rd.shp hl') (pos_of ck27))) ?_
          refine r_le (Value.int .i64 (((l')[(i3_).toNat]!).2.2.1)) (En := enc_44) ((l')[(i3_).toNat]!) ((i3_).toNat) 2 rfl rfl (rd_ro hl') (get_of ck27) rfl ?_
          refine r_v (l'v) rfl rfl rfl rfl ?_
          refine r_v (Value.int .i64 (i3_)) rfl rfl rfl rfl ?_
          replace hM := ck_some hM; obtain ⟨ck28, hM⟩ := hM
          refine r_v (elA l'v ((i3_).toNat * 7)) rfl rfl rfl (ev_v (ev_idxSl rfl rfl rfl (Rd.shp hl') ck28)) ?_
          refine r_v (elA l'v ((i3_).toNat * 7 + 3)) rfl rfl rfl (ev_v (ev_fieldX rfl rfl rfl rfl rfl rfl (Rd.shp hl') (pos_of ck28))) ?_
          refine r_le (Value.agg #[Value.int .i64 (((l')[(i3_).toNat]!).2.2.2.1), U (hi (((l')[(i3_).toNat]!).2.2.2.2.1)), U (lo (((l')[(i3_).toNat]!).2.2.2.2.1))]) (En := enc_44) ((l')[(i3_).toNat]!) ((i3_).toNat) 3 rfl rfl (rd_ro hl') (get_of ck28) rfl ?_
          refine r_v (l'v) rfl rfl rfl rfl ?_
          refine r_v (Value.int .i64 (i3_)) rfl rfl rfl rfl ?_
          replace hM := ck_some hM; obtain ⟨ck29, hM⟩ := hM
          refine r_v (elA l'v ((i3_).toNat * 7)) rfl rfl rfl (ev_v (ev_idxSl rfl rfl rfl (Rd.shp hl') ck29)) ?_
          refine r_v (elA l'v ((i3_).toNat * 7 + 6)) rfl rfl rfl (ev_v (ev_fieldX rfl rfl rfl rfl rfl rfl (Rd.shp hl') (pos_of ck29))) ?_
          refine r_le (Value.int .i64 (((l')[(i3_).toNat]!).2.2.2.2.2)) (En := enc_44) ((l')[(i3_).toNat]!) ((i3_).toNat) 6 rfl rfl (rd_ro hl') (get_of ck29) rfl ?_
          refine r_v (Value.agg #[Value.int .i64 (((l')[(i3_).toNat]!).1), Value.string (⟨(((l')[(i3_).toNat]!).2.1).toArray⟩), Value.int .i64 (((l')[(i3_).toNat]!).2.2.1), Value.int .i64 (((l')[(i3_).toNat]!).2.2.2.1), U (hi (((l')[(i3_).toNat]!).2.2.2.2.1)), U (lo (((l')[(i3_).toNat]!).2.2.2.2.1)), Value.int .i64 (((l')[(i3_).toNat]!).2.2.2.2.2)]) rfl rfl rfl (ev_buildS rfl rfl rfl (by kernel_rfl)) ?_
          refine r_a (47, #[Value.int .i64 (0), Value.string (⟨#[]⟩), Value.int .i64 (0), Value.int .i64 (0), U (0#64), U (0#64), Value.int .i64 (0)]) rfl rfl rfl (fun b30 => ?_) (.inl rfl)
          refine r_sn (List.flatten [[(b30, 47, #[Value.int .i64 (((l')[(i3_).toNat]!).1), Value.string (⟨(((l')[(i3_).toNat]!).2.1).toArray⟩), Value.int .i64 (((l')[(i3_).toNat]!).2.2.1), Value.int .i64 (((l')[(i3_).toNat]!).2.2.2.1), U (hi (((l')[(i3_).toNat]!).2.2.2.2.1)), U (lo (((l')[(i3_).toNat]!).2.2.2.2.1)), Value.int .i64 (((l')[(i3_).toNat]!).2.2.2.2.2)])], Sm1_]) 0 _ _ _ (#[Value.int .i64 (0), Value.string (⟨#[]⟩), Value.int .i64 (0), Value.int .i64 (0), U (0#64), U (0#64), Value.int .i64 (0)]) (#[Value.int .i64 (((l')[(i3_).toNat]!).1), Value.string (⟨(((l')[(i3_).toNat]!).2.1).toArray⟩), Value.int .i64 (((l')[(i3_).toNat]!).2.2.1), Value.int .i64 (((l')[(i3_).toNat]!).2.2.2.1), U (hi (((l')[(i3_).toNat]!).2.2.2.2.1)), U (lo (((l')[(i3_).toNat]!).2.2.2.2.1)), Value.int .i64 (((l')[(i3_).toNat]!).2.2.2.2.2)]) (#[Value.int .i64 (((l')[(i3_).toNat]!).1), Value.string (⟨(((l')[(i3_).toNat]!).2.1).toArray⟩), Value.int .i64 (((l')[(i3_).toNat]!).2.2.1), Value.int .i64 (((l')[(i3_).toNat]!).2.2.2.1), U (hi (((l')[(i3_).toNat]!).2.2.2.2.1)), U (lo (((l')[(i3_).toNat]!).2.2.2.2.1)), Value.int .i64 (((l')[(i3_).toNat]!).2.2.2.2.2)]) rfl rfl rfl rfl rfl (.of rfl rfl) rfl rfl ?_
          refine lx_nil ?_
          refine hK24 _ _ ?_; try clear hK24 K24
          refine A_gen [(0, l'v), (3, vm1_), (4, Value.string (⟨(want2_).toArray⟩)), (5, Value.int .i64 (i3_)), (6, Value.pointer (some ⟨b30, 0, none⟩))] rfl (fun T => ?_)
          refine A_seq fun K31 hK31 => ?_
          refine A_regC [(some 53, false), (some 54, true)] (conG Tryd.prog []) ?_
          refine r_v (vm1_) rfl rfl rfl rfl ?_
          refine r_l (Value.agg #[Value.int .i64 (((l')[(i3_).toNat]!).1), Value.string (⟨(((l')[(i3_).toNat]!).2.1).toArray⟩), Value.int .i64 (((l')[(i3_).toNat]!).2.2.1), Value.int .i64 (((l')[(i3_).toNat]!).2.2.2.1), U (hi (((l')[(i3_).toNat]!).2.2.2.2.1)), U (lo (((l')[(i3_).toNat]!).2.2.2.2.1)), Value.int .i64 (((l')[(i3_).toNat]!).2.2.2.2.2)]) 0 _ _ _ _ rfl rfl rfl rfl rfl ?_
          refine r_bs (cs0 := []) (Ls := [[(b30, 47, #[Value.int .i64 (((l')[(i3_).toNat]!).1), Value.string (⟨(((l')[(i3_).toNat]!).2.1).toArray⟩), Value.int .i64 (((l')[(i3_).toNat]!).2.2.1), Value.int .i64 (((l')[(i3_).toNat]!).2.2.2.1), U (hi (((l')[(i3_).toNat]!).2.2.2.2.1)), U (lo (((l')[(i3_).toNat]!).2.2.2.2.1)), Value.int .i64 (((l')[(i3_).toNat]!).2.2.2.2.2)])], Sm1_]) 47 enc_47 [(((l')[(i3_).toNat]!).1, ((l')[(i3_).toNat]!).2.1, ((l')[(i3_).toNat]!).2.2.1, ((l')[(i3_).toNat]!).2.2.2.1, ((l')[(i3_).toNat]!).2.2.2.2.1, ((l')[(i3_).toNat]!).2.2.2.2.2)] [Value.int .i64 (((l')[(i3_).toNat]!).1), Value.string (⟨(((l')[(i3_).toNat]!).2.1).toArray⟩), Value.int .i64 (((l')[(i3_).toNat]!).2.2.1), Value.int .i64 (((l')[(i3_).toNat]!).2.2.2.1), U (hi (((l')[(i3_).toNat]!).2.2.2.2.1)), U (lo (((l')[(i3_).toNat]!).2.2.2.2.1)), Value.int .i64 (((l')[(i3_).toNat]!).2.2.2.2.2)] [Value.int .i64 (0), Value.string (⟨#[]⟩), Value.int .i64 (0), Value.int .i64 (0), U (0#64), U (0#64), Value.int .i64 (0)] rfl rfl rfl rfl rfl rfl rfl (by kernel_rfl) (by kernel_rfl) rfl rfl rfl (fun s32 S33 H34 => ?_)
          replace hM := ck_some hM; obtain ⟨ck35, hM⟩ := hM
          refine r_app (cs0 := []) (Ls := [[(b30, 47, #[Value.int .i64 (((l')[(i3_).toNat]!).1), Value.string (⟨(((l')[(i3_).toNat]!).2.1).toArray⟩), Value.int .i64 (((l')[(i3_).toNat]!).2.2.1), Value.int .i64 (((l')[(i3_).toNat]!).2.2.2.1), U (hi (((l')[(i3_).toNat]!).2.2.2.2.1)), U (lo (((l')[(i3_).toNat]!).2.2.2.2.1)), Value.int .i64 (((l')[(i3_).toNat]!).2.2.2.2.2)])], Sm1_, S33]) 1 (En := enc_47) rfl rfl rfl rfl rfl hm1_ rfl (rd_own H34 (mem_chunk (Ls := [[(b30, 47, #[Value.int .i64 (((l')[(i3_).toNat]!).1), Value.string (⟨(((l')[(i3_).toNat]!).2.1).toArray⟩), Value.int .i64 (((l')[(i3_).toNat]!).2.2.1), Value.int .i64 (((l')[(i3_).toNat]!).2.2.2.1), U (hi (((l')[(i3_).toNat]!).2.2.2.2.1)), U (lo (((l')[(i3_).toNat]!).2.2.2.2.1)), Value.int .i64 (((l')[(i3_).toNat]!).2.2.2.2.2)])], Sm1_, S33]) (k := 2) rfl rfl)) rfl rfl rfl rfl rfl (app_b ck35 rfl) (app_m ck35 rfl) rfl (fun s36 S37 H38 => ?_)
          refine r_v (s36) rfl rfl rfl rfl ?_
          refine lx_nil ?_
          refine hK31 _ _ ?_; try clear hK31 K31
          refine A_cut (fun tt ll => ∃ (want5_ : List UInt8), (shunterlaw06_LexTexts_k6 N l' m1_ i3_ (shunterlaw06_LexTexts_l4 N l' n12) want5_ = some r) ∧ Is [(0, l'v), (3, s36), (4, Value.string (⟨(want5_).toArray⟩)), (5, Value.int .i64 (i3_)), (6, Value.pointer (some ⟨b30, 0, none⟩))] (List.flatten [[(b30, 47, #[Value.int .i64 (((l')[(i3_).toNat]!).1), Value.string (⟨(((l')[(i3_).toNat]!).2.1).toArray⟩), Value.int .i64 (((l')[(i3_).toNat]!).2.2.1), Value.int .i64 (((l')[(i3_).toNat]!).2.2.2.1), U (hi (((l')[(i3_).toNat]!).2.2.2.2.1)), U (lo (((l')[(i3_).toNat]!).2.2.2.2.1)), Value.int .i64 (((l')[(i3_).toNat]!).2.2.2.2.2)])], S37]) tt ll) ?_ ?_
          · refine A_seq fun K53 hK53 => ?_
            refine A_reg ?_
            refine r_v (Value.int .i64 (i3_)) rfl rfl rfl rfl ?_
            refine r_v (Value.bool (decide ((i3_ : Int) > 0))) rfl rfl rfl rfl ?_
            refine lx_nil ?_
            refine hK53 _ _ ?_; try clear hK53 K53
            refine A_cond (decide ((i3_ : Int) > 0)) rfl (fun hc54 => ?_) (fun hc54 => ?_)
            · replace hM := ifp (of_decide_eq_true hc54) hM
              refine A_reg ?_
              refine r_v (Value.string (⟨(want2_).toArray⟩)) rfl rfl rfl rfl ?_
              replace hM := ck_some hM; obtain ⟨ck55, hM⟩ := hM
              refine r_v (Value.string (⟨((want2_) ++ (([32] : List UInt8))).toArray⟩)) rfl rfl rfl (ev_addS ck55 rfl rfl) ?_
              refine r_v (Value.string (⟨((want2_) ++ (([32] : List UInt8))).toArray⟩)) rfl rfl rfl rfl ?_
              refine lx_nil ?_
              refine fg _ (Sub.pick [[(b30, 47, #[Value.int .i64 (((l')[(i3_).toNat]!).1), Value.string (⟨(((l')[(i3_).toNat]!).2.1).toArray⟩), Value.int .i64 (((l')[(i3_).toNat]!).2.2.1), Value.int .i64 (((l')[(i3_).toNat]!).2.2.2.1), U (hi (((l')[(i3_).toNat]!).2.2.2.2.1)), U (lo (((l')[(i3_).toNat]!).2.2.2.2.1)), Value.int .i64 (((l')[(i3_).toNat]!).2.2.2.2.2)])], S37, S33] [0, 1] rfl) ?_
              exact ⟨(want2_) ++ (([32] : List UInt8)), hM, is_mk rfl rfl⟩
            · replace hM := ifn (of_decide_eq_false hc54) hM
              refine A_skip ?_
              refine fg _ (Sub.pick [[(b30, 47, #[Value.int .i64 (((l')[(i3_).toNat]!).1), Value.string (⟨(((l')[(i3_).toNat]!).2.1).toArray⟩), Value.int .i64 (((l')[(i3_).toNat]!).2.2.1), Value.int .i64 (((l')[(i3_).toNat]!).2.2.2.1), U (hi (((l')[(i3_).toNat]!).2.2.2.2.1)), U (lo (((l')[(i3_).toNat]!).2.2.2.2.1)), Value.int .i64 (((l')[(i3_).toNat]!).2.2.2.2.2)])], S37, S33] [0, 1] rfl) ?_
              exact ⟨want2_, hM, is_mk rfl rfl⟩
          · clear hM; rintro t l ⟨want5_, hM, ⟨T, rfl⟩, rfl⟩
            unfold shunterlaw06_LexTexts_k6 at hM
            refine A_seq fun K39 hK39 => ?_
            refine A_reg ?_
            refine r_v (Value.string (⟨(want5_).toArray⟩)) rfl rfl rfl rfl ?_
            refine r_v (l'v) rfl rfl rfl rfl ?_
            refine r_v (Value.int .i64 (i3_)) rfl rfl rfl rfl ?_
            replace hM := ck_some hM; obtain ⟨ck40, hM⟩ := hM
            refine r_v (elA l'v ((i3_).toNat * 7)) rfl rfl rfl (ev_v (ev_idxSl rfl rfl rfl (Rd.shp hl') ck40)) ?_
            refine r_le (Value.agg #[Value.int .i64 (((l')[(i3_).toNat]!).1), Value.string (⟨(((l')[(i3_).toNat]!).2.1).toArray⟩), Value.int .i64 (((l')[(i3_).toNat]!).2.2.1), Value.int .i64 (((l')[(i3_).toNat]!).2.2.2.1), U (hi (((l')[(i3_).toNat]!).2.2.2.2.1)), U (lo (((l')[(i3_).toNat]!).2.2.2.2.1)), Value.int .i64 (((l')[(i3_).toNat]!).2.2.2.2.2)]) (En := enc_44) ((l')[(i3_).toNat]!) ((i3_).toNat) 0 rfl rfl (rd_ro hl') (get_of ck40) rfl ?_
            replace hM := bind_sm hM; obtain ⟨r41, hr42, hM⟩ := hM
            refine r_c (Value.string (⟨(r41).toArray⟩)) rfl _ _ (ev_callF rfl call_12 rfl) (shunterref06_Text_g N (((l')[(i3_).toNat]!).1) (((l')[(i3_).toNat]!).2.1) (((l')[(i3_).toNat]!).2.2.1) (((l')[(i3_).toNat]!).2.2.2.1) (((l')[(i3_).toNat]!).2.2.2.2.1) (((l')[(i3_).toNat]!).2.2.2.2.2) _ hr42) ?_
            replace hM := ck_some hM; obtain ⟨ck43, hM⟩ := hM
            refine r_v (Value.string (⟨((want5_) ++ (r41)).toArray⟩)) rfl rfl rfl (ev_addS ck43 rfl rfl) ?_
            refine r_v (Value.string (⟨((want5_) ++ (r41)).toArray⟩)) rfl rfl rfl rfl ?_
            refine lx_nil ?_
            refine hK39 _ _ ?_; try clear hK39 K39
            refine A_seq fun K44 hK44 => ?_
            refine A_drawR [(some 67, false)] (conG Tryd.prog [(67, fun v_ L_ U_ => ∀ u0_, lex_Text_m N (((l')[(i3_).toNat]!).1) (((l')[(i3_).toNat]!).2.1) (((l')[(i3_).toNat]!).2.2.1) (((l')[(i3_).toNat]!).2.2.2.1) (((l')[(i3_).toNat]!).2.2.2.2.1) (((l')[(i3_).toNat]!).2.2.2.2.2) = some u0_ → (pV (Value.string (⟨(u0_).toArray⟩))) v_ L_ U_)]) [] (by decide +kernel) (fun hn => sep_nil) ?_
            refine r_l (Value.agg #[Value.int .i64 (((l')[(i3_).toNat]!).1), Value.string (⟨(((l')[(i3_).toNat]!).2.1).toArray⟩), Value.int .i64 (((l')[(i3_).toNat]!).2.2.1), Value.int .i64 (((l')[(i3_).toNat]!).2.2.2.1), U (hi (((l')[(i3_).toNat]!).2.2.2.2.1)), U (lo (((l')[(i3_).toNat]!).2.2.2.2.1)), Value.int .i64 (((l')[(i3_).toNat]!).2.2.2.2.2)]) 0 _ _ _ _ rfl rfl rfl rfl rfl ?_
            replace hM := bind_sm hM; obtain ⟨r45, hr46, hM⟩ := hM
            refine r_gv (Value.string (⟨(r45).toArray⟩)) 13 _ rfl rfl rfl (ev_callF rfl call_13 rfl) (fun own_ nw_ hs_ => lex_Text_g N (((l')[(i3_).toNat]!).1) (((l')[(i3_).toNat]!).2.1) (((l')[(i3_).toNat]!).2.2.1) (((l')[(i3_).toNat]!).2.2.2.1) (((l')[(i3_).toNat]!).2.2.2.2.1) (((l')[(i3_).toNat]!).2.2.2.2.2) _ hr46 hs_.view ) (fun _ _ v_ L_ U_ => ⟨fun h_ => h_ _ hr46, fun h_ => by intro _ e_; cases Option.some.inj (e_.symm.trans hr46); exact h_⟩) ?_
            refine r_v (l'v) rfl rfl rfl rfl ?_
            refine r_v (Value.int .i64 (i3_)) rfl rfl rfl rfl ?_
            replace hM := ck_some hM; obtain ⟨ck47, hM⟩ := hM
            refine r_v (elA l'v ((i3_).toNat * 7)) rfl rfl rfl (ev_v (ev_idxSl rfl rfl rfl (Rd.shp hl') ck47)) ?_
            refine r_le (Value.agg #[Value.int .i64 (((l')[(i3_).toNat]!).1), Value.string (⟨(((l')[(i3_).toNat]!).2.1).toArray⟩), Value.int .i64 (((l')[(i3_).toNat]!).2.2.1), Value.int .i64 (((l')[(i3_).toNat]!).2.2.2.1), U (hi (((l')[(i3_).toNat]!).2.2.2.2.1)), U (lo (((l')[(i3_).toNat]!).2.2.2.2.1)), Value.int .i64 (((l')[(i3_).toNat]!).2.2.2.2.2)]) (En := enc_44) ((l')[(i3_).toNat]!) ((i3_).toNat) 0 rfl rfl (rd_ro hl') (get_of ck47) rfl ?_
            replace hM := bind_sm hM; obtain ⟨r48, hr49, hM⟩ := hM
            refine r_c (Value.string (⟨(r48).toArray⟩)) rfl _ _ (ev_callF rfl call_12 rfl) (shunterref06_Text_g N (((l')[(i3_).toNat]!).1) (((l')[(i3_).toNat]!).2.1) (((l')[(i3_).toNat]!).2.2.1) (((l')[(i3_).toNat]!).2.2.2.1) (((l')[(i3_).toNat]!).2.2.2.2.1) (((l')[(i3_).toNat]!).2.2.2.2.2) _ hr49) ?_
            refine r_v (Value.bool ((r45) != (r48))) rfl rfl rfl (ev_neS rfl rfl) ?_
            refine lx_nil ?_
            refine hK44 _ _ ?_; try clear hK44 K44
            refine A_cond ((r45) != (r48)) rfl (fun hc50 => ?_) (fun hc50 => ?_)
            · replace hM := ifp (bne_iff_ne.1 hc50) hM
              refine A_seq fun K51 hK51 => ?_
              refine A_reg ?_
              refine r_v (Value.bool (false)) rfl rfl rfl rfl ?_
              refine lx_nil ?_
              refine hK51 _ _ ?_; try clear hK51 K51
              obtain rfl := Option.some.inj hM
              refine A_ret (fun hn => endsV (v0 := Value.bool (false)) rfl (res1 rfl))
            · replace hM := ifn (bne_f hc50) hM
              refine A_skip ?_
              refine hK16 _ _ ?_; try clear hK16 K16
              refine A_reg ?_
              refine r_v (Value.int .i64 (i3_)) rfl rfl rfl rfl ?_
              replace hM := ck_some hM; obtain ⟨ck52, hM⟩ := hM
              refine r_v (Value.int .i64 ((i3_ + 1))) rfl rfl (wi64 rfl ck52.1 ck52.2) rfl ?_
              refine r_v (Value.int .i64 ((i3_ + 1))) rfl rfl rfl rfl ?_
              refine lx_nil ?_
              refine fg _ (Sub.pick [[(b30, 47, #[Value.int .i64 (((l')[(i3_).toNat]!).1), Value.string (⟨(((l')[(i3_).toNat]!).2.1).toArray⟩), Value.int .i64 (((l')[(i3_).toNat]!).2.2.1), Value.int .i64 (((l')[(i3_).toNat]!).2.2.2.1), U (hi (((l')[(i3_).toNat]!).2.2.2.2.1)), U (lo (((l')[(i3_).toNat]!).2.2.2.2.1)), Value.int .i64 (((l')[(i3_).toNat]!).2.2.2.2.2)])], S37] [1] rfl) ?_
              exact ⟨n12 + 1, by omega, n12, (m1_ ++ ([(((l')[(i3_).toNat]!).1, ((l')[(i3_).toNat]!).2.1, ((l')[(i3_).toNat]!).2.2.1, ((l')[(i3_).toNat]!).2.2.2.1, ((l')[(i3_).toNat]!).2.2.2.2.1, ((l')[(i3_).toNat]!).2.2.2.2.2)])), (want5_) ++ (r41), (i3_ + 1), hM, s36, S37, H38, is_mk rfl rfl, rfl⟩
      · replace hM := ifn (of_decide_eq_false hc15) hM
        refine A_exit ?_
        refine hK10 _ _ ?_; try clear hK10 K10
        refine A_seq fun K56 hK56 => ?_
        refine A_regC [(some 75, false)] (conG Tryd.prog [(75, fun v_ L_ U_ => ∀ u0_, lex_Join_m N m1_ = some u0_ → (pV (Value.string (⟨(u0_).toArray⟩))) v_ L_ U_)]) ?_
        refine r_v (vm1_) rfl rfl rfl rfl ?_
        replace hM := bind_sm hM; obtain ⟨r57, hr58, hM⟩ := hM
        refine r_gv (Value.string (⟨(r57).toArray⟩)) 14 _ rfl rfl rfl (ev_callF rfl call_14 rfl) (fun own_ nw_ hs_ => lex_Join_g N m1_ _ hr58 hs_.view vm1_ ((rd_own hm1_ (mem_chunk (Ls := [Sm1_]) (k := 0) rfl rfl)) own_ nw_ hs_)) (fun _ _ v_ L_ U_ => ⟨fun h_ => h_ _ hr58, fun h_ => by intro _ e_; cases Option.some.inj (e_.symm.trans hr58); exact h_⟩) ?_
        refine r_v (Value.string (⟨(want2_).toArray⟩)) rfl rfl rfl rfl ?_
        refine r_v (Value.bool ((r57) == (want2_))) rfl rfl rfl (ev_eqS rfl rfl) ?_
        refine r_v (Value.bool ((r57) == (want2_))) rfl rfl rfl rfl ?_
        rcases hg59 : ((r57) == (want2_)) with _ | _
        · replace hM := ifn (ne_of_beq_false hg59) hM
          refine r_n false rfl (by decide) rfl ?_
          refine r_v (Value.bool (false)) rfl rfl rfl rfl ?_
          refine r_v (Value.bool (false)) rfl rfl rfl rfl ?_
          refine lx_nil ?_
          refine hK56 _ _ ?_; try clear hK56 K56
          obtain rfl := Option.some.inj hM
          refine A_ret (fun hn => endsV (v0 := Value.bool (false)) rfl (res1 rfl))
        · replace hM := ifp (eq_of_beq hg59) hM
          refine r_y rfl ?_
          replace hM := bind_sm hM; obtain ⟨r60, hr61, hM⟩ := hM
          refine r_c (Value.bool (r60)) rfl _ _ (ev_callF rfl call_6 rfl) (shunterlaw06_lives_g N  _ hr61) ?_
          refine r_v (Value.bool (r60)) rfl rfl rfl rfl ?_
          refine r_v (Value.bool (r60)) rfl rfl rfl rfl ?_
          refine lx_nil ?_
          refine hK56 _ _ ?_; try clear hK56 K56
          obtain rfl := Option.some.inj hM
          refine A_ret (fun hn => endsV (v0 := Value.bool (r60)) rfl (res1 rfl))
end Go.Proofs.YtmdjifehblijkaaDoor
