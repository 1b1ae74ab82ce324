/- models of functions and their walks -/
import Derived.Test.YtmdjifehblijkaaDoorBa
namespace Go.Proofs.YtmdjifehblijkaaDoor
open Go Go.RowKit Go.Eng
def internal_stringslite_CutPrefix_m (N : Nat) (s : List UInt8) (prefix' : List UInt8) : Option ((List UInt8) × Bool) := (internal_stringslite_HasPrefix_m N s prefix').bind fun r4 => if (r4) = true then ck (0 ≤ ((prefix').length : Int) ∧ ((prefix').length : Int) ≤ ((s).length : Int)) (some ((s).drop (((prefix').length : Int)).toNat, true)) else some (s, false)
set_option maxRecDepth 100000 in
set_option maxHeartbeats 8000000 in
theorem internal_stringslite_CutPrefix_g (N : Nat) (s : List UInt8) (prefix' : List UInt8) (r : (List UInt8) × Bool) (hM : internal_stringslite_CutPrefix_m N s prefix' = some r) : Gives Tryd.prog 69 #[Value.string (⟨(s).toArray⟩), Value.string (⟨(prefix').toArray⟩)] (Value.tuple #[Value.string (⟨(r.1).toArray⟩), Value.bool (r.2)]) := by
  unfold internal_stringslite_CutPrefix_m at hM
  refine gives_of_A follows Tryd.func69 rfl 15 rfl (upd (upd (fun _ => undef) 1 (Value.string (⟨(prefix').toArray⟩))) 0 (Value.string (⟨(s).toArray⟩))) (by funext k; match k with | 0 => rfl | 1 => rfl | k + 2 => rfl) (fun base0_ => ?_)
  refine A_seq fun K1 hK1 => ?_
  refine A_reg ?_
  refine r_v (Value.string (⟨#[]⟩)) rfl rfl rfl rfl ?_
  refine r_v (Value.bool (false)) rfl rfl rfl rfl ?_
  refine lx_nil ?_
  refine hK1 _ _ ?_; try clear hK1 K1
  refine A_seq fun K2 hK2 => ?_
  refine A_seq fun K3 hK3 => ?_
  refine A_reg ?_
  refine r_v (Value.string (⟨(s).toArray⟩)) rfl rfl rfl rfl ?_
  refine r_v (Value.string (⟨(prefix').toArray⟩)) rfl rfl rfl rfl ?_
  replace hM := bind_sm hM; obtain ⟨r4, hr5, hM⟩ := hM
  refine r_c (Value.bool (r4)) rfl _ _ (ev_callF rfl call_83 rfl) (internal_stringslite_HasPrefix_g N s prefix' _ hr5) ?_
  refine r_v (Value.bool (!(r4))) rfl rfl rfl rfl ?_
  refine lx_nil ?_
  refine hK3 _ _ ?_; try clear hK3 K3
  refine A_cond (!(r4)) rfl (fun hc6 => ?_) (fun hc6 => ?_)
  · replace hM := ifn (Bool.eq_false_iff.1 (not_t hc6)) hM
    refine A_seq fun K7 hK7 => ?_
    refine A_reg ?_
    refine r_v (Value.string (⟨(s).toArray⟩)) rfl rfl rfl rfl ?_
    refine r_v (Value.string (⟨(s).toArray⟩)) rfl rfl rfl rfl ?_
    refine r_v (Value.bool (false)) rfl rfl rfl rfl ?_
    refine lx_nil ?_
    refine hK7 _ _ ?_; try clear hK7 K7
    obtain rfl := Option.some.inj hM
    refine A_ret (fun hn => ends_eq (v0 := Value.tuple #[Value.string (⟨(s).toArray⟩), Value.bool (false)]) rfl (res2 rfl rfl))
  · replace hM := ifp (not_f hc6) hM
    refine A_skip ?_
    refine hK2 _ _ ?_; try clear hK2 K2
    refine A_seq fun K8 hK8 => ?_
    refine A_reg ?_
    refine r_v (Value.string (⟨(s).toArray⟩)) rfl rfl rfl rfl ?_
    refine r_v (Value.string (⟨(prefix').toArray⟩)) rfl rfl rfl rfl ?_
    refine r_v (Value.int .i64 (((prefix').length : Int))) rfl rfl rfl (ev_lenS rfl rfl rfl) ?_
    replace hM := ck_some hM; obtain ⟨ck9, hM⟩ := hM
    refine r_v (Value.string (⟨((s).drop (((prefix').length : Int)).toNat).toArray⟩)) rfl rfl rfl (ev_v (ev_sliceS1 rfl ck9)) ?_
    refine r_v (Value.string (⟨((s).drop (((prefix').length : Int)).toNat).toArray⟩)) rfl rfl rfl rfl ?_
    refine r_v (Value.bool (true)) rfl rfl rfl rfl ?_
    refine lx_nil ?_
    refine hK8 _ _ ?_; try clear hK8 K8
    obtain rfl := Option.some.inj hM
    refine A_ret (fun hn => ends_eq (v0 := Value.tuple #[Value.string (⟨((s).drop (((prefix').length : Int)).toNat).toArray⟩), Value.bool (true)]) rfl (res2 rfl rfl))
def strings_CutPrefix_m (N : Nat) (s : List UInt8) (prefix' : List UInt8) : Option ((List UInt8) × Bool) := (internal_stringslite_CutPrefix_m N s prefix').bind fun r3 => some (r3.1, r3.2)
set_option maxRecDepth 100000 in
set_option maxHeartbeats 8000000 in
theorem strings_CutPrefix_g (N : Nat) (s : List UInt8) (prefix' : List UInt8) (r : (List UInt8) × Bool) (hM : strings_CutPrefix_m N s prefix' = some r) : Gives Tryd.prog 52 #[Value.string (⟨(s).toArray⟩), Value.string (⟨(prefix').toArray⟩)] (Value.tuple #[Value.string (⟨(r.1).toArray⟩), Value.bool (r.2)]) := by
  unfold strings_CutPrefix_m at hM
  refine gives_of_A follows Tryd.func52 rfl 11 rfl (upd (upd (fun _ => undef) 1 (Value.string (⟨(prefix').toArray⟩))) 0 (Value.string (⟨(s).toArray⟩))) (by funext k; match k with | 0 => rfl | 1 => rfl | k + 2 => rfl) (fun base0_ => ?_)
  refine A_seq fun K1 hK1 => ?_
  refine A_reg ?_
  refine r_v (Value.string (⟨#[]⟩)) rfl rfl rfl rfl ?_
  refine r_v (Value.bool (false)) rfl rfl rfl rfl ?_
  refine lx_nil ?_
  refine hK1 _ _ ?_; try clear hK1 K1
  refine A_seq fun K2 hK2 => ?_
  refine A_reg ?_
  refine r_v (Value.string (⟨(s).toArray⟩)) rfl rfl rfl rfl ?_
  refine r_v (Value.string (⟨(prefix').toArray⟩)) rfl rfl rfl rfl ?_
  replace hM := bind_sm hM; obtain ⟨r3, hr4, hM⟩ := hM
  refine r_c (Value.tuple #[Value.string (⟨(r3.1).toArray⟩), Value.bool (r3.2)]) rfl _ _ (ev_callF rfl call_69 rfl) (internal_stringslite_CutPrefix_g N s prefix' _ hr4) ?_
  refine r_v (Value.string (⟨(r3.1).toArray⟩)) rfl rfl rfl rfl ?_
  refine r_v (Value.bool (r3.2)) rfl rfl rfl rfl ?_
  refine r_v (Value.string (⟨(r3.1).toArray⟩)) rfl rfl rfl rfl ?_
  refine r_v (Value.bool (r3.2)) rfl rfl rfl rfl ?_
  refine lx_nil ?_
  refine hK2 _ _ ?_; try clear hK2 K2
  obtain rfl := Option.some.inj hM
  refine A_ret (fun hn => ends_eq (v0 := Value.tuple #[Value.string (⟨(r3.1).toArray⟩), Value.bool (r3.2)]) rfl (res2 rfl rfl))
def lex_numberOf_k3 (digits1_ : List UInt8) (base2_ : Int) : Option (Int × (List UInt8) × Int × Int × (BitVec 128) × Int × Int) := ck ((digits1_).length ≤ 4611686018427387904) (if ((parseR (digits1_) (base2_)).2 : Int) = 3 then some (0, [], 0, 0, (0#64) ++ (0#64), 0, 4) else if ((parseR (digits1_) (base2_)).2 : Int) ≠ 0 then some (0, [], 0, 0, (0#64) ++ (0#64), 0, (parseR (digits1_) (base2_)).2) else if (((len128 ((parseR (digits1_) (base2_)).1) : Nat) : Int) : Int) > 63 then some (0, [], 0, 0, (0#64) ++ (0#64), 0, 7) else ck ((((lo ((parseR (digits1_) (base2_)).1)).toNat : Nat) : Int) ≤ 9223372036854775807) (some (2, [], (((lo ((parseR (digits1_) (base2_)).1)).toNat : Nat) : Int), 0, (0#64) ++ (0#64), 0, 0)))
def lex_numberOf_m (N : Nat) (s : List UInt8) : Option (Int × (List UInt8) × Int × Int × (BitVec 128) × Int × Int) := (strings_ContainsRune_m N s 39).bind fun r5 => if (r5) = true then (lex_rowOf_m N s).bind fun r9 => some (r9.1, r9.2.1, r9.2.2.1, r9.2.2.2.1, r9.2.2.2.2.1, r9.2.2.2.2.2.1, r9.2.2.2.2.2.2) else (strings_CutPrefix_m N s ([48, 120] : List UInt8)).bind fun r28 => if (r28.2) = true then lex_numberOf_k3 (r28.1) (16) else lex_numberOf_k3 (s) (10)
set_option maxRecDepth 100000 in
set_option maxHeartbeats 8000000 in
theorem lex_numberOf_g (N : Nat) (s : List UInt8) (r : Int × (List UInt8) × Int × Int × (BitVec 128) × Int × Int) (hM : lex_numberOf_m N s = some r) : Gives Tryd.prog 36 #[Value.string (⟨(s).toArray⟩)] (Value.tuple #[Value.agg #[Value.int .i64 (r.1), Value.string (⟨(r.2.1).toArray⟩), Value.int .i64 (r.2.2.1), Value.int .i64 (r.2.2.2.1), U (hi (r.2.2.2.2.1)), U (lo (r.2.2.2.2.1)), Value.int .i64 (r.2.2.2.2.2.1)], Value.int .i64 (r.2.2.2.2.2.2)]) := by
  unfold lex_numberOf_m at hM
  refine gives_of_A follows Tryd.func36 rfl 48 rfl (upd (fun _ => undef) 0 (Value.string (⟨(s).toArray⟩))) (by funext k; match k with | 0 => rfl | k + 1 => rfl) (fun base0_ => ?_)
  refine A_seq fun K1 hK1 => ?_
  refine A_reg ?_
  refine r_a (47, #[Value.int .i64 (0), Value.string (⟨#[]⟩), Value.int .i64 (0), Value.int .i64 (0), U (0#64), U (0#64), Value.int .i64 (0)]) rfl rfl rfl (fun b2 => ?_) (.inr rfl)
  refine r_v (Value.int .i64 (0)) rfl rfl rfl rfl ?_
  refine lx_nil ?_
  refine hK1 _ _ ?_; try clear hK1 K1
  refine A_seq fun K3 hK3 => ?_
  refine A_seq fun K4 hK4 => ?_
  refine A_reg ?_
  refine r_v (Value.string (⟨(s).toArray⟩)) rfl rfl rfl rfl ?_
  replace hM := bind_sm hM; obtain ⟨r5, hr6, hM⟩ := hM
  refine r_c (Value.bool (r5)) rfl _ _ (ev_callF rfl call_30 rfl) (strings_ContainsRune_g N s 39 _ hr6) ?_
  refine lx_nil ?_
  refine hK4 _ _ ?_; try clear hK4 K4
  refine A_cond (r5) rfl (fun hc7 => ?_) (fun hc7 => ?_)
  · replace hM := ifp hc7 hM
    refine A_seq fun K8 hK8 => ?_
    refine A_reg ?_
    refine r_v (Value.string (⟨(s).toArray⟩)) rfl rfl rfl rfl ?_
    replace hM := bind_sm hM; obtain ⟨r9, hr10, hM⟩ := hM
    refine r_c (Value.tuple #[Value.agg #[Value.int .i64 (r9.1), Value.string (⟨(r9.2.1).toArray⟩), Value.int .i64 (r9.2.2.1), Value.int .i64 (r9.2.2.2.1), U (hi (r9.2.2.2.2.1)), U (lo (r9.2.2.2.2.1)), Value.int .i64 (r9.2.2.2.2.2.1)], Value.int .i64 (r9.2.2.2.2.2.2)]) rfl _ _ (ev_callF rfl call_51 rfl) (lex_rowOf_g N s _ hr10) ?_
    refine r_v (Value.agg #[Value.int .i64 (r9.1), Value.string (⟨(r9.2.1).toArray⟩), Value.int .i64 (r9.2.2.1), Value.int .i64 (r9.2.2.2.1), U (hi (r9.2.2.2.2.1)), U (lo (r9.2.2.2.2.1)), Value.int .i64 (r9.2.2.2.2.2.1)]) rfl rfl rfl rfl ?_
    refine r_v (Value.int .i64 (r9.2.2.2.2.2.2)) rfl rfl rfl rfl ?_
    refine r_s [(b2, 47, #[Value.int .i64 (r9.1), Value.string (⟨(r9.2.1).toArray⟩), Value.int .i64 (r9.2.2.1), Value.int .i64 (r9.2.2.2.1), U (hi (r9.2.2.2.2.1)), U (lo (r9.2.2.2.2.1)), Value.int .i64 (r9.2.2.2.2.2.1)])] 0 _ _ _ (#[Value.int .i64 (0), Value.string (⟨#[]⟩), Value.int .i64 (0), Value.int .i64 (0), U (0#64), U (0#64), Value.int .i64 (0)]) (#[Value.int .i64 (r9.1), Value.string (⟨(r9.2.1).toArray⟩), Value.int .i64 (r9.2.2.1), Value.int .i64 (r9.2.2.2.1), U (hi (r9.2.2.2.2.1)), U (lo (r9.2.2.2.2.1)), Value.int .i64 (r9.2.2.2.2.2.1)]) (#[Value.int .i64 (r9.1), Value.string (⟨(r9.2.1).toArray⟩), Value.int .i64 (r9.2.2.1), Value.int .i64 (r9.2.2.2.1), U (hi (r9.2.2.2.2.1)), U (lo (r9.2.2.2.2.1)), Value.int .i64 (r9.2.2.2.2.2.1)]) rfl rfl rfl rfl (.of rfl rfl) rfl rfl ?_
    refine r_v (Value.int .i64 (r9.2.2.2.2.2.2)) rfl rfl rfl rfl ?_
    refine lx_nil ?_
    refine hK8 _ _ ?_; try clear hK8 K8
    obtain rfl := Option.some.inj hM
    refine A_ret (fun hn => ends_eq (v0 := Value.tuple #[Value.agg #[Value.int .i64 (r9.1), Value.string (⟨(r9.2.1).toArray⟩), Value.int .i64 (r9.2.2.1), Value.int .i64 (r9.2.2.2.1), U (hi (r9.2.2.2.2.1)), U (lo (r9.2.2.2.2.1)), Value.int .i64 (r9.2.2.2.2.2.1)], Value.int .i64 (r9.2.2.2.2.2.2)]) rfl (res2 (res_cell hn 0 rfl rfl rfl) rfl))
  · replace hM := ifn (Bool.eq_false_iff.1 hc7) hM
    refine A_skip ?_
    refine hK3 _ _ ?_; try clear hK3 K3
    refine A_seq fun K11 hK11 => ?_
    refine A_reg ?_
    refine r_v (Value.string (⟨(s).toArray⟩)) rfl rfl rfl rfl ?_
    refine r_v (Value.string (⟨(s).toArray⟩)) rfl rfl rfl rfl ?_
    refine r_v (Value.int .i64 (10)) rfl rfl rfl rfl ?_
    refine lx_nil ?_
    refine hK11 _ _ ?_; try clear hK11 K11
    refine A_cut (fun tt ll => ∃ (digits1_ : List UInt8) (base2_ : Int), (lex_numberOf_k3 digits1_ base2_ = some r) ∧ Is [(2, Value.pointer (some ⟨b2, 0, none⟩)), (4, Value.string (⟨(digits1_).toArray⟩)), (5, Value.int .i64 (base2_))] [(b2, 47, #[Value.int .i64 (0), Value.string (⟨#[]⟩), Value.int .i64 (0), Value.int .i64 (0), U (0#64), U (0#64), Value.int .i64 (0)])] tt ll) ?_ ?_
    · refine A_seq fun K27 hK27 => ?_
      refine A_reg ?_
      refine r_v (Value.string (⟨(s).toArray⟩)) rfl rfl rfl rfl ?_
      replace hM := bind_sm hM; obtain ⟨r28, hr29, hM⟩ := hM
      refine r_c (Value.tuple #[Value.string (⟨(r28.1).toArray⟩), Value.bool (r28.2)]) rfl _ _ (ev_callF rfl call_52 rfl) (strings_CutPrefix_g N s ([48, 120] : List UInt8) _ hr29) ?_
      refine r_v (Value.tuple #[Value.string (⟨(r28.1).toArray⟩), Value.bool (r28.2)]) rfl rfl rfl rfl ?_
      refine r_v (Value.string (⟨(r28.1).toArray⟩)) rfl rfl rfl rfl ?_
      refine r_v (Value.bool (r28.2)) rfl rfl rfl rfl ?_
      refine r_v (Value.string (⟨(r28.1).toArray⟩)) rfl rfl rfl rfl ?_
      refine r_v (Value.bool (r28.2)) rfl rfl rfl rfl ?_
      refine lx_nil ?_
      refine hK27 _ _ ?_; try clear hK27 K27
      refine A_seq fun K30 hK30 => ?_
      refine A_reg ?_
      refine r_v (Value.bool (r28.2)) rfl rfl rfl rfl ?_
      refine lx_nil ?_
      refine hK30 _ _ ?_; try clear hK30 K30
      refine A_cond (r28.2) rfl (fun hc31 => ?_) (fun hc31 => ?_)
      · replace hM := ifp hc31 hM
        refine A_reg ?_
        refine r_v (Value.string (⟨(r28.1).toArray⟩)) rfl rfl rfl rfl ?_
        refine r_v (Value.string (⟨(r28.1).toArray⟩)) rfl rfl rfl rfl ?_
        refine r_v (Value.int .i64 (16)) rfl rfl rfl rfl ?_
        refine lx_nil ?_
        refine fg _ (Sub.of (List.Sublist.cons_cons _ (List.Sublist.slnil))) ?_
        exact ⟨r28.1, 16, hM, is_mk rfl (by first | rfl | simp only [app_hl])⟩
      · replace hM := ifn (Bool.eq_false_iff.1 hc31) hM
        refine A_skip ?_
        refine fg _ (Sub.of (List.Sublist.cons_cons _ (List.Sublist.slnil))) ?_
        exact ⟨s, 10, hM, is_mk rfl (by first | rfl | simp only [app_hl])⟩
    · clear hM; rintro t l ⟨digits1_, base2_, hM, ⟨T, rfl⟩, rfl⟩
      unfold lex_numberOf_k3 at hM
      refine A_seq fun K12 hK12 => ?_
      refine A_reg ?_
      refine r_v (Value.string (⟨(digits1_).toArray⟩)) rfl rfl rfl rfl ?_
      refine r_v (Value.int .i64 (base2_)) rfl rfl rfl rfl ?_
      replace hM := ck_some hM; obtain ⟨ck13, hM⟩ := hM
      refine r_c (Value.tuple #[Value.agg #[U (hi ((parseR (digits1_) (base2_)).1)), U (lo ((parseR (digits1_) (base2_)).1))], Value.int .i64 ((parseR (digits1_) (base2_)).2)]) rfl _ _ (ev_callF rfl call_53 rfl) (parse_t (digits1_) (base2_) ck13) ?_
      refine r_v (Value.tuple #[Value.agg #[U (hi ((parseR (digits1_) (base2_)).1)), U (lo ((parseR (digits1_) (base2_)).1))], Value.int .i64 ((parseR (digits1_) (base2_)).2)]) rfl rfl rfl rfl ?_
      refine r_v (Value.agg #[U (hi ((parseR (digits1_) (base2_)).1)), U (lo ((parseR (digits1_) (base2_)).1))]) rfl rfl rfl rfl ?_
      refine r_v (Value.int .i64 ((parseR (digits1_) (base2_)).2)) rfl rfl rfl rfl ?_
      refine r_a (82, #[U (0#64), U (0#64)]) rfl rfl rfl (fun b14 => ?_) (.inr rfl)
      refine r_s [(b14, 82, #[U (hi ((parseR (digits1_) (base2_)).1)), U (lo ((parseR (digits1_) (base2_)).1))]), (b2, 47, #[Value.int .i64 (0), Value.string (⟨#[]⟩), Value.int .i64 (0), Value.int .i64 (0), U (0#64), U (0#64), Value.int .i64 (0)])] 0 _ _ _ (#[U (0#64), U (0#64)]) (#[U (hi ((parseR (digits1_) (base2_)).1)), U (lo ((parseR (digits1_) (base2_)).1))]) (#[U (hi ((parseR (digits1_) (base2_)).1)), U (lo ((parseR (digits1_) (base2_)).1))]) rfl rfl rfl rfl (.of rfl rfl) rfl rfl ?_
      refine r_v (Value.int .i64 ((parseR (digits1_) (base2_)).2)) rfl rfl rfl rfl ?_
      refine lx_nil ?_
      refine hK12 _ _ ?_; try clear hK12 K12
      refine A_seq fun K15 hK15 => ?_
      refine A_block ?_
      refine A_seq fun K16 hK16 => ?_
      refine A_reg ?_
      refine r_v (Value.int .i64 ((parseR (digits1_) (base2_)).2)) rfl rfl rfl rfl ?_
      refine r_v (Value.bool ((((parseR (digits1_) (base2_)).2 : Int) == 3))) rfl rfl rfl rfl ?_
      refine r_v (Value.bool ((((parseR (digits1_) (base2_)).2 : Int) == 3))) rfl rfl rfl rfl ?_
      refine lx_nil ?_
      refine hK16 _ _ ?_; try clear hK16 K16
      refine A_cond ((((parseR (digits1_) (base2_)).2 : Int) == 3)) rfl (fun hc17 => ?_) (fun hc17 => ?_)
      · replace hM := ifp (eq_of_beq hc17) hM
        refine A_seq fun K18 hK18 => ?_
        refine A_reg ?_
        refine r_v (Value.agg #[Value.int .i64 (0), Value.string (⟨#[]⟩), Value.int .i64 (0), Value.int .i64 (0), U (0#64), U (0#64), Value.int .i64 (0)]) rfl rfl rfl (ev_buildS rfl rfl rfl rfl) ?_
        refine r_s [(b14, 82, #[U (hi ((parseR (digits1_) (base2_)).1)), U (lo ((parseR (digits1_) (base2_)).1))]), (b2, 47, #[Value.int .i64 (0), Value.string (⟨#[]⟩), Value.int .i64 (0), Value.int .i64 (0), U (0#64), U (0#64), Value.int .i64 (0)])] 1 _ _ _ (#[Value.int .i64 (0), Value.string (⟨#[]⟩), Value.int .i64 (0), Value.int .i64 (0), U (0#64), U (0#64), Value.int .i64 (0)]) (#[Value.int .i64 (0), Value.string (⟨#[]⟩), Value.int .i64 (0), Value.int .i64 (0), U (0#64), U (0#64), Value.int .i64 (0)]) (#[Value.int .i64 (0), Value.string (⟨#[]⟩), Value.int .i64 (0), Value.int .i64 (0), U (0#64), U (0#64), Value.int .i64 (0)]) rfl rfl rfl rfl (.of rfl rfl) rfl rfl ?_
        refine r_v (Value.int .i64 (4)) rfl rfl rfl rfl ?_
        refine lx_nil ?_
        refine hK18 _ _ ?_; try clear hK18 K18
        obtain rfl := Option.some.inj hM
        refine A_ret (fun hn => ends_eq (v0 := Value.tuple #[Value.agg #[Value.int .i64 (0), Value.string (⟨#[]⟩), Value.int .i64 (0), Value.int .i64 (0), U (0#64), U (0#64), Value.int .i64 (0)], Value.int .i64 (4)]) (by first | rfl | (simp only [app_hl]; done) | simp only [app_hl]) (res2 (res_cell hn 1 rfl rfl rfl) rfl))
      · replace hM := ifn (ne_of_beq_false hc17) hM
        refine A_seq fun K19 hK19 => ?_
        refine A_reg ?_
        refine r_v (Value.int .i64 ((parseR (digits1_) (base2_)).2)) rfl rfl rfl rfl ?_
        refine r_v (Value.bool ((((parseR (digits1_) (base2_)).2 : Int) != 0))) rfl rfl rfl rfl ?_
        refine r_v (Value.bool ((((parseR (digits1_) (base2_)).2 : Int) != 0))) rfl rfl rfl rfl ?_
        refine lx_nil ?_
        refine hK19 _ _ ?_; try clear hK19 K19
        refine A_cond ((((parseR (digits1_) (base2_)).2 : Int) != 0)) rfl (fun hc20 => ?_) (fun hc20 => ?_)
        · replace hM := ifp (bne_iff_ne.1 hc20) hM
          refine A_seq fun K21 hK21 => ?_
          refine A_reg ?_
          refine r_v (Value.agg #[Value.int .i64 (0), Value.string (⟨#[]⟩), Value.int .i64 (0), Value.int .i64 (0), U (0#64), U (0#64), Value.int .i64 (0)]) rfl rfl rfl (ev_buildS rfl rfl rfl rfl) ?_
          refine r_v (Value.int .i64 ((parseR (digits1_) (base2_)).2)) rfl rfl rfl rfl ?_
          refine r_s [(b14, 82, #[U (hi ((parseR (digits1_) (base2_)).1)), U (lo ((parseR (digits1_) (base2_)).1))]), (b2, 47, #[Value.int .i64 (0), Value.string (⟨#[]⟩), Value.int .i64 (0), Value.int .i64 (0), U (0#64), U (0#64), Value.int .i64 (0)])] 1 _ _ _ (#[Value.int .i64 (0), Value.string (⟨#[]⟩), Value.int .i64 (0), Value.int .i64 (0), U (0#64), U (0#64), Value.int .i64 (0)]) (#[Value.int .i64 (0), Value.string (⟨#[]⟩), Value.int .i64 (0), Value.int .i64 (0), U (0#64), U (0#64), Value.int .i64 (0)]) (#[Value.int .i64 (0), Value.string (⟨#[]⟩), Value.int .i64 (0), Value.int .i64 (0), U (0#64), U (0#64), Value.int .i64 (0)]) rfl rfl rfl rfl (.of rfl rfl) rfl rfl ?_
          refine r_v (Value.int .i64 ((parseR (digits1_) (base2_)).2)) rfl rfl rfl rfl ?_
          refine lx_nil ?_
          refine hK21 _ _ ?_; try clear hK21 K21
          obtain rfl := Option.some.inj hM
          refine A_ret (fun hn => ends_eq (v0 := Value.tuple #[Value.agg #[Value.int .i64 (0), Value.string (⟨#[]⟩), Value.int .i64 (0), Value.int .i64 (0), U (0#64), U (0#64), Value.int .i64 (0)], Value.int .i64 ((parseR (digits1_) (base2_)).2)]) (by first | rfl | (simp only [app_hl]; done) | simp only [app_hl]) (res2 (res_cell hn 1 rfl rfl rfl) rfl))
        · replace hM := ifn (bne_f hc20) hM
          refine A_seq fun K22 hK22 => ?_
          refine A_reg ?_
          refine r_l (Value.agg #[U (hi ((parseR (digits1_) (base2_)).1)), U (lo ((parseR (digits1_) (base2_)).1))]) 0 _ _ _ _ rfl rfl rfl rfl rfl ?_
          refine r_c (Value.int .i64 (((len128 ((parseR (digits1_) (base2_)).1) : Nat) : Int))) rfl _ _ (ev_callF rfl call_54 rfl) (len_g ((parseR (digits1_) (base2_)).1)) ?_
          refine r_v (Value.bool (decide ((((len128 ((parseR (digits1_) (base2_)).1) : Nat) : Int) : Int) > 63))) rfl rfl rfl rfl ?_
          refine r_v (Value.bool (decide ((((len128 ((parseR (digits1_) (base2_)).1) : Nat) : Int) : Int) > 63))) rfl rfl rfl rfl ?_
          refine lx_nil ?_
          refine hK22 _ _ ?_; try clear hK22 K22
          refine A_cond (decide ((((len128 ((parseR (digits1_) (base2_)).1) : Nat) : Int) : Int) > 63)) rfl (fun hc23 => ?_) (fun hc23 => ?_)
          · replace hM := ifp (of_decide_eq_true hc23) hM
            refine A_seq fun K24 hK24 => ?_
            refine A_reg ?_
            refine r_v (Value.agg #[Value.int .i64 (0), Value.string (⟨#[]⟩), Value.int .i64 (0), Value.int .i64 (0), U (0#64), U (0#64), Value.int .i64 (0)]) rfl rfl rfl (ev_buildS rfl rfl rfl rfl) ?_
            refine r_s [(b14, 82, #[U (hi ((parseR (digits1_) (base2_)).1)), U (lo ((parseR (digits1_) (base2_)).1))]), (b2, 47, #[Value.int .i64 (0), Value.string (⟨#[]⟩), Value.int .i64 (0), Value.int .i64 (0), U (0#64), U (0#64), Value.int .i64 (0)])] 1 _ _ _ (#[Value.int .i64 (0), Value.string (⟨#[]⟩), Value.int .i64 (0), Value.int .i64 (0), U (0#64), U (0#64), Value.int .i64 (0)]) (#[Value.int .i64 (0), Value.string (⟨#[]⟩), Value.int .i64 (0), Value.int .i64 (0), U (0#64), U (0#64), Value.int .i64 (0)]) (#[Value.int .i64 (0), Value.string (⟨#[]⟩), Value.int .i64 (0), Value.int .i64 (0), U (0#64), U (0#64), Value.int .i64 (0)]) rfl rfl rfl rfl (.of rfl rfl) rfl rfl ?_
            refine r_v (Value.int .i64 (7)) rfl rfl rfl rfl ?_
            refine lx_nil ?_
            refine hK24 _ _ ?_; try clear hK24 K24
            obtain rfl := Option.some.inj hM
            refine A_ret (fun hn => ends_eq (v0 := Value.tuple #[Value.agg #[Value.int .i64 (0), Value.string (⟨#[]⟩), Value.int .i64 (0), Value.int .i64 (0), U (0#64), U (0#64), Value.int .i64 (0)], Value.int .i64 (7)]) (by first | rfl | (simp only [app_hl]; done) | simp only [app_hl]) (res2 (res_cell hn 1 rfl rfl rfl) rfl))
          · replace hM := ifn (of_decide_eq_false hc23) hM
            refine A_skip ?_
            refine hK15 _ _ ?_; try clear hK15 K15
            refine A_seq fun K25 hK25 => ?_
            refine A_reg ?_
            refine r_v (Value.pointer (some ⟨b14, 1, none⟩)) rfl rfl rfl rfl ?_
            refine r_l (U (lo ((parseR (digits1_) (base2_)).1))) 0 _ _ _ _ rfl rfl rfl rfl rfl ?_
            replace hM := ck_some hM; obtain ⟨ck26, hM⟩ := hM
            refine r_w (Value.int .i64 ((((lo ((parseR (digits1_) (base2_)).1)).toNat : Nat) : Int))) rfl rfl (wi64 rfl (by omega) ck26) (fun _ => rfl) ?_
            refine r_v (Value.agg #[Value.int .i64 (2), Value.string (⟨#[]⟩), Value.int .i64 ((((lo ((parseR (digits1_) (base2_)).1)).toNat : Nat) : Int)), Value.int .i64 (0), U (0#64), U (0#64), Value.int .i64 (0)]) rfl rfl rfl (ev_buildS rfl rfl rfl rfl) ?_
            refine r_s [(b14, 82, #[U (hi ((parseR (digits1_) (base2_)).1)), U (lo ((parseR (digits1_) (base2_)).1))]), (b2, 47, #[Value.int .i64 (2), Value.string (⟨#[]⟩), Value.int .i64 ((((lo ((parseR (digits1_) (base2_)).1)).toNat : Nat) : Int)), Value.int .i64 (0), U (0#64), U (0#64), Value.int .i64 (0)])] 1 _ _ _ (#[Value.int .i64 (0), Value.string (⟨#[]⟩), Value.int .i64 (0), Value.int .i64 (0), U (0#64), U (0#64), Value.int .i64 (0)]) (#[Value.int .i64 (2), Value.string (⟨#[]⟩), Value.int .i64 ((((lo ((parseR (digits1_) (base2_)).1)).toNat : Nat) : Int)), Value.int .i64 (0), U (0#64), U (0#64), Value.int .i64 (0)]) (#[Value.int .i64 (2), Value.string (⟨#[]⟩), Value.int .i64 ((((lo ((parseR (digits1_) (base2_)).1)).toNat : Nat) : Int)), Value.int .i64 (0), U (0#64), U (0#64), Value.int .i64 (0)]) rfl rfl rfl rfl (.of rfl rfl) rfl rfl ?_
            refine r_v (Value.int .i64 (0)) rfl rfl rfl rfl ?_
            refine lx_nil ?_
            refine hK25 _ _ ?_; try clear hK25 K25
            obtain rfl := Option.some.inj hM
            refine A_ret (fun hn => ends_eq (v0 := Value.tuple #[Value.agg #[Value.int .i64 (2), Value.string (⟨#[]⟩), Value.int .i64 ((((lo ((parseR (digits1_) (base2_)).1)).toNat : Nat) : Int)), Value.int .i64 (0), U (0#64), U (0#64), Value.int .i64 (0)], Value.int .i64 (0)]) (by first | rfl | (simp only [app_hl]; done) | simp only [app_hl]) (res2 (res_cell hn 1 rfl rfl rfl) rfl))
def lex_first_m (N : Nat) (c : Int) (s : List UInt8) : Option (Int × (List UInt8) × Int × Int × (BitVec 128) × Int × Int × Int) := (strings_ContainsRune_m N ([123, 125, 40, 41, 91, 93, 59, 58, 44, 61, 47, 38] : List UInt8) c).bind fun r5 => if (r5) = true then some (0, (runeB c), 0, 0, (0#64) ++ (0#64), 0, 1, 0) else (name_Letter_m N c).bind fun r10 => if (r10) = true then (lex_run_v2_m N s).bind fun r14 => ck (0 ≤ r14 ∧ r14 ≤ ((s).length : Int)) ((lex_wordOf_m N ((s).take (r14).toNat)).bind fun r18 => some (r18.1, r18.2.1, r18.2.2.1, r18.2.2.2.1, r18.2.2.2.2.1, r18.2.2.2.2.2.1, r14, r18.2.2.2.2.2.2)) else (name_Digit_m N c).bind fun r23 => if (r23) = true then (lex_run_v3_m N s).bind fun r27 => ck (0 ≤ r27 ∧ r27 ≤ ((s).length : Int)) ((lex_numberOf_m N ((s).take (r27).toNat)).bind fun r31 => some (r31.1, r31.2.1, r31.2.2.1, r31.2.2.2.1, r31.2.2.2.2.1, r31.2.2.2.2.2.1, r27, r31.2.2.2.2.2.2)) else some (0, [], 0, 0, (0#64) ++ (0#64), 0, 0, 4)
set_option maxRecDepth 100000 in
set_option maxHeartbeats 8000000 in
theorem lex_first_g (N : Nat) (c : Int) (s : List UInt8) (r : Int × (List UInt8) × Int × Int × (BitVec 128) × Int × Int × Int) (hM : lex_first_m N c s = some r) : Gives Tryd.prog 18 #[Value.int .i32 (c), Value.string (⟨(s).toArray⟩)] (Value.tuple #[Value.agg #[Value.int .i64 (r.1), Value.string (⟨(r.2.1).toArray⟩), Value.int .i64 (r.2.2.1), Value.int .i64 (r.2.2.2.1), U (hi (r.2.2.2.2.1)), U (lo (r.2.2.2.2.1)), Value.int .i64 (r.2.2.2.2.2.1)], Value.int .i64 (r.2.2.2.2.2.2.1), Value.int .i64 (r.2.2.2.2.2.2.2)]) := by
  unfold lex_first_m at hM
  refine gives_of_A follows Tryd.func18 rfl 50 rfl (upd (upd (fun _ => undef) 1 (Value.string (⟨(s).toArray⟩))) 0 (Value.int .i32 (c))) (by funext k; match k with | 0 => rfl | 1 => rfl | k + 2 => rfl) (fun base0_ => ?_)
  refine A_seq fun K1 hK1 => ?_
  refine A_reg ?_
  refine r_a (47, #[Value.int .i64 (0), Value.string (⟨#[]⟩), Value.int .i64 (0), Value.int .i64 (0), U (0#64), U (0#64), Value.int .i64 (0)]) rfl rfl rfl (fun b2 => ?_) (.inr rfl)
  refine r_v (Value.int .i64 (0)) rfl rfl rfl rfl ?_
  refine r_v (Value.int .i64 (0)) rfl rfl rfl rfl ?_
  refine lx_nil ?_
  refine hK1 _ _ ?_; try clear hK1 K1
  refine A_seq fun K3 hK3 => ?_
  refine A_block ?_
  refine A_seq fun K4 hK4 => ?_
  refine A_reg ?_
  refine r_v (Value.int .i32 (c)) rfl rfl rfl rfl ?_
  replace hM := bind_sm hM; obtain ⟨r5, hr6, hM⟩ := hM
  refine r_c (Value.bool (r5)) rfl _ _ (ev_callF rfl call_30 rfl) (strings_ContainsRune_g N ([123, 125, 40, 41, 91, 93, 59, 58, 44, 61, 47, 38] : List UInt8) c _ hr6) ?_
  refine r_v (Value.bool (r5)) rfl rfl rfl rfl ?_
  refine lx_nil ?_
  refine hK4 _ _ ?_; try clear hK4 K4
  refine A_cond (r5) rfl (fun hc7 => ?_) (fun hc7 => ?_)
  · replace hM := ifp hc7 hM
    refine A_seq fun K8 hK8 => ?_
    refine A_reg ?_
    refine r_v (Value.int .i32 (c)) rfl rfl rfl rfl ?_
    refine r_w (Value.string (⟨((runeB c)).toArray⟩)) rfl rfl rfl (fun _ => (ev_v (ev_convIS rfl rfl))) ?_
    refine r_v (Value.agg #[Value.int .i64 (0), Value.string (⟨((runeB c)).toArray⟩), Value.int .i64 (0), Value.int .i64 (0), U (0#64), U (0#64), Value.int .i64 (0)]) rfl rfl rfl (ev_buildS rfl rfl rfl rfl) ?_
    refine r_s [(b2, 47, #[Value.int .i64 (0), Value.string (⟨((runeB c)).toArray⟩), Value.int .i64 (0), Value.int .i64 (0), U (0#64), U (0#64), Value.int .i64 (0)])] 0 _ _ _ (#[Value.int .i64 (0), Value.string (⟨#[]⟩), Value.int .i64 (0), Value.int .i64 (0), U (0#64), U (0#64), Value.int .i64 (0)]) (#[Value.int .i64 (0), Value.string (⟨((runeB c)).toArray⟩), Value.int .i64 (0), Value.int .i64 (0), U (0#64), U (0#64), Value.int .i64 (0)]) (#[Value.int .i64 (0), Value.string (⟨((runeB c)).toArray⟩), Value.int .i64 (0), Value.int .i64 (0), U (0#64), U (0#64), Value.int .i64 (0)]) rfl rfl rfl rfl (.of rfl rfl) rfl rfl ?_
    refine r_v (Value.int .i64 (1)) rfl rfl rfl rfl ?_
    refine r_v (Value.int .i64 (0)) rfl rfl rfl rfl ?_
    refine lx_nil ?_
    refine hK8 _ _ ?_; try clear hK8 K8
    obtain rfl := Option.some.inj hM
    refine A_ret (fun hn => ends_eq (v0 := Value.tuple #[Value.agg #[Value.int .i64 (0), Value.string (⟨((runeB c)).toArray⟩), Value.int .i64 (0), Value.int .i64 (0), U (0#64), U (0#64), Value.int .i64 (0)], Value.int .i64 (1), Value.int .i64 (0)]) (by first | rfl | (simp only [app_hl]; done) | simp only [app_hl]) (res3 (res_cell hn 0 rfl rfl rfl) rfl rfl))
  · replace hM := ifn (Bool.eq_false_iff.1 hc7) hM
    refine A_seq fun K9 hK9 => ?_
    refine A_reg ?_
    refine r_v (Value.int .i32 (c)) rfl rfl rfl rfl ?_
    replace hM := bind_sm hM; obtain ⟨r10, hr11, hM⟩ := hM
    refine r_c (Value.bool (r10)) rfl _ _ (ev_callF rfl call_31 rfl) (name_Letter_g N c _ hr11) ?_
    refine r_v (Value.bool (r10)) rfl rfl rfl rfl ?_
    refine lx_nil ?_
    refine hK9 _ _ ?_; try clear hK9 K9
    refine A_cond (r10) rfl (fun hc12 => ?_) (fun hc12 => ?_)
    · replace hM := ifp hc12 hM
      refine A_seq fun K13 hK13 => ?_
      refine A_reg ?_
      refine r_v (Value.string (⟨(s).toArray⟩)) rfl rfl rfl rfl ?_
      replace hM := bind_sm hM; obtain ⟨r14, hr15, hM⟩ := hM
      refine r_c (Value.int .i64 (r14)) rfl _ _ (ev_callF rfl call_16 rfl) (lex_run_v2_g N s _ hr15) ?_
      refine r_v (Value.int .i64 (r14)) rfl rfl rfl rfl ?_
      refine lx_nil ?_
      refine hK13 _ _ ?_; try clear hK13 K13
      refine A_seq fun K16 hK16 => ?_
      refine A_reg ?_
      refine r_v (Value.string (⟨(s).toArray⟩)) rfl rfl rfl rfl ?_
      refine r_v (Value.int .i64 (r14)) rfl rfl rfl rfl ?_
      replace hM := ck_some hM; obtain ⟨ck17, hM⟩ := hM
      refine r_v (Value.string (⟨((s).take (r14).toNat).toArray⟩)) rfl rfl rfl (ev_v (ev_sliceS2 rfl ck17)) ?_
      replace hM := bind_sm hM; obtain ⟨r18, hr19, hM⟩ := hM
      refine r_c (Value.tuple #[Value.agg #[Value.int .i64 (r18.1), Value.string (⟨(r18.2.1).toArray⟩), Value.int .i64 (r18.2.2.1), Value.int .i64 (r18.2.2.2.1), U (hi (r18.2.2.2.2.1)), U (lo (r18.2.2.2.2.1)), Value.int .i64 (r18.2.2.2.2.2.1)], Value.int .i64 (r18.2.2.2.2.2.2)]) rfl _ _ (ev_callF rfl call_33 rfl) (lex_wordOf_g N ((s).take (r14).toNat) _ hr19) ?_
      refine r_v (Value.tuple #[Value.agg #[Value.int .i64 (r18.1), Value.string (⟨(r18.2.1).toArray⟩), Value.int .i64 (r18.2.2.1), Value.int .i64 (r18.2.2.2.1), U (hi (r18.2.2.2.2.1)), U (lo (r18.2.2.2.2.1)), Value.int .i64 (r18.2.2.2.2.2.1)], Value.int .i64 (r18.2.2.2.2.2.2)]) rfl rfl rfl rfl ?_
      refine r_v (Value.agg #[Value.int .i64 (r18.1), Value.string (⟨(r18.2.1).toArray⟩), Value.int .i64 (r18.2.2.1), Value.int .i64 (r18.2.2.2.1), U (hi (r18.2.2.2.2.1)), U (lo (r18.2.2.2.2.1)), Value.int .i64 (r18.2.2.2.2.2.1)]) rfl rfl rfl rfl ?_
      refine r_v (Value.int .i64 (r18.2.2.2.2.2.2)) rfl rfl rfl rfl ?_
      refine r_a (47, #[Value.int .i64 (0), Value.string (⟨#[]⟩), Value.int .i64 (0), Value.int .i64 (0), U (0#64), U (0#64), Value.int .i64 (0)]) rfl rfl rfl (fun b20 => ?_) (.inr rfl)
      refine r_s [(b20, 47, #[Value.int .i64 (r18.1), Value.string (⟨(r18.2.1).toArray⟩), Value.int .i64 (r18.2.2.1), Value.int .i64 (r18.2.2.2.1), U (hi (r18.2.2.2.2.1)), U (lo (r18.2.2.2.2.1)), Value.int .i64 (r18.2.2.2.2.2.1)]), (b2, 47, #[Value.int .i64 (0), Value.string (⟨#[]⟩), Value.int .i64 (0), Value.int .i64 (0), U (0#64), U (0#64), Value.int .i64 (0)])] 0 _ _ _ (#[Value.int .i64 (0), Value.string (⟨#[]⟩), Value.int .i64 (0), Value.int .i64 (0), U (0#64), U (0#64), Value.int .i64 (0)]) (#[Value.int .i64 (r18.1), Value.string (⟨(r18.2.1).toArray⟩), Value.int .i64 (r18.2.2.1), Value.int .i64 (r18.2.2.2.1), U (hi (r18.2.2.2.2.1)), U (lo (r18.2.2.2.2.1)), Value.int .i64 (r18.2.2.2.2.2.1)]) (#[Value.int .i64 (r18.1), Value.string (⟨(r18.2.1).toArray⟩), Value.int .i64 (r18.2.2.1), Value.int .i64 (r18.2.2.2.1), U (hi (r18.2.2.2.2.1)), U (lo (r18.2.2.2.2.1)), Value.int .i64 (r18.2.2.2.2.2.1)]) rfl rfl rfl rfl (.of rfl rfl) rfl rfl ?_
      refine r_v (Value.int .i64 (r18.2.2.2.2.2.2)) rfl rfl rfl rfl ?_
      refine lx_nil ?_
      refine hK16 _ _ ?_; try clear hK16 K16
      refine A_seq fun K21 hK21 => ?_
      refine A_reg ?_
      refine r_l (Value.agg #[Value.int .i64 (r18.1), Value.string (⟨(r18.2.1).toArray⟩), Value.int .i64 (r18.2.2.1), Value.int .i64 (r18.2.2.2.1), U (hi (r18.2.2.2.2.1)), U (lo (r18.2.2.2.2.1)), Value.int .i64 (r18.2.2.2.2.2.1)]) 0 _ _ _ _ rfl rfl rfl rfl rfl ?_
      refine r_v (Value.int .i64 (r14)) rfl rfl rfl rfl ?_
      refine r_v (Value.int .i64 (r18.2.2.2.2.2.2)) rfl rfl rfl rfl ?_
      refine r_s [(b20, 47, #[Value.int .i64 (r18.1), Value.string (⟨(r18.2.1).toArray⟩), Value.int .i64 (r18.2.2.1), Value.int .i64 (r18.2.2.2.1), U (hi (r18.2.2.2.2.1)), U (lo (r18.2.2.2.2.1)), Value.int .i64 (r18.2.2.2.2.2.1)]), (b2, 47, #[Value.int .i64 (r18.1), Value.string (⟨(r18.2.1).toArray⟩), Value.int .i64 (r18.2.2.1), Value.int .i64 (r18.2.2.2.1), U (hi (r18.2.2.2.2.1)), U (lo (r18.2.2.2.2.1)), Value.int .i64 (r18.2.2.2.2.2.1)])] 1 _ _ _ (#[Value.int .i64 (0), Value.string (⟨#[]⟩), Value.int .i64 (0), Value.int .i64 (0), U (0#64), U (0#64), Value.int .i64 (0)]) (#[Value.int .i64 (r18.1), Value.string (⟨(r18.2.1).toArray⟩), Value.int .i64 (r18.2.2.1), Value.int .i64 (r18.2.2.2.1), U (hi (r18.2.2.2.2.1)), U (lo (r18.2.2.2.2.1)), Value.int .i64 (r18.2.2.2.2.2.1)]) (#[Value.int .i64 (r18.1), Value.string (⟨(r18.2.1).toArray⟩), Value.int .i64 (r18.2.2.1), Value.int .i64 (r18.2.2.2.1), U (hi (r18.2.2.2.2.1)), U (lo (r18.2.2.2.2.1)), Value.int .i64 (r18.2.2.2.2.2.1)]) rfl rfl rfl rfl (.of rfl rfl) rfl rfl ?_
      refine r_v (Value.int .i64 (r14)) rfl rfl rfl rfl ?_
      refine r_v (Value.int .i64 (r18.2.2.2.2.2.2)) rfl rfl rfl rfl ?_
      refine lx_nil ?_
      refine hK21 _ _ ?_; try clear hK21 K21
      obtain rfl := Option.some.inj hM
      refine A_ret (fun hn => ends_eq (v0 := Value.tuple #[Value.agg #[Value.int .i64 (r18.1), Value.string (⟨(r18.2.1).toArray⟩), Value.int .i64 (r18.2.2.1), Value.int .i64 (r18.2.2.2.1), U (hi (r18.2.2.2.2.1)), U (lo (r18.2.2.2.2.1)), Value.int .i64 (r18.2.2.2.2.2.1)], Value.int .i64 (r14), Value.int .i64 (r18.2.2.2.2.2.2)]) rfl (res3 (res_cell hn 1 rfl rfl rfl) rfl rfl))
    · replace hM := ifn (Bool.eq_false_iff.1 hc12) hM
      refine A_seq fun K22 hK22 => ?_
      refine A_reg ?_
      refine r_v (Value.int .i32 (c)) rfl rfl rfl rfl ?_
      replace hM := bind_sm hM; obtain ⟨r23, hr24, hM⟩ := hM
      refine r_c (Value.bool (r23)) rfl _ _ (ev_callF rfl call_34 rfl) (name_Digit_g N c _ hr24) ?_
      refine r_v (Value.bool (r23)) rfl rfl rfl rfl ?_
      refine lx_nil ?_
      refine hK22 _ _ ?_; try clear hK22 K22
      refine A_cond (r23) rfl (fun hc25 => ?_) (fun hc25 => ?_)
      · replace hM := ifp hc25 hM
        refine A_seq fun K26 hK26 => ?_
        refine A_reg ?_
        refine r_v (Value.string (⟨(s).toArray⟩)) rfl rfl rfl rfl ?_
        replace hM := bind_sm hM; obtain ⟨r27, hr28, hM⟩ := hM
        refine r_c (Value.int .i64 (r27)) rfl _ _ (ev_callF rfl call_16 rfl) (lex_run_v3_g N s _ hr28) ?_
        refine r_v (Value.int .i64 (r27)) rfl rfl rfl rfl ?_
        refine lx_nil ?_
        refine hK26 _ _ ?_; try clear hK26 K26
        refine A_seq fun K29 hK29 => ?_
        refine A_reg ?_
        refine r_v (Value.string (⟨(s).toArray⟩)) rfl rfl rfl rfl ?_
        refine r_v (Value.int .i64 (r27)) rfl rfl rfl rfl ?_
        replace hM := ck_some hM; obtain ⟨ck30, hM⟩ := hM
        refine r_v (Value.string (⟨((s).take (r27).toNat).toArray⟩)) rfl rfl rfl (ev_v (ev_sliceS2 rfl ck30)) ?_
        replace hM := bind_sm hM; obtain ⟨r31, hr32, hM⟩ := hM
        refine r_c (Value.tuple #[Value.agg #[Value.int .i64 (r31.1), Value.string (⟨(r31.2.1).toArray⟩), Value.int .i64 (r31.2.2.1), Value.int .i64 (r31.2.2.2.1), U (hi (r31.2.2.2.2.1)), U (lo (r31.2.2.2.2.1)), Value.int .i64 (r31.2.2.2.2.2.1)], Value.int .i64 (r31.2.2.2.2.2.2)]) rfl _ _ (ev_callF rfl call_36 rfl) (lex_numberOf_g N ((s).take (r27).toNat) _ hr32) ?_
        refine r_v (Value.tuple #[Value.agg #[Value.int .i64 (r31.1), Value.string (⟨(r31.2.1).toArray⟩), Value.int .i64 (r31.2.2.1), Value.int .i64 (r31.2.2.2.1), U (hi (r31.2.2.2.2.1)), U (lo (r31.2.2.2.2.1)), Value.int .i64 (r31.2.2.2.2.2.1)], Value.int .i64 (r31.2.2.2.2.2.2)]) rfl rfl rfl rfl ?_
        refine r_v (Value.agg #[Value.int .i64 (r31.1), Value.string (⟨(r31.2.1).toArray⟩), Value.int .i64 (r31.2.2.1), Value.int .i64 (r31.2.2.2.1), U (hi (r31.2.2.2.2.1)), U (lo (r31.2.2.2.2.1)), Value.int .i64 (r31.2.2.2.2.2.1)]) rfl rfl rfl rfl ?_
        refine r_v (Value.int .i64 (r31.2.2.2.2.2.2)) rfl rfl rfl rfl ?_
        refine r_a (47, #[Value.int .i64 (0), Value.string (⟨#[]⟩), Value.int .i64 (0), Value.int .i64 (0), U (0#64), U (0#64), Value.int .i64 (0)]) rfl rfl rfl (fun b33 => ?_) (.inr rfl)
        refine r_s [(b33, 47, #[Value.int .i64 (r31.1), Value.string (⟨(r31.2.1).toArray⟩), Value.int .i64 (r31.2.2.1), Value.int .i64 (r31.2.2.2.1), U (hi (r31.2.2.2.2.1)), U (lo (r31.2.2.2.2.1)), Value.int .i64 (r31.2.2.2.2.2.1)]), (b2, 47, #[Value.int .i64 (0), Value.string (⟨#[]⟩), Value.int .i64 (0), Value.int .i64 (0), U (0#64), U (0#64), Value.int .i64 (0)])] 0 _ _ _ (#[Value.int .i64 (0), Value.string (⟨#[]⟩), Value.int .i64 (0), Value.int .i64 (0), U (0#64), U (0#64), Value.int .i64 (0)]) (#[Value.int .i64 (r31.1), Value.string (⟨(r31.2.1).toArray⟩), Value.int .i64 (r31.2.2.1), Value.int .i64 (r31.2.2.2.1), U (hi (r31.2.2.2.2.1)), U (lo (r31.2.2.2.2.1)), Value.int .i64 (r31.2.2.2.2.2.1)]) (#[Value.int .i64 (r31.1), Value.string (⟨(r31.2.1).toArray⟩), Value.int .i64 (r31.2.2.1), Value.int .i64 (r31.2.2.2.1), U (hi (r31.2.2.2.2.1)), U (lo (r31.2.2.2.2.1)), Value.int .i64 (r31.2.2.2.2.2.1)]) rfl rfl rfl rfl (.of rfl rfl) rfl rfl ?_
        refine r_v (Value.int .i64 (r31.2.2.2.2.2.2)) rfl rfl rfl rfl ?_
        refine lx_nil ?_
        refine hK29 _ _ ?_; try clear hK29 K29
        refine A_seq fun K34 hK34 => ?_
        refine A_reg ?_
        refine r_l (Value.agg #[Value.int .i64 (r31.1), Value.string (⟨(r31.2.1).toArray⟩), Value.int .i64 (r31.2.2.1), Value.int .i64 (r31.2.2.2.1), U (hi (r31.2.2.2.2.1)), U (lo (r31.2.2.2.2.1)), Value.int .i64 (r31.2.2.2.2.2.1)]) 0 _ _ _ _ rfl rfl rfl rfl rfl ?_
        refine r_v (Value.int .i64 (r27)) rfl rfl rfl rfl ?_
        refine r_v (Value.int .i64 (r31.2.2.2.2.2.2)) rfl rfl rfl rfl ?_
        refine r_s [(b33, 47, #[Value.int .i64 (r31.1), Value.string (⟨(r31.2.1).toArray⟩), Value.int .i64 (r31.2.2.1), Value.int .i64 (r31.2.2.2.1), U (hi (r31.2.2.2.2.1)), U (lo (r31.2.2.2.2.1)), Value.int .i64 (r31.2.2.2.2.2.1)]), (b2, 47, #[Value.int .i64 (r31.1), Value.string (⟨(r31.2.1).toArray⟩), Value.int .i64 (r31.2.2.1), Value.int .i64 (r31.2.2.2.1), U (hi (r31.2.2.2.2.1)), U (lo (r31.2.2.2.2.1)), Value.int .i64 (r31.2.2.2.2.2.1)])] 1 _ _ _ (#[Value.int .i64 (0), Value.string (⟨#[]⟩), Value.int .i64 (0), Value.int .i64 (0), U (0#64), U (0#64), Value.int .i64 (0)]) (#[Value.int .i64 (r31.1), Value.string (⟨(r31.2.1).toArray⟩), Value.int .i64 (r31.2.2.1), Value.int .i64 (r31.2.2.2.1), U (hi (r31.2.2.2.2.1)), U (lo (r31.2.2.2.2.1)), Value.int .i64 (r31.2.2.2.2.2.1)]) (#[Value.int .i64 (r31.1), Value.string (⟨(r31.2.1).toArray⟩), Value.int .i64 (r31.2.2.1), Value.int .i64 (r31.2.2.2.1), U (hi (r31.2.2.2.2.1)), U (lo (r31.2.2.2.2.1)), Value.int .i64 (r31.2.2.2.2.2.1)]) rfl rfl rfl rfl (.of rfl rfl) rfl rfl ?_
        refine r_v (Value.int .i64 (r27)) rfl rfl rfl rfl ?_
        refine r_v (Value.int .i64 (r31.2.2.2.2.2.2)) rfl rfl rfl rfl ?_
        refine lx_nil ?_
        refine hK34 _ _ ?_; try clear hK34 K34
        refine A_gen [(4, Value.pointer (some ⟨b2, 0, none⟩)), (5, Value.int .i64 (r27)), (6, Value.int .i64 (r31.2.2.2.2.2.2))] rfl (fun T => ?_)
        obtain rfl := Option.some.inj hM
        refine A_ret (fun hn => ends_eq (v0 := Value.tuple #[Value.agg #[Value.int .i64 (r31.1), Value.string (⟨(r31.2.1).toArray⟩), Value.int .i64 (r31.2.2.1), Value.int .i64 (r31.2.2.2.1), U (hi (r31.2.2.2.2.1)), U (lo (r31.2.2.2.2.1)), Value.int .i64 (r31.2.2.2.2.2.1)], Value.int .i64 (r27), Value.int .i64 (r31.2.2.2.2.2.2)]) rfl (res3 (res_cell hn 1 rfl rfl rfl) rfl rfl))
      · replace hM := ifn (Bool.eq_false_iff.1 hc25) hM
        refine A_skip ?_
        refine hK3 _ _ ?_; try clear hK3 K3
        refine A_seq fun K35 hK35 => ?_
        refine A_reg ?_
        refine r_v (Value.agg #[Value.int .i64 (0), Value.string (⟨#[]⟩), Value.int .i64 (0), Value.int .i64 (0), U (0#64), U (0#64), Value.int .i64 (0)]) rfl rfl rfl (ev_buildS rfl rfl rfl rfl) ?_
        refine r_s [(b2, 47, #[Value.int .i64 (0), Value.string (⟨#[]⟩), Value.int .i64 (0), Value.int .i64 (0), U (0#64), U (0#64), Value.int .i64 (0)])] 0 _ _ _ (#[Value.int .i64 (0), Value.string (⟨#[]⟩), Value.int .i64 (0), Value.int .i64 (0), U (0#64), U (0#64), Value.int .i64 (0)]) (#[Value.int .i64 (0), Value.string (⟨#[]⟩), Value.int .i64 (0), Value.int .i64 (0), U (0#64), U (0#64), Value.int .i64 (0)]) (#[Value.int .i64 (0), Value.string (⟨#[]⟩), Value.int .i64 (0), Value.int .i64 (0), U (0#64), U (0#64), Value.int .i64 (0)]) rfl rfl rfl rfl (.of rfl rfl) rfl rfl ?_
        refine r_v (Value.int .i64 (0)) rfl rfl rfl rfl ?_
        refine r_v (Value.int .i64 (4)) rfl rfl rfl rfl ?_
        refine lx_nil ?_
        refine hK35 _ _ ?_; try clear hK35 K35
        obtain rfl := Option.some.inj hM
        refine A_ret (fun hn => ends_eq (v0 := Value.tuple #[Value.agg #[Value.int .i64 (0), Value.string (⟨#[]⟩), Value.int .i64 (0), Value.int .i64 (0), U (0#64), U (0#64), Value.int .i64 (0)], Value.int .i64 (0), Value.int .i64 (4)]) (by first | rfl | (simp only [app_hl]; done) | simp only [app_hl]) (res3 (res_cell hn 0 rfl rfl rfl) rfl rfl))
inductive Sum25 where
  | nil
  | t31 (x0 : Int) (x1 : Int)
  deriving Inhabited
def Sum25.on {β : Type} (x : Sum25) (a : β) (f31 : Int → Int → β) : β := match x with | .nil => a | .t31 x0 x1 => f31 x0 x1
theorem Sum25.on_nil {β : Type} {x : Sum25} {a r : β} {f31 : Int → Int → β} (h : x = .nil) (e : Sum25.on x a f31 = r) : a = r := by subst h; exact e
theorem Sum25.on_t31 {β : Type} {x : Sum25} {a r : β} {f31 : Int → Int → β} {x0 : Int} {x1 : Int} (h : x = .t31 x0 x1) (e : Sum25.on x a f31 = r) : f31 x0 x1 = r := by subst h; exact e
def Sum25.onP (x : Sum25) (a : PO) (f31 : Int → Int → PO) : PO := match x with | .nil => a | .t31 x0 x1 => f31 x0 x1
theorem Sum25.onP_nil {x : Sum25} {a : PO} {f31 : Int → Int → PO} {v : Value} {O : List (List Bl)} (h : x = .nil) (e : Sum25.onP x a f31 v O) : a v O := by subst h; exact e
theorem Sum25.onP_t31 {x : Sum25} {a : PO} {f31 : Int → Int → PO} {x0 : Int} {x1 : Int} {v : Value} {O : List (List Bl)} (h : x = .t31 x0 x1) (e : Sum25.onP x a f31 v O) : f31 x0 x1 v O := by subst h; exact e
theorem Sum25.cases (x : Sum25) : x = .nil ∨ (∃ x0 x1, x = .t31 x0 x1) := by cases x <;> simp
def lex_Scan_k5 (N : Nat) (s : List UInt8) (l1_ : List (Int × List UInt8 × Int × Int × BitVec 128 × Int)) (m3_ : Nat) (rec_lex_Scan_l4 : List (Int × List UInt8 × Int × Int × BitVec 128 × Int) → Int → Nat → Option ((List (Int × List UInt8 × Int × Int × BitVec 128 × Int)) × Sum25)) : Option ((List (Int × List UInt8 × Int × Int × BitVec 128 × Int)) × Sum25) := if (((runeAt (s) (m3_) : Nat) : Int) : Int) = 35 then ck (0 ≤ ((m3_ : Nat) : Int) ∧ ((m3_ : Nat) : Int) ≤ ((s).length : Int)) ((lex_run_v1_m N ((s).drop (((m3_ : Nat) : Int)).toNat)).bind fun r24 => ck ((-9223372036854775808 ≤ (((m3_ : Nat) : Int) + r24) ∧ (((m3_ : Nat) : Int) + r24) ≤ 9223372036854775807)) (rec_lex_Scan_l4 (l1_) ((((m3_ : Nat) : Int) + r24)) (nextP (s) (m3_)))) else ck (0 ≤ ((m3_ : Nat) : Int) ∧ ((m3_ : Nat) : Int) ≤ ((s).length : Int)) ((lex_first_m N ((runeAt (s) (m3_) : Nat) : Int) ((s).drop (((m3_ : Nat) : Int)).toNat)).bind fun r29 => if (r29.2.2.2.2.2.2.2 : Int) ≠ 0 then some ([], (.t31 r29.2.2.2.2.2.2.2 ((m3_ : Nat) : Int))) else ck ((l1_).length + ([(r29.1, r29.2.1, r29.2.2.1, r29.2.2.2.1, r29.2.2.2.2.1, ((m3_ : Nat) : Int))]).length ≤ 2199023255552) (ck ((-9223372036854775808 ≤ (((m3_ : Nat) : Int) + r29.2.2.2.2.2.2.1) ∧ (((m3_ : Nat) : Int) + r29.2.2.2.2.2.2.1) ≤ 9223372036854775807)) (rec_lex_Scan_l4 ((l1_ ++ ([(r29.1, r29.2.1, r29.2.2.1, r29.2.2.2.1, r29.2.2.2.2.1, ((m3_ : Nat) : Int))]))) ((((m3_ : Nat) : Int) + r29.2.2.2.2.2.2.1)) (nextP (s) (m3_)))))
def lex_Scan_l4 (N : Nat) (s : List UInt8) : Nat → List (Int × List UInt8 × Int × Int × BitVec 128 × Int) → Int → Nat → Option ((List (Int × List UInt8 × Int × Int × BitVec 128 × Int)) × Sum25)
  | 0, _, _, _ => none
  | n12 + 1, l1_, end2_, m3_ => if m3_ < (s).length then ck (m3_ < (s).length) (ck (m3_ < (s).length) (if (((m3_ : Nat) : Int) : Int) < end2_ then (lex_Scan_l4 N s n12) (l1_) (end2_) (nextP (s) (m3_)) else (lex_blank_m N ((runeAt (s) (m3_) : Nat) : Int)).bind fun r49 => if (r49) = true then (lex_Scan_l4 N s n12) (l1_) (end2_) (nextP (s) (m3_)) else lex_Scan_k5 N s l1_ m3_ (lex_Scan_l4 N s n12) )) else some (l1_, .nil)
def lex_Scan_m (N : Nat) (s : List UInt8) : Option ((List (Int × List UInt8 × Int × Int × BitVec 128 × Int)) × Sum25) := if (((s).length : Int) : Int) > 16384 then some ([], (.t31 2 0)) else lex_Scan_l4 N s N ([]) (0) (0)
set_option maxRecDepth 100000 in
set_option maxHeartbeats 8000000 in
theorem lex_Scan_g (N : Nat) (s : List UInt8) (r : (List (Int × List UInt8 × Int × Int × BitVec 128 × Int)) × Sum25) (hM : lex_Scan_m N s = some r) (ro : Addr → Option Value)  : Does Tryd.prog 7 #[Value.string (⟨(s).toArray⟩)] ro [] (pO [] (oS 47 enc_47 r.1 fun s_0 => (Sum25.onP r.2 (oE (Value.tuple #[s_0, Value.nilIface]) []) (fun y0_0 y0_1 => (oB 36 #[Value.int .i64 (y0_0), Value.int .i64 (y0_1)] fun bs_0 => (oE (Value.tuple #[s_0, Value.iface 31 (Value.pointer (some ⟨bs_0, 0, none⟩))]) [])))))) := by
  unfold lex_Scan_m at hM
  refine doesO_of_A follows Tryd.func7 rfl 64 rfl (upd (fun _ => undef) 0 (Value.string (⟨(s).toArray⟩))) (by funext k; match k with | 0 => rfl | k + 1 => rfl) (fun _ _ h_ _ => h_) (fun base0_ => ?_)
  refine A_seq fun K1 hK1 => ?_
  refine A_reg ?_
  refine r_v (Value.slice none 0 0) rfl rfl rfl rfl ?_
  refine r_v (Value.nilIface) rfl rfl rfl rfl ?_
  refine lx_nil ?_
  refine hK1 _ _ ?_; try clear hK1 K1
  refine A_seq fun K2 hK2 => ?_
  refine A_seq fun K3 hK3 => ?_
  refine A_reg ?_
  refine r_v (Value.string (⟨(s).toArray⟩)) rfl rfl rfl rfl ?_
  refine r_v (Value.int .i64 (((s).length : Int))) rfl rfl rfl (ev_lenS rfl rfl rfl) ?_
  refine r_v (Value.bool (decide ((((s).length : Int) : Int) > 16384))) rfl rfl rfl rfl ?_
  refine lx_nil ?_
  refine hK3 _ _ ?_; try clear hK3 K3
  refine A_cond (decide ((((s).length : Int) : Int) > 16384)) rfl (fun hc4 => ?_) (fun hc4 => ?_)
  · replace hM := ifp (of_decide_eq_true hc4) hM
    refine A_seq fun K5 hK5 => ?_
    refine A_reg ?_
    refine r_v (Value.agg #[Value.int .i64 (2), Value.int .i64 (0)]) rfl rfl rfl (ev_buildS rfl rfl rfl rfl) ?_
    refine r_a (36, #[Value.int .i64 (2), Value.int .i64 (0)]) rfl rfl rfl (fun b6 => ?_) (.inr rfl)
    refine r_v (Value.iface 31 (Value.pointer (some ⟨b6, 0, none⟩))) rfl rfl rfl rfl ?_
    refine r_v (Value.slice none 0 0) rfl rfl rfl rfl ?_
    refine r_v (Value.iface 31 (Value.pointer (some ⟨b6, 0, none⟩))) rfl rfl rfl rfl ?_
    refine lx_nil ?_
    refine hK5 _ _ ?_; try clear hK5 K5
    obtain rfl := Option.some.inj hM
    refine A_ret (fun hn => endsO (v0 := Value.tuple #[Value.slice none 0 0, Value.iface 31 (Value.pointer (some ⟨b6, 0, none⟩))]) (O := [[], [(b6, 36, #[Value.int .i64 (2), Value.int .i64 (0)])]]) (res2 rfl rfl) (Sub.pickE (Ls := [[(b6, 36, #[Value.int .i64 (2), Value.int .i64 (0)])], []]) (Ls0 := [[(b6, 36, #[Value.int .i64 (2), Value.int .i64 (0)])]]) rfl [1, 0] rfl) ⟨Value.slice none 0 0, [], _, Sl.nil, ⟨b6, _, ⟨rfl, rfl⟩, rfl⟩, rfl⟩)
  · replace hM := ifn (of_decide_eq_false hc4) hM
    refine A_skip ?_
    refine hK2 _ _ ?_; try clear hK2 K2
    refine A_seq fun K7 hK7 => ?_
    refine A_reg ?_
    refine r_v (Value.slice none 0 0) rfl rfl rfl rfl ?_
    refine lx_nil ?_
    refine hK7 _ _ ?_; try clear hK7 K7
    refine A_seq fun K8 hK8 => ?_
    refine A_reg ?_
    refine r_v (Value.int .i64 (0)) rfl rfl rfl rfl ?_
    refine lx_nil ?_
    refine hK8 _ _ ?_; try clear hK8 K8
    refine A_seq fun K9 hK9 => ?_
    refine A_seq fun K10 hK10 => ?_
    refine A_regC [(some 18, false)] (conG Tryd.prog [(18, fun v_ L_ U_ => (pIt (s)) v_ L_ U_)]) ?_
    refine r_v (Value.string (⟨(s).toArray⟩)) rfl rfl rfl rfl ?_
    refine r_range (s) rfl rfl rfl rfl rfl (fun _ _ _ _ _ => Iff.rfl) (fun b11 => ?_)
    refine lx_nil ?_
    refine hK10 _ _ ?_; try clear hK10 K10
    refine A_block ?_
    refine A_forget _ (Sub.pickE (Ls := [[(b11, (itT (s) (0)), #[])], []]) (Ls0 := [[(b11, (itT (s) (0)), #[])]]) rfl [0, 1] rfl) ?_
    refine A_loop (fun tt ll nn => ∃ (n12 : Nat) (l1_ : List (Int × List UInt8 × Int × Int × BitVec 128 × Int)) (end2_ : Int) (m3_ : Nat), (lex_Scan_l4 N s n12 l1_ end2_ m3_ = some r) ∧ ∃ (vl1_ : Value) (Sl1_ : List Bl), Sl 47 enc_47 vl1_ l1_ Sl1_ ∧ Is [(0, Value.string (⟨(s).toArray⟩)), (4, vl1_), (5, Value.int .i64 (end2_)), (18, Value.pointer (some ⟨b11, 0, none⟩))] (List.flatten [[(b11, (itT (s) (m3_)), #[])], Sl1_]) tt ll ∧ nn = n12 + 1) (N + 1) ?_ ?_
    · exact ⟨N, [], 0, 0, hM, Value.slice none 0 0, [], Sl.nil, is_mk rfl rfl, rfl⟩
    · clear hM; rintro t l _ ⟨n12, l1_, end2_, m3_, hM, vl1_, Sl1_, hl1_, ⟨⟨T, rfl⟩, rfl⟩, rfl⟩
      rcases n12 with _ | n12
      · exact absurd hM (by simp [lex_Scan_l4])
      rw [lex_Scan_l4] at hM
      refine A_seq fun K13 hK13 => ?_
      refine A_regC [(some 19, true)] (conG Tryd.prog [(19, fun v_ L_ U_ => (pNx b11 (s) (m3_)) v_ L_ U_)]) ?_
      refine r_next (lN := (List.flatten [[(b11, (itT (s) (nextP (s) (m3_))), #[])], Sl1_])) 0 b11 (s) (m3_) rfl rfl rfl rfl rfl rfl (fun _ _ _ _ _ => Iff.rfl) rfl ?_
      refine r_v (Value.bool (decide (m3_ < (s).length))) rfl rfl rfl (ev_v (ev_next0 (s) (m3_))) ?_
      refine lx_nil ?_
      refine hK13 _ _ ?_; try clear hK13 K13
      refine A_seq fun K14 hK14 => ?_
      refine A_cond (decide (m3_ < (s).length)) rfl (fun hc15 => ?_) (fun hc15 => ?_)
      · replace hM := ifp (of_decide_eq_true hc15) hM
        refine A_skip ?_
        refine hK14 _ _ ?_; try clear hK14 K14
        refine A_block ?_
        refine A_seq fun K16 hK16 => ?_
        refine A_reg ?_
        replace hM := ck_some hM; obtain ⟨ck17, hM⟩ := hM
        refine r_v (Value.int .i64 (((m3_ : Nat) : Int))) rfl rfl rfl (ev_v (ev_next1 ck17)) ?_
        replace hM := ck_some hM; obtain ⟨ck18, hM⟩ := hM
        refine r_v (Value.int .i32 (((runeAt (s) (m3_) : Nat) : Int))) rfl rfl rfl (ev_v (ev_next2 ck18)) ?_
        refine r_v (Value.int .i64 (((m3_ : Nat) : Int))) rfl rfl rfl rfl ?_
        refine r_v (Value.int .i32 (((runeAt (s) (m3_) : Nat) : Int))) rfl rfl rfl rfl ?_
        refine lx_nil ?_
        refine hK16 _ _ ?_; try clear hK16 K16
        refine A_cut (fun tt ll => (lex_Scan_k5 N s l1_ m3_ (lex_Scan_l4 N s n12)  = some r) ∧ Is [(0, Value.string (⟨(s).toArray⟩)), (4, vl1_), (6, Value.int .i64 (((m3_ : Nat) : Int))), (7, Value.int .i32 (((runeAt (s) (m3_) : Nat) : Int))), (18, Value.pointer (some ⟨b11, 0, none⟩))] (List.flatten [[(b11, (itT (s) (nextP (s) (m3_))), #[])], Sl1_]) tt ll) ?_ ?_
        · refine A_seq fun K47 hK47 => ?_
          refine A_reg ?_
          refine r_v (Value.int .i64 (((m3_ : Nat) : Int))) rfl rfl rfl rfl ?_
          refine r_v (Value.int .i64 (end2_)) rfl rfl rfl rfl ?_
          refine r_v (Value.bool (decide ((((m3_ : Nat) : Int) : Int) < end2_))) rfl rfl rfl rfl ?_
          refine r_v (Value.bool (decide ((((m3_ : Nat) : Int) : Int) < end2_))) rfl rfl rfl rfl ?_
          rcases hg48 : (decide ((((m3_ : Nat) : Int) : Int) < end2_)) with _ | _
          · replace hM := ifn (of_decide_eq_false hg48) hM
            refine r_y rfl ?_
            refine r_v (Value.int .i32 (((runeAt (s) (m3_) : Nat) : Int))) rfl rfl rfl rfl ?_
            refine r_y rfl ?_
            replace hM := bind_sm hM; obtain ⟨r49, hr50, hM⟩ := hM
            refine r_c (Value.bool (r49)) rfl _ _ (ev_callF rfl call_15 rfl) (lex_blank_g N ((runeAt (s) (m3_) : Nat) : Int) _ hr50) ?_
            refine r_v (Value.bool (r49)) rfl rfl rfl rfl ?_
            refine lx_nil ?_
            refine hK47 _ _ ?_; try clear hK47 K47
            refine A_cond (r49) rfl (fun hc51 => ?_) (fun hc51 => ?_)
            · replace hM := ifp hc51 hM
              refine A_exit ?_
              refine fg _ (Sub.pick [[(b11, (itT (s) (nextP (s) (m3_))), #[])], Sl1_] [0, 1] rfl) ?_
              exact ⟨n12 + 1, by omega, n12, l1_, end2_, nextP (s) (m3_), hM, vl1_, Sl1_, hl1_, is_mk rfl rfl, rfl⟩
            · replace hM := ifn (Bool.eq_false_iff.1 hc51) hM
              refine A_skip ?_
              refine fg _ (Sub.pick [[(b11, (itT (s) (nextP (s) (m3_))), #[])], Sl1_] [0, 1] rfl) ?_
              exact ⟨hM, is_mk rfl rfl⟩
          · replace hM := ifp (of_decide_eq_true hg48) hM
            refine r_n true rfl (by decide) rfl ?_
            refine r_n true rfl (by decide) rfl ?_
            refine r_v (Value.bool (true)) rfl rfl rfl rfl ?_
            refine lx_nil ?_
            refine hK47 _ _ ?_; try clear hK47 K47
            refine A_cond true rfl (fun _ => ?_) (fun h_ => nomatch h_)
            refine A_exit ?_
            refine fg _ (Sub.pick [[(b11, (itT (s) (nextP (s) (m3_))), #[])], Sl1_] [0, 1] rfl) ?_
            exact ⟨n12 + 1, by omega, n12, l1_, end2_, nextP (s) (m3_), hM, vl1_, Sl1_, hl1_, is_mk rfl rfl, rfl⟩
        · clear hM; rintro t l ⟨hM, ⟨T, rfl⟩, rfl⟩
          unfold lex_Scan_k5 at hM
          refine A_seq fun K19 hK19 => ?_
          refine A_seq fun K20 hK20 => ?_
          refine A_reg ?_
          refine r_v (Value.int .i32 (((runeAt (s) (m3_) : Nat) : Int))) rfl rfl rfl rfl ?_
          refine r_v (Value.bool (((((runeAt (s) (m3_) : Nat) : Int) : Int) == 35))) rfl rfl rfl rfl ?_
          refine lx_nil ?_
          refine hK20 _ _ ?_; try clear hK20 K20
          refine A_cond (((((runeAt (s) (m3_) : Nat) : Int) : Int) == 35)) rfl (fun hc21 => ?_) (fun hc21 => ?_)
          · replace hM := ifp (eq_of_beq hc21) hM
            refine A_seq fun K22 hK22 => ?_
            refine A_reg ?_
            refine r_v (Value.int .i64 (((m3_ : Nat) : Int))) rfl rfl rfl rfl ?_
            refine r_v (Value.string (⟨(s).toArray⟩)) rfl rfl rfl rfl ?_
            refine r_v (Value.int .i64 (((m3_ : Nat) : Int))) rfl rfl rfl rfl ?_
            replace hM := ck_some hM; obtain ⟨ck23, hM⟩ := hM
            refine r_v (Value.string (⟨((s).drop (((m3_ : Nat) : Int)).toNat).toArray⟩)) rfl rfl rfl (ev_v (ev_sliceS1 rfl ck23)) ?_
            replace hM := bind_sm hM; obtain ⟨r24, hr25, hM⟩ := hM
            refine r_c (Value.int .i64 (r24)) rfl _ _ (ev_callF rfl call_16 rfl) (lex_run_v1_g N ((s).drop (((m3_ : Nat) : Int)).toNat) _ hr25) ?_
            replace hM := ck_some hM; obtain ⟨ck26, hM⟩ := hM
            refine r_v (Value.int .i64 ((((m3_ : Nat) : Int) + r24))) rfl rfl (wi64 rfl ck26.1 ck26.2) rfl ?_
            refine r_v (Value.int .i64 ((((m3_ : Nat) : Int) + r24))) rfl rfl rfl rfl ?_
            refine lx_nil ?_
            refine hK22 _ _ ?_; try clear hK22 K22
            refine A_exit ?_
            refine fg _ (Sub.pick [[(b11, (itT (s) (nextP (s) (m3_))), #[])], Sl1_] [0, 1] rfl) ?_
            exact ⟨n12 + 1, by omega, n12, l1_, (((m3_ : Nat) : Int) + r24), nextP (s) (m3_), hM, vl1_, Sl1_, hl1_, is_mk rfl rfl, rfl⟩
          · replace hM := ifn (ne_of_beq_false hc21) hM
            refine A_skip ?_
            refine hK19 _ _ ?_; try clear hK19 K19
            refine A_seq fun K27 hK27 => ?_
            refine A_reg ?_
            refine r_v (Value.int .i32 (((runeAt (s) (m3_) : Nat) : Int))) rfl rfl rfl rfl ?_
            refine r_v (Value.string (⟨(s).toArray⟩)) rfl rfl rfl rfl ?_
            refine r_v (Value.int .i64 (((m3_ : Nat) : Int))) rfl rfl rfl rfl ?_
            replace hM := ck_some hM; obtain ⟨ck28, hM⟩ := hM
            refine r_v (Value.string (⟨((s).drop (((m3_ : Nat) : Int)).toNat).toArray⟩)) rfl rfl rfl (ev_v (ev_sliceS1 rfl ck28)) ?_
            replace hM := bind_sm hM; obtain ⟨r29, hr30, hM⟩ := hM
            refine r_c (Value.tuple #[Value.agg #[Value.int .i64 (r29.1), Value.string (⟨(r29.2.1).toArray⟩), Value.int .i64 (r29.2.2.1), Value.int .i64 (r29.2.2.2.1), U (hi (r29.2.2.2.2.1)), U (lo (r29.2.2.2.2.1)), Value.int .i64 (r29.2.2.2.2.2.1)], Value.int .i64 (r29.2.2.2.2.2.2.1), Value.int .i64 (r29.2.2.2.2.2.2.2)]) rfl _ _ (ev_callF rfl call_18 rfl) (lex_first_g N ((runeAt (s) (m3_) : Nat) : Int) ((s).drop (((m3_ : Nat) : Int)).toNat) _ hr30) ?_
            refine r_v (Value.tuple #[Value.agg #[Value.int .i64 (r29.1), Value.string (⟨(r29.2.1).toArray⟩), Value.int .i64 (r29.2.2.1), Value.int .i64 (r29.2.2.2.1), U (hi (r29.2.2.2.2.1)), U (lo (r29.2.2.2.2.1)), Value.int .i64 (r29.2.2.2.2.2.1)], Value.int .i64 (r29.2.2.2.2.2.2.1), Value.int .i64 (r29.2.2.2.2.2.2.2)]) rfl rfl rfl rfl ?_
            refine r_v (Value.agg #[Value.int .i64 (r29.1), Value.string (⟨(r29.2.1).toArray⟩), Value.int .i64 (r29.2.2.1), Value.int .i64 (r29.2.2.2.1), U (hi (r29.2.2.2.2.1)), U (lo (r29.2.2.2.2.1)), Value.int .i64 (r29.2.2.2.2.2.1)]) rfl rfl rfl rfl ?_
            refine r_v (Value.int .i64 (r29.2.2.2.2.2.2.1)) rfl rfl rfl rfl ?_
            refine r_v (Value.int .i64 (r29.2.2.2.2.2.2.2)) rfl rfl rfl rfl ?_
            refine r_a (47, #[Value.int .i64 (0), Value.string (⟨#[]⟩), Value.int .i64 (0), Value.int .i64 (0), U (0#64), U (0#64), Value.int .i64 (0)]) rfl rfl rfl (fun b31 => ?_) (.inr rfl)
            refine r_s (List.flatten [[(b31, 47, #[Value.int .i64 (r29.1), Value.string (⟨(r29.2.1).toArray⟩), Value.int .i64 (r29.2.2.1), Value.int .i64 (r29.2.2.2.1), U (hi (r29.2.2.2.2.1)), U (lo (r29.2.2.2.2.1)), Value.int .i64 (r29.2.2.2.2.2.1)])], [(b11, (itT (s) (nextP (s) (m3_))), #[])], Sl1_]) 0 _ _ _ (#[Value.int .i64 (0), Value.string (⟨#[]⟩), Value.int .i64 (0), Value.int .i64 (0), U (0#64), U (0#64), Value.int .i64 (0)]) (#[Value.int .i64 (r29.1), Value.string (⟨(r29.2.1).toArray⟩), Value.int .i64 (r29.2.2.1), Value.int .i64 (r29.2.2.2.1), U (hi (r29.2.2.2.2.1)), U (lo (r29.2.2.2.2.1)), Value.int .i64 (r29.2.2.2.2.2.1)]) (#[Value.int .i64 (r29.1), Value.string (⟨(r29.2.1).toArray⟩), Value.int .i64 (r29.2.2.1), Value.int .i64 (r29.2.2.2.1), U (hi (r29.2.2.2.2.1)), U (lo (r29.2.2.2.2.1)), Value.int .i64 (r29.2.2.2.2.2.1)]) rfl rfl rfl rfl (.of rfl rfl) rfl rfl ?_
            refine r_v (Value.int .i64 (r29.2.2.2.2.2.2.1)) rfl rfl rfl rfl ?_
            refine r_v (Value.int .i64 (r29.2.2.2.2.2.2.2)) rfl rfl rfl rfl ?_
            refine lx_nil ?_
            refine hK27 _ _ ?_; try clear hK27 K27
            refine A_seq fun K32 hK32 => ?_
            refine A_seq fun K33 hK33 => ?_
            refine A_reg ?_
            refine r_v (Value.int .i64 (r29.2.2.2.2.2.2.2)) rfl rfl rfl rfl ?_
            refine r_v (Value.bool (((r29.2.2.2.2.2.2.2 : Int) != 0))) rfl rfl rfl rfl ?_
            refine lx_nil ?_
            refine hK33 _ _ ?_; try clear hK33 K33
            refine A_cond (((r29.2.2.2.2.2.2.2 : Int) != 0)) rfl (fun hc34 => ?_) (fun hc34 => ?_)
            · replace hM := ifp (bne_iff_ne.1 hc34) hM
              refine A_seq fun K35 hK35 => ?_
              refine A_reg ?_
              refine r_v (Value.int .i64 (r29.2.2.2.2.2.2.2)) rfl rfl rfl rfl ?_
              refine r_v (Value.int .i64 (((m3_ : Nat) : Int))) rfl rfl rfl rfl ?_
              refine r_v (Value.agg #[Value.int .i64 (r29.2.2.2.2.2.2.2), Value.int .i64 (((m3_ : Nat) : Int))]) rfl rfl rfl (ev_buildS rfl rfl rfl rfl) ?_
              refine r_a (36, #[Value.int .i64 (r29.2.2.2.2.2.2.2), Value.int .i64 (((m3_ : Nat) : Int))]) rfl rfl rfl (fun b36 => ?_) (.inr rfl)
              refine r_v (Value.iface 31 (Value.pointer (some ⟨b36, 0, none⟩))) rfl rfl rfl rfl ?_
              refine r_v (Value.slice none 0 0) rfl rfl rfl rfl ?_
              refine r_v (Value.iface 31 (Value.pointer (some ⟨b36, 0, none⟩))) rfl rfl rfl rfl ?_
              refine lx_nil ?_
              refine hK35 _ _ ?_; try clear hK35 K35
              refine A_gen [(2, Value.slice none 0 0), (3, Value.iface 31 (Value.pointer (some ⟨b36, 0, none⟩)))] rfl (fun T => ?_)
              obtain rfl := Option.some.inj hM
              refine A_ret (fun hn => endsO (v0 := Value.tuple #[Value.slice none 0 0, Value.iface 31 (Value.pointer (some ⟨b36, 0, none⟩))]) (O := [[], [(b36, 36, #[Value.int .i64 (r29.2.2.2.2.2.2.2), Value.int .i64 (((m3_ : Nat) : Int))])]]) (res2 rfl rfl) (Sub.pickE (Ls := [[(b36, 36, #[Value.int .i64 (r29.2.2.2.2.2.2.2), Value.int .i64 (((m3_ : Nat) : Int))])], [(b31, 47, #[Value.int .i64 (r29.1), Value.string (⟨(r29.2.1).toArray⟩), Value.int .i64 (r29.2.2.1), Value.int .i64 (r29.2.2.2.1), U (hi (r29.2.2.2.2.1)), U (lo (r29.2.2.2.2.1)), Value.int .i64 (r29.2.2.2.2.2.1)])], [(b11, (itT (s) (nextP (s) (m3_))), #[])], Sl1_, []]) (Ls0 := [[(b36, 36, #[Value.int .i64 (r29.2.2.2.2.2.2.2), Value.int .i64 (((m3_ : Nat) : Int))])], [(b31, 47, #[Value.int .i64 (r29.1), Value.string (⟨(r29.2.1).toArray⟩), Value.int .i64 (r29.2.2.1), Value.int .i64 (r29.2.2.2.1), U (hi (r29.2.2.2.2.1)), U (lo (r29.2.2.2.2.1)), Value.int .i64 (r29.2.2.2.2.2.1)])], [(b11, (itT (s) (nextP (s) (m3_))), #[])], Sl1_]) rfl [4, 0] rfl) ⟨Value.slice none 0 0, [], _, Sl.nil, ⟨b36, _, ⟨rfl, rfl⟩, rfl⟩, rfl⟩)
            · replace hM := ifn (bne_f hc34) hM
              refine A_skip ?_
              refine hK32 _ _ ?_; try clear hK32 K32
              refine A_seq fun K37 hK37 => ?_
              refine A_reg ?_
              refine r_v (Value.int .i64 (((m3_ : Nat) : Int))) rfl rfl rfl rfl ?_
              refine r_v (Value.pointer (some ⟨b31, 6, none⟩)) rfl rfl rfl rfl ?_
              refine r_s (List.flatten [[(b31, 47, #[Value.int .i64 (r29.1), Value.string (⟨(r29.2.1).toArray⟩), Value.int .i64 (r29.2.2.1), Value.int .i64 (r29.2.2.2.1), U (hi (r29.2.2.2.2.1)), U (lo (r29.2.2.2.2.1)), Value.int .i64 (((m3_ : Nat) : Int))])], [(b11, (itT (s) (nextP (s) (m3_))), #[])], Sl1_]) 0 _ _ _ (#[Value.int .i64 (r29.1), Value.string (⟨(r29.2.1).toArray⟩), Value.int .i64 (r29.2.2.1), Value.int .i64 (r29.2.2.2.1), U (hi (r29.2.2.2.2.1)), U (lo (r29.2.2.2.2.1)), Value.int .i64 (r29.2.2.2.2.2.1)]) (#[Value.int .i64 (((m3_ : Nat) : Int))]) (#[Value.int .i64 (r29.1), Value.string (⟨(r29.2.1).toArray⟩), Value.int .i64 (r29.2.2.1), Value.int .i64 (r29.2.2.2.1), U (hi (r29.2.2.2.2.1)), U (lo (r29.2.2.2.2.1)), Value.int .i64 (((m3_ : Nat) : Int))]) rfl rfl rfl rfl (.of rfl rfl) rfl rfl ?_
              refine lx_nil ?_
              refine hK37 _ _ ?_; try clear hK37 K37
              refine A_seq fun K38 hK38 => ?_
              refine A_regC [(some 58, false), (some 59, true)] (conG Tryd.prog []) ?_
              refine r_v (vl1_) rfl rfl rfl rfl ?_
              refine r_l (Value.agg #[Value.int .i64 (r29.1), Value.string (⟨(r29.2.1).toArray⟩), Value.int .i64 (r29.2.2.1), Value.int .i64 (r29.2.2.2.1), U (hi (r29.2.2.2.2.1)), U (lo (r29.2.2.2.2.1)), Value.int .i64 (((m3_ : Nat) : Int))]) 0 _ _ _ _ rfl rfl rfl rfl rfl ?_
              refine r_bs (cs0 := []) (Ls := [[(b31, 47, #[Value.int .i64 (r29.1), Value.string (⟨(r29.2.1).toArray⟩), Value.int .i64 (r29.2.2.1), Value.int .i64 (r29.2.2.2.1), U (hi (r29.2.2.2.2.1)), U (lo (r29.2.2.2.2.1)), Value.int .i64 (((m3_ : Nat) : Int))])], [(b11, (itT (s) (nextP (s) (m3_))), #[])], Sl1_]) 47 enc_47 [(r29.1, r29.2.1, r29.2.2.1, r29.2.2.2.1, r29.2.2.2.2.1, ((m3_ : Nat) : Int))] [Value.int .i64 (r29.1), Value.string (⟨(r29.2.1).toArray⟩), Value.int .i64 (r29.2.2.1), Value.int .i64 (r29.2.2.2.1), U (hi (r29.2.2.2.2.1)), U (lo (r29.2.2.2.2.1)), Value.int .i64 (((m3_ : Nat) : Int))] [Value.int .i64 (0), Value.string (⟨#[]⟩), Value.int .i64 (0), Value.int .i64 (0), U (0#64), U (0#64), Value.int .i64 (0)] rfl rfl rfl rfl rfl rfl rfl (by kernel_rfl) (by kernel_rfl) rfl rfl rfl (fun s39 S40 H41 => ?_)
              replace hM := ck_some hM; obtain ⟨ck42, hM⟩ := hM
              refine r_app (cs0 := []) (Ls := [[(b31, 47, #[Value.int .i64 (r29.1), Value.string (⟨(r29.2.1).toArray⟩), Value.int .i64 (r29.2.2.1), Value.int .i64 (r29.2.2.2.1), U (hi (r29.2.2.2.2.1)), U (lo (r29.2.2.2.2.1)), Value.int .i64 (((m3_ : Nat) : Int))])], [(b11, (itT (s) (nextP (s) (m3_))), #[])], Sl1_, S40]) 2 (En := enc_47) rfl rfl rfl rfl rfl hl1_ rfl (rd_own H41 (mem_chunk (Ls := [[(b31, 47, #[Value.int .i64 (r29.1), Value.string (⟨(r29.2.1).toArray⟩), Value.int .i64 (r29.2.2.1), Value.int .i64 (r29.2.2.2.1), U (hi (r29.2.2.2.2.1)), U (lo (r29.2.2.2.2.1)), Value.int .i64 (((m3_ : Nat) : Int))])], [(b11, (itT (s) (nextP (s) (m3_))), #[])], Sl1_, S40]) (k := 3) rfl rfl)) rfl rfl rfl rfl rfl (app_b ck42 rfl) (app_m ck42 rfl) rfl (fun s43 S44 H45 => ?_)
              refine r_v (s43) rfl rfl rfl rfl ?_
              refine lx_nil ?_
              refine hK38 _ _ ?_; try clear hK38 K38
              refine A_reg ?_
              refine r_v (Value.int .i64 (((m3_ : Nat) : Int))) rfl rfl rfl rfl ?_
              refine r_v (Value.int .i64 (r29.2.2.2.2.2.2.1)) rfl rfl rfl rfl ?_
              replace hM := ck_some hM; obtain ⟨ck46, hM⟩ := hM
              refine r_v (Value.int .i64 ((((m3_ : Nat) : Int) + r29.2.2.2.2.2.2.1))) rfl rfl (wi64 rfl ck46.1 ck46.2) rfl ?_
              refine r_v (Value.int .i64 ((((m3_ : Nat) : Int) + r29.2.2.2.2.2.2.1))) rfl rfl rfl rfl ?_
              refine lx_nil ?_
              refine fg _ (Sub.pick [[(b31, 47, #[Value.int .i64 (r29.1), Value.string (⟨(r29.2.1).toArray⟩), Value.int .i64 (r29.2.2.1), Value.int .i64 (r29.2.2.2.1), U (hi (r29.2.2.2.2.1)), U (lo (r29.2.2.2.2.1)), Value.int .i64 (((m3_ : Nat) : Int))])], [(b11, (itT (s) (nextP (s) (m3_))), #[])], S44, S40] [1, 2] rfl) ?_
              exact ⟨n12 + 1, by omega, n12, (l1_ ++ ([(r29.1, r29.2.1, r29.2.2.1, r29.2.2.2.1, r29.2.2.2.2.1, ((m3_ : Nat) : Int))])), (((m3_ : Nat) : Int) + r29.2.2.2.2.2.2.1), nextP (s) (m3_), hM, s43, S44, H45, is_mk rfl rfl, rfl⟩
      · replace hM := ifn (of_decide_eq_false hc15) hM
        refine A_exit ?_
        refine hK9 _ _ ?_; try clear hK9 K9
        refine A_seq fun K52 hK52 => ?_
        refine A_reg ?_
        refine r_v (vl1_) rfl rfl rfl rfl ?_
        refine r_v (vl1_) rfl rfl rfl rfl ?_
        refine r_v (Value.nilIface) rfl rfl rfl rfl ?_
        refine lx_nil ?_
        refine hK52 _ _ ?_; try clear hK52 K52
        obtain rfl := Option.some.inj hM
        refine A_ret (fun hn => endsO (v0 := Value.tuple #[vl1_, Value.nilIface]) (O := [Sl1_]) (res2 rfl rfl) (Sub.pick [[(b11, (itT (s) (nextP (s) (m3_))), #[])], Sl1_] [1] rfl) ⟨vl1_, Sl1_, _, hl1_, ⟨rfl, rfl⟩, rfl⟩)
theorem eg_42 : Tryd.prog.eqGuardType Tryd.prog.depth 42 = false := by kernel_rfl
theorem si_42 : Tryd.prog.stoodInHeld 42 = false := by kernel_rfl
set_option maxRecDepth 100000 in
theorem eqst_42 {c : Addr → Option Value} (x0 y0 : Int) (x1 y1 : BitVec 128) : ev Tryd.prog c (Op.equal 42 (.agg #[Value.int .i64 (x0), U (hi (x1)), U (lo (x1))]) (.agg #[Value.int .i64 (y0), U (hi (y1)), U (lo (y1))])) = some ((x0 == y0) && (x1 == y1)) := by
  have h := ev_eqStruct (P := Tryd.prog) (c := c) 9999 (t := 42) #[Value.int .i64 (x0), U (hi (x1)), U (lo (x1))] #[Value.int .i64 (y0), U (hi (y1)), U (lo (y1))] rfl si_42 (fun f => if f.offset = 0 then ((x0 : Int) == y0) else if f.offset = 1 then (((hi (x1)).toNat : Int) == ((hi (y1)).toNat : Int)) else (((lo (x1)).toNat : Int) == ((lo (y1)).toNat : Int)))
    (fun f hf => by
      simp only [List.mem_cons, List.not_mem_nil, or_false] at hf
      rcases hf with rfl | rfl | rfl
      · exact ⟨by decide, _, _, ev_partS (P := Tryd.prog) (t := 3) rfl (by intro fs h; cases h) (by intro n e h; cases h) _ _ rfl, ev_partS (P := Tryd.prog) (t := 3) rfl (by intro fs h; cases h) (by intro n e h; cases h) _ _ rfl, ev_eqInt _ _ _ rfl⟩
      · exact ⟨by decide, _, _, ev_partS (P := Tryd.prog) (t := 40) rfl (by intro fs h; cases h) (by intro n e h; cases h) _ _ rfl, ev_partS (P := Tryd.prog) (t := 40) rfl (by intro fs h; cases h) (by intro n e h; cases h) _ _ rfl, ev_eqInt _ _ _ rfl⟩
      · exact ⟨by decide, _, _, ev_partS (P := Tryd.prog) (t := 40) rfl (by intro fs h; cases h) (by intro n e h; cases h) _ _ rfl, ev_partS (P := Tryd.prog) (t := 40) rfl (by intro fs h; cases h) (by intro n e h; cases h) _ _ rfl, ev_eqInt _ _ _ rfl⟩)
  rw [← word_beq x1 y1]; rw [show Op.equal 42 (.agg #[Value.int .i64 (x0), U (hi (x1)), U (lo (x1))]) (.agg #[Value.int .i64 (y0), U (hi (y1)), U (lo (y1))]) = Op.equalIn (9999 + 1) 42 (.agg #[Value.int .i64 (x0), U (hi (x1)), U (lo (x1))]) (.agg #[Value.int .i64 (y0), U (hi (y1)), U (lo (y1))]) from rfl, h]
  first | (simp; done) | simp [Bool.and_assoc]
def shunterlaw06_lives_m (N : Nat) : Option (Bool) := (lex_Scan_m N ([115, 101, 116, 32, 105, 112, 46, 116, 116, 108, 32, 61, 32, 56, 39, 52, 48, 59] : List UInt8)).bind fun r3 => Sum25.on r3.2 (if (((r3.1).length : Int) : Int) = 5 then ck (0 ≤ (1 : Int) ∧ (1 : Int) < ((r3.1).length : Int)) (if (((r3.1)[((1 : Int)).toNat]!).2.1) = (([105, 112, 46, 116, 116, 108] : List UInt8)) then ck (0 ≤ (3 : Int) ∧ (3 : Int) < ((r3.1).length : Int)) (some (((((r3.1)[((3 : Int)).toNat]!).2.2.2.1) == (8)) && ((((r3.1)[((3 : Int)).toNat]!).2.2.2.2.1) == ((0#64) ++ (64#64))))) else some (false)) else some (false)) (fun x9_0 x10_1 => some (false))
set_option maxRecDepth 100000 in
set_option maxHeartbeats 8000000 in
theorem shunterlaw06_lives_g (N : Nat) (r : Bool) (hM : shunterlaw06_lives_m N = some r) : Gives Tryd.prog 6 #[] (Value.bool (r)) := by
  unfold shunterlaw06_lives_m at hM
  refine gives_of_A follows Tryd.func6 rfl 29 rfl (fun _ => undef) (by funext k; rfl) (fun base0_ => ?_)
  refine A_seq fun K1 hK1 => ?_
  refine A_reg ?_
  refine r_v (Value.bool (false)) rfl rfl rfl rfl ?_
  refine lx_nil ?_
  refine hK1 _ _ ?_; try clear hK1 K1
  refine A_seq fun K2 hK2 => ?_
  refine A_regC [(some 4, true)] (conG Tryd.prog [(4, fun v_ L_ U_ => ∀ u0_, lex_Scan_m N ([115, 101, 116, 32, 105, 112, 46, 116, 116, 108, 32, 61, 32, 56, 39, 52, 48, 59] : List UInt8) = some u0_ → (pO (List.flatten []) (oS 47 enc_47 u0_.1 fun s_0 => (Sum25.onP u0_.2 (oE (Value.tuple #[s_0, Value.nilIface]) []) (fun y0_0 y0_1 => (oB 36 #[Value.int .i64 (y0_0), Value.int .i64 (y0_1)] fun bs_0 => (oE (Value.tuple #[s_0, Value.iface 31 (Value.pointer (some ⟨bs_0, 0, none⟩))]) [])))))) v_ L_ U_)]) ?_
  replace hM := bind_sm hM; obtain ⟨r3, hr4, hM⟩ := hM
  refine r_gm (Ls := []) (FL := []) (RL := []) [] (oS 47 enc_47 r3.1 fun s_0 => (Sum25.onP r3.2 (oE (Value.tuple #[s_0, Value.nilIface]) []) (fun y0_0 y0_1 => (oB 36 #[Value.int .i64 (y0_0), Value.int .i64 (y0_1)] fun bs_0 => (oE (Value.tuple #[s_0, Value.iface 31 (Value.pointer (some ⟨bs_0, 0, none⟩))]) []))))) (some 4) 7 _ rfl rfl rfl rfl rfl (ev_callF rfl call_7 rfl) (fun own_ nw_ hn_ hs_ => lex_Scan_g N ([115, 101, 116, 32, 105, 112, 46, 116, 116, 108, 32, 61, 32, 56, 39, 52, 48, 59] : List UInt8) _ hr4 _ ) (fun _ _ v_ L_ U_ => ⟨fun h_ => h_ _ hr4, fun h_ => by intro _ e_; cases Option.some.inj (e_.symm.trans hr4); exact h_⟩) (fun h_ => nomatch h_) ?_
  rintro _ _ ⟨s5, S6, _, H7, hp_, rfl⟩
  rcases Sum25.cases r3.2 with hx8 | ⟨x9_0, x10_1, hx8⟩
  · obtain ⟨rfl, rfl⟩ := Sum25.onP_nil hx8 hp_
    replace hM := Sum25.on_nil hx8 hM
    refine lx_perm (Ls := [S6]) (Ls' := [S6]) [0] rfl rfl ?_
    refine r_v (Value.tuple #[s5, Value.nilIface]) rfl rfl rfl rfl ?_
    refine r_v (s5) rfl rfl rfl rfl ?_
    refine r_v (Value.nilIface) rfl rfl rfl rfl ?_
    refine r_v (s5) rfl rfl rfl rfl ?_
    refine r_v (Value.nilIface) rfl rfl rfl rfl ?_
    refine lx_nil ?_
    refine hK2 _ _ ?_; try clear hK2 K2
    refine A_seq fun K11 hK11 => ?_
    refine A_reg ?_
    refine r_v (Value.nilIface) rfl rfl rfl rfl ?_
    refine r_v (Value.bool (true)) rfl rfl rfl rfl ?_
    refine r_v (Value.bool (true)) rfl rfl rfl rfl ?_
    refine r_y rfl ?_
    refine r_v (s5) rfl rfl rfl rfl ?_
    refine r_y rfl ?_
    refine r_v (Value.int .i64 (((r3.1).length : Int))) rfl rfl rfl (ev_lenSl rfl rfl rfl (Sl.shp H7)) ?_
    refine r_y rfl ?_
    refine r_v (Value.bool (((((r3.1).length : Int) : Int) == 5))) rfl rfl rfl rfl ?_
    refine r_v (Value.bool (((((r3.1).length : Int) : Int) == 5))) rfl rfl rfl rfl ?_
    refine r_v (Value.bool (((((r3.1).length : Int) : Int) == 5))) rfl rfl rfl rfl ?_
    rcases hg12 : (((((r3.1).length : Int) : Int) == 5)) with _ | _
    · replace hM := ifn (ne_of_beq_false hg12) hM
      refine r_n false rfl (by decide) rfl ?_
      refine r_n false rfl (by decide) rfl ?_
      refine r_n false rfl (by decide) rfl ?_
      refine r_n false rfl (by decide) rfl ?_
      refine r_n false rfl (by decide) rfl ?_
      refine r_v (Value.bool (false)) rfl rfl rfl rfl ?_
      refine r_v (Value.bool (false)) rfl rfl rfl rfl ?_
      refine r_n false rfl (by decide) rfl ?_
      refine r_n false rfl (by decide) rfl ?_
      refine r_n false rfl (by decide) rfl ?_
      refine r_n false rfl (by decide) rfl ?_
      refine r_n false rfl (by decide) rfl ?_
      refine r_n false rfl (by decide) rfl ?_
      refine r_v (Value.bool (false)) rfl rfl rfl rfl ?_
      refine r_v (Value.bool (false)) rfl rfl rfl rfl ?_
      refine lx_nil ?_
      refine hK11 _ _ ?_; try clear hK11 K11
      refine A_gen [(0, Value.bool (false))] rfl (fun T => ?_)
      obtain rfl := Option.some.inj hM
      refine A_ret (fun hn => ends_eq (v0 := Value.bool (false)) rfl (res1 rfl))
    · replace hM := ifp (eq_of_beq hg12) hM
      refine r_y rfl ?_
      refine r_v (s5) rfl rfl rfl rfl ?_
      refine r_y rfl ?_
      replace hM := ck_some hM; obtain ⟨ck13, hM⟩ := hM
      refine r_v (elA s5 (((1 : Int)).toNat * 7)) rfl rfl rfl (ev_v (ev_idxSl rfl rfl rfl (Sl.shp H7) ck13)) ?_
      refine r_y rfl ?_
      refine r_v (elA s5 (((1 : Int)).toNat * 7 + 1)) rfl rfl rfl (ev_v (ev_fieldX rfl rfl rfl rfl rfl rfl (Sl.shp H7) (pos_of ck13))) ?_
      refine r_y rfl ?_
      refine r_le (Value.string (⟨(((r3.1)[((1 : Int)).toNat]!).2.1).toArray⟩)) (En := enc_47) ((r3.1)[((1 : Int)).toNat]!) (((1 : Int)).toNat) 1 rfl rfl (rd_own H7 (mem_chunk (Ls := [S6]) (k := 0) rfl rfl)) (get_of ck13) rfl ?_
      refine r_y rfl ?_
      refine r_v (Value.bool ((((r3.1)[((1 : Int)).toNat]!).2.1) == (([105, 112, 46, 116, 116, 108] : List UInt8)))) rfl rfl rfl (ev_eqS rfl rfl) ?_
      refine r_v (Value.bool ((((r3.1)[((1 : Int)).toNat]!).2.1) == (([105, 112, 46, 116, 116, 108] : List UInt8)))) rfl rfl rfl rfl ?_
      refine r_v (Value.bool ((((r3.1)[((1 : Int)).toNat]!).2.1) == (([105, 112, 46, 116, 116, 108] : List UInt8)))) rfl rfl rfl rfl ?_
      rcases hg14 : ((((r3.1)[((1 : Int)).toNat]!).2.1) == (([105, 112, 46, 116, 116, 108] : List UInt8))) with _ | _
      · replace hM := ifn (ne_of_beq_false hg14) hM
        refine r_n false rfl (by decide) rfl ?_
        refine r_n false rfl (by decide) rfl ?_
        refine r_n false rfl (by decide) rfl ?_
        refine r_n false rfl (by decide) rfl ?_
        refine r_n false rfl (by decide) rfl ?_
        refine r_n false rfl (by decide) rfl ?_
        refine r_v (Value.bool (false)) rfl rfl rfl rfl ?_
        refine r_v (Value.bool (false)) rfl rfl rfl rfl ?_
        refine lx_nil ?_
        refine hK11 _ _ ?_; try clear hK11 K11
        refine A_gen [(0, Value.bool (false))] rfl (fun T => ?_)
        obtain rfl := Option.some.inj hM
        refine A_ret (fun hn => ends_eq (v0 := Value.bool (false)) rfl (res1 rfl))
      · replace hM := ifp (eq_of_beq hg14) hM
        refine r_y rfl ?_
        refine r_v (s5) rfl rfl rfl rfl ?_
        refine r_y rfl ?_
        replace hM := ck_some hM; obtain ⟨ck15, hM⟩ := hM
        refine r_v (elA s5 (((3 : Int)).toNat * 7)) rfl rfl rfl (ev_v (ev_idxSl rfl rfl rfl (Sl.shp H7) ck15)) ?_
        refine r_y rfl ?_
        refine r_v (elA s5 (((3 : Int)).toNat * 7 + 3)) rfl rfl rfl (ev_v (ev_fieldX rfl rfl rfl rfl rfl rfl (Sl.shp H7) (pos_of ck15))) ?_
        refine r_y rfl ?_
        refine r_le (Value.agg #[Value.int .i64 (((r3.1)[((3 : Int)).toNat]!).2.2.2.1), U (hi (((r3.1)[((3 : Int)).toNat]!).2.2.2.2.1)), U (lo (((r3.1)[((3 : Int)).toNat]!).2.2.2.2.1))]) (En := enc_47) ((r3.1)[((3 : Int)).toNat]!) (((3 : Int)).toNat) 3 rfl rfl (rd_own H7 (mem_chunk (Ls := [S6]) (k := 0) rfl rfl)) (get_of ck15) rfl ?_
        refine r_y rfl ?_
        refine r_v (Value.agg #[Value.int .i64 (8), U (0#64), U (64#64)]) rfl rfl rfl (ev_buildS rfl rfl rfl rfl) ?_
        refine r_y rfl ?_
        refine r_v (Value.bool (((((r3.1)[((3 : Int)).toNat]!).2.2.2.1) == (8)) && ((((r3.1)[((3 : Int)).toNat]!).2.2.2.2.1) == ((0#64) ++ (64#64))))) rfl rfl rfl (ev_binEq rfl rfl eg_42 (by have h_ := fun c => eqst_42 (c := c) (((r3.1)[((3 : Int)).toNat]!).2.2.2.1) (8) (((r3.1)[((3 : Int)).toNat]!).2.2.2.2.1) ((0#64) ++ (64#64)); simp only [app_hl] at h_; exact h_ _)) ?_
        refine r_v (Value.bool (((((r3.1)[((3 : Int)).toNat]!).2.2.2.1) == (8)) && ((((r3.1)[((3 : Int)).toNat]!).2.2.2.2.1) == ((0#64) ++ (64#64))))) rfl rfl rfl rfl ?_
        refine r_v (Value.bool (((((r3.1)[((3 : Int)).toNat]!).2.2.2.1) == (8)) && ((((r3.1)[((3 : Int)).toNat]!).2.2.2.2.1) == ((0#64) ++ (64#64))))) rfl rfl rfl rfl ?_
        refine lx_nil ?_
        refine hK11 _ _ ?_; try clear hK11 K11
        refine A_gen [(0, Value.bool (((((r3.1)[((3 : Int)).toNat]!).2.2.2.1) == (8)) && ((((r3.1)[((3 : Int)).toNat]!).2.2.2.2.1) == ((0#64) ++ (64#64)))))] rfl (fun T => ?_)
        obtain rfl := Option.some.inj hM
        refine A_ret (fun hn => ends_eq (v0 := Value.bool (((((r3.1)[((3 : Int)).toNat]!).2.2.2.1) == (8)) && ((((r3.1)[((3 : Int)).toNat]!).2.2.2.2.1) == ((0#64) ++ (64#64))))) rfl (res1 rfl))
  · obtain ⟨b11, _, ⟨rfl, rfl⟩, rfl⟩ := Sum25.onP_t31 hx8 hp_
    replace hM := Sum25.on_t31 hx8 hM
    refine lx_perm (Ls := [S6, [(b11, 36, #[Value.int .i64 (x9_0), Value.int .i64 (x10_1)])]]) (Ls' := [[(b11, 36, #[Value.int .i64 (x9_0), Value.int .i64 (x10_1)])], S6]) [1, 0] rfl rfl ?_
    refine r_v (Value.tuple #[s5, Value.iface 31 (Value.pointer (some ⟨b11, 0, none⟩))]) rfl rfl rfl rfl ?_
    refine r_v (s5) rfl rfl rfl rfl ?_
    refine r_v (Value.iface 31 (Value.pointer (some ⟨b11, 0, none⟩))) rfl rfl rfl rfl ?_
    refine r_v (s5) rfl rfl rfl rfl ?_
    refine r_v (Value.iface 31 (Value.pointer (some ⟨b11, 0, none⟩))) rfl rfl rfl rfl ?_
    refine lx_nil ?_
    refine hK2 _ _ ?_; try clear hK2 K2
    refine A_seq fun K12 hK12 => ?_
    refine A_reg ?_
    refine r_v (Value.iface 31 (Value.pointer (some ⟨b11, 0, none⟩))) rfl rfl rfl rfl ?_
    refine r_v (Value.bool (false)) rfl rfl rfl rfl ?_
    refine r_v (Value.bool (false)) rfl rfl rfl rfl ?_
    refine r_n false rfl (by decide) rfl ?_
    refine r_n false rfl (by decide) rfl ?_
    refine r_n false rfl (by decide) rfl ?_
    refine r_v (Value.bool (false)) rfl rfl rfl rfl ?_
    refine r_v (Value.bool (false)) rfl rfl rfl rfl ?_
    refine r_n false rfl (by decide) rfl ?_
    refine r_n false rfl (by decide) rfl ?_
    refine r_n false rfl (by decide) rfl ?_
    refine r_n false rfl (by decide) rfl ?_
    refine r_n false rfl (by decide) rfl ?_
    refine r_v (Value.bool (false)) rfl rfl rfl rfl ?_
    refine r_v (Value.bool (false)) rfl rfl rfl rfl ?_
    refine r_n false rfl (by decide) rfl ?_
    refine r_n false rfl (by decide) rfl ?_
    refine r_n false rfl (by decide) rfl ?_
    refine r_n false rfl (by decide) rfl ?_
    refine r_n false rfl (by decide) rfl ?_
    refine r_n false rfl (by decide) rfl ?_
    refine r_v (Value.bool (false)) rfl rfl rfl rfl ?_
    refine r_v (Value.bool (false)) rfl rfl rfl rfl ?_
    refine lx_nil ?_
    refine hK12 _ _ ?_; try clear hK12 K12
    refine A_gen [(0, Value.bool (false))] rfl (fun T => ?_)
    obtain rfl := Option.some.inj hM
    refine A_ret (fun hn => ends_eq (v0 := Value.bool (false)) rfl (res1 rfl))
def lex_Why_v1_m (_ : Nat) : Option (Int × Int) := some (0, 0)
set_option maxRecDepth 100000 in
set_option maxHeartbeats 8000000 in
theorem lex_Why_v1_g (N : Nat) (r : Int × Int) (hM : lex_Why_v1_m N = some r) : Gives Tryd.prog 8 #[Value.nilIface] (Value.tuple #[Value.int .i64 (r.1), Value.int .i64 (r.2)]) := by
  unfold lex_Why_v1_m at hM
  refine gives_of_A follows Tryd.func8 rfl 27 rfl (upd (fun _ => undef) 0 (Value.nilIface)) (by funext k; match k with | 0 => rfl | k + 1 => rfl) (fun base0_ => ?_)
  refine A_seq fun K1 hK1 => ?_
  refine A_reg ?_
  refine r_v (Value.int .i64 (0)) rfl rfl rfl rfl ?_
  refine r_v (Value.int .i64 (0)) rfl rfl rfl rfl ?_
  refine lx_nil ?_
  refine hK1 _ _ ?_; try clear hK1 K1
  refine A_seq fun K2 hK2 => ?_
  refine A_seq fun K3 hK3 => ?_
  refine A_reg ?_
  refine r_v (Value.nilIface) rfl rfl rfl rfl ?_
  refine r_v (Value.bool (true)) rfl rfl rfl rfl ?_
  refine lx_nil ?_
  refine hK3 _ _ ?_; try clear hK3 K3
  refine A_cond true rfl (fun _ => ?_) (fun h_ => nomatch h_)
  refine A_seq fun K4 hK4 => ?_
  refine A_reg ?_
  refine r_v (Value.int .i64 (0)) rfl rfl rfl rfl ?_
  refine r_v (Value.int .i64 (0)) rfl rfl rfl rfl ?_
  refine lx_nil ?_
  refine hK4 _ _ ?_; try clear hK4 K4
  obtain rfl := Option.some.inj hM
  refine A_ret (fun hn => ends_eq (v0 := Value.tuple #[Value.int .i64 (0), Value.int .i64 (0)]) rfl (res2 rfl rfl))
def lex_Fault_Error_v1_m (_ : Nat) : Option (List UInt8) := some ([])
set_option maxRecDepth 100000 in
set_option maxHeartbeats 8000000 in
theorem lex_Fault_Error_v1_g (N : Nat) (r : List UInt8) (hM : lex_Fault_Error_v1_m N = some r) (ro : Addr → Option Value)  : DoesI Tryd.prog 9 #[Value.pointer none] MemI ro [] (pV (Value.string (⟨(r).toArray⟩))) := by
  unfold lex_Fault_Error_v1_m at hM
  refine doesI_of_A follows Tryd.func9 rfl 18 rfl (upd (fun _ => undef) 0 (Value.pointer none)) (by funext k; match k with | 0 => rfl | k + 1 => rfl) memI_kept (fun base0_ => ?_)
  refine A_seq fun K1 hK1 => ?_
  refine A_reg ?_
  refine r_v (Value.string (⟨#[]⟩)) rfl rfl rfl rfl ?_
  refine lx_nil ?_
  refine hK1 _ _ ?_; try clear hK1 K1
  refine A_seq fun K2 hK2 => ?_
  refine A_seq fun K3 hK3 => ?_
  refine A_reg ?_
  refine r_v (Value.pointer none) rfl rfl rfl rfl ?_
  refine r_v (Value.bool (true)) rfl rfl rfl rfl ?_
  refine lx_nil ?_
  refine hK3 _ _ ?_; try clear hK3 K3
  refine A_cond true rfl (fun _ => ?_) (fun h_ => nomatch h_)
  refine A_seq fun K4 hK4 => ?_
  refine A_reg ?_
  refine r_v (Value.string (⟨#[]⟩)) rfl rfl rfl rfl ?_
  refine lx_nil ?_
  refine hK4 _ _ ?_; try clear hK4 K4
  obtain rfl := Option.some.inj hM
  refine A_ret (fun hn => endsV (v0 := Value.string (⟨#[]⟩)) rfl (res1 rfl))
def lex_Fault_Error_v2_m (_ : Nat) (f_0 : Int) (f_1 : Int) : Option (List UInt8) := ck (-9223372036854775808 ≤ (f_0 : Int) ∧ (f_0 : Int) ≤ 9223372036854775807) (ck (((([102, 97, 117, 108, 116, 32] : List UInt8)).length : Int) + ((Lib.itoa (f_0)).length : Int) ≤ 9223372036854775807) (ck ((((([102, 97, 117, 108, 116, 32] : List UInt8)) ++ (Lib.itoa (f_0))).length : Int) + ((([32, 97, 116, 32] : List UInt8)).length : Int) ≤ 9223372036854775807) (ck (-9223372036854775808 ≤ (f_1 : Int) ∧ (f_1 : Int) ≤ 9223372036854775807) (ck (((((([102, 97, 117, 108, 116, 32] : List UInt8)) ++ (Lib.itoa (f_0))) ++ (([32, 97, 116, 32] : List UInt8))).length : Int) + ((Lib.itoa (f_1)).length : Int) ≤ 9223372036854775807) (some ((((([102, 97, 117, 108, 116, 32] : List UInt8)) ++ (Lib.itoa (f_0))) ++ (([32, 97, 116, 32] : List UInt8))) ++ (Lib.itoa (f_1))))))))
set_option maxRecDepth 100000 in
set_option maxHeartbeats 8000000 in
theorem lex_Fault_Error_v2_g (N : Nat) (f_0 : Int) (f_1 : Int) (r : List UInt8) (hM : lex_Fault_Error_v2_m N f_0 f_1 = some r) (ro : Addr → Option Value) (bf : Nat) (hbf : Blk ro bf [Value.int .i64 (f_0), Value.int .i64 (f_1)]) : DoesI Tryd.prog 9 #[Value.pointer (some ⟨bf, 0, none⟩)] MemI ro [] (pV (Value.string (⟨(r).toArray⟩))) := by
  unfold lex_Fault_Error_v2_m at hM
  refine doesI_of_A follows Tryd.func9 rfl 18 rfl (upd (fun _ => undef) 0 (Value.pointer (some ⟨bf, 0, none⟩))) (by funext k; match k with | 0 => rfl | k + 1 => rfl) memI_kept (fun base0_ => ?_)
  refine A_seq fun K1 hK1 => ?_
  refine A_reg ?_
  refine r_v (Value.string (⟨#[]⟩)) rfl rfl rfl rfl ?_
  refine lx_nil ?_
  refine hK1 _ _ ?_; try clear hK1 K1
  refine A_seq fun K2 hK2 => ?_
  refine A_seq fun K3 hK3 => ?_
  refine A_reg ?_
  refine r_v (Value.pointer (some ⟨bf, 0, none⟩)) rfl rfl rfl rfl ?_
  refine r_v (Value.bool (false)) rfl rfl rfl rfl ?_
  refine lx_nil ?_
  refine hK3 _ _ ?_; try clear hK3 K3
  refine A_cond false rfl (fun h_ => nomatch h_) (fun _ => ?_)
  refine A_skip ?_
  refine hK2 _ _ ?_; try clear hK2 K2
  refine A_seq fun K4 hK4 => ?_
  refine A_drawR [(some 9, false), (some 16, false)] (conG Tryd.prog [(9, fun v_ L_ U_ => (pV (Value.string (⟨(Lib.itoa (f_0)).toArray⟩))) v_ L_ U_), (16, fun v_ L_ U_ => (pV (Value.string (⟨(Lib.itoa (f_1)).toArray⟩))) v_ L_ U_)]) [] (by decide +kernel) (fun hn => sep_nil) ?_
  refine r_v (Value.pointer (some ⟨bf, 0, none⟩)) rfl rfl rfl rfl ?_
  refine r_v (Value.pointer (some ⟨bf, 0, none⟩)) rfl rfl rfl rfl ?_
  refine r_v (Value.pointer (some ⟨bf, 0, none⟩)) rfl rfl rfl rfl ?_
  refine r_lb (Value.int .i64 (f_0)) (vs := [Value.int .i64 (f_0), Value.int .i64 (f_1)]) (o := 0) rfl rfl (blk_ro hbf) rfl ?_
  replace hM := ck_some hM; obtain ⟨ck5, hM⟩ := hM
  refine r_gv (Value.string (⟨(Lib.itoa (f_0)).toArray⟩)) 20 _ rfl rfl rfl (ev_callF rfl call_20 rfl) (fun own_ nw_ hs_ => itoa_i (f_0) ck5 _) (fun _ _ _ _ _ => Iff.rfl) ?_
  replace hM := ck_some hM; obtain ⟨ck6, hM⟩ := hM
  refine r_v (Value.string (⟨((([102, 97, 117, 108, 116, 32] : List UInt8)) ++ (Lib.itoa (f_0))).toArray⟩)) rfl rfl rfl (ev_addS ck6 rfl rfl) ?_
  replace hM := ck_some hM; obtain ⟨ck7, hM⟩ := hM
  refine r_v (Value.string (⟨(((([102, 97, 117, 108, 116, 32] : List UInt8)) ++ (Lib.itoa (f_0))) ++ (([32, 97, 116, 32] : List UInt8))).toArray⟩)) rfl rfl rfl (ev_addS ck7 rfl rfl) ?_
  refine r_v (Value.pointer (some ⟨bf, 0, none⟩)) rfl rfl rfl rfl ?_
  refine r_v (Value.pointer (some ⟨bf, 0, none⟩)) rfl rfl rfl rfl ?_
  refine r_v (Value.pointer (some ⟨bf, 1, none⟩)) rfl rfl rfl rfl ?_
  refine r_lb (Value.int .i64 (f_1)) (vs := [Value.int .i64 (f_0), Value.int .i64 (f_1)]) (o := 1) rfl rfl (blk_ro hbf) rfl ?_
  replace hM := ck_some hM; obtain ⟨ck8, hM⟩ := hM
  refine r_gv (Value.string (⟨(Lib.itoa (f_1)).toArray⟩)) 20 _ rfl rfl rfl (ev_callF rfl call_20 rfl) (fun own_ nw_ hs_ => itoa_i (f_1) ck8 _) (fun _ _ _ _ _ => Iff.rfl) ?_
  replace hM := ck_some hM; obtain ⟨ck9, hM⟩ := hM
  refine r_v (Value.string (⟨((((([102, 97, 117, 108, 116, 32] : List UInt8)) ++ (Lib.itoa (f_0))) ++ (([32, 97, 116, 32] : List UInt8))) ++ (Lib.itoa (f_1))).toArray⟩)) rfl rfl rfl (ev_addS ck9 rfl rfl) ?_
  refine r_v (Value.string (⟨((((([102, 97, 117, 108, 116, 32] : List UInt8)) ++ (Lib.itoa (f_0))) ++ (([32, 97, 116, 32] : List UInt8))) ++ (Lib.itoa (f_1))).toArray⟩)) rfl rfl rfl rfl ?_
  refine lx_nil ?_
  refine hK4 _ _ ?_; try clear hK4 K4
  obtain rfl := Option.some.inj hM
  refine A_ret (fun hn => endsV (v0 := Value.string (⟨((((([102, 97, 117, 108, 116, 32] : List UInt8)) ++ (Lib.itoa (f_0))) ++ (([32, 97, 116, 32] : List UInt8))) ++ (Lib.itoa (f_1))).toArray⟩)) rfl (res1 rfl))
def shunterlaw06_digits_m (_ : Nat) (n : Int) : Option (List UInt8) := if (n : Int) < 0 then some ([]) else ck ((2 : Int) ≤ 10 ∧ (10 : Int) ≤ 16) (some (textI (10) ((0#64) ++ (BitVec.ofInt 64 (n)))))
set_option maxRecDepth 100000 in
set_option maxHeartbeats 8000000 in
theorem shunterlaw06_digits_g (N : Nat) (n : Int) (r : List UInt8) (hM : shunterlaw06_digits_m N n = some r) : Gives Tryd.prog 10 #[Value.int .i64 (n)] (Value.string (⟨(r).toArray⟩)) := by
  unfold shunterlaw06_digits_m at hM
  refine gives_of_A follows Tryd.func10 rfl 9 rfl (upd (fun _ => undef) 0 (Value.int .i64 (n))) (by funext k; match k with | 0 => rfl | k + 1 => rfl) (fun base0_ => ?_)
  refine A_seq fun K1 hK1 => ?_
  refine A_reg ?_
  refine r_v (Value.string (⟨#[]⟩)) rfl rfl rfl rfl ?_
  refine lx_nil ?_
  refine hK1 _ _ ?_; try clear hK1 K1
  refine A_seq fun K2 hK2 => ?_
  refine A_seq fun K3 hK3 => ?_
  refine A_reg ?_
  refine r_v (Value.int .i64 (n)) rfl rfl rfl rfl ?_
  refine r_v (Value.bool (decide ((n : Int) < 0))) rfl rfl rfl rfl ?_
  refine lx_nil ?_
  refine hK3 _ _ ?_; try clear hK3 K3
  refine A_cond (decide ((n : Int) < 0)) rfl (fun hc4 => ?_) (fun hc4 => ?_)
  · replace hM := ifp (of_decide_eq_true hc4) hM
    refine A_seq fun K5 hK5 => ?_
    refine A_reg ?_
    refine r_v (Value.string (⟨#[]⟩)) rfl rfl rfl rfl ?_
    refine lx_nil ?_
    refine hK5 _ _ ?_; try clear hK5 K5
    obtain rfl := Option.some.inj hM
    refine A_ret (fun hn => ends_eq (v0 := Value.string (⟨#[]⟩)) rfl (res1 rfl))
  · replace hM := ifn (of_decide_eq_false hc4) hM
    refine A_skip ?_
    refine hK2 _ _ ?_; try clear hK2 K2
    refine A_seq fun K6 hK6 => ?_
    refine A_reg ?_
    refine r_v (Value.int .i64 (n)) rfl rfl rfl rfl ?_
    refine r_w (U (BitVec.ofInt 64 (n))) rfl rfl (U_wrapI (n)) (fun _ => rfl) ?_
    refine r_c (Value.agg (rowF (BitVec.getLsbD ((0#64) ++ (BitVec.ofInt 64 (n)))))) rfl _ _ (ev_callF rfl call_22 rfl) (of_g (0#64) (BitVec.ofInt 64 (n))) ?_
    replace hM := ck_some hM; obtain ⟨ck7, hM⟩ := hM
    refine r_c (Value.string (⟨(textI (10) ((0#64) ++ (BitVec.ofInt 64 (n)))).toArray⟩)) rfl _ _ (ev_callF rfl call_21 rfl) (rtext_t ((0#64) ++ (BitVec.ofInt 64 (n))) (10) ck7) ?_
    refine r_v (Value.string (⟨(textI (10) ((0#64) ++ (BitVec.ofInt 64 (n)))).toArray⟩)) rfl rfl rfl rfl ?_
    refine lx_nil ?_
    refine hK6 _ _ ?_; try clear hK6 K6
    obtain rfl := Option.some.inj hM
    refine A_ret (fun hn => ends_eq (v0 := Value.string (⟨(textI (10) ((0#64) ++ (BitVec.ofInt 64 (n)))).toArray⟩)) rfl (res1 rfl))
def lex_mustFault_v1_m (_ : Nat) (_ : Int) (_ : Int) : Option (Unit) := some (())
set_option maxRecDepth 100000 in
set_option maxHeartbeats 8000000 in
theorem lex_mustFault_v1_g (N : Nat) (err_0 : Int) (err_1 : Int) (r : Unit) (hM : lex_mustFault_v1_m N err_0 err_1 = some r) (ro : Addr → Option Value) (berr : Nat) (_hberr : Blk ro berr [Value.int .i64 (err_0), Value.int .i64 (err_1)]) : Does Tryd.prog 23 #[Value.iface 31 (Value.pointer (some ⟨berr, 0, none⟩))] ro [] (pV (Value.pointer (some ⟨berr, 0, none⟩))) := by
  unfold lex_mustFault_v1_m at hM
  refine does_of_A follows Tryd.func23 rfl 5 rfl (upd (fun _ => undef) 0 (Value.iface 31 (Value.pointer (some ⟨berr, 0, none⟩)))) (by funext k; match k with | 0 => rfl | k + 1 => rfl) (fun base0_ => ?_)
  refine A_seq fun K1 hK1 => ?_
  refine A_reg ?_
  refine r_v (Value.pointer none) rfl rfl rfl rfl ?_
  refine lx_nil ?_
  refine hK1 _ _ ?_; try clear hK1 K1
  refine A_seq fun K2 hK2 => ?_
  refine A_reg ?_
  refine r_v (Value.iface 31 (Value.pointer (some ⟨berr, 0, none⟩))) rfl rfl rfl rfl ?_
  refine r_v (Value.pointer (some ⟨berr, 0, none⟩)) rfl rfl rfl rfl ?_
  refine r_v (Value.pointer (some ⟨berr, 0, none⟩)) rfl rfl rfl rfl ?_
  refine lx_nil ?_
  refine hK2 _ _ ?_; try clear hK2 K2
  obtain rfl := Option.some.inj hM
  refine A_ret (fun hn => endsV (v0 := Value.pointer (some ⟨berr, 0, none⟩)) rfl (res1 rfl))
def lex_Only_v1_m (N : Nat) (err_0 : Int) (err_1 : Int) : Option (Unit) := (lex_mustFault_v1_m N err_0 err_1).bind fun r3 => some (())
set_option maxRecDepth 100000 in
set_option maxHeartbeats 8000000 in
theorem lex_Only_v1_g (N : Nat) (err_0 : Int) (err_1 : Int) (r : Unit) (hM : lex_Only_v1_m N err_0 err_1 = some r) (ro : Addr → Option Value) (berr : Nat) (hberr : Blk ro berr [Value.int .i64 (err_0), Value.int .i64 (err_1)]) : Does Tryd.prog 11 #[Value.iface 31 (Value.pointer (some ⟨berr, 0, none⟩))] ro [] (pV (Value.pointer (some ⟨berr, 0, none⟩))) := by
  unfold lex_Only_v1_m at hM
  refine does_of_A follows Tryd.func11 rfl 5 rfl (upd (fun _ => undef) 0 (Value.iface 31 (Value.pointer (some ⟨berr, 0, none⟩)))) (by funext k; match k with | 0 => rfl | k + 1 => rfl) (fun base0_ => ?_)
  refine A_seq fun K1 hK1 => ?_
  refine A_reg ?_
  refine r_v (Value.pointer none) rfl rfl rfl rfl ?_
  refine lx_nil ?_
  refine hK1 _ _ ?_; try clear hK1 K1
  refine A_seq fun K2 hK2 => ?_
  refine A_regC [(some 4, false)] (conG Tryd.prog [(4, fun v_ L_ U_ => (pV (Value.pointer (some ⟨berr, 0, none⟩))) v_ L_ U_)]) ?_
  refine r_v (Value.iface 31 (Value.pointer (some ⟨berr, 0, none⟩))) rfl rfl rfl rfl ?_
  replace hM := bind_sm hM; obtain ⟨r3, hr4, hM⟩ := hM
  refine r_gv (Value.pointer (some ⟨berr, 0, none⟩)) 23 _ rfl rfl rfl (ev_callF rfl call_23 rfl) (fun own_ nw_ hs_ => lex_mustFault_v1_g N err_0 err_1 _ hr4 hs_.view berr (blk_ro hberr own_ nw_ hs_)) (fun _ _ _ _ _ => Iff.rfl) ?_
  refine r_v (Value.pointer (some ⟨berr, 0, none⟩)) rfl rfl rfl rfl ?_
  refine lx_nil ?_
  refine hK2 _ _ ?_; try clear hK2 K2
  obtain rfl := Option.some.inj hM
  refine A_ret (fun hn => endsV (v0 := Value.pointer (some ⟨berr, 0, none⟩)) rfl (res1 rfl))
def lex_asFault_v1_m (_ : Nat) (_ : Int) (_ : Int) : Option (Bool) := some (true)
set_option maxRecDepth 100000 in
set_option maxHeartbeats 8000000 in
theorem lex_asFault_v1_g (N : Nat) (err_0 : Int) (err_1 : Int) (r : Bool) (hM : lex_asFault_v1_m N err_0 err_1 = some r) (ro : Addr → Option Value) (berr : Nat) (_hberr : Blk ro berr [Value.int .i64 (err_0), Value.int .i64 (err_1)]) : Does Tryd.prog 19 #[Value.iface 31 (Value.pointer (some ⟨berr, 0, none⟩))] ro [] (pV (Value.tuple #[Value.pointer (some ⟨berr, 0, none⟩), Value.bool (r)])) := by
  unfold lex_asFault_v1_m at hM
  refine does_of_A follows Tryd.func19 rfl 13 rfl (upd (fun _ => undef) 0 (Value.iface 31 (Value.pointer (some ⟨berr, 0, none⟩)))) (by funext k; match k with | 0 => rfl | k + 1 => rfl) (fun base0_ => ?_)
  refine A_seq fun K1 hK1 => ?_
  refine A_reg ?_
  refine r_v (Value.pointer none) rfl rfl rfl rfl ?_
  refine r_v (Value.bool (false)) rfl rfl rfl rfl ?_
  refine lx_nil ?_
  refine hK1 _ _ ?_; try clear hK1 K1
  refine A_seq fun K2 hK2 => ?_
  refine A_reg ?_
  refine r_v (Value.iface 31 (Value.pointer (some ⟨berr, 0, none⟩))) rfl rfl rfl rfl ?_
  refine r_v (Value.tuple #[Value.pointer (some ⟨berr, 0, none⟩), Value.bool (true)]) rfl rfl rfl rfl ?_
  refine r_v (Value.tuple #[Value.pointer (some ⟨berr, 0, none⟩), Value.bool (true)]) rfl rfl rfl rfl ?_
  refine r_v (Value.pointer (some ⟨berr, 0, none⟩)) rfl rfl rfl rfl ?_
  refine r_v (Value.bool (true)) rfl rfl rfl rfl ?_
  refine r_v (Value.pointer (some ⟨berr, 0, none⟩)) rfl rfl rfl rfl ?_
  refine r_v (Value.bool (true)) rfl rfl rfl rfl ?_
  refine lx_nil ?_
  refine hK2 _ _ ?_; try clear hK2 K2
  refine A_seq fun K3 hK3 => ?_
  refine A_reg ?_
  refine r_v (Value.pointer (some ⟨berr, 0, none⟩)) rfl rfl rfl rfl ?_
  refine r_v (Value.bool (true)) rfl rfl rfl rfl ?_
  refine r_v (Value.pointer (some ⟨berr, 0, none⟩)) rfl rfl rfl rfl ?_
  refine r_v (Value.bool (true)) rfl rfl rfl rfl ?_
  refine lx_nil ?_
  refine hK3 _ _ ?_; try clear hK3 K3
  obtain rfl := Option.some.inj hM
  refine A_ret (fun hn => endsV (v0 := Value.tuple #[Value.pointer (some ⟨berr, 0, none⟩), Value.bool (true)]) rfl (res2 rfl rfl))
def lex_Why_v2_m (N : Nat) (err_0 : Int) (err_1 : Int) : Option (Int × Int) := (lex_asFault_v1_m N err_0 err_1).bind fun r5 => if (r5) = true then some (err_0, err_1) else some (10, 0)
set_option maxRecDepth 100000 in
set_option maxHeartbeats 8000000 in
theorem lex_Why_v2_g (N : Nat) (err_0 : Int) (err_1 : Int) (r : Int × Int) (hM : lex_Why_v2_m N err_0 err_1 = some r) (ro : Addr → Option Value) (berr : Nat) (hberr : Blk ro berr [Value.int .i64 (err_0), Value.int .i64 (err_1)]) : Does Tryd.prog 8 #[Value.iface 31 (Value.pointer (some ⟨berr, 0, none⟩))] ro [] (pV (Value.tuple #[Value.int .i64 (r.1), Value.int .i64 (r.2)])) := by
  unfold lex_Why_v2_m at hM
  refine does_of_A follows Tryd.func8 rfl 27 rfl (upd (fun _ => undef) 0 (Value.iface 31 (Value.pointer (some ⟨berr, 0, none⟩)))) (by funext k; match k with | 0 => rfl | k + 1 => rfl) (fun base0_ => ?_)
  refine A_seq fun K1 hK1 => ?_
  refine A_reg ?_
  refine r_v (Value.int .i64 (0)) rfl rfl rfl rfl ?_
  refine r_v (Value.int .i64 (0)) rfl rfl rfl rfl ?_
  refine lx_nil ?_
  refine hK1 _ _ ?_; try clear hK1 K1
  refine A_seq fun K2 hK2 => ?_
  refine A_seq fun K3 hK3 => ?_
  refine A_reg ?_
  refine r_v (Value.iface 31 (Value.pointer (some ⟨berr, 0, none⟩))) rfl rfl rfl rfl ?_
  refine r_v (Value.bool (false)) rfl rfl rfl rfl ?_
  refine lx_nil ?_
  refine hK3 _ _ ?_; try clear hK3 K3
  refine A_cond false rfl (fun h_ => nomatch h_) (fun _ => ?_)
  refine A_skip ?_
  refine hK2 _ _ ?_; try clear hK2 K2
  refine A_seq fun K4 hK4 => ?_
  refine A_regC [(some 10, false)] (conG Tryd.prog [(10, fun v_ L_ U_ => ∀ u0_, lex_asFault_v1_m N err_0 err_1 = some u0_ → (pV (Value.tuple #[Value.pointer (some ⟨berr, 0, none⟩), Value.bool (u0_)])) v_ L_ U_)]) ?_
  refine r_v (Value.iface 31 (Value.pointer (some ⟨berr, 0, none⟩))) rfl rfl rfl rfl ?_
  replace hM := bind_sm hM; obtain ⟨r5, hr6, hM⟩ := hM
  refine r_gv (Value.tuple #[Value.pointer (some ⟨berr, 0, none⟩), Value.bool (r5)]) 19 _ rfl rfl rfl (ev_callF rfl call_19 rfl) (fun own_ nw_ hs_ => lex_asFault_v1_g N err_0 err_1 _ hr6 hs_.view berr (blk_ro hberr own_ nw_ hs_)) (fun _ _ v_ L_ U_ => ⟨fun h_ => h_ _ hr6, fun h_ => by intro _ e_; cases Option.some.inj (e_.symm.trans hr6); exact h_⟩) ?_
  refine r_v (Value.tuple #[Value.pointer (some ⟨berr, 0, none⟩), Value.bool (r5)]) rfl rfl rfl rfl ?_
  refine r_v (Value.pointer (some ⟨berr, 0, none⟩)) rfl rfl rfl rfl ?_
  refine r_v (Value.bool (r5)) rfl rfl rfl rfl ?_
  refine r_v (Value.pointer (some ⟨berr, 0, none⟩)) rfl rfl rfl rfl ?_
  refine r_v (Value.bool (r5)) rfl rfl rfl rfl ?_
  refine lx_nil ?_
  refine hK4 _ _ ?_; try clear hK4 K4
  refine A_seq fun K7 hK7 => ?_
  refine A_block ?_
  refine A_seq fun K8 hK8 => ?_
  refine A_reg ?_
  refine r_v (Value.bool (r5)) rfl rfl rfl rfl ?_
  refine r_v (Value.bool (!(r5))) rfl rfl rfl rfl ?_
  refine r_v (Value.bool (!(r5))) rfl rfl rfl rfl ?_
  refine lx_nil ?_
  refine hK8 _ _ ?_; try clear hK8 K8
  refine A_cond (!(r5)) rfl (fun hc9 => ?_) (fun hc9 => ?_)
  · replace hM := ifn (Bool.eq_false_iff.1 (not_t hc9)) hM
    refine A_seq fun K10 hK10 => ?_
    refine A_reg ?_
    refine r_v (Value.int .i64 (10)) rfl rfl rfl rfl ?_
    refine r_v (Value.int .i64 (0)) rfl rfl rfl rfl ?_
    refine lx_nil ?_
    refine hK10 _ _ ?_; try clear hK10 K10
    obtain rfl := Option.some.inj hM
    refine A_ret (fun hn => endsV (v0 := Value.tuple #[Value.int .i64 (10), Value.int .i64 (0)]) rfl (res2 rfl rfl))
  · replace hM := ifp (not_f hc9) hM
    refine A_seq fun K11 hK11 => ?_
    refine A_reg ?_
    refine r_v (Value.pointer (some ⟨berr, 0, none⟩)) rfl rfl rfl rfl ?_
    refine r_v (Value.bool (false)) rfl rfl rfl rfl ?_
    refine r_v (Value.bool (false)) rfl rfl rfl rfl ?_
    refine lx_nil ?_
    refine hK11 _ _ ?_; try clear hK11 K11
    refine A_cond false rfl (fun h_ => nomatch h_) (fun _ => ?_)
    refine A_skip ?_
    refine hK7 _ _ ?_; try clear hK7 K7
    refine A_seq fun K12 hK12 => ?_
    refine A_draw [] (by decide +kernel) (fun hn => sep_nil) ?_
    refine r_v (Value.pointer (some ⟨berr, 0, none⟩)) rfl rfl rfl rfl ?_
    refine r_v (Value.pointer (some ⟨berr, 0, none⟩)) rfl rfl rfl rfl ?_
    refine r_v (Value.pointer (some ⟨berr, 0, none⟩)) rfl rfl rfl rfl ?_
    refine r_lb (Value.int .i64 (err_0)) (vs := [Value.int .i64 (err_0), Value.int .i64 (err_1)]) (o := 0) rfl rfl (blk_ro hberr) rfl ?_
    refine r_v (Value.pointer (some ⟨berr, 0, none⟩)) rfl rfl rfl rfl ?_
    refine r_v (Value.pointer (some ⟨berr, 0, none⟩)) rfl rfl rfl rfl ?_
    refine r_v (Value.pointer (some ⟨berr, 1, none⟩)) rfl rfl rfl rfl ?_
    refine r_lb (Value.int .i64 (err_1)) (vs := [Value.int .i64 (err_0), Value.int .i64 (err_1)]) (o := 1) rfl rfl (blk_ro hberr) rfl ?_
    refine r_v (Value.int .i64 (err_0)) rfl rfl rfl rfl ?_
    refine r_v (Value.int .i64 (err_1)) rfl rfl rfl rfl ?_
    refine lx_nil ?_
    refine hK12 _ _ ?_; try clear hK12 K12
    obtain rfl := Option.some.inj hM
    refine A_ret (fun hn => endsV (v0 := Value.tuple #[Value.int .i64 (err_0), Value.int .i64 (err_1)]) rfl (res2 rfl rfl))
def shunterref02_May_m (_ : Nat) (v_0 : Int) (v_1 : BitVec 128) : Option (Bool) := if (v_0 : Int) ≥ 1 then if (v_0 : Int) ≤ 128 then some (decide ((((len128 ((hi (v_1)) ++ (lo (v_1))) : Nat) : Int) : Int) ≤ v_0)) else some (false) else some (false)
set_option maxRecDepth 100000 in
set_option maxHeartbeats 8000000 in
theorem shunterref02_May_g (N : Nat) (v_0 : Int) (v_1 : BitVec 128) (r : Bool) (hM : shunterref02_May_m N v_0 v_1 = some r) : Gives Tryd.prog 42 #[Value.agg #[Value.int .i64 (v_0), U (hi (v_1)), U (lo (v_1))]] (Value.bool (r)) := by
  unfold shunterref02_May_m at hM
  refine gives_of_A follows Tryd.func42 rfl 22 rfl (upd (fun _ => undef) 0 (Value.agg #[Value.int .i64 (v_0), U (hi (v_1)), U (lo (v_1))])) (by funext k; match k with | 0 => rfl | k + 1 => rfl) (fun base0_ => ?_)
  refine A_seq fun K1 hK1 => ?_
  refine A_reg ?_
  refine r_a (42, #[Value.int .i64 (v_0), U (hi (v_1)), U (lo (v_1))]) rfl rfl rfl (fun b2 => ?_) (.inr rfl)
  refine r_v (Value.bool (false)) rfl rfl rfl rfl ?_
  refine lx_nil ?_
  refine hK1 _ _ ?_; try clear hK1 K1
  refine A_seq fun K3 hK3 => ?_
  refine A_draw [] (by decide +kernel) (fun hn => sep_nil) ?_
  refine r_v (Value.pointer (some ⟨b2, 0, none⟩)) rfl rfl rfl rfl ?_
  refine r_l (Value.int .i64 (v_0)) 0 _ _ _ _ rfl rfl rfl rfl rfl ?_
  refine r_v (Value.bool (decide ((v_0 : Int) ≥ 1))) rfl rfl rfl rfl ?_
  refine r_v (Value.bool (decide ((v_0 : Int) ≥ 1))) rfl rfl rfl rfl ?_
  rcases hg4 : (decide ((v_0 : Int) ≥ 1)) with _ | _
  · replace hM := ifn (of_decide_eq_false hg4) hM
    refine r_n false rfl (by decide) rfl ?_
    refine r_n false rfl (by decide) rfl ?_
    refine r_n false rfl (by decide) rfl ?_
    refine r_v (Value.bool (false)) rfl rfl rfl rfl ?_
    refine r_v (Value.bool (false)) rfl rfl rfl rfl ?_
    refine r_n false rfl (by decide) rfl ?_
    refine r_n false rfl (by decide) rfl ?_
    refine r_n false rfl (by decide) rfl ?_
    refine r_n false rfl (by decide) rfl ?_
    refine r_n false rfl (by decide) rfl ?_
    refine r_n false rfl (by decide) rfl ?_
    refine r_n false rfl (by decide) rfl ?_
    refine r_n false rfl (by decide) rfl ?_
    refine r_n false rfl (by decide) rfl ?_
    refine r_v (Value.bool (false)) rfl rfl rfl rfl ?_
    refine r_v (Value.bool (false)) rfl rfl rfl rfl ?_
    refine lx_nil ?_
    refine hK3 _ _ ?_; try clear hK3 K3
    obtain rfl := Option.some.inj hM
    refine A_ret (fun hn => ends_eq (v0 := Value.bool (false)) rfl (res1 rfl))
  · replace hM := ifp (of_decide_eq_true hg4) hM
    refine r_y rfl ?_
    refine r_v (Value.pointer (some ⟨b2, 0, none⟩)) rfl rfl rfl rfl ?_
    refine r_y rfl ?_
    refine r_l (Value.int .i64 (v_0)) 0 _ _ _ _ rfl rfl rfl rfl rfl ?_
    refine r_y rfl ?_
    refine r_v (Value.bool (decide ((v_0 : Int) ≤ 128))) rfl rfl rfl rfl ?_
    refine r_v (Value.bool (decide ((v_0 : Int) ≤ 128))) rfl rfl rfl rfl ?_
    refine r_v (Value.bool (decide ((v_0 : Int) ≤ 128))) rfl rfl rfl rfl ?_
    rcases hg5 : (decide ((v_0 : Int) ≤ 128)) with _ | _
    · replace hM := ifn (of_decide_eq_false hg5) hM
      refine r_n false rfl (by decide) rfl ?_
      refine r_n false rfl (by decide) rfl ?_
      refine r_n false rfl (by decide) rfl ?_
      refine r_n false rfl (by decide) rfl ?_
      refine r_n false rfl (by decide) rfl ?_
      refine r_n false rfl (by decide) rfl ?_
      refine r_n false rfl (by decide) rfl ?_
      refine r_n false rfl (by decide) rfl ?_
      refine r_n false rfl (by decide) rfl ?_
      refine r_v (Value.bool (false)) rfl rfl rfl rfl ?_
      refine r_v (Value.bool (false)) rfl rfl rfl rfl ?_
      refine lx_nil ?_
      refine hK3 _ _ ?_; try clear hK3 K3
      obtain rfl := Option.some.inj hM
      refine A_ret (fun hn => ends_eq (v0 := Value.bool (false)) rfl (res1 rfl))
    · replace hM := ifp (of_decide_eq_true hg5) hM
      refine r_y rfl ?_
      refine r_v (Value.pointer (some ⟨b2, 1, none⟩)) rfl rfl rfl rfl ?_
      refine r_y rfl ?_
      refine r_l (U (hi (v_1))) 0 _ _ _ _ rfl rfl rfl rfl rfl ?_
      refine r_y rfl ?_
      refine r_v (Value.pointer (some ⟨b2, 2, none⟩)) rfl rfl rfl rfl ?_
      refine r_y rfl ?_
      refine r_l (U (lo (v_1))) 0 _ _ _ _ rfl rfl rfl rfl rfl ?_
      refine r_y rfl ?_
      refine r_c (Value.agg (rowF (BitVec.getLsbD ((hi (v_1)) ++ (lo (v_1)))))) rfl _ _ (ev_callF rfl call_22 rfl) (of_g (hi (v_1)) (lo (v_1))) ?_
      refine r_y rfl ?_
      refine r_c (Value.int .i64 (((len128 ((hi (v_1)) ++ (lo (v_1))) : Nat) : Int))) rfl _ _ (ev_callF rfl call_38 rfl) (rlen_g ((hi (v_1)) ++ (lo (v_1)))) ?_
      refine r_y rfl ?_
      refine r_v (Value.pointer (some ⟨b2, 0, none⟩)) rfl rfl rfl rfl ?_
      refine r_y rfl ?_
      refine r_l (Value.int .i64 (v_0)) 0 _ _ _ _ rfl rfl rfl rfl rfl ?_
      refine r_y rfl ?_
      refine r_v (Value.bool (decide ((((len128 ((hi (v_1)) ++ (lo (v_1))) : Nat) : Int) : Int) ≤ v_0))) rfl rfl rfl rfl ?_
      refine r_v (Value.bool (decide ((((len128 ((hi (v_1)) ++ (lo (v_1))) : Nat) : Int) : Int) ≤ v_0))) rfl rfl rfl rfl ?_
      refine r_v (Value.bool (decide ((((len128 ((hi (v_1)) ++ (lo (v_1))) : Nat) : Int) : Int) ≤ v_0))) rfl rfl rfl rfl ?_
      refine lx_nil ?_
      refine hK3 _ _ ?_; try clear hK3 K3
      obtain rfl := Option.some.inj hM
      refine A_ret (fun hn => ends_eq (v0 := Value.bool (decide ((((len128 ((hi (v_1)) ++ (lo (v_1))) : Nat) : Int) : Int) ≤ v_0))) rfl (res1 rfl))
def shunterref02_Text_m (N : Nat) (a_0 : Int) (a_1 : BitVec 128) : Option (List UInt8) := (shunterref02_May_m N a_0 a_1).bind fun r5 => if (r5) = true then ck ((2 : Int) ≤ 10 ∧ (10 : Int) ≤ 16) (ck (((textI (10) ((0#64) ++ (BitVec.ofInt 64 (a_0)))).length : Int) + ((([39] : List UInt8)).length : Int) ≤ 9223372036854775807) (ck ((2 : Int) ≤ 16 ∧ (16 : Int) ≤ 16) (ck ((((textI (10) ((0#64) ++ (BitVec.ofInt 64 (a_0)))) ++ (([39] : List UInt8))).length : Int) + ((textI (16) ((hi (a_1)) ++ (lo (a_1)))).length : Int) ≤ 9223372036854775807) (some (((textI (10) ((0#64) ++ (BitVec.ofInt 64 (a_0)))) ++ (([39] : List UInt8))) ++ (textI (16) ((hi (a_1)) ++ (lo (a_1))))))))) else some ([])
set_option maxRecDepth 100000 in
set_option maxHeartbeats 8000000 in
theorem shunterref02_Text_g (N : Nat) (a_0 : Int) (a_1 : BitVec 128) (r : List UInt8) (hM : shunterref02_Text_m N a_0 a_1 = some r) : Gives Tryd.prog 24 #[Value.agg #[Value.int .i64 (a_0), U (hi (a_1)), U (lo (a_1))]] (Value.string (⟨(r).toArray⟩)) := by
  unfold shunterref02_Text_m at hM
  refine gives_of_A follows Tryd.func24 rfl 19 rfl (upd (fun _ => undef) 0 (Value.agg #[Value.int .i64 (a_0), U (hi (a_1)), U (lo (a_1))])) (by funext k; match k with | 0 => rfl | k + 1 => rfl) (fun base0_ => ?_)
  refine A_seq fun K1 hK1 => ?_
  refine A_reg ?_
  refine r_a (42, #[Value.int .i64 (a_0), U (hi (a_1)), U (lo (a_1))]) rfl rfl rfl (fun b2 => ?_) (.inr rfl)
  refine r_v (Value.string (⟨#[]⟩)) rfl rfl rfl rfl ?_
  refine lx_nil ?_
  refine hK1 _ _ ?_; try clear hK1 K1
  refine A_seq fun K3 hK3 => ?_
  refine A_seq fun K4 hK4 => ?_
  refine A_reg ?_
  refine r_l (Value.agg #[Value.int .i64 (a_0), U (hi (a_1)), U (lo (a_1))]) 0 _ _ _ _ rfl rfl rfl rfl rfl ?_
  replace hM := bind_sm hM; obtain ⟨r5, hr6, hM⟩ := hM
  refine r_c (Value.bool (r5)) rfl _ _ (ev_callF rfl call_42 rfl) (shunterref02_May_g N a_0 a_1 _ hr6) ?_
  refine r_v (Value.bool (!(r5))) rfl rfl rfl rfl ?_
  refine lx_nil ?_
  refine hK4 _ _ ?_; try clear hK4 K4
  refine A_cond (!(r5)) rfl (fun hc7 => ?_) (fun hc7 => ?_)
  · replace hM := ifn (Bool.eq_false_iff.1 (not_t hc7)) hM
    refine A_seq fun K8 hK8 => ?_
    refine A_reg ?_
    refine r_v (Value.string (⟨#[]⟩)) rfl rfl rfl rfl ?_
    refine lx_nil ?_
    refine hK8 _ _ ?_; try clear hK8 K8
    obtain rfl := Option.some.inj hM
    refine A_ret (fun hn => ends_eq (v0 := Value.string (⟨#[]⟩)) rfl (res1 rfl))
  · replace hM := ifp (not_f hc7) hM
    refine A_skip ?_
    refine hK3 _ _ ?_; try clear hK3 K3
    refine A_seq fun K9 hK9 => ?_
    refine A_draw [] (by decide +kernel) (fun hn => sep_nil) ?_
    refine r_v (Value.pointer (some ⟨b2, 0, none⟩)) rfl rfl rfl rfl ?_
    refine r_l (Value.int .i64 (a_0)) 0 _ _ _ _ rfl rfl rfl rfl rfl ?_
    refine r_w (U (BitVec.ofInt 64 (a_0))) rfl rfl (U_wrapI (a_0)) (fun _ => rfl) ?_
    refine r_c (Value.agg (rowF (BitVec.getLsbD ((0#64) ++ (BitVec.ofInt 64 (a_0)))))) rfl _ _ (ev_callF rfl call_22 rfl) (of_g (0#64) (BitVec.ofInt 64 (a_0))) ?_
    replace hM := ck_some hM; obtain ⟨ck10, hM⟩ := hM
    refine r_c (Value.string (⟨(textI (10) ((0#64) ++ (BitVec.ofInt 64 (a_0)))).toArray⟩)) rfl _ _ (ev_callF rfl call_21 rfl) (rtext_t ((0#64) ++ (BitVec.ofInt 64 (a_0))) (10) ck10) ?_
    replace hM := ck_some hM; obtain ⟨ck11, hM⟩ := hM
    refine r_v (Value.string (⟨((textI (10) ((0#64) ++ (BitVec.ofInt 64 (a_0)))) ++ (([39] : List UInt8))).toArray⟩)) rfl rfl rfl (ev_addS ck11 rfl rfl) ?_
    refine r_v (Value.pointer (some ⟨b2, 1, none⟩)) rfl rfl rfl rfl ?_
    refine r_l (U (hi (a_1))) 0 _ _ _ _ rfl rfl rfl rfl rfl ?_
    refine r_v (Value.pointer (some ⟨b2, 2, none⟩)) rfl rfl rfl rfl ?_
    refine r_l (U (lo (a_1))) 0 _ _ _ _ rfl rfl rfl rfl rfl ?_
    refine r_c (Value.agg (rowF (BitVec.getLsbD ((hi (a_1)) ++ (lo (a_1)))))) rfl _ _ (ev_callF rfl call_22 rfl) (of_g (hi (a_1)) (lo (a_1))) ?_
    replace hM := ck_some hM; obtain ⟨ck12, hM⟩ := hM
    refine r_c (Value.string (⟨(textI (16) ((hi (a_1)) ++ (lo (a_1)))).toArray⟩)) rfl _ _ (ev_callF rfl call_21 rfl) (rtext_t ((hi (a_1)) ++ (lo (a_1))) (16) ck12) ?_
    replace hM := ck_some hM; obtain ⟨ck13, hM⟩ := hM
    refine r_v (Value.string (⟨(((textI (10) ((0#64) ++ (BitVec.ofInt 64 (a_0)))) ++ (([39] : List UInt8))) ++ (textI (16) ((hi (a_1)) ++ (lo (a_1))))).toArray⟩)) rfl rfl rfl (ev_addS ck13 rfl rfl) ?_
    refine r_v (Value.string (⟨(((textI (10) ((0#64) ++ (BitVec.ofInt 64 (a_0)))) ++ (([39] : List UInt8))) ++ (textI (16) ((hi (a_1)) ++ (lo (a_1))))).toArray⟩)) rfl rfl rfl rfl ?_
    refine lx_nil ?_
    refine hK9 _ _ ?_; try clear hK9 K9
    obtain rfl := Option.some.inj hM
    refine A_ret (fun hn => ends_eq (v0 := Value.string (⟨(((textI (10) ((0#64) ++ (BitVec.ofInt 64 (a_0)))) ++ (([39] : List UInt8))) ++ (textI (16) ((hi (a_1)) ++ (lo (a_1))))).toArray⟩)) rfl (res1 rfl))
def shunterref06_Text_k2 (N : Nat) (t_0 : Int) (t_1 : List UInt8) (t_2 : Int) (t_3 : Int) (t_4 : BitVec 128) (x1_ : Bool) : Option (List UInt8) := if (x1_) = true then some (t_1) else if (t_0 : Int) = 2 then if (t_2 : Int) < 0 then some ([]) else ck ((2 : Int) ≤ 10 ∧ (10 : Int) ≤ 16) (some (textI (10) ((0#64) ++ (BitVec.ofInt 64 (t_2))))) else if (t_0 : Int) = 3 then (shunterref02_Text_m N t_3 t_4).bind fun r18 => some (r18) else some ([])
def shunterref06_Text_m (N : Nat) (t_0 : Int) (t_1 : List UInt8) (t_2 : Int) (t_3 : Int) (t_4 : BitVec 128) (_ : Int) : Option (List UInt8) := if (t_0 : Int) = 0 then shunterref06_Text_k2 N t_0 t_1 t_2 t_3 t_4 (((t_0 : Int) == 0)) else shunterref06_Text_k2 N t_0 t_1 t_2 t_3 t_4 (((t_0 : Int) == 1))
set_option maxRecDepth 100000 in
set_option maxHeartbeats 8000000 in
theorem shunterref06_Text_g (N : Nat) (t_0 : Int) (t_1 : List UInt8) (t_2 : Int) (t_3 : Int) (t_4 : BitVec 128) (t_5 : Int) (r : List UInt8) (hM : shunterref06_Text_m N t_0 t_1 t_2 t_3 t_4 t_5 = some r) : Gives Tryd.prog 12 #[Value.agg #[Value.int .i64 (t_0), Value.string (⟨(t_1).toArray⟩), Value.int .i64 (t_2), Value.int .i64 (t_3), U (hi (t_4)), U (lo (t_4)), Value.int .i64 (t_5)]] (Value.string (⟨(r).toArray⟩)) := by
  unfold shunterref06_Text_m at hM
  refine gives_of_A follows Tryd.func12 rfl 25 rfl (upd (fun _ => undef) 0 (Value.agg #[Value.int .i64 (t_0), Value.string (⟨(t_1).toArray⟩), Value.int .i64 (t_2), Value.int .i64 (t_3), U (hi (t_4)), U (lo (t_4)), Value.int .i64 (t_5)])) (by funext k; match k with | 0 => rfl | k + 1 => rfl) (fun base0_ => ?_)
  refine A_seq fun K1 hK1 => ?_
  refine A_reg ?_
  refine r_a (44, #[Value.int .i64 (t_0), Value.string (⟨(t_1).toArray⟩), Value.int .i64 (t_2), Value.int .i64 (t_3), U (hi (t_4)), U (lo (t_4)), Value.int .i64 (t_5)]) rfl rfl rfl (fun b2 => ?_) (.inr rfl)
  refine r_v (Value.string (⟨#[]⟩)) rfl rfl rfl rfl ?_
  refine lx_nil ?_
  refine hK1 _ _ ?_; try clear hK1 K1
  refine A_seq fun K3 hK3 => ?_
  refine A_seq fun K4 hK4 => ?_
  refine A_reg ?_
  refine r_v (Value.pointer (some ⟨b2, 0, none⟩)) rfl rfl rfl rfl ?_
  refine r_l (Value.int .i64 (t_0)) 0 _ _ _ _ rfl rfl rfl rfl rfl ?_
  refine lx_nil ?_
  refine hK4 _ _ ?_; try clear hK4 K4
  refine A_block ?_
  refine A_cut (fun tt ll => ∃ (x1_ : Bool), (shunterref06_Text_k2 N t_0 t_1 t_2 t_3 t_4 x1_ = some r) ∧ Is [(1, Value.pointer (some ⟨b2, 0, none⟩)), (4, Value.int .i64 (t_0)), (5, Value.bool (x1_))] [(b2, 44, #[Value.int .i64 (t_0), Value.string (⟨(t_1).toArray⟩), Value.int .i64 (t_2), Value.int .i64 (t_3), U (hi (t_4)), U (lo (t_4)), Value.int .i64 (t_5)])] tt ll) ?_ ?_
  · refine A_seq fun K21 hK21 => ?_
    refine A_reg ?_
    refine r_v (Value.bool (((t_0 : Int) == 0))) rfl rfl rfl rfl ?_
    refine r_v (Value.bool (((t_0 : Int) == 0))) rfl rfl rfl rfl ?_
    refine lx_nil ?_
    refine hK21 _ _ ?_; try clear hK21 K21
    refine A_cond (((t_0 : Int) == 0)) rfl (fun hc22 => ?_) (fun hc22 => ?_)
    · replace hM := ifp (eq_of_beq hc22) hM
      refine A_skip ?_
      refine fg _ (Sub.of (List.Sublist.cons_cons _ (List.Sublist.slnil))) ?_
      exact ⟨((t_0 : Int) == 0), hM, is_mk rfl rfl⟩
    · replace hM := ifn (ne_of_beq_false hc22) hM
      refine A_reg ?_
      refine r_v (Value.bool (((t_0 : Int) == 1))) rfl rfl rfl rfl ?_
      refine r_v (Value.bool (((t_0 : Int) == 1))) rfl rfl rfl rfl ?_
      refine lx_nil ?_
      refine fg _ (Sub.of (List.Sublist.cons_cons _ (List.Sublist.slnil))) ?_
      exact ⟨((t_0 : Int) == 1), hM, is_mk rfl rfl⟩
  · clear hM; rintro t l ⟨x1_, hM, ⟨T, rfl⟩, rfl⟩
    unfold shunterref06_Text_k2 at hM
    refine A_cond (x1_) rfl (fun hc5 => ?_) (fun hc5 => ?_)
    · replace hM := ifp hc5 hM
      refine A_seq fun K6 hK6 => ?_
      refine A_reg ?_
      refine r_v (Value.pointer (some ⟨b2, 1, none⟩)) rfl rfl rfl rfl ?_
      refine r_l (Value.string (⟨(t_1).toArray⟩)) 0 _ _ _ _ rfl rfl rfl rfl rfl ?_
      refine r_v (Value.string (⟨(t_1).toArray⟩)) rfl rfl rfl rfl ?_
      refine lx_nil ?_
      refine hK6 _ _ ?_; try clear hK6 K6
      obtain rfl := Option.some.inj hM
      refine A_ret (fun hn => ends_eq (v0 := Value.string (⟨(t_1).toArray⟩)) rfl (res1 rfl))
    · replace hM := ifn (Bool.eq_false_iff.1 hc5) hM
      refine A_seq fun K7 hK7 => ?_
      refine A_reg ?_
      refine r_v (Value.bool (((t_0 : Int) == 2))) rfl rfl rfl rfl ?_
      refine r_v (Value.bool (((t_0 : Int) == 2))) rfl rfl rfl rfl ?_
      refine lx_nil ?_
      refine hK7 _ _ ?_; try clear hK7 K7
      refine A_cond (((t_0 : Int) == 2)) rfl (fun hc8 => ?_) (fun hc8 => ?_)
      · replace hM := ifp (eq_of_beq hc8) hM
        refine A_seq fun K9 hK9 => ?_
        refine A_seq fun K10 hK10 => ?_
        refine A_reg ?_
        refine r_v (Value.pointer (some ⟨b2, 2, none⟩)) rfl rfl rfl rfl ?_
        refine r_l (Value.int .i64 (t_2)) 0 _ _ _ _ rfl rfl rfl rfl rfl ?_
        refine r_v (Value.bool (decide ((t_2 : Int) < 0))) rfl rfl rfl rfl ?_
        refine lx_nil ?_
        refine hK10 _ _ ?_; try clear hK10 K10
        refine A_cond (decide ((t_2 : Int) < 0)) rfl (fun hc11 => ?_) (fun hc11 => ?_)
        · replace hM := ifp (of_decide_eq_true hc11) hM
          refine A_seq fun K12 hK12 => ?_
          refine A_reg ?_
          refine r_v (Value.string (⟨#[]⟩)) rfl rfl rfl rfl ?_
          refine lx_nil ?_
          refine hK12 _ _ ?_; try clear hK12 K12
          obtain rfl := Option.some.inj hM
          refine A_ret (fun hn => ends_eq (v0 := Value.string (⟨#[]⟩)) rfl (res1 rfl))
        · replace hM := ifn (of_decide_eq_false hc11) hM
          refine A_skip ?_
          refine hK9 _ _ ?_; try clear hK9 K9
          refine A_seq fun K13 hK13 => ?_
          refine A_reg ?_
          refine r_v (Value.pointer (some ⟨b2, 2, none⟩)) rfl rfl rfl rfl ?_
          refine r_l (Value.int .i64 (t_2)) 0 _ _ _ _ rfl rfl rfl rfl rfl ?_
          refine r_w (U (BitVec.ofInt 64 (t_2))) rfl rfl (U_wrapI (t_2)) (fun _ => rfl) ?_
          refine r_c (Value.agg (rowF (BitVec.getLsbD ((0#64) ++ (BitVec.ofInt 64 (t_2)))))) rfl _ _ (ev_callF rfl call_22 rfl) (of_g (0#64) (BitVec.ofInt 64 (t_2))) ?_
          replace hM := ck_some hM; obtain ⟨ck14, hM⟩ := hM
          refine r_c (Value.string (⟨(textI (10) ((0#64) ++ (BitVec.ofInt 64 (t_2)))).toArray⟩)) rfl _ _ (ev_callF rfl call_21 rfl) (rtext_t ((0#64) ++ (BitVec.ofInt 64 (t_2))) (10) ck14) ?_
          refine r_v (Value.string (⟨(textI (10) ((0#64) ++ (BitVec.ofInt 64 (t_2)))).toArray⟩)) rfl rfl rfl rfl ?_
          refine lx_nil ?_
          refine hK13 _ _ ?_; try clear hK13 K13
          obtain rfl := Option.some.inj hM
          refine A_ret (fun hn => ends_eq (v0 := Value.string (⟨(textI (10) ((0#64) ++ (BitVec.ofInt 64 (t_2)))).toArray⟩)) rfl (res1 rfl))
      · replace hM := ifn (ne_of_beq_false hc8) hM
        refine A_seq fun K15 hK15 => ?_
        refine A_reg ?_
        refine r_v (Value.bool (((t_0 : Int) == 3))) rfl rfl rfl rfl ?_
        refine r_v (Value.bool (((t_0 : Int) == 3))) rfl rfl rfl rfl ?_
        refine lx_nil ?_
        refine hK15 _ _ ?_; try clear hK15 K15
        refine A_cond (((t_0 : Int) == 3)) rfl (fun hc16 => ?_) (fun hc16 => ?_)
        · replace hM := ifp (eq_of_beq hc16) hM
          refine A_seq fun K17 hK17 => ?_
          refine A_reg ?_
          refine r_v (Value.pointer (some ⟨b2, 3, none⟩)) rfl rfl rfl rfl ?_
          refine r_l (Value.agg #[Value.int .i64 (t_3), U (hi (t_4)), U (lo (t_4))]) 0 _ _ _ _ rfl rfl rfl rfl rfl ?_
          replace hM := bind_sm hM; obtain ⟨r18, hr19, hM⟩ := hM
          refine r_c (Value.string (⟨(r18).toArray⟩)) rfl _ _ (ev_callF rfl call_24 rfl) (shunterref02_Text_g N t_3 t_4 _ hr19) ?_
          refine r_v (Value.string (⟨(r18).toArray⟩)) rfl rfl rfl rfl ?_
          refine lx_nil ?_
          refine hK17 _ _ ?_; try clear hK17 K17
          obtain rfl := Option.some.inj hM
          refine A_ret (fun hn => ends_eq (v0 := Value.string (⟨(r18).toArray⟩)) rfl (res1 rfl))
        · replace hM := ifn (ne_of_beq_false hc16) hM
          refine A_skip ?_
          refine hK3 _ _ ?_; try clear hK3 K3
          refine A_seq fun K20 hK20 => ?_
          refine A_reg ?_
          refine r_v (Value.string (⟨#[]⟩)) rfl rfl rfl rfl ?_
          refine lx_nil ?_
          refine hK20 _ _ ?_; try clear hK20 K20
          obtain rfl := Option.some.inj hM
          refine A_ret (fun hn => ends_eq (v0 := Value.string (⟨#[]⟩)) rfl (res1 rfl))
def vec_Text_m (N : Nat) (a_0 : Int) (a_1 : BitVec 128) : Option (List UInt8) := (vec_May_m N a_0 a_1).bind fun r5 => if (r5) = true then ck (-9223372036854775808 ≤ (a_0 : Int) ∧ (a_0 : Int) ≤ 9223372036854775807) (ck (((Lib.itoa (a_0)).length : Int) + ((([39] : List UInt8)).length : Int) ≤ 9223372036854775807) ((vec_Word_m N a_0 a_1).bind fun r12 => ck ((((Lib.itoa (a_0)) ++ (([39] : List UInt8))).length : Int) + ((textI (16) (r12)).length : Int) ≤ 9223372036854775807) (some (((Lib.itoa (a_0)) ++ (([39] : List UInt8))) ++ (textI (16) (r12)))))) else some ([])
set_option maxRecDepth 100000 in
set_option maxHeartbeats 8000000 in
theorem vec_Text_g (N : Nat) (a_0 : Int) (a_1 : BitVec 128) (r : List UInt8) (hM : vec_Text_m N a_0 a_1 = some r) (ro : Addr → Option Value)  : DoesI Tryd.prog 26 #[Value.agg #[Value.int .i64 (a_0), U (hi (a_1)), U (lo (a_1))]] MemI ro [] (pV (Value.string (⟨(r).toArray⟩))) := by
  unfold vec_Text_m at hM
  refine doesI_of_A follows Tryd.func26 rfl 14 rfl (upd (fun _ => undef) 0 (Value.agg #[Value.int .i64 (a_0), U (hi (a_1)), U (lo (a_1))])) (by funext k; match k with | 0 => rfl | k + 1 => rfl) memI_kept (fun base0_ => ?_)
  refine A_seq fun K1 hK1 => ?_
  refine A_reg ?_
  refine r_a (42, #[Value.int .i64 (a_0), U (hi (a_1)), U (lo (a_1))]) rfl rfl rfl (fun b2 => ?_) (.inr rfl)
  refine r_v (Value.string (⟨#[]⟩)) rfl rfl rfl rfl ?_
  refine lx_nil ?_
  refine hK1 _ _ ?_; try clear hK1 K1
  refine A_seq fun K3 hK3 => ?_
  refine A_seq fun K4 hK4 => ?_
  refine A_reg ?_
  refine r_l (Value.agg #[Value.int .i64 (a_0), U (hi (a_1)), U (lo (a_1))]) 0 _ _ _ _ rfl rfl rfl rfl rfl ?_
  replace hM := bind_sm hM; obtain ⟨r5, hr6, hM⟩ := hM
  refine r_c (Value.bool (r5)) rfl _ _ (ev_callF rfl call_44 rfl) (vec_May_g N a_0 a_1 _ hr6) ?_
  refine r_v (Value.bool (!(r5))) rfl rfl rfl rfl ?_
  refine lx_nil ?_
  refine hK4 _ _ ?_; try clear hK4 K4
  refine A_cond (!(r5)) rfl (fun hc7 => ?_) (fun hc7 => ?_)
  · replace hM := ifn (Bool.eq_false_iff.1 (not_t hc7)) hM
    refine A_seq fun K8 hK8 => ?_
    refine A_reg ?_
    refine r_v (Value.string (⟨#[]⟩)) rfl rfl rfl rfl ?_
    refine lx_nil ?_
    refine hK8 _ _ ?_; try clear hK8 K8
    obtain rfl := Option.some.inj hM
    refine A_ret (fun hn => endsV (v0 := Value.string (⟨#[]⟩)) rfl (res1 rfl))
  · replace hM := ifp (not_f hc7) hM
    refine A_skip ?_
    refine hK3 _ _ ?_; try clear hK3 K3
    refine A_seq fun K9 hK9 => ?_
    refine A_drawR [(some 8, false)] (conG Tryd.prog [(8, fun v_ L_ U_ => (pV (Value.string (⟨(Lib.itoa (a_0)).toArray⟩))) v_ L_ U_)]) [] (by decide +kernel) (fun hn => sep_nil) ?_
    refine r_v (Value.pointer (some ⟨b2, 0, none⟩)) rfl rfl rfl rfl ?_
    refine r_l (Value.int .i64 (a_0)) 0 _ _ _ _ rfl rfl rfl rfl rfl ?_
    replace hM := ck_some hM; obtain ⟨ck10, hM⟩ := hM
    refine r_gv (Value.string (⟨(Lib.itoa (a_0)).toArray⟩)) 20 _ rfl rfl rfl (ev_callF rfl call_20 rfl) (fun own_ nw_ hs_ => itoa_i (a_0) ck10 _) (fun _ _ _ _ _ => Iff.rfl) ?_
    replace hM := ck_some hM; obtain ⟨ck11, hM⟩ := hM
    refine r_v (Value.string (⟨((Lib.itoa (a_0)) ++ (([39] : List UInt8))).toArray⟩)) rfl rfl rfl (ev_addS ck11 rfl rfl) ?_
    refine r_l (Value.agg #[Value.int .i64 (a_0), U (hi (a_1)), U (lo (a_1))]) 0 _ _ _ _ rfl rfl rfl rfl rfl ?_
    replace hM := bind_sm hM; obtain ⟨r12, hr13, hM⟩ := hM
    refine r_c (Value.agg #[U (hi (r12)), U (lo (r12))]) rfl _ _ (ev_callF rfl call_46 rfl) (vec_Word_g N a_0 a_1 _ hr13) ?_
    refine r_c (Value.string (⟨(textI (16) (r12)).toArray⟩)) rfl _ _ (ev_callF rfl call_45 rfl) (text_t (r12) (16)) ?_
    replace hM := ck_some hM; obtain ⟨ck14, hM⟩ := hM
    refine r_v (Value.string (⟨(((Lib.itoa (a_0)) ++ (([39] : List UInt8))) ++ (textI (16) (r12))).toArray⟩)) rfl rfl rfl (ev_addS ck14 rfl rfl) ?_
    refine r_v (Value.string (⟨(((Lib.itoa (a_0)) ++ (([39] : List UInt8))) ++ (textI (16) (r12))).toArray⟩)) rfl rfl rfl rfl ?_
    refine lx_nil ?_
    refine hK9 _ _ ?_; try clear hK9 K9
    obtain rfl := Option.some.inj hM
    refine A_ret (fun hn => endsV (v0 := Value.string (⟨(((Lib.itoa (a_0)) ++ (([39] : List UInt8))) ++ (textI (16) (r12))).toArray⟩)) rfl (res1 rfl))
def lex_Text_k2 (N : Nat) (t_0 : Int) (t_1 : List UInt8) (t_2 : Int) (t_3 : Int) (t_4 : BitVec 128) (x1_ : Bool) : Option (List UInt8) := if (x1_) = true then (strings_Clone_m N t_1).bind fun r7 => some (r7) else if (t_0 : Int) = 2 then if (t_2 : Int) ≥ 0 then ck (-9223372036854775808 ≤ (t_2 : Int) ∧ (t_2 : Int) ≤ 9223372036854775807) (some (Lib.itoa (t_2))) else some ([]) else if (t_0 : Int) = 3 then (vec_Text_m N t_3 t_4).bind fun r19 => some (r19) else some ([])
def lex_Text_m (N : Nat) (t_0 : Int) (t_1 : List UInt8) (t_2 : Int) (t_3 : Int) (t_4 : BitVec 128) (_ : Int) : Option (List UInt8) := if (t_0 : Int) = 0 then lex_Text_k2 N t_0 t_1 t_2 t_3 t_4 (((t_0 : Int) == 0)) else lex_Text_k2 N t_0 t_1 t_2 t_3 t_4 (((t_0 : Int) == 1))
set_option maxRecDepth 100000 in
set_option maxHeartbeats 8000000 in
theorem lex_Text_g (N : Nat) (t_0 : Int) (t_1 : List UInt8) (t_2 : Int) (t_3 : Int) (t_4 : BitVec 128) (t_5 : Int) (r : List UInt8) (hM : lex_Text_m N t_0 t_1 t_2 t_3 t_4 t_5 = some r) (ro : Addr → Option Value)  : DoesI Tryd.prog 13 #[Value.agg #[Value.int .i64 (t_0), Value.string (⟨(t_1).toArray⟩), Value.int .i64 (t_2), Value.int .i64 (t_3), U (hi (t_4)), U (lo (t_4)), Value.int .i64 (t_5)]] MemI ro [] (pV (Value.string (⟨(r).toArray⟩))) := by
  unfold lex_Text_m at hM
  refine doesI_of_A follows Tryd.func13 rfl 24 rfl (upd (fun _ => undef) 0 (Value.agg #[Value.int .i64 (t_0), Value.string (⟨(t_1).toArray⟩), Value.int .i64 (t_2), Value.int .i64 (t_3), U (hi (t_4)), U (lo (t_4)), Value.int .i64 (t_5)])) (by funext k; match k with | 0 => rfl | k + 1 => rfl) memI_kept (fun base0_ => ?_)
  refine A_seq fun K1 hK1 => ?_
  refine A_reg ?_
  refine r_a (47, #[Value.int .i64 (t_0), Value.string (⟨(t_1).toArray⟩), Value.int .i64 (t_2), Value.int .i64 (t_3), U (hi (t_4)), U (lo (t_4)), Value.int .i64 (t_5)]) rfl rfl rfl (fun b2 => ?_) (.inr rfl)
  refine r_v (Value.string (⟨#[]⟩)) rfl rfl rfl rfl ?_
  refine lx_nil ?_
  refine hK1 _ _ ?_; try clear hK1 K1
  refine A_seq fun K3 hK3 => ?_
  refine A_seq fun K4 hK4 => ?_
  refine A_reg ?_
  refine r_v (Value.pointer (some ⟨b2, 0, none⟩)) rfl rfl rfl rfl ?_
  refine r_l (Value.int .i64 (t_0)) 0 _ _ _ _ rfl rfl rfl rfl rfl ?_
  refine lx_nil ?_
  refine hK4 _ _ ?_; try clear hK4 K4
  refine A_block ?_
  refine A_cut (fun tt ll => ∃ (x1_ : Bool), (lex_Text_k2 N t_0 t_1 t_2 t_3 t_4 x1_ = some r) ∧ Is [(1, Value.pointer (some ⟨b2, 0, none⟩)), (4, Value.int .i64 (t_0)), (5, Value.bool (x1_))] [(b2, 47, #[Value.int .i64 (t_0), Value.string (⟨(t_1).toArray⟩), Value.int .i64 (t_2), Value.int .i64 (t_3), U (hi (t_4)), U (lo (t_4)), Value.int .i64 (t_5)])] tt ll) ?_ ?_
  · refine A_seq fun K22 hK22 => ?_
    refine A_reg ?_
    refine r_v (Value.bool (((t_0 : Int) == 0))) rfl rfl rfl rfl ?_
    refine r_v (Value.bool (((t_0 : Int) == 0))) rfl rfl rfl rfl ?_
    refine lx_nil ?_
    refine hK22 _ _ ?_; try clear hK22 K22
    refine A_cond (((t_0 : Int) == 0)) rfl (fun hc23 => ?_) (fun hc23 => ?_)
    · replace hM := ifp (eq_of_beq hc23) hM
      refine A_skip ?_
      refine fg _ (Sub.of (List.Sublist.cons_cons _ (List.Sublist.slnil))) ?_
      exact ⟨((t_0 : Int) == 0), hM, is_mk rfl rfl⟩
    · replace hM := ifn (ne_of_beq_false hc23) hM
      refine A_reg ?_
      refine r_v (Value.bool (((t_0 : Int) == 1))) rfl rfl rfl rfl ?_
      refine r_v (Value.bool (((t_0 : Int) == 1))) rfl rfl rfl rfl ?_
      refine lx_nil ?_
      refine fg _ (Sub.of (List.Sublist.cons_cons _ (List.Sublist.slnil))) ?_
      exact ⟨((t_0 : Int) == 1), hM, is_mk rfl rfl⟩
  · clear hM; rintro t l ⟨x1_, hM, ⟨T, rfl⟩, rfl⟩
    unfold lex_Text_k2 at hM
    refine A_cond (x1_) rfl (fun hc5 => ?_) (fun hc5 => ?_)
    · replace hM := ifp hc5 hM
      refine A_seq fun K6 hK6 => ?_
      refine A_reg ?_
      refine r_v (Value.pointer (some ⟨b2, 1, none⟩)) rfl rfl rfl rfl ?_
      refine r_l (Value.string (⟨(t_1).toArray⟩)) 0 _ _ _ _ rfl rfl rfl rfl rfl ?_
      replace hM := bind_sm hM; obtain ⟨r7, hr8, hM⟩ := hM
      refine r_c (Value.string (⟨(r7).toArray⟩)) rfl _ _ (ev_callF rfl call_25 rfl) (strings_Clone_g N t_1 _ hr8) ?_
      refine r_v (Value.string (⟨(r7).toArray⟩)) rfl rfl rfl rfl ?_
      refine lx_nil ?_
      refine hK6 _ _ ?_; try clear hK6 K6
      obtain rfl := Option.some.inj hM
      refine A_ret (fun hn => endsV (v0 := Value.string (⟨(r7).toArray⟩)) rfl (res1 rfl))
    · replace hM := ifn (Bool.eq_false_iff.1 hc5) hM
      refine A_seq fun K9 hK9 => ?_
      refine A_reg ?_
      refine r_v (Value.bool (((t_0 : Int) == 2))) rfl rfl rfl rfl ?_
      refine r_v (Value.bool (((t_0 : Int) == 2))) rfl rfl rfl rfl ?_
      refine lx_nil ?_
      refine hK9 _ _ ?_; try clear hK9 K9
      refine A_cond (((t_0 : Int) == 2)) rfl (fun hc10 => ?_) (fun hc10 => ?_)
      · replace hM := ifp (eq_of_beq hc10) hM
        refine A_seq fun K11 hK11 => ?_
        refine A_reg ?_
        refine r_v (Value.pointer (some ⟨b2, 2, none⟩)) rfl rfl rfl rfl ?_
        refine r_l (Value.int .i64 (t_2)) 0 _ _ _ _ rfl rfl rfl rfl rfl ?_
        refine r_v (Value.bool (decide ((t_2 : Int) ≥ 0))) rfl rfl rfl rfl ?_
        refine lx_nil ?_
        refine hK11 _ _ ?_; try clear hK11 K11
        refine A_cond (decide ((t_2 : Int) ≥ 0)) rfl (fun hc12 => ?_) (fun hc12 => ?_)
        · replace hM := ifp (of_decide_eq_true hc12) hM
          refine A_seq fun K13 hK13 => ?_
          refine A_regC [(some 18, false)] (conG Tryd.prog [(18, fun v_ L_ U_ => (pV (Value.string (⟨(Lib.itoa (t_2)).toArray⟩))) v_ L_ U_)]) ?_
          refine r_v (Value.pointer (some ⟨b2, 2, none⟩)) rfl rfl rfl rfl ?_
          refine r_l (Value.int .i64 (t_2)) 0 _ _ _ _ rfl rfl rfl rfl rfl ?_
          replace hM := ck_some hM; obtain ⟨ck14, hM⟩ := hM
          refine r_gv (Value.string (⟨(Lib.itoa (t_2)).toArray⟩)) 20 _ rfl rfl rfl (ev_callF rfl call_20 rfl) (fun own_ nw_ hs_ => itoa_i (t_2) ck14 _) (fun _ _ _ _ _ => Iff.rfl) ?_
          refine r_v (Value.string (⟨(Lib.itoa (t_2)).toArray⟩)) rfl rfl rfl rfl ?_
          refine lx_nil ?_
          refine hK13 _ _ ?_; try clear hK13 K13
          obtain rfl := Option.some.inj hM
          refine A_ret (fun hn => endsV (v0 := Value.string (⟨(Lib.itoa (t_2)).toArray⟩)) rfl (res1 rfl))
        · replace hM := ifn (of_decide_eq_false hc12) hM
          refine A_skip ?_
          refine hK3 _ _ ?_; try clear hK3 K3
          refine A_seq fun K15 hK15 => ?_
          refine A_reg ?_
          refine r_v (Value.string (⟨#[]⟩)) rfl rfl rfl rfl ?_
          refine lx_nil ?_
          refine hK15 _ _ ?_; try clear hK15 K15
          obtain rfl := Option.some.inj hM
          refine A_ret (fun hn => endsV (v0 := Value.string (⟨#[]⟩)) rfl (res1 rfl))
      · replace hM := ifn (ne_of_beq_false hc10) hM
        refine A_seq fun K16 hK16 => ?_
        refine A_reg ?_
        refine r_v (Value.bool (((t_0 : Int) == 3))) rfl rfl rfl rfl ?_
        refine r_v (Value.bool (((t_0 : Int) == 3))) rfl rfl rfl rfl ?_
        refine lx_nil ?_
        refine hK16 _ _ ?_; try clear hK16 K16
        refine A_cond (((t_0 : Int) == 3)) rfl (fun hc17 => ?_) (fun hc17 => ?_)
        · replace hM := ifp (eq_of_beq hc17) hM
          refine A_seq fun K18 hK18 => ?_
          refine A_regC [(some 23, false)] (conG Tryd.prog [(23, fun v_ L_ U_ => ∀ u0_, vec_Text_m N t_3 t_4 = some u0_ → (pV (Value.string (⟨(u0_).toArray⟩))) v_ L_ U_)]) ?_
          refine r_v (Value.pointer (some ⟨b2, 3, none⟩)) rfl rfl rfl rfl ?_
          refine r_l (Value.agg #[Value.int .i64 (t_3), U (hi (t_4)), U (lo (t_4))]) 0 _ _ _ _ rfl rfl rfl rfl rfl ?_
          replace hM := bind_sm hM; obtain ⟨r19, hr20, hM⟩ := hM
          refine r_gv (Value.string (⟨(r19).toArray⟩)) 26 _ rfl rfl rfl (ev_callF rfl call_26 rfl) (fun own_ nw_ hs_ => vec_Text_g N t_3 t_4 _ hr20 hs_.view ) (fun _ _ v_ L_ U_ => ⟨fun h_ => h_ _ hr20, fun h_ => by intro _ e_; cases Option.some.inj (e_.symm.trans hr20); exact h_⟩) ?_
          refine r_v (Value.string (⟨(r19).toArray⟩)) rfl rfl rfl rfl ?_
          refine lx_nil ?_
          refine hK18 _ _ ?_; try clear hK18 K18
          obtain rfl := Option.some.inj hM
          refine A_ret (fun hn => endsV (v0 := Value.string (⟨(r19).toArray⟩)) rfl (res1 rfl))
        · replace hM := ifn (ne_of_beq_false hc17) hM
          refine A_skip ?_
          refine hK3 _ _ ?_; try clear hK3 K3
          refine A_seq fun K21 hK21 => ?_
          refine A_reg ?_
          refine r_v (Value.string (⟨#[]⟩)) rfl rfl rfl rfl ?_
          refine lx_nil ?_
          refine hK21 _ _ ?_; try clear hK21 K21
          obtain rfl := Option.some.inj hM
          refine A_ret (fun hn => endsV (v0 := Value.string (⟨#[]⟩)) rfl (res1 rfl))
def strings_Builder_copyCheck_v1_m (_ : Nat) (b : List UInt8) : Option (List UInt8) := some (b)
set_option maxRecDepth 100000 in
set_option maxHeartbeats 8000000 in
theorem strings_Builder_copyCheck_v1_g (N : Nat) (b : List UInt8) (r : List UInt8) (hM : strings_Builder_copyCheck_v1_m N b = some r) (ro : Addr → Option Value) (bb : Nat) (bv : Value) (Sb : List Bl) (hb : Sl 5 encYs bv b Sb) : Does Tryd.prog 47 #[Value.pointer (some ⟨bb, 0, none⟩)] ro (List.flatten [[(bb, 66, #[Value.pointer none, bv])], Sb]) (pO (List.flatten [[(bb, 66, #[Value.pointer none, bv])], Sb]) (oI 5 encYs bv r (oE (Value.tuple #[]) [[(bb, 66, #[Value.pointer (some ⟨bb, 0, none⟩), bv])]]))) := by
  unfold strings_Builder_copyCheck_v1_m at hM
  refine doesO_of_A follows Tryd.func47 rfl 20 rfl (upd (fun _ => undef) 0 (Value.pointer (some ⟨bb, 0, none⟩))) (by funext k; match k with | 0 => rfl | k + 1 => rfl) (fun _ _ h_ _ => h_) (fun base0_ => ?_)
  refine A_seq fun K1 hK1 => ?_
  refine A_reg ?_
  refine r_v (Value.pointer (some ⟨bb, 0, none⟩)) rfl rfl rfl rfl ?_
  refine r_v (Value.pointer (some ⟨bb, 0, none⟩)) rfl rfl rfl rfl ?_
  refine r_v (Value.pointer (some ⟨bb, 0, none⟩)) rfl rfl rfl rfl ?_
  refine r_l (Value.pointer none) 0 _ _ _ _ rfl rfl rfl rfl rfl ?_
  refine r_v (Value.bool (true)) rfl rfl rfl rfl ?_
  refine lx_nil ?_
  refine hK1 _ _ ?_; try clear hK1 K1
  refine A_cond true rfl (fun _ => ?_) (fun h_ => nomatch h_)
  refine A_regC [(some 9, true), (some 10, true), (some 11, true)] (conG Tryd.prog [(9, fun v_ L_ U_ => (pUp (fun v_ U_ => v_ = Value.pointer (some ⟨bb, 0, none⟩) ∧ U_ = [(bb, 66, #[Value.pointer none, bv])])) v_ L_ U_), (10, fun v_ L_ U_ => (pUp (fun v_ U_ => v_ = Value.pointer (some ⟨bb, 0, none⟩) ∧ U_ = [(bb, 66, #[Value.pointer none, bv])])) v_ L_ U_), (11, fun v_ L_ U_ => (pUp (fun v_ U_ => v_ = Value.pointer (some ⟨bb, 0, none⟩) ∧ U_ = [(bb, 66, #[Value.pointer none, bv])])) v_ L_ U_)]) ?_
  refine r_v (Value.pointer (some ⟨bb, 0, none⟩)) rfl rfl rfl rfl ?_
  refine r_v (Value.pointer (some ⟨bb, 0, none⟩)) rfl rfl rfl rfl ?_
  refine r_hv (Ls := [[(bb, 66, #[Value.pointer none, bv])], Sb]) (Value.pointer (some ⟨bb, 0, none⟩)) 0 rfl rfl rfl rfl rfl (run_toU (TB := 66) (cs := #[Value.pointer none, bv]) rfl rfl rfl rfl rfl rfl rfl (List.mem_singleton.2 rfl)) (fun _ _ _ _ _ => Iff.rfl) ?_
  refine r_hv (Ls := [[(bb, 66, #[Value.pointer none, bv])], Sb]) (Value.pointer (some ⟨bb, 0, none⟩)) 0 rfl rfl rfl rfl rfl (fun w_ _ => run_ext (args := #[Value.pointer (some ⟨bb, 0, none⟩)]) (e := Extern.AbiNoEscape.same) (w' := w_) (exec_fn rfl) Tryd.func62 (by kernel_rfl) (by kernel_rfl) (by kernel_rfl) (by kernel_rfl) rfl) (fun _ _ _ _ _ => Iff.rfl) ?_
  refine r_hv (Ls := [[(bb, 66, #[Value.pointer none, bv])], Sb]) (Value.pointer (some ⟨bb, 0, none⟩)) 0 rfl rfl rfl rfl rfl (run_fromU (TB := 66) (cs := #[Value.pointer none, bv]) 2 rfl rfl rfl rfl rfl (List.mem_singleton.2 rfl) rfl (by kernel_rfl)) (fun _ _ _ _ _ => Iff.rfl) ?_
  refine r_v (Value.pointer (some ⟨bb, 0, none⟩)) rfl rfl rfl rfl ?_
  refine r_v (Value.pointer (some ⟨bb, 0, none⟩)) rfl rfl rfl rfl ?_
  refine r_s (List.flatten [[(bb, 66, #[Value.pointer (some ⟨bb, 0, none⟩), bv])], Sb]) 0 _ _ _ (#[Value.pointer none, bv]) (#[Value.pointer (some ⟨bb, 0, none⟩)]) (#[Value.pointer (some ⟨bb, 0, none⟩), bv]) rfl rfl rfl rfl (.of rfl rfl) rfl rfl ?_
  refine lx_nil ?_
  obtain rfl := Option.some.inj hM
  refine endsN (v0 := Value.tuple #[]) (O := [Sb, [(bb, 66, #[Value.pointer (some ⟨bb, 0, none⟩), bv])]]) rfl (Sub.pick [[(bb, 66, #[Value.pointer (some ⟨bb, 0, none⟩), bv])], Sb] [1, 0] rfl) ⟨Sb, _, hb, ⟨rfl, rfl⟩, rfl⟩
def strings_Builder_WriteByte_v1_m (N : Nat) (b : List UInt8) (c : UInt8) : Option (List UInt8) := (strings_Builder_copyCheck_v1_m N b).bind fun r3 => ck ((r3).length = (b).length) (ck ((r3).length + ([c]).length ≤ 140737488355328) (some ((r3 ++ ([c])))))
set_option maxRecDepth 100000 in
set_option maxHeartbeats 8000000 in
theorem strings_Builder_WriteByte_v1_g (N : Nat) (b : List UInt8) (c : UInt8) (r : List UInt8) (hM : strings_Builder_WriteByte_v1_m N b c = some r) (ro : Addr → Option Value) (bb : Nat) (bv : Value) (Sb : List Bl) (hb : Sl 5 encYs bv b Sb) : Does Tryd.prog 27 #[Value.pointer (some ⟨bb, 0, none⟩), Value.int .u8 (((c.toNat : Nat) : Int))] ro (List.flatten [[(bb, 66, #[Value.pointer none, bv])], Sb]) (pO (List.flatten [[(bb, 66, #[Value.pointer none, bv])], Sb]) (oS 5 encYs r fun s_0 => (oE (Value.nilIface) [[(bb, 66, #[Value.pointer (some ⟨bb, 0, none⟩), s_0])]]))) := by
  unfold strings_Builder_WriteByte_v1_m at hM
  refine doesO_of_A follows Tryd.func27 rfl 17 rfl (upd (upd (fun _ => undef) 1 (Value.int .u8 (((c.toNat : Nat) : Int)))) 0 (Value.pointer (some ⟨bb, 0, none⟩))) (by funext k; match k with | 0 => rfl | 1 => rfl | k + 2 => rfl) (fun _ _ h_ _ => h_) (fun base0_ => ?_)
  refine A_seq fun K1 hK1 => ?_
  refine A_reg ?_
  refine r_v (Value.nilIface) rfl rfl rfl rfl ?_
  refine lx_nil ?_
  refine hK1 _ _ ?_; try clear hK1 K1
  refine A_seq fun K2 hK2 => ?_
  refine A_regC [(some 6, true)] (conG Tryd.prog [(6, fun v_ L_ U_ => ∀ u0_, strings_Builder_copyCheck_v1_m N b = some u0_ → (pO (List.flatten [[(bb, 66, #[Value.pointer none, bv])], Sb]) (oI 5 encYs bv u0_ (oE (Value.tuple #[]) [[(bb, 66, #[Value.pointer (some ⟨bb, 0, none⟩), bv])]]))) v_ L_ U_)]) ?_
  refine r_v (Value.pointer (some ⟨bb, 0, none⟩)) rfl rfl rfl rfl ?_
  replace hM := bind_sm hM; obtain ⟨r3, hr4, hM⟩ := hM
  replace hM := ck_some hM; obtain ⟨ck5, hM⟩ := hM
  refine r_gm (Ls := [[(bb, 66, #[Value.pointer none, bv])], Sb]) (FL := [[(bb, 66, #[Value.pointer none, bv])], Sb]) (RL := []) [0, 1] (oI 5 encYs bv r3 (oE (Value.tuple #[]) [[(bb, 66, #[Value.pointer (some ⟨bb, 0, none⟩), bv])]])) (some 6) 47 _ rfl rfl rfl rfl rfl (ev_callF rfl call_47 rfl) (fun own_ nw_ hn_ hs_ => strings_Builder_copyCheck_v1_g N b _ hr4 _ bb bv Sb hb) (fun _ _ v_ L_ U_ => ⟨fun h_ => h_ _ hr4, fun h_ => by intro _ e_; cases Option.some.inj (e_.symm.trans hr4); exact h_⟩) (fun h_ => nomatch h_) ?_
  rintro _ _ ⟨S6, _, H7, ⟨rfl, rfl⟩, rfl⟩
  refine lx_perm (Ls := [S6, [(bb, 66, #[Value.pointer (some ⟨bb, 0, none⟩), bv])]]) (Ls' := [[(bb, 66, #[Value.pointer (some ⟨bb, 0, none⟩), bv])], S6]) [1, 0] rfl rfl ?_
  refine lx_nil ?_
  refine hK2 _ _ ?_; try clear hK2 K2
  refine A_seq fun K8 hK8 => ?_
  refine A_regC [(some 13, false), (some 14, true)] (conG Tryd.prog []) ?_
  refine r_v (Value.pointer (some ⟨bb, 0, none⟩)) rfl rfl rfl rfl ?_
  refine r_v (Value.pointer (some ⟨bb, 0, none⟩)) rfl rfl rfl rfl ?_
  refine r_v (Value.pointer (some ⟨bb, 0, none⟩)) rfl rfl rfl rfl ?_
  refine r_v (Value.pointer (some ⟨bb, 1, none⟩)) rfl rfl rfl rfl ?_
  refine r_l (bv) 0 _ _ _ _ rfl rfl rfl rfl rfl ?_
  refine r_v (Value.int .u8 (((c.toNat : Nat) : Int))) rfl rfl rfl rfl ?_
  refine r_bs (cs0 := []) (Ls := [[(bb, 66, #[Value.pointer (some ⟨bb, 0, none⟩), bv])], S6]) 5 encY [c] [Value.int .u8 (((c.toNat : Nat) : Int))] [Value.int .u8 (0)] rfl rfl rfl rfl rfl rfl rfl (by kernel_rfl) (by kernel_rfl) rfl rfl rfl (fun s9 S10 H11 => ?_)
  replace hM := ck_some hM; obtain ⟨ck12, hM⟩ := hM
  refine r_app (cs0 := []) (Ls := [[(bb, 66, #[Value.pointer (some ⟨bb, 0, none⟩), bv])], S6, S10]) 1 (En := encYs) rfl rfl rfl rfl rfl H7 rfl (fun own_ nw_ hs_ => rd_strict ((rd_own H11 (mem_chunk (Ls := [[(bb, 66, #[Value.pointer (some ⟨bb, 0, none⟩), bv])], S6, S10]) (k := 2) rfl rfl)) own_ nw_ hs_)) rfl rfl rfl rfl rfl (app_b ck12 rfl) (app_m ck12 rfl) rfl (fun s13 S14 H15 => ?_)
  refine r_v (Value.pointer (some ⟨bb, 0, none⟩)) rfl rfl rfl rfl ?_
  refine r_v (Value.pointer (some ⟨bb, 1, none⟩)) rfl rfl rfl rfl ?_
  refine r_s (List.flatten [[(bb, 66, #[Value.pointer (some ⟨bb, 0, none⟩), s13])], S14, S10]) 0 _ _ _ (#[Value.pointer (some ⟨bb, 0, none⟩), bv]) (#[s13]) (#[Value.pointer (some ⟨bb, 0, none⟩), s13]) rfl rfl rfl (cells_sl rfl (Sl.shp H15)) (.ofS rfl rfl (all_cons' (Shp.one (Sl.shp H15)) all_nil')) rfl rfl ?_
  refine lx_nil ?_
  refine hK8 _ _ ?_; try clear hK8 K8
  refine A_seq fun K16 hK16 => ?_
  refine A_reg ?_
  refine r_v (Value.nilIface) rfl rfl rfl rfl ?_
  refine lx_nil ?_
  refine hK16 _ _ ?_; try clear hK16 K16
  obtain rfl := Option.some.inj hM
  refine A_ret (fun hn => endsO (v0 := Value.nilIface) (O := [S14, [(bb, 66, #[Value.pointer (some ⟨bb, 0, none⟩), s13])]]) (res1 rfl) (Sub.pick [[(bb, 66, #[Value.pointer (some ⟨bb, 0, none⟩), s13])], S14, S10] [1, 0] rfl) ⟨s13, S14, _, H15, ⟨rfl, rfl⟩, rfl⟩)
def strings_Builder_copyCheck_v2_m (_ : Nat) (b : List UInt8) : Option (List UInt8) := some (b)
set_option maxRecDepth 100000 in
set_option maxHeartbeats 8000000 in
theorem strings_Builder_copyCheck_v2_g (N : Nat) (b : List UInt8) (r : List UInt8) (hM : strings_Builder_copyCheck_v2_m N b = some r) (ro : Addr → Option Value) (bb : Nat) (bv : Value) (Sb : List Bl) (hb : Sl 5 encYs bv b Sb) : Does Tryd.prog 47 #[Value.pointer (some ⟨bb, 0, none⟩)] ro (List.flatten [[(bb, 66, #[Value.pointer (some ⟨bb, 0, none⟩), bv])], Sb]) (pO (List.flatten [[(bb, 66, #[Value.pointer (some ⟨bb, 0, none⟩), bv])], Sb]) (oI 5 encYs bv r (oE (Value.tuple #[]) [[(bb, 66, #[Value.pointer (some ⟨bb, 0, none⟩), bv])]]))) := by
  unfold strings_Builder_copyCheck_v2_m at hM
  refine doesO_of_A follows Tryd.func47 rfl 20 rfl (upd (fun _ => undef) 0 (Value.pointer (some ⟨bb, 0, none⟩))) (by funext k; match k with | 0 => rfl | k + 1 => rfl) (fun _ _ h_ _ => h_) (fun base0_ => ?_)
  refine A_seq fun K1 hK1 => ?_
  refine A_reg ?_
  refine r_v (Value.pointer (some ⟨bb, 0, none⟩)) rfl rfl rfl rfl ?_
  refine r_v (Value.pointer (some ⟨bb, 0, none⟩)) rfl rfl rfl rfl ?_
  refine r_v (Value.pointer (some ⟨bb, 0, none⟩)) rfl rfl rfl rfl ?_
  refine r_l (Value.pointer (some ⟨bb, 0, none⟩)) 0 _ _ _ _ rfl rfl rfl rfl rfl ?_
  refine r_v (Value.bool (false)) rfl rfl rfl rfl ?_
  refine lx_nil ?_
  refine hK1 _ _ ?_; try clear hK1 K1
  refine A_cond false rfl (fun h_ => nomatch h_) (fun _ => ?_)
  refine A_seq fun K2 hK2 => ?_
  refine A_reg ?_
  refine r_v (Value.pointer (some ⟨bb, 0, none⟩)) rfl rfl rfl rfl ?_
  refine r_v (Value.pointer (some ⟨bb, 0, none⟩)) rfl rfl rfl rfl ?_
  refine r_v (Value.pointer (some ⟨bb, 0, none⟩)) rfl rfl rfl rfl ?_
  refine r_l (Value.pointer (some ⟨bb, 0, none⟩)) 0 _ _ _ _ rfl rfl rfl rfl rfl ?_
  refine r_v (Value.pointer (some ⟨bb, 0, none⟩)) rfl rfl rfl rfl ?_
  refine r_v (Value.bool (false)) rfl rfl rfl (ev_neqP rfl rfl rfl rfl rfl) ?_
  refine lx_nil ?_
  refine hK2 _ _ ?_; try clear hK2 K2
  refine A_cond false rfl (fun h_ => nomatch h_) (fun _ => ?_)
  refine A_skip ?_
  obtain rfl := Option.some.inj hM
  refine endsN (v0 := Value.tuple #[]) (O := [Sb, [(bb, 66, #[Value.pointer (some ⟨bb, 0, none⟩), bv])]]) rfl (Sub.pick [[(bb, 66, #[Value.pointer (some ⟨bb, 0, none⟩), bv])], Sb] [1, 0] rfl) ⟨Sb, _, hb, ⟨rfl, rfl⟩, rfl⟩
def strings_Builder_WriteByte_v2_m (N : Nat) (b : List UInt8) (c : UInt8) : Option (List UInt8) := (strings_Builder_copyCheck_v2_m N b).bind fun r3 => ck ((r3).length = (b).length) (ck ((r3).length + ([c]).length ≤ 140737488355328) (some ((r3 ++ ([c])))))
set_option maxRecDepth 100000 in
set_option maxHeartbeats 8000000 in
theorem strings_Builder_WriteByte_v2_g (N : Nat) (b : List UInt8) (c : UInt8) (r : List UInt8) (hM : strings_Builder_WriteByte_v2_m N b c = some r) (ro : Addr → Option Value) (bb : Nat) (bv : Value) (Sb : List Bl) (hb : Sl 5 encYs bv b Sb) : Does Tryd.prog 27 #[Value.pointer (some ⟨bb, 0, none⟩), Value.int .u8 (((c.toNat : Nat) : Int))] ro (List.flatten [[(bb, 66, #[Value.pointer (some ⟨bb, 0, none⟩), bv])], Sb]) (pO (List.flatten [[(bb, 66, #[Value.pointer (some ⟨bb, 0, none⟩), bv])], Sb]) (oS 5 encYs r fun s_0 => (oE (Value.nilIface) [[(bb, 66, #[Value.pointer (some ⟨bb, 0, none⟩), s_0])]]))) := by
  unfold strings_Builder_WriteByte_v2_m at hM
  refine doesO_of_A follows Tryd.func27 rfl 17 rfl (upd (upd (fun _ => undef) 1 (Value.int .u8 (((c.toNat : Nat) : Int)))) 0 (Value.pointer (some ⟨bb, 0, none⟩))) (by funext k; match k with | 0 => rfl | 1 => rfl | k + 2 => rfl) (fun _ _ h_ _ => h_) (fun base0_ => ?_)
  refine A_seq fun K1 hK1 => ?_
  refine A_reg ?_
  refine r_v (Value.nilIface) rfl rfl rfl rfl ?_
  refine lx_nil ?_
  refine hK1 _ _ ?_; try clear hK1 K1
  refine A_seq fun K2 hK2 => ?_
  refine A_regC [(some 6, true)] (conG Tryd.prog [(6, fun v_ L_ U_ => ∀ u0_, strings_Builder_copyCheck_v2_m N b = some u0_ → (pO (List.flatten [[(bb, 66, #[Value.pointer (some ⟨bb, 0, none⟩), bv])], Sb]) (oI 5 encYs bv u0_ (oE (Value.tuple #[]) [[(bb, 66, #[Value.pointer (some ⟨bb, 0, none⟩), bv])]]))) v_ L_ U_)]) ?_
  refine r_v (Value.pointer (some ⟨bb, 0, none⟩)) rfl rfl rfl rfl ?_
  replace hM := bind_sm hM; obtain ⟨r3, hr4, hM⟩ := hM
  replace hM := ck_some hM; obtain ⟨ck5, hM⟩ := hM
  refine r_gm (Ls := [[(bb, 66, #[Value.pointer (some ⟨bb, 0, none⟩), bv])], Sb]) (FL := [[(bb, 66, #[Value.pointer (some ⟨bb, 0, none⟩), bv])], Sb]) (RL := []) [0, 1] (oI 5 encYs bv r3 (oE (Value.tuple #[]) [[(bb, 66, #[Value.pointer (some ⟨bb, 0, none⟩), bv])]])) (some 6) 47 _ rfl rfl rfl rfl rfl (ev_callF rfl call_47 rfl) (fun own_ nw_ hn_ hs_ => strings_Builder_copyCheck_v2_g N b _ hr4 _ bb bv Sb hb) (fun _ _ v_ L_ U_ => ⟨fun h_ => h_ _ hr4, fun h_ => by intro _ e_; cases Option.some.inj (e_.symm.trans hr4); exact h_⟩) (fun h_ => nomatch h_) ?_
  rintro _ _ ⟨S6, _, H7, ⟨rfl, rfl⟩, rfl⟩
  refine lx_perm (Ls := [S6, [(bb, 66, #[Value.pointer (some ⟨bb, 0, none⟩), bv])]]) (Ls' := [[(bb, 66, #[Value.pointer (some ⟨bb, 0, none⟩), bv])], S6]) [1, 0] rfl rfl ?_
  refine lx_nil ?_
  refine hK2 _ _ ?_; try clear hK2 K2
  refine A_seq fun K8 hK8 => ?_
  refine A_regC [(some 13, false), (some 14, true)] (conG Tryd.prog []) ?_
  refine r_v (Value.pointer (some ⟨bb, 0, none⟩)) rfl rfl rfl rfl ?_
  refine r_v (Value.pointer (some ⟨bb, 0, none⟩)) rfl rfl rfl rfl ?_
  refine r_v (Value.pointer (some ⟨bb, 0, none⟩)) rfl rfl rfl rfl ?_
  refine r_v (Value.pointer (some ⟨bb, 1, none⟩)) rfl rfl rfl rfl ?_
  refine r_l (bv) 0 _ _ _ _ rfl rfl rfl rfl rfl ?_
  refine r_v (Value.int .u8 (((c.toNat : Nat) : Int))) rfl rfl rfl rfl ?_
  refine r_bs (cs0 := []) (Ls := [[(bb, 66, #[Value.pointer (some ⟨bb, 0, none⟩), bv])], S6]) 5 encY [c] [Value.int .u8 (((c.toNat : Nat) : Int))] [Value.int .u8 (0)] rfl rfl rfl rfl rfl rfl rfl (by kernel_rfl) (by kernel_rfl) rfl rfl rfl (fun s9 S10 H11 => ?_)
  replace hM := ck_some hM; obtain ⟨ck12, hM⟩ := hM
  refine r_app (cs0 := []) (Ls := [[(bb, 66, #[Value.pointer (some ⟨bb, 0, none⟩), bv])], S6, S10]) 1 (En := encYs) rfl rfl rfl rfl rfl H7 rfl (fun own_ nw_ hs_ => rd_strict ((rd_own H11 (mem_chunk (Ls := [[(bb, 66, #[Value.pointer (some ⟨bb, 0, none⟩), bv])], S6, S10]) (k := 2) rfl rfl)) own_ nw_ hs_)) rfl rfl rfl rfl rfl (app_b ck12 rfl) (app_m ck12 rfl) rfl (fun s13 S14 H15 => ?_)
  refine r_v (Value.pointer (some ⟨bb, 0, none⟩)) rfl rfl rfl rfl ?_
  refine r_v (Value.pointer (some ⟨bb, 1, none⟩)) rfl rfl rfl rfl ?_
  refine r_s (List.flatten [[(bb, 66, #[Value.pointer (some ⟨bb, 0, none⟩), s13])], S14, S10]) 0 _ _ _ (#[Value.pointer (some ⟨bb, 0, none⟩), bv]) (#[s13]) (#[Value.pointer (some ⟨bb, 0, none⟩), s13]) rfl rfl rfl (cells_sl rfl (Sl.shp H15)) (.ofS rfl rfl (all_cons' (Shp.one (Sl.shp H15)) all_nil')) rfl rfl ?_
  refine lx_nil ?_
  refine hK8 _ _ ?_; try clear hK8 K8
  refine A_seq fun K16 hK16 => ?_
  refine A_reg ?_
  refine r_v (Value.nilIface) rfl rfl rfl rfl ?_
  refine lx_nil ?_
  refine hK16 _ _ ?_; try clear hK16 K16
  obtain rfl := Option.some.inj hM
  refine A_ret (fun hn => endsO (v0 := Value.nilIface) (O := [S14, [(bb, 66, #[Value.pointer (some ⟨bb, 0, none⟩), s13])]]) (res1 rfl) (Sub.pick [[(bb, 66, #[Value.pointer (some ⟨bb, 0, none⟩), s13])], S14, S10] [1, 0] rfl) ⟨s13, S14, _, H15, ⟨rfl, rfl⟩, rfl⟩)
def strings_Builder_WriteByte_v2b_m (N : Nat) (b : List UInt8) (c : UInt8) : Option (List UInt8) := strings_Builder_WriteByte_v2_m N b c
set_option maxRecDepth 100000 in
theorem strings_Builder_WriteByte_v2b_g (N : Nat) (b : List UInt8) (c : UInt8) (r : List UInt8) (hM : strings_Builder_WriteByte_v2b_m N b c = some r) (ro : Addr → Option Value) (vb_ : Value) (Sb_ : List Bl) (Hb_ : Bd 66 5 vb_ b Sb_)  : Does Tryd.prog 27 #[vb_, Value.int .u8 (((c.toNat : Nat) : Int))] ro (List.flatten [Sb_]) (pO (List.flatten [Sb_]) (oIB 66 5 vb_ r (oE (Value.nilIface) []))) := by
  rw [flat_one]
  obtain ⟨b_, f_, s_, S0_, rfl, H0_, rfl⟩ := Hb_
  cases f_
  · exact bd_w (f := true) (strings_Builder_WriteByte_v1_g N b c r hM ro b_ s_ S0_ H0_ )
  · exact bd_w (f := true) (strings_Builder_WriteByte_v2_g N b c r hM ro b_ s_ S0_ H0_ )
def strings_Builder_WriteString_v1_m (N : Nat) (b : List UInt8) (s : List UInt8) : Option (Int × (List UInt8)) := (strings_Builder_copyCheck_v1_m N b).bind fun r3 => ck ((r3).length = (b).length) (ck ((r3).length + (s).length ≤ 140737488355328) (some (((s).length : Int), (r3 ++ s))))
set_option maxRecDepth 100000 in
set_option maxHeartbeats 8000000 in
theorem strings_Builder_WriteString_v1_g (N : Nat) (b : List UInt8) (s : List UInt8) (r : Int × (List UInt8)) (hM : strings_Builder_WriteString_v1_m N b s = some r) (ro : Addr → Option Value) (bb : Nat) (bv : Value) (Sb : List Bl) (hb : Sl 5 encYs bv b Sb) : Does Tryd.prog 28 #[Value.pointer (some ⟨bb, 0, none⟩), Value.string (⟨(s).toArray⟩)] ro (List.flatten [[(bb, 66, #[Value.pointer none, bv])], Sb]) (pO (List.flatten [[(bb, 66, #[Value.pointer none, bv])], Sb]) (oS 5 encYs r.2 fun s_0 => (oE (Value.tuple #[Value.int .i64 (r.1), Value.nilIface]) [[(bb, 66, #[Value.pointer (some ⟨bb, 0, none⟩), s_0])]]))) := by
  unfold strings_Builder_WriteString_v1_m at hM
  refine doesO_of_A follows Tryd.func28 rfl 19 rfl (upd (upd (fun _ => undef) 1 (Value.string (⟨(s).toArray⟩))) 0 (Value.pointer (some ⟨bb, 0, none⟩))) (by funext k; match k with | 0 => rfl | 1 => rfl | k + 2 => rfl) (fun _ _ h_ _ => h_) (fun base0_ => ?_)
  refine A_seq fun K1 hK1 => ?_
  refine A_reg ?_
  refine r_v (Value.int .i64 (0)) rfl rfl rfl rfl ?_
  refine r_v (Value.nilIface) rfl rfl rfl rfl ?_
  refine lx_nil ?_
  refine hK1 _ _ ?_; try clear hK1 K1
  refine A_seq fun K2 hK2 => ?_
  refine A_regC [(some 7, true)] (conG Tryd.prog [(7, fun v_ L_ U_ => ∀ u0_, strings_Builder_copyCheck_v1_m N b = some u0_ → (pO (List.flatten [[(bb, 66, #[Value.pointer none, bv])], Sb]) (oI 5 encYs bv u0_ (oE (Value.tuple #[]) [[(bb, 66, #[Value.pointer (some ⟨bb, 0, none⟩), bv])]]))) v_ L_ U_)]) ?_
  refine r_v (Value.pointer (some ⟨bb, 0, none⟩)) rfl rfl rfl rfl ?_
  replace hM := bind_sm hM; obtain ⟨r3, hr4, hM⟩ := hM
  replace hM := ck_some hM; obtain ⟨ck5, hM⟩ := hM
  refine r_gm (Ls := [[(bb, 66, #[Value.pointer none, bv])], Sb]) (FL := [[(bb, 66, #[Value.pointer none, bv])], Sb]) (RL := []) [0, 1] (oI 5 encYs bv r3 (oE (Value.tuple #[]) [[(bb, 66, #[Value.pointer (some ⟨bb, 0, none⟩), bv])]])) (some 7) 47 _ rfl rfl rfl rfl rfl (ev_callF rfl call_47 rfl) (fun own_ nw_ hn_ hs_ => strings_Builder_copyCheck_v1_g N b _ hr4 _ bb bv Sb hb) (fun _ _ v_ L_ U_ => ⟨fun h_ => h_ _ hr4, fun h_ => by intro _ e_; cases Option.some.inj (e_.symm.trans hr4); exact h_⟩) (fun h_ => nomatch h_) ?_
  rintro _ _ ⟨S6, _, H7, ⟨rfl, rfl⟩, rfl⟩
  refine lx_perm (Ls := [S6, [(bb, 66, #[Value.pointer (some ⟨bb, 0, none⟩), bv])]]) (Ls' := [[(bb, 66, #[Value.pointer (some ⟨bb, 0, none⟩), bv])], S6]) [1, 0] rfl rfl ?_
  refine lx_nil ?_
  refine hK2 _ _ ?_; try clear hK2 K2
  refine A_seq fun K8 hK8 => ?_
  refine A_regC [(some 14, true)] (conG Tryd.prog []) ?_
  refine r_v (Value.pointer (some ⟨bb, 0, none⟩)) rfl rfl rfl rfl ?_
  refine r_v (Value.pointer (some ⟨bb, 0, none⟩)) rfl rfl rfl rfl ?_
  refine r_v (Value.pointer (some ⟨bb, 0, none⟩)) rfl rfl rfl rfl ?_
  refine r_v (Value.pointer (some ⟨bb, 1, none⟩)) rfl rfl rfl rfl ?_
  refine r_l (bv) 0 _ _ _ _ rfl rfl rfl rfl rfl ?_
  refine r_v (Value.string (⟨(s).toArray⟩)) rfl rfl rfl rfl ?_
  replace hM := ck_some hM; obtain ⟨ck9, hM⟩ := hM
  refine r_apsS (cs0 := []) (Ls := [[(bb, 66, #[Value.pointer (some ⟨bb, 0, none⟩), bv])], S6]) 1 (s) rfl rfl rfl rfl rfl H7 rfl rfl rfl rfl rfl rfl rfl rfl ck9 rfl (fun s10 S11 H12 => ?_)
  refine r_v (Value.pointer (some ⟨bb, 0, none⟩)) rfl rfl rfl rfl ?_
  refine r_v (Value.pointer (some ⟨bb, 1, none⟩)) rfl rfl rfl rfl ?_
  refine r_s (List.flatten [[(bb, 66, #[Value.pointer (some ⟨bb, 0, none⟩), s10])], S11]) 0 _ _ _ (#[Value.pointer (some ⟨bb, 0, none⟩), bv]) (#[s10]) (#[Value.pointer (some ⟨bb, 0, none⟩), s10]) rfl rfl rfl (cells_sl rfl (Sl.shp H12)) (.ofS rfl rfl (all_cons' (Shp.one (Sl.shp H12)) all_nil')) rfl rfl ?_
  refine lx_nil ?_
  refine hK8 _ _ ?_; try clear hK8 K8
  refine A_seq fun K13 hK13 => ?_
  refine A_reg ?_
  refine r_v (Value.string (⟨(s).toArray⟩)) rfl rfl rfl rfl ?_
  refine r_v (Value.int .i64 (((s).length : Int))) rfl rfl rfl (ev_lenS rfl rfl rfl) ?_
  refine r_v (Value.int .i64 (((s).length : Int))) rfl rfl rfl rfl ?_
  refine r_v (Value.nilIface) rfl rfl rfl rfl ?_
  refine lx_nil ?_
  refine hK13 _ _ ?_; try clear hK13 K13
  obtain rfl := Option.some.inj hM
  refine A_ret (fun hn => endsO (v0 := Value.tuple #[Value.int .i64 (((s).length : Int)), Value.nilIface]) (O := [S11, [(bb, 66, #[Value.pointer (some ⟨bb, 0, none⟩), s10])]]) (res2 rfl rfl) (Sub.pick [[(bb, 66, #[Value.pointer (some ⟨bb, 0, none⟩), s10])], S11] [1, 0] rfl) ⟨s10, S11, _, H12, ⟨rfl, rfl⟩, rfl⟩)
end Go.Proofs.YtmdjifehblijkaaDoor
