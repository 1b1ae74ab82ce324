/- models of functions and their walks -/
import Derived.Test.YtmdjifehblijkaaBa
namespace Go.Proofs.Ytmdjifehblijkaa
open Go Go.RowKit Go.Eng
def internal_stringslite_CutPrefix_m (N : Nat) (s : List UInt8) (prefix' : List UInt8) : Option ((List UInt8) × Bool) := (internal_stringslite_HasPrefix_m N s prefix').bind fun r4 => if (r4) = true then ck (0 ≤ ((prefix').length : Int) ∧ ((prefix').length : Int) ≤ ((s).length : Int)) (some ((s).drop (((prefix').length : Int)).toNat, true)) else some (s, false)
set_option maxRecDepth 100000 in
set_option maxHeartbeats 8000000 in
theorem internal_stringslite_CutPrefix_g (N : Nat) (s : List UInt8) (prefix' : List UInt8) (r : (List UInt8) × Bool) (hM : internal_stringslite_CutPrefix_m N s prefix' = some r) : Gives Try.prog 55 #[Value.string (⟨(s).toArray⟩), Value.string (⟨(prefix').toArray⟩)] (Value.tuple #[Value.string (⟨(r.1).toArray⟩), Value.bool (r.2)]) := by
  unfold internal_stringslite_CutPrefix_m at hM
  refine gives_of_A follows Try.func55 rfl 15 rfl (upd (upd (fun _ => undef) 1 (Value.string (⟨(prefix').toArray⟩))) 0 (Value.string (⟨(s).toArray⟩))) (by funext k; match k with | 0 => rfl | 1 => rfl | k + 2 => rfl) (fun base0_ => ?_)
  refine A_seq fun K1 hK1 => ?_
  refine A_reg ?_
  refine r_v (Value.string (⟨#[]⟩)) rfl rfl rfl rfl ?_
  refine r_v (Value.bool (false)) rfl rfl rfl rfl ?_
  refine lx_nil ?_
  refine hK1 _ _ ?_; try clear hK1 K1
  refine A_seq fun K2 hK2 => ?_
  refine A_seq fun K3 hK3 => ?_
  refine A_reg ?_
  refine r_v (Value.string (⟨(s).toArray⟩)) rfl rfl rfl rfl ?_
  refine r_v (Value.string (⟨(prefix').toArray⟩)) rfl rfl rfl rfl ?_
  replace hM := bind_sm hM; obtain ⟨r4, hr5, hM⟩ := hM
  refine r_c (Value.bool (r4)) rfl _ _ (ev_callF rfl call_66 rfl) (internal_stringslite_HasPrefix_g N s prefix' _ hr5) ?_
  refine r_v (Value.bool (!(r4))) rfl rfl rfl rfl ?_
  refine lx_nil ?_
  refine hK3 _ _ ?_; try clear hK3 K3
  refine A_cond (!(r4)) rfl (fun hc6 => ?_) (fun hc6 => ?_)
  · replace hM := ifn (Bool.eq_false_iff.1 (not_t hc6)) hM
    refine A_seq fun K7 hK7 => ?_
    refine A_reg ?_
    refine r_v (Value.string (⟨(s).toArray⟩)) rfl rfl rfl rfl ?_
    refine r_v (Value.string (⟨(s).toArray⟩)) rfl rfl rfl rfl ?_
    refine r_v (Value.bool (false)) rfl rfl rfl rfl ?_
    refine lx_nil ?_
    refine hK7 _ _ ?_; try clear hK7 K7
    obtain rfl := Option.some.inj hM
    refine A_ret (fun hn => ends_eq (v0 := Value.tuple #[Value.string (⟨(s).toArray⟩), Value.bool (false)]) rfl (res2 rfl rfl))
  · replace hM := ifp (not_f hc6) hM
    refine A_skip ?_
    refine hK2 _ _ ?_; try clear hK2 K2
    refine A_seq fun K8 hK8 => ?_
    refine A_reg ?_
    refine r_v (Value.string (⟨(s).toArray⟩)) rfl rfl rfl rfl ?_
    refine r_v (Value.string (⟨(prefix').toArray⟩)) rfl rfl rfl rfl ?_
    refine r_v (Value.int .i64 (((prefix').length : Int))) rfl rfl rfl (ev_lenS rfl rfl rfl) ?_
    replace hM := ck_some hM; obtain ⟨ck9, hM⟩ := hM
    refine r_v (Value.string (⟨((s).drop (((prefix').length : Int)).toNat).toArray⟩)) rfl rfl rfl (ev_v (ev_sliceS1 rfl ck9)) ?_
    refine r_v (Value.string (⟨((s).drop (((prefix').length : Int)).toNat).toArray⟩)) rfl rfl rfl rfl ?_
    refine r_v (Value.bool (true)) rfl rfl rfl rfl ?_
    refine lx_nil ?_
    refine hK8 _ _ ?_; try clear hK8 K8
    obtain rfl := Option.some.inj hM
    refine A_ret (fun hn => ends_eq (v0 := Value.tuple #[Value.string (⟨((s).drop (((prefix').length : Int)).toNat).toArray⟩), Value.bool (true)]) rfl (res2 rfl rfl))
def strings_CutPrefix_m (N : Nat) (s : List UInt8) (prefix' : List UInt8) : Option ((List UInt8) × Bool) := (internal_stringslite_CutPrefix_m N s prefix').bind fun r3 => some (r3.1, r3.2)
set_option maxRecDepth 100000 in
set_option maxHeartbeats 8000000 in
theorem strings_CutPrefix_g (N : Nat) (s : List UInt8) (prefix' : List UInt8) (r : (List UInt8) × Bool) (hM : strings_CutPrefix_m N s prefix' = some r) : Gives Try.prog 39 #[Value.string (⟨(s).toArray⟩), Value.string (⟨(prefix').toArray⟩)] (Value.tuple #[Value.string (⟨(r.1).toArray⟩), Value.bool (r.2)]) := by
  unfold strings_CutPrefix_m at hM
  refine gives_of_A follows Try.func39 rfl 11 rfl (upd (upd (fun _ => undef) 1 (Value.string (⟨(prefix').toArray⟩))) 0 (Value.string (⟨(s).toArray⟩))) (by funext k; match k with | 0 => rfl | 1 => rfl | k + 2 => rfl) (fun base0_ => ?_)
  refine A_seq fun K1 hK1 => ?_
  refine A_reg ?_
  refine r_v (Value.string (⟨#[]⟩)) rfl rfl rfl rfl ?_
  refine r_v (Value.bool (false)) rfl rfl rfl rfl ?_
  refine lx_nil ?_
  refine hK1 _ _ ?_; try clear hK1 K1
  refine A_seq fun K2 hK2 => ?_
  refine A_reg ?_
  refine r_v (Value.string (⟨(s).toArray⟩)) rfl rfl rfl rfl ?_
  refine r_v (Value.string (⟨(prefix').toArray⟩)) rfl rfl rfl rfl ?_
  replace hM := bind_sm hM; obtain ⟨r3, hr4, hM⟩ := hM
  refine r_c (Value.tuple #[Value.string (⟨(r3.1).toArray⟩), Value.bool (r3.2)]) rfl _ _ (ev_callF rfl call_55 rfl) (internal_stringslite_CutPrefix_g N s prefix' _ hr4) ?_
  refine r_v (Value.string (⟨(r3.1).toArray⟩)) rfl rfl rfl rfl ?_
  refine r_v (Value.bool (r3.2)) rfl rfl rfl rfl ?_
  refine r_v (Value.string (⟨(r3.1).toArray⟩)) rfl rfl rfl rfl ?_
  refine r_v (Value.bool (r3.2)) rfl rfl rfl rfl ?_
  refine lx_nil ?_
  refine hK2 _ _ ?_; try clear hK2 K2
  obtain rfl := Option.some.inj hM
  refine A_ret (fun hn => ends_eq (v0 := Value.tuple #[Value.string (⟨(r3.1).toArray⟩), Value.bool (r3.2)]) rfl (res2 rfl rfl))
def lex_numberOf_k3 (digits1_ : List UInt8) (base2_ : Int) : Option (Int × (List UInt8) × Int × Int × (BitVec 128) × Int × Int) := ck ((digits1_).length ≤ 4611686018427387904) (if ((parseR (digits1_) (base2_)).2 : Int) = 3 then some (0, [], 0, 0, (0#64) ++ (0#64), 0, 4) else if ((parseR (digits1_) (base2_)).2 : Int) ≠ 0 then some (0, [], 0, 0, (0#64) ++ (0#64), 0, (parseR (digits1_) (base2_)).2) else if (((len128 ((parseR (digits1_) (base2_)).1) : Nat) : Int) : Int) > 63 then some (0, [], 0, 0, (0#64) ++ (0#64), 0, 7) else ck ((((lo ((parseR (digits1_) (base2_)).1)).toNat : Nat) : Int) ≤ 9223372036854775807) (some (2, [], (((lo ((parseR (digits1_) (base2_)).1)).toNat : Nat) : Int), 0, (0#64) ++ (0#64), 0, 0)))
def lex_numberOf_m (N : Nat) (s : List UInt8) : Option (Int × (List UInt8) × Int × Int × (BitVec 128) × Int × Int) := (strings_ContainsRune_m N s 39).bind fun r5 => if (r5) = true then (lex_rowOf_m N s).bind fun r9 => some (r9.1, r9.2.1, r9.2.2.1, r9.2.2.2.1, r9.2.2.2.2.1, r9.2.2.2.2.2.1, r9.2.2.2.2.2.2) else (strings_CutPrefix_m N s ([48, 120] : List UInt8)).bind fun r28 => if (r28.2) = true then lex_numberOf_k3 (r28.1) (16) else lex_numberOf_k3 (s) (10)
set_option maxRecDepth 100000 in
set_option maxHeartbeats 8000000 in
theorem lex_numberOf_g (N : Nat) (s : List UInt8) (r : Int × (List UInt8) × Int × Int × (BitVec 128) × Int × Int) (hM : lex_numberOf_m N s = some r) : Gives Try.prog 27 #[Value.string (⟨(s).toArray⟩)] (Value.tuple #[Value.agg #[Value.int .i64 (r.1), Value.string (⟨(r.2.1).toArray⟩), Value.int .i64 (r.2.2.1), Value.int .i64 (r.2.2.2.1), U (hi (r.2.2.2.2.1)), U (lo (r.2.2.2.2.1)), Value.int .i64 (r.2.2.2.2.2.1)], Value.int .i64 (r.2.2.2.2.2.2)]) := by
  unfold lex_numberOf_m at hM
  refine gives_of_A follows Try.func27 rfl 48 rfl (upd (fun _ => undef) 0 (Value.string (⟨(s).toArray⟩))) (by funext k; match k with | 0 => rfl | k + 1 => rfl) (fun base0_ => ?_)
  refine A_seq fun K1 hK1 => ?_
  refine A_reg ?_
  refine r_a (40, #[Value.int .i64 (0), Value.string (⟨#[]⟩), Value.int .i64 (0), Value.int .i64 (0), U (0#64), U (0#64), Value.int .i64 (0)]) rfl rfl rfl (fun b2 => ?_) (.inr rfl)
  refine r_v (Value.int .i64 (0)) rfl rfl rfl rfl ?_
  refine lx_nil ?_
  refine hK1 _ _ ?_; try clear hK1 K1
  refine A_seq fun K3 hK3 => ?_
  refine A_seq fun K4 hK4 => ?_
  refine A_reg ?_
  refine r_v (Value.string (⟨(s).toArray⟩)) rfl rfl rfl rfl ?_
  replace hM := bind_sm hM; obtain ⟨r5, hr6, hM⟩ := hM
  refine r_c (Value.bool (r5)) rfl _ _ (ev_callF rfl call_21 rfl) (strings_ContainsRune_g N s 39 _ hr6) ?_
  refine lx_nil ?_
  refine hK4 _ _ ?_; try clear hK4 K4
  refine A_cond (r5) rfl (fun hc7 => ?_) (fun hc7 => ?_)
  · replace hM := ifp hc7 hM
    refine A_seq fun K8 hK8 => ?_
    refine A_reg ?_
    refine r_v (Value.string (⟨(s).toArray⟩)) rfl rfl rfl rfl ?_
    replace hM := bind_sm hM; obtain ⟨r9, hr10, hM⟩ := hM
    refine r_c (Value.tuple #[Value.agg #[Value.int .i64 (r9.1), Value.string (⟨(r9.2.1).toArray⟩), Value.int .i64 (r9.2.2.1), Value.int .i64 (r9.2.2.2.1), U (hi (r9.2.2.2.2.1)), U (lo (r9.2.2.2.2.1)), Value.int .i64 (r9.2.2.2.2.2.1)], Value.int .i64 (r9.2.2.2.2.2.2)]) rfl _ _ (ev_callF rfl call_38 rfl) (lex_rowOf_g N s _ hr10) ?_
    refine r_v (Value.agg #[Value.int .i64 (r9.1), Value.string (⟨(r9.2.1).toArray⟩), Value.int .i64 (r9.2.2.1), Value.int .i64 (r9.2.2.2.1), U (hi (r9.2.2.2.2.1)), U (lo (r9.2.2.2.2.1)), Value.int .i64 (r9.2.2.2.2.2.1)]) rfl rfl rfl rfl ?_
    refine r_v (Value.int .i64 (r9.2.2.2.2.2.2)) rfl rfl rfl rfl ?_
    refine r_s [(b2, 40, #[Value.int .i64 (r9.1), Value.string (⟨(r9.2.1).toArray⟩), Value.int .i64 (r9.2.2.1), Value.int .i64 (r9.2.2.2.1), U (hi (r9.2.2.2.2.1)), U (lo (r9.2.2.2.2.1)), Value.int .i64 (r9.2.2.2.2.2.1)])] 0 _ _ _ (#[Value.int .i64 (0), Value.string (⟨#[]⟩), Value.int .i64 (0), Value.int .i64 (0), U (0#64), U (0#64), Value.int .i64 (0)]) (#[Value.int .i64 (r9.1), Value.string (⟨(r9.2.1).toArray⟩), Value.int .i64 (r9.2.2.1), Value.int .i64 (r9.2.2.2.1), U (hi (r9.2.2.2.2.1)), U (lo (r9.2.2.2.2.1)), Value.int .i64 (r9.2.2.2.2.2.1)]) (#[Value.int .i64 (r9.1), Value.string (⟨(r9.2.1).toArray⟩), Value.int .i64 (r9.2.2.1), Value.int .i64 (r9.2.2.2.1), U (hi (r9.2.2.2.2.1)), U (lo (r9.2.2.2.2.1)), Value.int .i64 (r9.2.2.2.2.2.1)]) rfl rfl rfl rfl (.of rfl rfl) rfl rfl ?_
    refine r_v (Value.int .i64 (r9.2.2.2.2.2.2)) rfl rfl rfl rfl ?_
    refine lx_nil ?_
    refine hK8 _ _ ?_; try clear hK8 K8
    obtain rfl := Option.some.inj hM
    refine A_ret (fun hn => ends_eq (v0 := Value.tuple #[Value.agg #[Value.int .i64 (r9.1), Value.string (⟨(r9.2.1).toArray⟩), Value.int .i64 (r9.2.2.1), Value.int .i64 (r9.2.2.2.1), U (hi (r9.2.2.2.2.1)), U (lo (r9.2.2.2.2.1)), Value.int .i64 (r9.2.2.2.2.2.1)], Value.int .i64 (r9.2.2.2.2.2.2)]) rfl (res2 (res_cell hn 0 rfl rfl rfl) rfl))
  · replace hM := ifn (Bool.eq_false_iff.1 hc7) hM
    refine A_skip ?_
    refine hK3 _ _ ?_; try clear hK3 K3
    refine A_seq fun K11 hK11 => ?_
    refine A_reg ?_
    refine r_v (Value.string (⟨(s).toArray⟩)) rfl rfl rfl rfl ?_
    refine r_v (Value.string (⟨(s).toArray⟩)) rfl rfl rfl rfl ?_
    refine r_v (Value.int .i64 (10)) rfl rfl rfl rfl ?_
    refine lx_nil ?_
    refine hK11 _ _ ?_; try clear hK11 K11
    refine A_cut (fun tt ll => ∃ (digits1_ : List UInt8) (base2_ : Int), (lex_numberOf_k3 digits1_ base2_ = some r) ∧ Is [(2, Value.pointer (some ⟨b2, 0, none⟩)), (4, Value.string (⟨(digits1_).toArray⟩)), (5, Value.int .i64 (base2_))] [(b2, 40, #[Value.int .i64 (0), Value.string (⟨#[]⟩), Value.int .i64 (0), Value.int .i64 (0), U (0#64), U (0#64), Value.int .i64 (0)])] tt ll) ?_ ?_
    · refine A_seq fun K27 hK27 => ?_
      refine A_reg ?_
      refine r_v (Value.string (⟨(s).toArray⟩)) rfl rfl rfl rfl ?_
      replace hM := bind_sm hM; obtain ⟨r28, hr29, hM⟩ := hM
      refine r_c (Value.tuple #[Value.string (⟨(r28.1).toArray⟩), Value.bool (r28.2)]) rfl _ _ (ev_callF rfl call_39 rfl) (strings_CutPrefix_g N s ([48, 120] : List UInt8) _ hr29) ?_
      refine r_v (Value.tuple #[Value.string (⟨(r28.1).toArray⟩), Value.bool (r28.2)]) rfl rfl rfl rfl ?_
      refine r_v (Value.string (⟨(r28.1).toArray⟩)) rfl rfl rfl rfl ?_
      refine r_v (Value.bool (r28.2)) rfl rfl rfl rfl ?_
      refine r_v (Value.string (⟨(r28.1).toArray⟩)) rfl rfl rfl rfl ?_
      refine r_v (Value.bool (r28.2)) rfl rfl rfl rfl ?_
      refine lx_nil ?_
      refine hK27 _ _ ?_; try clear hK27 K27
      refine A_seq fun K30 hK30 => ?_
      refine A_reg ?_
      refine r_v (Value.bool (r28.2)) rfl rfl rfl rfl ?_
      refine lx_nil ?_
      refine hK30 _ _ ?_; try clear hK30 K30
      refine A_cond (r28.2) rfl (fun hc31 => ?_) (fun hc31 => ?_)
      · replace hM := ifp hc31 hM
        refine A_reg ?_
        refine r_v (Value.string (⟨(r28.1).toArray⟩)) rfl rfl rfl rfl ?_
        refine r_v (Value.string (⟨(r28.1).toArray⟩)) rfl rfl rfl rfl ?_
        refine r_v (Value.int .i64 (16)) rfl rfl rfl rfl ?_
        refine lx_nil ?_
        refine fg _ (Sub.of (List.Sublist.cons_cons _ (List.Sublist.slnil))) ?_
        exact ⟨r28.1, 16, hM, is_mk rfl (by first | rfl | simp only [app_hl])⟩
      · replace hM := ifn (Bool.eq_false_iff.1 hc31) hM
        refine A_skip ?_
        refine fg _ (Sub.of (List.Sublist.cons_cons _ (List.Sublist.slnil))) ?_
        exact ⟨s, 10, hM, is_mk rfl (by first | rfl | simp only [app_hl])⟩
    · clear hM; rintro t l ⟨digits1_, base2_, hM, ⟨T, rfl⟩, rfl⟩
      unfold lex_numberOf_k3 at hM
      refine A_seq fun K12 hK12 => ?_
      refine A_reg ?_
      refine r_v (Value.string (⟨(digits1_).toArray⟩)) rfl rfl rfl rfl ?_
      refine r_v (Value.int .i64 (base2_)) rfl rfl rfl rfl ?_
      replace hM := ck_some hM; obtain ⟨ck13, hM⟩ := hM
      refine r_c (Value.tuple #[Value.agg #[U (hi ((parseR (digits1_) (base2_)).1)), U (lo ((parseR (digits1_) (base2_)).1))], Value.int .i64 ((parseR (digits1_) (base2_)).2)]) rfl _ _ (ev_callF rfl call_40 rfl) (parse_t (digits1_) (base2_) ck13) ?_
      refine r_v (Value.tuple #[Value.agg #[U (hi ((parseR (digits1_) (base2_)).1)), U (lo ((parseR (digits1_) (base2_)).1))], Value.int .i64 ((parseR (digits1_) (base2_)).2)]) rfl rfl rfl rfl ?_
      refine r_v (Value.agg #[U (hi ((parseR (digits1_) (base2_)).1)), U (lo ((parseR (digits1_) (base2_)).1))]) rfl rfl rfl rfl ?_
      refine r_v (Value.int .i64 ((parseR (digits1_) (base2_)).2)) rfl rfl rfl rfl ?_
      refine r_a (81, #[U (0#64), U (0#64)]) rfl rfl rfl (fun b14 => ?_) (.inr rfl)
      refine r_s [(b14, 81, #[U (hi ((parseR (digits1_) (base2_)).1)), U (lo ((parseR (digits1_) (base2_)).1))]), (b2, 40, #[Value.int .i64 (0), Value.string (⟨#[]⟩), Value.int .i64 (0), Value.int .i64 (0), U (0#64), U (0#64), Value.int .i64 (0)])] 0 _ _ _ (#[U (0#64), U (0#64)]) (#[U (hi ((parseR (digits1_) (base2_)).1)), U (lo ((parseR (digits1_) (base2_)).1))]) (#[U (hi ((parseR (digits1_) (base2_)).1)), U (lo ((parseR (digits1_) (base2_)).1))]) rfl rfl rfl rfl (.of rfl rfl) rfl rfl ?_
      refine r_v (Value.int .i64 ((parseR (digits1_) (base2_)).2)) rfl rfl rfl rfl ?_
      refine lx_nil ?_
      refine hK12 _ _ ?_; try clear hK12 K12
      refine A_seq fun K15 hK15 => ?_
      refine A_block ?_
      refine A_seq fun K16 hK16 => ?_
      refine A_reg ?_
      refine r_v (Value.int .i64 ((parseR (digits1_) (base2_)).2)) rfl rfl rfl rfl ?_
      refine r_v (Value.bool ((((parseR (digits1_) (base2_)).2 : Int) == 3))) rfl rfl rfl rfl ?_
      refine r_v (Value.bool ((((parseR (digits1_) (base2_)).2 : Int) == 3))) rfl rfl rfl rfl ?_
      refine lx_nil ?_
      refine hK16 _ _ ?_; try clear hK16 K16
      refine A_cond ((((parseR (digits1_) (base2_)).2 : Int) == 3)) rfl (fun hc17 => ?_) (fun hc17 => ?_)
      · replace hM := ifp (eq_of_beq hc17) hM
        refine A_seq fun K18 hK18 => ?_
        refine A_reg ?_
        refine r_v (Value.agg #[Value.int .i64 (0), Value.string (⟨#[]⟩), Value.int .i64 (0), Value.int .i64 (0), U (0#64), U (0#64), Value.int .i64 (0)]) rfl rfl rfl (ev_buildS rfl rfl rfl rfl) ?_
        refine r_s [(b14, 81, #[U (hi ((parseR (digits1_) (base2_)).1)), U (lo ((parseR (digits1_) (base2_)).1))]), (b2, 40, #[Value.int .i64 (0), Value.string (⟨#[]⟩), Value.int .i64 (0), Value.int .i64 (0), U (0#64), U (0#64), Value.int .i64 (0)])] 1 _ _ _ (#[Value.int .i64 (0), Value.string (⟨#[]⟩), Value.int .i64 (0), Value.int .i64 (0), U (0#64), U (0#64), Value.int .i64 (0)]) (#[Value.int .i64 (0), Value.string (⟨#[]⟩), Value.int .i64 (0), Value.int .i64 (0), U (0#64), U (0#64), Value.int .i64 (0)]) (#[Value.int .i64 (0), Value.string (⟨#[]⟩), Value.int .i64 (0), Value.int .i64 (0), U (0#64), U (0#64), Value.int .i64 (0)]) rfl rfl rfl rfl (.of rfl rfl) rfl rfl ?_
        refine r_v (Value.int .i64 (4)) rfl rfl rfl rfl ?_
        refine lx_nil ?_
        refine hK18 _ _ ?_; try clear hK18 K18
        obtain rfl := Option.some.inj hM
        refine A_ret (fun hn => ends_eq (v0 := Value.tuple #[Value.agg #[Value.int .i64 (0), Value.string (⟨#[]⟩), Value.int .i64 (0), Value.int .i64 (0), U (0#64), U (0#64), Value.int .i64 (0)], Value.int .i64 (4)]) (by first | rfl | (simp only [app_hl]; done) | simp only [app_hl]) (res2 (res_cell hn 1 rfl rfl rfl) rfl))
      · replace hM := ifn (ne_of_beq_false hc17) hM
        refine A_seq fun K19 hK19 => ?_
        refine A_reg ?_
        refine r_v (Value.int .i64 ((parseR (digits1_) (base2_)).2)) rfl rfl rfl rfl ?_
        refine r_v (Value.bool ((((parseR (digits1_) (base2_)).2 : Int) != 0))) rfl rfl rfl rfl ?_
        refine r_v (Value.bool ((((parseR (digits1_) (base2_)).2 : Int) != 0))) rfl rfl rfl rfl ?_
        refine lx_nil ?_
        refine hK19 _ _ ?_; try clear hK19 K19
        refine A_cond ((((parseR (digits1_) (base2_)).2 : Int) != 0)) rfl (fun hc20 => ?_) (fun hc20 => ?_)
        · replace hM := ifp (bne_iff_ne.1 hc20) hM
          refine A_seq fun K21 hK21 => ?_
          refine A_reg ?_
          refine r_v (Value.agg #[Value.int .i64 (0), Value.string (⟨#[]⟩), Value.int .i64 (0), Value.int .i64 (0), U (0#64), U (0#64), Value.int .i64 (0)]) rfl rfl rfl (ev_buildS rfl rfl rfl rfl) ?_
          refine r_v (Value.int .i64 ((parseR (digits1_) (base2_)).2)) rfl rfl rfl rfl ?_
          refine r_s [(b14, 81, #[U (hi ((parseR (digits1_) (base2_)).1)), U (lo ((parseR (digits1_) (base2_)).1))]), (b2, 40, #[Value.int .i64 (0), Value.string (⟨#[]⟩), Value.int .i64 (0), Value.int .i64 (0), U (0#64), U (0#64), Value.int .i64 (0)])] 1 _ _ _ (#[Value.int .i64 (0), Value.string (⟨#[]⟩), Value.int .i64 (0), Value.int .i64 (0), U (0#64), U (0#64), Value.int .i64 (0)]) (#[Value.int .i64 (0), Value.string (⟨#[]⟩), Value.int .i64 (0), Value.int .i64 (0), U (0#64), U (0#64), Value.int .i64 (0)]) (#[Value.int .i64 (0), Value.string (⟨#[]⟩), Value.int .i64 (0), Value.int .i64 (0), U (0#64), U (0#64), Value.int .i64 (0)]) rfl rfl rfl rfl (.of rfl rfl) rfl rfl ?_
          refine r_v (Value.int .i64 ((parseR (digits1_) (base2_)).2)) rfl rfl rfl rfl ?_
          refine lx_nil ?_
          refine hK21 _ _ ?_; try clear hK21 K21
          obtain rfl := Option.some.inj hM
          refine A_ret (fun hn => ends_eq (v0 := Value.tuple #[Value.agg #[Value.int .i64 (0), Value.string (⟨#[]⟩), Value.int .i64 (0), Value.int .i64 (0), U (0#64), U (0#64), Value.int .i64 (0)], Value.int .i64 ((parseR (digits1_) (base2_)).2)]) (by first | rfl | (simp only [app_hl]; done) | simp only [app_hl]) (res2 (res_cell hn 1 rfl rfl rfl) rfl))
        · replace hM := ifn (bne_f hc20) hM
          refine A_seq fun K22 hK22 => ?_
          refine A_reg ?_
          refine r_l (Value.agg #[U (hi ((parseR (digits1_) (base2_)).1)), U (lo ((parseR (digits1_) (base2_)).1))]) 0 _ _ _ _ rfl rfl rfl rfl rfl ?_
          refine r_c (Value.int .i64 (((len128 ((parseR (digits1_) (base2_)).1) : Nat) : Int))) rfl _ _ (ev_callF rfl call_41 rfl) (len_g ((parseR (digits1_) (base2_)).1)) ?_
          refine r_v (Value.bool (decide ((((len128 ((parseR (digits1_) (base2_)).1) : Nat) : Int) : Int) > 63))) rfl rfl rfl rfl ?_
          refine r_v (Value.bool (decide ((((len128 ((parseR (digits1_) (base2_)).1) : Nat) : Int) : Int) > 63))) rfl rfl rfl rfl ?_
          refine lx_nil ?_
          refine hK22 _ _ ?_; try clear hK22 K22
          refine A_cond (decide ((((len128 ((parseR (digits1_) (base2_)).1) : Nat) : Int) : Int) > 63)) rfl (fun hc23 => ?_) (fun hc23 => ?_)
          · replace hM := ifp (of_decide_eq_true hc23) hM
            refine A_seq fun K24 hK24 => ?_
            refine A_reg ?_
            refine r_v (Value.agg #[Value.int .i64 (0), Value.string (⟨#[]⟩), Value.int .i64 (0), Value.int .i64 (0), U (0#64), U (0#64), Value.int .i64 (0)]) rfl rfl rfl (ev_buildS rfl rfl rfl rfl) ?_
            refine r_s [(b14, 81, #[U (hi ((parseR (digits1_) (base2_)).1)), U (lo ((parseR (digits1_) (base2_)).1))]), (b2, 40, #[Value.int .i64 (0), Value.string (⟨#[]⟩), Value.int .i64 (0), Value.int .i64 (0), U (0#64), U (0#64), Value.int .i64 (0)])] 1 _ _ _ (#[Value.int .i64 (0), Value.string (⟨#[]⟩), Value.int .i64 (0), Value.int .i64 (0), U (0#64), U (0#64), Value.int .i64 (0)]) (#[Value.int .i64 (0), Value.string (⟨#[]⟩), Value.int .i64 (0), Value.int .i64 (0), U (0#64), U (0#64), Value.int .i64 (0)]) (#[Value.int .i64 (0), Value.string (⟨#[]⟩), Value.int .i64 (0), Value.int .i64 (0), U (0#64), U (0#64), Value.int .i64 (0)]) rfl rfl rfl rfl (.of rfl rfl) rfl rfl ?_
            refine r_v (Value.int .i64 (7)) rfl rfl rfl rfl ?_
            refine lx_nil ?_
            refine hK24 _ _ ?_; try clear hK24 K24
            obtain rfl := Option.some.inj hM
            refine A_ret (fun hn => ends_eq (v0 := Value.tuple #[Value.agg #[Value.int .i64 (0), Value.string (⟨#[]⟩), Value.int .i64 (0), Value.int .i64 (0), U (0#64), U (0#64), Value.int .i64 (0)], Value.int .i64 (7)]) (by first | rfl | (simp only [app_hl]; done) | simp only [app_hl]) (res2 (res_cell hn 1 rfl rfl rfl) rfl))
          · replace hM := ifn (of_decide_eq_false hc23) hM
            refine A_skip ?_
            refine hK15 _ _ ?_; try clear hK15 K15
            refine A_seq fun K25 hK25 => ?_
            refine A_reg ?_
            refine r_v (Value.pointer (some ⟨b14, 1, none⟩)) rfl rfl rfl rfl ?_
            refine r_l (U (lo ((parseR (digits1_) (base2_)).1))) 0 _ _ _ _ rfl rfl rfl rfl rfl ?_
            replace hM := ck_some hM; obtain ⟨ck26, hM⟩ := hM
            refine r_w (Value.int .i64 ((((lo ((parseR (digits1_) (base2_)).1)).toNat : Nat) : Int))) rfl rfl (wi64 rfl (by omega) ck26) (fun _ => rfl) ?_
            refine r_v (Value.agg #[Value.int .i64 (2), Value.string (⟨#[]⟩), Value.int .i64 ((((lo ((parseR (digits1_) (base2_)).1)).toNat : Nat) : Int)), Value.int .i64 (0), U (0#64), U (0#64), Value.int .i64 (0)]) rfl rfl rfl (ev_buildS rfl rfl rfl rfl) ?_
            refine r_s [(b14, 81, #[U (hi ((parseR (digits1_) (base2_)).1)), U (lo ((parseR (digits1_) (base2_)).1))]), (b2, 40, #[Value.int .i64 (2), Value.string (⟨#[]⟩), Value.int .i64 ((((lo ((parseR (digits1_) (base2_)).1)).toNat : Nat) : Int)), Value.int .i64 (0), U (0#64), U (0#64), Value.int .i64 (0)])] 1 _ _ _ (#[Value.int .i64 (0), Value.string (⟨#[]⟩), Value.int .i64 (0), Value.int .i64 (0), U (0#64), U (0#64), Value.int .i64 (0)]) (#[Value.int .i64 (2), Value.string (⟨#[]⟩), Value.int .i64 ((((lo ((parseR (digits1_) (base2_)).1)).toNat : Nat) : Int)), Value.int .i64 (0), U (0#64), U (0#64), Value.int .i64 (0)]) (#[Value.int .i64 (2), Value.string (⟨#[]⟩), Value.int .i64 ((((lo ((parseR (digits1_) (base2_)).1)).toNat : Nat) : Int)), Value.int .i64 (0), U (0#64), U (0#64), Value.int .i64 (0)]) rfl rfl rfl rfl (.of rfl rfl) rfl rfl ?_
            refine r_v (Value.int .i64 (0)) rfl rfl rfl rfl ?_
            refine lx_nil ?_
            refine hK25 _ _ ?_; try clear hK25 K25
            obtain rfl := Option.some.inj hM
            refine A_ret (fun hn => ends_eq (v0 := Value.tuple #[Value.agg #[Value.int .i64 (2), Value.string (⟨#[]⟩), Value.int .i64 ((((lo ((parseR (digits1_) (base2_)).1)).toNat : Nat) : Int)), Value.int .i64 (0), U (0#64), U (0#64), Value.int .i64 (0)], Value.int .i64 (0)]) (by first | rfl | (simp only [app_hl]; done) | simp only [app_hl]) (res2 (res_cell hn 1 rfl rfl rfl) rfl))
def lex_first_m (N : Nat) (c : Int) (s : List UInt8) : Option (Int × (List UInt8) × Int × Int × (BitVec 128) × Int × Int × Int) := (strings_ContainsRune_m N ([123, 125, 40, 41, 91, 93, 59, 58, 44, 61, 47, 38] : List UInt8) c).bind fun r5 => if (r5) = true then some (0, (runeB c), 0, 0, (0#64) ++ (0#64), 0, 1, 0) else (name_Letter_m N c).bind fun r10 => if (r10) = true then (lex_run_v2_m N s).bind fun r14 => ck (0 ≤ r14 ∧ r14 ≤ ((s).length : Int)) ((lex_wordOf_m N ((s).take (r14).toNat)).bind fun r18 => some (r18.1, r18.2.1, r18.2.2.1, r18.2.2.2.1, r18.2.2.2.2.1, r18.2.2.2.2.2.1, r14, r18.2.2.2.2.2.2)) else (name_Digit_m N c).bind fun r23 => if (r23) = true then (lex_run_v3_m N s).bind fun r27 => ck (0 ≤ r27 ∧ r27 ≤ ((s).length : Int)) ((lex_numberOf_m N ((s).take (r27).toNat)).bind fun r31 => some (r31.1, r31.2.1, r31.2.2.1, r31.2.2.2.1, r31.2.2.2.2.1, r31.2.2.2.2.2.1, r27, r31.2.2.2.2.2.2)) else some (0, [], 0, 0, (0#64) ++ (0#64), 0, 0, 4)
set_option maxRecDepth 100000 in
set_option maxHeartbeats 8000000 in
theorem lex_first_g (N : Nat) (c : Int) (s : List UInt8) (r : Int × (List UInt8) × Int × Int × (BitVec 128) × Int × Int × Int) (hM : lex_first_m N c s = some r) : Gives Try.prog 13 #[Value.int .i32 (c), Value.string (⟨(s).toArray⟩)] (Value.tuple #[Value.agg #[Value.int .i64 (r.1), Value.string (⟨(r.2.1).toArray⟩), Value.int .i64 (r.2.2.1), Value.int .i64 (r.2.2.2.1), U (hi (r.2.2.2.2.1)), U (lo (r.2.2.2.2.1)), Value.int .i64 (r.2.2.2.2.2.1)], Value.int .i64 (r.2.2.2.2.2.2.1), Value.int .i64 (r.2.2.2.2.2.2.2)]) := by
  unfold lex_first_m at hM
  refine gives_of_A follows Try.func13 rfl 50 rfl (upd (upd (fun _ => undef) 1 (Value.string (⟨(s).toArray⟩))) 0 (Value.int .i32 (c))) (by funext k; match k with | 0 => rfl | 1 => rfl | k + 2 => rfl) (fun base0_ => ?_)
  refine A_seq fun K1 hK1 => ?_
  refine A_reg ?_
  refine r_a (40, #[Value.int .i64 (0), Value.string (⟨#[]⟩), Value.int .i64 (0), Value.int .i64 (0), U (0#64), U (0#64), Value.int .i64 (0)]) rfl rfl rfl (fun b2 => ?_) (.inr rfl)
  refine r_v (Value.int .i64 (0)) rfl rfl rfl rfl ?_
  refine r_v (Value.int .i64 (0)) rfl rfl rfl rfl ?_
  refine lx_nil ?_
  refine hK1 _ _ ?_; try clear hK1 K1
  refine A_seq fun K3 hK3 => ?_
  refine A_block ?_
  refine A_seq fun K4 hK4 => ?_
  refine A_reg ?_
  refine r_v (Value.int .i32 (c)) rfl rfl rfl rfl ?_
  replace hM := bind_sm hM; obtain ⟨r5, hr6, hM⟩ := hM
  refine r_c (Value.bool (r5)) rfl _ _ (ev_callF rfl call_21 rfl) (strings_ContainsRune_g N ([123, 125, 40, 41, 91, 93, 59, 58, 44, 61, 47, 38] : List UInt8) c _ hr6) ?_
  refine r_v (Value.bool (r5)) rfl rfl rfl rfl ?_
  refine lx_nil ?_
  refine hK4 _ _ ?_; try clear hK4 K4
  refine A_cond (r5) rfl (fun hc7 => ?_) (fun hc7 => ?_)
  · replace hM := ifp hc7 hM
    refine A_seq fun K8 hK8 => ?_
    refine A_reg ?_
    refine r_v (Value.int .i32 (c)) rfl rfl rfl rfl ?_
    refine r_w (Value.string (⟨((runeB c)).toArray⟩)) rfl rfl rfl (fun _ => (ev_v (ev_convIS rfl rfl))) ?_
    refine r_v (Value.agg #[Value.int .i64 (0), Value.string (⟨((runeB c)).toArray⟩), Value.int .i64 (0), Value.int .i64 (0), U (0#64), U (0#64), Value.int .i64 (0)]) rfl rfl rfl (ev_buildS rfl rfl rfl rfl) ?_
    refine r_s [(b2, 40, #[Value.int .i64 (0), Value.string (⟨((runeB c)).toArray⟩), Value.int .i64 (0), Value.int .i64 (0), U (0#64), U (0#64), Value.int .i64 (0)])] 0 _ _ _ (#[Value.int .i64 (0), Value.string (⟨#[]⟩), Value.int .i64 (0), Value.int .i64 (0), U (0#64), U (0#64), Value.int .i64 (0)]) (#[Value.int .i64 (0), Value.string (⟨((runeB c)).toArray⟩), Value.int .i64 (0), Value.int .i64 (0), U (0#64), U (0#64), Value.int .i64 (0)]) (#[Value.int .i64 (0), Value.string (⟨((runeB c)).toArray⟩), Value.int .i64 (0), Value.int .i64 (0), U (0#64), U (0#64), Value.int .i64 (0)]) rfl rfl rfl rfl (.of rfl rfl) rfl rfl ?_
    refine r_v (Value.int .i64 (1)) rfl rfl rfl rfl ?_
    refine r_v (Value.int .i64 (0)) rfl rfl rfl rfl ?_
    refine lx_nil ?_
    refine hK8 _ _ ?_; try clear hK8 K8
    obtain rfl := Option.some.inj hM
    refine A_ret (fun hn => ends_eq (v0 := Value.tuple #[Value.agg #[Value.int .i64 (0), Value.string (⟨((runeB c)).toArray⟩), Value.int .i64 (0), Value.int .i64 (0), U (0#64), U (0#64), Value.int .i64 (0)], Value.int .i64 (1), Value.int .i64 (0)]) (by first | rfl | (simp only [app_hl]; done) | simp only [app_hl]) (res3 (res_cell hn 0 rfl rfl rfl) rfl rfl))
  · replace hM := ifn (Bool.eq_false_iff.1 hc7) hM
    refine A_seq fun K9 hK9 => ?_
    refine A_reg ?_
    refine r_v (Value.int .i32 (c)) rfl rfl rfl rfl ?_
    replace hM := bind_sm hM; obtain ⟨r10, hr11, hM⟩ := hM
    refine r_c (Value.bool (r10)) rfl _ _ (ev_callF rfl call_22 rfl) (name_Letter_g N c _ hr11) ?_
    refine r_v (Value.bool (r10)) rfl rfl rfl rfl ?_
    refine lx_nil ?_
    refine hK9 _ _ ?_; try clear hK9 K9
    refine A_cond (r10) rfl (fun hc12 => ?_) (fun hc12 => ?_)
    · replace hM := ifp hc12 hM
      refine A_seq fun K13 hK13 => ?_
      refine A_reg ?_
      refine r_v (Value.string (⟨(s).toArray⟩)) rfl rfl rfl rfl ?_
      replace hM := bind_sm hM; obtain ⟨r14, hr15, hM⟩ := hM
      refine r_c (Value.int .i64 (r14)) rfl _ _ (ev_callF rfl call_11 rfl) (lex_run_v2_g N s _ hr15) ?_
      refine r_v (Value.int .i64 (r14)) rfl rfl rfl rfl ?_
      refine lx_nil ?_
      refine hK13 _ _ ?_; try clear hK13 K13
      refine A_seq fun K16 hK16 => ?_
      refine A_reg ?_
      refine r_v (Value.string (⟨(s).toArray⟩)) rfl rfl rfl rfl ?_
      refine r_v (Value.int .i64 (r14)) rfl rfl rfl rfl ?_
      replace hM := ck_some hM; obtain ⟨ck17, hM⟩ := hM
      refine r_v (Value.string (⟨((s).take (r14).toNat).toArray⟩)) rfl rfl rfl (ev_v (ev_sliceS2 rfl ck17)) ?_
      replace hM := bind_sm hM; obtain ⟨r18, hr19, hM⟩ := hM
      refine r_c (Value.tuple #[Value.agg #[Value.int .i64 (r18.1), Value.string (⟨(r18.2.1).toArray⟩), Value.int .i64 (r18.2.2.1), Value.int .i64 (r18.2.2.2.1), U (hi (r18.2.2.2.2.1)), U (lo (r18.2.2.2.2.1)), Value.int .i64 (r18.2.2.2.2.2.1)], Value.int .i64 (r18.2.2.2.2.2.2)]) rfl _ _ (ev_callF rfl call_24 rfl) (lex_wordOf_g N ((s).take (r14).toNat) _ hr19) ?_
      refine r_v (Value.tuple #[Value.agg #[Value.int .i64 (r18.1), Value.string (⟨(r18.2.1).toArray⟩), Value.int .i64 (r18.2.2.1), Value.int .i64 (r18.2.2.2.1), U (hi (r18.2.2.2.2.1)), U (lo (r18.2.2.2.2.1)), Value.int .i64 (r18.2.2.2.2.2.1)], Value.int .i64 (r18.2.2.2.2.2.2)]) rfl rfl rfl rfl ?_
      refine r_v (Value.agg #[Value.int .i64 (r18.1), Value.string (⟨(r18.2.1).toArray⟩), Value.int .i64 (r18.2.2.1), Value.int .i64 (r18.2.2.2.1), U (hi (r18.2.2.2.2.1)), U (lo (r18.2.2.2.2.1)), Value.int .i64 (r18.2.2.2.2.2.1)]) rfl rfl rfl rfl ?_
      refine r_v (Value.int .i64 (r18.2.2.2.2.2.2)) rfl rfl rfl rfl ?_
      refine r_a (40, #[Value.int .i64 (0), Value.string (⟨#[]⟩), Value.int .i64 (0), Value.int .i64 (0), U (0#64), U (0#64), Value.int .i64 (0)]) rfl rfl rfl (fun b20 => ?_) (.inr rfl)
      refine r_s [(b20, 40, #[Value.int .i64 (r18.1), Value.string (⟨(r18.2.1).toArray⟩), Value.int .i64 (r18.2.2.1), Value.int .i64 (r18.2.2.2.1), U (hi (r18.2.2.2.2.1)), U (lo (r18.2.2.2.2.1)), Value.int .i64 (r18.2.2.2.2.2.1)]), (b2, 40, #[Value.int .i64 (0), Value.string (⟨#[]⟩), Value.int .i64 (0), Value.int .i64 (0), U (0#64), U (0#64), Value.int .i64 (0)])] 0 _ _ _ (#[Value.int .i64 (0), Value.string (⟨#[]⟩), Value.int .i64 (0), Value.int .i64 (0), U (0#64), U (0#64), Value.int .i64 (0)]) (#[Value.int .i64 (r18.1), Value.string (⟨(r18.2.1).toArray⟩), Value.int .i64 (r18.2.2.1), Value.int .i64 (r18.2.2.2.1), U (hi (r18.2.2.2.2.1)), U (lo (r18.2.2.2.2.1)), Value.int .i64 (r18.2.2.2.2.2.1)]) (#[Value.int .i64 (r18.1), Value.string (⟨(r18.2.1).toArray⟩), Value.int .i64 (r18.2.2.1), Value.int .i64 (r18.2.2.2.1), U (hi (r18.2.2.2.2.1)), U (lo (r18.2.2.2.2.1)), Value.int .i64 (r18.2.2.2.2.2.1)]) rfl rfl rfl rfl (.of rfl rfl) rfl rfl ?_
      refine r_v (Value.int .i64 (r18.2.2.2.2.2.2)) rfl rfl rfl rfl ?_
      refine lx_nil ?_
      refine hK16 _ _ ?_; try clear hK16 K16
      refine A_seq fun K21 hK21 => ?_
      refine A_reg ?_
      refine r_l (Value.agg #[Value.int .i64 (r18.1), Value.string (⟨(r18.2.1).toArray⟩), Value.int .i64 (r18.2.2.1), Value.int .i64 (r18.2.2.2.1), U (hi (r18.2.2.2.2.1)), U (lo (r18.2.2.2.2.1)), Value.int .i64 (r18.2.2.2.2.2.1)]) 0 _ _ _ _ rfl rfl rfl rfl rfl ?_
      refine r_v (Value.int .i64 (r14)) rfl rfl rfl rfl ?_
      refine r_v (Value.int .i64 (r18.2.2.2.2.2.2)) rfl rfl rfl rfl ?_
      refine r_s [(b20, 40, #[Value.int .i64 (r18.1), Value.string (⟨(r18.2.1).toArray⟩), Value.int .i64 (r18.2.2.1), Value.int .i64 (r18.2.2.2.1), U (hi (r18.2.2.2.2.1)), U (lo (r18.2.2.2.2.1)), Value.int .i64 (r18.2.2.2.2.2.1)]), (b2, 40, #[Value.int .i64 (r18.1), Value.string (⟨(r18.2.1).toArray⟩), Value.int .i64 (r18.2.2.1), Value.int .i64 (r18.2.2.2.1), U (hi (r18.2.2.2.2.1)), U (lo (r18.2.2.2.2.1)), Value.int .i64 (r18.2.2.2.2.2.1)])] 1 _ _ _ (#[Value.int .i64 (0), Value.string (⟨#[]⟩), Value.int .i64 (0), Value.int .i64 (0), U (0#64), U (0#64), Value.int .i64 (0)]) (#[Value.int .i64 (r18.1), Value.string (⟨(r18.2.1).toArray⟩), Value.int .i64 (r18.2.2.1), Value.int .i64 (r18.2.2.2.1), U (hi (r18.2.2.2.2.1)), U (lo (r18.2.2.2.2.1)), Value.int .i64 (r18.2.2.2.2.2.1)]) (#[Value.int .i64 (r18.1), Value.string (⟨(r18.2.1).toArray⟩), Value.int .i64 (r18.2.2.1), Value.int .i64 (r18.2.2.2.1), U (hi (r18.2.2.2.2.1)), U (lo (r18.2.2.2.2.1)), Value.int .i64 (r18.2.2.2.2.2.1)]) rfl rfl rfl rfl (.of rfl rfl) rfl rfl ?_
      refine r_v (Value.int .i64 (r14)) rfl rfl rfl rfl ?_
      refine r_v (Value.int .i64 (r18.2.2.2.2.2.2)) rfl rfl rfl rfl ?_
      refine lx_nil ?_
      refine hK21 _ _ ?_; try clear hK21 K21
      obtain rfl := Option.some.inj hM
      refine A_ret (fun hn => ends_eq (v0 := Value.tuple #[Value.agg #[Value.int .i64 (r18.1), Value.string (⟨(r18.2.1).toArray⟩), Value.int .i64 (r18.2.2.1), Value.int .i64 (r18.2.2.2.1), U (hi (r18.2.2.2.2.1)), U (lo (r18.2.2.2.2.1)), Value.int .i64 (r18.2.2.2.2.2.1)], Value.int .i64 (r14), Value.int .i64 (r18.2.2.2.2.2.2)]) rfl (res3 (res_cell hn 1 rfl rfl rfl) rfl rfl))
    · replace hM := ifn (Bool.eq_false_iff.1 hc12) hM
      refine A_seq fun K22 hK22 => ?_
      refine A_reg ?_
      refine r_v (Value.int .i32 (c)) rfl rfl rfl rfl ?_
      replace hM := bind_sm hM; obtain ⟨r23, hr24, hM⟩ := hM
      refine r_c (Value.bool (r23)) rfl _ _ (ev_callF rfl call_25 rfl) (name_Digit_g N c _ hr24) ?_
      refine r_v (Value.bool (r23)) rfl rfl rfl rfl ?_
      refine lx_nil ?_
      refine hK22 _ _ ?_; try clear hK22 K22
      refine A_cond (r23) rfl (fun hc25 => ?_) (fun hc25 => ?_)
      · replace hM := ifp hc25 hM
        refine A_seq fun K26 hK26 => ?_
        refine A_reg ?_
        refine r_v (Value.string (⟨(s).toArray⟩)) rfl rfl rfl rfl ?_
        replace hM := bind_sm hM; obtain ⟨r27, hr28, hM⟩ := hM
        refine r_c (Value.int .i64 (r27)) rfl _ _ (ev_callF rfl call_11 rfl) (lex_run_v3_g N s _ hr28) ?_
        refine r_v (Value.int .i64 (r27)) rfl rfl rfl rfl ?_
        refine lx_nil ?_
        refine hK26 _ _ ?_; try clear hK26 K26
        refine A_seq fun K29 hK29 => ?_
        refine A_reg ?_
        refine r_v (Value.string (⟨(s).toArray⟩)) rfl rfl rfl rfl ?_
        refine r_v (Value.int .i64 (r27)) rfl rfl rfl rfl ?_
        replace hM := ck_some hM; obtain ⟨ck30, hM⟩ := hM
        refine r_v (Value.string (⟨((s).take (r27).toNat).toArray⟩)) rfl rfl rfl (ev_v (ev_sliceS2 rfl ck30)) ?_
        replace hM := bind_sm hM; obtain ⟨r31, hr32, hM⟩ := hM
        refine r_c (Value.tuple #[Value.agg #[Value.int .i64 (r31.1), Value.string (⟨(r31.2.1).toArray⟩), Value.int .i64 (r31.2.2.1), Value.int .i64 (r31.2.2.2.1), U (hi (r31.2.2.2.2.1)), U (lo (r31.2.2.2.2.1)), Value.int .i64 (r31.2.2.2.2.2.1)], Value.int .i64 (r31.2.2.2.2.2.2)]) rfl _ _ (ev_callF rfl call_27 rfl) (lex_numberOf_g N ((s).take (r27).toNat) _ hr32) ?_
        refine r_v (Value.tuple #[Value.agg #[Value.int .i64 (r31.1), Value.string (⟨(r31.2.1).toArray⟩), Value.int .i64 (r31.2.2.1), Value.int .i64 (r31.2.2.2.1), U (hi (r31.2.2.2.2.1)), U (lo (r31.2.2.2.2.1)), Value.int .i64 (r31.2.2.2.2.2.1)], Value.int .i64 (r31.2.2.2.2.2.2)]) rfl rfl rfl rfl ?_
        refine r_v (Value.agg #[Value.int .i64 (r31.1), Value.string (⟨(r31.2.1).toArray⟩), Value.int .i64 (r31.2.2.1), Value.int .i64 (r31.2.2.2.1), U (hi (r31.2.2.2.2.1)), U (lo (r31.2.2.2.2.1)), Value.int .i64 (r31.2.2.2.2.2.1)]) rfl rfl rfl rfl ?_
        refine r_v (Value.int .i64 (r31.2.2.2.2.2.2)) rfl rfl rfl rfl ?_
        refine r_a (40, #[Value.int .i64 (0), Value.string (⟨#[]⟩), Value.int .i64 (0), Value.int .i64 (0), U (0#64), U (0#64), Value.int .i64 (0)]) rfl rfl rfl (fun b33 => ?_) (.inr rfl)
        refine r_s [(b33, 40, #[Value.int .i64 (r31.1), Value.string (⟨(r31.2.1).toArray⟩), Value.int .i64 (r31.2.2.1), Value.int .i64 (r31.2.2.2.1), U (hi (r31.2.2.2.2.1)), U (lo (r31.2.2.2.2.1)), Value.int .i64 (r31.2.2.2.2.2.1)]), (b2, 40, #[Value.int .i64 (0), Value.string (⟨#[]⟩), Value.int .i64 (0), Value.int .i64 (0), U (0#64), U (0#64), Value.int .i64 (0)])] 0 _ _ _ (#[Value.int .i64 (0), Value.string (⟨#[]⟩), Value.int .i64 (0), Value.int .i64 (0), U (0#64), U (0#64), Value.int .i64 (0)]) (#[Value.int .i64 (r31.1), Value.string (⟨(r31.2.1).toArray⟩), Value.int .i64 (r31.2.2.1), Value.int .i64 (r31.2.2.2.1), U (hi (r31.2.2.2.2.1)), U (lo (r31.2.2.2.2.1)), Value.int .i64 (r31.2.2.2.2.2.1)]) (#[Value.int .i64 (r31.1), Value.string (⟨(r31.2.1).toArray⟩), Value.int .i64 (r31.2.2.1), Value.int .i64 (r31.2.2.2.1), U (hi (r31.2.2.2.2.1)), U (lo (r31.2.2.2.2.1)), Value.int .i64 (r31.2.2.2.2.2.1)]) rfl rfl rfl rfl (.of rfl rfl) rfl rfl ?_
        refine r_v (Value.int .i64 (r31.2.2.2.2.2.2)) rfl rfl rfl rfl ?_
        refine lx_nil ?_
        refine hK29 _ _ ?_; try clear hK29 K29
        refine A_seq fun K34 hK34 => ?_
        refine A_reg ?_
        refine r_l (Value.agg #[Value.int .i64 (r31.1), Value.string (⟨(r31.2.1).toArray⟩), Value.int .i64 (r31.2.2.1), Value.int .i64 (r31.2.2.2.1), U (hi (r31.2.2.2.2.1)), U (lo (r31.2.2.2.2.1)), Value.int .i64 (r31.2.2.2.2.2.1)]) 0 _ _ _ _ rfl rfl rfl rfl rfl ?_
        refine r_v (Value.int .i64 (r27)) rfl rfl rfl rfl ?_
        refine r_v (Value.int .i64 (r31.2.2.2.2.2.2)) rfl rfl rfl rfl ?_
        refine r_s [(b33, 40, #[Value.int .i64 (r31.1), Value.string (⟨(r31.2.1).toArray⟩), Value.int .i64 (r31.2.2.1), Value.int .i64 (r31.2.2.2.1), U (hi (r31.2.2.2.2.1)), U (lo (r31.2.2.2.2.1)), Value.int .i64 (r31.2.2.2.2.2.1)]), (b2, 40, #[Value.int .i64 (r31.1), Value.string (⟨(r31.2.1).toArray⟩), Value.int .i64 (r31.2.2.1), Value.int .i64 (r31.2.2.2.1), U (hi (r31.2.2.2.2.1)), U (lo (r31.2.2.2.2.1)), Value.int .i64 (r31.2.2.2.2.2.1)])] 1 _ _ _ (#[Value.int .i64 (0), Value.string (⟨#[]⟩), Value.int .i64 (0), Value.int .i64 (0), U (0#64), U (0#64), Value.int .i64 (0)]) (#[Value.int .i64 (r31.1), Value.string (⟨(r31.2.1).toArray⟩), Value.int .i64 (r31.2.2.1), Value.int .i64 (r31.2.2.2.1), U (hi (r31.2.2.2.2.1)), U (lo (r31.2.2.2.2.1)), Value.int .i64 (r31.2.2.2.2.2.1)]) (#[Value.int .i64 (r31.1), Value.string (⟨(r31.2.1).toArray⟩), Value.int .i64 (r31.2.2.1), Value.int .i64 (r31.2.2.2.1), U (hi (r31.2.2.2.2.1)), U (lo (r31.2.2.2.2.1)), Value.int .i64 (r31.2.2.2.2.2.1)]) rfl rfl rfl rfl (.of rfl rfl) rfl rfl ?_
        refine r_v (Value.int .i64 (r27)) rfl rfl rfl rfl ?_
        refine r_v (Value.int .i64 (r31.2.2.2.2.2.2)) rfl rfl rfl rfl ?_
        refine lx_nil ?_
        refine hK34 _ _ ?_; try clear hK34 K34
        refine A_gen [(4, Value.pointer (some ⟨b2, 0, none⟩)), (5, Value.int .i64 (r27)), (6, Value.int .i64 (r31.2.2.2.2.2.2))] rfl (fun T => ?_)
        obtain rfl := Option.some.inj hM
        refine A_ret (fun hn => ends_eq (v0 := Value.tuple #[Value.agg #[Value.int .i64 (r31.1), Value.string (⟨(r31.2.1).toArray⟩), Value.int .i64 (r31.2.2.1), Value.int .i64 (r31.2.2.2.1), U (hi (r31.2.2.2.2.1)), U (lo (r31.2.2.2.2.1)), Value.int .i64 (r31.2.2.2.2.2.1)], Value.int .i64 (r27), Value.int .i64 (r31.2.2.2.2.2.2)]) rfl (res3 (res_cell hn 1 rfl rfl rfl) rfl rfl))
      · replace hM := ifn (Bool.eq_false_iff.1 hc25) hM
        refine A_skip ?_
        refine hK3 _ _ ?_; try clear hK3 K3
        refine A_seq fun K35 hK35 => ?_
        refine A_reg ?_
        refine r_v (Value.agg #[Value.int .i64 (0), Value.string (⟨#[]⟩), Value.int .i64 (0), Value.int .i64 (0), U (0#64), U (0#64), Value.int .i64 (0)]) rfl rfl rfl (ev_buildS rfl rfl rfl rfl) ?_
        refine r_s [(b2, 40, #[Value.int .i64 (0), Value.string (⟨#[]⟩), Value.int .i64 (0), Value.int .i64 (0), U (0#64), U (0#64), Value.int .i64 (0)])] 0 _ _ _ (#[Value.int .i64 (0), Value.string (⟨#[]⟩), Value.int .i64 (0), Value.int .i64 (0), U (0#64), U (0#64), Value.int .i64 (0)]) (#[Value.int .i64 (0), Value.string (⟨#[]⟩), Value.int .i64 (0), Value.int .i64 (0), U (0#64), U (0#64), Value.int .i64 (0)]) (#[Value.int .i64 (0), Value.string (⟨#[]⟩), Value.int .i64 (0), Value.int .i64 (0), U (0#64), U (0#64), Value.int .i64 (0)]) rfl rfl rfl rfl (.of rfl rfl) rfl rfl ?_
        refine r_v (Value.int .i64 (0)) rfl rfl rfl rfl ?_
        refine r_v (Value.int .i64 (4)) rfl rfl rfl rfl ?_
        refine lx_nil ?_
        refine hK35 _ _ ?_; try clear hK35 K35
        obtain rfl := Option.some.inj hM
        refine A_ret (fun hn => ends_eq (v0 := Value.tuple #[Value.agg #[Value.int .i64 (0), Value.string (⟨#[]⟩), Value.int .i64 (0), Value.int .i64 (0), U (0#64), U (0#64), Value.int .i64 (0)], Value.int .i64 (0), Value.int .i64 (4)]) (by first | rfl | (simp only [app_hl]; done) | simp only [app_hl]) (res3 (res_cell hn 0 rfl rfl rfl) rfl rfl))
inductive Sum25 where
  | nil
  | t45 (x0 : Int) (x1 : Int)
  deriving Inhabited
def Sum25.on {β : Type} (x : Sum25) (a : β) (f45 : Int → Int → β) : β := match x with | .nil => a | .t45 x0 x1 => f45 x0 x1
theorem Sum25.on_nil {β : Type} {x : Sum25} {a r : β} {f45 : Int → Int → β} (h : x = .nil) (e : Sum25.on x a f45 = r) : a = r := by subst h; exact e
theorem Sum25.on_t45 {β : Type} {x : Sum25} {a r : β} {f45 : Int → Int → β} {x0 : Int} {x1 : Int} (h : x = .t45 x0 x1) (e : Sum25.on x a f45 = r) : f45 x0 x1 = r := by subst h; exact e
def Sum25.onP (x : Sum25) (a : PO) (f45 : Int → Int → PO) : PO := match x with | .nil => a | .t45 x0 x1 => f45 x0 x1
theorem Sum25.onP_nil {x : Sum25} {a : PO} {f45 : Int → Int → PO} {v : Value} {O : List (List Bl)} (h : x = .nil) (e : Sum25.onP x a f45 v O) : a v O := by subst h; exact e
theorem Sum25.onP_t45 {x : Sum25} {a : PO} {f45 : Int → Int → PO} {x0 : Int} {x1 : Int} {v : Value} {O : List (List Bl)} (h : x = .t45 x0 x1) (e : Sum25.onP x a f45 v O) : f45 x0 x1 v O := by subst h; exact e
theorem Sum25.cases (x : Sum25) : x = .nil ∨ (∃ x0 x1, x = .t45 x0 x1) := by cases x <;> simp
def lex_Scan_k5 (N : Nat) (s : List UInt8) (l1_ : List (Int × List UInt8 × Int × Int × BitVec 128 × Int)) (m3_ : Nat) (rec_lex_Scan_l4 : List (Int × List UInt8 × Int × Int × BitVec 128 × Int) → Int → Nat → Option ((List (Int × List UInt8 × Int × Int × BitVec 128 × Int)) × Sum25)) : Option ((List (Int × List UInt8 × Int × Int × BitVec 128 × Int)) × Sum25) := if (((runeAt (s) (m3_) : Nat) : Int) : Int) = 35 then ck (0 ≤ ((m3_ : Nat) : Int) ∧ ((m3_ : Nat) : Int) ≤ ((s).length : Int)) ((lex_run_v1_m N ((s).drop (((m3_ : Nat) : Int)).toNat)).bind fun r24 => ck ((-9223372036854775808 ≤ (((m3_ : Nat) : Int) + r24) ∧ (((m3_ : Nat) : Int) + r24) ≤ 9223372036854775807)) (rec_lex_Scan_l4 (l1_) ((((m3_ : Nat) : Int) + r24)) (nextP (s) (m3_)))) else ck (0 ≤ ((m3_ : Nat) : Int) ∧ ((m3_ : Nat) : Int) ≤ ((s).length : Int)) ((lex_first_m N ((runeAt (s) (m3_) : Nat) : Int) ((s).drop (((m3_ : Nat) : Int)).toNat)).bind fun r29 => if (r29.2.2.2.2.2.2.2 : Int) ≠ 0 then some ([], (.t45 r29.2.2.2.2.2.2.2 ((m3_ : Nat) : Int))) else ck ((l1_).length + ([(r29.1, r29.2.1, r29.2.2.1, r29.2.2.2.1, r29.2.2.2.2.1, ((m3_ : Nat) : Int))]).length ≤ 2199023255552) (ck ((-9223372036854775808 ≤ (((m3_ : Nat) : Int) + r29.2.2.2.2.2.2.1) ∧ (((m3_ : Nat) : Int) + r29.2.2.2.2.2.2.1) ≤ 9223372036854775807)) (rec_lex_Scan_l4 ((l1_ ++ ([(r29.1, r29.2.1, r29.2.2.1, r29.2.2.2.1, r29.2.2.2.2.1, ((m3_ : Nat) : Int))]))) ((((m3_ : Nat) : Int) + r29.2.2.2.2.2.2.1)) (nextP (s) (m3_)))))
def lex_Scan_l4 (N : Nat) (s : List UInt8) : Nat → List (Int × List UInt8 × Int × Int × BitVec 128 × Int) → Int → Nat → Option ((List (Int × List UInt8 × Int × Int × BitVec 128 × Int)) × Sum25)
  | 0, _, _, _ => none
  | n12 + 1, l1_, end2_, m3_ => if m3_ < (s).length then ck (m3_ < (s).length) (ck (m3_ < (s).length) (if (((m3_ : Nat) : Int) : Int) < end2_ then (lex_Scan_l4 N s n12) (l1_) (end2_) (nextP (s) (m3_)) else (lex_blank_m N ((runeAt (s) (m3_) : Nat) : Int)).bind fun r49 => if (r49) = true then (lex_Scan_l4 N s n12) (l1_) (end2_) (nextP (s) (m3_)) else lex_Scan_k5 N s l1_ m3_ (lex_Scan_l4 N s n12) )) else some (l1_, .nil)
def lex_Scan_m (N : Nat) (s : List UInt8) : Option ((List (Int × List UInt8 × Int × Int × BitVec 128 × Int)) × Sum25) := if (((s).length : Int) : Int) > 16384 then some ([], (.t45 2 0)) else lex_Scan_l4 N s N ([]) (0) (0)
set_option maxRecDepth 100000 in
set_option maxHeartbeats 8000000 in
theorem lex_Scan_g (N : Nat) (s : List UInt8) (r : (List (Int × List UInt8 × Int × Int × BitVec 128 × Int)) × Sum25) (hM : lex_Scan_m N s = some r) (ro : Addr → Option Value)  : Does Try.prog 6 #[Value.string (⟨(s).toArray⟩)] ro [] (pO [] (oS 40 enc_40 r.1 fun s_0 => (Sum25.onP r.2 (oE (Value.tuple #[s_0, Value.nilIface]) []) (fun y0_0 y0_1 => (oB 47 #[Value.int .i64 (y0_0), Value.int .i64 (y0_1)] fun bs_0 => (oE (Value.tuple #[s_0, Value.iface 45 (Value.pointer (some ⟨bs_0, 0, none⟩))]) [])))))) := by
  unfold lex_Scan_m at hM
  refine doesO_of_A follows Try.func6 rfl 64 rfl (upd (fun _ => undef) 0 (Value.string (⟨(s).toArray⟩))) (by funext k; match k with | 0 => rfl | k + 1 => rfl) (fun _ _ h_ _ => h_) (fun base0_ => ?_)
  refine A_seq fun K1 hK1 => ?_
  refine A_reg ?_
  refine r_v (Value.slice none 0 0) rfl rfl rfl rfl ?_
  refine r_v (Value.nilIface) rfl rfl rfl rfl ?_
  refine lx_nil ?_
  refine hK1 _ _ ?_; try clear hK1 K1
  refine A_seq fun K2 hK2 => ?_
  refine A_seq fun K3 hK3 => ?_
  refine A_reg ?_
  refine r_v (Value.string (⟨(s).toArray⟩)) rfl rfl rfl rfl ?_
  refine r_v (Value.int .i64 (((s).length : Int))) rfl rfl rfl (ev_lenS rfl rfl rfl) ?_
  refine r_v (Value.bool (decide ((((s).length : Int) : Int) > 16384))) rfl rfl rfl rfl ?_
  refine lx_nil ?_
  refine hK3 _ _ ?_; try clear hK3 K3
  refine A_cond (decide ((((s).length : Int) : Int) > 16384)) rfl (fun hc4 => ?_) (fun hc4 => ?_)
  · replace hM := ifp (of_decide_eq_true hc4) hM
    refine A_seq fun K5 hK5 => ?_
    refine A_reg ?_
    refine r_v (Value.agg #[Value.int .i64 (2), Value.int .i64 (0)]) rfl rfl rfl (ev_buildS rfl rfl rfl rfl) ?_
    refine r_a (47, #[Value.int .i64 (2), Value.int .i64 (0)]) rfl rfl rfl (fun b6 => ?_) (.inr rfl)
    refine r_v (Value.iface 45 (Value.pointer (some ⟨b6, 0, none⟩))) rfl rfl rfl rfl ?_
    refine r_v (Value.slice none 0 0) rfl rfl rfl rfl ?_
    refine r_v (Value.iface 45 (Value.pointer (some ⟨b6, 0, none⟩))) rfl rfl rfl rfl ?_
    refine lx_nil ?_
    refine hK5 _ _ ?_; try clear hK5 K5
    obtain rfl := Option.some.inj hM
    refine A_ret (fun hn => endsO (v0 := Value.tuple #[Value.slice none 0 0, Value.iface 45 (Value.pointer (some ⟨b6, 0, none⟩))]) (O := [[], [(b6, 47, #[Value.int .i64 (2), Value.int .i64 (0)])]]) (res2 rfl rfl) (Sub.pickE (Ls := [[(b6, 47, #[Value.int .i64 (2), Value.int .i64 (0)])], []]) (Ls0 := [[(b6, 47, #[Value.int .i64 (2), Value.int .i64 (0)])]]) rfl [1, 0] rfl) ⟨Value.slice none 0 0, [], _, Sl.nil, ⟨b6, _, ⟨rfl, rfl⟩, rfl⟩, rfl⟩)
  · replace hM := ifn (of_decide_eq_false hc4) hM
    refine A_skip ?_
    refine hK2 _ _ ?_; try clear hK2 K2
    refine A_seq fun K7 hK7 => ?_
    refine A_reg ?_
    refine r_v (Value.slice none 0 0) rfl rfl rfl rfl ?_
    refine lx_nil ?_
    refine hK7 _ _ ?_; try clear hK7 K7
    refine A_seq fun K8 hK8 => ?_
    refine A_reg ?_
    refine r_v (Value.int .i64 (0)) rfl rfl rfl rfl ?_
    refine lx_nil ?_
    refine hK8 _ _ ?_; try clear hK8 K8
    refine A_seq fun K9 hK9 => ?_
    refine A_seq fun K10 hK10 => ?_
    refine A_regC [(some 18, false)] (conG Try.prog [(18, fun v_ L_ U_ => (pIt (s)) v_ L_ U_)]) ?_
    refine r_v (Value.string (⟨(s).toArray⟩)) rfl rfl rfl rfl ?_
    refine r_range (s) rfl rfl rfl rfl rfl (fun _ _ _ _ _ => Iff.rfl) (fun b11 => ?_)
    refine lx_nil ?_
    refine hK10 _ _ ?_; try clear hK10 K10
    refine A_block ?_
    refine A_forget _ (Sub.pickE (Ls := [[(b11, (itT (s) (0)), #[])], []]) (Ls0 := [[(b11, (itT (s) (0)), #[])]]) rfl [0, 1] rfl) ?_
    refine A_loop (fun tt ll nn => ∃ (n12 : Nat) (l1_ : List (Int × List UInt8 × Int × Int × BitVec 128 × Int)) (end2_ : Int) (m3_ : Nat), (lex_Scan_l4 N s n12 l1_ end2_ m3_ = some r) ∧ ∃ (vl1_ : Value) (Sl1_ : List Bl), Sl 40 enc_40 vl1_ l1_ Sl1_ ∧ Is [(0, Value.string (⟨(s).toArray⟩)), (4, vl1_), (5, Value.int .i64 (end2_)), (18, Value.pointer (some ⟨b11, 0, none⟩))] (List.flatten [[(b11, (itT (s) (m3_)), #[])], Sl1_]) tt ll ∧ nn = n12 + 1) (N + 1) ?_ ?_
    · exact ⟨N, [], 0, 0, hM, Value.slice none 0 0, [], Sl.nil, is_mk rfl rfl, rfl⟩
    · clear hM; rintro t l _ ⟨n12, l1_, end2_, m3_, hM, vl1_, Sl1_, hl1_, ⟨⟨T, rfl⟩, rfl⟩, rfl⟩
      rcases n12 with _ | n12
      · exact absurd hM (by simp [lex_Scan_l4])
      rw [lex_Scan_l4] at hM
      refine A_seq fun K13 hK13 => ?_
      refine A_regC [(some 19, true)] (conG Try.prog [(19, fun v_ L_ U_ => (pNx b11 (s) (m3_)) v_ L_ U_)]) ?_
      refine r_next (lN := (List.flatten [[(b11, (itT (s) (nextP (s) (m3_))), #[])], Sl1_])) 0 b11 (s) (m3_) rfl rfl rfl rfl rfl rfl (fun _ _ _ _ _ => Iff.rfl) rfl ?_
      refine r_v (Value.bool (decide (m3_ < (s).length))) rfl rfl rfl (ev_v (ev_next0 (s) (m3_))) ?_
      refine lx_nil ?_
      refine hK13 _ _ ?_; try clear hK13 K13
      refine A_seq fun K14 hK14 => ?_
      refine A_cond (decide (m3_ < (s).length)) rfl (fun hc15 => ?_) (fun hc15 => ?_)
      · replace hM := ifp (of_decide_eq_true hc15) hM
        refine A_skip ?_
        refine hK14 _ _ ?_; try clear hK14 K14
        refine A_block ?_
        refine A_seq fun K16 hK16 => ?_
        refine A_reg ?_
        replace hM := ck_some hM; obtain ⟨ck17, hM⟩ := hM
        refine r_v (Value.int .i64 (((m3_ : Nat) : Int))) rfl rfl rfl (ev_v (ev_next1 ck17)) ?_
        replace hM := ck_some hM; obtain ⟨ck18, hM⟩ := hM
        refine r_v (Value.int .i32 (((runeAt (s) (m3_) : Nat) : Int))) rfl rfl rfl (ev_v (ev_next2 ck18)) ?_
        refine r_v (Value.int .i64 (((m3_ : Nat) : Int))) rfl rfl rfl rfl ?_
        refine r_v (Value.int .i32 (((runeAt (s) (m3_) : Nat) : Int))) rfl rfl rfl rfl ?_
        refine lx_nil ?_
        refine hK16 _ _ ?_; try clear hK16 K16
        refine A_cut (fun tt ll => (lex_Scan_k5 N s l1_ m3_ (lex_Scan_l4 N s n12)  = some r) ∧ Is [(0, Value.string (⟨(s).toArray⟩)), (4, vl1_), (6, Value.int .i64 (((m3_ : Nat) : Int))), (7, Value.int .i32 (((runeAt (s) (m3_) : Nat) : Int))), (18, Value.pointer (some ⟨b11, 0, none⟩))] (List.flatten [[(b11, (itT (s) (nextP (s) (m3_))), #[])], Sl1_]) tt ll) ?_ ?_
        · refine A_seq fun K47 hK47 => ?_
          refine A_reg ?_
          refine r_v (Value.int .i64 (((m3_ : Nat) : Int))) rfl rfl rfl rfl ?_
          refine r_v (Value.int .i64 (end2_)) rfl rfl rfl rfl ?_
          refine r_v (Value.bool (decide ((((m3_ : Nat) : Int) : Int) < end2_))) rfl rfl rfl rfl ?_
          refine r_v (Value.bool (decide ((((m3_ : Nat) : Int) : Int) < end2_))) rfl rfl rfl rfl ?_
          rcases hg48 : (decide ((((m3_ : Nat) : Int) : Int) < end2_)) with _ | _
          · replace hM := ifn (of_decide_eq_false hg48) hM
            refine r_y rfl ?_
            refine r_v (Value.int .i32 (((runeAt (s) (m3_) : Nat) : Int))) rfl rfl rfl rfl ?_
            refine r_y rfl ?_
            replace hM := bind_sm hM; obtain ⟨r49, hr50, hM⟩ := hM
            refine r_c (Value.bool (r49)) rfl _ _ (ev_callF rfl call_10 rfl) (lex_blank_g N ((runeAt (s) (m3_) : Nat) : Int) _ hr50) ?_
            refine r_v (Value.bool (r49)) rfl rfl rfl rfl ?_
            refine lx_nil ?_
            refine hK47 _ _ ?_; try clear hK47 K47
            refine A_cond (r49) rfl (fun hc51 => ?_) (fun hc51 => ?_)
            · replace hM := ifp hc51 hM
              refine A_exit ?_
              refine fg _ (Sub.pick [[(b11, (itT (s) (nextP (s) (m3_))), #[])], Sl1_] [0, 1] rfl) ?_
              exact ⟨n12 + 1, by omega, n12, l1_, end2_, nextP (s) (m3_), hM, vl1_, Sl1_, hl1_, is_mk rfl rfl, rfl⟩
            · replace hM := ifn (Bool.eq_false_iff.1 hc51) hM
              refine A_skip ?_
              refine fg _ (Sub.pick [[(b11, (itT (s) (nextP (s) (m3_))), #[])], Sl1_] [0, 1] rfl) ?_
              exact ⟨hM, is_mk rfl rfl⟩
          · replace hM := ifp (of_decide_eq_true hg48) hM
            refine r_n true rfl (by decide) rfl ?_
            refine r_n true rfl (by decide) rfl ?_
            refine r_v (Value.bool (true)) rfl rfl rfl rfl ?_
            refine lx_nil ?_
            refine hK47 _ _ ?_; try clear hK47 K47
            refine A_cond true rfl (fun _ => ?_) (fun h_ => nomatch h_)
            refine A_exit ?_
            refine fg _ (Sub.pick [[(b11, (itT (s) (nextP (s) (m3_))), #[])], Sl1_] [0, 1] rfl) ?_
            exact ⟨n12 + 1, by omega, n12, l1_, end2_, nextP (s) (m3_), hM, vl1_, Sl1_, hl1_, is_mk rfl rfl, rfl⟩
        · clear hM; rintro t l ⟨hM, ⟨T, rfl⟩, rfl⟩
          unfold lex_Scan_k5 at hM
          refine A_seq fun K19 hK19 => ?_
          refine A_seq fun K20 hK20 => ?_
          refine A_reg ?_
          refine r_v (Value.int .i32 (((runeAt (s) (m3_) : Nat) : Int))) rfl rfl rfl rfl ?_
          refine r_v (Value.bool (((((runeAt (s) (m3_) : Nat) : Int) : Int) == 35))) rfl rfl rfl rfl ?_
          refine lx_nil ?_
          refine hK20 _ _ ?_; try clear hK20 K20
          refine A_cond (((((runeAt (s) (m3_) : Nat) : Int) : Int) == 35)) rfl (fun hc21 => ?_) (fun hc21 => ?_)
          · replace hM := ifp (eq_of_beq hc21) hM
            refine A_seq fun K22 hK22 => ?_
            refine A_reg ?_
            refine r_v (Value.int .i64 (((m3_ : Nat) : Int))) rfl rfl rfl rfl ?_
            refine r_v (Value.string (⟨(s).toArray⟩)) rfl rfl rfl rfl ?_
            refine r_v (Value.int .i64 (((m3_ : Nat) : Int))) rfl rfl rfl rfl ?_
            replace hM := ck_some hM; obtain ⟨ck23, hM⟩ := hM
            refine r_v (Value.string (⟨((s).drop (((m3_ : Nat) : Int)).toNat).toArray⟩)) rfl rfl rfl (ev_v (ev_sliceS1 rfl ck23)) ?_
            replace hM := bind_sm hM; obtain ⟨r24, hr25, hM⟩ := hM
            refine r_c (Value.int .i64 (r24)) rfl _ _ (ev_callF rfl call_11 rfl) (lex_run_v1_g N ((s).drop (((m3_ : Nat) : Int)).toNat) _ hr25) ?_
            replace hM := ck_some hM; obtain ⟨ck26, hM⟩ := hM
            refine r_v (Value.int .i64 ((((m3_ : Nat) : Int) + r24))) rfl rfl (wi64 rfl ck26.1 ck26.2) rfl ?_
            refine r_v (Value.int .i64 ((((m3_ : Nat) : Int) + r24))) rfl rfl rfl rfl ?_
            refine lx_nil ?_
            refine hK22 _ _ ?_; try clear hK22 K22
            refine A_exit ?_
            refine fg _ (Sub.pick [[(b11, (itT (s) (nextP (s) (m3_))), #[])], Sl1_] [0, 1] rfl) ?_
            exact ⟨n12 + 1, by omega, n12, l1_, (((m3_ : Nat) : Int) + r24), nextP (s) (m3_), hM, vl1_, Sl1_, hl1_, is_mk rfl rfl, rfl⟩
          · replace hM := ifn (ne_of_beq_false hc21) hM
            refine A_skip ?_
            refine hK19 _ _ ?_; try clear hK19 K19
            refine A_seq fun K27 hK27 => ?_
            refine A_reg ?_
            refine r_v (Value.int .i32 (((runeAt (s) (m3_) : Nat) : Int))) rfl rfl rfl rfl ?_
            refine r_v (Value.string (⟨(s).toArray⟩)) rfl rfl rfl rfl ?_
            refine r_v (Value.int .i64 (((m3_ : Nat) : Int))) rfl rfl rfl rfl ?_
            replace hM := ck_some hM; obtain ⟨ck28, hM⟩ := hM
            refine r_v (Value.string (⟨((s).drop (((m3_ : Nat) : Int)).toNat).toArray⟩)) rfl rfl rfl (ev_v (ev_sliceS1 rfl ck28)) ?_
            replace hM := bind_sm hM; obtain ⟨r29, hr30, hM⟩ := hM
            refine r_c (Value.tuple #[Value.agg #[Value.int .i64 (r29.1), Value.string (⟨(r29.2.1).toArray⟩), Value.int .i64 (r29.2.2.1), Value.int .i64 (r29.2.2.2.1), U (hi (r29.2.2.2.2.1)), U (lo (r29.2.2.2.2.1)), Value.int .i64 (r29.2.2.2.2.2.1)], Value.int .i64 (r29.2.2.2.2.2.2.1), Value.int .i64 (r29.2.2.2.2.2.2.2)]) rfl _ _ (ev_callF rfl call_13 rfl) (lex_first_g N ((runeAt (s) (m3_) : Nat) : Int) ((s).drop (((m3_ : Nat) : Int)).toNat) _ hr30) ?_
            refine r_v (Value.tuple #[Value.agg #[Value.int .i64 (r29.1), Value.string (⟨(r29.2.1).toArray⟩), Value.int .i64 (r29.2.2.1), Value.int .i64 (r29.2.2.2.1), U (hi (r29.2.2.2.2.1)), U (lo (r29.2.2.2.2.1)), Value.int .i64 (r29.2.2.2.2.2.1)], Value.int .i64 (r29.2.2.2.2.2.2.1), Value.int .i64 (r29.2.2.2.2.2.2.2)]) rfl rfl rfl rfl ?_
            refine r_v (Value.agg #[Value.int .i64 (r29.1), Value.string (⟨(r29.2.1).toArray⟩), Value.int .i64 (r29.2.2.1), Value.int .i64 (r29.2.2.2.1), U (hi (r29.2.2.2.2.1)), U (lo (r29.2.2.2.2.1)), Value.int .i64 (r29.2.2.2.2.2.1)]) rfl rfl rfl rfl ?_
            refine r_v (Value.int .i64 (r29.2.2.2.2.2.2.1)) rfl rfl rfl rfl ?_
            refine r_v (Value.int .i64 (r29.2.2.2.2.2.2.2)) rfl rfl rfl rfl ?_
            refine r_a (40, #[Value.int .i64 (0), Value.string (⟨#[]⟩), Value.int .i64 (0), Value.int .i64 (0), U (0#64), U (0#64), Value.int .i64 (0)]) rfl rfl rfl (fun b31 => ?_) (.inr rfl)
            refine r_s (List.flatten [[(b31, 40, #[Value.int .i64 (r29.1), Value.string (⟨(r29.2.1).toArray⟩), Value.int .i64 (r29.2.2.1), Value.int .i64 (r29.2.2.2.1), U (hi (r29.2.2.2.2.1)), U (lo (r29.2.2.2.2.1)), Value.int .i64 (r29.2.2.2.2.2.1)])], [(b11, (itT (s) (nextP (s) (m3_))), #[])], Sl1_]) 0 _ _ _ (#[Value.int .i64 (0), Value.string (⟨#[]⟩), Value.int .i64 (0), Value.int .i64 (0), U (0#64), U (0#64), Value.int .i64 (0)]) (#[Value.int .i64 (r29.1), Value.string (⟨(r29.2.1).toArray⟩), Value.int .i64 (r29.2.2.1), Value.int .i64 (r29.2.2.2.1), U (hi (r29.2.2.2.2.1)), U (lo (r29.2.2.2.2.1)), Value.int .i64 (r29.2.2.2.2.2.1)]) (#[Value.int .i64 (r29.1), Value.string (⟨(r29.2.1).toArray⟩), Value.int .i64 (r29.2.2.1), Value.int .i64 (r29.2.2.2.1), U (hi (r29.2.2.2.2.1)), U (lo (r29.2.2.2.2.1)), Value.int .i64 (r29.2.2.2.2.2.1)]) rfl rfl rfl rfl (.of rfl rfl) rfl rfl ?_
            refine r_v (Value.int .i64 (r29.2.2.2.2.2.2.1)) rfl rfl rfl rfl ?_
            refine r_v (Value.int .i64 (r29.2.2.2.2.2.2.2)) rfl rfl rfl rfl ?_
            refine lx_nil ?_
            refine hK27 _ _ ?_; try clear hK27 K27
            refine A_seq fun K32 hK32 => ?_
            refine A_seq fun K33 hK33 => ?_
            refine A_reg ?_
            refine r_v (Value.int .i64 (r29.2.2.2.2.2.2.2)) rfl rfl rfl rfl ?_
            refine r_v (Value.bool (((r29.2.2.2.2.2.2.2 : Int) != 0))) rfl rfl rfl rfl ?_
            refine lx_nil ?_
            refine hK33 _ _ ?_; try clear hK33 K33
            refine A_cond (((r29.2.2.2.2.2.2.2 : Int) != 0)) rfl (fun hc34 => ?_) (fun hc34 => ?_)
            · replace hM := ifp (bne_iff_ne.1 hc34) hM
              refine A_seq fun K35 hK35 => ?_
              refine A_reg ?_
              refine r_v (Value.int .i64 (r29.2.2.2.2.2.2.2)) rfl rfl rfl rfl ?_
              refine r_v (Value.int .i64 (((m3_ : Nat) : Int))) rfl rfl rfl rfl ?_
              refine r_v (Value.agg #[Value.int .i64 (r29.2.2.2.2.2.2.2), Value.int .i64 (((m3_ : Nat) : Int))]) rfl rfl rfl (ev_buildS rfl rfl rfl rfl) ?_
              refine r_a (47, #[Value.int .i64 (r29.2.2.2.2.2.2.2), Value.int .i64 (((m3_ : Nat) : Int))]) rfl rfl rfl (fun b36 => ?_) (.inr rfl)
              refine r_v (Value.iface 45 (Value.pointer (some ⟨b36, 0, none⟩))) rfl rfl rfl rfl ?_
              refine r_v (Value.slice none 0 0) rfl rfl rfl rfl ?_
              refine r_v (Value.iface 45 (Value.pointer (some ⟨b36, 0, none⟩))) rfl rfl rfl rfl ?_
              refine lx_nil ?_
              refine hK35 _ _ ?_; try clear hK35 K35
              refine A_gen [(2, Value.slice none 0 0), (3, Value.iface 45 (Value.pointer (some ⟨b36, 0, none⟩)))] rfl (fun T => ?_)
              obtain rfl := Option.some.inj hM
              refine A_ret (fun hn => endsO (v0 := Value.tuple #[Value.slice none 0 0, Value.iface 45 (Value.pointer (some ⟨b36, 0, none⟩))]) (O := [[], [(b36, 47, #[Value.int .i64 (r29.2.2.2.2.2.2.2), Value.int .i64 (((m3_ : Nat) : Int))])]]) (res2 rfl rfl) (Sub.pickE (Ls := [[(b36, 47, #[Value.int .i64 (r29.2.2.2.2.2.2.2), Value.int .i64 (((m3_ : Nat) : Int))])], [(b31, 40, #[Value.int .i64 (r29.1), Value.string (⟨(r29.2.1).toArray⟩), Value.int .i64 (r29.2.2.1), Value.int .i64 (r29.2.2.2.1), U (hi (r29.2.2.2.2.1)), U (lo (r29.2.2.2.2.1)), Value.int .i64 (r29.2.2.2.2.2.1)])], [(b11, (itT (s) (nextP (s) (m3_))), #[])], Sl1_, []]) (Ls0 := [[(b36, 47, #[Value.int .i64 (r29.2.2.2.2.2.2.2), Value.int .i64 (((m3_ : Nat) : Int))])], [(b31, 40, #[Value.int .i64 (r29.1), Value.string (⟨(r29.2.1).toArray⟩), Value.int .i64 (r29.2.2.1), Value.int .i64 (r29.2.2.2.1), U (hi (r29.2.2.2.2.1)), U (lo (r29.2.2.2.2.1)), Value.int .i64 (r29.2.2.2.2.2.1)])], [(b11, (itT (s) (nextP (s) (m3_))), #[])], Sl1_]) rfl [4, 0] rfl) ⟨Value.slice none 0 0, [], _, Sl.nil, ⟨b36, _, ⟨rfl, rfl⟩, rfl⟩, rfl⟩)
            · replace hM := ifn (bne_f hc34) hM
              refine A_skip ?_
              refine hK32 _ _ ?_; try clear hK32 K32
              refine A_seq fun K37 hK37 => ?_
              refine A_reg ?_
              refine r_v (Value.int .i64 (((m3_ : Nat) : Int))) rfl rfl rfl rfl ?_
              refine r_v (Value.pointer (some ⟨b31, 6, none⟩)) rfl rfl rfl rfl ?_
              refine r_s (List.flatten [[(b31, 40, #[Value.int .i64 (r29.1), Value.string (⟨(r29.2.1).toArray⟩), Value.int .i64 (r29.2.2.1), Value.int .i64 (r29.2.2.2.1), U (hi (r29.2.2.2.2.1)), U (lo (r29.2.2.2.2.1)), Value.int .i64 (((m3_ : Nat) : Int))])], [(b11, (itT (s) (nextP (s) (m3_))), #[])], Sl1_]) 0 _ _ _ (#[Value.int .i64 (r29.1), Value.string (⟨(r29.2.1).toArray⟩), Value.int .i64 (r29.2.2.1), Value.int .i64 (r29.2.2.2.1), U (hi (r29.2.2.2.2.1)), U (lo (r29.2.2.2.2.1)), Value.int .i64 (r29.2.2.2.2.2.1)]) (#[Value.int .i64 (((m3_ : Nat) : Int))]) (#[Value.int .i64 (r29.1), Value.string (⟨(r29.2.1).toArray⟩), Value.int .i64 (r29.2.2.1), Value.int .i64 (r29.2.2.2.1), U (hi (r29.2.2.2.2.1)), U (lo (r29.2.2.2.2.1)), Value.int .i64 (((m3_ : Nat) : Int))]) rfl rfl rfl rfl (.of rfl rfl) rfl rfl ?_
              refine lx_nil ?_
              refine hK37 _ _ ?_; try clear hK37 K37
              refine A_seq fun K38 hK38 => ?_
              refine A_regC [(some 58, false), (some 59, true)] (conG Try.prog []) ?_
              refine r_v (vl1_) rfl rfl rfl rfl ?_
              refine r_l (Value.agg #[Value.int .i64 (r29.1), Value.string (⟨(r29.2.1).toArray⟩), Value.int .i64 (r29.2.2.1), Value.int .i64 (r29.2.2.2.1), U (hi (r29.2.2.2.2.1)), U (lo (r29.2.2.2.2.1)), Value.int .i64 (((m3_ : Nat) : Int))]) 0 _ _ _ _ rfl rfl rfl rfl rfl ?_
              refine r_bs (cs0 := []) (Ls := [[(b31, 40, #[Value.int .i64 (r29.1), Value.string (⟨(r29.2.1).toArray⟩), Value.int .i64 (r29.2.2.1), Value.int .i64 (r29.2.2.2.1), U (hi (r29.2.2.2.2.1)), U (lo (r29.2.2.2.2.1)), Value.int .i64 (((m3_ : Nat) : Int))])], [(b11, (itT (s) (nextP (s) (m3_))), #[])], Sl1_]) 40 enc_40 [(r29.1, r29.2.1, r29.2.2.1, r29.2.2.2.1, r29.2.2.2.2.1, ((m3_ : Nat) : Int))] [Value.int .i64 (r29.1), Value.string (⟨(r29.2.1).toArray⟩), Value.int .i64 (r29.2.2.1), Value.int .i64 (r29.2.2.2.1), U (hi (r29.2.2.2.2.1)), U (lo (r29.2.2.2.2.1)), Value.int .i64 (((m3_ : Nat) : Int))] [Value.int .i64 (0), Value.string (⟨#[]⟩), Value.int .i64 (0), Value.int .i64 (0), U (0#64), U (0#64), Value.int .i64 (0)] rfl rfl rfl rfl rfl rfl rfl (by kernel_rfl) (by kernel_rfl) rfl rfl rfl (fun s39 S40 H41 => ?_)
              replace hM := ck_some hM; obtain ⟨ck42, hM⟩ := hM
              refine r_app (cs0 := []) (Ls := [[(b31, 40, #[Value.int .i64 (r29.1), Value.string (⟨(r29.2.1).toArray⟩), Value.int .i64 (r29.2.2.1), Value.int .i64 (r29.2.2.2.1), U (hi (r29.2.2.2.2.1)), U (lo (r29.2.2.2.2.1)), Value.int .i64 (((m3_ : Nat) : Int))])], [(b11, (itT (s) (nextP (s) (m3_))), #[])], Sl1_, S40]) 2 (En := enc_40) rfl rfl rfl rfl rfl hl1_ rfl (rd_own H41 (mem_chunk (Ls := [[(b31, 40, #[Value.int .i64 (r29.1), Value.string (⟨(r29.2.1).toArray⟩), Value.int .i64 (r29.2.2.1), Value.int .i64 (r29.2.2.2.1), U (hi (r29.2.2.2.2.1)), U (lo (r29.2.2.2.2.1)), Value.int .i64 (((m3_ : Nat) : Int))])], [(b11, (itT (s) (nextP (s) (m3_))), #[])], Sl1_, S40]) (k := 3) rfl rfl)) rfl rfl rfl rfl rfl (app_b ck42 rfl) (app_m ck42 rfl) rfl (fun s43 S44 H45 => ?_)
              refine r_v (s43) rfl rfl rfl rfl ?_
              refine lx_nil ?_
              refine hK38 _ _ ?_; try clear hK38 K38
              refine A_reg ?_
              refine r_v (Value.int .i64 (((m3_ : Nat) : Int))) rfl rfl rfl rfl ?_
              refine r_v (Value.int .i64 (r29.2.2.2.2.2.2.1)) rfl rfl rfl rfl ?_
              replace hM := ck_some hM; obtain ⟨ck46, hM⟩ := hM
              refine r_v (Value.int .i64 ((((m3_ : Nat) : Int) + r29.2.2.2.2.2.2.1))) rfl rfl (wi64 rfl ck46.1 ck46.2) rfl ?_
              refine r_v (Value.int .i64 ((((m3_ : Nat) : Int) + r29.2.2.2.2.2.2.1))) rfl rfl rfl rfl ?_
              refine lx_nil ?_
              refine fg _ (Sub.pick [[(b31, 40, #[Value.int .i64 (r29.1), Value.string (⟨(r29.2.1).toArray⟩), Value.int .i64 (r29.2.2.1), Value.int .i64 (r29.2.2.2.1), U (hi (r29.2.2.2.2.1)), U (lo (r29.2.2.2.2.1)), Value.int .i64 (((m3_ : Nat) : Int))])], [(b11, (itT (s) (nextP (s) (m3_))), #[])], S44, S40] [1, 2] rfl) ?_
              exact ⟨n12 + 1, by omega, n12, (l1_ ++ ([(r29.1, r29.2.1, r29.2.2.1, r29.2.2.2.1, r29.2.2.2.2.1, ((m3_ : Nat) : Int))])), (((m3_ : Nat) : Int) + r29.2.2.2.2.2.2.1), nextP (s) (m3_), hM, s43, S44, H45, is_mk rfl rfl, rfl⟩
      · replace hM := ifn (of_decide_eq_false hc15) hM
        refine A_exit ?_
        refine hK9 _ _ ?_; try clear hK9 K9
        refine A_seq fun K52 hK52 => ?_
        refine A_reg ?_
        refine r_v (vl1_) rfl rfl rfl rfl ?_
        refine r_v (vl1_) rfl rfl rfl rfl ?_
        refine r_v (Value.nilIface) rfl rfl rfl rfl ?_
        refine lx_nil ?_
        refine hK52 _ _ ?_; try clear hK52 K52
        obtain rfl := Option.some.inj hM
        refine A_ret (fun hn => endsO (v0 := Value.tuple #[vl1_, Value.nilIface]) (O := [Sl1_]) (res2 rfl rfl) (Sub.pick [[(b11, (itT (s) (nextP (s) (m3_))), #[])], Sl1_] [1] rfl) ⟨vl1_, Sl1_, _, hl1_, ⟨rfl, rfl⟩, rfl⟩)
theorem eg_38 : Try.prog.eqGuardType Try.prog.depth 38 = false := by kernel_rfl
theorem si_38 : Try.prog.stoodInHeld 38 = false := by kernel_rfl
set_option maxRecDepth 100000 in
theorem eqst_38 {c : Addr → Option Value} (x0 y0 : Int) (x1 y1 : BitVec 128) : ev Try.prog c (Op.equal 38 (.agg #[Value.int .i64 (x0), U (hi (x1)), U (lo (x1))]) (.agg #[Value.int .i64 (y0), U (hi (y1)), U (lo (y1))])) = some ((x0 == y0) && (x1 == y1)) := by
  have h := ev_eqStruct (P := Try.prog) (c := c) 9999 (t := 38) #[Value.int .i64 (x0), U (hi (x1)), U (lo (x1))] #[Value.int .i64 (y0), U (hi (y1)), U (lo (y1))] rfl si_38 (fun f => if f.offset = 0 then ((x0 : Int) == y0) else if f.offset = 1 then (((hi (x1)).toNat : Int) == ((hi (y1)).toNat : Int)) else (((lo (x1)).toNat : Int) == ((lo (y1)).toNat : Int)))
    (fun f hf => by
      simp only [List.mem_cons, List.not_mem_nil, or_false] at hf
      rcases hf with rfl | rfl | rfl
      · exact ⟨by decide, _, _, ev_partS (P := Try.prog) (t := 3) rfl (by intro fs h; cases h) (by intro n e h; cases h) _ _ rfl, ev_partS (P := Try.prog) (t := 3) rfl (by intro fs h; cases h) (by intro n e h; cases h) _ _ rfl, ev_eqInt _ _ _ rfl⟩
      · exact ⟨by decide, _, _, ev_partS (P := Try.prog) (t := 36) rfl (by intro fs h; cases h) (by intro n e h; cases h) _ _ rfl, ev_partS (P := Try.prog) (t := 36) rfl (by intro fs h; cases h) (by intro n e h; cases h) _ _ rfl, ev_eqInt _ _ _ rfl⟩
      · exact ⟨by decide, _, _, ev_partS (P := Try.prog) (t := 36) rfl (by intro fs h; cases h) (by intro n e h; cases h) _ _ rfl, ev_partS (P := Try.prog) (t := 36) rfl (by intro fs h; cases h) (by intro n e h; cases h) _ _ rfl, ev_eqInt _ _ _ rfl⟩)
  rw [← word_beq x1 y1]; rw [show Op.equal 38 (.agg #[Value.int .i64 (x0), U (hi (x1)), U (lo (x1))]) (.agg #[Value.int .i64 (y0), U (hi (y1)), U (lo (y1))]) = Op.equalIn (9999 + 1) 38 (.agg #[Value.int .i64 (x0), U (hi (x1)), U (lo (x1))]) (.agg #[Value.int .i64 (y0), U (hi (y1)), U (lo (y1))]) from rfl, h]
  first | (simp; done) | simp [Bool.and_assoc]
def shunterlaw06_lives_m (N : Nat) : Option (Bool) := (lex_Scan_m N ([115, 101, 116, 32, 105, 112, 46, 116, 116, 108, 32, 61, 32, 56, 39, 52, 48, 59] : List UInt8)).bind fun r3 => Sum25.on r3.2 (if (((r3.1).length : Int) : Int) = 5 then ck (0 ≤ (1 : Int) ∧ (1 : Int) < ((r3.1).length : Int)) (if (((r3.1)[((1 : Int)).toNat]!).2.1) = (([105, 112, 46, 116, 116, 108] : List UInt8)) then ck (0 ≤ (3 : Int) ∧ (3 : Int) < ((r3.1).length : Int)) (some (((((r3.1)[((3 : Int)).toNat]!).2.2.2.1) == (8)) && ((((r3.1)[((3 : Int)).toNat]!).2.2.2.2.1) == ((0#64) ++ (64#64))))) else some (false)) else some (false)) (fun x9_0 x10_1 => some (false))
set_option maxRecDepth 100000 in
set_option maxHeartbeats 8000000 in
theorem shunterlaw06_lives_g (N : Nat) (r : Bool) (hM : shunterlaw06_lives_m N = some r) : Gives Try.prog 5 #[] (Value.bool (r)) := by
  unfold shunterlaw06_lives_m at hM
  refine gives_of_A follows Try.func5 rfl 29 rfl (fun _ => undef) (by funext k; rfl) (fun base0_ => ?_)
  refine A_seq fun K1 hK1 => ?_
  refine A_reg ?_
  refine r_v (Value.bool (false)) rfl rfl rfl rfl ?_
  refine lx_nil ?_
  refine hK1 _ _ ?_; try clear hK1 K1
  refine A_seq fun K2 hK2 => ?_
  refine A_regC [(some 4, true)] (conG Try.prog [(4, fun v_ L_ U_ => ∀ u0_, lex_Scan_m N ([115, 101, 116, 32, 105, 112, 46, 116, 116, 108, 32, 61, 32, 56, 39, 52, 48, 59] : List UInt8) = some u0_ → (pO (List.flatten []) (oS 40 enc_40 u0_.1 fun s_0 => (Sum25.onP u0_.2 (oE (Value.tuple #[s_0, Value.nilIface]) []) (fun y0_0 y0_1 => (oB 47 #[Value.int .i64 (y0_0), Value.int .i64 (y0_1)] fun bs_0 => (oE (Value.tuple #[s_0, Value.iface 45 (Value.pointer (some ⟨bs_0, 0, none⟩))]) [])))))) v_ L_ U_)]) ?_
  replace hM := bind_sm hM; obtain ⟨r3, hr4, hM⟩ := hM
  refine r_gm (Ls := []) (FL := []) (RL := []) [] (oS 40 enc_40 r3.1 fun s_0 => (Sum25.onP r3.2 (oE (Value.tuple #[s_0, Value.nilIface]) []) (fun y0_0 y0_1 => (oB 47 #[Value.int .i64 (y0_0), Value.int .i64 (y0_1)] fun bs_0 => (oE (Value.tuple #[s_0, Value.iface 45 (Value.pointer (some ⟨bs_0, 0, none⟩))]) []))))) (some 4) 6 _ rfl rfl rfl rfl rfl (ev_callF rfl call_6 rfl) (fun own_ nw_ hn_ hs_ => lex_Scan_g N ([115, 101, 116, 32, 105, 112, 46, 116, 116, 108, 32, 61, 32, 56, 39, 52, 48, 59] : List UInt8) _ hr4 _ ) (fun _ _ v_ L_ U_ => ⟨fun h_ => h_ _ hr4, fun h_ => by intro _ e_; cases Option.some.inj (e_.symm.trans hr4); exact h_⟩) (fun h_ => nomatch h_) ?_
  rintro _ _ ⟨s5, S6, _, H7, hp_, rfl⟩
  rcases Sum25.cases r3.2 with hx8 | ⟨x9_0, x10_1, hx8⟩
  · obtain ⟨rfl, rfl⟩ := Sum25.onP_nil hx8 hp_
    replace hM := Sum25.on_nil hx8 hM
    refine lx_perm (Ls := [S6]) (Ls' := [S6]) [0] rfl rfl ?_
    refine r_v (Value.tuple #[s5, Value.nilIface]) rfl rfl rfl rfl ?_
    refine r_v (s5) rfl rfl rfl rfl ?_
    refine r_v (Value.nilIface) rfl rfl rfl rfl ?_
    refine r_v (s5) rfl rfl rfl rfl ?_
    refine r_v (Value.nilIface) rfl rfl rfl rfl ?_
    refine lx_nil ?_
    refine hK2 _ _ ?_; try clear hK2 K2
    refine A_seq fun K11 hK11 => ?_
    refine A_reg ?_
    refine r_v (Value.nilIface) rfl rfl rfl rfl ?_
    refine r_v (Value.bool (true)) rfl rfl rfl rfl ?_
    refine r_v (Value.bool (true)) rfl rfl rfl rfl ?_
    refine r_y rfl ?_
    refine r_v (s5) rfl rfl rfl rfl ?_
    refine r_y rfl ?_
    refine r_v (Value.int .i64 (((r3.1).length : Int))) rfl rfl rfl (ev_lenSl rfl rfl rfl (Sl.shp H7)) ?_
    refine r_y rfl ?_
    refine r_v (Value.bool (((((r3.1).length : Int) : Int) == 5))) rfl rfl rfl rfl ?_
    refine r_v (Value.bool (((((r3.1).length : Int) : Int) == 5))) rfl rfl rfl rfl ?_
    refine r_v (Value.bool (((((r3.1).length : Int) : Int) == 5))) rfl rfl rfl rfl ?_
    rcases hg12 : (((((r3.1).length : Int) : Int) == 5)) with _ | _
    · replace hM := ifn (ne_of_beq_false hg12) hM
      refine r_n false rfl (by decide) rfl ?_
      refine r_n false rfl (by decide) rfl ?_
      refine r_n false rfl (by decide) rfl ?_
      refine r_n false rfl (by decide) rfl ?_
      refine r_n false rfl (by decide) rfl ?_
      refine r_v (Value.bool (false)) rfl rfl rfl rfl ?_
      refine r_v (Value.bool (false)) rfl rfl rfl rfl ?_
      refine r_n false rfl (by decide) rfl ?_
      refine r_n false rfl (by decide) rfl ?_
      refine r_n false rfl (by decide) rfl ?_
      refine r_n false rfl (by decide) rfl ?_
      refine r_n false rfl (by decide) rfl ?_
      refine r_n false rfl (by decide) rfl ?_
      refine r_v (Value.bool (false)) rfl rfl rfl rfl ?_
      refine r_v (Value.bool (false)) rfl rfl rfl rfl ?_
      refine lx_nil ?_
      refine hK11 _ _ ?_; try clear hK11 K11
      refine A_gen [(0, Value.bool (false))] rfl (fun T => ?_)
      obtain rfl := Option.some.inj hM
      refine A_ret (fun hn => ends_eq (v0 := Value.bool (false)) rfl (res1 rfl))
    · replace hM := ifp (eq_of_beq hg12) hM
      refine r_y rfl ?_
      refine r_v (s5) rfl rfl rfl rfl ?_
      refine r_y rfl ?_
      replace hM := ck_some hM; obtain ⟨ck13, hM⟩ := hM
      refine r_v (elA s5 (((1 : Int)).toNat * 7)) rfl rfl rfl (ev_v (ev_idxSl rfl rfl rfl (Sl.shp H7) ck13)) ?_
      refine r_y rfl ?_
      refine r_v (elA s5 (((1 : Int)).toNat * 7 + 1)) rfl rfl rfl (ev_v (ev_fieldX rfl rfl rfl rfl rfl rfl (Sl.shp H7) (pos_of ck13))) ?_
      refine r_y rfl ?_
      refine r_le (Value.string (⟨(((r3.1)[((1 : Int)).toNat]!).2.1).toArray⟩)) (En := enc_40) ((r3.1)[((1 : Int)).toNat]!) (((1 : Int)).toNat) 1 rfl rfl (rd_own H7 (mem_chunk (Ls := [S6]) (k := 0) rfl rfl)) (get_of ck13) rfl ?_
      refine r_y rfl ?_
      refine r_v (Value.bool ((((r3.1)[((1 : Int)).toNat]!).2.1) == (([105, 112, 46, 116, 116, 108] : List UInt8)))) rfl rfl rfl (ev_eqS rfl rfl) ?_
      refine r_v (Value.bool ((((r3.1)[((1 : Int)).toNat]!).2.1) == (([105, 112, 46, 116, 116, 108] : List UInt8)))) rfl rfl rfl rfl ?_
      refine r_v (Value.bool ((((r3.1)[((1 : Int)).toNat]!).2.1) == (([105, 112, 46, 116, 116, 108] : List UInt8)))) rfl rfl rfl rfl ?_
      rcases hg14 : ((((r3.1)[((1 : Int)).toNat]!).2.1) == (([105, 112, 46, 116, 116, 108] : List UInt8))) with _ | _
      · replace hM := ifn (ne_of_beq_false hg14) hM
        refine r_n false rfl (by decide) rfl ?_
        refine r_n false rfl (by decide) rfl ?_
        refine r_n false rfl (by decide) rfl ?_
        refine r_n false rfl (by decide) rfl ?_
        refine r_n false rfl (by decide) rfl ?_
        refine r_n false rfl (by decide) rfl ?_
        refine r_v (Value.bool (false)) rfl rfl rfl rfl ?_
        refine r_v (Value.bool (false)) rfl rfl rfl rfl ?_
        refine lx_nil ?_
        refine hK11 _ _ ?_; try clear hK11 K11
        refine A_gen [(0, Value.bool (false))] rfl (fun T => ?_)
        obtain rfl := Option.some.inj hM
        refine A_ret (fun hn => ends_eq (v0 := Value.bool (false)) rfl (res1 rfl))
      · replace hM := ifp (eq_of_beq hg14) hM
        refine r_y rfl ?_
        refine r_v (s5) rfl rfl rfl rfl ?_
        refine r_y rfl ?_
        replace hM := ck_some hM; obtain ⟨ck15, hM⟩ := hM
        refine r_v (elA s5 (((3 : Int)).toNat * 7)) rfl rfl rfl (ev_v (ev_idxSl rfl rfl rfl (Sl.shp H7) ck15)) ?_
        refine r_y rfl ?_
        refine r_v (elA s5 (((3 : Int)).toNat * 7 + 3)) rfl rfl rfl (ev_v (ev_fieldX rfl rfl rfl rfl rfl rfl (Sl.shp H7) (pos_of ck15))) ?_
        refine r_y rfl ?_
        refine r_le (Value.agg #[Value.int .i64 (((r3.1)[((3 : Int)).toNat]!).2.2.2.1), U (hi (((r3.1)[((3 : Int)).toNat]!).2.2.2.2.1)), U (lo (((r3.1)[((3 : Int)).toNat]!).2.2.2.2.1))]) (En := enc_40) ((r3.1)[((3 : Int)).toNat]!) (((3 : Int)).toNat) 3 rfl rfl (rd_own H7 (mem_chunk (Ls := [S6]) (k := 0) rfl rfl)) (get_of ck15) rfl ?_
        refine r_y rfl ?_
        refine r_v (Value.agg #[Value.int .i64 (8), U (0#64), U (64#64)]) rfl rfl rfl (ev_buildS rfl rfl rfl rfl) ?_
        refine r_y rfl ?_
        refine r_v (Value.bool (((((r3.1)[((3 : Int)).toNat]!).2.2.2.1) == (8)) && ((((r3.1)[((3 : Int)).toNat]!).2.2.2.2.1) == ((0#64) ++ (64#64))))) rfl rfl rfl (ev_binEq rfl rfl eg_38 (by have h_ := fun c => eqst_38 (c := c) (((r3.1)[((3 : Int)).toNat]!).2.2.2.1) (8) (((r3.1)[((3 : Int)).toNat]!).2.2.2.2.1) ((0#64) ++ (64#64)); simp only [app_hl] at h_; exact h_ _)) ?_
        refine r_v (Value.bool (((((r3.1)[((3 : Int)).toNat]!).2.2.2.1) == (8)) && ((((r3.1)[((3 : Int)).toNat]!).2.2.2.2.1) == ((0#64) ++ (64#64))))) rfl rfl rfl rfl ?_
        refine r_v (Value.bool (((((r3.1)[((3 : Int)).toNat]!).2.2.2.1) == (8)) && ((((r3.1)[((3 : Int)).toNat]!).2.2.2.2.1) == ((0#64) ++ (64#64))))) rfl rfl rfl rfl ?_
        refine lx_nil ?_
        refine hK11 _ _ ?_; try clear hK11 K11
        refine A_gen [(0, Value.bool (((((r3.1)[((3 : Int)).toNat]!).2.2.2.1) == (8)) && ((((r3.1)[((3 : Int)).toNat]!).2.2.2.2.1) == ((0#64) ++ (64#64)))))] rfl (fun T => ?_)
        obtain rfl := Option.some.inj hM
        refine A_ret (fun hn => ends_eq (v0 := Value.bool (((((r3.1)[((3 : Int)).toNat]!).2.2.2.1) == (8)) && ((((r3.1)[((3 : Int)).toNat]!).2.2.2.2.1) == ((0#64) ++ (64#64))))) rfl (res1 rfl))
  · obtain ⟨b11, _, ⟨rfl, rfl⟩, rfl⟩ := Sum25.onP_t45 hx8 hp_
    replace hM := Sum25.on_t45 hx8 hM
    refine lx_perm (Ls := [S6, [(b11, 47, #[Value.int .i64 (x9_0), Value.int .i64 (x10_1)])]]) (Ls' := [[(b11, 47, #[Value.int .i64 (x9_0), Value.int .i64 (x10_1)])], S6]) [1, 0] rfl rfl ?_
    refine r_v (Value.tuple #[s5, Value.iface 45 (Value.pointer (some ⟨b11, 0, none⟩))]) rfl rfl rfl rfl ?_
    refine r_v (s5) rfl rfl rfl rfl ?_
    refine r_v (Value.iface 45 (Value.pointer (some ⟨b11, 0, none⟩))) rfl rfl rfl rfl ?_
    refine r_v (s5) rfl rfl rfl rfl ?_
    refine r_v (Value.iface 45 (Value.pointer (some ⟨b11, 0, none⟩))) rfl rfl rfl rfl ?_
    refine lx_nil ?_
    refine hK2 _ _ ?_; try clear hK2 K2
    refine A_seq fun K12 hK12 => ?_
    refine A_reg ?_
    refine r_v (Value.iface 45 (Value.pointer (some ⟨b11, 0, none⟩))) rfl rfl rfl rfl ?_
    refine r_v (Value.bool (false)) rfl rfl rfl rfl ?_
    refine r_v (Value.bool (false)) rfl rfl rfl rfl ?_
    refine r_n false rfl (by decide) rfl ?_
    refine r_n false rfl (by decide) rfl ?_
    refine r_n false rfl (by decide) rfl ?_
    refine r_v (Value.bool (false)) rfl rfl rfl rfl ?_
    refine r_v (Value.bool (false)) rfl rfl rfl rfl ?_
    refine r_n false rfl (by decide) rfl ?_
    refine r_n false rfl (by decide) rfl ?_
    refine r_n false rfl (by decide) rfl ?_
    refine r_n false rfl (by decide) rfl ?_
    refine r_n false rfl (by decide) rfl ?_
    refine r_v (Value.bool (false)) rfl rfl rfl rfl ?_
    refine r_v (Value.bool (false)) rfl rfl rfl rfl ?_
    refine r_n false rfl (by decide) rfl ?_
    refine r_n false rfl (by decide) rfl ?_
    refine r_n false rfl (by decide) rfl ?_
    refine r_n false rfl (by decide) rfl ?_
    refine r_n false rfl (by decide) rfl ?_
    refine r_n false rfl (by decide) rfl ?_
    refine r_v (Value.bool (false)) rfl rfl rfl rfl ?_
    refine r_v (Value.bool (false)) rfl rfl rfl rfl ?_
    refine lx_nil ?_
    refine hK12 _ _ ?_; try clear hK12 K12
    refine A_gen [(0, Value.bool (false))] rfl (fun T => ?_)
    obtain rfl := Option.some.inj hM
    refine A_ret (fun hn => ends_eq (v0 := Value.bool (false)) rfl (res1 rfl))
def shunterref06_Skip_l4 (s : List UInt8) (rec_shunterref06_Skip_l2 : Int → Option (Int)) : Nat → Int → Option (Int)
  | 0, _ => none
  | n11 + 1, at3_ => if (at3_ : Int) < ((s).length : Int) then ck ((0 : Int) ≤ at3_ ∧ at3_ < ((s).length : Int)) (if ((byteAt (s) (at3_)) : Int) ≠ 10 then ck ((-9223372036854775808 ≤ (at3_ + 1) ∧ (at3_ + 1) ≤ 9223372036854775807)) ((shunterref06_Skip_l4 s rec_shunterref06_Skip_l2 n11) ((at3_ + 1))) else rec_shunterref06_Skip_l2 (at3_)) else rec_shunterref06_Skip_l2 (at3_)
def shunterref06_Skip_k6 (at1_ : Int) (rec_shunterref06_Skip_l2 : Int → Option (Int)) (x5_ : Bool) : Option (Int) := if (x5_) = true then ck ((-9223372036854775808 ≤ (at1_ + 1) ∧ (at1_ + 1) ≤ 9223372036854775807)) (rec_shunterref06_Skip_l2 ((at1_ + 1))) else some (at1_)
def shunterref06_Skip_l2 (N : Nat) (s : List UInt8) : Nat → Int → Option (Int)
  | 0, _ => none
  | n3 + 1, at1_ => if (at1_ : Int) < ((s).length : Int) then ck ((0 : Int) ≤ at1_ ∧ at1_ < ((s).length : Int)) (if ((byteAt (s) (at1_)) : Int) = 35 then shunterref06_Skip_l4 s (shunterref06_Skip_l2 N s n3) N (at1_) else if ((byteAt (s) (at1_)) : Int) = 32 then shunterref06_Skip_k6 at1_ (shunterref06_Skip_l2 N s n3) (true) else if ((byteAt (s) (at1_)) : Int) = 9 then shunterref06_Skip_k6 at1_ (shunterref06_Skip_l2 N s n3) (true) else if ((byteAt (s) (at1_)) : Int) = 10 then shunterref06_Skip_k6 at1_ (shunterref06_Skip_l2 N s n3) (true) else shunterref06_Skip_k6 at1_ (shunterref06_Skip_l2 N s n3) ((((byteAt (s) (at1_)) : Int) == 13))) else some (at1_)
def shunterref06_Skip_m (N : Nat) (s : List UInt8) (at' : Int) : Option (Int) := shunterref06_Skip_l2 N s N (at')
set_option maxRecDepth 100000 in
set_option maxHeartbeats 8000000 in
theorem shunterref06_Skip_g (N : Nat) (s : List UInt8) (at' : Int) (r : Int) (hM : shunterref06_Skip_m N s at' = some r) : Gives Try.prog 14 #[Value.string (⟨(s).toArray⟩), Value.int .i64 (at')] (Value.int .i64 (r)) := by
  unfold shunterref06_Skip_m at hM
  refine gives_of_A follows Try.func14 rfl 45 rfl (upd (upd (fun _ => undef) 1 (Value.int .i64 (at'))) 0 (Value.string (⟨(s).toArray⟩))) (by funext k; match k with | 0 => rfl | 1 => rfl | k + 2 => rfl) (fun base0_ => ?_)
  refine A_seq fun K1 hK1 => ?_
  refine A_reg ?_
  refine r_v (Value.int .i64 (0)) rfl rfl rfl rfl ?_
  refine lx_nil ?_
  refine hK1 _ _ ?_; try clear hK1 K1
  refine A_seq fun K2 hK2 => ?_
  refine A_block ?_
  refine A_loop (fun tt ll nn => ∃ (n3 : Nat) (at1_ : Int), (shunterref06_Skip_l2 N s n3 at1_ = some r) ∧ Is [(0, Value.string (⟨(s).toArray⟩)), (1, Value.int .i64 (at1_))] [] tt ll ∧ nn = n3 + 1) (N + 1) ?_ ?_
  · exact ⟨N, at', hM, is_mk rfl rfl, rfl⟩
  · clear hM; rintro t l _ ⟨n3, at1_, hM, ⟨⟨T, rfl⟩, rfl⟩, rfl⟩
    rcases n3 with _ | n3
    · exact absurd hM (by simp [shunterref06_Skip_l2])
    rw [shunterref06_Skip_l2] at hM
    refine A_seq fun K4 hK4 => ?_
    refine A_seq fun K5 hK5 => ?_
    refine A_reg ?_
    refine r_v (Value.int .i64 (at1_)) rfl rfl rfl rfl ?_
    refine r_v (Value.string (⟨(s).toArray⟩)) rfl rfl rfl rfl ?_
    refine r_v (Value.int .i64 (((s).length : Int))) rfl rfl rfl (ev_lenS rfl rfl rfl) ?_
    refine r_v (Value.bool (decide ((at1_ : Int) < ((s).length : Int)))) rfl rfl rfl rfl ?_
    refine lx_nil ?_
    refine hK5 _ _ ?_; try clear hK5 K5
    refine A_cond (decide ((at1_ : Int) < ((s).length : Int))) rfl (fun hc6 => ?_) (fun hc6 => ?_)
    · replace hM := ifp (of_decide_eq_true hc6) hM
      refine A_skip ?_
      refine hK4 _ _ ?_; try clear hK4 K4
      refine A_block ?_
      refine A_seq fun K7 hK7 => ?_
      refine A_reg ?_
      refine r_v (Value.string (⟨(s).toArray⟩)) rfl rfl rfl rfl ?_
      refine r_v (Value.int .i64 (at1_)) rfl rfl rfl rfl ?_
      replace hM := ck_some hM; obtain ⟨ck8, hM⟩ := hM
      refine r_v (Value.int .u8 ((byteAt (s) (at1_)))) rfl rfl rfl (ev_v (ev_indexS rfl ck8)) ?_
      refine r_v (Value.int .u8 ((byteAt (s) (at1_)))) rfl rfl rfl rfl ?_
      refine lx_nil ?_
      refine hK7 _ _ ?_; try clear hK7 K7
      refine A_seq fun K9 hK9 => ?_
      refine A_reg ?_
      refine r_v (Value.int .u8 ((byteAt (s) (at1_)))) rfl rfl rfl rfl ?_
      refine r_v (Value.bool ((((byteAt (s) (at1_)) : Int) == 35))) rfl rfl rfl rfl ?_
      refine lx_nil ?_
      refine hK9 _ _ ?_; try clear hK9 K9
      refine A_cond ((((byteAt (s) (at1_)) : Int) == 35)) rfl (fun hc10 => ?_) (fun hc10 => ?_)
      · replace hM := ifp (eq_of_beq hc10) hM
        refine A_block ?_
        refine A_loop (fun tt ll nn => ∃ (n11 : Nat) (at3_ : Int), (shunterref06_Skip_l4 s (shunterref06_Skip_l2 N s n3) n11 at3_ = some r) ∧ Is [(0, Value.string (⟨(s).toArray⟩)), (1, Value.int .i64 (at3_))] [] tt ll ∧ nn = n11 + 1) (N + 1) ?_ ?_
        · exact ⟨N, at1_, hM, is_mk rfl rfl, rfl⟩
        · clear hM; rintro t l _ ⟨n11, at3_, hM, ⟨⟨T, rfl⟩, rfl⟩, rfl⟩
          rcases n11 with _ | n11
          · exact absurd hM (by simp [shunterref06_Skip_l4])
          rw [shunterref06_Skip_l4] at hM
          refine A_seq fun K12 hK12 => ?_
          refine A_seq fun K13 hK13 => ?_
          refine A_reg ?_
          refine r_v (Value.int .i64 (at3_)) rfl rfl rfl rfl ?_
          refine r_v (Value.string (⟨(s).toArray⟩)) rfl rfl rfl rfl ?_
          refine r_v (Value.int .i64 (((s).length : Int))) rfl rfl rfl (ev_lenS rfl rfl rfl) ?_
          refine r_v (Value.bool (decide ((at3_ : Int) < ((s).length : Int)))) rfl rfl rfl rfl ?_
          refine r_v (Value.bool (decide ((at3_ : Int) < ((s).length : Int)))) rfl rfl rfl rfl ?_
          rcases hg14 : (decide ((at3_ : Int) < ((s).length : Int))) with _ | _
          · replace hM := ifn (of_decide_eq_false hg14) hM
            refine r_n false rfl (by decide) rfl ?_
            refine r_n false rfl (by decide) rfl ?_
            refine r_n false rfl (by decide) rfl ?_
            refine r_n false rfl (by decide) rfl ?_
            refine r_v (Value.bool (false)) rfl rfl rfl rfl ?_
            refine lx_nil ?_
            refine hK13 _ _ ?_; try clear hK13 K13
            refine A_cond false rfl (fun h_ => nomatch h_) (fun _ => ?_)
            refine A_exit ?_
            refine fg _ (Sub.of (List.Sublist.slnil)) ?_
            exact ⟨n3 + 1, by omega, n3, at3_, hM, is_mk (by first | rfl | (simp only [hg14]; done) | (simp only [hg14]; rfl) | (simp only [app_hl]; rfl)) rfl, rfl⟩
          · replace hM := ifp (of_decide_eq_true hg14) hM
            refine r_y rfl ?_
            refine r_v (Value.string (⟨(s).toArray⟩)) rfl rfl rfl rfl ?_
            refine r_y rfl ?_
            refine r_v (Value.int .i64 (at3_)) rfl rfl rfl rfl ?_
            refine r_y rfl ?_
            replace hM := ck_some hM; obtain ⟨ck15, hM⟩ := hM
            refine r_v (Value.int .u8 ((byteAt (s) (at3_)))) rfl rfl rfl (ev_v (ev_indexS rfl ck15)) ?_
            refine r_y rfl ?_
            refine r_v (Value.bool ((((byteAt (s) (at3_)) : Int) != 10))) rfl rfl rfl rfl ?_
            refine r_v (Value.bool ((((byteAt (s) (at3_)) : Int) != 10))) rfl rfl rfl rfl ?_
            refine lx_nil ?_
            refine hK13 _ _ ?_; try clear hK13 K13
            refine A_cond ((((byteAt (s) (at3_)) : Int) != 10)) rfl (fun hc16 => ?_) (fun hc16 => ?_)
            · replace hM := ifp (bne_iff_ne.1 hc16) hM
              refine A_skip ?_
              refine hK12 _ _ ?_; try clear hK12 K12
              refine A_block ?_
              refine A_reg ?_
              refine r_v (Value.int .i64 (at3_)) rfl rfl rfl rfl ?_
              replace hM := ck_some hM; obtain ⟨ck17, hM⟩ := hM
              refine r_v (Value.int .i64 ((at3_ + 1))) rfl rfl (wi64 rfl ck17.1 ck17.2) rfl ?_
              refine r_v (Value.int .i64 ((at3_ + 1))) rfl rfl rfl rfl ?_
              refine lx_nil ?_
              refine fg _ (Sub.of (List.Sublist.slnil)) ?_
              exact ⟨n11 + 1, by omega, n11, (at3_ + 1), hM, is_mk (by first | rfl | (simp only [hg14]; done) | (simp only [hg14]; rfl) | (simp only [app_hl]; rfl)) rfl, rfl⟩
            · replace hM := ifn (bne_f hc16) hM
              refine A_exit ?_
              refine fg _ (Sub.of (List.Sublist.slnil)) ?_
              exact ⟨n3 + 1, by omega, n3, at3_, hM, is_mk (by first | rfl | (simp only [hg14]; done) | (simp only [hg14]; rfl) | (simp only [app_hl]; rfl)) rfl, rfl⟩
      · replace hM := ifn (ne_of_beq_false hc10) hM
        refine A_cut (fun tt ll => ∃ (x5_ : Bool), (shunterref06_Skip_k6 at1_ (shunterref06_Skip_l2 N s n3) x5_ = some r) ∧ Is [(0, Value.string (⟨(s).toArray⟩)), (1, Value.int .i64 (at1_)), (40, Value.bool (x5_))] [] tt ll) ?_ ?_
        · refine A_reg ?_
          refine r_v (Value.int .u8 ((byteAt (s) (at1_)))) rfl rfl rfl rfl ?_
          refine r_v (Value.bool ((((byteAt (s) (at1_)) : Int) == 32))) rfl rfl rfl rfl ?_
          refine r_v (Value.bool ((((byteAt (s) (at1_)) : Int) == 32))) rfl rfl rfl rfl ?_
          rcases hg21 : ((((byteAt (s) (at1_)) : Int) == 32)) with _ | _
          · replace hM := ifn (ne_of_beq_false hg21) hM
            refine r_y rfl ?_
            refine r_v (Value.int .u8 ((byteAt (s) (at1_)))) rfl rfl rfl rfl ?_
            refine r_y rfl ?_
            refine r_v (Value.bool ((((byteAt (s) (at1_)) : Int) == 9))) rfl rfl rfl rfl ?_
            refine r_v (Value.bool ((((byteAt (s) (at1_)) : Int) == 9))) rfl rfl rfl rfl ?_
            refine r_v (Value.bool ((((byteAt (s) (at1_)) : Int) == 9))) rfl rfl rfl rfl ?_
            rcases hg22 : ((((byteAt (s) (at1_)) : Int) == 9)) with _ | _
            · replace hM := ifn (ne_of_beq_false hg22) hM
              refine r_y rfl ?_
              refine r_v (Value.int .u8 ((byteAt (s) (at1_)))) rfl rfl rfl rfl ?_
              refine r_y rfl ?_
              refine r_v (Value.bool ((((byteAt (s) (at1_)) : Int) == 10))) rfl rfl rfl rfl ?_
              refine r_v (Value.bool ((((byteAt (s) (at1_)) : Int) == 10))) rfl rfl rfl rfl ?_
              refine r_v (Value.bool ((((byteAt (s) (at1_)) : Int) == 10))) rfl rfl rfl rfl ?_
              rcases hg23 : ((((byteAt (s) (at1_)) : Int) == 10)) with _ | _
              · replace hM := ifn (ne_of_beq_false hg23) hM
                refine r_y rfl ?_
                refine r_v (Value.int .u8 ((byteAt (s) (at1_)))) rfl rfl rfl rfl ?_
                refine r_y rfl ?_
                refine r_v (Value.bool ((((byteAt (s) (at1_)) : Int) == 13))) rfl rfl rfl rfl ?_
                refine r_v (Value.bool ((((byteAt (s) (at1_)) : Int) == 13))) rfl rfl rfl rfl ?_
                refine lx_nil ?_
                refine fg _ (Sub.of (List.Sublist.slnil)) ?_
                exact ⟨(((byteAt (s) (at1_)) : Int) == 13), hM, is_mk (by first | rfl | (simp only [hg21, hg22, hg23]; done) | (simp only [hg21, hg22, hg23]; rfl) | (simp only [app_hl]; rfl)) rfl⟩
              · replace hM := ifp (eq_of_beq hg23) hM
                refine r_n true rfl (by decide) rfl ?_
                refine r_n true rfl (by decide) rfl ?_
                refine r_v (Value.bool (true)) rfl rfl rfl rfl ?_
                refine lx_nil ?_
                refine fg _ (Sub.of (List.Sublist.slnil)) ?_
                exact ⟨true, hM, is_mk (by first | rfl | (simp only [hg21, hg22, hg23]; done) | (simp only [hg21, hg22, hg23]; rfl) | (simp only [app_hl]; rfl)) rfl⟩
            · replace hM := ifp (eq_of_beq hg22) hM
              refine r_n true rfl (by decide) rfl ?_
              refine r_n true rfl (by decide) rfl ?_
              refine r_v (Value.bool (true)) rfl rfl rfl rfl ?_
              refine r_v (Value.bool (true)) rfl rfl rfl rfl ?_
              refine r_n true rfl (by decide) rfl ?_
              refine r_n true rfl (by decide) rfl ?_
              refine r_v (Value.bool (true)) rfl rfl rfl rfl ?_
              refine lx_nil ?_
              refine fg _ (Sub.of (List.Sublist.slnil)) ?_
              exact ⟨true, hM, is_mk (by first | rfl | (simp only [hg21, hg22]; done) | (simp only [hg21, hg22]; rfl) | (simp only [app_hl]; rfl)) rfl⟩
          · replace hM := ifp (eq_of_beq hg21) hM
            refine r_n true rfl (by decide) rfl ?_
            refine r_n true rfl (by decide) rfl ?_
            refine r_v (Value.bool (true)) rfl rfl rfl rfl ?_
            refine r_v (Value.bool (true)) rfl rfl rfl rfl ?_
            refine r_n true rfl (by decide) rfl ?_
            refine r_n true rfl (by decide) rfl ?_
            refine r_v (Value.bool (true)) rfl rfl rfl rfl ?_
            refine r_v (Value.bool (true)) rfl rfl rfl rfl ?_
            refine r_n true rfl (by decide) rfl ?_
            refine r_n true rfl (by decide) rfl ?_
            refine r_v (Value.bool (true)) rfl rfl rfl rfl ?_
            refine lx_nil ?_
            refine fg _ (Sub.of (List.Sublist.slnil)) ?_
            exact ⟨true, hM, is_mk (by first | rfl | (simp only [hg21]; done) | (simp only [hg21]; rfl) | (simp only [app_hl]; rfl)) rfl⟩
        · clear hM; rintro t l ⟨x5_, hM, ⟨T, rfl⟩, rfl⟩
          unfold shunterref06_Skip_k6 at hM
          refine A_cond (x5_) rfl (fun hc18 => ?_) (fun hc18 => ?_)
          · replace hM := ifp hc18 hM
            refine A_reg ?_
            refine r_v (Value.int .i64 (at1_)) rfl rfl rfl rfl ?_
            replace hM := ck_some hM; obtain ⟨ck19, hM⟩ := hM
            refine r_v (Value.int .i64 ((at1_ + 1))) rfl rfl (wi64 rfl ck19.1 ck19.2) rfl ?_
            refine r_v (Value.int .i64 ((at1_ + 1))) rfl rfl rfl rfl ?_
            refine lx_nil ?_
            refine fg _ (Sub.of (List.Sublist.slnil)) ?_
            exact ⟨n3 + 1, by omega, n3, (at1_ + 1), hM, is_mk rfl rfl, rfl⟩
          · replace hM := ifn (Bool.eq_false_iff.1 hc18) hM
            refine A_seq fun K20 hK20 => ?_
            refine A_reg ?_
            refine r_v (Value.int .i64 (at1_)) rfl rfl rfl rfl ?_
            refine r_v (Value.int .i64 (at1_)) rfl rfl rfl rfl ?_
            refine lx_nil ?_
            refine hK20 _ _ ?_; try clear hK20 K20
            obtain rfl := Option.some.inj hM
            refine A_ret (fun hn => ends_eq (v0 := Value.int .i64 (at1_)) rfl (res1 rfl))
    · replace hM := ifn (of_decide_eq_false hc6) hM
      refine A_exit ?_
      refine hK2 _ _ ?_; try clear hK2 K2
      refine A_seq fun K24 hK24 => ?_
      refine A_reg ?_
      refine r_v (Value.int .i64 (at1_)) rfl rfl rfl rfl ?_
      refine r_v (Value.int .i64 (at1_)) rfl rfl rfl rfl ?_
      refine lx_nil ?_
      refine hK24 _ _ ?_; try clear hK24 K24
      obtain rfl := Option.some.inj hM
      refine A_ret (fun hn => ends_eq (v0 := Value.int .i64 (at1_)) rfl (res1 rfl))
def shunterref05_more_m (_ : Nat) (c : UInt8) : Option (Bool) := if (((c.toNat : Nat) : Int) : Int) ≥ 128 then some (decide ((((c.toNat : Nat) : Int) : Int) < 192)) else some (false)
set_option maxRecDepth 100000 in
set_option maxHeartbeats 8000000 in
theorem shunterref05_more_g (N : Nat) (c : UInt8) (r : Bool) (hM : shunterref05_more_m N c = some r) : Gives Try.prog 28 #[Value.int .u8 (((c.toNat : Nat) : Int))] (Value.bool (r)) := by
  unfold shunterref05_more_m at hM
  refine gives_of_A follows Try.func28 rfl 9 rfl (upd (fun _ => undef) 0 (Value.int .u8 (((c.toNat : Nat) : Int)))) (by funext k; match k with | 0 => rfl | k + 1 => rfl) (fun base0_ => ?_)
  refine A_seq fun K1 hK1 => ?_
  refine A_reg ?_
  refine r_v (Value.bool (false)) rfl rfl rfl rfl ?_
  refine lx_nil ?_
  refine hK1 _ _ ?_; try clear hK1 K1
  refine A_seq fun K2 hK2 => ?_
  refine A_reg ?_
  refine r_v (Value.int .u8 (((c.toNat : Nat) : Int))) rfl rfl rfl rfl ?_
  refine r_v (Value.bool (decide ((((c.toNat : Nat) : Int) : Int) ≥ 128))) rfl rfl rfl rfl ?_
  refine r_v (Value.bool (decide ((((c.toNat : Nat) : Int) : Int) ≥ 128))) rfl rfl rfl rfl ?_
  rcases hg3 : (decide ((((c.toNat : Nat) : Int) : Int) ≥ 128)) with _ | _
  · replace hM := ifn (of_decide_eq_false hg3) hM
    refine r_n false rfl (by decide) rfl ?_
    refine r_n false rfl (by decide) rfl ?_
    refine r_v (Value.bool (false)) rfl rfl rfl rfl ?_
    refine r_v (Value.bool (false)) rfl rfl rfl rfl ?_
    refine lx_nil ?_
    refine hK2 _ _ ?_; try clear hK2 K2
    obtain rfl := Option.some.inj hM
    refine A_ret (fun hn => ends_eq (v0 := Value.bool (false)) rfl (res1 rfl))
  · replace hM := ifp (of_decide_eq_true hg3) hM
    refine r_y rfl ?_
    refine r_v (Value.int .u8 (((c.toNat : Nat) : Int))) rfl rfl rfl rfl ?_
    refine r_y rfl ?_
    refine r_v (Value.bool (decide ((((c.toNat : Nat) : Int) : Int) < 192))) rfl rfl rfl rfl ?_
    refine r_v (Value.bool (decide ((((c.toNat : Nat) : Int) : Int) < 192))) rfl rfl rfl rfl ?_
    refine r_v (Value.bool (decide ((((c.toNat : Nat) : Int) : Int) < 192))) rfl rfl rfl rfl ?_
    refine lx_nil ?_
    refine hK2 _ _ ?_; try clear hK2 K2
    obtain rfl := Option.some.inj hM
    refine A_ret (fun hn => ends_eq (v0 := Value.bool (decide ((((c.toNat : Nat) : Int) : Int) < 192))) rfl (res1 rfl))
def shunterref05_First_k5 (s : List UInt8) (x4_ : Bool) : Option (Int × Int) := if (x4_) = true then ck ((-9223372036854775808 ≤ ((((byteN (s) (0)).toNat : Nat) : Int) - 240) ∧ ((((byteN (s) (0)).toNat : Nat) : Int) - 240) ≤ 9223372036854775807)) (ck ((-9223372036854775808 ≤ (262144 * ((((byteN (s) (0)).toNat : Nat) : Int) - 240)) ∧ (262144 * ((((byteN (s) (0)).toNat : Nat) : Int) - 240)) ≤ 9223372036854775807)) (ck ((0 : Int) ≤ 1 ∧ 1 < ((s).length : Int)) (ck ((-9223372036854775808 ≤ ((((byteN (s) (1)).toNat : Nat) : Int) - 128) ∧ ((((byteN (s) (1)).toNat : Nat) : Int) - 128) ≤ 9223372036854775807)) (ck ((-9223372036854775808 ≤ (4096 * ((((byteN (s) (1)).toNat : Nat) : Int) - 128)) ∧ (4096 * ((((byteN (s) (1)).toNat : Nat) : Int) - 128)) ≤ 9223372036854775807)) (ck ((-9223372036854775808 ≤ ((262144 * ((((byteN (s) (0)).toNat : Nat) : Int) - 240)) + (4096 * ((((byteN (s) (1)).toNat : Nat) : Int) - 128))) ∧ ((262144 * ((((byteN (s) (0)).toNat : Nat) : Int) - 240)) + (4096 * ((((byteN (s) (1)).toNat : Nat) : Int) - 128))) ≤ 9223372036854775807)) (ck ((0 : Int) ≤ 2 ∧ 2 < ((s).length : Int)) (ck ((-9223372036854775808 ≤ ((((byteN (s) (2)).toNat : Nat) : Int) - 128) ∧ ((((byteN (s) (2)).toNat : Nat) : Int) - 128) ≤ 9223372036854775807)) (ck ((-9223372036854775808 ≤ (64 * ((((byteN (s) (2)).toNat : Nat) : Int) - 128)) ∧ (64 * ((((byteN (s) (2)).toNat : Nat) : Int) - 128)) ≤ 9223372036854775807)) (ck ((-9223372036854775808 ≤ (((262144 * ((((byteN (s) (0)).toNat : Nat) : Int) - 240)) + (4096 * ((((byteN (s) (1)).toNat : Nat) : Int) - 128))) + (64 * ((((byteN (s) (2)).toNat : Nat) : Int) - 128))) ∧ (((262144 * ((((byteN (s) (0)).toNat : Nat) : Int) - 240)) + (4096 * ((((byteN (s) (1)).toNat : Nat) : Int) - 128))) + (64 * ((((byteN (s) (2)).toNat : Nat) : Int) - 128))) ≤ 9223372036854775807)) (ck ((0 : Int) ≤ 3 ∧ 3 < ((s).length : Int)) (ck ((-9223372036854775808 ≤ ((((262144 * ((((byteN (s) (0)).toNat : Nat) : Int) - 240)) + (4096 * ((((byteN (s) (1)).toNat : Nat) : Int) - 128))) + (64 * ((((byteN (s) (2)).toNat : Nat) : Int) - 128))) + (((byteN (s) (3)).toNat : Nat) : Int)) ∧ ((((262144 * ((((byteN (s) (0)).toNat : Nat) : Int) - 240)) + (4096 * ((((byteN (s) (1)).toNat : Nat) : Int) - 128))) + (64 * ((((byteN (s) (2)).toNat : Nat) : Int) - 128))) + (((byteN (s) (3)).toNat : Nat) : Int)) ≤ 9223372036854775807)) (ck ((-9223372036854775808 ≤ (((((262144 * ((((byteN (s) (0)).toNat : Nat) : Int) - 240)) + (4096 * ((((byteN (s) (1)).toNat : Nat) : Int) - 128))) + (64 * ((((byteN (s) (2)).toNat : Nat) : Int) - 128))) + (((byteN (s) (3)).toNat : Nat) : Int)) - 128) ∧ (((((262144 * ((((byteN (s) (0)).toNat : Nat) : Int) - 240)) + (4096 * ((((byteN (s) (1)).toNat : Nat) : Int) - 128))) + (64 * ((((byteN (s) (2)).toNat : Nat) : Int) - 128))) + (((byteN (s) (3)).toNat : Nat) : Int)) - 128) ≤ 9223372036854775807)) (if ((((((262144 * ((((byteN (s) (0)).toNat : Nat) : Int) - 240)) + (4096 * ((((byteN (s) (1)).toNat : Nat) : Int) - 128))) + (64 * ((((byteN (s) (2)).toNat : Nat) : Int) - 128))) + (((byteN (s) (3)).toNat : Nat) : Int)) - 128) : Int) ≥ 65536 then if ((((((262144 * ((((byteN (s) (0)).toNat : Nat) : Int) - 240)) + (4096 * ((((byteN (s) (1)).toNat : Nat) : Int) - 128))) + (64 * ((((byteN (s) (2)).toNat : Nat) : Int) - 128))) + (((byteN (s) (3)).toNat : Nat) : Int)) - 128) : Int) ≤ 1114111 then some ((((((262144 * ((((byteN (s) (0)).toNat : Nat) : Int) - 240)) + (4096 * ((((byteN (s) (1)).toNat : Nat) : Int) - 128))) + (64 * ((((byteN (s) (2)).toNat : Nat) : Int) - 128))) + (((byteN (s) (3)).toNat : Nat) : Int)) - 128), 4) else some (65533, 1) else some (65533, 1)))))))))))))) else some (65533, 1)
def shunterref05_First_k3 (N : Nat) (s : List UInt8) : Option (Int × Int) := if ((((byteN (s) (0)).toNat : Nat) : Int) : Int) ≥ 240 then if ((((byteN (s) (0)).toNat : Nat) : Int) : Int) < 245 then if (((s).length : Int) : Int) ≥ 4 then ck ((0 : Int) ≤ 1 ∧ 1 < ((s).length : Int)) ((shunterref05_more_m N (byteN (s) (1))).bind fun r47 => if (r47) = true then ck ((0 : Int) ≤ 2 ∧ 2 < ((s).length : Int)) ((shunterref05_more_m N (byteN (s) (2))).bind fun r51 => if (r51) = true then ck ((0 : Int) ≤ 3 ∧ 3 < ((s).length : Int)) ((shunterref05_more_m N (byteN (s) (3))).bind fun r55 => shunterref05_First_k5 s (r55)) else shunterref05_First_k5 s (false)) else shunterref05_First_k5 s (false)) else shunterref05_First_k5 s (false) else shunterref05_First_k5 s (false) else shunterref05_First_k5 s (false)
def shunterref05_First_k7 (N : Nat) (s : List UInt8) (x6_ : Bool) : Option (Int × Int) := if (x6_) = true then ck ((-9223372036854775808 ≤ ((((byteN (s) (0)).toNat : Nat) : Int) - 224) ∧ ((((byteN (s) (0)).toNat : Nat) : Int) - 224) ≤ 9223372036854775807)) (ck ((-9223372036854775808 ≤ (4096 * ((((byteN (s) (0)).toNat : Nat) : Int) - 224)) ∧ (4096 * ((((byteN (s) (0)).toNat : Nat) : Int) - 224)) ≤ 9223372036854775807)) (ck ((0 : Int) ≤ 1 ∧ 1 < ((s).length : Int)) (ck ((-9223372036854775808 ≤ ((((byteN (s) (1)).toNat : Nat) : Int) - 128) ∧ ((((byteN (s) (1)).toNat : Nat) : Int) - 128) ≤ 9223372036854775807)) (ck ((-9223372036854775808 ≤ (64 * ((((byteN (s) (1)).toNat : Nat) : Int) - 128)) ∧ (64 * ((((byteN (s) (1)).toNat : Nat) : Int) - 128)) ≤ 9223372036854775807)) (ck ((-9223372036854775808 ≤ ((4096 * ((((byteN (s) (0)).toNat : Nat) : Int) - 224)) + (64 * ((((byteN (s) (1)).toNat : Nat) : Int) - 128))) ∧ ((4096 * ((((byteN (s) (0)).toNat : Nat) : Int) - 224)) + (64 * ((((byteN (s) (1)).toNat : Nat) : Int) - 128))) ≤ 9223372036854775807)) (ck ((0 : Int) ≤ 2 ∧ 2 < ((s).length : Int)) (ck ((-9223372036854775808 ≤ (((4096 * ((((byteN (s) (0)).toNat : Nat) : Int) - 224)) + (64 * ((((byteN (s) (1)).toNat : Nat) : Int) - 128))) + (((byteN (s) (2)).toNat : Nat) : Int)) ∧ (((4096 * ((((byteN (s) (0)).toNat : Nat) : Int) - 224)) + (64 * ((((byteN (s) (1)).toNat : Nat) : Int) - 128))) + (((byteN (s) (2)).toNat : Nat) : Int)) ≤ 9223372036854775807)) (ck ((-9223372036854775808 ≤ ((((4096 * ((((byteN (s) (0)).toNat : Nat) : Int) - 224)) + (64 * ((((byteN (s) (1)).toNat : Nat) : Int) - 128))) + (((byteN (s) (2)).toNat : Nat) : Int)) - 128) ∧ ((((4096 * ((((byteN (s) (0)).toNat : Nat) : Int) - 224)) + (64 * ((((byteN (s) (1)).toNat : Nat) : Int) - 128))) + (((byteN (s) (2)).toNat : Nat) : Int)) - 128) ≤ 9223372036854775807)) (if (((((4096 * ((((byteN (s) (0)).toNat : Nat) : Int) - 224)) + (64 * ((((byteN (s) (1)).toNat : Nat) : Int) - 128))) + (((byteN (s) (2)).toNat : Nat) : Int)) - 128) : Int) ≥ 2048 then if (((((4096 * ((((byteN (s) (0)).toNat : Nat) : Int) - 224)) + (64 * ((((byteN (s) (1)).toNat : Nat) : Int) - 128))) + (((byteN (s) (2)).toNat : Nat) : Int)) - 128) : Int) < 55296 then some (((((4096 * ((((byteN (s) (0)).toNat : Nat) : Int) - 224)) + (64 * ((((byteN (s) (1)).toNat : Nat) : Int) - 128))) + (((byteN (s) (2)).toNat : Nat) : Int)) - 128), 3) else if (((((4096 * ((((byteN (s) (0)).toNat : Nat) : Int) - 224)) + (64 * ((((byteN (s) (1)).toNat : Nat) : Int) - 128))) + (((byteN (s) (2)).toNat : Nat) : Int)) - 128) : Int) > 57343 then some (((((4096 * ((((byteN (s) (0)).toNat : Nat) : Int) - 224)) + (64 * ((((byteN (s) (1)).toNat : Nat) : Int) - 128))) + (((byteN (s) (2)).toNat : Nat) : Int)) - 128), 3) else shunterref05_First_k3 N s  else shunterref05_First_k3 N s ))))))))) else shunterref05_First_k3 N s 
def shunterref05_First_k2 (N : Nat) (s : List UInt8) (x1_ : Bool) : Option (Int × Int) := if (x1_) = true then ck ((-9223372036854775808 ≤ ((((byteN (s) (0)).toNat : Nat) : Int) - 192) ∧ ((((byteN (s) (0)).toNat : Nat) : Int) - 192) ≤ 9223372036854775807)) (ck ((-9223372036854775808 ≤ (64 * ((((byteN (s) (0)).toNat : Nat) : Int) - 192)) ∧ (64 * ((((byteN (s) (0)).toNat : Nat) : Int) - 192)) ≤ 9223372036854775807)) (ck ((0 : Int) ≤ 1 ∧ 1 < ((s).length : Int)) (ck ((-9223372036854775808 ≤ ((64 * ((((byteN (s) (0)).toNat : Nat) : Int) - 192)) + (((byteN (s) (1)).toNat : Nat) : Int)) ∧ ((64 * ((((byteN (s) (0)).toNat : Nat) : Int) - 192)) + (((byteN (s) (1)).toNat : Nat) : Int)) ≤ 9223372036854775807)) (ck ((-9223372036854775808 ≤ (((64 * ((((byteN (s) (0)).toNat : Nat) : Int) - 192)) + (((byteN (s) (1)).toNat : Nat) : Int)) - 128) ∧ (((64 * ((((byteN (s) (0)).toNat : Nat) : Int) - 192)) + (((byteN (s) (1)).toNat : Nat) : Int)) - 128) ≤ 9223372036854775807)) (some ((((64 * ((((byteN (s) (0)).toNat : Nat) : Int) - 192)) + (((byteN (s) (1)).toNat : Nat) : Int)) - 128), 2)))))) else if ((((byteN (s) (0)).toNat : Nat) : Int) : Int) ≥ 224 then if ((((byteN (s) (0)).toNat : Nat) : Int) : Int) < 240 then if (((s).length : Int) : Int) ≥ 3 then ck ((0 : Int) ≤ 1 ∧ 1 < ((s).length : Int)) ((shunterref05_more_m N (byteN (s) (1))).bind fun r78 => if (r78) = true then ck ((0 : Int) ≤ 2 ∧ 2 < ((s).length : Int)) ((shunterref05_more_m N (byteN (s) (2))).bind fun r82 => shunterref05_First_k7 N s (r82)) else shunterref05_First_k7 N s (false)) else shunterref05_First_k7 N s (false) else shunterref05_First_k7 N s (false) else shunterref05_First_k7 N s (false)
def shunterref05_First_m (N : Nat) (s : List UInt8) : Option (Int × Int) := if (((s).length : Int) : Int) = 0 then some (65533, 0) else ck ((0 : Int) ≤ 0 ∧ 0 < ((s).length : Int)) (if ((((byteN (s) (0)).toNat : Nat) : Int) : Int) < 128 then some ((((byteN (s) (0)).toNat : Nat) : Int), 1) else if ((((byteN (s) (0)).toNat : Nat) : Int) : Int) ≥ 194 then if ((((byteN (s) (0)).toNat : Nat) : Int) : Int) < 224 then if (((s).length : Int) : Int) ≥ 2 then ck ((0 : Int) ≤ 1 ∧ 1 < ((s).length : Int)) ((shunterref05_more_m N (byteN (s) (1))).bind fun r88 => shunterref05_First_k2 N s (r88)) else shunterref05_First_k2 N s (false) else shunterref05_First_k2 N s (false) else shunterref05_First_k2 N s (false))
set_option maxRecDepth 100000 in
set_option maxHeartbeats 8000000 in
theorem shunterref05_First_g (N : Nat) (s : List UInt8) (r : Int × Int) (hM : shunterref05_First_m N s = some r) : Gives Try.prog 15 #[Value.string (⟨(s).toArray⟩)] (Value.tuple #[Value.int .i64 (r.1), Value.int .i64 (r.2)]) := by
  unfold shunterref05_First_m at hM
  refine gives_of_A follows Try.func15 rfl 139 rfl (upd (fun _ => undef) 0 (Value.string (⟨(s).toArray⟩))) (by funext k; match k with | 0 => rfl | k + 1 => rfl) (fun base0_ => ?_)
  refine A_seq fun K1 hK1 => ?_
  refine A_reg ?_
  refine r_v (Value.int .i64 (0)) rfl rfl rfl rfl ?_
  refine r_v (Value.int .i64 (0)) rfl rfl rfl rfl ?_
  refine lx_nil ?_
  refine hK1 _ _ ?_; try clear hK1 K1
  refine A_seq fun K2 hK2 => ?_
  refine A_seq fun K3 hK3 => ?_
  refine A_reg ?_
  refine r_v (Value.string (⟨(s).toArray⟩)) rfl rfl rfl rfl ?_
  refine r_v (Value.int .i64 (((s).length : Int))) rfl rfl rfl (ev_lenS rfl rfl rfl) ?_
  refine r_v (Value.bool (((((s).length : Int) : Int) == 0))) rfl rfl rfl rfl ?_
  refine lx_nil ?_
  refine hK3 _ _ ?_; try clear hK3 K3
  refine A_cond (((((s).length : Int) : Int) == 0)) rfl (fun hc4 => ?_) (fun hc4 => ?_)
  · replace hM := ifp (eq_of_beq hc4) hM
    refine A_seq fun K5 hK5 => ?_
    refine A_reg ?_
    refine r_v (Value.int .i64 (65533)) rfl rfl rfl rfl ?_
    refine r_v (Value.int .i64 (0)) rfl rfl rfl rfl ?_
    refine lx_nil ?_
    refine hK5 _ _ ?_; try clear hK5 K5
    obtain rfl := Option.some.inj hM
    refine A_ret (fun hn => ends_eq (v0 := Value.tuple #[Value.int .i64 (65533), Value.int .i64 (0)]) rfl (res2 rfl rfl))
  · replace hM := ifn (ne_of_beq_false hc4) hM
    refine A_skip ?_
    refine hK2 _ _ ?_; try clear hK2 K2
    refine A_seq fun K6 hK6 => ?_
    refine A_reg ?_
    refine r_v (Value.string (⟨(s).toArray⟩)) rfl rfl rfl rfl ?_
    replace hM := ck_some hM; obtain ⟨ck7, hM⟩ := hM
    refine r_v (Value.int .u8 ((byteAt (s) (0)))) rfl rfl rfl (ev_v (ev_indexS rfl ck7)) ?_
    refine r_w (Value.int .i64 ((((byteN (s) (0)).toNat : Nat) : Int))) rfl rfl (u8_i64 (byteN (s) (0))) (fun _ => rfl) ?_
    refine r_v (Value.int .i64 ((((byteN (s) (0)).toNat : Nat) : Int))) rfl rfl rfl rfl ?_
    refine lx_nil ?_
    refine hK6 _ _ ?_; try clear hK6 K6
    refine A_seq fun K8 hK8 => ?_
    refine A_seq fun K9 hK9 => ?_
    refine A_reg ?_
    refine r_v (Value.int .i64 ((((byteN (s) (0)).toNat : Nat) : Int))) rfl rfl rfl rfl ?_
    refine r_v (Value.bool (decide (((((byteN (s) (0)).toNat : Nat) : Int) : Int) < 128))) rfl rfl rfl rfl ?_
    refine lx_nil ?_
    refine hK9 _ _ ?_; try clear hK9 K9
    refine A_cond (decide (((((byteN (s) (0)).toNat : Nat) : Int) : Int) < 128)) rfl (fun hc10 => ?_) (fun hc10 => ?_)
    · replace hM := ifp (of_decide_eq_true hc10) hM
      refine A_seq fun K11 hK11 => ?_
      refine A_reg ?_
      refine r_v (Value.int .i64 ((((byteN (s) (0)).toNat : Nat) : Int))) rfl rfl rfl rfl ?_
      refine r_v (Value.int .i64 ((((byteN (s) (0)).toNat : Nat) : Int))) rfl rfl rfl rfl ?_
      refine r_v (Value.int .i64 (1)) rfl rfl rfl rfl ?_
      refine lx_nil ?_
      refine hK11 _ _ ?_; try clear hK11 K11
      obtain rfl := Option.some.inj hM
      refine A_ret (fun hn => ends_eq (v0 := Value.tuple #[Value.int .i64 ((((byteN (s) (0)).toNat : Nat) : Int)), Value.int .i64 (1)]) rfl (res2 rfl rfl))
    · replace hM := ifn (of_decide_eq_false hc10) hM
      refine A_skip ?_
      refine hK8 _ _ ?_; try clear hK8 K8
      refine A_seq fun K12 hK12 => ?_
      refine A_cut (fun tt ll => ∃ (x1_ : Bool), (shunterref05_First_k2 N s x1_ = some r) ∧ Is [(0, Value.string (⟨(s).toArray⟩)), (4, Value.int .i64 ((((byteN (s) (0)).toNat : Nat) : Int))), (31, Value.bool (x1_))] [] tt ll) ?_ ?_
      · refine A_reg ?_
        refine r_v (Value.int .i64 ((((byteN (s) (0)).toNat : Nat) : Int))) rfl rfl rfl rfl ?_
        refine r_v (Value.bool (decide (((((byteN (s) (0)).toNat : Nat) : Int) : Int) ≥ 194))) rfl rfl rfl rfl ?_
        refine r_v (Value.bool (decide (((((byteN (s) (0)).toNat : Nat) : Int) : Int) ≥ 194))) rfl rfl rfl rfl ?_
        rcases hg84 : (decide (((((byteN (s) (0)).toNat : Nat) : Int) : Int) ≥ 194)) with _ | _
        · replace hM := ifn (of_decide_eq_false hg84) hM
          refine r_n false rfl (by decide) rfl ?_
          refine r_n false rfl (by decide) rfl ?_
          refine r_v (Value.bool (false)) rfl rfl rfl rfl ?_
          refine r_v (Value.bool (false)) rfl rfl rfl rfl ?_
          refine r_n false rfl (by decide) rfl ?_
          refine r_n false rfl (by decide) rfl ?_
          refine r_n false rfl (by decide) rfl ?_
          refine r_v (Value.bool (false)) rfl rfl rfl rfl ?_
          refine r_v (Value.bool (false)) rfl rfl rfl rfl ?_
          refine r_n false rfl (by decide) rfl ?_
          refine r_n false rfl (by decide) rfl ?_
          refine r_n false rfl (by decide) rfl ?_
          refine r_v (Value.bool (false)) rfl rfl rfl rfl ?_
          refine lx_nil ?_
          refine fg _ (Sub.of (List.Sublist.slnil)) ?_
          exact ⟨false, hM, is_mk (by first | rfl | (simp only [hg84]; done) | (simp only [hg84]; rfl) | (simp only [app_hl]; rfl)) rfl⟩
        · replace hM := ifp (of_decide_eq_true hg84) hM
          refine r_y rfl ?_
          refine r_v (Value.int .i64 ((((byteN (s) (0)).toNat : Nat) : Int))) rfl rfl rfl rfl ?_
          refine r_y rfl ?_
          refine r_v (Value.bool (decide (((((byteN (s) (0)).toNat : Nat) : Int) : Int) < 224))) rfl rfl rfl rfl ?_
          refine r_v (Value.bool (decide (((((byteN (s) (0)).toNat : Nat) : Int) : Int) < 224))) rfl rfl rfl rfl ?_
          refine r_v (Value.bool (decide (((((byteN (s) (0)).toNat : Nat) : Int) : Int) < 224))) rfl rfl rfl rfl ?_
          rcases hg85 : (decide (((((byteN (s) (0)).toNat : Nat) : Int) : Int) < 224)) with _ | _
          · replace hM := ifn (of_decide_eq_false hg85) hM
            refine r_n false rfl (by decide) rfl ?_
            refine r_n false rfl (by decide) rfl ?_
            refine r_n false rfl (by decide) rfl ?_
            refine r_v (Value.bool (false)) rfl rfl rfl rfl ?_
            refine r_v (Value.bool (false)) rfl rfl rfl rfl ?_
            refine r_n false rfl (by decide) rfl ?_
            refine r_n false rfl (by decide) rfl ?_
            refine r_n false rfl (by decide) rfl ?_
            refine r_v (Value.bool (false)) rfl rfl rfl rfl ?_
            refine lx_nil ?_
            refine fg _ (Sub.of (List.Sublist.slnil)) ?_
            exact ⟨false, hM, is_mk (by first | rfl | (simp only [hg84, hg85]; done) | (simp only [hg84, hg85]; rfl) | (simp only [app_hl]; rfl)) rfl⟩
          · replace hM := ifp (of_decide_eq_true hg85) hM
            refine r_y rfl ?_
            refine r_v (Value.string (⟨(s).toArray⟩)) rfl rfl rfl rfl ?_
            refine r_y rfl ?_
            refine r_v (Value.int .i64 (((s).length : Int))) rfl rfl rfl (ev_lenS rfl rfl rfl) ?_
            refine r_y rfl ?_
            refine r_v (Value.bool (decide ((((s).length : Int) : Int) ≥ 2))) rfl rfl rfl rfl ?_
            refine r_v (Value.bool (decide ((((s).length : Int) : Int) ≥ 2))) rfl rfl rfl rfl ?_
            refine r_v (Value.bool (decide ((((s).length : Int) : Int) ≥ 2))) rfl rfl rfl rfl ?_
            rcases hg86 : (decide ((((s).length : Int) : Int) ≥ 2)) with _ | _
            · replace hM := ifn (of_decide_eq_false hg86) hM
              refine r_n false rfl (by decide) rfl ?_
              refine r_n false rfl (by decide) rfl ?_
              refine r_n false rfl (by decide) rfl ?_
              refine r_v (Value.bool (false)) rfl rfl rfl rfl ?_
              refine lx_nil ?_
              refine fg _ (Sub.of (List.Sublist.slnil)) ?_
              exact ⟨false, hM, is_mk (by first | rfl | (simp only [hg84, hg85, hg86]; done) | (simp only [hg84, hg85, hg86]; rfl) | (simp only [app_hl]; rfl)) rfl⟩
            · replace hM := ifp (of_decide_eq_true hg86) hM
              refine r_y rfl ?_
              refine r_v (Value.string (⟨(s).toArray⟩)) rfl rfl rfl rfl ?_
              refine r_y rfl ?_
              replace hM := ck_some hM; obtain ⟨ck87, hM⟩ := hM
              refine r_v (Value.int .u8 ((byteAt (s) (1)))) rfl rfl rfl (ev_v (ev_indexS rfl ck87)) ?_
              refine r_y rfl ?_
              replace hM := bind_sm hM; obtain ⟨r88, hr89, hM⟩ := hM
              refine r_c (Value.bool (r88)) rfl _ _ (ev_callF rfl call_28 rfl) (shunterref05_more_g N (byteN (s) (1)) _ hr89) ?_
              refine r_v (Value.bool (r88)) rfl rfl rfl rfl ?_
              refine lx_nil ?_
              refine fg _ (Sub.of (List.Sublist.slnil)) ?_
              exact ⟨r88, hM, is_mk (by first | rfl | (simp only [hg84, hg85, hg86]; done) | (simp only [hg84, hg85, hg86]; rfl) | (simp only [app_hl]; rfl)) rfl⟩
      · clear hM; rintro t l ⟨x1_, hM, ⟨T, rfl⟩, rfl⟩
        unfold shunterref05_First_k2 at hM
        refine A_cond (x1_) rfl (fun hc13 => ?_) (fun hc13 => ?_)
        · replace hM := ifp hc13 hM
          refine A_seq fun K14 hK14 => ?_
          refine A_reg ?_
          refine r_v (Value.int .i64 ((((byteN (s) (0)).toNat : Nat) : Int))) rfl rfl rfl rfl ?_
          replace hM := ck_some hM; obtain ⟨ck15, hM⟩ := hM
          refine r_v (Value.int .i64 (((((byteN (s) (0)).toNat : Nat) : Int) - 192))) rfl rfl (wi64 rfl ck15.1 ck15.2) rfl ?_
          replace hM := ck_some hM; obtain ⟨ck16, hM⟩ := hM
          refine r_v (Value.int .i64 ((64 * ((((byteN (s) (0)).toNat : Nat) : Int) - 192)))) rfl rfl (wi64 rfl ck16.1 ck16.2) rfl ?_
          refine r_v (Value.string (⟨(s).toArray⟩)) rfl rfl rfl rfl ?_
          replace hM := ck_some hM; obtain ⟨ck17, hM⟩ := hM
          refine r_v (Value.int .u8 ((byteAt (s) (1)))) rfl rfl rfl (ev_v (ev_indexS rfl ck17)) ?_
          refine r_w (Value.int .i64 ((((byteN (s) (1)).toNat : Nat) : Int))) rfl rfl (u8_i64 (byteN (s) (1))) (fun _ => rfl) ?_
          replace hM := ck_some hM; obtain ⟨ck18, hM⟩ := hM
          refine r_v (Value.int .i64 (((64 * ((((byteN (s) (0)).toNat : Nat) : Int) - 192)) + (((byteN (s) (1)).toNat : Nat) : Int)))) rfl rfl (wi64 rfl ck18.1 ck18.2) rfl ?_
          replace hM := ck_some hM; obtain ⟨ck19, hM⟩ := hM
          refine r_v (Value.int .i64 ((((64 * ((((byteN (s) (0)).toNat : Nat) : Int) - 192)) + (((byteN (s) (1)).toNat : Nat) : Int)) - 128))) rfl rfl (wi64 rfl ck19.1 ck19.2) rfl ?_
          refine r_v (Value.int .i64 ((((64 * ((((byteN (s) (0)).toNat : Nat) : Int) - 192)) + (((byteN (s) (1)).toNat : Nat) : Int)) - 128))) rfl rfl rfl rfl ?_
          refine r_v (Value.int .i64 (2)) rfl rfl rfl rfl ?_
          refine lx_nil ?_
          refine hK14 _ _ ?_; try clear hK14 K14
          obtain rfl := Option.some.inj hM
          refine A_ret (fun hn => ends_eq (v0 := Value.tuple #[Value.int .i64 ((((64 * ((((byteN (s) (0)).toNat : Nat) : Int) - 192)) + (((byteN (s) (1)).toNat : Nat) : Int)) - 128)), Value.int .i64 (2)]) rfl (res2 rfl rfl))
        · replace hM := ifn (Bool.eq_false_iff.1 hc13) hM
          refine A_skip ?_
          refine hK12 _ _ ?_; try clear hK12 K12
          refine A_cut (fun tt ll => (shunterref05_First_k3 N s  = some r) ∧ Is [(0, Value.string (⟨(s).toArray⟩)), (4, Value.int .i64 ((((byteN (s) (0)).toNat : Nat) : Int)))] [] tt ll) ?_ ?_
          · refine A_cut (fun tt ll => ∃ (x6_ : Bool), (shunterref05_First_k7 N s x6_ = some r) ∧ Is [(0, Value.string (⟨(s).toArray⟩)), (4, Value.int .i64 ((((byteN (s) (0)).toNat : Nat) : Int))), (60, Value.bool (x6_))] [] tt ll) ?_ ?_
            · refine A_reg ?_
              refine r_v (Value.int .i64 ((((byteN (s) (0)).toNat : Nat) : Int))) rfl rfl rfl rfl ?_
              refine r_v (Value.bool (decide (((((byteN (s) (0)).toNat : Nat) : Int) : Int) ≥ 224))) rfl rfl rfl rfl ?_
              refine r_v (Value.bool (decide (((((byteN (s) (0)).toNat : Nat) : Int) : Int) ≥ 224))) rfl rfl rfl rfl ?_
              rcases hg74 : (decide (((((byteN (s) (0)).toNat : Nat) : Int) : Int) ≥ 224)) with _ | _
              · replace hM := ifn (of_decide_eq_false hg74) hM
                refine r_n false rfl (by decide) rfl ?_
                refine r_n false rfl (by decide) rfl ?_
                refine r_v (Value.bool (false)) rfl rfl rfl rfl ?_
                refine r_v (Value.bool (false)) rfl rfl rfl rfl ?_
                refine r_n false rfl (by decide) rfl ?_
                refine r_n false rfl (by decide) rfl ?_
                refine r_n false rfl (by decide) rfl ?_
                refine r_v (Value.bool (false)) rfl rfl rfl rfl ?_
                refine r_v (Value.bool (false)) rfl rfl rfl rfl ?_
                refine r_n false rfl (by decide) rfl ?_
                refine r_n false rfl (by decide) rfl ?_
                refine r_n false rfl (by decide) rfl ?_
                refine r_v (Value.bool (false)) rfl rfl rfl rfl ?_
                refine r_v (Value.bool (false)) rfl rfl rfl rfl ?_
                refine r_n false rfl (by decide) rfl ?_
                refine r_n false rfl (by decide) rfl ?_
                refine r_n false rfl (by decide) rfl ?_
                refine r_v (Value.bool (false)) rfl rfl rfl rfl ?_
                refine lx_nil ?_
                refine fg _ (Sub.of (List.Sublist.slnil)) ?_
                exact ⟨false, hM, is_mk (by first | rfl | (simp only [hg74]; done) | (simp only [hg74]; rfl) | (simp only [app_hl]; rfl)) rfl⟩
              · replace hM := ifp (of_decide_eq_true hg74) hM
                refine r_y rfl ?_
                refine r_v (Value.int .i64 ((((byteN (s) (0)).toNat : Nat) : Int))) rfl rfl rfl rfl ?_
                refine r_y rfl ?_
                refine r_v (Value.bool (decide (((((byteN (s) (0)).toNat : Nat) : Int) : Int) < 240))) rfl rfl rfl rfl ?_
                refine r_v (Value.bool (decide (((((byteN (s) (0)).toNat : Nat) : Int) : Int) < 240))) rfl rfl rfl rfl ?_
                refine r_v (Value.bool (decide (((((byteN (s) (0)).toNat : Nat) : Int) : Int) < 240))) rfl rfl rfl rfl ?_
                rcases hg75 : (decide (((((byteN (s) (0)).toNat : Nat) : Int) : Int) < 240)) with _ | _
                · replace hM := ifn (of_decide_eq_false hg75) hM
                  refine r_n false rfl (by decide) rfl ?_
                  refine r_n false rfl (by decide) rfl ?_
                  refine r_n false rfl (by decide) rfl ?_
                  refine r_v (Value.bool (false)) rfl rfl rfl rfl ?_
                  refine r_v (Value.bool (false)) rfl rfl rfl rfl ?_
                  refine r_n false rfl (by decide) rfl ?_
                  refine r_n false rfl (by decide) rfl ?_
                  refine r_n false rfl (by decide) rfl ?_
                  refine r_v (Value.bool (false)) rfl rfl rfl rfl ?_
                  refine r_v (Value.bool (false)) rfl rfl rfl rfl ?_
                  refine r_n false rfl (by decide) rfl ?_
                  refine r_n false rfl (by decide) rfl ?_
                  refine r_n false rfl (by decide) rfl ?_
                  refine r_v (Value.bool (false)) rfl rfl rfl rfl ?_
                  refine lx_nil ?_
                  refine fg _ (Sub.of (List.Sublist.slnil)) ?_
                  exact ⟨false, hM, is_mk (by first | rfl | (simp only [hg74, hg75]; done) | (simp only [hg74, hg75]; rfl) | (simp only [app_hl]; rfl)) rfl⟩
                · replace hM := ifp (of_decide_eq_true hg75) hM
                  refine r_y rfl ?_
                  refine r_v (Value.string (⟨(s).toArray⟩)) rfl rfl rfl rfl ?_
                  refine r_y rfl ?_
                  refine r_v (Value.int .i64 (((s).length : Int))) rfl rfl rfl (ev_lenS rfl rfl rfl) ?_
                  refine r_y rfl ?_
                  refine r_v (Value.bool (decide ((((s).length : Int) : Int) ≥ 3))) rfl rfl rfl rfl ?_
                  refine r_v (Value.bool (decide ((((s).length : Int) : Int) ≥ 3))) rfl rfl rfl rfl ?_
                  refine r_v (Value.bool (decide ((((s).length : Int) : Int) ≥ 3))) rfl rfl rfl rfl ?_
                  rcases hg76 : (decide ((((s).length : Int) : Int) ≥ 3)) with _ | _
                  · replace hM := ifn (of_decide_eq_false hg76) hM
                    refine r_n false rfl (by decide) rfl ?_
                    refine r_n false rfl (by decide) rfl ?_
                    refine r_n false rfl (by decide) rfl ?_
                    refine r_v (Value.bool (false)) rfl rfl rfl rfl ?_
                    refine r_v (Value.bool (false)) rfl rfl rfl rfl ?_
                    refine r_n false rfl (by decide) rfl ?_
                    refine r_n false rfl (by decide) rfl ?_
                    refine r_n false rfl (by decide) rfl ?_
                    refine r_v (Value.bool (false)) rfl rfl rfl rfl ?_
                    refine lx_nil ?_
                    refine fg _ (Sub.of (List.Sublist.slnil)) ?_
                    exact ⟨false, hM, is_mk (by first | rfl | (simp only [hg74, hg75, hg76]; done) | (simp only [hg74, hg75, hg76]; rfl) | (simp only [app_hl]; rfl)) rfl⟩
                  · replace hM := ifp (of_decide_eq_true hg76) hM
                    refine r_y rfl ?_
                    refine r_v (Value.string (⟨(s).toArray⟩)) rfl rfl rfl rfl ?_
                    refine r_y rfl ?_
                    replace hM := ck_some hM; obtain ⟨ck77, hM⟩ := hM
                    refine r_v (Value.int .u8 ((byteAt (s) (1)))) rfl rfl rfl (ev_v (ev_indexS rfl ck77)) ?_
                    refine r_y rfl ?_
                    replace hM := bind_sm hM; obtain ⟨r78, hr79, hM⟩ := hM
                    refine r_c (Value.bool (r78)) rfl _ _ (ev_callF rfl call_28 rfl) (shunterref05_more_g N (byteN (s) (1)) _ hr79) ?_
                    refine r_v (Value.bool (r78)) rfl rfl rfl rfl ?_
                    refine r_v (Value.bool (r78)) rfl rfl rfl rfl ?_
                    rcases hg80 : (r78) with _ | _
                    · replace hM := ifn (Bool.eq_false_iff.1 hg80) hM
                      refine r_n false rfl (by decide) rfl ?_
                      refine r_n false rfl (by decide) rfl ?_
                      refine r_n false rfl (by decide) rfl ?_
                      refine r_v (Value.bool (false)) rfl rfl rfl rfl ?_
                      refine lx_nil ?_
                      refine fg _ (Sub.of (List.Sublist.slnil)) ?_
                      exact ⟨false, hM, is_mk (by first | rfl | (simp only [hg74, hg75, hg76, hg80]; done) | (simp only [hg74, hg75, hg76, hg80]; rfl) | (simp only [app_hl]; rfl)) rfl⟩
                    · replace hM := ifp hg80 hM
                      refine r_y rfl ?_
                      refine r_v (Value.string (⟨(s).toArray⟩)) rfl rfl rfl rfl ?_
                      refine r_y rfl ?_
                      replace hM := ck_some hM; obtain ⟨ck81, hM⟩ := hM
                      refine r_v (Value.int .u8 ((byteAt (s) (2)))) rfl rfl rfl (ev_v (ev_indexS rfl ck81)) ?_
                      refine r_y rfl ?_
                      replace hM := bind_sm hM; obtain ⟨r82, hr83, hM⟩ := hM
                      refine r_c (Value.bool (r82)) rfl _ _ (ev_callF rfl call_28 rfl) (shunterref05_more_g N (byteN (s) (2)) _ hr83) ?_
                      refine r_v (Value.bool (r82)) rfl rfl rfl rfl ?_
                      refine lx_nil ?_
                      refine fg _ (Sub.of (List.Sublist.slnil)) ?_
                      exact ⟨r82, hM, is_mk (by first | rfl | (simp only [hg74, hg75, hg76, hg80]; done) | (simp only [hg74, hg75, hg76, hg80]; rfl) | (simp only [app_hl]; rfl)) rfl⟩
            · clear hM; rintro t l ⟨x6_, hM, ⟨T, rfl⟩, rfl⟩
              unfold shunterref05_First_k7 at hM
              refine A_cond (x6_) rfl (fun hc57 => ?_) (fun hc57 => ?_)
              · replace hM := ifp hc57 hM
                refine A_seq fun K58 hK58 => ?_
                refine A_draw [] (by decide +kernel) (fun hn => sep_nil) ?_
                refine r_v (Value.int .i64 ((((byteN (s) (0)).toNat : Nat) : Int))) rfl rfl rfl rfl ?_
                replace hM := ck_some hM; obtain ⟨ck59, hM⟩ := hM
                refine r_v (Value.int .i64 (((((byteN (s) (0)).toNat : Nat) : Int) - 224))) rfl rfl (wi64 rfl ck59.1 ck59.2) rfl ?_
                replace hM := ck_some hM; obtain ⟨ck60, hM⟩ := hM
                refine r_v (Value.int .i64 ((4096 * ((((byteN (s) (0)).toNat : Nat) : Int) - 224)))) rfl rfl (wi64 rfl ck60.1 ck60.2) rfl ?_
                refine r_v (Value.string (⟨(s).toArray⟩)) rfl rfl rfl rfl ?_
                replace hM := ck_some hM; obtain ⟨ck61, hM⟩ := hM
                refine r_v (Value.int .u8 ((byteAt (s) (1)))) rfl rfl rfl (ev_v (ev_indexS rfl ck61)) ?_
                refine r_w (Value.int .i64 ((((byteN (s) (1)).toNat : Nat) : Int))) rfl rfl (u8_i64 (byteN (s) (1))) (fun _ => rfl) ?_
                replace hM := ck_some hM; obtain ⟨ck62, hM⟩ := hM
                refine r_v (Value.int .i64 (((((byteN (s) (1)).toNat : Nat) : Int) - 128))) rfl rfl (wi64 rfl ck62.1 ck62.2) rfl ?_
                replace hM := ck_some hM; obtain ⟨ck63, hM⟩ := hM
                refine r_v (Value.int .i64 ((64 * ((((byteN (s) (1)).toNat : Nat) : Int) - 128)))) rfl rfl (wi64 rfl ck63.1 ck63.2) rfl ?_
                replace hM := ck_some hM; obtain ⟨ck64, hM⟩ := hM
                refine r_v (Value.int .i64 (((4096 * ((((byteN (s) (0)).toNat : Nat) : Int) - 224)) + (64 * ((((byteN (s) (1)).toNat : Nat) : Int) - 128))))) rfl rfl (wi64 rfl ck64.1 ck64.2) rfl ?_
                refine r_v (Value.string (⟨(s).toArray⟩)) rfl rfl rfl rfl ?_
                replace hM := ck_some hM; obtain ⟨ck65, hM⟩ := hM
                refine r_v (Value.int .u8 ((byteAt (s) (2)))) rfl rfl rfl (ev_v (ev_indexS rfl ck65)) ?_
                refine r_w (Value.int .i64 ((((byteN (s) (2)).toNat : Nat) : Int))) rfl rfl (u8_i64 (byteN (s) (2))) (fun _ => rfl) ?_
                replace hM := ck_some hM; obtain ⟨ck66, hM⟩ := hM
                refine r_v (Value.int .i64 ((((4096 * ((((byteN (s) (0)).toNat : Nat) : Int) - 224)) + (64 * ((((byteN (s) (1)).toNat : Nat) : Int) - 128))) + (((byteN (s) (2)).toNat : Nat) : Int)))) rfl rfl (wi64 rfl ck66.1 ck66.2) rfl ?_
                replace hM := ck_some hM; obtain ⟨ck67, hM⟩ := hM
                refine r_v (Value.int .i64 (((((4096 * ((((byteN (s) (0)).toNat : Nat) : Int) - 224)) + (64 * ((((byteN (s) (1)).toNat : Nat) : Int) - 128))) + (((byteN (s) (2)).toNat : Nat) : Int)) - 128))) rfl rfl (wi64 rfl ck67.1 ck67.2) rfl ?_
                refine r_v (Value.int .i64 (((((4096 * ((((byteN (s) (0)).toNat : Nat) : Int) - 224)) + (64 * ((((byteN (s) (1)).toNat : Nat) : Int) - 128))) + (((byteN (s) (2)).toNat : Nat) : Int)) - 128))) rfl rfl rfl rfl ?_
                refine lx_nil ?_
                refine hK58 _ _ ?_; try clear hK58 K58
                refine A_seq fun K68 hK68 => ?_
                refine A_reg ?_
                refine r_v (Value.int .i64 (((((4096 * ((((byteN (s) (0)).toNat : Nat) : Int) - 224)) + (64 * ((((byteN (s) (1)).toNat : Nat) : Int) - 128))) + (((byteN (s) (2)).toNat : Nat) : Int)) - 128))) rfl rfl rfl rfl ?_
                refine r_v (Value.bool (decide ((((((4096 * ((((byteN (s) (0)).toNat : Nat) : Int) - 224)) + (64 * ((((byteN (s) (1)).toNat : Nat) : Int) - 128))) + (((byteN (s) (2)).toNat : Nat) : Int)) - 128) : Int) ≥ 2048))) rfl rfl rfl rfl ?_
                refine r_v (Value.bool (decide ((((((4096 * ((((byteN (s) (0)).toNat : Nat) : Int) - 224)) + (64 * ((((byteN (s) (1)).toNat : Nat) : Int) - 128))) + (((byteN (s) (2)).toNat : Nat) : Int)) - 128) : Int) ≥ 2048))) rfl rfl rfl rfl ?_
                rcases hg69 : (decide ((((((4096 * ((((byteN (s) (0)).toNat : Nat) : Int) - 224)) + (64 * ((((byteN (s) (1)).toNat : Nat) : Int) - 128))) + (((byteN (s) (2)).toNat : Nat) : Int)) - 128) : Int) ≥ 2048)) with _ | _
                · replace hM := ifn (of_decide_eq_false hg69) hM
                  refine r_n false rfl (by decide) rfl ?_
                  refine r_n false rfl (by decide) rfl ?_
                  refine r_n false rfl (by decide) rfl ?_
                  refine r_nu rfl rfl ?_
                  refine r_nu rfl rfl ?_
                  refine r_n false rfl (by decide) rfl ?_
                  refine r_v (Value.bool (false)) rfl rfl rfl rfl ?_
                  refine lx_nil ?_
                  refine hK68 _ _ ?_; try clear hK68 K68
                  refine A_cond false rfl (fun h_ => nomatch h_) (fun _ => ?_)
                  refine A_skip ?_
                  refine fg _ (Sub.of (List.Sublist.slnil)) ?_
                  exact ⟨hM, is_mk rfl rfl⟩
                · replace hM := ifp (of_decide_eq_true hg69) hM
                  refine r_y rfl ?_
                  refine r_v (Value.int .i64 (((((4096 * ((((byteN (s) (0)).toNat : Nat) : Int) - 224)) + (64 * ((((byteN (s) (1)).toNat : Nat) : Int) - 128))) + (((byteN (s) (2)).toNat : Nat) : Int)) - 128))) rfl rfl rfl rfl ?_
                  refine r_y rfl ?_
                  refine r_v (Value.bool (decide ((((((4096 * ((((byteN (s) (0)).toNat : Nat) : Int) - 224)) + (64 * ((((byteN (s) (1)).toNat : Nat) : Int) - 128))) + (((byteN (s) (2)).toNat : Nat) : Int)) - 128) : Int) < 55296))) rfl rfl rfl rfl ?_
                  refine r_y rfl ?_
                  refine r_v (Value.bool (decide ((((((4096 * ((((byteN (s) (0)).toNat : Nat) : Int) - 224)) + (64 * ((((byteN (s) (1)).toNat : Nat) : Int) - 128))) + (((byteN (s) (2)).toNat : Nat) : Int)) - 128) : Int) < 55296))) rfl rfl rfl rfl ?_
                  rcases hg70 : (decide ((((((4096 * ((((byteN (s) (0)).toNat : Nat) : Int) - 224)) + (64 * ((((byteN (s) (1)).toNat : Nat) : Int) - 128))) + (((byteN (s) (2)).toNat : Nat) : Int)) - 128) : Int) < 55296)) with _ | _
                  · replace hM := ifn (of_decide_eq_false hg70) hM
                    refine r_y rfl ?_
                    refine r_v (Value.int .i64 (((((4096 * ((((byteN (s) (0)).toNat : Nat) : Int) - 224)) + (64 * ((((byteN (s) (1)).toNat : Nat) : Int) - 128))) + (((byteN (s) (2)).toNat : Nat) : Int)) - 128))) rfl rfl rfl rfl ?_
                    refine r_y rfl ?_
                    refine r_v (Value.bool (decide ((((((4096 * ((((byteN (s) (0)).toNat : Nat) : Int) - 224)) + (64 * ((((byteN (s) (1)).toNat : Nat) : Int) - 128))) + (((byteN (s) (2)).toNat : Nat) : Int)) - 128) : Int) > 57343))) rfl rfl rfl rfl ?_
                    refine r_y rfl ?_
                    refine r_v (Value.bool (decide ((((((4096 * ((((byteN (s) (0)).toNat : Nat) : Int) - 224)) + (64 * ((((byteN (s) (1)).toNat : Nat) : Int) - 128))) + (((byteN (s) (2)).toNat : Nat) : Int)) - 128) : Int) > 57343))) rfl rfl rfl rfl ?_
                    refine r_v (Value.bool (decide ((((((4096 * ((((byteN (s) (0)).toNat : Nat) : Int) - 224)) + (64 * ((((byteN (s) (1)).toNat : Nat) : Int) - 128))) + (((byteN (s) (2)).toNat : Nat) : Int)) - 128) : Int) > 57343))) rfl rfl rfl rfl ?_
                    refine lx_nil ?_
                    refine hK68 _ _ ?_; try clear hK68 K68
                    refine A_cond (decide ((((((4096 * ((((byteN (s) (0)).toNat : Nat) : Int) - 224)) + (64 * ((((byteN (s) (1)).toNat : Nat) : Int) - 128))) + (((byteN (s) (2)).toNat : Nat) : Int)) - 128) : Int) > 57343)) rfl (fun hc71 => ?_) (fun hc71 => ?_)
                    · replace hM := ifp (of_decide_eq_true hc71) hM
                      refine A_seq fun K72 hK72 => ?_
                      refine A_reg ?_
                      refine r_v (Value.int .i64 (((((4096 * ((((byteN (s) (0)).toNat : Nat) : Int) - 224)) + (64 * ((((byteN (s) (1)).toNat : Nat) : Int) - 128))) + (((byteN (s) (2)).toNat : Nat) : Int)) - 128))) rfl rfl rfl rfl ?_
                      refine r_v (Value.int .i64 (((((4096 * ((((byteN (s) (0)).toNat : Nat) : Int) - 224)) + (64 * ((((byteN (s) (1)).toNat : Nat) : Int) - 128))) + (((byteN (s) (2)).toNat : Nat) : Int)) - 128))) rfl rfl rfl rfl ?_
                      refine r_v (Value.int .i64 (3)) rfl rfl rfl rfl ?_
                      refine lx_nil ?_
                      refine hK72 _ _ ?_; try clear hK72 K72
                      refine A_gen [(2, Value.int .i64 (((((4096 * ((((byteN (s) (0)).toNat : Nat) : Int) - 224)) + (64 * ((((byteN (s) (1)).toNat : Nat) : Int) - 128))) + (((byteN (s) (2)).toNat : Nat) : Int)) - 128))), (3, Value.int .i64 (3))] rfl (fun T => ?_)
                      obtain rfl := Option.some.inj hM
                      refine A_ret (fun hn => ends_eq (v0 := Value.tuple #[Value.int .i64 (((((4096 * ((((byteN (s) (0)).toNat : Nat) : Int) - 224)) + (64 * ((((byteN (s) (1)).toNat : Nat) : Int) - 128))) + (((byteN (s) (2)).toNat : Nat) : Int)) - 128)), Value.int .i64 (3)]) rfl (res2 rfl rfl))
                    · replace hM := ifn (of_decide_eq_false hc71) hM
                      refine A_skip ?_
                      refine fg _ (Sub.of (List.Sublist.slnil)) ?_
                      exact ⟨hM, is_mk rfl rfl⟩
                  · replace hM := ifp (of_decide_eq_true hg70) hM
                    refine r_n true rfl (by decide) rfl ?_
                    refine r_n true rfl (by decide) rfl ?_
                    refine r_y rfl ?_
                    refine r_v (Value.bool (true)) rfl rfl rfl rfl ?_
                    refine r_v (Value.bool (true)) rfl rfl rfl rfl ?_
                    refine lx_nil ?_
                    refine hK68 _ _ ?_; try clear hK68 K68
                    refine A_cond true rfl (fun _ => ?_) (fun h_ => nomatch h_)
                    refine A_seq fun K73 hK73 => ?_
                    refine A_reg ?_
                    refine r_v (Value.int .i64 (((((4096 * ((((byteN (s) (0)).toNat : Nat) : Int) - 224)) + (64 * ((((byteN (s) (1)).toNat : Nat) : Int) - 128))) + (((byteN (s) (2)).toNat : Nat) : Int)) - 128))) rfl rfl rfl rfl ?_
                    refine r_v (Value.int .i64 (((((4096 * ((((byteN (s) (0)).toNat : Nat) : Int) - 224)) + (64 * ((((byteN (s) (1)).toNat : Nat) : Int) - 128))) + (((byteN (s) (2)).toNat : Nat) : Int)) - 128))) rfl rfl rfl rfl ?_
                    refine r_v (Value.int .i64 (3)) rfl rfl rfl rfl ?_
                    refine lx_nil ?_
                    refine hK73 _ _ ?_; try clear hK73 K73
                    refine A_gen [(2, Value.int .i64 (((((4096 * ((((byteN (s) (0)).toNat : Nat) : Int) - 224)) + (64 * ((((byteN (s) (1)).toNat : Nat) : Int) - 128))) + (((byteN (s) (2)).toNat : Nat) : Int)) - 128))), (3, Value.int .i64 (3))] rfl (fun T => ?_)
                    obtain rfl := Option.some.inj hM
                    refine A_ret (fun hn => ends_eq (v0 := Value.tuple #[Value.int .i64 (((((4096 * ((((byteN (s) (0)).toNat : Nat) : Int) - 224)) + (64 * ((((byteN (s) (1)).toNat : Nat) : Int) - 128))) + (((byteN (s) (2)).toNat : Nat) : Int)) - 128)), Value.int .i64 (3)]) rfl (res2 rfl rfl))
              · replace hM := ifn (Bool.eq_false_iff.1 hc57) hM
                refine A_skip ?_
                refine fg _ (Sub.of (List.Sublist.slnil)) ?_
                exact ⟨hM, is_mk rfl rfl⟩
          · clear hM; rintro t l ⟨hM, ⟨T, rfl⟩, rfl⟩
            unfold shunterref05_First_k3 at hM
            refine A_seq fun K20 hK20 => ?_
            refine A_cut (fun tt ll => ∃ (x4_ : Bool), (shunterref05_First_k5 s x4_ = some r) ∧ Is [(0, Value.string (⟨(s).toArray⟩)), (4, Value.int .i64 ((((byteN (s) (0)).toNat : Nat) : Int))), (111, Value.bool (x4_))] [] tt ll) ?_ ?_
            · refine A_reg ?_
              refine r_v (Value.int .i64 ((((byteN (s) (0)).toNat : Nat) : Int))) rfl rfl rfl rfl ?_
              refine r_v (Value.bool (decide (((((byteN (s) (0)).toNat : Nat) : Int) : Int) ≥ 240))) rfl rfl rfl rfl ?_
              refine r_v (Value.bool (decide (((((byteN (s) (0)).toNat : Nat) : Int) : Int) ≥ 240))) rfl rfl rfl rfl ?_
              rcases hg43 : (decide (((((byteN (s) (0)).toNat : Nat) : Int) : Int) ≥ 240)) with _ | _
              · replace hM := ifn (of_decide_eq_false hg43) hM
                refine r_n false rfl (by decide) rfl ?_
                refine r_n false rfl (by decide) rfl ?_
                refine r_v (Value.bool (false)) rfl rfl rfl rfl ?_
                refine r_v (Value.bool (false)) rfl rfl rfl rfl ?_
                refine r_n false rfl (by decide) rfl ?_
                refine r_n false rfl (by decide) rfl ?_
                refine r_n false rfl (by decide) rfl ?_
                refine r_v (Value.bool (false)) rfl rfl rfl rfl ?_
                refine r_v (Value.bool (false)) rfl rfl rfl rfl ?_
                refine r_n false rfl (by decide) rfl ?_
                refine r_n false rfl (by decide) rfl ?_
                refine r_n false rfl (by decide) rfl ?_
                refine r_v (Value.bool (false)) rfl rfl rfl rfl ?_
                refine r_v (Value.bool (false)) rfl rfl rfl rfl ?_
                refine r_n false rfl (by decide) rfl ?_
                refine r_n false rfl (by decide) rfl ?_
                refine r_n false rfl (by decide) rfl ?_
                refine r_v (Value.bool (false)) rfl rfl rfl rfl ?_
                refine r_v (Value.bool (false)) rfl rfl rfl rfl ?_
                refine r_n false rfl (by decide) rfl ?_
                refine r_n false rfl (by decide) rfl ?_
                refine r_n false rfl (by decide) rfl ?_
                refine r_v (Value.bool (false)) rfl rfl rfl rfl ?_
                refine lx_nil ?_
                refine fg _ (Sub.of (List.Sublist.slnil)) ?_
                exact ⟨false, hM, is_mk (by first | rfl | (simp only [hg43]; done) | (simp only [hg43]; rfl) | (simp only [app_hl]; rfl)) rfl⟩
              · replace hM := ifp (of_decide_eq_true hg43) hM
                refine r_y rfl ?_
                refine r_v (Value.int .i64 ((((byteN (s) (0)).toNat : Nat) : Int))) rfl rfl rfl rfl ?_
                refine r_y rfl ?_
                refine r_v (Value.bool (decide (((((byteN (s) (0)).toNat : Nat) : Int) : Int) < 245))) rfl rfl rfl rfl ?_
                refine r_v (Value.bool (decide (((((byteN (s) (0)).toNat : Nat) : Int) : Int) < 245))) rfl rfl rfl rfl ?_
                refine r_v (Value.bool (decide (((((byteN (s) (0)).toNat : Nat) : Int) : Int) < 245))) rfl rfl rfl rfl ?_
                rcases hg44 : (decide (((((byteN (s) (0)).toNat : Nat) : Int) : Int) < 245)) with _ | _
                · replace hM := ifn (of_decide_eq_false hg44) hM
                  refine r_n false rfl (by decide) rfl ?_
                  refine r_n false rfl (by decide) rfl ?_
                  refine r_n false rfl (by decide) rfl ?_
                  refine r_v (Value.bool (false)) rfl rfl rfl rfl ?_
                  refine r_v (Value.bool (false)) rfl rfl rfl rfl ?_
                  refine r_n false rfl (by decide) rfl ?_
                  refine r_n false rfl (by decide) rfl ?_
                  refine r_n false rfl (by decide) rfl ?_
                  refine r_v (Value.bool (false)) rfl rfl rfl rfl ?_
                  refine r_v (Value.bool (false)) rfl rfl rfl rfl ?_
                  refine r_n false rfl (by decide) rfl ?_
                  refine r_n false rfl (by decide) rfl ?_
                  refine r_n false rfl (by decide) rfl ?_
                  refine r_v (Value.bool (false)) rfl rfl rfl rfl ?_
                  refine r_v (Value.bool (false)) rfl rfl rfl rfl ?_
                  refine r_n false rfl (by decide) rfl ?_
                  refine r_n false rfl (by decide) rfl ?_
                  refine r_n false rfl (by decide) rfl ?_
                  refine r_v (Value.bool (false)) rfl rfl rfl rfl ?_
                  refine lx_nil ?_
                  refine fg _ (Sub.of (List.Sublist.slnil)) ?_
                  exact ⟨false, hM, is_mk (by first | rfl | (simp only [hg43, hg44]; done) | (simp only [hg43, hg44]; rfl) | (simp only [app_hl]; rfl)) rfl⟩
                · replace hM := ifp (of_decide_eq_true hg44) hM
                  refine r_y rfl ?_
                  refine r_v (Value.string (⟨(s).toArray⟩)) rfl rfl rfl rfl ?_
                  refine r_y rfl ?_
                  refine r_v (Value.int .i64 (((s).length : Int))) rfl rfl rfl (ev_lenS rfl rfl rfl) ?_
                  refine r_y rfl ?_
                  refine r_v (Value.bool (decide ((((s).length : Int) : Int) ≥ 4))) rfl rfl rfl rfl ?_
                  refine r_v (Value.bool (decide ((((s).length : Int) : Int) ≥ 4))) rfl rfl rfl rfl ?_
                  refine r_v (Value.bool (decide ((((s).length : Int) : Int) ≥ 4))) rfl rfl rfl rfl ?_
                  rcases hg45 : (decide ((((s).length : Int) : Int) ≥ 4)) with _ | _
                  · replace hM := ifn (of_decide_eq_false hg45) hM
                    refine r_n false rfl (by decide) rfl ?_
                    refine r_n false rfl (by decide) rfl ?_
                    refine r_n false rfl (by decide) rfl ?_
                    refine r_v (Value.bool (false)) rfl rfl rfl rfl ?_
                    refine r_v (Value.bool (false)) rfl rfl rfl rfl ?_
                    refine r_n false rfl (by decide) rfl ?_
                    refine r_n false rfl (by decide) rfl ?_
                    refine r_n false rfl (by decide) rfl ?_
                    refine r_v (Value.bool (false)) rfl rfl rfl rfl ?_
                    refine r_v (Value.bool (false)) rfl rfl rfl rfl ?_
                    refine r_n false rfl (by decide) rfl ?_
                    refine r_n false rfl (by decide) rfl ?_
                    refine r_n false rfl (by decide) rfl ?_
                    refine r_v (Value.bool (false)) rfl rfl rfl rfl ?_
                    refine lx_nil ?_
                    refine fg _ (Sub.of (List.Sublist.slnil)) ?_
                    exact ⟨false, hM, is_mk (by first | rfl | (simp only [hg43, hg44, hg45]; done) | (simp only [hg43, hg44, hg45]; rfl) | (simp only [app_hl]; rfl)) rfl⟩
                  · replace hM := ifp (of_decide_eq_true hg45) hM
                    refine r_y rfl ?_
                    refine r_v (Value.string (⟨(s).toArray⟩)) rfl rfl rfl rfl ?_
                    refine r_y rfl ?_
                    replace hM := ck_some hM; obtain ⟨ck46, hM⟩ := hM
                    refine r_v (Value.int .u8 ((byteAt (s) (1)))) rfl rfl rfl (ev_v (ev_indexS rfl ck46)) ?_
                    refine r_y rfl ?_
                    replace hM := bind_sm hM; obtain ⟨r47, hr48, hM⟩ := hM
                    refine r_c (Value.bool (r47)) rfl _ _ (ev_callF rfl call_28 rfl) (shunterref05_more_g N (byteN (s) (1)) _ hr48) ?_
                    refine r_v (Value.bool (r47)) rfl rfl rfl rfl ?_
                    refine r_v (Value.bool (r47)) rfl rfl rfl rfl ?_
                    rcases hg49 : (r47) with _ | _
                    · replace hM := ifn (Bool.eq_false_iff.1 hg49) hM
                      refine r_n false rfl (by decide) rfl ?_
                      refine r_n false rfl (by decide) rfl ?_
                      refine r_n false rfl (by decide) rfl ?_
                      refine r_v (Value.bool (false)) rfl rfl rfl rfl ?_
                      refine r_v (Value.bool (false)) rfl rfl rfl rfl ?_
                      refine r_n false rfl (by decide) rfl ?_
                      refine r_n false rfl (by decide) rfl ?_
                      refine r_n false rfl (by decide) rfl ?_
                      refine r_v (Value.bool (false)) rfl rfl rfl rfl ?_
                      refine lx_nil ?_
                      refine fg _ (Sub.of (List.Sublist.slnil)) ?_
                      exact ⟨false, hM, is_mk (by first | rfl | (simp only [hg43, hg44, hg45, hg49]; done) | (simp only [hg43, hg44, hg45, hg49]; rfl) | (simp only [app_hl]; rfl)) rfl⟩
                    · replace hM := ifp hg49 hM
                      refine r_y rfl ?_
                      refine r_v (Value.string (⟨(s).toArray⟩)) rfl rfl rfl rfl ?_
                      refine r_y rfl ?_
                      replace hM := ck_some hM; obtain ⟨ck50, hM⟩ := hM
                      refine r_v (Value.int .u8 ((byteAt (s) (2)))) rfl rfl rfl (ev_v (ev_indexS rfl ck50)) ?_
                      refine r_y rfl ?_
                      replace hM := bind_sm hM; obtain ⟨r51, hr52, hM⟩ := hM
                      refine r_c (Value.bool (r51)) rfl _ _ (ev_callF rfl call_28 rfl) (shunterref05_more_g N (byteN (s) (2)) _ hr52) ?_
                      refine r_v (Value.bool (r51)) rfl rfl rfl rfl ?_
                      refine r_v (Value.bool (r51)) rfl rfl rfl rfl ?_
                      rcases hg53 : (r51) with _ | _
                      · replace hM := ifn (Bool.eq_false_iff.1 hg53) hM
                        refine r_n false rfl (by decide) rfl ?_
                        refine r_n false rfl (by decide) rfl ?_
                        refine r_n false rfl (by decide) rfl ?_
                        refine r_v (Value.bool (false)) rfl rfl rfl rfl ?_
                        refine lx_nil ?_
                        refine fg _ (Sub.of (List.Sublist.slnil)) ?_
                        exact ⟨false, hM, is_mk (by first | rfl | (simp only [hg43, hg44, hg45, hg49, hg53]; done) | (simp only [hg43, hg44, hg45, hg49, hg53]; rfl) | (simp only [app_hl]; rfl)) rfl⟩
                      · replace hM := ifp hg53 hM
                        refine r_y rfl ?_
                        refine r_v (Value.string (⟨(s).toArray⟩)) rfl rfl rfl rfl ?_
                        refine r_y rfl ?_
                        replace hM := ck_some hM; obtain ⟨ck54, hM⟩ := hM
                        refine r_v (Value.int .u8 ((byteAt (s) (3)))) rfl rfl rfl (ev_v (ev_indexS rfl ck54)) ?_
                        refine r_y rfl ?_
                        replace hM := bind_sm hM; obtain ⟨r55, hr56, hM⟩ := hM
                        refine r_c (Value.bool (r55)) rfl _ _ (ev_callF rfl call_28 rfl) (shunterref05_more_g N (byteN (s) (3)) _ hr56) ?_
                        refine r_v (Value.bool (r55)) rfl rfl rfl rfl ?_
                        refine lx_nil ?_
                        refine fg _ (Sub.of (List.Sublist.slnil)) ?_
                        exact ⟨r55, hM, is_mk (by first | rfl | (simp only [hg43, hg44, hg45, hg49, hg53]; done) | (simp only [hg43, hg44, hg45, hg49, hg53]; rfl) | (simp only [app_hl]; rfl)) rfl⟩
            · clear hM; rintro t l ⟨x4_, hM, ⟨T, rfl⟩, rfl⟩
              unfold shunterref05_First_k5 at hM
              refine A_cond (x4_) rfl (fun hc21 => ?_) (fun hc21 => ?_)
              · replace hM := ifp hc21 hM
                refine A_seq fun K22 hK22 => ?_
                refine A_draw [] (by decide +kernel) (fun hn => sep_nil) ?_
                refine r_v (Value.int .i64 ((((byteN (s) (0)).toNat : Nat) : Int))) rfl rfl rfl rfl ?_
                replace hM := ck_some hM; obtain ⟨ck23, hM⟩ := hM
                refine r_v (Value.int .i64 (((((byteN (s) (0)).toNat : Nat) : Int) - 240))) rfl rfl (wi64 rfl ck23.1 ck23.2) rfl ?_
                replace hM := ck_some hM; obtain ⟨ck24, hM⟩ := hM
                refine r_v (Value.int .i64 ((262144 * ((((byteN (s) (0)).toNat : Nat) : Int) - 240)))) rfl rfl (wi64 rfl ck24.1 ck24.2) rfl ?_
                refine r_v (Value.string (⟨(s).toArray⟩)) rfl rfl rfl rfl ?_
                replace hM := ck_some hM; obtain ⟨ck25, hM⟩ := hM
                refine r_v (Value.int .u8 ((byteAt (s) (1)))) rfl rfl rfl (ev_v (ev_indexS rfl ck25)) ?_
                refine r_w (Value.int .i64 ((((byteN (s) (1)).toNat : Nat) : Int))) rfl rfl (u8_i64 (byteN (s) (1))) (fun _ => rfl) ?_
                replace hM := ck_some hM; obtain ⟨ck26, hM⟩ := hM
                refine r_v (Value.int .i64 (((((byteN (s) (1)).toNat : Nat) : Int) - 128))) rfl rfl (wi64 rfl ck26.1 ck26.2) rfl ?_
                replace hM := ck_some hM; obtain ⟨ck27, hM⟩ := hM
                refine r_v (Value.int .i64 ((4096 * ((((byteN (s) (1)).toNat : Nat) : Int) - 128)))) rfl rfl (wi64 rfl ck27.1 ck27.2) rfl ?_
                replace hM := ck_some hM; obtain ⟨ck28, hM⟩ := hM
                refine r_v (Value.int .i64 (((262144 * ((((byteN (s) (0)).toNat : Nat) : Int) - 240)) + (4096 * ((((byteN (s) (1)).toNat : Nat) : Int) - 128))))) rfl rfl (wi64 rfl ck28.1 ck28.2) rfl ?_
                refine r_v (Value.string (⟨(s).toArray⟩)) rfl rfl rfl rfl ?_
                replace hM := ck_some hM; obtain ⟨ck29, hM⟩ := hM
                refine r_v (Value.int .u8 ((byteAt (s) (2)))) rfl rfl rfl (ev_v (ev_indexS rfl ck29)) ?_
                refine r_w (Value.int .i64 ((((byteN (s) (2)).toNat : Nat) : Int))) rfl rfl (u8_i64 (byteN (s) (2))) (fun _ => rfl) ?_
                replace hM := ck_some hM; obtain ⟨ck30, hM⟩ := hM
                refine r_v (Value.int .i64 (((((byteN (s) (2)).toNat : Nat) : Int) - 128))) rfl rfl (wi64 rfl ck30.1 ck30.2) rfl ?_
                replace hM := ck_some hM; obtain ⟨ck31, hM⟩ := hM
                refine r_v (Value.int .i64 ((64 * ((((byteN (s) (2)).toNat : Nat) : Int) - 128)))) rfl rfl (wi64 rfl ck31.1 ck31.2) rfl ?_
                replace hM := ck_some hM; obtain ⟨ck32, hM⟩ := hM
                refine r_v (Value.int .i64 ((((262144 * ((((byteN (s) (0)).toNat : Nat) : Int) - 240)) + (4096 * ((((byteN (s) (1)).toNat : Nat) : Int) - 128))) + (64 * ((((byteN (s) (2)).toNat : Nat) : Int) - 128))))) rfl rfl (wi64 rfl ck32.1 ck32.2) rfl ?_
                refine r_v (Value.string (⟨(s).toArray⟩)) rfl rfl rfl rfl ?_
                replace hM := ck_some hM; obtain ⟨ck33, hM⟩ := hM
                refine r_v (Value.int .u8 ((byteAt (s) (3)))) rfl rfl rfl (ev_v (ev_indexS rfl ck33)) ?_
                refine r_w (Value.int .i64 ((((byteN (s) (3)).toNat : Nat) : Int))) rfl rfl (u8_i64 (byteN (s) (3))) (fun _ => rfl) ?_
                replace hM := ck_some hM; obtain ⟨ck34, hM⟩ := hM
                refine r_v (Value.int .i64 (((((262144 * ((((byteN (s) (0)).toNat : Nat) : Int) - 240)) + (4096 * ((((byteN (s) (1)).toNat : Nat) : Int) - 128))) + (64 * ((((byteN (s) (2)).toNat : Nat) : Int) - 128))) + (((byteN (s) (3)).toNat : Nat) : Int)))) rfl rfl (wi64 rfl ck34.1 ck34.2) rfl ?_
                replace hM := ck_some hM; obtain ⟨ck35, hM⟩ := hM
                refine r_v (Value.int .i64 ((((((262144 * ((((byteN (s) (0)).toNat : Nat) : Int) - 240)) + (4096 * ((((byteN (s) (1)).toNat : Nat) : Int) - 128))) + (64 * ((((byteN (s) (2)).toNat : Nat) : Int) - 128))) + (((byteN (s) (3)).toNat : Nat) : Int)) - 128))) rfl rfl (wi64 rfl ck35.1 ck35.2) rfl ?_
                refine r_v (Value.int .i64 ((((((262144 * ((((byteN (s) (0)).toNat : Nat) : Int) - 240)) + (4096 * ((((byteN (s) (1)).toNat : Nat) : Int) - 128))) + (64 * ((((byteN (s) (2)).toNat : Nat) : Int) - 128))) + (((byteN (s) (3)).toNat : Nat) : Int)) - 128))) rfl rfl rfl rfl ?_
                refine lx_nil ?_
                refine hK22 _ _ ?_; try clear hK22 K22
                refine A_seq fun K36 hK36 => ?_
                refine A_reg ?_
                refine r_v (Value.int .i64 ((((((262144 * ((((byteN (s) (0)).toNat : Nat) : Int) - 240)) + (4096 * ((((byteN (s) (1)).toNat : Nat) : Int) - 128))) + (64 * ((((byteN (s) (2)).toNat : Nat) : Int) - 128))) + (((byteN (s) (3)).toNat : Nat) : Int)) - 128))) rfl rfl rfl rfl ?_
                refine r_v (Value.bool (decide (((((((262144 * ((((byteN (s) (0)).toNat : Nat) : Int) - 240)) + (4096 * ((((byteN (s) (1)).toNat : Nat) : Int) - 128))) + (64 * ((((byteN (s) (2)).toNat : Nat) : Int) - 128))) + (((byteN (s) (3)).toNat : Nat) : Int)) - 128) : Int) ≥ 65536))) rfl rfl rfl rfl ?_
                refine r_v (Value.bool (decide (((((((262144 * ((((byteN (s) (0)).toNat : Nat) : Int) - 240)) + (4096 * ((((byteN (s) (1)).toNat : Nat) : Int) - 128))) + (64 * ((((byteN (s) (2)).toNat : Nat) : Int) - 128))) + (((byteN (s) (3)).toNat : Nat) : Int)) - 128) : Int) ≥ 65536))) rfl rfl rfl rfl ?_
                rcases hg37 : (decide (((((((262144 * ((((byteN (s) (0)).toNat : Nat) : Int) - 240)) + (4096 * ((((byteN (s) (1)).toNat : Nat) : Int) - 128))) + (64 * ((((byteN (s) (2)).toNat : Nat) : Int) - 128))) + (((byteN (s) (3)).toNat : Nat) : Int)) - 128) : Int) ≥ 65536)) with _ | _
                · replace hM := ifn (of_decide_eq_false hg37) hM
                  refine r_n false rfl (by decide) rfl ?_
                  refine r_n false rfl (by decide) rfl ?_
                  refine r_v (Value.bool (false)) rfl rfl rfl rfl ?_
                  refine lx_nil ?_
                  refine hK36 _ _ ?_; try clear hK36 K36
                  refine A_gen [(6, Value.int .i64 ((((((262144 * ((((byteN (s) (0)).toNat : Nat) : Int) - 240)) + (4096 * ((((byteN (s) (1)).toNat : Nat) : Int) - 128))) + (64 * ((((byteN (s) (2)).toNat : Nat) : Int) - 128))) + (((byteN (s) (3)).toNat : Nat) : Int)) - 128))), (137, Value.bool (false))] rfl (fun T => ?_)
                  refine A_cond false rfl (fun h_ => nomatch h_) (fun _ => ?_)
                  refine A_skip ?_
                  refine hK20 _ _ ?_; try clear hK20 K20
                  refine A_seq fun K38 hK38 => ?_
                  refine A_reg ?_
                  refine r_v (Value.int .i64 (65533)) rfl rfl rfl rfl ?_
                  refine r_v (Value.int .i64 (1)) rfl rfl rfl rfl ?_
                  refine lx_nil ?_
                  refine hK38 _ _ ?_; try clear hK38 K38
                  obtain rfl := Option.some.inj hM
                  refine A_ret (fun hn => ends_eq (v0 := Value.tuple #[Value.int .i64 (65533), Value.int .i64 (1)]) rfl (res2 rfl rfl))
                · replace hM := ifp (of_decide_eq_true hg37) hM
                  refine r_y rfl ?_
                  refine r_v (Value.int .i64 ((((((262144 * ((((byteN (s) (0)).toNat : Nat) : Int) - 240)) + (4096 * ((((byteN (s) (1)).toNat : Nat) : Int) - 128))) + (64 * ((((byteN (s) (2)).toNat : Nat) : Int) - 128))) + (((byteN (s) (3)).toNat : Nat) : Int)) - 128))) rfl rfl rfl rfl ?_
                  refine r_y rfl ?_
                  refine r_v (Value.bool (decide (((((((262144 * ((((byteN (s) (0)).toNat : Nat) : Int) - 240)) + (4096 * ((((byteN (s) (1)).toNat : Nat) : Int) - 128))) + (64 * ((((byteN (s) (2)).toNat : Nat) : Int) - 128))) + (((byteN (s) (3)).toNat : Nat) : Int)) - 128) : Int) ≤ 1114111))) rfl rfl rfl rfl ?_
                  refine r_v (Value.bool (decide (((((((262144 * ((((byteN (s) (0)).toNat : Nat) : Int) - 240)) + (4096 * ((((byteN (s) (1)).toNat : Nat) : Int) - 128))) + (64 * ((((byteN (s) (2)).toNat : Nat) : Int) - 128))) + (((byteN (s) (3)).toNat : Nat) : Int)) - 128) : Int) ≤ 1114111))) rfl rfl rfl rfl ?_
                  refine lx_nil ?_
                  refine hK36 _ _ ?_; try clear hK36 K36
                  refine A_gen [(6, Value.int .i64 ((((((262144 * ((((byteN (s) (0)).toNat : Nat) : Int) - 240)) + (4096 * ((((byteN (s) (1)).toNat : Nat) : Int) - 128))) + (64 * ((((byteN (s) (2)).toNat : Nat) : Int) - 128))) + (((byteN (s) (3)).toNat : Nat) : Int)) - 128))), (137, Value.bool (decide (((((((262144 * ((((byteN (s) (0)).toNat : Nat) : Int) - 240)) + (4096 * ((((byteN (s) (1)).toNat : Nat) : Int) - 128))) + (64 * ((((byteN (s) (2)).toNat : Nat) : Int) - 128))) + (((byteN (s) (3)).toNat : Nat) : Int)) - 128) : Int) ≤ 1114111)))] rfl (fun T => ?_)
                  refine A_cond (decide (((((((262144 * ((((byteN (s) (0)).toNat : Nat) : Int) - 240)) + (4096 * ((((byteN (s) (1)).toNat : Nat) : Int) - 128))) + (64 * ((((byteN (s) (2)).toNat : Nat) : Int) - 128))) + (((byteN (s) (3)).toNat : Nat) : Int)) - 128) : Int) ≤ 1114111)) rfl (fun hc39 => ?_) (fun hc39 => ?_)
                  · replace hM := ifp (of_decide_eq_true hc39) hM
                    refine A_seq fun K40 hK40 => ?_
                    refine A_reg ?_
                    refine r_v (Value.int .i64 ((((((262144 * ((((byteN (s) (0)).toNat : Nat) : Int) - 240)) + (4096 * ((((byteN (s) (1)).toNat : Nat) : Int) - 128))) + (64 * ((((byteN (s) (2)).toNat : Nat) : Int) - 128))) + (((byteN (s) (3)).toNat : Nat) : Int)) - 128))) rfl rfl rfl rfl ?_
                    refine r_v (Value.int .i64 ((((((262144 * ((((byteN (s) (0)).toNat : Nat) : Int) - 240)) + (4096 * ((((byteN (s) (1)).toNat : Nat) : Int) - 128))) + (64 * ((((byteN (s) (2)).toNat : Nat) : Int) - 128))) + (((byteN (s) (3)).toNat : Nat) : Int)) - 128))) rfl rfl rfl rfl ?_
                    refine r_v (Value.int .i64 (4)) rfl rfl rfl rfl ?_
                    refine lx_nil ?_
                    refine hK40 _ _ ?_; try clear hK40 K40
                    obtain rfl := Option.some.inj hM
                    refine A_ret (fun hn => ends_eq (v0 := Value.tuple #[Value.int .i64 ((((((262144 * ((((byteN (s) (0)).toNat : Nat) : Int) - 240)) + (4096 * ((((byteN (s) (1)).toNat : Nat) : Int) - 128))) + (64 * ((((byteN (s) (2)).toNat : Nat) : Int) - 128))) + (((byteN (s) (3)).toNat : Nat) : Int)) - 128)), Value.int .i64 (4)]) rfl (res2 rfl rfl))
                  · replace hM := ifn (of_decide_eq_false hc39) hM
                    refine A_skip ?_
                    refine hK20 _ _ ?_; try clear hK20 K20
                    refine A_seq fun K41 hK41 => ?_
                    refine A_reg ?_
                    refine r_v (Value.int .i64 (65533)) rfl rfl rfl rfl ?_
                    refine r_v (Value.int .i64 (1)) rfl rfl rfl rfl ?_
                    refine lx_nil ?_
                    refine hK41 _ _ ?_; try clear hK41 K41
                    obtain rfl := Option.some.inj hM
                    refine A_ret (fun hn => ends_eq (v0 := Value.tuple #[Value.int .i64 (65533), Value.int .i64 (1)]) rfl (res2 rfl rfl))
              · replace hM := ifn (Bool.eq_false_iff.1 hc21) hM
                refine A_skip ?_
                refine hK20 _ _ ?_; try clear hK20 K20
                refine A_seq fun K42 hK42 => ?_
                refine A_reg ?_
                refine r_v (Value.int .i64 (65533)) rfl rfl rfl rfl ?_
                refine r_v (Value.int .i64 (1)) rfl rfl rfl rfl ?_
                refine lx_nil ?_
                refine hK42 _ _ ?_; try clear hK42 K42
                obtain rfl := Option.some.inj hM
                refine A_ret (fun hn => ends_eq (v0 := Value.tuple #[Value.int .i64 (65533), Value.int .i64 (1)]) rfl (res2 rfl rfl))
end Go.Proofs.Ytmdjifehblijkaa
