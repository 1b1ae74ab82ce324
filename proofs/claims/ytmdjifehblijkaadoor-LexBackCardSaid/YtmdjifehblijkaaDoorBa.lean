/- models of functions and their walks -/
import Derived.Test.YtmdjifehblijkaaDoorIt
import Derived.Test.YtmdjifehblijkaaDoorYt
import Derived.Test.YtmdjifehblijkaaDoorAs
import Derived.Test.YtmdjifehblijkaaDoorBu
import Derived.Test.YtmdjifehblijkaaDoorMove
import Derived.Test.YtmdjifehblijkaaDoorReft
import Derived.Test.YtmdjifehblijkaaDoorTeP
import Derived.Test.YtmdjifehblijkaaDoorIo
namespace Go.Proofs.YtmdjifehblijkaaDoor
open Go Go.RowKit Go.Eng
theorem indexbyte_g (s : List UInt8) (c : Int) : Gives Tryd.prog 63 #[.string ⟨s.toArray⟩, .int .u8 c] (.int .i64 (Lib.indexByte s c.toNat.toUInt8)) :=
  Gives.of_same (fun w => Tryd.strings_IndexByte ⟨s.toArray⟩ c w)
theorem index_one (c : UInt8) : ∀ s : List UInt8, Lib.index s [c] = Lib.indexByte s c
  | [] => rfl
  | b :: l => by
    rw [Lib.index, Lib.indexByte, index_one c l]
    by_cases h : c = b
    · subst h; simp [List.isPrefixOf]
    · have h2 : ¬ b = c := fun e => h e.symm
      simp [List.isPrefixOf, h, h2]
theorem index1_g (s sep : List UInt8) (h : sep.length = 1) : Gives Tryd.prog 96 #[.string ⟨s.toArray⟩, .string ⟨sep.toArray⟩] (.int .i64 (Lib.index s sep)) := by
  obtain ⟨c, rfl⟩ := List.length_eq_one_iff.mp h
  rw [index_one]
  exact Gives.of_same (fun w => Tryd.stringslite_Index_one ⟨s.toArray⟩ c w)
theorem validrune_g (r : Int) : Gives Tryd.prog 64 #[.int .i32 r] (.bool (Lib.validRune r)) :=
  Gives.of_same (fun w => Tryd.utf8_ValidRune r w)
def enc_47 : Enc (Int × List UInt8 × Int × Int × BitVec 128 × Int) := ⟨fun x => [Value.int .i64 (x.1), Value.string (⟨(x.2.1).toArray⟩), Value.int .i64 (x.2.2.1), Value.int .i64 (x.2.2.2.1), U (hi (x.2.2.2.2.1)), U (lo (x.2.2.2.2.1)), Value.int .i64 (x.2.2.2.2.2)], 7, by decide, fun _ => rfl, fun x v h => by simp only [List.mem_cons, List.not_mem_nil, or_false] at h; rcases h with rfl | rfl | rfl | rfl | rfl | rfl | rfl <;> rfl, True⟩
def enc_44 : Enc (Int × List UInt8 × Int × Int × BitVec 128 × Int) := ⟨fun x => [Value.int .i64 (x.1), Value.string (⟨(x.2.1).toArray⟩), Value.int .i64 (x.2.2.1), Value.int .i64 (x.2.2.2.1), U (hi (x.2.2.2.2.1)), U (lo (x.2.2.2.2.1)), Value.int .i64 (x.2.2.2.2.2)], 7, by decide, fun _ => rfl, fun x v h => by simp only [List.mem_cons, List.not_mem_nil, or_false] at h; rcases h with rfl | rfl | rfl | rfl | rfl | rfl | rfl <;> rfl, True⟩
def lex_blank_m (_ : Nat) (c : Int) : Option (Bool) := if (c : Int) = 32 then some (true) else if (c : Int) = 9 then some (true) else if (c : Int) = 10 then some (true) else some (((c : Int) == 13))
set_option maxRecDepth 100000 in
set_option maxHeartbeats 8000000 in
theorem lex_blank_g (N : Nat) (c : Int) (r : Bool) (hM : lex_blank_m N c = some r) : Gives Tryd.prog 15 #[Value.int .i32 (c)] (Value.bool (r)) := by
  unfold lex_blank_m at hM
  refine gives_of_A follows Tryd.func15 rfl 17 rfl (upd (fun _ => undef) 0 (Value.int .i32 (c))) (by funext k; match k with | 0 => rfl | k + 1 => rfl) (fun base0_ => ?_)
  refine A_seq fun K1 hK1 => ?_
  refine A_reg ?_
  refine r_v (Value.bool (false)) rfl rfl rfl rfl ?_
  refine lx_nil ?_
  refine hK1 _ _ ?_; try clear hK1 K1
  refine A_seq fun K2 hK2 => ?_
  refine A_reg ?_
  refine r_v (Value.int .i32 (c)) rfl rfl rfl rfl ?_
  refine r_v (Value.bool (((c : Int) == 32))) rfl rfl rfl rfl ?_
  refine r_v (Value.bool (((c : Int) == 32))) rfl rfl rfl rfl ?_
  rcases hg3 : (((c : Int) == 32)) with _ | _
  · replace hM := ifn (ne_of_beq_false hg3) hM
    refine r_y rfl ?_
    refine r_v (Value.int .i32 (c)) rfl rfl rfl rfl ?_
    refine r_y rfl ?_
    refine r_v (Value.bool (((c : Int) == 9))) rfl rfl rfl rfl ?_
    refine r_v (Value.bool (((c : Int) == 9))) rfl rfl rfl rfl ?_
    refine r_v (Value.bool (((c : Int) == 9))) rfl rfl rfl rfl ?_
    rcases hg4 : (((c : Int) == 9)) with _ | _
    · replace hM := ifn (ne_of_beq_false hg4) hM
      refine r_y rfl ?_
      refine r_v (Value.int .i32 (c)) rfl rfl rfl rfl ?_
      refine r_y rfl ?_
      refine r_v (Value.bool (((c : Int) == 10))) rfl rfl rfl rfl ?_
      refine r_v (Value.bool (((c : Int) == 10))) rfl rfl rfl rfl ?_
      refine r_v (Value.bool (((c : Int) == 10))) rfl rfl rfl rfl ?_
      rcases hg5 : (((c : Int) == 10)) with _ | _
      · replace hM := ifn (ne_of_beq_false hg5) hM
        refine r_y rfl ?_
        refine r_v (Value.int .i32 (c)) rfl rfl rfl rfl ?_
        refine r_y rfl ?_
        refine r_v (Value.bool (((c : Int) == 13))) rfl rfl rfl rfl ?_
        refine r_v (Value.bool (((c : Int) == 13))) rfl rfl rfl rfl ?_
        refine r_v (Value.bool (((c : Int) == 13))) rfl rfl rfl rfl ?_
        refine lx_nil ?_
        refine hK2 _ _ ?_; try clear hK2 K2
        obtain rfl := Option.some.inj hM
        refine A_ret (fun hn => ends_eq (v0 := Value.bool (((c : Int) == 13))) rfl (res1 rfl))
      · replace hM := ifp (eq_of_beq hg5) hM
        refine r_n true rfl (by decide) rfl ?_
        refine r_n true rfl (by decide) rfl ?_
        refine r_v (Value.bool (true)) rfl rfl rfl rfl ?_
        refine r_v (Value.bool (true)) rfl rfl rfl rfl ?_
        refine lx_nil ?_
        refine hK2 _ _ ?_; try clear hK2 K2
        obtain rfl := Option.some.inj hM
        refine A_ret (fun hn => ends_eq (v0 := Value.bool (true)) rfl (res1 rfl))
    · replace hM := ifp (eq_of_beq hg4) hM
      refine r_n true rfl (by decide) rfl ?_
      refine r_n true rfl (by decide) rfl ?_
      refine r_v (Value.bool (true)) rfl rfl rfl rfl ?_
      refine r_v (Value.bool (true)) rfl rfl rfl rfl ?_
      refine r_n true rfl (by decide) rfl ?_
      refine r_n true rfl (by decide) rfl ?_
      refine r_v (Value.bool (true)) rfl rfl rfl rfl ?_
      refine r_v (Value.bool (true)) rfl rfl rfl rfl ?_
      refine lx_nil ?_
      refine hK2 _ _ ?_; try clear hK2 K2
      obtain rfl := Option.some.inj hM
      refine A_ret (fun hn => ends_eq (v0 := Value.bool (true)) rfl (res1 rfl))
  · replace hM := ifp (eq_of_beq hg3) hM
    refine r_n true rfl (by decide) rfl ?_
    refine r_n true rfl (by decide) rfl ?_
    refine r_v (Value.bool (true)) rfl rfl rfl rfl ?_
    refine r_v (Value.bool (true)) rfl rfl rfl rfl ?_
    refine r_n true rfl (by decide) rfl ?_
    refine r_n true rfl (by decide) rfl ?_
    refine r_v (Value.bool (true)) rfl rfl rfl rfl ?_
    refine r_v (Value.bool (true)) rfl rfl rfl rfl ?_
    refine r_n true rfl (by decide) rfl ?_
    refine r_n true rfl (by decide) rfl ?_
    refine r_v (Value.bool (true)) rfl rfl rfl rfl ?_
    refine r_v (Value.bool (true)) rfl rfl rfl rfl ?_
    refine lx_nil ?_
    refine hK2 _ _ ?_; try clear hK2 K2
    obtain rfl := Option.some.inj hM
    refine A_ret (fun hn => ends_eq (v0 := Value.bool (true)) rfl (res1 rfl))
def lex_inLine_m (_ : Nat) (c : Int) : Option (Bool) := some (((c : Int) != 10))
set_option maxRecDepth 100000 in
set_option maxHeartbeats 8000000 in
theorem lex_inLine_g (N : Nat) (c : Int) (r : Bool) (hM : lex_inLine_m N c = some r) : Gives Tryd.prog 17 #[Value.int .i32 (c)] (Value.bool (r)) := by
  unfold lex_inLine_m at hM
  refine gives_of_A follows Tryd.func17 rfl 5 rfl (upd (fun _ => undef) 0 (Value.int .i32 (c))) (by funext k; match k with | 0 => rfl | k + 1 => rfl) (fun base0_ => ?_)
  refine A_seq fun K1 hK1 => ?_
  refine A_reg ?_
  refine r_v (Value.bool (false)) rfl rfl rfl rfl ?_
  refine lx_nil ?_
  refine hK1 _ _ ?_; try clear hK1 K1
  refine A_seq fun K2 hK2 => ?_
  refine A_reg ?_
  refine r_v (Value.int .i32 (c)) rfl rfl rfl rfl ?_
  refine r_v (Value.bool (((c : Int) != 10))) rfl rfl rfl rfl ?_
  refine r_v (Value.bool (((c : Int) != 10))) rfl rfl rfl rfl ?_
  refine lx_nil ?_
  refine hK2 _ _ ?_; try clear hK2 K2
  obtain rfl := Option.some.inj hM
  refine A_ret (fun hn => ends_eq (v0 := Value.bool (((c : Int) != 10))) rfl (res1 rfl))
def lex_run_v1_l2 (N : Nat) (s : List UInt8) : Nat → Nat → Option (Int)
  | 0, _ => none
  | n5 + 1, m1_ => if m1_ < (s).length then ck (m1_ < (s).length) (ck (m1_ < (s).length) ((lex_inLine_m N ((runeAt (s) (m1_) : Nat) : Int)).bind fun r13 => if (r13) = true then (lex_run_v1_l2 N s n5) (nextP (s) (m1_)) else some (((m1_ : Nat) : Int)))) else some (((s).length : Int))
def lex_run_v1_m (N : Nat) (s : List UInt8) : Option (Int) := lex_run_v1_l2 N s N (0)
set_option maxRecDepth 100000 in
set_option maxHeartbeats 8000000 in
theorem lex_run_v1_g (N : Nat) (s : List UInt8) (r : Int) (hM : lex_run_v1_m N s = some r) : Gives Tryd.prog 16 #[Value.string (⟨(s).toArray⟩), Value.func (.func 17) #[] #[]] (Value.int .i64 (r)) := by
  unfold lex_run_v1_m at hM
  refine gives_of_A follows Tryd.func16 rfl 20 rfl (upd (upd (fun _ => undef) 1 (Value.func (.func 17) #[] #[])) 0 (Value.string (⟨(s).toArray⟩))) (by funext k; match k with | 0 => rfl | 1 => rfl | k + 2 => rfl) (fun base0_ => ?_)
  refine A_seq fun K1 hK1 => ?_
  refine A_reg ?_
  refine r_v (Value.int .i64 (0)) rfl rfl rfl rfl ?_
  refine lx_nil ?_
  refine hK1 _ _ ?_; try clear hK1 K1
  refine A_seq fun K2 hK2 => ?_
  refine A_seq fun K3 hK3 => ?_
  refine A_regC [(some 8, false)] (conG Tryd.prog [(8, fun v_ L_ U_ => (pIt (s)) v_ L_ U_)]) ?_
  refine r_v (Value.string (⟨(s).toArray⟩)) rfl rfl rfl rfl ?_
  refine r_range (s) rfl rfl rfl rfl rfl (fun _ _ _ _ _ => Iff.rfl) (fun b4 => ?_)
  refine lx_nil ?_
  refine hK3 _ _ ?_; try clear hK3 K3
  refine A_block ?_
  refine A_loop (fun tt ll nn => ∃ (n5 : Nat) (m1_ : Nat), (lex_run_v1_l2 N s n5 m1_ = some r) ∧ Is [(0, Value.string (⟨(s).toArray⟩)), (1, Value.func (.func 17) #[] #[]), (8, Value.pointer (some ⟨b4, 0, none⟩))] [(b4, (itT (s) (m1_)), #[])] tt ll ∧ nn = n5 + 1) (N + 1) ?_ ?_
  · exact ⟨N, 0, hM, is_mk rfl rfl, rfl⟩
  · clear hM; rintro t l _ ⟨n5, m1_, hM, ⟨⟨T, rfl⟩, rfl⟩, rfl⟩
    rcases n5 with _ | n5
    · exact absurd hM (by simp [lex_run_v1_l2])
    rw [lex_run_v1_l2] at hM
    refine A_seq fun K6 hK6 => ?_
    refine A_regC [(some 9, true)] (conG Tryd.prog [(9, fun v_ L_ U_ => (pNx b4 (s) (m1_)) v_ L_ U_)]) ?_
    refine r_next (lN := [(b4, (itT (s) (nextP (s) (m1_))), #[])]) 0 b4 (s) (m1_) rfl rfl rfl rfl rfl rfl (fun _ _ _ _ _ => Iff.rfl) rfl ?_
    refine r_v (Value.bool (decide (m1_ < (s).length))) rfl rfl rfl (ev_v (ev_next0 (s) (m1_))) ?_
    refine lx_nil ?_
    refine hK6 _ _ ?_; try clear hK6 K6
    refine A_seq fun K7 hK7 => ?_
    refine A_cond (decide (m1_ < (s).length)) rfl (fun hc8 => ?_) (fun hc8 => ?_)
    · replace hM := ifp (of_decide_eq_true hc8) hM
      refine A_skip ?_
      refine hK7 _ _ ?_; try clear hK7 K7
      refine A_block ?_
      refine A_seq fun K9 hK9 => ?_
      refine A_reg ?_
      replace hM := ck_some hM; obtain ⟨ck10, hM⟩ := hM
      refine r_v (Value.int .i64 (((m1_ : Nat) : Int))) rfl rfl rfl (ev_v (ev_next1 ck10)) ?_
      replace hM := ck_some hM; obtain ⟨ck11, hM⟩ := hM
      refine r_v (Value.int .i32 (((runeAt (s) (m1_) : Nat) : Int))) rfl rfl rfl (ev_v (ev_next2 ck11)) ?_
      refine r_v (Value.int .i64 (((m1_ : Nat) : Int))) rfl rfl rfl rfl ?_
      refine r_v (Value.int .i32 (((runeAt (s) (m1_) : Nat) : Int))) rfl rfl rfl rfl ?_
      refine lx_nil ?_
      refine hK9 _ _ ?_; try clear hK9 K9
      refine A_seq fun K12 hK12 => ?_
      refine A_reg ?_
      refine r_v (Value.func (.func 17) #[] #[]) rfl rfl rfl rfl ?_
      refine r_v (Value.int .i32 (((runeAt (s) (m1_) : Nat) : Int))) rfl rfl rfl rfl ?_
      replace hM := bind_sm hM; obtain ⟨r13, hr14, hM⟩ := hM
      refine r_c (Value.bool (r13)) rfl _ _ (ev_callV (caps := []) rfl call_17 rfl) (lex_inLine_g N ((runeAt (s) (m1_) : Nat) : Int) _ hr14) ?_
      refine r_v (Value.bool (!(r13))) rfl rfl rfl rfl ?_
      refine lx_nil ?_
      refine hK12 _ _ ?_; try clear hK12 K12
      refine A_cond (!(r13)) rfl (fun hc15 => ?_) (fun hc15 => ?_)
      · replace hM := ifn (Bool.eq_false_iff.1 (not_t hc15)) hM
        refine A_seq fun K16 hK16 => ?_
        refine A_reg ?_
        refine r_v (Value.int .i64 (((m1_ : Nat) : Int))) rfl rfl rfl rfl ?_
        refine r_v (Value.int .i64 (((m1_ : Nat) : Int))) rfl rfl rfl rfl ?_
        refine lx_nil ?_
        refine hK16 _ _ ?_; try clear hK16 K16
        obtain rfl := Option.some.inj hM
        refine A_ret (fun hn => ends_eq (v0 := Value.int .i64 (((m1_ : Nat) : Int))) rfl (res1 rfl))
      · replace hM := ifp (not_f hc15) hM
        refine A_skip ?_
        refine fg _ (Sub.of (List.Sublist.cons_cons _ (List.Sublist.slnil))) ?_
        exact ⟨n5 + 1, by omega, n5, nextP (s) (m1_), hM, is_mk rfl rfl, rfl⟩
    · replace hM := ifn (of_decide_eq_false hc8) hM
      refine A_exit ?_
      refine hK2 _ _ ?_; try clear hK2 K2
      refine A_seq fun K17 hK17 => ?_
      refine A_reg ?_
      refine r_v (Value.string (⟨(s).toArray⟩)) rfl rfl rfl rfl ?_
      refine r_v (Value.int .i64 (((s).length : Int))) rfl rfl rfl (ev_lenS rfl rfl rfl) ?_
      refine r_v (Value.int .i64 (((s).length : Int))) rfl rfl rfl rfl ?_
      refine lx_nil ?_
      refine hK17 _ _ ?_; try clear hK17 K17
      obtain rfl := Option.some.inj hM
      refine A_ret (fun hn => ends_eq (v0 := Value.int .i64 (((s).length : Int))) rfl (res1 rfl))
def strings_IndexRune_l4 (s : List UInt8) : Nat → Nat → Option (Int)
  | 0, _ => none
  | n9 + 1, m3_ => if m3_ < (s).length then ck (m3_ < (s).length) (ck (m3_ < (s).length) (if (((runeAt (s) (m3_) : Nat) : Int) : Int) = 65533 then some (((m3_ : Nat) : Int)) else (strings_IndexRune_l4 s n9) (nextP (s) (m3_)))) else some (-1)
def strings_IndexRune_l10 (s : List UInt8) (r' : Int) (i7_ : Int) : Nat → Int → Option (Int)
  | 0, _ => none
  | n35 + 1, j9_ => if (j9_ : Int) < (((runeB r')).length : Int) then ck ((-9223372036854775808 ≤ (i7_ - j9_) ∧ (i7_ - j9_) ≤ 9223372036854775807)) (ck ((0 : Int) ≤ (i7_ - j9_) ∧ (i7_ - j9_) < ((s).length : Int)) (ck ((-9223372036854775808 ≤ (((((runeB r')).length : Int) - 1) - j9_) ∧ (((((runeB r')).length : Int) - 1) - j9_) ≤ 9223372036854775807)) (ck ((0 : Int) ≤ (((((runeB r')).length : Int) - 1) - j9_) ∧ (((((runeB r')).length : Int) - 1) - j9_) < (((runeB r')).length : Int)) (if ((byteAt (s) ((i7_ - j9_))) : Int) ≠ (byteAt ((runeB r')) ((((((runeB r')).length : Int) - 1) - j9_))) then none else ck ((-9223372036854775808 ≤ (j9_ + 1) ∧ (j9_ + 1) ≤ 9223372036854775807)) ((strings_IndexRune_l10 s r' i7_ n35) ((j9_ + 1))))))) else ck ((-9223372036854775808 ≤ (i7_ - ((((runeB r')).length : Int) - 1)) ∧ (i7_ - ((((runeB r')).length : Int) - 1)) ≤ 9223372036854775807)) (some ((i7_ - ((((runeB r')).length : Int) - 1))))
def strings_IndexRune_k8 (N : Nat) (s : List UInt8) (r' : Int) (i7_ : Int) : Option (Int) := strings_IndexRune_l10 s r' i7_ N (1)
def strings_IndexRune_l6 (N : Nat) (s : List UInt8) (r' : Int) : Nat → Int → Option (Int)
  | 0, _ => none
  | _ + 1, i5_ => if (i5_ : Int) < ((s).length : Int) then ck ((0 : Int) ≤ i5_ ∧ i5_ < ((s).length : Int)) (ck ((0 : Int) ≤ ((((runeB r')).length : Int) - 1) ∧ ((((runeB r')).length : Int) - 1) < (((runeB r')).length : Int)) (if ((byteAt (s) (i5_)) : Int) ≠ (byteAt ((runeB r')) (((((runeB r')).length : Int) - 1))) then ck ((-9223372036854775808 ≤ (i5_ + 1) ∧ (i5_ + 1) ≤ 9223372036854775807)) (ck (0 ≤ (i5_ + 1) ∧ (i5_ + 1) ≤ ((s).length : Int)) (ck ((0 : Int) ≤ ((((runeB r')).length : Int) - 1) ∧ ((((runeB r')).length : Int) - 1) < (((runeB r')).length : Int)) (if (Lib.indexByte ((s).drop ((i5_ + 1)).toNat) ((byteAt ((runeB r')) (((((runeB r')).length : Int) - 1)))).toNat.toUInt8 : Int) < 0 then some (-1) else ck ((-9223372036854775808 ≤ (Lib.indexByte ((s).drop ((i5_ + 1)).toNat) ((byteAt ((runeB r')) (((((runeB r')).length : Int) - 1)))).toNat.toUInt8 + 1) ∧ (Lib.indexByte ((s).drop ((i5_ + 1)).toNat) ((byteAt ((runeB r')) (((((runeB r')).length : Int) - 1)))).toNat.toUInt8 + 1) ≤ 9223372036854775807)) (ck ((-9223372036854775808 ≤ (i5_ + (Lib.indexByte ((s).drop ((i5_ + 1)).toNat) ((byteAt ((runeB r')) (((((runeB r')).length : Int) - 1)))).toNat.toUInt8 + 1)) ∧ (i5_ + (Lib.indexByte ((s).drop ((i5_ + 1)).toNat) ((byteAt ((runeB r')) (((((runeB r')).length : Int) - 1)))).toNat.toUInt8 + 1)) ≤ 9223372036854775807)) (strings_IndexRune_k8 N s r' ((i5_ + (Lib.indexByte ((s).drop ((i5_ + 1)).toNat) ((byteAt ((runeB r')) (((((runeB r')).length : Int) - 1)))).toNat.toUInt8 + 1)))))))) else strings_IndexRune_k8 N s r' (i5_))) else some (-1)
def strings_IndexRune_k2 (N : Nat) (s : List UInt8) (r' : Int) (x1_ : Bool) : Option (Int) := if (x1_) = true then some (Lib.indexByte (s) ((((byteI (r')).toNat : Nat) : Int)).toNat.toUInt8) else if (r' : Int) = 65533 then strings_IndexRune_l4 s N (0) else if (Lib.validRune (r')) = true then ck ((-9223372036854775808 ≤ ((((runeB r')).length : Int) - 1) ∧ ((((runeB r')).length : Int) - 1) ≤ 9223372036854775807)) (strings_IndexRune_l6 N s r' N (((((runeB r')).length : Int) - 1))) else some (-1)
def strings_IndexRune_m (N : Nat) (s : List UInt8) (r' : Int) : Option (Int) := if (0 : Int) ≤ r' then strings_IndexRune_k2 N s r' (decide ((r' : Int) < 128)) else strings_IndexRune_k2 N s r' (false)
set_option maxRecDepth 100000 in
set_option maxHeartbeats 8000000 in
theorem strings_IndexRune_g (N : Nat) (s : List UInt8) (r' : Int) (r : Int) (hM : strings_IndexRune_m N s r' = some r) : Gives Tryd.prog 48 #[Value.string (⟨(s).toArray⟩), Value.int .i32 (r')] (Value.int .i64 (r)) := by
  unfold strings_IndexRune_m at hM
  refine gives_of_A follows Tryd.func48 rfl 187 rfl (upd (upd (fun _ => undef) 1 (Value.int .i32 (r'))) 0 (Value.string (⟨(s).toArray⟩))) (by funext k; match k with | 0 => rfl | 1 => rfl | k + 2 => rfl) (fun base0_ => ?_)
  refine A_seq fun K1 hK1 => ?_
  refine A_reg ?_
  refine r_v (Value.int .i64 (0)) rfl rfl rfl rfl ?_
  refine lx_nil ?_
  refine hK1 _ _ ?_; try clear hK1 K1
  refine A_block ?_
  refine A_cut (fun tt ll => ∃ (x1_ : Bool), (strings_IndexRune_k2 N s r' x1_ = some r) ∧ Is [(0, Value.string (⟨(s).toArray⟩)), (1, Value.int .i32 (r')), (160, Value.bool (x1_))] [] tt ll) ?_ ?_
  · refine A_reg ?_
    refine r_v (Value.int .i32 (r')) rfl rfl rfl rfl ?_
    refine r_v (Value.bool (decide ((0 : Int) ≤ r'))) rfl rfl rfl rfl ?_
    refine r_v (Value.bool (decide ((0 : Int) ≤ r'))) rfl rfl rfl rfl ?_
    rcases hg66 : (decide ((0 : Int) ≤ r')) with _ | _
    · replace hM := ifn (of_decide_eq_false hg66) hM
      refine r_n false rfl (by decide) rfl ?_
      refine r_n false rfl (by decide) rfl ?_
      refine r_v (Value.bool (false)) rfl rfl rfl rfl ?_
      refine r_v (Value.bool (false)) rfl rfl rfl rfl ?_
      refine lx_nil ?_
      refine fg _ (Sub.of (List.Sublist.slnil)) ?_
      exact ⟨false, hM, is_mk (by first | rfl | (simp only [hg66]; done) | (simp only [hg66]; rfl) | (simp only [app_hl]; rfl)) rfl⟩
    · replace hM := ifp (of_decide_eq_true hg66) hM
      refine r_y rfl ?_
      refine r_v (Value.int .i32 (r')) rfl rfl rfl rfl ?_
      refine r_y rfl ?_
      refine r_v (Value.bool (decide ((r' : Int) < 128))) rfl rfl rfl rfl ?_
      refine r_v (Value.bool (decide ((r' : Int) < 128))) rfl rfl rfl rfl ?_
      refine r_v (Value.bool (decide ((r' : Int) < 128))) rfl rfl rfl rfl ?_
      refine lx_nil ?_
      refine fg _ (Sub.of (List.Sublist.slnil)) ?_
      exact ⟨decide ((r' : Int) < 128), hM, is_mk (by first | rfl | (simp only [hg66]; done) | (simp only [hg66]; rfl) | (simp only [app_hl]; rfl)) rfl⟩
  · clear hM; rintro t l ⟨x1_, hM, ⟨T, rfl⟩, rfl⟩
    unfold strings_IndexRune_k2 at hM
    refine A_cond (x1_) rfl (fun hc2 => ?_) (fun hc2 => ?_)
    · replace hM := ifp hc2 hM
      refine A_seq fun K3 hK3 => ?_
      refine A_reg ?_
      refine r_v (Value.string (⟨(s).toArray⟩)) rfl rfl rfl rfl ?_
      refine r_v (Value.int .i32 (r')) rfl rfl rfl rfl ?_
      refine r_w (Value.int .u8 ((((byteI (r')).toNat : Nat) : Int))) rfl rfl (u8_wrap (r')) (fun _ => rfl) ?_
      refine r_c (Value.int .i64 (Lib.indexByte (s) ((((byteI (r')).toNat : Nat) : Int)).toNat.toUInt8)) rfl _ _ (ev_callF rfl call_63 rfl) (indexbyte_g (s) ((((byteI (r')).toNat : Nat) : Int))) ?_
      refine r_v (Value.int .i64 (Lib.indexByte (s) ((((byteI (r')).toNat : Nat) : Int)).toNat.toUInt8)) rfl rfl rfl rfl ?_
      refine lx_nil ?_
      refine hK3 _ _ ?_; try clear hK3 K3
      obtain rfl := Option.some.inj hM
      refine A_ret (fun hn => ends_eq (v0 := Value.int .i64 (Lib.indexByte (s) ((((byteI (r')).toNat : Nat) : Int)).toNat.toUInt8)) rfl (res1 rfl))
    · replace hM := ifn (Bool.eq_false_iff.1 hc2) hM
      refine A_seq fun K4 hK4 => ?_
      refine A_reg ?_
      refine r_v (Value.int .i32 (r')) rfl rfl rfl rfl ?_
      refine r_v (Value.bool (((r' : Int) == 65533))) rfl rfl rfl rfl ?_
      refine r_v (Value.bool (((r' : Int) == 65533))) rfl rfl rfl rfl ?_
      refine lx_nil ?_
      refine hK4 _ _ ?_; try clear hK4 K4
      refine A_cond (((r' : Int) == 65533)) rfl (fun hc5 => ?_) (fun hc5 => ?_)
      · replace hM := ifp (eq_of_beq hc5) hM
        refine A_seq fun K6 hK6 => ?_
        refine A_seq fun K7 hK7 => ?_
        refine A_regC [(some 175, false)] (conG Tryd.prog [(175, fun v_ L_ U_ => (pIt (s)) v_ L_ U_)]) ?_
        refine r_v (Value.string (⟨(s).toArray⟩)) rfl rfl rfl rfl ?_
        refine r_range (s) rfl rfl rfl rfl rfl (fun _ _ _ _ _ => Iff.rfl) (fun b8 => ?_)
        refine lx_nil ?_
        refine hK7 _ _ ?_; try clear hK7 K7
        refine A_block ?_
        refine A_loop (fun tt ll nn => ∃ (n9 : Nat) (m3_ : Nat), (strings_IndexRune_l4 s n9 m3_ = some r) ∧ Is [(175, Value.pointer (some ⟨b8, 0, none⟩))] [(b8, (itT (s) (m3_)), #[])] tt ll ∧ nn = n9 + 1) (N + 1) ?_ ?_
        · exact ⟨N, 0, hM, is_mk rfl rfl, rfl⟩
        · clear hM; rintro t l _ ⟨n9, m3_, hM, ⟨⟨T, rfl⟩, rfl⟩, rfl⟩
          rcases n9 with _ | n9
          · exact absurd hM (by simp [strings_IndexRune_l4])
          rw [strings_IndexRune_l4] at hM
          refine A_seq fun K10 hK10 => ?_
          refine A_regC [(some 176, true)] (conG Tryd.prog [(176, fun v_ L_ U_ => (pNx b8 (s) (m3_)) v_ L_ U_)]) ?_
          refine r_next (lN := [(b8, (itT (s) (nextP (s) (m3_))), #[])]) 0 b8 (s) (m3_) rfl rfl rfl rfl rfl rfl (fun _ _ _ _ _ => Iff.rfl) rfl ?_
          refine r_v (Value.bool (decide (m3_ < (s).length))) rfl rfl rfl (ev_v (ev_next0 (s) (m3_))) ?_
          refine lx_nil ?_
          refine hK10 _ _ ?_; try clear hK10 K10
          refine A_seq fun K11 hK11 => ?_
          refine A_cond (decide (m3_ < (s).length)) rfl (fun hc12 => ?_) (fun hc12 => ?_)
          · replace hM := ifp (of_decide_eq_true hc12) hM
            refine A_skip ?_
            refine hK11 _ _ ?_; try clear hK11 K11
            refine A_block ?_
            refine A_seq fun K13 hK13 => ?_
            refine A_reg ?_
            replace hM := ck_some hM; obtain ⟨ck14, hM⟩ := hM
            refine r_v (Value.int .i64 (((m3_ : Nat) : Int))) rfl rfl rfl (ev_v (ev_next1 ck14)) ?_
            replace hM := ck_some hM; obtain ⟨ck15, hM⟩ := hM
            refine r_v (Value.int .i32 (((runeAt (s) (m3_) : Nat) : Int))) rfl rfl rfl (ev_v (ev_next2 ck15)) ?_
            refine r_v (Value.int .i64 (((m3_ : Nat) : Int))) rfl rfl rfl rfl ?_
            refine r_v (Value.int .i32 (((runeAt (s) (m3_) : Nat) : Int))) rfl rfl rfl rfl ?_
            refine lx_nil ?_
            refine hK13 _ _ ?_; try clear hK13 K13
            refine A_seq fun K16 hK16 => ?_
            refine A_reg ?_
            refine r_v (Value.int .i32 (((runeAt (s) (m3_) : Nat) : Int))) rfl rfl rfl rfl ?_
            refine r_v (Value.bool (((((runeAt (s) (m3_) : Nat) : Int) : Int) == 65533))) rfl rfl rfl rfl ?_
            refine lx_nil ?_
            refine hK16 _ _ ?_; try clear hK16 K16
            refine A_cond (((((runeAt (s) (m3_) : Nat) : Int) : Int) == 65533)) rfl (fun hc17 => ?_) (fun hc17 => ?_)
            · replace hM := ifp (eq_of_beq hc17) hM
              refine A_seq fun K18 hK18 => ?_
              refine A_reg ?_
              refine r_v (Value.int .i64 (((m3_ : Nat) : Int))) rfl rfl rfl rfl ?_
              refine r_v (Value.int .i64 (((m3_ : Nat) : Int))) rfl rfl rfl rfl ?_
              refine lx_nil ?_
              refine hK18 _ _ ?_; try clear hK18 K18
              obtain rfl := Option.some.inj hM
              refine A_ret (fun hn => ends_eq (v0 := Value.int .i64 (((m3_ : Nat) : Int))) rfl (res1 rfl))
            · replace hM := ifn (ne_of_beq_false hc17) hM
              refine A_skip ?_
              refine fg _ (Sub.of (List.Sublist.cons_cons _ (List.Sublist.slnil))) ?_
              exact ⟨n9 + 1, by omega, n9, nextP (s) (m3_), hM, is_mk rfl rfl, rfl⟩
          · replace hM := ifn (of_decide_eq_false hc12) hM
            refine A_exit ?_
            refine hK6 _ _ ?_; try clear hK6 K6
            refine A_seq fun K19 hK19 => ?_
            refine A_reg ?_
            refine r_v (Value.int .i64 (-1)) rfl rfl rfl rfl ?_
            refine lx_nil ?_
            refine hK19 _ _ ?_; try clear hK19 K19
            obtain rfl := Option.some.inj hM
            refine A_ret (fun hn => ends_eq (v0 := Value.int .i64 (-1)) rfl (res1 rfl))
      · replace hM := ifn (ne_of_beq_false hc5) hM
        refine A_seq fun K20 hK20 => ?_
        refine A_reg ?_
        refine r_v (Value.int .i32 (r')) rfl rfl rfl rfl ?_
        refine r_c (Value.bool (Lib.validRune (r'))) rfl _ _ (ev_callF rfl call_64 rfl) (validrune_g (r')) ?_
        refine r_v (Value.bool (!(Lib.validRune (r')))) rfl rfl rfl rfl ?_
        refine r_v (Value.bool (!(Lib.validRune (r')))) rfl rfl rfl rfl ?_
        refine lx_nil ?_
        refine hK20 _ _ ?_; try clear hK20 K20
        refine A_cond (!(Lib.validRune (r'))) rfl (fun hc21 => ?_) (fun hc21 => ?_)
        · replace hM := ifn (Bool.eq_false_iff.1 (not_t hc21)) hM
          refine A_seq fun K22 hK22 => ?_
          refine A_reg ?_
          refine r_v (Value.int .i64 (-1)) rfl rfl rfl rfl ?_
          refine lx_nil ?_
          refine hK22 _ _ ?_; try clear hK22 K22
          obtain rfl := Option.some.inj hM
          refine A_ret (fun hn => ends_eq (v0 := Value.int .i64 (-1)) rfl (res1 rfl))
        · replace hM := ifp (not_f hc21) hM
          refine A_scope ?_
          refine A_seq fun K23 hK23 => ?_
          refine A_reg ?_
          refine r_v (Value.int .i32 (r')) rfl rfl rfl rfl ?_
          refine r_w (Value.string (⟨((runeB r')).toArray⟩)) rfl rfl rfl (fun _ => (ev_v (ev_convIS rfl rfl))) ?_
          refine r_v (Value.string (⟨((runeB r')).toArray⟩)) rfl rfl rfl rfl ?_
          refine lx_nil ?_
          refine hK23 _ _ ?_; try clear hK23 K23
          refine A_seq fun K24 hK24 => ?_
          refine A_reg ?_
          refine r_v (Value.string (⟨((runeB r')).toArray⟩)) rfl rfl rfl rfl ?_
          refine r_v (Value.int .i64 ((((runeB r')).length : Int))) rfl rfl rfl (ev_lenS rfl rfl rfl) ?_
          replace hM := ck_some hM; obtain ⟨ck25, hM⟩ := hM
          refine r_v (Value.int .i64 (((((runeB r')).length : Int) - 1))) rfl rfl (wi64 rfl ck25.1 ck25.2) rfl ?_
          refine r_v (Value.int .i64 (((((runeB r')).length : Int) - 1))) rfl rfl rfl rfl ?_
          refine lx_nil ?_
          refine hK24 _ _ ?_; try clear hK24 K24
          refine A_seq fun K26 hK26 => ?_
          refine A_reg ?_
          refine r_v (Value.int .i64 (((((runeB r')).length : Int) - 1))) rfl rfl rfl rfl ?_
          refine r_v (Value.int .i64 (((((runeB r')).length : Int) - 1))) rfl rfl rfl rfl ?_
          refine lx_nil ?_
          refine hK26 _ _ ?_; try clear hK26 K26
          refine A_seq fun K27 hK27 => ?_
          refine A_reg ?_
          refine r_v (Value.int .i64 (0)) rfl rfl rfl rfl ?_
          refine lx_nil ?_
          refine hK27 _ _ ?_; try clear hK27 K27
          refine A_seq fun K28 hK28 => ?_
          refine A_block ?_
          refine A_loop (fun tt ll nn => ∃ (n29 : Nat) (i5_ : Int), (strings_IndexRune_l6 N s r' n29 i5_ = some r) ∧ Is [(0, Value.string (⟨(s).toArray⟩)), (7, Value.string (⟨((runeB r')).toArray⟩)), (8, Value.int .i64 (((((runeB r')).length : Int) - 1))), (9, Value.int .i64 (i5_))] [] tt ll ∧ nn = n29 + 1) (N + 1) ?_ ?_
          · exact ⟨N, ((((runeB r')).length : Int) - 1), hM, is_mk rfl rfl, rfl⟩
          · clear hM; rintro t l _ ⟨n29, i5_, hM, ⟨⟨T, rfl⟩, rfl⟩, rfl⟩
            rcases n29 with _ | n29
            · exact absurd hM (by simp [strings_IndexRune_l6])
            rw [strings_IndexRune_l6] at hM
            refine A_seq fun K30 hK30 => ?_
            refine A_seq fun K31 hK31 => ?_
            refine A_reg ?_
            refine r_v (Value.int .i64 (i5_)) rfl rfl rfl rfl ?_
            refine r_v (Value.string (⟨(s).toArray⟩)) rfl rfl rfl rfl ?_
            refine r_v (Value.int .i64 (((s).length : Int))) rfl rfl rfl (ev_lenS rfl rfl rfl) ?_
            refine r_v (Value.bool (decide ((i5_ : Int) < ((s).length : Int)))) rfl rfl rfl rfl ?_
            refine lx_nil ?_
            refine hK31 _ _ ?_; try clear hK31 K31
            refine A_cond (decide ((i5_ : Int) < ((s).length : Int))) rfl (fun hc32 => ?_) (fun hc32 => ?_)
            · replace hM := ifp (of_decide_eq_true hc32) hM
              refine A_skip ?_
              refine hK30 _ _ ?_; try clear hK30 K30
              refine A_block ?_
              refine A_scope ?_
              refine A_cut (fun tt ll => ∃ (i7_ : Int), (strings_IndexRune_k8 N s r' i7_ = some r) ∧ Is [(0, Value.string (⟨(s).toArray⟩)), (7, Value.string (⟨((runeB r')).toArray⟩)), (8, Value.int .i64 (((((runeB r')).length : Int) - 1))), (9, Value.int .i64 (i7_))] [] tt ll) ?_ ?_
              · refine A_seq fun K50 hK50 => ?_
                refine A_draw [] (by decide +kernel) (fun hn => sep_nil) ?_
                refine r_v (Value.string (⟨(s).toArray⟩)) rfl rfl rfl rfl ?_
                refine r_v (Value.int .i64 (i5_)) rfl rfl rfl rfl ?_
                replace hM := ck_some hM; obtain ⟨ck51, hM⟩ := hM
                refine r_v (Value.int .u8 ((byteAt (s) (i5_)))) rfl rfl rfl (ev_v (ev_indexS rfl ck51)) ?_
                refine r_v (Value.string (⟨((runeB r')).toArray⟩)) rfl rfl rfl rfl ?_
                refine r_v (Value.int .i64 (((((runeB r')).length : Int) - 1))) rfl rfl rfl rfl ?_
                replace hM := ck_some hM; obtain ⟨ck52, hM⟩ := hM
                refine r_v (Value.int .u8 ((byteAt ((runeB r')) (((((runeB r')).length : Int) - 1))))) rfl rfl rfl (ev_v (ev_indexS rfl ck52)) ?_
                refine r_v (Value.bool ((((byteAt (s) (i5_)) : Int) != (byteAt ((runeB r')) (((((runeB r')).length : Int) - 1)))))) rfl rfl rfl rfl ?_
                refine lx_nil ?_
                refine hK50 _ _ ?_; try clear hK50 K50
                refine A_cond ((((byteAt (s) (i5_)) : Int) != (byteAt ((runeB r')) (((((runeB r')).length : Int) - 1))))) rfl (fun hc53 => ?_) (fun hc53 => ?_)
                · replace hM := ifp (bne_iff_ne.1 hc53) hM
                  refine A_seq fun K54 hK54 => ?_
                  refine A_draw [] (by decide +kernel) (fun hn => sep_nil) ?_
                  refine r_v (Value.string (⟨(s).toArray⟩)) rfl rfl rfl rfl ?_
                  refine r_v (Value.int .i64 (i5_)) rfl rfl rfl rfl ?_
                  replace hM := ck_some hM; obtain ⟨ck55, hM⟩ := hM
                  refine r_v (Value.int .i64 ((i5_ + 1))) rfl rfl (wi64 rfl ck55.1 ck55.2) rfl ?_
                  replace hM := ck_some hM; obtain ⟨ck56, hM⟩ := hM
                  refine r_v (Value.string (⟨((s).drop ((i5_ + 1)).toNat).toArray⟩)) rfl rfl rfl (ev_v (ev_sliceS1 rfl ck56)) ?_
                  refine r_v (Value.string (⟨((runeB r')).toArray⟩)) rfl rfl rfl rfl ?_
                  refine r_v (Value.int .i64 (((((runeB r')).length : Int) - 1))) rfl rfl rfl rfl ?_
                  replace hM := ck_some hM; obtain ⟨ck57, hM⟩ := hM
                  refine r_v (Value.int .u8 ((byteAt ((runeB r')) (((((runeB r')).length : Int) - 1))))) rfl rfl rfl (ev_v (ev_indexS rfl ck57)) ?_
                  refine r_c (Value.int .i64 (Lib.indexByte ((s).drop ((i5_ + 1)).toNat) ((byteAt ((runeB r')) (((((runeB r')).length : Int) - 1)))).toNat.toUInt8)) rfl _ _ (ev_callF rfl call_63 rfl) (indexbyte_g ((s).drop ((i5_ + 1)).toNat) ((byteAt ((runeB r')) (((((runeB r')).length : Int) - 1))))) ?_
                  refine r_v (Value.int .i64 (Lib.indexByte ((s).drop ((i5_ + 1)).toNat) ((byteAt ((runeB r')) (((((runeB r')).length : Int) - 1)))).toNat.toUInt8)) rfl rfl rfl rfl ?_
                  refine lx_nil ?_
                  refine hK54 _ _ ?_; try clear hK54 K54
                  refine A_seq fun K58 hK58 => ?_
                  refine A_seq fun K59 hK59 => ?_
                  refine A_reg ?_
                  refine r_v (Value.int .i64 (Lib.indexByte ((s).drop ((i5_ + 1)).toNat) ((byteAt ((runeB r')) (((((runeB r')).length : Int) - 1)))).toNat.toUInt8)) rfl rfl rfl rfl ?_
                  refine r_v (Value.bool (decide ((Lib.indexByte ((s).drop ((i5_ + 1)).toNat) ((byteAt ((runeB r')) (((((runeB r')).length : Int) - 1)))).toNat.toUInt8 : Int) < 0))) rfl rfl rfl rfl ?_
                  refine lx_nil ?_
                  refine hK59 _ _ ?_; try clear hK59 K59
                  refine A_cond (decide ((Lib.indexByte ((s).drop ((i5_ + 1)).toNat) ((byteAt ((runeB r')) (((((runeB r')).length : Int) - 1)))).toNat.toUInt8 : Int) < 0)) rfl (fun hc60 => ?_) (fun hc60 => ?_)
                  · replace hM := ifp (of_decide_eq_true hc60) hM
                    refine A_seq fun K61 hK61 => ?_
                    refine A_reg ?_
                    refine r_v (Value.int .i64 (-1)) rfl rfl rfl rfl ?_
                    refine lx_nil ?_
                    refine hK61 _ _ ?_; try clear hK61 K61
                    refine A_gen [(4, Value.int .i64 (-1))] rfl (fun T => ?_)
                    obtain rfl := Option.some.inj hM
                    refine A_ret (fun hn => ends_eq (v0 := Value.int .i64 (-1)) rfl (res1 rfl))
                  · replace hM := ifn (of_decide_eq_false hc60) hM
                    refine A_skip ?_
                    refine hK58 _ _ ?_; try clear hK58 K58
                    refine A_reg ?_
                    refine r_v (Value.int .i64 (i5_)) rfl rfl rfl rfl ?_
                    refine r_v (Value.int .i64 (Lib.indexByte ((s).drop ((i5_ + 1)).toNat) ((byteAt ((runeB r')) (((((runeB r')).length : Int) - 1)))).toNat.toUInt8)) rfl rfl rfl rfl ?_
                    replace hM := ck_some hM; obtain ⟨ck62, hM⟩ := hM
                    refine r_v (Value.int .i64 ((Lib.indexByte ((s).drop ((i5_ + 1)).toNat) ((byteAt ((runeB r')) (((((runeB r')).length : Int) - 1)))).toNat.toUInt8 + 1))) rfl rfl (wi64 rfl ck62.1 ck62.2) rfl ?_
                    replace hM := ck_some hM; obtain ⟨ck63, hM⟩ := hM
                    refine r_v (Value.int .i64 ((i5_ + (Lib.indexByte ((s).drop ((i5_ + 1)).toNat) ((byteAt ((runeB r')) (((((runeB r')).length : Int) - 1)))).toNat.toUInt8 + 1)))) rfl rfl (wi64 rfl ck63.1 ck63.2) rfl ?_
                    refine r_v (Value.int .i64 ((i5_ + (Lib.indexByte ((s).drop ((i5_ + 1)).toNat) ((byteAt ((runeB r')) (((((runeB r')).length : Int) - 1)))).toNat.toUInt8 + 1)))) rfl rfl rfl rfl ?_
                    refine lx_nil ?_
                    refine fg _ (Sub.of (List.Sublist.slnil)) ?_
                    exact ⟨(i5_ + (Lib.indexByte ((s).drop ((i5_ + 1)).toNat) ((byteAt ((runeB r')) (((((runeB r')).length : Int) - 1)))).toNat.toUInt8 + 1)), hM, is_mk rfl rfl⟩
                · replace hM := ifn (bne_f hc53) hM
                  refine A_skip ?_
                  refine fg _ (Sub.of (List.Sublist.slnil)) ?_
                  exact ⟨i5_, hM, is_mk rfl rfl⟩
              · clear hM; rintro t l ⟨i7_, hM, ⟨T, rfl⟩, rfl⟩
                unfold strings_IndexRune_k8 at hM
                refine A_seq fun K33 hK33 => ?_
                refine A_seq fun K34 hK34 => ?_
                refine A_reg ?_
                refine r_v (Value.int .i64 (1)) rfl rfl rfl rfl ?_
                refine lx_nil ?_
                refine hK34 _ _ ?_; try clear hK34 K34
                refine A_block ?_
                refine A_loop (fun tt ll nn => ∃ (n35 : Nat) (j9_ : Int), (strings_IndexRune_l10 s r' i7_ n35 j9_ = some r) ∧ Is [(0, Value.string (⟨(s).toArray⟩)), (7, Value.string (⟨((runeB r')).toArray⟩)), (8, Value.int .i64 (((((runeB r')).length : Int) - 1))), (9, Value.int .i64 (i7_)), (12, Value.int .i64 (j9_))] [] tt ll ∧ nn = n35 + 1) (N + 1) ?_ ?_
                · exact ⟨N, 1, hM, is_mk rfl rfl, rfl⟩
                · clear hM; rintro t l _ ⟨n35, j9_, hM, ⟨⟨T, rfl⟩, rfl⟩, rfl⟩
                  rcases n35 with _ | n35
                  · exact absurd hM (by simp [strings_IndexRune_l10])
                  rw [strings_IndexRune_l10] at hM
                  refine A_seq fun K36 hK36 => ?_
                  refine A_seq fun K37 hK37 => ?_
                  refine A_reg ?_
                  refine r_v (Value.int .i64 (j9_)) rfl rfl rfl rfl ?_
                  refine r_v (Value.string (⟨((runeB r')).toArray⟩)) rfl rfl rfl rfl ?_
                  refine r_v (Value.int .i64 ((((runeB r')).length : Int))) rfl rfl rfl (ev_lenS rfl rfl rfl) ?_
                  refine r_v (Value.bool (decide ((j9_ : Int) < (((runeB r')).length : Int)))) rfl rfl rfl rfl ?_
                  refine lx_nil ?_
                  refine hK37 _ _ ?_; try clear hK37 K37
                  refine A_cond (decide ((j9_ : Int) < (((runeB r')).length : Int))) rfl (fun hc38 => ?_) (fun hc38 => ?_)
                  · replace hM := ifp (of_decide_eq_true hc38) hM
                    refine A_skip ?_
                    refine hK36 _ _ ?_; try clear hK36 K36
                    refine A_seq fun K39 hK39 => ?_
                    refine A_block ?_
                    refine A_seq fun K40 hK40 => ?_
                    refine A_draw [] (by decide +kernel) (fun hn => sep_nil) ?_
                    refine r_v (Value.string (⟨(s).toArray⟩)) rfl rfl rfl rfl ?_
                    refine r_v (Value.int .i64 (i7_)) rfl rfl rfl rfl ?_
                    refine r_v (Value.int .i64 (j9_)) rfl rfl rfl rfl ?_
                    replace hM := ck_some hM; obtain ⟨ck41, hM⟩ := hM
                    refine r_v (Value.int .i64 ((i7_ - j9_))) rfl rfl (wi64 rfl ck41.1 ck41.2) rfl ?_
                    replace hM := ck_some hM; obtain ⟨ck42, hM⟩ := hM
                    refine r_v (Value.int .u8 ((byteAt (s) ((i7_ - j9_))))) rfl rfl rfl (ev_v (ev_indexS rfl ck42)) ?_
                    refine r_v (Value.string (⟨((runeB r')).toArray⟩)) rfl rfl rfl rfl ?_
                    refine r_v (Value.int .i64 (((((runeB r')).length : Int) - 1))) rfl rfl rfl rfl ?_
                    refine r_v (Value.int .i64 (j9_)) rfl rfl rfl rfl ?_
                    replace hM := ck_some hM; obtain ⟨ck43, hM⟩ := hM
                    refine r_v (Value.int .i64 ((((((runeB r')).length : Int) - 1) - j9_))) rfl rfl (wi64 rfl ck43.1 ck43.2) rfl ?_
                    replace hM := ck_some hM; obtain ⟨ck44, hM⟩ := hM
                    refine r_v (Value.int .u8 ((byteAt ((runeB r')) ((((((runeB r')).length : Int) - 1) - j9_))))) rfl rfl rfl (ev_v (ev_indexS rfl ck44)) ?_
                    refine r_v (Value.bool ((((byteAt (s) ((i7_ - j9_))) : Int) != (byteAt ((runeB r')) ((((((runeB r')).length : Int) - 1) - j9_)))))) rfl rfl rfl rfl ?_
                    refine lx_nil ?_
                    refine hK40 _ _ ?_; try clear hK40 K40
                    refine A_cond ((((byteAt (s) ((i7_ - j9_))) : Int) != (byteAt ((runeB r')) ((((((runeB r')).length : Int) - 1) - j9_))))) rfl (fun hc45 => ?_) (fun hc45 => ?_)
                    · replace hM := ifp (bne_iff_ne.1 hc45) hM
                      cases hM
                    · replace hM := ifn (bne_f hc45) hM
                      refine A_skip ?_
                      refine hK39 _ _ ?_; try clear hK39 K39
                      refine A_reg ?_
                      refine r_v (Value.int .i64 (j9_)) rfl rfl rfl rfl ?_
                      replace hM := ck_some hM; obtain ⟨ck46, hM⟩ := hM
                      refine r_v (Value.int .i64 ((j9_ + 1))) rfl rfl (wi64 rfl ck46.1 ck46.2) rfl ?_
                      refine r_v (Value.int .i64 ((j9_ + 1))) rfl rfl rfl rfl ?_
                      refine lx_nil ?_
                      refine fg _ (Sub.of (List.Sublist.slnil)) ?_
                      exact ⟨n35 + 1, by omega, n35, (j9_ + 1), hM, is_mk rfl rfl, rfl⟩
                  · replace hM := ifn (of_decide_eq_false hc38) hM
                    refine A_exit ?_
                    refine hK33 _ _ ?_; try clear hK33 K33
                    refine A_seq fun K47 hK47 => ?_
                    refine A_seq fun K48 hK48 => ?_
                    refine A_reg ?_
                    refine r_v (Value.int .i64 (i7_)) rfl rfl rfl rfl ?_
                    refine r_v (Value.int .i64 (((((runeB r')).length : Int) - 1))) rfl rfl rfl rfl ?_
                    replace hM := ck_some hM; obtain ⟨ck49, hM⟩ := hM
                    refine r_v (Value.int .i64 ((i7_ - ((((runeB r')).length : Int) - 1)))) rfl rfl (wi64 rfl ck49.1 ck49.2) rfl ?_
                    refine r_v (Value.int .i64 ((i7_ - ((((runeB r')).length : Int) - 1)))) rfl rfl rfl rfl ?_
                    refine lx_nil ?_
                    refine hK48 _ _ ?_; try clear hK48 K48
                    obtain rfl := Option.some.inj hM
                    refine A_ret (fun hn => ends_eq (v0 := Value.int .i64 ((i7_ - ((((runeB r')).length : Int) - 1)))) rfl (res1 rfl))
            · replace hM := ifn (of_decide_eq_false hc32) hM
              refine A_exit ?_
              refine hK28 _ _ ?_; try clear hK28 K28
              refine A_seq fun K64 hK64 => ?_
              refine A_seq fun K65 hK65 => ?_
              refine A_reg ?_
              refine r_v (Value.int .i64 (-1)) rfl rfl rfl rfl ?_
              refine lx_nil ?_
              refine hK65 _ _ ?_; try clear hK65 K65
              obtain rfl := Option.some.inj hM
              refine A_ret (fun hn => ends_eq (v0 := Value.int .i64 (-1)) rfl (res1 rfl))
def strings_ContainsRune_m (N : Nat) (s : List UInt8) (r' : Int) : Option (Bool) := (strings_IndexRune_m N s r').bind fun r3 => some (decide ((r3 : Int) ≥ 0))
set_option maxRecDepth 100000 in
set_option maxHeartbeats 8000000 in
theorem strings_ContainsRune_g (N : Nat) (s : List UInt8) (r' : Int) (r : Bool) (hM : strings_ContainsRune_m N s r' = some r) : Gives Tryd.prog 30 #[Value.string (⟨(s).toArray⟩), Value.int .i32 (r')] (Value.bool (r)) := by
  unfold strings_ContainsRune_m at hM
  refine gives_of_A follows Tryd.func30 rfl 9 rfl (upd (upd (fun _ => undef) 1 (Value.int .i32 (r'))) 0 (Value.string (⟨(s).toArray⟩))) (by funext k; match k with | 0 => rfl | 1 => rfl | k + 2 => rfl) (fun base0_ => ?_)
  refine A_seq fun K1 hK1 => ?_
  refine A_reg ?_
  refine r_v (Value.bool (false)) rfl rfl rfl rfl ?_
  refine lx_nil ?_
  refine hK1 _ _ ?_; try clear hK1 K1
  refine A_seq fun K2 hK2 => ?_
  refine A_reg ?_
  refine r_v (Value.string (⟨(s).toArray⟩)) rfl rfl rfl rfl ?_
  refine r_v (Value.int .i32 (r')) rfl rfl rfl rfl ?_
  replace hM := bind_sm hM; obtain ⟨r3, hr4, hM⟩ := hM
  refine r_c (Value.int .i64 (r3)) rfl _ _ (ev_callF rfl call_48 rfl) (strings_IndexRune_g N s r' _ hr4) ?_
  refine r_v (Value.bool (decide ((r3 : Int) ≥ 0))) rfl rfl rfl rfl ?_
  refine r_v (Value.bool (decide ((r3 : Int) ≥ 0))) rfl rfl rfl rfl ?_
  refine lx_nil ?_
  refine hK2 _ _ ?_; try clear hK2 K2
  obtain rfl := Option.some.inj hM
  refine A_ret (fun hn => ends_eq (v0 := Value.bool (decide ((r3 : Int) ≥ 0))) rfl (res1 rfl))
def name_within_m (_ : Nat) (c : Int) (first : Int) (last : Int) : Option (Bool) := if (c : Int) ≥ first then some (decide ((c : Int) ≤ last)) else some (false)
set_option maxRecDepth 100000 in
set_option maxHeartbeats 8000000 in
theorem name_within_g (N : Nat) (c : Int) (first : Int) (last : Int) (r : Bool) (hM : name_within_m N c first last = some r) : Gives Tryd.prog 49 #[Value.int .i32 (c), Value.int .i32 (first), Value.int .i32 (last)] (Value.bool (r)) := by
  unfold name_within_m at hM
  refine gives_of_A follows Tryd.func49 rfl 15 rfl (upd (upd (upd (fun _ => undef) 2 (Value.int .i32 (last))) 1 (Value.int .i32 (first))) 0 (Value.int .i32 (c))) (by funext k; match k with | 0 => rfl | 1 => rfl | 2 => rfl | k + 3 => rfl) (fun base0_ => ?_)
  refine A_seq fun K1 hK1 => ?_
  refine A_reg ?_
  refine r_v (Value.bool (false)) rfl rfl rfl rfl ?_
  refine lx_nil ?_
  refine hK1 _ _ ?_; try clear hK1 K1
  refine A_seq fun K2 hK2 => ?_
  refine A_reg ?_
  refine r_v (Value.int .i32 (c)) rfl rfl rfl rfl ?_
  refine r_v (Value.int .i32 (first)) rfl rfl rfl rfl ?_
  refine r_v (Value.bool (decide ((c : Int) ≥ first))) rfl rfl rfl rfl ?_
  refine r_v (Value.bool (decide ((c : Int) ≥ first))) rfl rfl rfl rfl ?_
  rcases hg3 : (decide ((c : Int) ≥ first)) with _ | _
  · replace hM := ifn (of_decide_eq_false hg3) hM
    refine r_n false rfl (by decide) rfl ?_
    refine r_n false rfl (by decide) rfl ?_
    refine r_n false rfl (by decide) rfl ?_
    refine r_v (Value.bool (false)) rfl rfl rfl rfl ?_
    refine r_v (Value.bool (false)) rfl rfl rfl rfl ?_
    refine lx_nil ?_
    refine hK2 _ _ ?_; try clear hK2 K2
    obtain rfl := Option.some.inj hM
    refine A_ret (fun hn => ends_eq (v0 := Value.bool (false)) rfl (res1 rfl))
  · replace hM := ifp (of_decide_eq_true hg3) hM
    refine r_y rfl ?_
    refine r_v (Value.int .i32 (c)) rfl rfl rfl rfl ?_
    refine r_y rfl ?_
    refine r_v (Value.int .i32 (last)) rfl rfl rfl rfl ?_
    refine r_y rfl ?_
    refine r_v (Value.bool (decide ((c : Int) ≤ last))) rfl rfl rfl rfl ?_
    refine r_v (Value.bool (decide ((c : Int) ≤ last))) rfl rfl rfl rfl ?_
    refine r_v (Value.bool (decide ((c : Int) ≤ last))) rfl rfl rfl rfl ?_
    refine lx_nil ?_
    refine hK2 _ _ ?_; try clear hK2 K2
    obtain rfl := Option.some.inj hM
    refine A_ret (fun hn => ends_eq (v0 := Value.bool (decide ((c : Int) ≤ last))) rfl (res1 rfl))
def name_Letter_k1 (N : Nat) (c : Int) : Option (Bool) := (name_within_m N c 65 90).bind fun r3 => if (r3) = true then some (true) else (name_within_m N c 97 122).bind fun r6 => if (r6) = true then some (true) else if (c : Int) = 95 then some (true) else (name_within_m N c 192 591).bind fun r10 => if (r10) = true then some (true) else (name_within_m N c 913 969).bind fun r13 => if (r13) = true then some (true) else (name_within_m N c 1024 1279).bind fun r16 => some (r16)
def name_Letter_m (N : Nat) (c : Int) : Option (Bool) := if (c : Int) = 215 then if (c : Int) = 215 then some (false) else name_Letter_k1 N c  else if (c : Int) = 247 then if (c : Int) = 247 then some (false) else name_Letter_k1 N c  else if (c : Int) = 930 then some (false) else name_Letter_k1 N c 
set_option maxRecDepth 100000 in
set_option maxHeartbeats 8000000 in
theorem name_Letter_g (N : Nat) (c : Int) (r : Bool) (hM : name_Letter_m N c = some r) : Gives Tryd.prog 31 #[Value.int .i32 (c)] (Value.bool (r)) := by
  unfold name_Letter_m at hM
  refine gives_of_A follows Tryd.func31 rfl 30 rfl (upd (fun _ => undef) 0 (Value.int .i32 (c))) (by funext k; match k with | 0 => rfl | k + 1 => rfl) (fun base0_ => ?_)
  refine A_seq fun K1 hK1 => ?_
  refine A_reg ?_
  refine r_v (Value.bool (false)) rfl rfl rfl rfl ?_
  refine lx_nil ?_
  refine hK1 _ _ ?_; try clear hK1 K1
  refine A_cut (fun tt ll => (name_Letter_k1 N c  = some r) ∧ Is [(0, Value.int .i32 (c))] [] tt ll) ?_ ?_
  · refine A_seq fun K18 hK18 => ?_
    refine A_reg ?_
    refine r_v (Value.int .i32 (c)) rfl rfl rfl rfl ?_
    refine lx_nil ?_
    refine hK18 _ _ ?_; try clear hK18 K18
    refine A_block ?_
    refine A_seq fun K19 hK19 => ?_
    refine A_seq fun K20 hK20 => ?_
    refine A_reg ?_
    refine r_v (Value.bool (((c : Int) == 215))) rfl rfl rfl rfl ?_
    refine r_v (Value.bool (((c : Int) == 215))) rfl rfl rfl rfl ?_
    refine lx_nil ?_
    refine hK20 _ _ ?_; try clear hK20 K20
    refine A_cond (((c : Int) == 215)) rfl (fun hc21 => ?_) (fun hc21 => ?_)
    · replace hM := ifp (eq_of_beq hc21) hM
      refine A_skip ?_
      refine hK19 _ _ ?_; try clear hK19 K19
      refine A_cond (((c : Int) == 215)) rfl (fun hc22 => ?_) (fun hc22 => ?_)
      · replace hM := ifp (eq_of_beq hc22) hM
        refine A_seq fun K23 hK23 => ?_
        refine A_reg ?_
        refine r_v (Value.bool (false)) rfl rfl rfl rfl ?_
        refine lx_nil ?_
        refine hK23 _ _ ?_; try clear hK23 K23
        obtain rfl := Option.some.inj hM
        refine A_ret (fun hn => ends_eq (v0 := Value.bool (false)) rfl (res1 rfl))
      · replace hM := ifn (ne_of_beq_false hc22) hM
        refine A_skip ?_
        refine fg _ (Sub.of (List.Sublist.slnil)) ?_
        exact ⟨hM, is_mk rfl rfl⟩
    · replace hM := ifn (ne_of_beq_false hc21) hM
      refine A_seq fun K24 hK24 => ?_
      refine A_reg ?_
      refine r_v (Value.bool (((c : Int) == 247))) rfl rfl rfl rfl ?_
      refine r_v (Value.bool (((c : Int) == 247))) rfl rfl rfl rfl ?_
      refine lx_nil ?_
      refine hK24 _ _ ?_; try clear hK24 K24
      refine A_cond (((c : Int) == 247)) rfl (fun hc25 => ?_) (fun hc25 => ?_)
      · replace hM := ifp (eq_of_beq hc25) hM
        refine A_skip ?_
        refine hK19 _ _ ?_; try clear hK19 K19
        refine A_cond (((c : Int) == 247)) rfl (fun hc26 => ?_) (fun hc26 => ?_)
        · replace hM := ifp (eq_of_beq hc26) hM
          refine A_seq fun K27 hK27 => ?_
          refine A_reg ?_
          refine r_v (Value.bool (false)) rfl rfl rfl rfl ?_
          refine lx_nil ?_
          refine hK27 _ _ ?_; try clear hK27 K27
          obtain rfl := Option.some.inj hM
          refine A_ret (fun hn => ends_eq (v0 := Value.bool (false)) rfl (res1 rfl))
        · replace hM := ifn (ne_of_beq_false hc26) hM
          refine A_skip ?_
          refine fg _ (Sub.of (List.Sublist.slnil)) ?_
          exact ⟨hM, is_mk rfl rfl⟩
      · replace hM := ifn (ne_of_beq_false hc25) hM
        refine A_reg ?_
        refine r_v (Value.bool (((c : Int) == 930))) rfl rfl rfl rfl ?_
        refine r_v (Value.bool (((c : Int) == 930))) rfl rfl rfl rfl ?_
        refine lx_nil ?_
        refine hK19 _ _ ?_; try clear hK19 K19
        refine A_cond (((c : Int) == 930)) rfl (fun hc28 => ?_) (fun hc28 => ?_)
        · replace hM := ifp (eq_of_beq hc28) hM
          refine A_seq fun K29 hK29 => ?_
          refine A_reg ?_
          refine r_v (Value.bool (false)) rfl rfl rfl rfl ?_
          refine lx_nil ?_
          refine hK29 _ _ ?_; try clear hK29 K29
          obtain rfl := Option.some.inj hM
          refine A_ret (fun hn => ends_eq (v0 := Value.bool (false)) rfl (res1 rfl))
        · replace hM := ifn (ne_of_beq_false hc28) hM
          refine A_skip ?_
          refine fg _ (Sub.of (List.Sublist.slnil)) ?_
          exact ⟨hM, is_mk rfl rfl⟩
  · clear hM; rintro t l ⟨hM, ⟨T, rfl⟩, rfl⟩
    unfold name_Letter_k1 at hM
    refine A_seq fun K2 hK2 => ?_
    refine A_reg ?_
    refine r_v (Value.int .i32 (c)) rfl rfl rfl rfl ?_
    replace hM := bind_sm hM; obtain ⟨r3, hr4, hM⟩ := hM
    refine r_c (Value.bool (r3)) rfl _ _ (ev_callF rfl call_49 rfl) (name_within_g N c 65 90 _ hr4) ?_
    refine r_v (Value.bool (r3)) rfl rfl rfl rfl ?_
    rcases hg5 : (r3) with _ | _
    · replace hM := ifn (Bool.eq_false_iff.1 hg5) hM
      refine r_y rfl ?_
      refine r_v (Value.int .i32 (c)) rfl rfl rfl rfl ?_
      refine r_y rfl ?_
      replace hM := bind_sm hM; obtain ⟨r6, hr7, hM⟩ := hM
      refine r_c (Value.bool (r6)) rfl _ _ (ev_callF rfl call_49 rfl) (name_within_g N c 97 122 _ hr7) ?_
      refine r_v (Value.bool (r6)) rfl rfl rfl rfl ?_
      refine r_v (Value.bool (r6)) rfl rfl rfl rfl ?_
      rcases hg8 : (r6) with _ | _
      · replace hM := ifn (Bool.eq_false_iff.1 hg8) hM
        refine r_y rfl ?_
        refine r_v (Value.int .i32 (c)) rfl rfl rfl rfl ?_
        refine r_y rfl ?_
        refine r_v (Value.bool (((c : Int) == 95))) rfl rfl rfl rfl ?_
        refine r_v (Value.bool (((c : Int) == 95))) rfl rfl rfl rfl ?_
        refine r_v (Value.bool (((c : Int) == 95))) rfl rfl rfl rfl ?_
        rcases hg9 : (((c : Int) == 95)) with _ | _
        · replace hM := ifn (ne_of_beq_false hg9) hM
          refine r_y rfl ?_
          refine r_v (Value.int .i32 (c)) rfl rfl rfl rfl ?_
          refine r_y rfl ?_
          replace hM := bind_sm hM; obtain ⟨r10, hr11, hM⟩ := hM
          refine r_c (Value.bool (r10)) rfl _ _ (ev_callF rfl call_49 rfl) (name_within_g N c 192 591 _ hr11) ?_
          refine r_v (Value.bool (r10)) rfl rfl rfl rfl ?_
          refine r_v (Value.bool (r10)) rfl rfl rfl rfl ?_
          rcases hg12 : (r10) with _ | _
          · replace hM := ifn (Bool.eq_false_iff.1 hg12) hM
            refine r_y rfl ?_
            refine r_v (Value.int .i32 (c)) rfl rfl rfl rfl ?_
            refine r_y rfl ?_
            replace hM := bind_sm hM; obtain ⟨r13, hr14, hM⟩ := hM
            refine r_c (Value.bool (r13)) rfl _ _ (ev_callF rfl call_49 rfl) (name_within_g N c 913 969 _ hr14) ?_
            refine r_v (Value.bool (r13)) rfl rfl rfl rfl ?_
            refine r_v (Value.bool (r13)) rfl rfl rfl rfl ?_
            rcases hg15 : (r13) with _ | _
            · replace hM := ifn (Bool.eq_false_iff.1 hg15) hM
              refine r_y rfl ?_
              refine r_v (Value.int .i32 (c)) rfl rfl rfl rfl ?_
              refine r_y rfl ?_
              replace hM := bind_sm hM; obtain ⟨r16, hr17, hM⟩ := hM
              refine r_c (Value.bool (r16)) rfl _ _ (ev_callF rfl call_49 rfl) (name_within_g N c 1024 1279 _ hr17) ?_
              refine r_v (Value.bool (r16)) rfl rfl rfl rfl ?_
              refine r_v (Value.bool (r16)) rfl rfl rfl rfl ?_
              refine lx_nil ?_
              refine hK2 _ _ ?_; try clear hK2 K2
              obtain rfl := Option.some.inj hM
              refine A_ret (fun hn => ends_eq (v0 := Value.bool (r16)) rfl (res1 rfl))
            · replace hM := ifp hg15 hM
              refine r_n true rfl (by decide) rfl ?_
              refine r_n true rfl (by decide) rfl ?_
              refine r_v (Value.bool (true)) rfl rfl rfl rfl ?_
              refine r_v (Value.bool (true)) rfl rfl rfl rfl ?_
              refine lx_nil ?_
              refine hK2 _ _ ?_; try clear hK2 K2
              obtain rfl := Option.some.inj hM
              refine A_ret (fun hn => ends_eq (v0 := Value.bool (true)) rfl (res1 rfl))
          · replace hM := ifp hg12 hM
            refine r_n true rfl (by decide) rfl ?_
            refine r_n true rfl (by decide) rfl ?_
            refine r_v (Value.bool (true)) rfl rfl rfl rfl ?_
            refine r_v (Value.bool (true)) rfl rfl rfl rfl ?_
            refine r_n true rfl (by decide) rfl ?_
            refine r_n true rfl (by decide) rfl ?_
            refine r_v (Value.bool (true)) rfl rfl rfl rfl ?_
            refine r_v (Value.bool (true)) rfl rfl rfl rfl ?_
            refine lx_nil ?_
            refine hK2 _ _ ?_; try clear hK2 K2
            obtain rfl := Option.some.inj hM
            refine A_ret (fun hn => ends_eq (v0 := Value.bool (true)) rfl (res1 rfl))
        · replace hM := ifp (eq_of_beq hg9) hM
          refine r_n true rfl (by decide) rfl ?_
          refine r_n true rfl (by decide) rfl ?_
          refine r_v (Value.bool (true)) rfl rfl rfl rfl ?_
          refine r_v (Value.bool (true)) rfl rfl rfl rfl ?_
          refine r_n true rfl (by decide) rfl ?_
          refine r_n true rfl (by decide) rfl ?_
          refine r_v (Value.bool (true)) rfl rfl rfl rfl ?_
          refine r_v (Value.bool (true)) rfl rfl rfl rfl ?_
          refine r_n true rfl (by decide) rfl ?_
          refine r_n true rfl (by decide) rfl ?_
          refine r_v (Value.bool (true)) rfl rfl rfl rfl ?_
          refine r_v (Value.bool (true)) rfl rfl rfl rfl ?_
          refine lx_nil ?_
          refine hK2 _ _ ?_; try clear hK2 K2
          obtain rfl := Option.some.inj hM
          refine A_ret (fun hn => ends_eq (v0 := Value.bool (true)) rfl (res1 rfl))
      · replace hM := ifp hg8 hM
        refine r_n true rfl (by decide) rfl ?_
        refine r_n true rfl (by decide) rfl ?_
        refine r_v (Value.bool (true)) rfl rfl rfl rfl ?_
        refine r_v (Value.bool (true)) rfl rfl rfl rfl ?_
        refine r_n true rfl (by decide) rfl ?_
        refine r_n true rfl (by decide) rfl ?_
        refine r_v (Value.bool (true)) rfl rfl rfl rfl ?_
        refine r_v (Value.bool (true)) rfl rfl rfl rfl ?_
        refine r_n true rfl (by decide) rfl ?_
        refine r_n true rfl (by decide) rfl ?_
        refine r_v (Value.bool (true)) rfl rfl rfl rfl ?_
        refine r_v (Value.bool (true)) rfl rfl rfl rfl ?_
        refine r_n true rfl (by decide) rfl ?_
        refine r_n true rfl (by decide) rfl ?_
        refine r_v (Value.bool (true)) rfl rfl rfl rfl ?_
        refine r_v (Value.bool (true)) rfl rfl rfl rfl ?_
        refine lx_nil ?_
        refine hK2 _ _ ?_; try clear hK2 K2
        obtain rfl := Option.some.inj hM
        refine A_ret (fun hn => ends_eq (v0 := Value.bool (true)) rfl (res1 rfl))
    · replace hM := ifp hg5 hM
      refine r_n true rfl (by decide) rfl ?_
      refine r_n true rfl (by decide) rfl ?_
      refine r_v (Value.bool (true)) rfl rfl rfl rfl ?_
      refine r_v (Value.bool (true)) rfl rfl rfl rfl ?_
      refine r_n true rfl (by decide) rfl ?_
      refine r_n true rfl (by decide) rfl ?_
      refine r_v (Value.bool (true)) rfl rfl rfl rfl ?_
      refine r_v (Value.bool (true)) rfl rfl rfl rfl ?_
      refine r_n true rfl (by decide) rfl ?_
      refine r_n true rfl (by decide) rfl ?_
      refine r_v (Value.bool (true)) rfl rfl rfl rfl ?_
      refine r_v (Value.bool (true)) rfl rfl rfl rfl ?_
      refine r_n true rfl (by decide) rfl ?_
      refine r_n true rfl (by decide) rfl ?_
      refine r_v (Value.bool (true)) rfl rfl rfl rfl ?_
      refine r_v (Value.bool (true)) rfl rfl rfl rfl ?_
      refine r_n true rfl (by decide) rfl ?_
      refine r_n true rfl (by decide) rfl ?_
      refine r_v (Value.bool (true)) rfl rfl rfl rfl ?_
      refine r_v (Value.bool (true)) rfl rfl rfl rfl ?_
      refine lx_nil ?_
      refine hK2 _ _ ?_; try clear hK2 K2
      obtain rfl := Option.some.inj hM
      refine A_ret (fun hn => ends_eq (v0 := Value.bool (true)) rfl (res1 rfl))
def name_Digit_m (N : Nat) (c : Int) : Option (Bool) := (name_within_m N c 48 57).bind fun r3 => some (r3)
set_option maxRecDepth 100000 in
set_option maxHeartbeats 8000000 in
theorem name_Digit_g (N : Nat) (c : Int) (r : Bool) (hM : name_Digit_m N c = some r) : Gives Tryd.prog 34 #[Value.int .i32 (c)] (Value.bool (r)) := by
  unfold name_Digit_m at hM
  refine gives_of_A follows Tryd.func34 rfl 5 rfl (upd (fun _ => undef) 0 (Value.int .i32 (c))) (by funext k; match k with | 0 => rfl | k + 1 => rfl) (fun base0_ => ?_)
  refine A_seq fun K1 hK1 => ?_
  refine A_reg ?_
  refine r_v (Value.bool (false)) rfl rfl rfl rfl ?_
  refine lx_nil ?_
  refine hK1 _ _ ?_; try clear hK1 K1
  refine A_seq fun K2 hK2 => ?_
  refine A_reg ?_
  refine r_v (Value.int .i32 (c)) rfl rfl rfl rfl ?_
  replace hM := bind_sm hM; obtain ⟨r3, hr4, hM⟩ := hM
  refine r_c (Value.bool (r3)) rfl _ _ (ev_callF rfl call_49 rfl) (name_within_g N c 48 57 _ hr4) ?_
  refine r_v (Value.bool (r3)) rfl rfl rfl rfl ?_
  refine lx_nil ?_
  refine hK2 _ _ ?_; try clear hK2 K2
  obtain rfl := Option.some.inj hM
  refine A_ret (fun hn => ends_eq (v0 := Value.bool (r3)) rfl (res1 rfl))
def lex_inWord_m (N : Nat) (c : Int) : Option (Bool) := (name_Letter_m N c).bind fun r3 => if (r3) = true then some (true) else (name_Digit_m N c).bind fun r6 => if (r6) = true then some (true) else if (c : Int) = 45 then some (true) else some (((c : Int) == 46))
set_option maxRecDepth 100000 in
set_option maxHeartbeats 8000000 in
theorem lex_inWord_g (N : Nat) (c : Int) (r : Bool) (hM : lex_inWord_m N c = some r) : Gives Tryd.prog 32 #[Value.int .i32 (c)] (Value.bool (r)) := by
  unfold lex_inWord_m at hM
  refine gives_of_A follows Tryd.func32 rfl 17 rfl (upd (fun _ => undef) 0 (Value.int .i32 (c))) (by funext k; match k with | 0 => rfl | k + 1 => rfl) (fun base0_ => ?_)
  refine A_seq fun K1 hK1 => ?_
  refine A_reg ?_
  refine r_v (Value.bool (false)) rfl rfl rfl rfl ?_
  refine lx_nil ?_
  refine hK1 _ _ ?_; try clear hK1 K1
  refine A_seq fun K2 hK2 => ?_
  refine A_reg ?_
  refine r_v (Value.int .i32 (c)) rfl rfl rfl rfl ?_
  replace hM := bind_sm hM; obtain ⟨r3, hr4, hM⟩ := hM
  refine r_c (Value.bool (r3)) rfl _ _ (ev_callF rfl call_31 rfl) (name_Letter_g N c _ hr4) ?_
  refine r_v (Value.bool (r3)) rfl rfl rfl rfl ?_
  rcases hg5 : (r3) with _ | _
  · replace hM := ifn (Bool.eq_false_iff.1 hg5) hM
    refine r_y rfl ?_
    refine r_v (Value.int .i32 (c)) rfl rfl rfl rfl ?_
    refine r_y rfl ?_
    replace hM := bind_sm hM; obtain ⟨r6, hr7, hM⟩ := hM
    refine r_c (Value.bool (r6)) rfl _ _ (ev_callF rfl call_34 rfl) (name_Digit_g N c _ hr7) ?_
    refine r_v (Value.bool (r6)) rfl rfl rfl rfl ?_
    refine r_v (Value.bool (r6)) rfl rfl rfl rfl ?_
    rcases hg8 : (r6) with _ | _
    · replace hM := ifn (Bool.eq_false_iff.1 hg8) hM
      refine r_y rfl ?_
      refine r_v (Value.int .i32 (c)) rfl rfl rfl rfl ?_
      refine r_y rfl ?_
      refine r_v (Value.bool (((c : Int) == 45))) rfl rfl rfl rfl ?_
      refine r_v (Value.bool (((c : Int) == 45))) rfl rfl rfl rfl ?_
      refine r_v (Value.bool (((c : Int) == 45))) rfl rfl rfl rfl ?_
      rcases hg9 : (((c : Int) == 45)) with _ | _
      · replace hM := ifn (ne_of_beq_false hg9) hM
        refine r_y rfl ?_
        refine r_v (Value.int .i32 (c)) rfl rfl rfl rfl ?_
        refine r_y rfl ?_
        refine r_v (Value.bool (((c : Int) == 46))) rfl rfl rfl rfl ?_
        refine r_v (Value.bool (((c : Int) == 46))) rfl rfl rfl rfl ?_
        refine r_v (Value.bool (((c : Int) == 46))) rfl rfl rfl rfl ?_
        refine lx_nil ?_
        refine hK2 _ _ ?_; try clear hK2 K2
        obtain rfl := Option.some.inj hM
        refine A_ret (fun hn => ends_eq (v0 := Value.bool (((c : Int) == 46))) rfl (res1 rfl))
      · replace hM := ifp (eq_of_beq hg9) hM
        refine r_n true rfl (by decide) rfl ?_
        refine r_n true rfl (by decide) rfl ?_
        refine r_v (Value.bool (true)) rfl rfl rfl rfl ?_
        refine r_v (Value.bool (true)) rfl rfl rfl rfl ?_
        refine lx_nil ?_
        refine hK2 _ _ ?_; try clear hK2 K2
        obtain rfl := Option.some.inj hM
        refine A_ret (fun hn => ends_eq (v0 := Value.bool (true)) rfl (res1 rfl))
    · replace hM := ifp hg8 hM
      refine r_n true rfl (by decide) rfl ?_
      refine r_n true rfl (by decide) rfl ?_
      refine r_v (Value.bool (true)) rfl rfl rfl rfl ?_
      refine r_v (Value.bool (true)) rfl rfl rfl rfl ?_
      refine r_n true rfl (by decide) rfl ?_
      refine r_n true rfl (by decide) rfl ?_
      refine r_v (Value.bool (true)) rfl rfl rfl rfl ?_
      refine r_v (Value.bool (true)) rfl rfl rfl rfl ?_
      refine lx_nil ?_
      refine hK2 _ _ ?_; try clear hK2 K2
      obtain rfl := Option.some.inj hM
      refine A_ret (fun hn => ends_eq (v0 := Value.bool (true)) rfl (res1 rfl))
  · replace hM := ifp hg5 hM
    refine r_n true rfl (by decide) rfl ?_
    refine r_n true rfl (by decide) rfl ?_
    refine r_v (Value.bool (true)) rfl rfl rfl rfl ?_
    refine r_v (Value.bool (true)) rfl rfl rfl rfl ?_
    refine r_n true rfl (by decide) rfl ?_
    refine r_n true rfl (by decide) rfl ?_
    refine r_v (Value.bool (true)) rfl rfl rfl rfl ?_
    refine r_v (Value.bool (true)) rfl rfl rfl rfl ?_
    refine r_n true rfl (by decide) rfl ?_
    refine r_n true rfl (by decide) rfl ?_
    refine r_v (Value.bool (true)) rfl rfl rfl rfl ?_
    refine r_v (Value.bool (true)) rfl rfl rfl rfl ?_
    refine lx_nil ?_
    refine hK2 _ _ ?_; try clear hK2 K2
    obtain rfl := Option.some.inj hM
    refine A_ret (fun hn => ends_eq (v0 := Value.bool (true)) rfl (res1 rfl))
def lex_run_v2_l2 (N : Nat) (s : List UInt8) : Nat → Nat → Option (Int)
  | 0, _ => none
  | n5 + 1, m1_ => if m1_ < (s).length then ck (m1_ < (s).length) (ck (m1_ < (s).length) ((lex_inWord_m N ((runeAt (s) (m1_) : Nat) : Int)).bind fun r13 => if (r13) = true then (lex_run_v2_l2 N s n5) (nextP (s) (m1_)) else some (((m1_ : Nat) : Int)))) else some (((s).length : Int))
def lex_run_v2_m (N : Nat) (s : List UInt8) : Option (Int) := lex_run_v2_l2 N s N (0)
set_option maxRecDepth 100000 in
set_option maxHeartbeats 8000000 in
theorem lex_run_v2_g (N : Nat) (s : List UInt8) (r : Int) (hM : lex_run_v2_m N s = some r) : Gives Tryd.prog 16 #[Value.string (⟨(s).toArray⟩), Value.func (.func 32) #[] #[]] (Value.int .i64 (r)) := by
  unfold lex_run_v2_m at hM
  refine gives_of_A follows Tryd.func16 rfl 20 rfl (upd (upd (fun _ => undef) 1 (Value.func (.func 32) #[] #[])) 0 (Value.string (⟨(s).toArray⟩))) (by funext k; match k with | 0 => rfl | 1 => rfl | k + 2 => rfl) (fun base0_ => ?_)
  refine A_seq fun K1 hK1 => ?_
  refine A_reg ?_
  refine r_v (Value.int .i64 (0)) rfl rfl rfl rfl ?_
  refine lx_nil ?_
  refine hK1 _ _ ?_; try clear hK1 K1
  refine A_seq fun K2 hK2 => ?_
  refine A_seq fun K3 hK3 => ?_
  refine A_regC [(some 8, false)] (conG Tryd.prog [(8, fun v_ L_ U_ => (pIt (s)) v_ L_ U_)]) ?_
  refine r_v (Value.string (⟨(s).toArray⟩)) rfl rfl rfl rfl ?_
  refine r_range (s) rfl rfl rfl rfl rfl (fun _ _ _ _ _ => Iff.rfl) (fun b4 => ?_)
  refine lx_nil ?_
  refine hK3 _ _ ?_; try clear hK3 K3
  refine A_block ?_
  refine A_loop (fun tt ll nn => ∃ (n5 : Nat) (m1_ : Nat), (lex_run_v2_l2 N s n5 m1_ = some r) ∧ Is [(0, Value.string (⟨(s).toArray⟩)), (1, Value.func (.func 32) #[] #[]), (8, Value.pointer (some ⟨b4, 0, none⟩))] [(b4, (itT (s) (m1_)), #[])] tt ll ∧ nn = n5 + 1) (N + 1) ?_ ?_
  · exact ⟨N, 0, hM, is_mk rfl rfl, rfl⟩
  · clear hM; rintro t l _ ⟨n5, m1_, hM, ⟨⟨T, rfl⟩, rfl⟩, rfl⟩
    rcases n5 with _ | n5
    · exact absurd hM (by simp [lex_run_v2_l2])
    rw [lex_run_v2_l2] at hM
    refine A_seq fun K6 hK6 => ?_
    refine A_regC [(some 9, true)] (conG Tryd.prog [(9, fun v_ L_ U_ => (pNx b4 (s) (m1_)) v_ L_ U_)]) ?_
    refine r_next (lN := [(b4, (itT (s) (nextP (s) (m1_))), #[])]) 0 b4 (s) (m1_) rfl rfl rfl rfl rfl rfl (fun _ _ _ _ _ => Iff.rfl) rfl ?_
    refine r_v (Value.bool (decide (m1_ < (s).length))) rfl rfl rfl (ev_v (ev_next0 (s) (m1_))) ?_
    refine lx_nil ?_
    refine hK6 _ _ ?_; try clear hK6 K6
    refine A_seq fun K7 hK7 => ?_
    refine A_cond (decide (m1_ < (s).length)) rfl (fun hc8 => ?_) (fun hc8 => ?_)
    · replace hM := ifp (of_decide_eq_true hc8) hM
      refine A_skip ?_
      refine hK7 _ _ ?_; try clear hK7 K7
      refine A_block ?_
      refine A_seq fun K9 hK9 => ?_
      refine A_reg ?_
      replace hM := ck_some hM; obtain ⟨ck10, hM⟩ := hM
      refine r_v (Value.int .i64 (((m1_ : Nat) : Int))) rfl rfl rfl (ev_v (ev_next1 ck10)) ?_
      replace hM := ck_some hM; obtain ⟨ck11, hM⟩ := hM
      refine r_v (Value.int .i32 (((runeAt (s) (m1_) : Nat) : Int))) rfl rfl rfl (ev_v (ev_next2 ck11)) ?_
      refine r_v (Value.int .i64 (((m1_ : Nat) : Int))) rfl rfl rfl rfl ?_
      refine r_v (Value.int .i32 (((runeAt (s) (m1_) : Nat) : Int))) rfl rfl rfl rfl ?_
      refine lx_nil ?_
      refine hK9 _ _ ?_; try clear hK9 K9
      refine A_seq fun K12 hK12 => ?_
      refine A_reg ?_
      refine r_v (Value.func (.func 32) #[] #[]) rfl rfl rfl rfl ?_
      refine r_v (Value.int .i32 (((runeAt (s) (m1_) : Nat) : Int))) rfl rfl rfl rfl ?_
      replace hM := bind_sm hM; obtain ⟨r13, hr14, hM⟩ := hM
      refine r_c (Value.bool (r13)) rfl _ _ (ev_callV (caps := []) rfl call_32 rfl) (lex_inWord_g N ((runeAt (s) (m1_) : Nat) : Int) _ hr14) ?_
      refine r_v (Value.bool (!(r13))) rfl rfl rfl rfl ?_
      refine lx_nil ?_
      refine hK12 _ _ ?_; try clear hK12 K12
      refine A_cond (!(r13)) rfl (fun hc15 => ?_) (fun hc15 => ?_)
      · replace hM := ifn (Bool.eq_false_iff.1 (not_t hc15)) hM
        refine A_seq fun K16 hK16 => ?_
        refine A_reg ?_
        refine r_v (Value.int .i64 (((m1_ : Nat) : Int))) rfl rfl rfl rfl ?_
        refine r_v (Value.int .i64 (((m1_ : Nat) : Int))) rfl rfl rfl rfl ?_
        refine lx_nil ?_
        refine hK16 _ _ ?_; try clear hK16 K16
        obtain rfl := Option.some.inj hM
        refine A_ret (fun hn => ends_eq (v0 := Value.int .i64 (((m1_ : Nat) : Int))) rfl (res1 rfl))
      · replace hM := ifp (not_f hc15) hM
        refine A_skip ?_
        refine fg _ (Sub.of (List.Sublist.cons_cons _ (List.Sublist.slnil))) ?_
        exact ⟨n5 + 1, by omega, n5, nextP (s) (m1_), hM, is_mk rfl rfl, rfl⟩
    · replace hM := ifn (of_decide_eq_false hc8) hM
      refine A_exit ?_
      refine hK2 _ _ ?_; try clear hK2 K2
      refine A_seq fun K17 hK17 => ?_
      refine A_reg ?_
      refine r_v (Value.string (⟨(s).toArray⟩)) rfl rfl rfl rfl ?_
      refine r_v (Value.int .i64 (((s).length : Int))) rfl rfl rfl (ev_lenS rfl rfl rfl) ?_
      refine r_v (Value.int .i64 (((s).length : Int))) rfl rfl rfl rfl ?_
      refine lx_nil ?_
      refine hK17 _ _ ?_; try clear hK17 K17
      obtain rfl := Option.some.inj hM
      refine A_ret (fun hn => ends_eq (v0 := Value.int .i64 (((s).length : Int))) rfl (res1 rfl))
def name_mayStand_m (N : Nat) (c : Int) (ahead : Int) : Option (Bool) := (name_Letter_m N c).bind fun r3 => if (r3) = true then some (true) else if (ahead : Int) > 0 then (name_Digit_m N c).bind fun r7 => if (r7) = true then some (true) else if (c : Int) = 45 then some (true) else some (((c : Int) == 46)) else some (false)
set_option maxRecDepth 100000 in
set_option maxHeartbeats 8000000 in
theorem name_mayStand_g (N : Nat) (c : Int) (ahead : Int) (r : Bool) (hM : name_mayStand_m N c ahead = some r) : Gives Tryd.prog 67 #[Value.int .i32 (c), Value.int .i64 (ahead)] (Value.bool (r)) := by
  unfold name_mayStand_m at hM
  refine gives_of_A follows Tryd.func67 rfl 23 rfl (upd (upd (fun _ => undef) 1 (Value.int .i64 (ahead))) 0 (Value.int .i32 (c))) (by funext k; match k with | 0 => rfl | 1 => rfl | k + 2 => rfl) (fun base0_ => ?_)
  refine A_seq fun K1 hK1 => ?_
  refine A_reg ?_
  refine r_v (Value.bool (false)) rfl rfl rfl rfl ?_
  refine lx_nil ?_
  refine hK1 _ _ ?_; try clear hK1 K1
  refine A_seq fun K2 hK2 => ?_
  refine A_reg ?_
  refine r_v (Value.int .i32 (c)) rfl rfl rfl rfl ?_
  replace hM := bind_sm hM; obtain ⟨r3, hr4, hM⟩ := hM
  refine r_c (Value.bool (r3)) rfl _ _ (ev_callF rfl call_31 rfl) (name_Letter_g N c _ hr4) ?_
  refine r_v (Value.bool (r3)) rfl rfl rfl rfl ?_
  rcases hg5 : (r3) with _ | _
  · replace hM := ifn (Bool.eq_false_iff.1 hg5) hM
    refine r_y rfl ?_
    refine r_v (Value.int .i64 (ahead)) rfl rfl rfl rfl ?_
    refine r_y rfl ?_
    refine r_v (Value.bool (decide ((ahead : Int) > 0))) rfl rfl rfl rfl ?_
    refine r_y rfl ?_
    refine r_v (Value.bool (decide ((ahead : Int) > 0))) rfl rfl rfl rfl ?_
    rcases hg6 : (decide ((ahead : Int) > 0)) with _ | _
    · replace hM := ifn (of_decide_eq_false hg6) hM
      refine r_n false rfl (by decide) rfl ?_
      refine r_n false rfl (by decide) rfl ?_
      refine r_n false rfl (by decide) rfl ?_
      refine r_nu rfl rfl ?_
      refine r_nu rfl rfl ?_
      refine r_n false rfl (by decide) rfl ?_
      refine r_n false rfl (by decide) rfl ?_
      refine r_nu rfl rfl ?_
      refine r_nu rfl rfl ?_
      refine r_n false rfl (by decide) rfl ?_
      refine r_y rfl ?_
      refine r_v (Value.bool (false)) rfl rfl rfl rfl ?_
      refine r_v (Value.bool (false)) rfl rfl rfl rfl ?_
      refine r_v (Value.bool (false)) rfl rfl rfl rfl ?_
      refine lx_nil ?_
      refine hK2 _ _ ?_; try clear hK2 K2
      obtain rfl := Option.some.inj hM
      refine A_ret (fun hn => ends_eq (v0 := Value.bool (false)) rfl (res1 rfl))
    · replace hM := ifp (of_decide_eq_true hg6) hM
      refine r_y rfl ?_
      refine r_v (Value.int .i32 (c)) rfl rfl rfl rfl ?_
      refine r_y rfl ?_
      replace hM := bind_sm hM; obtain ⟨r7, hr8, hM⟩ := hM
      refine r_c (Value.bool (r7)) rfl _ _ (ev_callF rfl call_34 rfl) (name_Digit_g N c _ hr8) ?_
      refine r_y rfl ?_
      refine r_v (Value.bool (r7)) rfl rfl rfl rfl ?_
      rcases hg9 : (r7) with _ | _
      · replace hM := ifn (Bool.eq_false_iff.1 hg9) hM
        refine r_y rfl ?_
        refine r_v (Value.int .i32 (c)) rfl rfl rfl rfl ?_
        refine r_y rfl ?_
        refine r_v (Value.bool (((c : Int) == 45))) rfl rfl rfl rfl ?_
        refine r_y rfl ?_
        refine r_v (Value.bool (((c : Int) == 45))) rfl rfl rfl rfl ?_
        refine r_y rfl ?_
        refine r_v (Value.bool (((c : Int) == 45))) rfl rfl rfl rfl ?_
        rcases hg10 : (((c : Int) == 45)) with _ | _
        · replace hM := ifn (ne_of_beq_false hg10) hM
          refine r_y rfl ?_
          refine r_v (Value.int .i32 (c)) rfl rfl rfl rfl ?_
          refine r_y rfl ?_
          refine r_v (Value.bool (((c : Int) == 46))) rfl rfl rfl rfl ?_
          refine r_y rfl ?_
          refine r_v (Value.bool (((c : Int) == 46))) rfl rfl rfl rfl ?_
          refine r_y rfl ?_
          refine r_v (Value.bool (((c : Int) == 46))) rfl rfl rfl rfl ?_
          refine r_v (Value.bool (((c : Int) == 46))) rfl rfl rfl rfl ?_
          refine r_v (Value.bool (((c : Int) == 46))) rfl rfl rfl rfl ?_
          refine lx_nil ?_
          refine hK2 _ _ ?_; try clear hK2 K2
          obtain rfl := Option.some.inj hM
          refine A_ret (fun hn => ends_eq (v0 := Value.bool (((c : Int) == 46))) rfl (res1 rfl))
        · replace hM := ifp (eq_of_beq hg10) hM
          refine r_n true rfl (by decide) rfl ?_
          refine r_n true rfl (by decide) rfl ?_
          refine r_y rfl ?_
          refine r_v (Value.bool (true)) rfl rfl rfl rfl ?_
          refine r_y rfl ?_
          refine r_v (Value.bool (true)) rfl rfl rfl rfl ?_
          refine r_v (Value.bool (true)) rfl rfl rfl rfl ?_
          refine r_v (Value.bool (true)) rfl rfl rfl rfl ?_
          refine lx_nil ?_
          refine hK2 _ _ ?_; try clear hK2 K2
          obtain rfl := Option.some.inj hM
          refine A_ret (fun hn => ends_eq (v0 := Value.bool (true)) rfl (res1 rfl))
      · replace hM := ifp hg9 hM
        refine r_n true rfl (by decide) rfl ?_
        refine r_n true rfl (by decide) rfl ?_
        refine r_y rfl ?_
        refine r_v (Value.bool (true)) rfl rfl rfl rfl ?_
        refine r_y rfl ?_
        refine r_v (Value.bool (true)) rfl rfl rfl rfl ?_
        refine r_n true rfl (by decide) rfl ?_
        refine r_n true rfl (by decide) rfl ?_
        refine r_y rfl ?_
        refine r_v (Value.bool (true)) rfl rfl rfl rfl ?_
        refine r_y rfl ?_
        refine r_v (Value.bool (true)) rfl rfl rfl rfl ?_
        refine r_v (Value.bool (true)) rfl rfl rfl rfl ?_
        refine r_v (Value.bool (true)) rfl rfl rfl rfl ?_
        refine lx_nil ?_
        refine hK2 _ _ ?_; try clear hK2 K2
        obtain rfl := Option.some.inj hM
        refine A_ret (fun hn => ends_eq (v0 := Value.bool (true)) rfl (res1 rfl))
  · replace hM := ifp hg5 hM
    refine r_n true rfl (by decide) rfl ?_
    refine r_n true rfl (by decide) rfl ?_
    refine r_n true rfl (by decide) rfl ?_
    refine r_nu rfl rfl ?_
    refine r_nu rfl rfl ?_
    refine r_nu rfl rfl ?_
    refine r_nu rfl rfl ?_
    refine r_nu rfl rfl ?_
    refine r_nu rfl rfl ?_
    refine r_nu rfl rfl ?_
    refine r_nu rfl rfl ?_
    refine r_nu rfl rfl ?_
    refine r_nu rfl rfl ?_
    refine r_n true rfl (by decide) rfl ?_
    refine r_v (Value.bool (true)) rfl rfl rfl rfl ?_
    refine r_v (Value.bool (true)) rfl rfl rfl rfl ?_
    refine lx_nil ?_
    refine hK2 _ _ ?_; try clear hK2 K2
    obtain rfl := Option.some.inj hM
    refine A_ret (fun hn => ends_eq (v0 := Value.bool (true)) rfl (res1 rfl))
def name_May_l3 (N : Nat) (s : List UInt8) : Nat → Int → Nat → Option (Bool)
  | 0, _, _ => none
  | n6 + 1, count1_, m2_ => if m2_ < (s).length then ck (m2_ < (s).length) (if (count1_ : Int) = 24 then some (false) else (name_mayStand_m N ((runeAt (s) (m2_) : Nat) : Int) count1_).bind fun r15 => if (r15) = true then ck ((-9223372036854775808 ≤ (count1_ + 1) ∧ (count1_ + 1) ≤ 9223372036854775807)) ((name_May_l3 N s n6) ((count1_ + 1)) (nextP (s) (m2_))) else some (false)) else some (decide ((count1_ : Int) > 0))
def name_May_m (N : Nat) (s : List UInt8) : Option (Bool) := name_May_l3 N s N (0) (0)
set_option maxRecDepth 100000 in
set_option maxHeartbeats 8000000 in
theorem name_May_g (N : Nat) (s : List UInt8) (r : Bool) (hM : name_May_m N s = some r) : Gives Tryd.prog 50 #[Value.string (⟨(s).toArray⟩)] (Value.bool (r)) := by
  unfold name_May_m at hM
  refine gives_of_A follows Tryd.func50 rfl 23 rfl (upd (fun _ => undef) 0 (Value.string (⟨(s).toArray⟩))) (by funext k; match k with | 0 => rfl | k + 1 => rfl) (fun base0_ => ?_)
  refine A_seq fun K1 hK1 => ?_
  refine A_reg ?_
  refine r_v (Value.bool (false)) rfl rfl rfl rfl ?_
  refine lx_nil ?_
  refine hK1 _ _ ?_; try clear hK1 K1
  refine A_seq fun K2 hK2 => ?_
  refine A_reg ?_
  refine r_v (Value.int .i64 (0)) rfl rfl rfl rfl ?_
  refine lx_nil ?_
  refine hK2 _ _ ?_; try clear hK2 K2
  refine A_seq fun K3 hK3 => ?_
  refine A_seq fun K4 hK4 => ?_
  refine A_regC [(some 7, false)] (conG Tryd.prog [(7, fun v_ L_ U_ => (pIt (s)) v_ L_ U_)]) ?_
  refine r_v (Value.string (⟨(s).toArray⟩)) rfl rfl rfl rfl ?_
  refine r_range (s) rfl rfl rfl rfl rfl (fun _ _ _ _ _ => Iff.rfl) (fun b5 => ?_)
  refine lx_nil ?_
  refine hK4 _ _ ?_; try clear hK4 K4
  refine A_block ?_
  refine A_loop (fun tt ll nn => ∃ (n6 : Nat) (count1_ : Int) (m2_ : Nat), (name_May_l3 N s n6 count1_ m2_ = some r) ∧ Is [(3, Value.int .i64 (count1_)), (7, Value.pointer (some ⟨b5, 0, none⟩))] [(b5, (itT (s) (m2_)), #[])] tt ll ∧ nn = n6 + 1) (N + 1) ?_ ?_
  · exact ⟨N, 0, 0, hM, is_mk rfl rfl, rfl⟩
  · clear hM; rintro t l _ ⟨n6, count1_, m2_, hM, ⟨⟨T, rfl⟩, rfl⟩, rfl⟩
    rcases n6 with _ | n6
    · exact absurd hM (by simp [name_May_l3])
    rw [name_May_l3] at hM
    refine A_seq fun K7 hK7 => ?_
    refine A_regC [(some 8, true)] (conG Tryd.prog [(8, fun v_ L_ U_ => (pNx b5 (s) (m2_)) v_ L_ U_)]) ?_
    refine r_next (lN := [(b5, (itT (s) (nextP (s) (m2_))), #[])]) 0 b5 (s) (m2_) rfl rfl rfl rfl rfl rfl (fun _ _ _ _ _ => Iff.rfl) rfl ?_
    refine r_v (Value.bool (decide (m2_ < (s).length))) rfl rfl rfl (ev_v (ev_next0 (s) (m2_))) ?_
    refine lx_nil ?_
    refine hK7 _ _ ?_; try clear hK7 K7
    refine A_seq fun K8 hK8 => ?_
    refine A_cond (decide (m2_ < (s).length)) rfl (fun hc9 => ?_) (fun hc9 => ?_)
    · replace hM := ifp (of_decide_eq_true hc9) hM
      refine A_skip ?_
      refine hK8 _ _ ?_; try clear hK8 K8
      refine A_block ?_
      refine A_seq fun K10 hK10 => ?_
      refine A_reg ?_
      replace hM := ck_some hM; obtain ⟨ck11, hM⟩ := hM
      refine r_v (Value.int .i32 (((runeAt (s) (m2_) : Nat) : Int))) rfl rfl rfl (ev_v (ev_next2 ck11)) ?_
      refine r_v (Value.int .i32 (((runeAt (s) (m2_) : Nat) : Int))) rfl rfl rfl rfl ?_
      refine lx_nil ?_
      refine hK10 _ _ ?_; try clear hK10 K10
      refine A_seq fun K12 hK12 => ?_
      refine A_seq fun K13 hK13 => ?_
      refine A_reg ?_
      refine r_v (Value.int .i64 (count1_)) rfl rfl rfl rfl ?_
      refine r_v (Value.bool (((count1_ : Int) == 24))) rfl rfl rfl rfl ?_
      refine r_v (Value.bool (((count1_ : Int) == 24))) rfl rfl rfl rfl ?_
      rcases hg14 : (((count1_ : Int) == 24)) with _ | _
      · replace hM := ifn (ne_of_beq_false hg14) hM
        refine r_y rfl ?_
        refine r_v (Value.int .i32 (((runeAt (s) (m2_) : Nat) : Int))) rfl rfl rfl rfl ?_
        refine r_y rfl ?_
        refine r_v (Value.int .i64 (count1_)) rfl rfl rfl rfl ?_
        refine r_y rfl ?_
        replace hM := bind_sm hM; obtain ⟨r15, hr16, hM⟩ := hM
        refine r_c (Value.bool (r15)) rfl _ _ (ev_callF rfl call_67 rfl) (name_mayStand_g N ((runeAt (s) (m2_) : Nat) : Int) count1_ _ hr16) ?_
        refine r_y rfl ?_
        refine r_v (Value.bool (!(r15))) rfl rfl rfl rfl ?_
        refine r_v (Value.bool (!(r15))) rfl rfl rfl rfl ?_
        refine lx_nil ?_
        refine hK13 _ _ ?_; try clear hK13 K13
        refine A_cond (!(r15)) rfl (fun hc17 => ?_) (fun hc17 => ?_)
        · replace hM := ifn (Bool.eq_false_iff.1 (not_t hc17)) hM
          refine A_seq fun K18 hK18 => ?_
          refine A_reg ?_
          refine r_v (Value.bool (false)) rfl rfl rfl rfl ?_
          refine lx_nil ?_
          refine hK18 _ _ ?_; try clear hK18 K18
          obtain rfl := Option.some.inj hM
          refine A_ret (fun hn => ends_eq (v0 := Value.bool (false)) rfl (res1 rfl))
        · replace hM := ifp (not_f hc17) hM
          refine A_skip ?_
          refine hK12 _ _ ?_; try clear hK12 K12
          refine A_reg ?_
          refine r_v (Value.int .i64 (count1_)) rfl rfl rfl rfl ?_
          replace hM := ck_some hM; obtain ⟨ck19, hM⟩ := hM
          refine r_v (Value.int .i64 ((count1_ + 1))) rfl rfl (wi64 rfl ck19.1 ck19.2) rfl ?_
          refine r_v (Value.int .i64 ((count1_ + 1))) rfl rfl rfl rfl ?_
          refine lx_nil ?_
          refine fg _ (Sub.of (List.Sublist.cons_cons _ (List.Sublist.slnil))) ?_
          exact ⟨n6 + 1, by omega, n6, (count1_ + 1), nextP (s) (m2_), hM, is_mk (by first | rfl | (simp only [hg14]; done) | (simp only [hg14]; rfl) | (simp only [app_hl]; rfl)) rfl, rfl⟩
      · replace hM := ifp (eq_of_beq hg14) hM
        refine r_n true rfl (by decide) rfl ?_
        refine r_n true rfl (by decide) rfl ?_
        refine r_n true rfl (by decide) rfl ?_
        refine r_n true rfl (by decide) rfl ?_
        refine r_v (Value.bool (true)) rfl rfl rfl rfl ?_
        refine lx_nil ?_
        refine hK13 _ _ ?_; try clear hK13 K13
        refine A_cond true rfl (fun _ => ?_) (fun h_ => nomatch h_)
        refine A_seq fun K20 hK20 => ?_
        refine A_reg ?_
        refine r_v (Value.bool (false)) rfl rfl rfl rfl ?_
        refine lx_nil ?_
        refine hK20 _ _ ?_; try clear hK20 K20
        obtain rfl := Option.some.inj hM
        refine A_ret (fun hn => ends_eq (v0 := Value.bool (false)) rfl (res1 rfl))
    · replace hM := ifn (of_decide_eq_false hc9) hM
      refine A_exit ?_
      refine hK3 _ _ ?_; try clear hK3 K3
      refine A_seq fun K21 hK21 => ?_
      refine A_reg ?_
      refine r_v (Value.int .i64 (count1_)) rfl rfl rfl rfl ?_
      refine r_v (Value.bool (decide ((count1_ : Int) > 0))) rfl rfl rfl rfl ?_
      refine r_v (Value.bool (decide ((count1_ : Int) > 0))) rfl rfl rfl rfl ?_
      refine lx_nil ?_
      refine hK21 _ _ ?_; try clear hK21 K21
      obtain rfl := Option.some.inj hM
      refine A_ret (fun hn => ends_eq (v0 := Value.bool (decide ((count1_ : Int) > 0))) rfl (res1 rfl))
def internal_stringslite_Clone_m (_ : Nat) (s : List UInt8) : Option (List UInt8) := if (((s).length : Int) : Int) = 0 then some ([]) else ck (0 ≤ ((s).length : Int) ∧ ((s).length : Int) ≤ 140737488355328) (ck (0 ≤ (0 : Int) ∧ (0 : Int) < ((((s).take ((List.replicate (((s).length : Int)).toNat (0 : UInt8))).length ++ ((List.replicate (((s).length : Int)).toNat (0 : UInt8))).drop (s).length)).length : Int)) (ck ((((s).take ((List.replicate (((s).length : Int)).toNat (0 : UInt8))).length ++ ((List.replicate (((s).length : Int)).toNat (0 : UInt8))).drop (s).length)).length ≤ 140737488355328) (some (((s).take ((List.replicate (((s).length : Int)).toNat (0 : UInt8))).length ++ ((List.replicate (((s).length : Int)).toNat (0 : UInt8))).drop (s).length)))))
set_option maxRecDepth 100000 in
set_option maxHeartbeats 8000000 in
theorem internal_stringslite_Clone_g (N : Nat) (s : List UInt8) (r : List UInt8) (hM : internal_stringslite_Clone_m N s = some r) : Gives Tryd.prog 43 #[Value.string (⟨(s).toArray⟩)] (Value.string (⟨(r).toArray⟩)) := by
  unfold internal_stringslite_Clone_m at hM
  refine gives_of_A follows Tryd.func43 rfl 18 rfl (upd (fun _ => undef) 0 (Value.string (⟨(s).toArray⟩))) (by funext k; match k with | 0 => rfl | k + 1 => rfl) (fun base0_ => ?_)
  refine A_seq fun K1 hK1 => ?_
  refine A_reg ?_
  refine r_v (Value.string (⟨#[]⟩)) rfl rfl rfl rfl ?_
  refine lx_nil ?_
  refine hK1 _ _ ?_; try clear hK1 K1
  refine A_seq fun K2 hK2 => ?_
  refine A_seq fun K3 hK3 => ?_
  refine A_reg ?_
  refine r_v (Value.string (⟨(s).toArray⟩)) rfl rfl rfl rfl ?_
  refine r_v (Value.int .i64 (((s).length : Int))) rfl rfl rfl (ev_lenS rfl rfl rfl) ?_
  refine r_v (Value.bool (((((s).length : Int) : Int) == 0))) rfl rfl rfl rfl ?_
  refine lx_nil ?_
  refine hK3 _ _ ?_; try clear hK3 K3
  refine A_cond (((((s).length : Int) : Int) == 0)) rfl (fun hc4 => ?_) (fun hc4 => ?_)
  · replace hM := ifp (eq_of_beq hc4) hM
    refine A_seq fun K5 hK5 => ?_
    refine A_reg ?_
    refine r_v (Value.string (⟨#[]⟩)) rfl rfl rfl rfl ?_
    refine lx_nil ?_
    refine hK5 _ _ ?_; try clear hK5 K5
    obtain rfl := Option.some.inj hM
    refine A_ret (fun hn => ends_eq (v0 := Value.string (⟨#[]⟩)) rfl (res1 rfl))
  · replace hM := ifn (ne_of_beq_false hc4) hM
    refine A_skip ?_
    refine hK2 _ _ ?_; try clear hK2 K2
    refine A_seq fun K6 hK6 => ?_
    refine A_regC [(some 9, false)] (conG Tryd.prog [(9, fun v_ L_ U_ => (p1 (fun v => v) 5 encY (List.replicate (((s).length : Int)).toNat (0 : UInt8))) v_ L_ U_)]) ?_
    refine r_v (Value.string (⟨(s).toArray⟩)) rfl rfl rfl rfl ?_
    refine r_v (Value.int .i64 (((s).length : Int))) rfl rfl rfl (ev_lenS rfl rfl rfl) ?_
    replace hM := ck_some hM; obtain ⟨ck7, hM⟩ := hM
    refine r_mk (Ls := []) 5 encY ((0 : UInt8)) (((s).length : Int)) rfl rfl rfl rfl rfl rfl rfl rfl rfl rfl 140737488355328 rfl ck7 (fun _ _ _ _ _ => Iff.rfl) (fun s8 S9 H10 => ?_)
    refine r_v (s8) rfl rfl rfl rfl ?_
    refine lx_nil ?_
    refine hK6 _ _ ?_; try clear hK6 K6
    refine A_seq fun K11 hK11 => ?_
    refine A_regC [(some 12, true)] (conG Tryd.prog [(12, fun v_ L_ U_ => (pUp (fun v_ U_ => v_ = .int .i64 ((min (s).length ((List.replicate (((s).length : Int)).toNat (0 : UInt8))).length : Nat) : Int) ∧ Sl 5 encY s8 ((s).take ((List.replicate (((s).length : Int)).toNat (0 : UInt8))).length ++ ((List.replicate (((s).length : Int)).toNat (0 : UInt8))).drop (s).length) U_ ∧ U_.map (·.1) = S9.map (·.1))) v_ L_ U_)]) ?_
    refine r_v (s8) rfl rfl rfl rfl ?_
    refine r_v (Value.string (⟨(s).toArray⟩)) rfl rfl rfl rfl ?_
    refine r_cpys (Lo := True) (Ls := [S9]) 0 (s) rfl rfl rfl rfl rfl rfl H10 rfl rfl rfl (fun _ _ _ _ _ => Iff.rfl) (fun S12 H13 => ?_)
    refine lx_nil ?_
    refine hK11 _ _ ?_; try clear hK11 K11
    refine A_seq fun K14 hK14 => ?_
    refine A_regC [(some 17, true)] (conG Tryd.prog [(17, fun v_ L_ U_ => (pUp (fun v_ U_ => v_ = .string ⟨(((s).take ((List.replicate (((s).length : Int)).toNat (0 : UInt8))).length ++ ((List.replicate (((s).length : Int)).toNat (0 : UInt8))).drop (s).length)).toArray⟩ ∧ U_ = deadB S12)) v_ L_ U_)]) ?_
    refine r_v (s8) rfl rfl rfl rfl ?_
    replace hM := ck_some hM; obtain ⟨ck15, hM⟩ := hM
    refine r_v (elA s8 (((0 : Int)).toNat * 1)) rfl rfl rfl (ev_v (ev_idxSl rfl rfl rfl (Sl.shp H13) ck15)) ?_
    refine r_v (s8) rfl rfl rfl rfl ?_
    refine r_v (Value.int .i64 (((((s).take ((List.replicate (((s).length : Int)).toNat (0 : UInt8))).length ++ ((List.replicate (((s).length : Int)).toNat (0 : UInt8))).drop (s).length)).length : Int))) rfl rfl rfl (ev_lenSl rfl rfl rfl (Sl.shp H13)) ?_
    replace hM := ck_some hM; obtain ⟨ck16, hM⟩ := hM
    refine r_uss (Ls := [S12]) 0 (xs := ((s).take ((List.replicate (((s).length : Int)).toNat (0 : UInt8))).length ++ ((List.replicate (((s).length : Int)).toNat (0 : UInt8))).drop (s).length)) rfl rfl rfl rfl rfl rfl (Sl.strict H13 (pos_of ck15)) (usd_of s8 (Sl.strict H13 (pos_of ck15)) (pos_of ck15)) rfl (by kernel_rfl) rfl ck16 (fun _ _ _ _ _ => Iff.rfl) ?_
    refine lx_perm (Ls := [deadB S12]) (Ls' := []) [] rfl rfl ?_
    refine r_v (Value.string (⟨(((s).take ((List.replicate (((s).length : Int)).toNat (0 : UInt8))).length ++ ((List.replicate (((s).length : Int)).toNat (0 : UInt8))).drop (s).length)).toArray⟩)) rfl rfl rfl rfl ?_
    refine lx_nil ?_
    refine hK14 _ _ ?_; try clear hK14 K14
    obtain rfl := Option.some.inj hM
    refine A_ret (fun hn => ends_eq (v0 := Value.string (⟨(((s).take ((List.replicate (((s).length : Int)).toNat (0 : UInt8))).length ++ ((List.replicate (((s).length : Int)).toNat (0 : UInt8))).drop (s).length)).toArray⟩)) rfl (res1 rfl))
def strings_Clone_m (N : Nat) (s : List UInt8) : Option (List UInt8) := (internal_stringslite_Clone_m N s).bind fun r3 => some (r3)
set_option maxRecDepth 100000 in
set_option maxHeartbeats 8000000 in
theorem strings_Clone_g (N : Nat) (s : List UInt8) (r : List UInt8) (hM : strings_Clone_m N s = some r) : Gives Tryd.prog 25 #[Value.string (⟨(s).toArray⟩)] (Value.string (⟨(r).toArray⟩)) := by
  unfold strings_Clone_m at hM
  refine gives_of_A follows Tryd.func25 rfl 5 rfl (upd (fun _ => undef) 0 (Value.string (⟨(s).toArray⟩))) (by funext k; match k with | 0 => rfl | k + 1 => rfl) (fun base0_ => ?_)
  refine A_seq fun K1 hK1 => ?_
  refine A_reg ?_
  refine r_v (Value.string (⟨#[]⟩)) rfl rfl rfl rfl ?_
  refine lx_nil ?_
  refine hK1 _ _ ?_; try clear hK1 K1
  refine A_seq fun K2 hK2 => ?_
  refine A_reg ?_
  refine r_v (Value.string (⟨(s).toArray⟩)) rfl rfl rfl rfl ?_
  replace hM := bind_sm hM; obtain ⟨r3, hr4, hM⟩ := hM
  refine r_c (Value.string (⟨(r3).toArray⟩)) rfl _ _ (ev_callF rfl call_43 rfl) (internal_stringslite_Clone_g N s _ hr4) ?_
  refine r_v (Value.string (⟨(r3).toArray⟩)) rfl rfl rfl rfl ?_
  refine lx_nil ?_
  refine hK2 _ _ ?_; try clear hK2 K2
  obtain rfl := Option.some.inj hM
  refine A_ret (fun hn => ends_eq (v0 := Value.string (⟨(r3).toArray⟩)) rfl (res1 rfl))
def lex_wordOf_m (N : Nat) (s : List UInt8) : Option (Int × (List UInt8) × Int × Int × (BitVec 128) × Int × Int) := (name_May_m N s).bind fun r5 => if (r5) = true then (strings_Clone_m N s).bind fun r10 => some (1, r10, 0, 0, (0#64) ++ (0#64), 0, 0) else some (0, [], 0, 0, (0#64) ++ (0#64), 0, 2)
set_option maxRecDepth 100000 in
set_option maxHeartbeats 8000000 in
theorem lex_wordOf_g (N : Nat) (s : List UInt8) (r : Int × (List UInt8) × Int × Int × (BitVec 128) × Int × Int) (hM : lex_wordOf_m N s = some r) : Gives Tryd.prog 33 #[Value.string (⟨(s).toArray⟩)] (Value.tuple #[Value.agg #[Value.int .i64 (r.1), Value.string (⟨(r.2.1).toArray⟩), Value.int .i64 (r.2.2.1), Value.int .i64 (r.2.2.2.1), U (hi (r.2.2.2.2.1)), U (lo (r.2.2.2.2.1)), Value.int .i64 (r.2.2.2.2.2.1)], Value.int .i64 (r.2.2.2.2.2.2)]) := by
  unfold lex_wordOf_m at hM
  refine gives_of_A follows Tryd.func33 rfl 11 rfl (upd (fun _ => undef) 0 (Value.string (⟨(s).toArray⟩))) (by funext k; match k with | 0 => rfl | k + 1 => rfl) (fun base0_ => ?_)
  refine A_seq fun K1 hK1 => ?_
  refine A_reg ?_
  refine r_a (47, #[Value.int .i64 (0), Value.string (⟨#[]⟩), Value.int .i64 (0), Value.int .i64 (0), U (0#64), U (0#64), Value.int .i64 (0)]) rfl rfl rfl (fun b2 => ?_) (.inr rfl)
  refine r_v (Value.int .i64 (0)) rfl rfl rfl rfl ?_
  refine lx_nil ?_
  refine hK1 _ _ ?_; try clear hK1 K1
  refine A_seq fun K3 hK3 => ?_
  refine A_seq fun K4 hK4 => ?_
  refine A_reg ?_
  refine r_v (Value.string (⟨(s).toArray⟩)) rfl rfl rfl rfl ?_
  replace hM := bind_sm hM; obtain ⟨r5, hr6, hM⟩ := hM
  refine r_c (Value.bool (r5)) rfl _ _ (ev_callF rfl call_50 rfl) (name_May_g N s _ hr6) ?_
  refine r_v (Value.bool (!(r5))) rfl rfl rfl rfl ?_
  refine lx_nil ?_
  refine hK4 _ _ ?_; try clear hK4 K4
  refine A_cond (!(r5)) rfl (fun hc7 => ?_) (fun hc7 => ?_)
  · replace hM := ifn (Bool.eq_false_iff.1 (not_t hc7)) hM
    refine A_seq fun K8 hK8 => ?_
    refine A_reg ?_
    refine r_v (Value.agg #[Value.int .i64 (0), Value.string (⟨#[]⟩), Value.int .i64 (0), Value.int .i64 (0), U (0#64), U (0#64), Value.int .i64 (0)]) rfl rfl rfl (ev_buildS rfl rfl rfl rfl) ?_
    refine r_s [(b2, 47, #[Value.int .i64 (0), Value.string (⟨#[]⟩), Value.int .i64 (0), Value.int .i64 (0), U (0#64), U (0#64), Value.int .i64 (0)])] 0 _ _ _ (#[Value.int .i64 (0), Value.string (⟨#[]⟩), Value.int .i64 (0), Value.int .i64 (0), U (0#64), U (0#64), Value.int .i64 (0)]) (#[Value.int .i64 (0), Value.string (⟨#[]⟩), Value.int .i64 (0), Value.int .i64 (0), U (0#64), U (0#64), Value.int .i64 (0)]) (#[Value.int .i64 (0), Value.string (⟨#[]⟩), Value.int .i64 (0), Value.int .i64 (0), U (0#64), U (0#64), Value.int .i64 (0)]) rfl rfl rfl rfl (.of rfl rfl) rfl rfl ?_
    refine r_v (Value.int .i64 (2)) rfl rfl rfl rfl ?_
    refine lx_nil ?_
    refine hK8 _ _ ?_; try clear hK8 K8
    obtain rfl := Option.some.inj hM
    refine A_ret (fun hn => ends_eq (v0 := Value.tuple #[Value.agg #[Value.int .i64 (0), Value.string (⟨#[]⟩), Value.int .i64 (0), Value.int .i64 (0), U (0#64), U (0#64), Value.int .i64 (0)], Value.int .i64 (2)]) (by first | rfl | (simp only [app_hl]; done) | simp only [app_hl]) (res2 (res_cell hn 0 rfl rfl rfl) rfl))
  · replace hM := ifp (not_f hc7) hM
    refine A_skip ?_
    refine hK3 _ _ ?_; try clear hK3 K3
    refine A_seq fun K9 hK9 => ?_
    refine A_reg ?_
    refine r_v (Value.string (⟨(s).toArray⟩)) rfl rfl rfl rfl ?_
    replace hM := bind_sm hM; obtain ⟨r10, hr11, hM⟩ := hM
    refine r_c (Value.string (⟨(r10).toArray⟩)) rfl _ _ (ev_callF rfl call_25 rfl) (strings_Clone_g N s _ hr11) ?_
    refine r_v (Value.agg #[Value.int .i64 (1), Value.string (⟨(r10).toArray⟩), Value.int .i64 (0), Value.int .i64 (0), U (0#64), U (0#64), Value.int .i64 (0)]) rfl rfl rfl (ev_buildS rfl rfl rfl rfl) ?_
    refine r_s [(b2, 47, #[Value.int .i64 (1), Value.string (⟨(r10).toArray⟩), Value.int .i64 (0), Value.int .i64 (0), U (0#64), U (0#64), Value.int .i64 (0)])] 0 _ _ _ (#[Value.int .i64 (0), Value.string (⟨#[]⟩), Value.int .i64 (0), Value.int .i64 (0), U (0#64), U (0#64), Value.int .i64 (0)]) (#[Value.int .i64 (1), Value.string (⟨(r10).toArray⟩), Value.int .i64 (0), Value.int .i64 (0), U (0#64), U (0#64), Value.int .i64 (0)]) (#[Value.int .i64 (1), Value.string (⟨(r10).toArray⟩), Value.int .i64 (0), Value.int .i64 (0), U (0#64), U (0#64), Value.int .i64 (0)]) rfl rfl rfl rfl (.of rfl rfl) rfl rfl ?_
    refine r_v (Value.int .i64 (0)) rfl rfl rfl rfl ?_
    refine lx_nil ?_
    refine hK9 _ _ ?_; try clear hK9 K9
    obtain rfl := Option.some.inj hM
    refine A_ret (fun hn => ends_eq (v0 := Value.tuple #[Value.agg #[Value.int .i64 (1), Value.string (⟨(r10).toArray⟩), Value.int .i64 (0), Value.int .i64 (0), U (0#64), U (0#64), Value.int .i64 (0)], Value.int .i64 (0)]) (by first | rfl | (simp only [app_hl]; done) | simp only [app_hl]) (res2 (res_cell hn 0 rfl rfl rfl) rfl))
def lex_inNumber_m (N : Nat) (c : Int) : Option (Bool) := (name_Letter_m N c).bind fun r3 => if (r3) = true then some (true) else (name_Digit_m N c).bind fun r6 => if (r6) = true then some (true) else some (((c : Int) == 39))
set_option maxRecDepth 100000 in
set_option maxHeartbeats 8000000 in
theorem lex_inNumber_g (N : Nat) (c : Int) (r : Bool) (hM : lex_inNumber_m N c = some r) : Gives Tryd.prog 35 #[Value.int .i32 (c)] (Value.bool (r)) := by
  unfold lex_inNumber_m at hM
  refine gives_of_A follows Tryd.func35 rfl 13 rfl (upd (fun _ => undef) 0 (Value.int .i32 (c))) (by funext k; match k with | 0 => rfl | k + 1 => rfl) (fun base0_ => ?_)
  refine A_seq fun K1 hK1 => ?_
  refine A_reg ?_
  refine r_v (Value.bool (false)) rfl rfl rfl rfl ?_
  refine lx_nil ?_
  refine hK1 _ _ ?_; try clear hK1 K1
  refine A_seq fun K2 hK2 => ?_
  refine A_reg ?_
  refine r_v (Value.int .i32 (c)) rfl rfl rfl rfl ?_
  replace hM := bind_sm hM; obtain ⟨r3, hr4, hM⟩ := hM
  refine r_c (Value.bool (r3)) rfl _ _ (ev_callF rfl call_31 rfl) (name_Letter_g N c _ hr4) ?_
  refine r_v (Value.bool (r3)) rfl rfl rfl rfl ?_
  rcases hg5 : (r3) with _ | _
  · replace hM := ifn (Bool.eq_false_iff.1 hg5) hM
    refine r_y rfl ?_
    refine r_v (Value.int .i32 (c)) rfl rfl rfl rfl ?_
    refine r_y rfl ?_
    replace hM := bind_sm hM; obtain ⟨r6, hr7, hM⟩ := hM
    refine r_c (Value.bool (r6)) rfl _ _ (ev_callF rfl call_34 rfl) (name_Digit_g N c _ hr7) ?_
    refine r_v (Value.bool (r6)) rfl rfl rfl rfl ?_
    refine r_v (Value.bool (r6)) rfl rfl rfl rfl ?_
    rcases hg8 : (r6) with _ | _
    · replace hM := ifn (Bool.eq_false_iff.1 hg8) hM
      refine r_y rfl ?_
      refine r_v (Value.int .i32 (c)) rfl rfl rfl rfl ?_
      refine r_y rfl ?_
      refine r_v (Value.bool (((c : Int) == 39))) rfl rfl rfl rfl ?_
      refine r_v (Value.bool (((c : Int) == 39))) rfl rfl rfl rfl ?_
      refine r_v (Value.bool (((c : Int) == 39))) rfl rfl rfl rfl ?_
      refine lx_nil ?_
      refine hK2 _ _ ?_; try clear hK2 K2
      obtain rfl := Option.some.inj hM
      refine A_ret (fun hn => ends_eq (v0 := Value.bool (((c : Int) == 39))) rfl (res1 rfl))
    · replace hM := ifp hg8 hM
      refine r_n true rfl (by decide) rfl ?_
      refine r_n true rfl (by decide) rfl ?_
      refine r_v (Value.bool (true)) rfl rfl rfl rfl ?_
      refine r_v (Value.bool (true)) rfl rfl rfl rfl ?_
      refine lx_nil ?_
      refine hK2 _ _ ?_; try clear hK2 K2
      obtain rfl := Option.some.inj hM
      refine A_ret (fun hn => ends_eq (v0 := Value.bool (true)) rfl (res1 rfl))
  · replace hM := ifp hg5 hM
    refine r_n true rfl (by decide) rfl ?_
    refine r_n true rfl (by decide) rfl ?_
    refine r_v (Value.bool (true)) rfl rfl rfl rfl ?_
    refine r_v (Value.bool (true)) rfl rfl rfl rfl ?_
    refine r_n true rfl (by decide) rfl ?_
    refine r_n true rfl (by decide) rfl ?_
    refine r_v (Value.bool (true)) rfl rfl rfl rfl ?_
    refine r_v (Value.bool (true)) rfl rfl rfl rfl ?_
    refine lx_nil ?_
    refine hK2 _ _ ?_; try clear hK2 K2
    obtain rfl := Option.some.inj hM
    refine A_ret (fun hn => ends_eq (v0 := Value.bool (true)) rfl (res1 rfl))
def lex_run_v3_l2 (N : Nat) (s : List UInt8) : Nat → Nat → Option (Int)
  | 0, _ => none
  | n5 + 1, m1_ => if m1_ < (s).length then ck (m1_ < (s).length) (ck (m1_ < (s).length) ((lex_inNumber_m N ((runeAt (s) (m1_) : Nat) : Int)).bind fun r13 => if (r13) = true then (lex_run_v3_l2 N s n5) (nextP (s) (m1_)) else some (((m1_ : Nat) : Int)))) else some (((s).length : Int))
def lex_run_v3_m (N : Nat) (s : List UInt8) : Option (Int) := lex_run_v3_l2 N s N (0)
set_option maxRecDepth 100000 in
set_option maxHeartbeats 8000000 in
theorem lex_run_v3_g (N : Nat) (s : List UInt8) (r : Int) (hM : lex_run_v3_m N s = some r) : Gives Tryd.prog 16 #[Value.string (⟨(s).toArray⟩), Value.func (.func 35) #[] #[]] (Value.int .i64 (r)) := by
  unfold lex_run_v3_m at hM
  refine gives_of_A follows Tryd.func16 rfl 20 rfl (upd (upd (fun _ => undef) 1 (Value.func (.func 35) #[] #[])) 0 (Value.string (⟨(s).toArray⟩))) (by funext k; match k with | 0 => rfl | 1 => rfl | k + 2 => rfl) (fun base0_ => ?_)
  refine A_seq fun K1 hK1 => ?_
  refine A_reg ?_
  refine r_v (Value.int .i64 (0)) rfl rfl rfl rfl ?_
  refine lx_nil ?_
  refine hK1 _ _ ?_; try clear hK1 K1
  refine A_seq fun K2 hK2 => ?_
  refine A_seq fun K3 hK3 => ?_
  refine A_regC [(some 8, false)] (conG Tryd.prog [(8, fun v_ L_ U_ => (pIt (s)) v_ L_ U_)]) ?_
  refine r_v (Value.string (⟨(s).toArray⟩)) rfl rfl rfl rfl ?_
  refine r_range (s) rfl rfl rfl rfl rfl (fun _ _ _ _ _ => Iff.rfl) (fun b4 => ?_)
  refine lx_nil ?_
  refine hK3 _ _ ?_; try clear hK3 K3
  refine A_block ?_
  refine A_loop (fun tt ll nn => ∃ (n5 : Nat) (m1_ : Nat), (lex_run_v3_l2 N s n5 m1_ = some r) ∧ Is [(0, Value.string (⟨(s).toArray⟩)), (1, Value.func (.func 35) #[] #[]), (8, Value.pointer (some ⟨b4, 0, none⟩))] [(b4, (itT (s) (m1_)), #[])] tt ll ∧ nn = n5 + 1) (N + 1) ?_ ?_
  · exact ⟨N, 0, hM, is_mk rfl rfl, rfl⟩
  · clear hM; rintro t l _ ⟨n5, m1_, hM, ⟨⟨T, rfl⟩, rfl⟩, rfl⟩
    rcases n5 with _ | n5
    · exact absurd hM (by simp [lex_run_v3_l2])
    rw [lex_run_v3_l2] at hM
    refine A_seq fun K6 hK6 => ?_
    refine A_regC [(some 9, true)] (conG Tryd.prog [(9, fun v_ L_ U_ => (pNx b4 (s) (m1_)) v_ L_ U_)]) ?_
    refine r_next (lN := [(b4, (itT (s) (nextP (s) (m1_))), #[])]) 0 b4 (s) (m1_) rfl rfl rfl rfl rfl rfl (fun _ _ _ _ _ => Iff.rfl) rfl ?_
    refine r_v (Value.bool (decide (m1_ < (s).length))) rfl rfl rfl (ev_v (ev_next0 (s) (m1_))) ?_
    refine lx_nil ?_
    refine hK6 _ _ ?_; try clear hK6 K6
    refine A_seq fun K7 hK7 => ?_
    refine A_cond (decide (m1_ < (s).length)) rfl (fun hc8 => ?_) (fun hc8 => ?_)
    · replace hM := ifp (of_decide_eq_true hc8) hM
      refine A_skip ?_
      refine hK7 _ _ ?_; try clear hK7 K7
      refine A_block ?_
      refine A_seq fun K9 hK9 => ?_
      refine A_reg ?_
      replace hM := ck_some hM; obtain ⟨ck10, hM⟩ := hM
      refine r_v (Value.int .i64 (((m1_ : Nat) : Int))) rfl rfl rfl (ev_v (ev_next1 ck10)) ?_
      replace hM := ck_some hM; obtain ⟨ck11, hM⟩ := hM
      refine r_v (Value.int .i32 (((runeAt (s) (m1_) : Nat) : Int))) rfl rfl rfl (ev_v (ev_next2 ck11)) ?_
      refine r_v (Value.int .i64 (((m1_ : Nat) : Int))) rfl rfl rfl rfl ?_
      refine r_v (Value.int .i32 (((runeAt (s) (m1_) : Nat) : Int))) rfl rfl rfl rfl ?_
      refine lx_nil ?_
      refine hK9 _ _ ?_; try clear hK9 K9
      refine A_seq fun K12 hK12 => ?_
      refine A_reg ?_
      refine r_v (Value.func (.func 35) #[] #[]) rfl rfl rfl rfl ?_
      refine r_v (Value.int .i32 (((runeAt (s) (m1_) : Nat) : Int))) rfl rfl rfl rfl ?_
      replace hM := bind_sm hM; obtain ⟨r13, hr14, hM⟩ := hM
      refine r_c (Value.bool (r13)) rfl _ _ (ev_callV (caps := []) rfl call_35 rfl) (lex_inNumber_g N ((runeAt (s) (m1_) : Nat) : Int) _ hr14) ?_
      refine r_v (Value.bool (!(r13))) rfl rfl rfl rfl ?_
      refine lx_nil ?_
      refine hK12 _ _ ?_; try clear hK12 K12
      refine A_cond (!(r13)) rfl (fun hc15 => ?_) (fun hc15 => ?_)
      · replace hM := ifn (Bool.eq_false_iff.1 (not_t hc15)) hM
        refine A_seq fun K16 hK16 => ?_
        refine A_reg ?_
        refine r_v (Value.int .i64 (((m1_ : Nat) : Int))) rfl rfl rfl rfl ?_
        refine r_v (Value.int .i64 (((m1_ : Nat) : Int))) rfl rfl rfl rfl ?_
        refine lx_nil ?_
        refine hK16 _ _ ?_; try clear hK16 K16
        obtain rfl := Option.some.inj hM
        refine A_ret (fun hn => ends_eq (v0 := Value.int .i64 (((m1_ : Nat) : Int))) rfl (res1 rfl))
      · replace hM := ifp (not_f hc15) hM
        refine A_skip ?_
        refine fg _ (Sub.of (List.Sublist.cons_cons _ (List.Sublist.slnil))) ?_
        exact ⟨n5 + 1, by omega, n5, nextP (s) (m1_), hM, is_mk rfl rfl, rfl⟩
    · replace hM := ifn (of_decide_eq_false hc8) hM
      refine A_exit ?_
      refine hK2 _ _ ?_; try clear hK2 K2
      refine A_seq fun K17 hK17 => ?_
      refine A_reg ?_
      refine r_v (Value.string (⟨(s).toArray⟩)) rfl rfl rfl rfl ?_
      refine r_v (Value.int .i64 (((s).length : Int))) rfl rfl rfl (ev_lenS rfl rfl rfl) ?_
      refine r_v (Value.int .i64 (((s).length : Int))) rfl rfl rfl rfl ?_
      refine lx_nil ?_
      refine hK17 _ _ ?_; try clear hK17 K17
      obtain rfl := Option.some.inj hM
      refine A_ret (fun hn => ends_eq (v0 := Value.int .i64 (((s).length : Int))) rfl (res1 rfl))
def internal_stringslite_Cut_m (_ : Nat) (s : List UInt8) (sep : List UInt8) : Option ((List UInt8) × (List UInt8) × Bool) := ck ((sep).length = 1) (if (Lib.index (s) (sep) : Int) ≥ 0 then ck (0 ≤ Lib.index (s) (sep) ∧ Lib.index (s) (sep) ≤ ((s).length : Int)) (ck ((-9223372036854775808 ≤ (Lib.index (s) (sep) + ((sep).length : Int)) ∧ (Lib.index (s) (sep) + ((sep).length : Int)) ≤ 9223372036854775807)) (ck (0 ≤ (Lib.index (s) (sep) + ((sep).length : Int)) ∧ (Lib.index (s) (sep) + ((sep).length : Int)) ≤ ((s).length : Int)) (some ((s).take (Lib.index (s) (sep)).toNat, (s).drop ((Lib.index (s) (sep) + ((sep).length : Int))).toNat, true)))) else some (s, [], false))
set_option maxRecDepth 100000 in
set_option maxHeartbeats 8000000 in
theorem internal_stringslite_Cut_g (N : Nat) (s : List UInt8) (sep : List UInt8) (r : (List UInt8) × (List UInt8) × Bool) (hM : internal_stringslite_Cut_m N s sep = some r) : Gives Tryd.prog 92 #[Value.string (⟨(s).toArray⟩), Value.string (⟨(sep).toArray⟩)] (Value.tuple #[Value.string (⟨(r.1).toArray⟩), Value.string (⟨(r.2.1).toArray⟩), Value.bool (r.2.2)]) := by
  unfold internal_stringslite_Cut_m at hM
  refine gives_of_A follows Tryd.func92 rfl 23 rfl (upd (upd (fun _ => undef) 1 (Value.string (⟨(sep).toArray⟩))) 0 (Value.string (⟨(s).toArray⟩))) (by funext k; match k with | 0 => rfl | 1 => rfl | k + 2 => rfl) (fun base0_ => ?_)
  refine A_seq fun K1 hK1 => ?_
  refine A_reg ?_
  refine r_v (Value.string (⟨#[]⟩)) rfl rfl rfl rfl ?_
  refine r_v (Value.string (⟨#[]⟩)) rfl rfl rfl rfl ?_
  refine r_v (Value.bool (false)) rfl rfl rfl rfl ?_
  refine lx_nil ?_
  refine hK1 _ _ ?_; try clear hK1 K1
  refine A_seq fun K2 hK2 => ?_
  refine A_seq fun K3 hK3 => ?_
  refine A_reg ?_
  refine r_v (Value.string (⟨(s).toArray⟩)) rfl rfl rfl rfl ?_
  refine r_v (Value.string (⟨(sep).toArray⟩)) rfl rfl rfl rfl ?_
  replace hM := ck_some hM; obtain ⟨ck4, hM⟩ := hM
  refine r_c (Value.int .i64 (Lib.index (s) (sep))) rfl _ _ (ev_callF rfl call_96 rfl) (index1_g (s) (sep) ck4) ?_
  refine r_v (Value.int .i64 (Lib.index (s) (sep))) rfl rfl rfl rfl ?_
  refine lx_nil ?_
  refine hK3 _ _ ?_; try clear hK3 K3
  refine A_seq fun K5 hK5 => ?_
  refine A_reg ?_
  refine r_v (Value.int .i64 (Lib.index (s) (sep))) rfl rfl rfl rfl ?_
  refine r_v (Value.bool (decide ((Lib.index (s) (sep) : Int) ≥ 0))) rfl rfl rfl rfl ?_
  refine lx_nil ?_
  refine hK5 _ _ ?_; try clear hK5 K5
  refine A_cond (decide ((Lib.index (s) (sep) : Int) ≥ 0)) rfl (fun hc6 => ?_) (fun hc6 => ?_)
  · replace hM := ifp (of_decide_eq_true hc6) hM
    refine A_seq fun K7 hK7 => ?_
    refine A_draw [] (by decide +kernel) (fun hn => sep_nil) ?_
    refine r_v (Value.string (⟨(s).toArray⟩)) rfl rfl rfl rfl ?_
    refine r_v (Value.int .i64 (Lib.index (s) (sep))) rfl rfl rfl rfl ?_
    replace hM := ck_some hM; obtain ⟨ck8, hM⟩ := hM
    refine r_v (Value.string (⟨((s).take (Lib.index (s) (sep)).toNat).toArray⟩)) rfl rfl rfl (ev_v (ev_sliceS2 rfl ck8)) ?_
    refine r_v (Value.string (⟨(s).toArray⟩)) rfl rfl rfl rfl ?_
    refine r_v (Value.int .i64 (Lib.index (s) (sep))) rfl rfl rfl rfl ?_
    refine r_v (Value.string (⟨(sep).toArray⟩)) rfl rfl rfl rfl ?_
    refine r_v (Value.int .i64 (((sep).length : Int))) rfl rfl rfl (ev_lenS rfl rfl rfl) ?_
    replace hM := ck_some hM; obtain ⟨ck9, hM⟩ := hM
    refine r_v (Value.int .i64 ((Lib.index (s) (sep) + ((sep).length : Int)))) rfl rfl (wi64 rfl ck9.1 ck9.2) rfl ?_
    replace hM := ck_some hM; obtain ⟨ck10, hM⟩ := hM
    refine r_v (Value.string (⟨((s).drop ((Lib.index (s) (sep) + ((sep).length : Int))).toNat).toArray⟩)) rfl rfl rfl (ev_v (ev_sliceS1 rfl ck10)) ?_
    refine r_v (Value.string (⟨((s).take (Lib.index (s) (sep)).toNat).toArray⟩)) rfl rfl rfl rfl ?_
    refine r_v (Value.string (⟨((s).drop ((Lib.index (s) (sep) + ((sep).length : Int))).toNat).toArray⟩)) rfl rfl rfl rfl ?_
    refine r_v (Value.bool (true)) rfl rfl rfl rfl ?_
    refine lx_nil ?_
    refine hK7 _ _ ?_; try clear hK7 K7
    obtain rfl := Option.some.inj hM
    refine A_ret (fun hn => ends_eq (v0 := Value.tuple #[Value.string (⟨((s).take (Lib.index (s) (sep)).toNat).toArray⟩), Value.string (⟨((s).drop ((Lib.index (s) (sep) + ((sep).length : Int))).toNat).toArray⟩), Value.bool (true)]) rfl (res3 rfl rfl rfl))
  · replace hM := ifn (of_decide_eq_false hc6) hM
    refine A_skip ?_
    refine hK2 _ _ ?_; try clear hK2 K2
    refine A_seq fun K11 hK11 => ?_
    refine A_reg ?_
    refine r_v (Value.string (⟨(s).toArray⟩)) rfl rfl rfl rfl ?_
    refine r_v (Value.string (⟨(s).toArray⟩)) rfl rfl rfl rfl ?_
    refine r_v (Value.string (⟨#[]⟩)) rfl rfl rfl rfl ?_
    refine r_v (Value.bool (false)) rfl rfl rfl rfl ?_
    refine lx_nil ?_
    refine hK11 _ _ ?_; try clear hK11 K11
    obtain rfl := Option.some.inj hM
    refine A_ret (fun hn => ends_eq (v0 := Value.tuple #[Value.string (⟨(s).toArray⟩), Value.string (⟨#[]⟩), Value.bool (false)]) rfl (res3 rfl rfl rfl))
def strings_Cut_m (N : Nat) (s : List UInt8) (sep : List UInt8) : Option ((List UInt8) × (List UInt8) × Bool) := (internal_stringslite_Cut_m N s sep).bind fun r3 => some (r3.1, r3.2.1, r3.2.2)
set_option maxRecDepth 100000 in
set_option maxHeartbeats 8000000 in
theorem strings_Cut_g (N : Nat) (s : List UInt8) (sep : List UInt8) (r : (List UInt8) × (List UInt8) × Bool) (hM : strings_Cut_m N s sep = some r) : Gives Tryd.prog 81 #[Value.string (⟨(s).toArray⟩), Value.string (⟨(sep).toArray⟩)] (Value.tuple #[Value.string (⟨(r.1).toArray⟩), Value.string (⟨(r.2.1).toArray⟩), Value.bool (r.2.2)]) := by
  unfold strings_Cut_m at hM
  refine gives_of_A follows Tryd.func81 rfl 13 rfl (upd (upd (fun _ => undef) 1 (Value.string (⟨(sep).toArray⟩))) 0 (Value.string (⟨(s).toArray⟩))) (by funext k; match k with | 0 => rfl | 1 => rfl | k + 2 => rfl) (fun base0_ => ?_)
  refine A_seq fun K1 hK1 => ?_
  refine A_reg ?_
  refine r_v (Value.string (⟨#[]⟩)) rfl rfl rfl rfl ?_
  refine r_v (Value.string (⟨#[]⟩)) rfl rfl rfl rfl ?_
  refine r_v (Value.bool (false)) rfl rfl rfl rfl ?_
  refine lx_nil ?_
  refine hK1 _ _ ?_; try clear hK1 K1
  refine A_seq fun K2 hK2 => ?_
  refine A_reg ?_
  refine r_v (Value.string (⟨(s).toArray⟩)) rfl rfl rfl rfl ?_
  refine r_v (Value.string (⟨(sep).toArray⟩)) rfl rfl rfl rfl ?_
  replace hM := bind_sm hM; obtain ⟨r3, hr4, hM⟩ := hM
  refine r_c (Value.tuple #[Value.string (⟨(r3.1).toArray⟩), Value.string (⟨(r3.2.1).toArray⟩), Value.bool (r3.2.2)]) rfl _ _ (ev_callF rfl call_92 rfl) (internal_stringslite_Cut_g N s sep _ hr4) ?_
  refine r_v (Value.string (⟨(r3.1).toArray⟩)) rfl rfl rfl rfl ?_
  refine r_v (Value.string (⟨(r3.2.1).toArray⟩)) rfl rfl rfl rfl ?_
  refine r_v (Value.bool (r3.2.2)) rfl rfl rfl rfl ?_
  refine r_v (Value.string (⟨(r3.1).toArray⟩)) rfl rfl rfl rfl ?_
  refine r_v (Value.string (⟨(r3.2.1).toArray⟩)) rfl rfl rfl rfl ?_
  refine r_v (Value.bool (r3.2.2)) rfl rfl rfl rfl ?_
  refine lx_nil ?_
  refine hK2 _ _ ?_; try clear hK2 K2
  obtain rfl := Option.some.inj hM
  refine A_ret (fun hn => ends_eq (v0 := Value.tuple #[Value.string (⟨(r3.1).toArray⟩), Value.string (⟨(r3.2.1).toArray⟩), Value.bool (r3.2.2)]) rfl (res3 rfl rfl rfl))
def vec_mayWidth_m (_ : Nat) (w : Int) : Option (Bool) := if (w : Int) ≥ 1 then some (decide ((w : Int) ≤ 128)) else some (false)
set_option maxRecDepth 100000 in
set_option maxHeartbeats 8000000 in
theorem vec_mayWidth_g (N : Nat) (w : Int) (r : Bool) (hM : vec_mayWidth_m N w = some r) : Gives Tryd.prog 59 #[Value.int .i64 (w)] (Value.bool (r)) := by
  unfold vec_mayWidth_m at hM
  refine gives_of_A follows Tryd.func59 rfl 9 rfl (upd (fun _ => undef) 0 (Value.int .i64 (w))) (by funext k; match k with | 0 => rfl | k + 1 => rfl) (fun base0_ => ?_)
  refine A_seq fun K1 hK1 => ?_
  refine A_reg ?_
  refine r_v (Value.bool (false)) rfl rfl rfl rfl ?_
  refine lx_nil ?_
  refine hK1 _ _ ?_; try clear hK1 K1
  refine A_seq fun K2 hK2 => ?_
  refine A_reg ?_
  refine r_v (Value.int .i64 (w)) rfl rfl rfl rfl ?_
  refine r_v (Value.bool (decide ((w : Int) ≥ 1))) rfl rfl rfl rfl ?_
  refine r_v (Value.bool (decide ((w : Int) ≥ 1))) rfl rfl rfl rfl ?_
  rcases hg3 : (decide ((w : Int) ≥ 1)) with _ | _
  · replace hM := ifn (of_decide_eq_false hg3) hM
    refine r_n false rfl (by decide) rfl ?_
    refine r_n false rfl (by decide) rfl ?_
    refine r_v (Value.bool (false)) rfl rfl rfl rfl ?_
    refine r_v (Value.bool (false)) rfl rfl rfl rfl ?_
    refine lx_nil ?_
    refine hK2 _ _ ?_; try clear hK2 K2
    obtain rfl := Option.some.inj hM
    refine A_ret (fun hn => ends_eq (v0 := Value.bool (false)) rfl (res1 rfl))
  · replace hM := ifp (of_decide_eq_true hg3) hM
    refine r_y rfl ?_
    refine r_v (Value.int .i64 (w)) rfl rfl rfl rfl ?_
    refine r_y rfl ?_
    refine r_v (Value.bool (decide ((w : Int) ≤ 128))) rfl rfl rfl rfl ?_
    refine r_v (Value.bool (decide ((w : Int) ≤ 128))) rfl rfl rfl rfl ?_
    refine r_v (Value.bool (decide ((w : Int) ≤ 128))) rfl rfl rfl rfl ?_
    refine lx_nil ?_
    refine hK2 _ _ ?_; try clear hK2 K2
    obtain rfl := Option.some.inj hM
    refine A_ret (fun hn => ends_eq (v0 := Value.bool (decide ((w : Int) ≤ 128))) rfl (res1 rfl))
def vec_Word_m (_ : Nat) (_ : Int) (v_1 : BitVec 128) : Option (BitVec 128) := some (v_1)
set_option maxRecDepth 100000 in
set_option maxHeartbeats 8000000 in
theorem vec_Word_g (N : Nat) (v_0 : Int) (v_1 : BitVec 128) (r : BitVec 128) (hM : vec_Word_m N v_0 v_1 = some r) : Gives Tryd.prog 46 #[Value.agg #[Value.int .i64 (v_0), U (hi (v_1)), U (lo (v_1))]] (Value.agg #[U (hi (r)), U (lo (r))]) := by
  unfold vec_Word_m at hM
  refine gives_of_A follows Tryd.func46 rfl 8 rfl (upd (fun _ => undef) 0 (Value.agg #[Value.int .i64 (v_0), U (hi (v_1)), U (lo (v_1))])) (by funext k; match k with | 0 => rfl | k + 1 => rfl) (fun base0_ => ?_)
  refine A_seq fun K1 hK1 => ?_
  refine A_reg ?_
  refine r_a (42, #[Value.int .i64 (v_0), U (hi (v_1)), U (lo (v_1))]) rfl rfl rfl (fun b2 => ?_) (.inr rfl)
  refine r_a (82, #[U (0#64), U (0#64)]) rfl rfl rfl (fun b3 => ?_) (.inr rfl)
  refine lx_nil ?_
  refine hK1 _ _ ?_; try clear hK1 K1
  refine A_seq fun K4 hK4 => ?_
  refine A_reg ?_
  refine r_v (Value.pointer (some ⟨b2, 1, none⟩)) rfl rfl rfl rfl ?_
  refine r_l (U (hi (v_1))) 1 _ _ _ _ rfl rfl rfl rfl rfl ?_
  refine r_v (Value.pointer (some ⟨b2, 2, none⟩)) rfl rfl rfl rfl ?_
  refine r_l (U (lo (v_1))) 1 _ _ _ _ rfl rfl rfl rfl rfl ?_
  refine r_v (Value.agg #[U (hi (v_1)), U (lo (v_1))]) rfl rfl rfl (ev_buildS rfl rfl rfl rfl) ?_
  refine r_s [(b3, 82, #[U (hi (v_1)), U (lo (v_1))]), (b2, 42, #[Value.int .i64 (v_0), U (hi (v_1)), U (lo (v_1))])] 0 _ _ _ (#[U (0#64), U (0#64)]) (#[U (hi (v_1)), U (lo (v_1))]) (#[U (hi (v_1)), U (lo (v_1))]) rfl rfl rfl rfl (.of rfl rfl) rfl rfl ?_
  refine lx_nil ?_
  refine hK4 _ _ ?_; try clear hK4 K4
  obtain rfl := Option.some.inj hM
  refine A_ret (fun hn => ends_eq (v0 := Value.agg #[U (hi (v_1)), U (lo (v_1))]) rfl (res1 (res_cell hn 0 rfl rfl rfl)))
def vec_May_m (N : Nat) (v_0 : Int) (v_1 : BitVec 128) : Option (Bool) := (vec_mayWidth_m N v_0).bind fun r4 => if (r4) = true then (vec_Word_m N v_0 v_1).bind fun r7 => some (decide ((((len128 (r7) : Nat) : Int) : Int) ≤ v_0)) else some (false)
set_option maxRecDepth 100000 in
set_option maxHeartbeats 8000000 in
theorem vec_May_g (N : Nat) (v_0 : Int) (v_1 : BitVec 128) (r : Bool) (hM : vec_May_m N v_0 v_1 = some r) : Gives Tryd.prog 44 #[Value.agg #[Value.int .i64 (v_0), U (hi (v_1)), U (lo (v_1))]] (Value.bool (r)) := by
  unfold vec_May_m at hM
  refine gives_of_A follows Tryd.func44 rfl 14 rfl (upd (fun _ => undef) 0 (Value.agg #[Value.int .i64 (v_0), U (hi (v_1)), U (lo (v_1))])) (by funext k; match k with | 0 => rfl | k + 1 => rfl) (fun base0_ => ?_)
  refine A_seq fun K1 hK1 => ?_
  refine A_reg ?_
  refine r_a (42, #[Value.int .i64 (v_0), U (hi (v_1)), U (lo (v_1))]) rfl rfl rfl (fun b2 => ?_) (.inr rfl)
  refine r_v (Value.bool (false)) rfl rfl rfl rfl ?_
  refine lx_nil ?_
  refine hK1 _ _ ?_; try clear hK1 K1
  refine A_seq fun K3 hK3 => ?_
  refine A_draw [] (by decide +kernel) (fun hn => sep_nil) ?_
  refine r_v (Value.pointer (some ⟨b2, 0, none⟩)) rfl rfl rfl rfl ?_
  refine r_l (Value.int .i64 (v_0)) 0 _ _ _ _ rfl rfl rfl rfl rfl ?_
  replace hM := bind_sm hM; obtain ⟨r4, hr5, hM⟩ := hM
  refine r_c (Value.bool (r4)) rfl _ _ (ev_callF rfl call_59 rfl) (vec_mayWidth_g N v_0 _ hr5) ?_
  refine r_v (Value.bool (r4)) rfl rfl rfl rfl ?_
  rcases hg6 : (r4) with _ | _
  · replace hM := ifn (Bool.eq_false_iff.1 hg6) hM
    refine r_n false rfl (by decide) rfl ?_
    refine r_n false rfl (by decide) rfl ?_
    refine r_n false rfl (by decide) rfl ?_
    refine r_n false rfl (by decide) rfl ?_
    refine r_n false rfl (by decide) rfl ?_
    refine r_n false rfl (by decide) rfl ?_
    refine r_v (Value.bool (false)) rfl rfl rfl rfl ?_
    refine r_v (Value.bool (false)) rfl rfl rfl rfl ?_
    refine lx_nil ?_
    refine hK3 _ _ ?_; try clear hK3 K3
    obtain rfl := Option.some.inj hM
    refine A_ret (fun hn => ends_eq (v0 := Value.bool (false)) rfl (res1 rfl))
  · replace hM := ifp hg6 hM
    refine r_y rfl ?_
    refine r_l (Value.agg #[Value.int .i64 (v_0), U (hi (v_1)), U (lo (v_1))]) 0 _ _ _ _ rfl rfl rfl rfl rfl ?_
    refine r_y rfl ?_
    replace hM := bind_sm hM; obtain ⟨r7, hr8, hM⟩ := hM
    refine r_c (Value.agg #[U (hi (r7)), U (lo (r7))]) rfl _ _ (ev_callF rfl call_46 rfl) (vec_Word_g N v_0 v_1 _ hr8) ?_
    refine r_y rfl ?_
    refine r_c (Value.int .i64 (((len128 (r7) : Nat) : Int))) rfl _ _ (ev_callF rfl call_54 rfl) (len_g (r7)) ?_
    refine r_y rfl ?_
    refine r_v (Value.pointer (some ⟨b2, 0, none⟩)) rfl rfl rfl rfl ?_
    refine r_y rfl ?_
    refine r_l (Value.int .i64 (v_0)) 0 _ _ _ _ rfl rfl rfl rfl rfl ?_
    refine r_y rfl ?_
    refine r_v (Value.bool (decide ((((len128 (r7) : Nat) : Int) : Int) ≤ v_0))) rfl rfl rfl rfl ?_
    refine r_v (Value.bool (decide ((((len128 (r7) : Nat) : Int) : Int) ≤ v_0))) rfl rfl rfl rfl ?_
    refine r_v (Value.bool (decide ((((len128 (r7) : Nat) : Int) : Int) ≤ v_0))) rfl rfl rfl rfl ?_
    refine lx_nil ?_
    refine hK3 _ _ ?_; try clear hK3 K3
    obtain rfl := Option.some.inj hM
    refine A_ret (fun hn => ends_eq (v0 := Value.bool (decide ((((len128 (r7) : Nat) : Int) : Int) ≤ v_0))) rfl (res1 rfl))
def vec_New_m (N : Nat) (w : Int) (hi' : BitVec 64) (lo' : BitVec 64) : Option (Int × (BitVec 128) × Int) := (vec_mayWidth_m N w).bind fun r5 => if (r5) = true then (vec_May_m N w ((hi') ++ (lo'))).bind fun r13 => if (r13) = true then some (w, (hi') ++ (lo'), 0) else some (0, (0#64) ++ (0#64), 7) else some (0, (0#64) ++ (0#64), 9)
set_option maxRecDepth 100000 in
set_option maxHeartbeats 8000000 in
theorem vec_New_g (N : Nat) (w : Int) (hi' : BitVec 64) (lo' : BitVec 64) (r : Int × (BitVec 128) × Int) (hM : vec_New_m N w hi' lo' = some r) : Gives Tryd.prog 82 #[Value.int .i64 (w), U (hi'), U (lo')] (Value.tuple #[Value.agg #[Value.int .i64 (r.1), U (hi (r.2.1)), U (lo (r.2.1))], Value.int .i64 (r.2.2)]) := by
  unfold vec_New_m at hM
  refine gives_of_A follows Tryd.func82 rfl 22 rfl (upd (upd (upd (fun _ => undef) 2 (U (lo'))) 1 (U (hi'))) 0 (Value.int .i64 (w))) (by funext k; match k with | 0 => rfl | 1 => rfl | 2 => rfl | k + 3 => rfl) (fun base0_ => ?_)
  refine A_seq fun K1 hK1 => ?_
  refine A_reg ?_
  refine r_a (42, #[Value.int .i64 (0), U (0#64), U (0#64)]) rfl rfl rfl (fun b2 => ?_) (.inr rfl)
  refine r_v (Value.int .i64 (0)) rfl rfl rfl rfl ?_
  refine lx_nil ?_
  refine hK1 _ _ ?_; try clear hK1 K1
  refine A_seq fun K3 hK3 => ?_
  refine A_seq fun K4 hK4 => ?_
  refine A_reg ?_
  refine r_v (Value.int .i64 (w)) rfl rfl rfl rfl ?_
  replace hM := bind_sm hM; obtain ⟨r5, hr6, hM⟩ := hM
  refine r_c (Value.bool (r5)) rfl _ _ (ev_callF rfl call_59 rfl) (vec_mayWidth_g N w _ hr6) ?_
  refine r_v (Value.bool (!(r5))) rfl rfl rfl rfl ?_
  refine lx_nil ?_
  refine hK4 _ _ ?_; try clear hK4 K4
  refine A_cond (!(r5)) rfl (fun hc7 => ?_) (fun hc7 => ?_)
  · replace hM := ifn (Bool.eq_false_iff.1 (not_t hc7)) hM
    refine A_seq fun K8 hK8 => ?_
    refine A_reg ?_
    refine r_v (Value.agg #[Value.int .i64 (0), U (0#64), U (0#64)]) rfl rfl rfl (ev_buildS rfl rfl rfl rfl) ?_
    refine r_s [(b2, 42, #[Value.int .i64 (0), U (0#64), U (0#64)])] 0 _ _ _ (#[Value.int .i64 (0), U (0#64), U (0#64)]) (#[Value.int .i64 (0), U (0#64), U (0#64)]) (#[Value.int .i64 (0), U (0#64), U (0#64)]) rfl rfl rfl rfl (.of rfl rfl) rfl rfl ?_
    refine r_v (Value.int .i64 (9)) rfl rfl rfl rfl ?_
    refine lx_nil ?_
    refine hK8 _ _ ?_; try clear hK8 K8
    obtain rfl := Option.some.inj hM
    refine A_ret (fun hn => ends_eq (v0 := Value.tuple #[Value.agg #[Value.int .i64 (0), U (0#64), U (0#64)], Value.int .i64 (9)]) (by first | rfl | (simp only [app_hl]; done) | simp only [app_hl]) (res2 (res_cell hn 0 rfl rfl rfl) rfl))
  · replace hM := ifp (not_f hc7) hM
    refine A_skip ?_
    refine hK3 _ _ ?_; try clear hK3 K3
    refine A_seq fun K9 hK9 => ?_
    refine A_reg ?_
    refine r_v (Value.int .i64 (w)) rfl rfl rfl rfl ?_
    refine r_v (U (hi')) rfl rfl rfl rfl ?_
    refine r_v (U (lo')) rfl rfl rfl rfl ?_
    refine r_v (Value.agg #[Value.int .i64 (w), U (hi'), U (lo')]) rfl rfl rfl (ev_buildS rfl rfl rfl rfl) ?_
    refine r_a (42, #[Value.int .i64 (0), U (0#64), U (0#64)]) rfl rfl rfl (fun b10 => ?_) (.inr rfl)
    refine r_s [(b10, 42, #[Value.int .i64 (w), U (hi'), U (lo')]), (b2, 42, #[Value.int .i64 (0), U (0#64), U (0#64)])] 0 _ _ _ (#[Value.int .i64 (0), U (0#64), U (0#64)]) (#[Value.int .i64 (w), U (hi'), U (lo')]) (#[Value.int .i64 (w), U (hi'), U (lo')]) rfl rfl rfl rfl (.of rfl rfl) rfl rfl ?_
    refine lx_nil ?_
    refine hK9 _ _ ?_; try clear hK9 K9
    refine A_seq fun K11 hK11 => ?_
    refine A_seq fun K12 hK12 => ?_
    refine A_reg ?_
    refine r_l (Value.agg #[Value.int .i64 (w), U (hi'), U (lo')]) 0 _ _ _ _ rfl rfl rfl rfl rfl ?_
    replace hM := bind_sm hM; obtain ⟨r13, hr14, hM⟩ := hM
    refine r_c (Value.bool (r13)) rfl _ _ (ev_callF rfl call_44 rfl) (by have h_ := (vec_May_g N w ((hi') ++ (lo')) _ hr14); simp only [app_hl] at h_; exact h_) ?_
    refine r_v (Value.bool (!(r13))) rfl rfl rfl rfl ?_
    refine lx_nil ?_
    refine hK12 _ _ ?_; try clear hK12 K12
    refine A_cond (!(r13)) rfl (fun hc15 => ?_) (fun hc15 => ?_)
    · replace hM := ifn (Bool.eq_false_iff.1 (not_t hc15)) hM
      refine A_seq fun K16 hK16 => ?_
      refine A_reg ?_
      refine r_v (Value.agg #[Value.int .i64 (0), U (0#64), U (0#64)]) rfl rfl rfl (ev_buildS rfl rfl rfl rfl) ?_
      refine r_s [(b10, 42, #[Value.int .i64 (w), U (hi'), U (lo')]), (b2, 42, #[Value.int .i64 (0), U (0#64), U (0#64)])] 1 _ _ _ (#[Value.int .i64 (0), U (0#64), U (0#64)]) (#[Value.int .i64 (0), U (0#64), U (0#64)]) (#[Value.int .i64 (0), U (0#64), U (0#64)]) rfl rfl rfl rfl (.of rfl rfl) rfl rfl ?_
      refine r_v (Value.int .i64 (7)) rfl rfl rfl rfl ?_
      refine lx_nil ?_
      refine hK16 _ _ ?_; try clear hK16 K16
      obtain rfl := Option.some.inj hM
      refine A_ret (fun hn => ends_eq (v0 := Value.tuple #[Value.agg #[Value.int .i64 (0), U (0#64), U (0#64)], Value.int .i64 (7)]) (by first | rfl | (simp only [app_hl]; done) | simp only [app_hl]) (res2 (res_cell hn 1 rfl rfl rfl) rfl))
    · replace hM := ifp (not_f hc15) hM
      refine A_skip ?_
      refine hK11 _ _ ?_; try clear hK11 K11
      refine A_seq fun K17 hK17 => ?_
      refine A_reg ?_
      refine r_l (Value.agg #[Value.int .i64 (w), U (hi'), U (lo')]) 0 _ _ _ _ rfl rfl rfl rfl rfl ?_
      refine r_s [(b10, 42, #[Value.int .i64 (w), U (hi'), U (lo')]), (b2, 42, #[Value.int .i64 (w), U (hi'), U (lo')])] 1 _ _ _ (#[Value.int .i64 (0), U (0#64), U (0#64)]) (#[Value.int .i64 (w), U (hi'), U (lo')]) (#[Value.int .i64 (w), U (hi'), U (lo')]) rfl rfl rfl rfl (.of rfl rfl) rfl rfl ?_
      refine r_v (Value.int .i64 (0)) rfl rfl rfl rfl ?_
      refine lx_nil ?_
      refine hK17 _ _ ?_; try clear hK17 K17
      obtain rfl := Option.some.inj hM
      refine A_ret (fun hn => ends_eq (v0 := Value.tuple #[Value.agg #[Value.int .i64 (w), U (hi'), U (lo')], Value.int .i64 (0)]) (by first | rfl | (simp only [app_hl]; done) | simp only [app_hl]) (res2 (res_cell hn 1 rfl rfl rfl) rfl))
def vec_Parse_k2 (N : Nat) (r4 : (List UInt8) × (List UInt8) × Bool) : Option (Int × (BitVec 128) × Int) := ck ((((lo ((parseR (r4.1) (10)).1)).toNat : Nat) : Int) ≤ 9223372036854775807) ((vec_New_m N (((lo ((parseR (r4.1) (10)).1)).toNat : Nat) : Int) (hi ((parseR (r4.2.1) (16)).1)) (lo ((parseR (r4.2.1) (16)).1))).bind fun r18 => if (r18.2.2 : Int) = 0 then if ((parseR (r4.2.1) (16)).2 : Int) ≠ 0 then some (0, (0#64) ++ (0#64), (parseR (r4.2.1) (16)).2) else some (r18.1, r18.2.1, r18.2.2) else some (r18.1, r18.2.1, r18.2.2))
def vec_Parse_k1 (N : Nat) (r4 : (List UInt8) × (List UInt8) × Bool) : Option (Int × (BitVec 128) × Int) := ck ((r4.1).length ≤ 4611686018427387904) (if ((parseR (r4.1) (10)).2 : Int) ≠ 0 then some (0, (0#64) ++ (0#64), 4) else ck ((r4.2.1).length ≤ 4611686018427387904) (if ((parseR (r4.2.1) (16)).2 : Int) = 3 then some (0, (0#64) ++ (0#64), 4) else if ((parseR (r4.2.1) (16)).2 : Int) = 4 then some (0, (0#64) ++ (0#64), 4) else vec_Parse_k2 N r4 ))
def vec_Parse_m (N : Nat) (s : List UInt8) : Option (Int × (BitVec 128) × Int) := (strings_Cut_m N s ([39] : List UInt8)).bind fun r4 => if (r4.2.2) = true then if (((r4.1).length : Int) : Int) > 3 then some (0, (0#64) ++ (0#64), 4) else vec_Parse_k1 N r4  else some (0, (0#64) ++ (0#64), 4)
set_option maxRecDepth 100000 in
set_option maxHeartbeats 8000000 in
theorem vec_Parse_g (N : Nat) (s : List UInt8) (r : Int × (BitVec 128) × Int) (hM : vec_Parse_m N s = some r) : Gives Tryd.prog 68 #[Value.string (⟨(s).toArray⟩)] (Value.tuple #[Value.agg #[Value.int .i64 (r.1), U (hi (r.2.1)), U (lo (r.2.1))], Value.int .i64 (r.2.2)]) := by
  unfold vec_Parse_m at hM
  refine gives_of_A follows Tryd.func68 rfl 67 rfl (upd (fun _ => undef) 0 (Value.string (⟨(s).toArray⟩))) (by funext k; match k with | 0 => rfl | k + 1 => rfl) (fun base0_ => ?_)
  refine A_seq fun K1 hK1 => ?_
  refine A_reg ?_
  refine r_a (42, #[Value.int .i64 (0), U (0#64), U (0#64)]) rfl rfl rfl (fun b2 => ?_) (.inr rfl)
  refine r_v (Value.int .i64 (0)) rfl rfl rfl rfl ?_
  refine lx_nil ?_
  refine hK1 _ _ ?_; try clear hK1 K1
  refine A_seq fun K3 hK3 => ?_
  refine A_reg ?_
  refine r_v (Value.string (⟨(s).toArray⟩)) rfl rfl rfl rfl ?_
  replace hM := bind_sm hM; obtain ⟨r4, hr5, hM⟩ := hM
  refine r_c (Value.tuple #[Value.string (⟨(r4.1).toArray⟩), Value.string (⟨(r4.2.1).toArray⟩), Value.bool (r4.2.2)]) rfl _ _ (ev_callF rfl call_81 rfl) (strings_Cut_g N s ([39] : List UInt8) _ hr5) ?_
  refine r_v (Value.tuple #[Value.string (⟨(r4.1).toArray⟩), Value.string (⟨(r4.2.1).toArray⟩), Value.bool (r4.2.2)]) rfl rfl rfl rfl ?_
  refine r_v (Value.string (⟨(r4.1).toArray⟩)) rfl rfl rfl rfl ?_
  refine r_v (Value.string (⟨(r4.2.1).toArray⟩)) rfl rfl rfl rfl ?_
  refine r_v (Value.bool (r4.2.2)) rfl rfl rfl rfl ?_
  refine r_v (Value.string (⟨(r4.1).toArray⟩)) rfl rfl rfl rfl ?_
  refine r_v (Value.string (⟨(r4.2.1).toArray⟩)) rfl rfl rfl rfl ?_
  refine r_v (Value.bool (r4.2.2)) rfl rfl rfl rfl ?_
  refine lx_nil ?_
  refine hK3 _ _ ?_; try clear hK3 K3
  refine A_cut (fun tt ll => (vec_Parse_k1 N r4  = some r) ∧ Is [(2, Value.pointer (some ⟨b2, 0, none⟩)), (4, Value.string (⟨(r4.1).toArray⟩)), (5, Value.string (⟨(r4.2.1).toArray⟩))] [(b2, 42, #[Value.int .i64 (0), U (0#64), U (0#64)])] tt ll) ?_ ?_
  · refine A_seq fun K33 hK33 => ?_
    refine A_reg ?_
    refine r_v (Value.bool (r4.2.2)) rfl rfl rfl rfl ?_
    refine r_v (Value.bool (!(r4.2.2))) rfl rfl rfl rfl ?_
    refine r_v (Value.bool (!(r4.2.2))) rfl rfl rfl rfl ?_
    rcases hg34 : (!(r4.2.2)) with _ | _
    · replace hM := ifp (not_f hg34) hM
      refine r_y rfl ?_
      refine r_v (Value.string (⟨(r4.1).toArray⟩)) rfl rfl rfl rfl ?_
      refine r_y rfl ?_
      refine r_v (Value.int .i64 (((r4.1).length : Int))) rfl rfl rfl (ev_lenS rfl rfl rfl) ?_
      refine r_y rfl ?_
      refine r_v (Value.bool (decide ((((r4.1).length : Int) : Int) > 3))) rfl rfl rfl rfl ?_
      refine r_v (Value.bool (decide ((((r4.1).length : Int) : Int) > 3))) rfl rfl rfl rfl ?_
      refine lx_nil ?_
      refine hK33 _ _ ?_; try clear hK33 K33
      refine A_cond (decide ((((r4.1).length : Int) : Int) > 3)) rfl (fun hc35 => ?_) (fun hc35 => ?_)
      · replace hM := ifp (of_decide_eq_true hc35) hM
        refine A_seq fun K36 hK36 => ?_
        refine A_reg ?_
        refine r_v (Value.agg #[Value.int .i64 (0), U (0#64), U (0#64)]) rfl rfl rfl (ev_buildS rfl rfl rfl rfl) ?_
        refine r_s [(b2, 42, #[Value.int .i64 (0), U (0#64), U (0#64)])] 0 _ _ _ (#[Value.int .i64 (0), U (0#64), U (0#64)]) (#[Value.int .i64 (0), U (0#64), U (0#64)]) (#[Value.int .i64 (0), U (0#64), U (0#64)]) rfl rfl rfl rfl (.of rfl rfl) rfl rfl ?_
        refine r_v (Value.int .i64 (4)) rfl rfl rfl rfl ?_
        refine lx_nil ?_
        refine hK36 _ _ ?_; try clear hK36 K36
        obtain rfl := Option.some.inj hM
        refine A_ret (fun hn => ends_eq (v0 := Value.tuple #[Value.agg #[Value.int .i64 (0), U (0#64), U (0#64)], Value.int .i64 (4)]) (by first | rfl | (simp only [app_hl]; done) | simp only [app_hl]) (res2 (res_cell hn 0 rfl rfl rfl) rfl))
      · replace hM := ifn (of_decide_eq_false hc35) hM
        refine A_skip ?_
        refine fg _ (Sub.of (List.Sublist.cons_cons _ (List.Sublist.slnil))) ?_
        exact ⟨hM, is_mk rfl (by first | rfl | simp only [app_hl])⟩
    · replace hM := ifn (Bool.eq_false_iff.1 (not_t hg34)) hM
      refine r_n true rfl (by decide) rfl ?_
      refine r_n true rfl (by decide) rfl ?_
      refine r_n true rfl (by decide) rfl ?_
      refine r_v (Value.bool (true)) rfl rfl rfl rfl ?_
      refine lx_nil ?_
      refine hK33 _ _ ?_; try clear hK33 K33
      refine A_cond true rfl (fun _ => ?_) (fun h_ => nomatch h_)
      refine A_seq fun K37 hK37 => ?_
      refine A_reg ?_
      refine r_v (Value.agg #[Value.int .i64 (0), U (0#64), U (0#64)]) rfl rfl rfl (ev_buildS rfl rfl rfl rfl) ?_
      refine r_s [(b2, 42, #[Value.int .i64 (0), U (0#64), U (0#64)])] 0 _ _ _ (#[Value.int .i64 (0), U (0#64), U (0#64)]) (#[Value.int .i64 (0), U (0#64), U (0#64)]) (#[Value.int .i64 (0), U (0#64), U (0#64)]) rfl rfl rfl rfl (.of rfl rfl) rfl rfl ?_
      refine r_v (Value.int .i64 (4)) rfl rfl rfl rfl ?_
      refine lx_nil ?_
      refine hK37 _ _ ?_; try clear hK37 K37
      obtain rfl := Option.some.inj hM
      refine A_ret (fun hn => ends_eq (v0 := Value.tuple #[Value.agg #[Value.int .i64 (0), U (0#64), U (0#64)], Value.int .i64 (4)]) (by first | rfl | (simp only [app_hl]; done) | simp only [app_hl]) (res2 (res_cell hn 0 rfl rfl rfl) rfl))
  · clear hM; rintro t l ⟨hM, ⟨T, rfl⟩, rfl⟩
    unfold vec_Parse_k1 at hM
    refine A_seq fun K6 hK6 => ?_
    refine A_reg ?_
    refine r_v (Value.string (⟨(r4.1).toArray⟩)) rfl rfl rfl rfl ?_
    replace hM := ck_some hM; obtain ⟨ck7, hM⟩ := hM
    refine r_c (Value.tuple #[Value.agg #[U (hi ((parseR (r4.1) (10)).1)), U (lo ((parseR (r4.1) (10)).1))], Value.int .i64 ((parseR (r4.1) (10)).2)]) rfl _ _ (ev_callF rfl call_53 rfl) (parse_t (r4.1) (10) ck7) ?_
    refine r_v (Value.tuple #[Value.agg #[U (hi ((parseR (r4.1) (10)).1)), U (lo ((parseR (r4.1) (10)).1))], Value.int .i64 ((parseR (r4.1) (10)).2)]) rfl rfl rfl rfl ?_
    refine r_v (Value.agg #[U (hi ((parseR (r4.1) (10)).1)), U (lo ((parseR (r4.1) (10)).1))]) rfl rfl rfl rfl ?_
    refine r_v (Value.int .i64 ((parseR (r4.1) (10)).2)) rfl rfl rfl rfl ?_
    refine r_a (82, #[U (0#64), U (0#64)]) rfl rfl rfl (fun b8 => ?_) (.inr rfl)
    refine r_s [(b8, 82, #[U (hi ((parseR (r4.1) (10)).1)), U (lo ((parseR (r4.1) (10)).1))]), (b2, 42, #[Value.int .i64 (0), U (0#64), U (0#64)])] 0 _ _ _ (#[U (0#64), U (0#64)]) (#[U (hi ((parseR (r4.1) (10)).1)), U (lo ((parseR (r4.1) (10)).1))]) (#[U (hi ((parseR (r4.1) (10)).1)), U (lo ((parseR (r4.1) (10)).1))]) rfl rfl rfl rfl (.of rfl rfl) rfl rfl ?_
    refine r_v (Value.int .i64 ((parseR (r4.1) (10)).2)) rfl rfl rfl rfl ?_
    refine lx_nil ?_
    refine hK6 _ _ ?_; try clear hK6 K6
    refine A_seq fun K9 hK9 => ?_
    refine A_seq fun K10 hK10 => ?_
    refine A_reg ?_
    refine r_v (Value.int .i64 ((parseR (r4.1) (10)).2)) rfl rfl rfl rfl ?_
    refine r_v (Value.bool ((((parseR (r4.1) (10)).2 : Int) != 0))) rfl rfl rfl rfl ?_
    refine lx_nil ?_
    refine hK10 _ _ ?_; try clear hK10 K10
    refine A_cond ((((parseR (r4.1) (10)).2 : Int) != 0)) rfl (fun hc11 => ?_) (fun hc11 => ?_)
    · replace hM := ifp (bne_iff_ne.1 hc11) hM
      refine A_seq fun K12 hK12 => ?_
      refine A_reg ?_
      refine r_v (Value.agg #[Value.int .i64 (0), U (0#64), U (0#64)]) rfl rfl rfl (ev_buildS rfl rfl rfl rfl) ?_
      refine r_s [(b8, 82, #[U (hi ((parseR (r4.1) (10)).1)), U (lo ((parseR (r4.1) (10)).1))]), (b2, 42, #[Value.int .i64 (0), U (0#64), U (0#64)])] 1 _ _ _ (#[Value.int .i64 (0), U (0#64), U (0#64)]) (#[Value.int .i64 (0), U (0#64), U (0#64)]) (#[Value.int .i64 (0), U (0#64), U (0#64)]) rfl rfl rfl rfl (.of rfl rfl) rfl rfl ?_
      refine r_v (Value.int .i64 (4)) rfl rfl rfl rfl ?_
      refine lx_nil ?_
      refine hK12 _ _ ?_; try clear hK12 K12
      obtain rfl := Option.some.inj hM
      refine A_ret (fun hn => ends_eq (v0 := Value.tuple #[Value.agg #[Value.int .i64 (0), U (0#64), U (0#64)], Value.int .i64 (4)]) (by first | rfl | (simp only [app_hl]; done) | simp only [app_hl]) (res2 (res_cell hn 1 rfl rfl rfl) rfl))
    · replace hM := ifn (bne_f hc11) hM
      refine A_skip ?_
      refine hK9 _ _ ?_; try clear hK9 K9
      refine A_seq fun K13 hK13 => ?_
      refine A_reg ?_
      refine r_v (Value.string (⟨(r4.2.1).toArray⟩)) rfl rfl rfl rfl ?_
      replace hM := ck_some hM; obtain ⟨ck14, hM⟩ := hM
      refine r_c (Value.tuple #[Value.agg #[U (hi ((parseR (r4.2.1) (16)).1)), U (lo ((parseR (r4.2.1) (16)).1))], Value.int .i64 ((parseR (r4.2.1) (16)).2)]) rfl _ _ (ev_callF rfl call_53 rfl) (parse_t (r4.2.1) (16) ck14) ?_
      refine r_v (Value.tuple #[Value.agg #[U (hi ((parseR (r4.2.1) (16)).1)), U (lo ((parseR (r4.2.1) (16)).1))], Value.int .i64 ((parseR (r4.2.1) (16)).2)]) rfl rfl rfl rfl ?_
      refine r_v (Value.agg #[U (hi ((parseR (r4.2.1) (16)).1)), U (lo ((parseR (r4.2.1) (16)).1))]) rfl rfl rfl rfl ?_
      refine r_v (Value.int .i64 ((parseR (r4.2.1) (16)).2)) rfl rfl rfl rfl ?_
      refine r_a (82, #[U (0#64), U (0#64)]) rfl rfl rfl (fun b15 => ?_) (.inr rfl)
      refine r_s [(b15, 82, #[U (hi ((parseR (r4.2.1) (16)).1)), U (lo ((parseR (r4.2.1) (16)).1))]), (b8, 82, #[U (hi ((parseR (r4.1) (10)).1)), U (lo ((parseR (r4.1) (10)).1))]), (b2, 42, #[Value.int .i64 (0), U (0#64), U (0#64)])] 0 _ _ _ (#[U (0#64), U (0#64)]) (#[U (hi ((parseR (r4.2.1) (16)).1)), U (lo ((parseR (r4.2.1) (16)).1))]) (#[U (hi ((parseR (r4.2.1) (16)).1)), U (lo ((parseR (r4.2.1) (16)).1))]) rfl rfl rfl rfl (.of rfl rfl) rfl rfl ?_
      refine r_v (Value.int .i64 ((parseR (r4.2.1) (16)).2)) rfl rfl rfl rfl ?_
      refine lx_nil ?_
      refine hK13 _ _ ?_; try clear hK13 K13
      refine A_cut (fun tt ll => (vec_Parse_k2 N r4  = some r) ∧ Is [(2, Value.pointer (some ⟨b2, 0, none⟩)), (7, Value.pointer (some ⟨b8, 0, none⟩)), (8, Value.int .i64 ((parseR (r4.2.1) (16)).2)), (9, Value.pointer (some ⟨b15, 0, none⟩))] [(b15, 82, #[U (hi ((parseR (r4.2.1) (16)).1)), U (lo ((parseR (r4.2.1) (16)).1))]), (b8, 82, #[U (hi ((parseR (r4.1) (10)).1)), U (lo ((parseR (r4.1) (10)).1))]), (b2, 42, #[Value.int .i64 (0), U (0#64), U (0#64)])] tt ll) ?_ ?_
      · refine A_seq fun K28 hK28 => ?_
        refine A_reg ?_
        refine r_v (Value.int .i64 ((parseR (r4.2.1) (16)).2)) rfl rfl rfl rfl ?_
        refine r_v (Value.bool ((((parseR (r4.2.1) (16)).2 : Int) == 3))) rfl rfl rfl rfl ?_
        refine r_v (Value.bool ((((parseR (r4.2.1) (16)).2 : Int) == 3))) rfl rfl rfl rfl ?_
        rcases hg29 : ((((parseR (r4.2.1) (16)).2 : Int) == 3)) with _ | _
        · replace hM := ifn (ne_of_beq_false hg29) hM
          refine r_y rfl ?_
          refine r_v (Value.int .i64 ((parseR (r4.2.1) (16)).2)) rfl rfl rfl rfl ?_
          refine r_y rfl ?_
          refine r_v (Value.bool ((((parseR (r4.2.1) (16)).2 : Int) == 4))) rfl rfl rfl rfl ?_
          refine r_v (Value.bool ((((parseR (r4.2.1) (16)).2 : Int) == 4))) rfl rfl rfl rfl ?_
          refine lx_nil ?_
          refine hK28 _ _ ?_; try clear hK28 K28
          refine A_cond ((((parseR (r4.2.1) (16)).2 : Int) == 4)) rfl (fun hc30 => ?_) (fun hc30 => ?_)
          · replace hM := ifp (eq_of_beq hc30) hM
            refine A_seq fun K31 hK31 => ?_
            refine A_reg ?_
            refine r_v (Value.agg #[Value.int .i64 (0), U (0#64), U (0#64)]) rfl rfl rfl (ev_buildS rfl rfl rfl rfl) ?_
            refine r_s [(b15, 82, #[U (hi ((parseR (r4.2.1) (16)).1)), U (lo ((parseR (r4.2.1) (16)).1))]), (b8, 82, #[U (hi ((parseR (r4.1) (10)).1)), U (lo ((parseR (r4.1) (10)).1))]), (b2, 42, #[Value.int .i64 (0), U (0#64), U (0#64)])] 2 _ _ _ (#[Value.int .i64 (0), U (0#64), U (0#64)]) (#[Value.int .i64 (0), U (0#64), U (0#64)]) (#[Value.int .i64 (0), U (0#64), U (0#64)]) rfl rfl rfl rfl (.of rfl rfl) rfl rfl ?_
            refine r_v (Value.int .i64 (4)) rfl rfl rfl rfl ?_
            refine lx_nil ?_
            refine hK31 _ _ ?_; try clear hK31 K31
            obtain rfl := Option.some.inj hM
            refine A_ret (fun hn => ends_eq (v0 := Value.tuple #[Value.agg #[Value.int .i64 (0), U (0#64), U (0#64)], Value.int .i64 (4)]) (by first | rfl | (simp only [app_hl]; done) | simp only [app_hl]) (res2 (res_cell hn 2 rfl rfl rfl) rfl))
          · replace hM := ifn (ne_of_beq_false hc30) hM
            refine A_skip ?_
            refine fg _ (Sub.of (List.Sublist.cons_cons _ (List.Sublist.cons_cons _ (List.Sublist.cons_cons _ (List.Sublist.slnil))))) ?_
            exact ⟨hM, is_mk rfl (by first | rfl | simp only [app_hl])⟩
        · replace hM := ifp (eq_of_beq hg29) hM
          refine r_n true rfl (by decide) rfl ?_
          refine r_n true rfl (by decide) rfl ?_
          refine r_v (Value.bool (true)) rfl rfl rfl rfl ?_
          refine lx_nil ?_
          refine hK28 _ _ ?_; try clear hK28 K28
          refine A_cond true rfl (fun _ => ?_) (fun h_ => nomatch h_)
          refine A_seq fun K32 hK32 => ?_
          refine A_reg ?_
          refine r_v (Value.agg #[Value.int .i64 (0), U (0#64), U (0#64)]) rfl rfl rfl (ev_buildS rfl rfl rfl rfl) ?_
          refine r_s [(b15, 82, #[U (hi ((parseR (r4.2.1) (16)).1)), U (lo ((parseR (r4.2.1) (16)).1))]), (b8, 82, #[U (hi ((parseR (r4.1) (10)).1)), U (lo ((parseR (r4.1) (10)).1))]), (b2, 42, #[Value.int .i64 (0), U (0#64), U (0#64)])] 2 _ _ _ (#[Value.int .i64 (0), U (0#64), U (0#64)]) (#[Value.int .i64 (0), U (0#64), U (0#64)]) (#[Value.int .i64 (0), U (0#64), U (0#64)]) rfl rfl rfl rfl (.of rfl rfl) rfl rfl ?_
          refine r_v (Value.int .i64 (4)) rfl rfl rfl rfl ?_
          refine lx_nil ?_
          refine hK32 _ _ ?_; try clear hK32 K32
          obtain rfl := Option.some.inj hM
          refine A_ret (fun hn => ends_eq (v0 := Value.tuple #[Value.agg #[Value.int .i64 (0), U (0#64), U (0#64)], Value.int .i64 (4)]) (by first | rfl | (simp only [app_hl]; done) | simp only [app_hl]) (res2 (res_cell hn 2 rfl rfl rfl) rfl))
      · clear hM; rintro t l ⟨hM, ⟨T, rfl⟩, rfl⟩
        unfold vec_Parse_k2 at hM
        refine A_seq fun K16 hK16 => ?_
        refine A_reg ?_
        refine r_v (Value.pointer (some ⟨b8, 1, none⟩)) rfl rfl rfl rfl ?_
        refine r_l (U (lo ((parseR (r4.1) (10)).1))) 1 _ _ _ _ rfl rfl rfl rfl rfl ?_
        replace hM := ck_some hM; obtain ⟨ck17, hM⟩ := hM
        refine r_w (Value.int .i64 ((((lo ((parseR (r4.1) (10)).1)).toNat : Nat) : Int))) rfl rfl (wi64 rfl (by omega) ck17) (fun _ => rfl) ?_
        refine r_v (Value.pointer (some ⟨b15, 0, none⟩)) rfl rfl rfl rfl ?_
        refine r_l (U (hi ((parseR (r4.2.1) (16)).1))) 0 _ _ _ _ rfl rfl rfl rfl rfl ?_
        refine r_v (Value.pointer (some ⟨b15, 1, none⟩)) rfl rfl rfl rfl ?_
        refine r_l (U (lo ((parseR (r4.2.1) (16)).1))) 0 _ _ _ _ rfl rfl rfl rfl rfl ?_
        replace hM := bind_sm hM; obtain ⟨r18, hr19, hM⟩ := hM
        refine r_c (Value.tuple #[Value.agg #[Value.int .i64 (r18.1), U (hi (r18.2.1)), U (lo (r18.2.1))], Value.int .i64 (r18.2.2)]) rfl _ _ (ev_callF rfl call_82 rfl) (vec_New_g N (((lo ((parseR (r4.1) (10)).1)).toNat : Nat) : Int) (hi ((parseR (r4.2.1) (16)).1)) (lo ((parseR (r4.2.1) (16)).1)) _ hr19) ?_
        refine r_v (Value.tuple #[Value.agg #[Value.int .i64 (r18.1), U (hi (r18.2.1)), U (lo (r18.2.1))], Value.int .i64 (r18.2.2)]) rfl rfl rfl rfl ?_
        refine r_v (Value.agg #[Value.int .i64 (r18.1), U (hi (r18.2.1)), U (lo (r18.2.1))]) rfl rfl rfl rfl ?_
        refine r_v (Value.int .i64 (r18.2.2)) rfl rfl rfl rfl ?_
        refine r_a (42, #[Value.int .i64 (0), U (0#64), U (0#64)]) rfl rfl rfl (fun b20 => ?_) (.inr rfl)
        refine r_s [(b20, 42, #[Value.int .i64 (r18.1), U (hi (r18.2.1)), U (lo (r18.2.1))]), (b15, 82, #[U (hi ((parseR (r4.2.1) (16)).1)), U (lo ((parseR (r4.2.1) (16)).1))]), (b8, 82, #[U (hi ((parseR (r4.1) (10)).1)), U (lo ((parseR (r4.1) (10)).1))]), (b2, 42, #[Value.int .i64 (0), U (0#64), U (0#64)])] 0 _ _ _ (#[Value.int .i64 (0), U (0#64), U (0#64)]) (#[Value.int .i64 (r18.1), U (hi (r18.2.1)), U (lo (r18.2.1))]) (#[Value.int .i64 (r18.1), U (hi (r18.2.1)), U (lo (r18.2.1))]) rfl rfl rfl rfl (.of rfl rfl) rfl rfl ?_
        refine r_v (Value.int .i64 (r18.2.2)) rfl rfl rfl rfl ?_
        refine lx_nil ?_
        refine hK16 _ _ ?_; try clear hK16 K16
        refine A_seq fun K21 hK21 => ?_
        refine A_seq fun K22 hK22 => ?_
        refine A_reg ?_
        refine r_v (Value.int .i64 (r18.2.2)) rfl rfl rfl rfl ?_
        refine r_v (Value.bool (((r18.2.2 : Int) == 0))) rfl rfl rfl rfl ?_
        refine r_v (Value.bool (((r18.2.2 : Int) == 0))) rfl rfl rfl rfl ?_
        rcases hg23 : (((r18.2.2 : Int) == 0)) with _ | _
        · replace hM := ifn (ne_of_beq_false hg23) hM
          refine r_n false rfl (by decide) rfl ?_
          refine r_n false rfl (by decide) rfl ?_
          refine r_v (Value.bool (false)) rfl rfl rfl rfl ?_
          refine lx_nil ?_
          refine hK22 _ _ ?_; try clear hK22 K22
          refine A_cond false rfl (fun h_ => nomatch h_) (fun _ => ?_)
          refine A_skip ?_
          refine hK21 _ _ ?_; try clear hK21 K21
          refine A_seq fun K24 hK24 => ?_
          refine A_reg ?_
          refine r_l (Value.agg #[Value.int .i64 (r18.1), U (hi (r18.2.1)), U (lo (r18.2.1))]) 0 _ _ _ _ rfl rfl rfl rfl rfl ?_
          refine r_v (Value.int .i64 (r18.2.2)) rfl rfl rfl rfl ?_
          refine r_s [(b20, 42, #[Value.int .i64 (r18.1), U (hi (r18.2.1)), U (lo (r18.2.1))]), (b15, 82, #[U (hi ((parseR (r4.2.1) (16)).1)), U (lo ((parseR (r4.2.1) (16)).1))]), (b8, 82, #[U (hi ((parseR (r4.1) (10)).1)), U (lo ((parseR (r4.1) (10)).1))]), (b2, 42, #[Value.int .i64 (r18.1), U (hi (r18.2.1)), U (lo (r18.2.1))])] 3 _ _ _ (#[Value.int .i64 (0), U (0#64), U (0#64)]) (#[Value.int .i64 (r18.1), U (hi (r18.2.1)), U (lo (r18.2.1))]) (#[Value.int .i64 (r18.1), U (hi (r18.2.1)), U (lo (r18.2.1))]) rfl rfl rfl rfl (.of rfl rfl) rfl rfl ?_
          refine r_v (Value.int .i64 (r18.2.2)) rfl rfl rfl rfl ?_
          refine lx_nil ?_
          refine hK24 _ _ ?_; try clear hK24 K24
          obtain rfl := Option.some.inj hM
          refine A_ret (fun hn => ends_eq (v0 := Value.tuple #[Value.agg #[Value.int .i64 (r18.1), U (hi (r18.2.1)), U (lo (r18.2.1))], Value.int .i64 (r18.2.2)]) rfl (res2 (res_cell hn 3 rfl rfl rfl) rfl))
        · replace hM := ifp (eq_of_beq hg23) hM
          refine r_y rfl ?_
          refine r_v (Value.int .i64 ((parseR (r4.2.1) (16)).2)) rfl rfl rfl rfl ?_
          refine r_y rfl ?_
          refine r_v (Value.bool ((((parseR (r4.2.1) (16)).2 : Int) != 0))) rfl rfl rfl rfl ?_
          refine r_v (Value.bool ((((parseR (r4.2.1) (16)).2 : Int) != 0))) rfl rfl rfl rfl ?_
          refine lx_nil ?_
          refine hK22 _ _ ?_; try clear hK22 K22
          refine A_cond ((((parseR (r4.2.1) (16)).2 : Int) != 0)) rfl (fun hc25 => ?_) (fun hc25 => ?_)
          · replace hM := ifp (bne_iff_ne.1 hc25) hM
            refine A_seq fun K26 hK26 => ?_
            refine A_reg ?_
            refine r_v (Value.agg #[Value.int .i64 (0), U (0#64), U (0#64)]) rfl rfl rfl (ev_buildS rfl rfl rfl rfl) ?_
            refine r_v (Value.int .i64 ((parseR (r4.2.1) (16)).2)) rfl rfl rfl rfl ?_
            refine r_s [(b20, 42, #[Value.int .i64 (r18.1), U (hi (r18.2.1)), U (lo (r18.2.1))]), (b15, 82, #[U (hi ((parseR (r4.2.1) (16)).1)), U (lo ((parseR (r4.2.1) (16)).1))]), (b8, 82, #[U (hi ((parseR (r4.1) (10)).1)), U (lo ((parseR (r4.1) (10)).1))]), (b2, 42, #[Value.int .i64 (0), U (0#64), U (0#64)])] 3 _ _ _ (#[Value.int .i64 (0), U (0#64), U (0#64)]) (#[Value.int .i64 (0), U (0#64), U (0#64)]) (#[Value.int .i64 (0), U (0#64), U (0#64)]) rfl rfl rfl rfl (.of rfl rfl) rfl rfl ?_
            refine r_v (Value.int .i64 ((parseR (r4.2.1) (16)).2)) rfl rfl rfl rfl ?_
            refine lx_nil ?_
            refine hK26 _ _ ?_; try clear hK26 K26
            obtain rfl := Option.some.inj hM
            refine A_ret (fun hn => ends_eq (v0 := Value.tuple #[Value.agg #[Value.int .i64 (0), U (0#64), U (0#64)], Value.int .i64 ((parseR (r4.2.1) (16)).2)]) (by first | rfl | (simp only [app_hl]; done) | simp only [app_hl]) (res2 (res_cell hn 3 rfl rfl rfl) rfl))
          · replace hM := ifn (bne_f hc25) hM
            refine A_skip ?_
            refine hK21 _ _ ?_; try clear hK21 K21
            refine A_seq fun K27 hK27 => ?_
            refine A_reg ?_
            refine r_l (Value.agg #[Value.int .i64 (r18.1), U (hi (r18.2.1)), U (lo (r18.2.1))]) 0 _ _ _ _ rfl rfl rfl rfl rfl ?_
            refine r_v (Value.int .i64 (r18.2.2)) rfl rfl rfl rfl ?_
            refine r_s [(b20, 42, #[Value.int .i64 (r18.1), U (hi (r18.2.1)), U (lo (r18.2.1))]), (b15, 82, #[U (hi ((parseR (r4.2.1) (16)).1)), U (lo ((parseR (r4.2.1) (16)).1))]), (b8, 82, #[U (hi ((parseR (r4.1) (10)).1)), U (lo ((parseR (r4.1) (10)).1))]), (b2, 42, #[Value.int .i64 (r18.1), U (hi (r18.2.1)), U (lo (r18.2.1))])] 3 _ _ _ (#[Value.int .i64 (0), U (0#64), U (0#64)]) (#[Value.int .i64 (r18.1), U (hi (r18.2.1)), U (lo (r18.2.1))]) (#[Value.int .i64 (r18.1), U (hi (r18.2.1)), U (lo (r18.2.1))]) rfl rfl rfl rfl (.of rfl rfl) rfl rfl ?_
            refine r_v (Value.int .i64 (r18.2.2)) rfl rfl rfl rfl ?_
            refine lx_nil ?_
            refine hK27 _ _ ?_; try clear hK27 K27
            obtain rfl := Option.some.inj hM
            refine A_ret (fun hn => ends_eq (v0 := Value.tuple #[Value.agg #[Value.int .i64 (r18.1), U (hi (r18.2.1)), U (lo (r18.2.1))], Value.int .i64 (r18.2.2)]) rfl (res2 (res_cell hn 3 rfl rfl rfl) rfl))
def lex_rowOf_m (N : Nat) (s : List UInt8) : Option (Int × (List UInt8) × Int × Int × (BitVec 128) × Int × Int) := (vec_Parse_m N s).bind fun r4 => if (r4.2.2 : Int) ≠ 0 then some (0, [], 0, 0, (0#64) ++ (0#64), 0, r4.2.2) else some (3, [], 0, r4.1, r4.2.1, 0, 0)
set_option maxRecDepth 100000 in
set_option maxHeartbeats 8000000 in
theorem lex_rowOf_g (N : Nat) (s : List UInt8) (r : Int × (List UInt8) × Int × Int × (BitVec 128) × Int × Int) (hM : lex_rowOf_m N s = some r) : Gives Tryd.prog 51 #[Value.string (⟨(s).toArray⟩)] (Value.tuple #[Value.agg #[Value.int .i64 (r.1), Value.string (⟨(r.2.1).toArray⟩), Value.int .i64 (r.2.2.1), Value.int .i64 (r.2.2.2.1), U (hi (r.2.2.2.2.1)), U (lo (r.2.2.2.2.1)), Value.int .i64 (r.2.2.2.2.2.1)], Value.int .i64 (r.2.2.2.2.2.2)]) := by
  unfold lex_rowOf_m at hM
  refine gives_of_A follows Tryd.func51 rfl 17 rfl (upd (fun _ => undef) 0 (Value.string (⟨(s).toArray⟩))) (by funext k; match k with | 0 => rfl | k + 1 => rfl) (fun base0_ => ?_)
  refine A_seq fun K1 hK1 => ?_
  refine A_reg ?_
  refine r_a (47, #[Value.int .i64 (0), Value.string (⟨#[]⟩), Value.int .i64 (0), Value.int .i64 (0), U (0#64), U (0#64), Value.int .i64 (0)]) rfl rfl rfl (fun b2 => ?_) (.inr rfl)
  refine r_v (Value.int .i64 (0)) rfl rfl rfl rfl ?_
  refine lx_nil ?_
  refine hK1 _ _ ?_; try clear hK1 K1
  refine A_seq fun K3 hK3 => ?_
  refine A_reg ?_
  refine r_v (Value.string (⟨(s).toArray⟩)) rfl rfl rfl rfl ?_
  replace hM := bind_sm hM; obtain ⟨r4, hr5, hM⟩ := hM
  refine r_c (Value.tuple #[Value.agg #[Value.int .i64 (r4.1), U (hi (r4.2.1)), U (lo (r4.2.1))], Value.int .i64 (r4.2.2)]) rfl _ _ (ev_callF rfl call_68 rfl) (vec_Parse_g N s _ hr5) ?_
  refine r_v (Value.tuple #[Value.agg #[Value.int .i64 (r4.1), U (hi (r4.2.1)), U (lo (r4.2.1))], Value.int .i64 (r4.2.2)]) rfl rfl rfl rfl ?_
  refine r_v (Value.agg #[Value.int .i64 (r4.1), U (hi (r4.2.1)), U (lo (r4.2.1))]) rfl rfl rfl rfl ?_
  refine r_v (Value.int .i64 (r4.2.2)) rfl rfl rfl rfl ?_
  refine r_a (42, #[Value.int .i64 (0), U (0#64), U (0#64)]) rfl rfl rfl (fun b6 => ?_) (.inr rfl)
  refine r_s [(b6, 42, #[Value.int .i64 (r4.1), U (hi (r4.2.1)), U (lo (r4.2.1))]), (b2, 47, #[Value.int .i64 (0), Value.string (⟨#[]⟩), Value.int .i64 (0), Value.int .i64 (0), U (0#64), U (0#64), Value.int .i64 (0)])] 0 _ _ _ (#[Value.int .i64 (0), U (0#64), U (0#64)]) (#[Value.int .i64 (r4.1), U (hi (r4.2.1)), U (lo (r4.2.1))]) (#[Value.int .i64 (r4.1), U (hi (r4.2.1)), U (lo (r4.2.1))]) rfl rfl rfl rfl (.of rfl rfl) rfl rfl ?_
  refine r_v (Value.int .i64 (r4.2.2)) rfl rfl rfl rfl ?_
  refine lx_nil ?_
  refine hK3 _ _ ?_; try clear hK3 K3
  refine A_seq fun K7 hK7 => ?_
  refine A_seq fun K8 hK8 => ?_
  refine A_reg ?_
  refine r_v (Value.int .i64 (r4.2.2)) rfl rfl rfl rfl ?_
  refine r_v (Value.bool (((r4.2.2 : Int) != 0))) rfl rfl rfl rfl ?_
  refine lx_nil ?_
  refine hK8 _ _ ?_; try clear hK8 K8
  refine A_cond (((r4.2.2 : Int) != 0)) rfl (fun hc9 => ?_) (fun hc9 => ?_)
  · replace hM := ifp (bne_iff_ne.1 hc9) hM
    refine A_seq fun K10 hK10 => ?_
    refine A_reg ?_
    refine r_v (Value.agg #[Value.int .i64 (0), Value.string (⟨#[]⟩), Value.int .i64 (0), Value.int .i64 (0), U (0#64), U (0#64), Value.int .i64 (0)]) rfl rfl rfl (ev_buildS rfl rfl rfl rfl) ?_
    refine r_v (Value.int .i64 (r4.2.2)) rfl rfl rfl rfl ?_
    refine r_s [(b6, 42, #[Value.int .i64 (r4.1), U (hi (r4.2.1)), U (lo (r4.2.1))]), (b2, 47, #[Value.int .i64 (0), Value.string (⟨#[]⟩), Value.int .i64 (0), Value.int .i64 (0), U (0#64), U (0#64), Value.int .i64 (0)])] 1 _ _ _ (#[Value.int .i64 (0), Value.string (⟨#[]⟩), Value.int .i64 (0), Value.int .i64 (0), U (0#64), U (0#64), Value.int .i64 (0)]) (#[Value.int .i64 (0), Value.string (⟨#[]⟩), Value.int .i64 (0), Value.int .i64 (0), U (0#64), U (0#64), Value.int .i64 (0)]) (#[Value.int .i64 (0), Value.string (⟨#[]⟩), Value.int .i64 (0), Value.int .i64 (0), U (0#64), U (0#64), Value.int .i64 (0)]) rfl rfl rfl rfl (.of rfl rfl) rfl rfl ?_
    refine r_v (Value.int .i64 (r4.2.2)) rfl rfl rfl rfl ?_
    refine lx_nil ?_
    refine hK10 _ _ ?_; try clear hK10 K10
    obtain rfl := Option.some.inj hM
    refine A_ret (fun hn => ends_eq (v0 := Value.tuple #[Value.agg #[Value.int .i64 (0), Value.string (⟨#[]⟩), Value.int .i64 (0), Value.int .i64 (0), U (0#64), U (0#64), Value.int .i64 (0)], Value.int .i64 (r4.2.2)]) (by first | rfl | (simp only [app_hl]; done) | simp only [app_hl]) (res2 (res_cell hn 1 rfl rfl rfl) rfl))
  · replace hM := ifn (bne_f hc9) hM
    refine A_skip ?_
    refine hK7 _ _ ?_; try clear hK7 K7
    refine A_seq fun K11 hK11 => ?_
    refine A_reg ?_
    refine r_l (Value.agg #[Value.int .i64 (r4.1), U (hi (r4.2.1)), U (lo (r4.2.1))]) 0 _ _ _ _ rfl rfl rfl rfl rfl ?_
    refine r_v (Value.agg #[Value.int .i64 (3), Value.string (⟨#[]⟩), Value.int .i64 (0), Value.int .i64 (r4.1), U (hi (r4.2.1)), U (lo (r4.2.1)), Value.int .i64 (0)]) rfl rfl rfl (ev_buildS rfl rfl rfl rfl) ?_
    refine r_s [(b6, 42, #[Value.int .i64 (r4.1), U (hi (r4.2.1)), U (lo (r4.2.1))]), (b2, 47, #[Value.int .i64 (3), Value.string (⟨#[]⟩), Value.int .i64 (0), Value.int .i64 (r4.1), U (hi (r4.2.1)), U (lo (r4.2.1)), Value.int .i64 (0)])] 1 _ _ _ (#[Value.int .i64 (0), Value.string (⟨#[]⟩), Value.int .i64 (0), Value.int .i64 (0), U (0#64), U (0#64), Value.int .i64 (0)]) (#[Value.int .i64 (3), Value.string (⟨#[]⟩), Value.int .i64 (0), Value.int .i64 (r4.1), U (hi (r4.2.1)), U (lo (r4.2.1)), Value.int .i64 (0)]) (#[Value.int .i64 (3), Value.string (⟨#[]⟩), Value.int .i64 (0), Value.int .i64 (r4.1), U (hi (r4.2.1)), U (lo (r4.2.1)), Value.int .i64 (0)]) rfl rfl rfl rfl (.of rfl rfl) rfl rfl ?_
    refine r_v (Value.int .i64 (0)) rfl rfl rfl rfl ?_
    refine lx_nil ?_
    refine hK11 _ _ ?_; try clear hK11 K11
    obtain rfl := Option.some.inj hM
    refine A_ret (fun hn => ends_eq (v0 := Value.tuple #[Value.agg #[Value.int .i64 (3), Value.string (⟨#[]⟩), Value.int .i64 (0), Value.int .i64 (r4.1), U (hi (r4.2.1)), U (lo (r4.2.1)), Value.int .i64 (0)], Value.int .i64 (0)]) rfl (res2 (res_cell hn 1 rfl rfl rfl) rfl))
def internal_stringslite_HasPrefix_m (_ : Nat) (s : List UInt8) (prefix' : List UInt8) : Option (Bool) := if (((s).length : Int) : Int) ≥ ((prefix').length : Int) then ck (0 ≤ ((prefix').length : Int) ∧ ((prefix').length : Int) ≤ ((s).length : Int)) (some (((s).take (((prefix').length : Int)).toNat) == (prefix'))) else some (false)
set_option maxRecDepth 100000 in
set_option maxHeartbeats 8000000 in
theorem internal_stringslite_HasPrefix_g (N : Nat) (s : List UInt8) (prefix' : List UInt8) (r : Bool) (hM : internal_stringslite_HasPrefix_m N s prefix' = some r) : Gives Tryd.prog 83 #[Value.string (⟨(s).toArray⟩), Value.string (⟨(prefix').toArray⟩)] (Value.bool (r)) := by
  unfold internal_stringslite_HasPrefix_m at hM
  refine gives_of_A follows Tryd.func83 rfl 18 rfl (upd (upd (fun _ => undef) 1 (Value.string (⟨(prefix').toArray⟩))) 0 (Value.string (⟨(s).toArray⟩))) (by funext k; match k with | 0 => rfl | 1 => rfl | k + 2 => rfl) (fun base0_ => ?_)
  refine A_seq fun K1 hK1 => ?_
  refine A_reg ?_
  refine r_v (Value.bool (false)) rfl rfl rfl rfl ?_
  refine lx_nil ?_
  refine hK1 _ _ ?_; try clear hK1 K1
  refine A_seq fun K2 hK2 => ?_
  refine A_reg ?_
  refine r_v (Value.string (⟨(s).toArray⟩)) rfl rfl rfl rfl ?_
  refine r_v (Value.int .i64 (((s).length : Int))) rfl rfl rfl (ev_lenS rfl rfl rfl) ?_
  refine r_v (Value.string (⟨(prefix').toArray⟩)) rfl rfl rfl rfl ?_
  refine r_v (Value.int .i64 (((prefix').length : Int))) rfl rfl rfl (ev_lenS rfl rfl rfl) ?_
  refine r_v (Value.bool (decide ((((s).length : Int) : Int) ≥ ((prefix').length : Int)))) rfl rfl rfl rfl ?_
  refine r_v (Value.bool (decide ((((s).length : Int) : Int) ≥ ((prefix').length : Int)))) rfl rfl rfl rfl ?_
  rcases hg3 : (decide ((((s).length : Int) : Int) ≥ ((prefix').length : Int))) with _ | _
  · replace hM := ifn (of_decide_eq_false hg3) hM
    refine r_n false rfl (by decide) rfl ?_
    refine r_n false rfl (by decide) rfl ?_
    refine r_n false rfl (by decide) rfl ?_
    refine r_n false rfl (by decide) rfl ?_
    refine r_n false rfl (by decide) rfl ?_
    refine r_n false rfl (by decide) rfl ?_
    refine r_v (Value.bool (false)) rfl rfl rfl rfl ?_
    refine r_v (Value.bool (false)) rfl rfl rfl rfl ?_
    refine lx_nil ?_
    refine hK2 _ _ ?_; try clear hK2 K2
    obtain rfl := Option.some.inj hM
    refine A_ret (fun hn => ends_eq (v0 := Value.bool (false)) rfl (res1 rfl))
  · replace hM := ifp (of_decide_eq_true hg3) hM
    refine r_y rfl ?_
    refine r_v (Value.string (⟨(s).toArray⟩)) rfl rfl rfl rfl ?_
    refine r_y rfl ?_
    refine r_v (Value.string (⟨(prefix').toArray⟩)) rfl rfl rfl rfl ?_
    refine r_y rfl ?_
    refine r_v (Value.int .i64 (((prefix').length : Int))) rfl rfl rfl (ev_lenS rfl rfl rfl) ?_
    refine r_y rfl ?_
    replace hM := ck_some hM; obtain ⟨ck4, hM⟩ := hM
    refine r_v (Value.string (⟨((s).take (((prefix').length : Int)).toNat).toArray⟩)) rfl rfl rfl (ev_v (ev_sliceS2 rfl ck4)) ?_
    refine r_y rfl ?_
    refine r_v (Value.string (⟨(prefix').toArray⟩)) rfl rfl rfl rfl ?_
    refine r_y rfl ?_
    refine r_v (Value.bool (((s).take (((prefix').length : Int)).toNat) == (prefix'))) rfl rfl rfl (ev_eqS rfl rfl) ?_
    refine r_v (Value.bool (((s).take (((prefix').length : Int)).toNat) == (prefix'))) rfl rfl rfl rfl ?_
    refine r_v (Value.bool (((s).take (((prefix').length : Int)).toNat) == (prefix'))) rfl rfl rfl rfl ?_
    refine lx_nil ?_
    refine hK2 _ _ ?_; try clear hK2 K2
    obtain rfl := Option.some.inj hM
    refine A_ret (fun hn => ends_eq (v0 := Value.bool (((s).take (((prefix').length : Int)).toNat) == (prefix'))) rfl (res1 rfl))
end Go.Proofs.YtmdjifehblijkaaDoor
