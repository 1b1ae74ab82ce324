/- models of functions and their walks -/
import Derived.Test.YtmdjifehblijkaaDoorBb
namespace Go.Proofs.YtmdjifehblijkaaDoor
open Go Go.RowKit Go.Eng
def strings_Builder_WriteString_v2_m (N : Nat) (b : List UInt8) (s : List UInt8) : Option (Int × (List UInt8)) := (strings_Builder_copyCheck_v2_m N b).bind fun r3 => ck ((r3).length = (b).length) (ck ((r3).length + (s).length ≤ 140737488355328) (some (((s).length : Int), (r3 ++ s))))
set_option maxRecDepth 100000 in
set_option maxHeartbeats 8000000 in
theorem strings_Builder_WriteString_v2_g (N : Nat) (b : List UInt8) (s : List UInt8) (r : Int × (List UInt8)) (hM : strings_Builder_WriteString_v2_m N b s = some r) (ro : Addr → Option Value) (bb : Nat) (bv : Value) (Sb : List Bl) (hb : Sl 5 encYs bv b Sb) : Does Tryd.prog 28 #[Value.pointer (some ⟨bb, 0, none⟩), Value.string (⟨(s).toArray⟩)] ro (List.flatten [[(bb, 66, #[Value.pointer (some ⟨bb, 0, none⟩), bv])], Sb]) (pO (List.flatten [[(bb, 66, #[Value.pointer (some ⟨bb, 0, none⟩), bv])], Sb]) (oS 5 encYs r.2 fun s_0 => (oE (Value.tuple #[Value.int .i64 (r.1), Value.nilIface]) [[(bb, 66, #[Value.pointer (some ⟨bb, 0, none⟩), s_0])]]))) := by
  unfold strings_Builder_WriteString_v2_m at hM
  refine doesO_of_A follows Tryd.func28 rfl 19 rfl (upd (upd (fun _ => undef) 1 (Value.string (⟨(s).toArray⟩))) 0 (Value.pointer (some ⟨bb, 0, none⟩))) (by funext k; match k with | 0 => rfl | 1 => rfl | k + 2 => rfl) (fun _ _ h_ _ => h_) (fun base0_ => ?_)
  refine A_seq fun K1 hK1 => ?_
  refine A_reg ?_
  refine r_v (Value.int .i64 (0)) rfl rfl rfl rfl ?_
  refine r_v (Value.nilIface) rfl rfl rfl rfl ?_
  refine lx_nil ?_
  refine hK1 _ _ ?_; try clear hK1 K1
  refine A_seq fun K2 hK2 => ?_
  refine A_regC [(some 7, true)] (conG Tryd.prog [(7, fun v_ L_ U_ => ∀ u0_, strings_Builder_copyCheck_v2_m N b = some u0_ → (pO (List.flatten [[(bb, 66, #[Value.pointer (some ⟨bb, 0, none⟩), bv])], Sb]) (oI 5 encYs bv u0_ (oE (Value.tuple #[]) [[(bb, 66, #[Value.pointer (some ⟨bb, 0, none⟩), bv])]]))) v_ L_ U_)]) ?_
  refine r_v (Value.pointer (some ⟨bb, 0, none⟩)) rfl rfl rfl rfl ?_
  replace hM := bind_sm hM; obtain ⟨r3, hr4, hM⟩ := hM
  replace hM := ck_some hM; obtain ⟨ck5, hM⟩ := hM
  refine r_gm (Ls := [[(bb, 66, #[Value.pointer (some ⟨bb, 0, none⟩), bv])], Sb]) (FL := [[(bb, 66, #[Value.pointer (some ⟨bb, 0, none⟩), bv])], Sb]) (RL := []) [0, 1] (oI 5 encYs bv r3 (oE (Value.tuple #[]) [[(bb, 66, #[Value.pointer (some ⟨bb, 0, none⟩), bv])]])) (some 7) 47 _ rfl rfl rfl rfl rfl (ev_callF rfl call_47 rfl) (fun own_ nw_ hn_ hs_ => strings_Builder_copyCheck_v2_g N b _ hr4 _ bb bv Sb hb) (fun _ _ v_ L_ U_ => ⟨fun h_ => h_ _ hr4, fun h_ => by intro _ e_; cases Option.some.inj (e_.symm.trans hr4); exact h_⟩) (fun h_ => nomatch h_) ?_
  rintro _ _ ⟨S6, _, H7, ⟨rfl, rfl⟩, rfl⟩
  refine lx_perm (Ls := [S6, [(bb, 66, #[Value.pointer (some ⟨bb, 0, none⟩), bv])]]) (Ls' := [[(bb, 66, #[Value.pointer (some ⟨bb, 0, none⟩), bv])], S6]) [1, 0] rfl rfl ?_
  refine lx_nil ?_
  refine hK2 _ _ ?_; try clear hK2 K2
  refine A_seq fun K8 hK8 => ?_
  refine A_regC [(some 14, true)] (conG Tryd.prog []) ?_
  refine r_v (Value.pointer (some ⟨bb, 0, none⟩)) rfl rfl rfl rfl ?_
  refine r_v (Value.pointer (some ⟨bb, 0, none⟩)) rfl rfl rfl rfl ?_
  refine r_v (Value.pointer (some ⟨bb, 0, none⟩)) rfl rfl rfl rfl ?_
  refine r_v (Value.pointer (some ⟨bb, 1, none⟩)) rfl rfl rfl rfl ?_
  refine r_l (bv) 0 _ _ _ _ rfl rfl rfl rfl rfl ?_
  refine r_v (Value.string (⟨(s).toArray⟩)) rfl rfl rfl rfl ?_
  replace hM := ck_some hM; obtain ⟨ck9, hM⟩ := hM
  refine r_apsS (cs0 := []) (Ls := [[(bb, 66, #[Value.pointer (some ⟨bb, 0, none⟩), bv])], S6]) 1 (s) rfl rfl rfl rfl rfl H7 rfl rfl rfl rfl rfl rfl rfl rfl ck9 rfl (fun s10 S11 H12 => ?_)
  refine r_v (Value.pointer (some ⟨bb, 0, none⟩)) rfl rfl rfl rfl ?_
  refine r_v (Value.pointer (some ⟨bb, 1, none⟩)) rfl rfl rfl rfl ?_
  refine r_s (List.flatten [[(bb, 66, #[Value.pointer (some ⟨bb, 0, none⟩), s10])], S11]) 0 _ _ _ (#[Value.pointer (some ⟨bb, 0, none⟩), bv]) (#[s10]) (#[Value.pointer (some ⟨bb, 0, none⟩), s10]) rfl rfl rfl (cells_sl rfl (Sl.shp H12)) (.ofS rfl rfl (all_cons' (Shp.one (Sl.shp H12)) all_nil')) rfl rfl ?_
  refine lx_nil ?_
  refine hK8 _ _ ?_; try clear hK8 K8
  refine A_seq fun K13 hK13 => ?_
  refine A_reg ?_
  refine r_v (Value.string (⟨(s).toArray⟩)) rfl rfl rfl rfl ?_
  refine r_v (Value.int .i64 (((s).length : Int))) rfl rfl rfl (ev_lenS rfl rfl rfl) ?_
  refine r_v (Value.int .i64 (((s).length : Int))) rfl rfl rfl rfl ?_
  refine r_v (Value.nilIface) rfl rfl rfl rfl ?_
  refine lx_nil ?_
  refine hK13 _ _ ?_; try clear hK13 K13
  obtain rfl := Option.some.inj hM
  refine A_ret (fun hn => endsO (v0 := Value.tuple #[Value.int .i64 (((s).length : Int)), Value.nilIface]) (O := [S11, [(bb, 66, #[Value.pointer (some ⟨bb, 0, none⟩), s10])]]) (res2 rfl rfl) (Sub.pick [[(bb, 66, #[Value.pointer (some ⟨bb, 0, none⟩), s10])], S11] [1, 0] rfl) ⟨s10, S11, _, H12, ⟨rfl, rfl⟩, rfl⟩)
def strings_Builder_WriteString_v2b_m (N : Nat) (b : List UInt8) (s : List UInt8) : Option (Int × (List UInt8)) := strings_Builder_WriteString_v2_m N b s
set_option maxRecDepth 100000 in
theorem strings_Builder_WriteString_v2b_g (N : Nat) (b : List UInt8) (s : List UInt8) (r : Int × (List UInt8)) (hM : strings_Builder_WriteString_v2b_m N b s = some r) (ro : Addr → Option Value) (vb_ : Value) (Sb_ : List Bl) (Hb_ : Bd 66 5 vb_ b Sb_)  : Does Tryd.prog 28 #[vb_, Value.string (⟨(s).toArray⟩)] ro (List.flatten [Sb_]) (pO (List.flatten [Sb_]) (oIB 66 5 vb_ r.2 (oE (Value.tuple #[Value.int .i64 (r.1), Value.nilIface]) []))) := by
  rw [flat_one]
  obtain ⟨b_, f_, s_, S0_, rfl, H0_, rfl⟩ := Hb_
  cases f_
  · exact bd_w (f := true) (strings_Builder_WriteString_v1_g N b s r hM ro b_ s_ S0_ H0_ )
  · exact bd_w (f := true) (strings_Builder_WriteString_v2_g N b s r hM ro b_ s_ S0_ H0_ )
def strings_Builder_String_v1_m (_ : Nat) (b : List UInt8) : Option (List UInt8) := ck ((b).length ≤ 140737488355328) (some (b))
set_option maxRecDepth 100000 in
set_option maxHeartbeats 8000000 in
theorem strings_Builder_String_v1_g (N : Nat) (b : List UInt8) (r : List UInt8) (hM : strings_Builder_String_v1_m N b = some r) (ro : Addr → Option Value) (bb : Nat) (bv : Value) (Sb : List Bl) (hb : Sl 5 encYs bv b Sb) : Does Tryd.prog 29 #[Value.pointer (some ⟨bb, 0, none⟩)] ro (List.flatten [[(bb, 66, #[Value.pointer none, bv])], Sb]) (pO (List.flatten [[(bb, 66, #[Value.pointer none, bv])], Sb]) (oE (Value.string (⟨(r).toArray⟩)) [])) := by
  unfold strings_Builder_String_v1_m at hM
  refine doesO_of_A follows Tryd.func29 rfl 14 rfl (upd (fun _ => undef) 0 (Value.pointer (some ⟨bb, 0, none⟩))) (by funext k; match k with | 0 => rfl | k + 1 => rfl) (fun _ _ h_ _ => h_) (fun base0_ => ?_)
  refine A_seq fun K1 hK1 => ?_
  refine A_reg ?_
  refine r_v (Value.string (⟨#[]⟩)) rfl rfl rfl rfl ?_
  refine lx_nil ?_
  refine hK1 _ _ ?_; try clear hK1 K1
  refine A_seq fun K2 hK2 => ?_
  refine A_drawR [(some 7, false), (some 13, true)] (conG Tryd.prog [(7, fun v_ L_ U_ => (fun v_ L_ U_ => UsdP bv v_ ∧ L_ = [] ∧ U_ = []) v_ L_ U_), (13, fun v_ L_ U_ => (pUp (fun v_ U_ => v_ = .string ⟨(b).toArray⟩ ∧ U_ = deadB Sb)) v_ L_ U_)]) [] (by decide +kernel) (fun hn => sep_nil) ?_
  refine r_v (Value.pointer (some ⟨bb, 0, none⟩)) rfl rfl rfl rfl ?_
  refine r_v (Value.pointer (some ⟨bb, 0, none⟩)) rfl rfl rfl rfl ?_
  refine r_v (Value.pointer (some ⟨bb, 1, none⟩)) rfl rfl rfl rfl ?_
  refine r_l (bv) 0 _ _ _ _ rfl rfl rfl rfl rfl ?_
  refine r_usd (Ls := [[(bb, 66, #[Value.pointer none, bv])], Sb]) 1 rfl rfl rfl rfl rfl hb rfl rfl (fun _ _ _ _ _ => Iff.rfl) (fun u3 hu4 => ?_)
  refine r_v (Value.pointer (some ⟨bb, 0, none⟩)) rfl rfl rfl rfl ?_
  refine r_v (Value.pointer (some ⟨bb, 0, none⟩)) rfl rfl rfl rfl ?_
  refine r_v (Value.pointer (some ⟨bb, 1, none⟩)) rfl rfl rfl rfl ?_
  refine r_l (bv) 0 _ _ _ _ rfl rfl rfl rfl rfl ?_
  refine r_v (Value.int .i64 (((b).length : Int))) rfl rfl rfl (ev_lenSl rfl rfl rfl (Sl.shp hb)) ?_
  replace hM := ck_some hM; obtain ⟨ck5, hM⟩ := hM
  refine r_uss (Ls := [[(bb, 66, #[Value.pointer none, bv])], Sb]) 1 (xs := b) rfl rfl rfl rfl rfl rfl hb hu4 rfl (by kernel_rfl) rfl ck5 (fun _ _ _ _ _ => Iff.rfl) ?_
  refine lx_perm (Ls := [[(bb, 66, #[Value.pointer none, bv])], deadB Sb]) (Ls' := [[(bb, 66, #[Value.pointer none, bv])]]) [0] rfl rfl ?_
  refine r_v (Value.string (⟨(b).toArray⟩)) rfl rfl rfl rfl ?_
  refine lx_nil ?_
  refine hK2 _ _ ?_; try clear hK2 K2
  obtain rfl := Option.some.inj hM
  refine A_ret (fun hn => endsO (v0 := Value.string (⟨(b).toArray⟩)) (O := []) (res1 rfl) (Sub.nil _) ⟨rfl, rfl⟩)
def strings_Builder_String_v2_m (_ : Nat) (b : List UInt8) : Option (List UInt8) := ck ((b).length ≤ 140737488355328) (some (b))
set_option maxRecDepth 100000 in
set_option maxHeartbeats 8000000 in
theorem strings_Builder_String_v2_g (N : Nat) (b : List UInt8) (r : List UInt8) (hM : strings_Builder_String_v2_m N b = some r) (ro : Addr → Option Value) (bb : Nat) (bv : Value) (Sb : List Bl) (hb : Sl 5 encYs bv b Sb) : Does Tryd.prog 29 #[Value.pointer (some ⟨bb, 0, none⟩)] ro (List.flatten [[(bb, 66, #[Value.pointer (some ⟨bb, 0, none⟩), bv])], Sb]) (pO (List.flatten [[(bb, 66, #[Value.pointer (some ⟨bb, 0, none⟩), bv])], Sb]) (oE (Value.string (⟨(r).toArray⟩)) [])) := by
  unfold strings_Builder_String_v2_m at hM
  refine doesO_of_A follows Tryd.func29 rfl 14 rfl (upd (fun _ => undef) 0 (Value.pointer (some ⟨bb, 0, none⟩))) (by funext k; match k with | 0 => rfl | k + 1 => rfl) (fun _ _ h_ _ => h_) (fun base0_ => ?_)
  refine A_seq fun K1 hK1 => ?_
  refine A_reg ?_
  refine r_v (Value.string (⟨#[]⟩)) rfl rfl rfl rfl ?_
  refine lx_nil ?_
  refine hK1 _ _ ?_; try clear hK1 K1
  refine A_seq fun K2 hK2 => ?_
  refine A_drawR [(some 7, false), (some 13, true)] (conG Tryd.prog [(7, fun v_ L_ U_ => (fun v_ L_ U_ => UsdP bv v_ ∧ L_ = [] ∧ U_ = []) v_ L_ U_), (13, fun v_ L_ U_ => (pUp (fun v_ U_ => v_ = .string ⟨(b).toArray⟩ ∧ U_ = deadB Sb)) v_ L_ U_)]) [] (by decide +kernel) (fun hn => sep_nil) ?_
  refine r_v (Value.pointer (some ⟨bb, 0, none⟩)) rfl rfl rfl rfl ?_
  refine r_v (Value.pointer (some ⟨bb, 0, none⟩)) rfl rfl rfl rfl ?_
  refine r_v (Value.pointer (some ⟨bb, 1, none⟩)) rfl rfl rfl rfl ?_
  refine r_l (bv) 0 _ _ _ _ rfl rfl rfl rfl rfl ?_
  refine r_usd (Ls := [[(bb, 66, #[Value.pointer (some ⟨bb, 0, none⟩), bv])], Sb]) 1 rfl rfl rfl rfl rfl hb rfl rfl (fun _ _ _ _ _ => Iff.rfl) (fun u3 hu4 => ?_)
  refine r_v (Value.pointer (some ⟨bb, 0, none⟩)) rfl rfl rfl rfl ?_
  refine r_v (Value.pointer (some ⟨bb, 0, none⟩)) rfl rfl rfl rfl ?_
  refine r_v (Value.pointer (some ⟨bb, 1, none⟩)) rfl rfl rfl rfl ?_
  refine r_l (bv) 0 _ _ _ _ rfl rfl rfl rfl rfl ?_
  refine r_v (Value.int .i64 (((b).length : Int))) rfl rfl rfl (ev_lenSl rfl rfl rfl (Sl.shp hb)) ?_
  replace hM := ck_some hM; obtain ⟨ck5, hM⟩ := hM
  refine r_uss (Ls := [[(bb, 66, #[Value.pointer (some ⟨bb, 0, none⟩), bv])], Sb]) 1 (xs := b) rfl rfl rfl rfl rfl rfl hb hu4 rfl (by kernel_rfl) rfl ck5 (fun _ _ _ _ _ => Iff.rfl) ?_
  refine lx_perm (Ls := [[(bb, 66, #[Value.pointer (some ⟨bb, 0, none⟩), bv])], deadB Sb]) (Ls' := [[(bb, 66, #[Value.pointer (some ⟨bb, 0, none⟩), bv])]]) [0] rfl rfl ?_
  refine r_v (Value.string (⟨(b).toArray⟩)) rfl rfl rfl rfl ?_
  refine lx_nil ?_
  refine hK2 _ _ ?_; try clear hK2 K2
  obtain rfl := Option.some.inj hM
  refine A_ret (fun hn => endsO (v0 := Value.string (⟨(b).toArray⟩)) (O := []) (res1 rfl) (Sub.nil _) ⟨rfl, rfl⟩)
def strings_Builder_String_v2b_m (N : Nat) (b : List UInt8) : Option (List UInt8) := strings_Builder_String_v2_m N b
set_option maxRecDepth 100000 in
theorem strings_Builder_String_v2b_g (N : Nat) (b : List UInt8) (r : List UInt8) (hM : strings_Builder_String_v2b_m N b = some r) (ro : Addr → Option Value) (vb_ : Value) (Sb_ : List Bl) (Hb_ : Bd 66 5 vb_ b Sb_)  : Does Tryd.prog 29 #[vb_] ro (List.flatten [Sb_]) (pO (List.flatten [Sb_]) (oE (Value.string (⟨(r).toArray⟩)) [])) := by
  rw [flat_one]
  obtain ⟨b_, f_, s_, S0_, rfl, H0_, rfl⟩ := Hb_
  cases f_
  · exact strings_Builder_String_v1_g N b r hM ro b_ s_ S0_ H0_ 
  · exact strings_Builder_String_v2_g N b r hM ro b_ s_ S0_ H0_ 
def lex_Join_l3 (N : Nat) (l' : List (Int × List UInt8 × Int × Int × BitVec 128 × Int)) : Nat → List UInt8 → Int → Option (List UInt8)
  | 0, _, _ => none
  | n8 + 1, Valuep1_, x2_ => if (x2_ : Int) < ((l').length : Int) then ck (0 ≤ x2_ ∧ x2_ < ((l').length : Int)) (if (x2_ : Int) > 0 then (strings_Builder_WriteByte_v2b_m N Valuep1_ (32 : UInt8)).bind fun r19 => (lex_Text_m N (((l')[(x2_).toNat]!).1) (((l')[(x2_).toNat]!).2.1) (((l')[(x2_).toNat]!).2.2.1) (((l')[(x2_).toNat]!).2.2.2.1) (((l')[(x2_).toNat]!).2.2.2.2.1) (((l')[(x2_).toNat]!).2.2.2.2.2)).bind fun r23 => (strings_Builder_WriteString_v2b_m N r19 r23).bind fun r25 => ck ((-9223372036854775808 ≤ (x2_ + 1) ∧ (x2_ + 1) ≤ 9223372036854775807)) ((lex_Join_l3 N l' n8) (r25.2) ((x2_ + 1))) else (lex_Text_m N (((l')[(x2_).toNat]!).1) (((l')[(x2_).toNat]!).2.1) (((l')[(x2_).toNat]!).2.2.1) (((l')[(x2_).toNat]!).2.2.2.1) (((l')[(x2_).toNat]!).2.2.2.2.1) (((l')[(x2_).toNat]!).2.2.2.2.2)).bind fun r30 => (strings_Builder_WriteString_v2b_m N Valuep1_ r30).bind fun r32 => ck ((-9223372036854775808 ≤ (x2_ + 1) ∧ (x2_ + 1) ≤ 9223372036854775807)) ((lex_Join_l3 N l' n8) (r32.2) ((x2_ + 1)))) else (strings_Builder_String_v2b_m N Valuep1_).bind fun r38 => some (r38)
def lex_Join_m (N : Nat) (l' : List (Int × List UInt8 × Int × Int × BitVec 128 × Int)) : Option (List UInt8) := lex_Join_l3 N l' N (([] : List UInt8)) (0)
set_option maxRecDepth 100000 in
set_option maxHeartbeats 8000000 in
theorem lex_Join_g (N : Nat) (l' : List (Int × List UInt8 × Int × Int × BitVec 128 × Int)) (r : List UInt8) (hM : lex_Join_m N l' = some r) (ro : Addr → Option Value) (l'v : Value) (hl' : Rd enc_47 ro l'v l') : DoesI Tryd.prog 14 #[l'v] MemI ro [] (pV (Value.string (⟨(r).toArray⟩))) := by
  unfold lex_Join_m at hM
  refine doesI_of_A follows Tryd.func14 rfl 21 rfl (upd (fun _ => undef) 0 (l'v)) (by funext k; match k with | 0 => rfl | k + 1 => rfl) memI_kept (fun base0_ => ?_)
  refine A_seq fun K1 hK1 => ?_
  refine A_reg ?_
  refine r_v (Value.string (⟨#[]⟩)) rfl rfl rfl rfl ?_
  refine lx_nil ?_
  refine hK1 _ _ ?_; try clear hK1 K1
  refine A_seq fun K2 hK2 => ?_
  refine A_reg ?_
  refine r_a (66, #[Value.pointer none, Value.slice none 0 0]) rfl rfl rfl (fun b3 => ?_) (.inr rfl)
  refine lx_perm (Ls := [[(b3, 66, #[Value.pointer none, Value.slice none 0 0])]]) (Ls' := [[(b3, 66, #[Value.pointer none, Value.slice none 0 0])]]) [0] rfl rfl ?_
  refine lx_eq (Ls := [[(b3, 66, #[Value.pointer none, Value.slice none 0 0])]]) (Ls' := [(List.flatten [[(b3, 66, #[Value.pointer none, Value.slice none 0 0])], []])]) (by simp only [List.flatten_cons, List.flatten_nil, List.append_nil, List.append_assoc]) ?_
  refine lx_name (Ls := [(List.flatten [[(b3, 66, #[Value.pointer none, Value.slice none 0 0])], []])]) (p := fun S_ => Bd 66 5 (Value.pointer (some ⟨b3, 0, none⟩)) ([] : List UInt8) S_) 0 rfl ⟨b3, false, _, _, rfl, Sl.nil, rfl⟩ (fun S4 H5 => ?_)
  refine lx_nil ?_
  refine hK2 _ _ ?_; try clear hK2 K2
  refine A_seq fun K6 hK6 => ?_
  refine A_seq fun K7 hK7 => ?_
  refine A_reg ?_
  refine r_v (l'v) rfl rfl rfl rfl ?_
  refine r_v (Value.int .i64 (((l').length : Int))) rfl rfl rfl (ev_lenSl rfl rfl rfl (Rd.shp hl')) ?_
  refine r_v (Value.int .i64 (0)) rfl rfl rfl rfl ?_
  refine lx_nil ?_
  refine hK7 _ _ ?_; try clear hK7 K7
  refine A_block ?_
  refine A_forget _ (Sub.pick [S4] [0] rfl) ?_
  refine A_loop (fun tt ll nn => ∃ (n8 : Nat) (Valuep1_ : List UInt8) (x2_ : Int), (lex_Join_l3 N l' n8 Valuep1_ x2_ = some r) ∧ ∃ (SValuep1_ : List Bl), Bd 66 5 (Value.pointer (some ⟨b3, 0, none⟩)) Valuep1_ SValuep1_ ∧ Is [(3, Value.pointer (some ⟨b3, 0, none⟩)), (6, l'v), (7, Value.int .i64 (((l').length : Int))), (8, Value.int .i64 (x2_))] (List.flatten [SValuep1_]) tt ll ∧ nn = n8 + 1) (N + 1) ?_ ?_
  · exact ⟨N, ([] : List UInt8), 0, hM, S4, H5, is_mk rfl rfl, rfl⟩
  · clear hM; rintro t l _ ⟨n8, Valuep1_, x2_, hM, SValuep1_, hValuep1_, ⟨⟨T, rfl⟩, rfl⟩, rfl⟩
    rcases n8 with _ | n8
    · exact absurd hM (by simp [lex_Join_l3])
    rw [lex_Join_l3] at hM
    refine A_seq fun K9 hK9 => ?_
    refine A_reg ?_
    refine r_v (Value.bool (decide ((x2_ : Int) < ((l').length : Int)))) rfl rfl rfl rfl ?_
    refine lx_nil ?_
    refine hK9 _ _ ?_; try clear hK9 K9
    refine A_seq fun K10 hK10 => ?_
    refine A_cond (decide ((x2_ : Int) < ((l').length : Int))) rfl (fun hc11 => ?_) (fun hc11 => ?_)
    · replace hM := ifp (of_decide_eq_true hc11) hM
      refine A_skip ?_
      refine hK10 _ _ ?_; try clear hK10 K10
      refine A_seq fun K12 hK12 => ?_
      refine A_block ?_
      refine A_seq fun K13 hK13 => ?_
      refine A_reg ?_
      refine r_v (Value.int .i64 (x2_)) rfl rfl rfl rfl ?_
      replace hM := ck_some hM; obtain ⟨ck14, hM⟩ := hM
      refine r_v (elA l'v ((x2_).toNat * 7)) rfl rfl rfl (ev_v (ev_idxSl rfl rfl rfl (Rd.shp hl') ck14)) ?_
      refine r_le (Value.agg #[Value.int .i64 (((l')[(x2_).toNat]!).1), Value.string (⟨(((l')[(x2_).toNat]!).2.1).toArray⟩), Value.int .i64 (((l')[(x2_).toNat]!).2.2.1), Value.int .i64 (((l')[(x2_).toNat]!).2.2.2.1), U (hi (((l')[(x2_).toNat]!).2.2.2.2.1)), U (lo (((l')[(x2_).toNat]!).2.2.2.2.1)), Value.int .i64 (((l')[(x2_).toNat]!).2.2.2.2.2)]) (En := enc_47) ((l')[(x2_).toNat]!) ((x2_).toNat) 0 rfl rfl (rd_ro hl') (get_of ck14) rfl ?_
      refine r_a (47, #[Value.int .i64 (0), Value.string (⟨#[]⟩), Value.int .i64 (0), Value.int .i64 (0), U (0#64), U (0#64), Value.int .i64 (0)]) rfl rfl rfl (fun b15 => ?_) (.inr rfl)
      refine r_v (Value.int .i64 (x2_)) rfl rfl rfl rfl ?_
      refine r_s (List.flatten [[(b15, 47, #[Value.int .i64 (((l')[(x2_).toNat]!).1), Value.string (⟨(((l')[(x2_).toNat]!).2.1).toArray⟩), Value.int .i64 (((l')[(x2_).toNat]!).2.2.1), Value.int .i64 (((l')[(x2_).toNat]!).2.2.2.1), U (hi (((l')[(x2_).toNat]!).2.2.2.2.1)), U (lo (((l')[(x2_).toNat]!).2.2.2.2.1)), Value.int .i64 (((l')[(x2_).toNat]!).2.2.2.2.2)])], SValuep1_]) 0 _ _ _ (#[Value.int .i64 (0), Value.string (⟨#[]⟩), Value.int .i64 (0), Value.int .i64 (0), U (0#64), U (0#64), Value.int .i64 (0)]) (#[Value.int .i64 (((l')[(x2_).toNat]!).1), Value.string (⟨(((l')[(x2_).toNat]!).2.1).toArray⟩), Value.int .i64 (((l')[(x2_).toNat]!).2.2.1), Value.int .i64 (((l')[(x2_).toNat]!).2.2.2.1), U (hi (((l')[(x2_).toNat]!).2.2.2.2.1)), U (lo (((l')[(x2_).toNat]!).2.2.2.2.1)), Value.int .i64 (((l')[(x2_).toNat]!).2.2.2.2.2)]) (#[Value.int .i64 (((l')[(x2_).toNat]!).1), Value.string (⟨(((l')[(x2_).toNat]!).2.1).toArray⟩), Value.int .i64 (((l')[(x2_).toNat]!).2.2.1), Value.int .i64 (((l')[(x2_).toNat]!).2.2.2.1), U (hi (((l')[(x2_).toNat]!).2.2.2.2.1)), U (lo (((l')[(x2_).toNat]!).2.2.2.2.1)), Value.int .i64 (((l')[(x2_).toNat]!).2.2.2.2.2)]) rfl rfl rfl rfl (.of rfl rfl) rfl rfl ?_
      refine lx_nil ?_
      refine hK13 _ _ ?_; try clear hK13 K13
      refine A_seq fun K16 hK16 => ?_
      refine A_seq fun K17 hK17 => ?_
      refine A_reg ?_
      refine r_v (Value.int .i64 (x2_)) rfl rfl rfl rfl ?_
      refine r_v (Value.bool (decide ((x2_ : Int) > 0))) rfl rfl rfl rfl ?_
      refine lx_nil ?_
      refine hK17 _ _ ?_; try clear hK17 K17
      refine A_cond (decide ((x2_ : Int) > 0)) rfl (fun hc18 => ?_) (fun hc18 => ?_)
      · replace hM := ifp (of_decide_eq_true hc18) hM
        refine A_regC [(some 15, true)] (conG Tryd.prog [(15, fun v_ L_ U_ => ∀ u0_, strings_Builder_WriteByte_v2b_m N Valuep1_ (32 : UInt8) = some u0_ → (pO (List.flatten [SValuep1_]) (oIB 66 5 (Value.pointer (some ⟨b3, 0, none⟩)) u0_ (oE (Value.nilIface) []))) v_ L_ U_)]) ?_
        replace hM := bind_sm hM; obtain ⟨r19, hr20, hM⟩ := hM
        refine r_gm (Ls := [[(b15, 47, #[Value.int .i64 (((l')[(x2_).toNat]!).1), Value.string (⟨(((l')[(x2_).toNat]!).2.1).toArray⟩), Value.int .i64 (((l')[(x2_).toNat]!).2.2.1), Value.int .i64 (((l')[(x2_).toNat]!).2.2.2.1), U (hi (((l')[(x2_).toNat]!).2.2.2.2.1)), U (lo (((l')[(x2_).toNat]!).2.2.2.2.1)), Value.int .i64 (((l')[(x2_).toNat]!).2.2.2.2.2)])], SValuep1_]) (FL := [SValuep1_]) (RL := [[(b15, 47, #[Value.int .i64 (((l')[(x2_).toNat]!).1), Value.string (⟨(((l')[(x2_).toNat]!).2.1).toArray⟩), Value.int .i64 (((l')[(x2_).toNat]!).2.2.1), Value.int .i64 (((l')[(x2_).toNat]!).2.2.2.1), U (hi (((l')[(x2_).toNat]!).2.2.2.2.1)), U (lo (((l')[(x2_).toNat]!).2.2.2.2.1)), Value.int .i64 (((l')[(x2_).toNat]!).2.2.2.2.2)])]]) [1] (oIB 66 5 (Value.pointer (some ⟨b3, 0, none⟩)) r19 (oE (Value.nilIface) [])) (some 15) 27 _ rfl rfl rfl rfl rfl (ev_callF rfl call_27 rfl) (fun own_ nw_ hn_ hs_ => (Does.inv (strings_Builder_WriteByte_v2b_g N Valuep1_ (32 : UInt8) _ hr20 _ (Value.pointer (some ⟨b3, 0, none⟩)) SValuep1_ hValuep1_) _)) (fun _ _ v_ L_ U_ => ⟨fun h_ => h_ _ hr20, fun h_ => by intro _ e_; cases Option.some.inj (e_.symm.trans hr20); exact h_⟩) (fun h_ => nomatch h_) ?_
        rintro _ _ ⟨S21, _, H22, ⟨rfl, rfl⟩, rfl⟩
        refine lx_perm (Ls := [[(b15, 47, #[Value.int .i64 (((l')[(x2_).toNat]!).1), Value.string (⟨(((l')[(x2_).toNat]!).2.1).toArray⟩), Value.int .i64 (((l')[(x2_).toNat]!).2.2.1), Value.int .i64 (((l')[(x2_).toNat]!).2.2.2.1), U (hi (((l')[(x2_).toNat]!).2.2.2.2.1)), U (lo (((l')[(x2_).toNat]!).2.2.2.2.1)), Value.int .i64 (((l')[(x2_).toNat]!).2.2.2.2.2)])], S21]) (Ls' := [[(b15, 47, #[Value.int .i64 (((l')[(x2_).toNat]!).1), Value.string (⟨(((l')[(x2_).toNat]!).2.1).toArray⟩), Value.int .i64 (((l')[(x2_).toNat]!).2.2.1), Value.int .i64 (((l')[(x2_).toNat]!).2.2.2.1), U (hi (((l')[(x2_).toNat]!).2.2.2.2.1)), U (lo (((l')[(x2_).toNat]!).2.2.2.2.1)), Value.int .i64 (((l')[(x2_).toNat]!).2.2.2.2.2)])], S21]) [0, 1] rfl rfl ?_
        refine lx_nil ?_
        refine hK16 _ _ ?_; try clear hK16 K16
        refine A_regC [(some 17, false), (some 18, true)] (conG Tryd.prog [(17, fun v_ L_ U_ => ∀ u0_, lex_Text_m N (((l')[(x2_).toNat]!).1) (((l')[(x2_).toNat]!).2.1) (((l')[(x2_).toNat]!).2.2.1) (((l')[(x2_).toNat]!).2.2.2.1) (((l')[(x2_).toNat]!).2.2.2.2.1) (((l')[(x2_).toNat]!).2.2.2.2.2) = some u0_ → (pV (Value.string (⟨(u0_).toArray⟩))) v_ L_ U_), (18, fun v_ L_ U_ => ∀ u0_, lex_Text_m N (((l')[(x2_).toNat]!).1) (((l')[(x2_).toNat]!).2.1) (((l')[(x2_).toNat]!).2.2.1) (((l')[(x2_).toNat]!).2.2.2.1) (((l')[(x2_).toNat]!).2.2.2.2.1) (((l')[(x2_).toNat]!).2.2.2.2.2) = some u0_ → ∀ u1_, strings_Builder_WriteString_v2b_m N r19 u0_ = some u1_ → (pO (List.flatten [S21]) (oIB 66 5 (Value.pointer (some ⟨b3, 0, none⟩)) u1_.2 (oE (Value.tuple #[Value.int .i64 (u1_.1), Value.nilIface]) []))) v_ L_ U_)]) ?_
        refine r_l (Value.agg #[Value.int .i64 (((l')[(x2_).toNat]!).1), Value.string (⟨(((l')[(x2_).toNat]!).2.1).toArray⟩), Value.int .i64 (((l')[(x2_).toNat]!).2.2.1), Value.int .i64 (((l')[(x2_).toNat]!).2.2.2.1), U (hi (((l')[(x2_).toNat]!).2.2.2.2.1)), U (lo (((l')[(x2_).toNat]!).2.2.2.2.1)), Value.int .i64 (((l')[(x2_).toNat]!).2.2.2.2.2)]) 0 _ _ _ _ rfl rfl rfl rfl rfl ?_
        replace hM := bind_sm hM; obtain ⟨r23, hr24, hM⟩ := hM
        refine r_gv (Value.string (⟨(r23).toArray⟩)) 13 _ rfl rfl rfl (ev_callF rfl call_13 rfl) (fun own_ nw_ hs_ => lex_Text_g N (((l')[(x2_).toNat]!).1) (((l')[(x2_).toNat]!).2.1) (((l')[(x2_).toNat]!).2.2.1) (((l')[(x2_).toNat]!).2.2.2.1) (((l')[(x2_).toNat]!).2.2.2.2.1) (((l')[(x2_).toNat]!).2.2.2.2.2) _ hr24 hs_.view ) (fun _ _ v_ L_ U_ => ⟨fun h_ => h_ _ hr24, fun h_ => by intro _ e_; cases Option.some.inj (e_.symm.trans hr24); exact h_⟩) ?_
        replace hM := bind_sm hM; obtain ⟨r25, hr26, hM⟩ := hM
        refine r_gm (Ls := [[(b15, 47, #[Value.int .i64 (((l')[(x2_).toNat]!).1), Value.string (⟨(((l')[(x2_).toNat]!).2.1).toArray⟩), Value.int .i64 (((l')[(x2_).toNat]!).2.2.1), Value.int .i64 (((l')[(x2_).toNat]!).2.2.2.1), U (hi (((l')[(x2_).toNat]!).2.2.2.2.1)), U (lo (((l')[(x2_).toNat]!).2.2.2.2.1)), Value.int .i64 (((l')[(x2_).toNat]!).2.2.2.2.2)])], S21]) (FL := [S21]) (RL := [[(b15, 47, #[Value.int .i64 (((l')[(x2_).toNat]!).1), Value.string (⟨(((l')[(x2_).toNat]!).2.1).toArray⟩), Value.int .i64 (((l')[(x2_).toNat]!).2.2.1), Value.int .i64 (((l')[(x2_).toNat]!).2.2.2.1), U (hi (((l')[(x2_).toNat]!).2.2.2.2.1)), U (lo (((l')[(x2_).toNat]!).2.2.2.2.1)), Value.int .i64 (((l')[(x2_).toNat]!).2.2.2.2.2)])]]) [1] (oIB 66 5 (Value.pointer (some ⟨b3, 0, none⟩)) r25.2 (oE (Value.tuple #[Value.int .i64 (r25.1), Value.nilIface]) [])) (some 18) 28 _ rfl rfl rfl rfl rfl (ev_callF rfl call_28 rfl) (fun own_ nw_ hn_ hs_ => (Does.inv (strings_Builder_WriteString_v2b_g N r19 r23 _ hr26 _ (Value.pointer (some ⟨b3, 0, none⟩)) S21 H22) _)) (fun _ _ v_ L_ U_ => ⟨fun h_ => h_ _ hr24 _ hr26, fun h_ => by intro _ e_; cases Option.some.inj (e_.symm.trans hr24); intro _ e_; cases Option.some.inj (e_.symm.trans hr26); exact h_⟩) (fun h_ => nomatch h_) ?_
        rintro _ _ ⟨S27, _, H28, ⟨rfl, rfl⟩, rfl⟩
        refine lx_perm (Ls := [[(b15, 47, #[Value.int .i64 (((l')[(x2_).toNat]!).1), Value.string (⟨(((l')[(x2_).toNat]!).2.1).toArray⟩), Value.int .i64 (((l')[(x2_).toNat]!).2.2.1), Value.int .i64 (((l')[(x2_).toNat]!).2.2.2.1), U (hi (((l')[(x2_).toNat]!).2.2.2.2.1)), U (lo (((l')[(x2_).toNat]!).2.2.2.2.1)), Value.int .i64 (((l')[(x2_).toNat]!).2.2.2.2.2)])], S27]) (Ls' := [[(b15, 47, #[Value.int .i64 (((l')[(x2_).toNat]!).1), Value.string (⟨(((l')[(x2_).toNat]!).2.1).toArray⟩), Value.int .i64 (((l')[(x2_).toNat]!).2.2.1), Value.int .i64 (((l')[(x2_).toNat]!).2.2.2.1), U (hi (((l')[(x2_).toNat]!).2.2.2.2.1)), U (lo (((l')[(x2_).toNat]!).2.2.2.2.1)), Value.int .i64 (((l')[(x2_).toNat]!).2.2.2.2.2)])], S27]) [0, 1] rfl rfl ?_
        refine lx_nil ?_
        refine hK12 _ _ ?_; try clear hK12 K12
        refine A_reg ?_
        replace hM := ck_some hM; obtain ⟨ck29, hM⟩ := hM
        refine r_v (Value.int .i64 ((x2_ + 1))) rfl rfl (wi64 rfl ck29.1 ck29.2) rfl ?_
        refine r_v (Value.int .i64 ((x2_ + 1))) rfl rfl rfl rfl ?_
        refine lx_nil ?_
        refine fg _ (Sub.pick [[(b15, 47, #[Value.int .i64 (((l')[(x2_).toNat]!).1), Value.string (⟨(((l')[(x2_).toNat]!).2.1).toArray⟩), Value.int .i64 (((l')[(x2_).toNat]!).2.2.1), Value.int .i64 (((l')[(x2_).toNat]!).2.2.2.1), U (hi (((l')[(x2_).toNat]!).2.2.2.2.1)), U (lo (((l')[(x2_).toNat]!).2.2.2.2.1)), Value.int .i64 (((l')[(x2_).toNat]!).2.2.2.2.2)])], S27] [1] rfl) ?_
        exact ⟨n8 + 1, by omega, n8, r25.2, (x2_ + 1), hM, S27, H28, is_mk rfl rfl, rfl⟩
      · replace hM := ifn (of_decide_eq_false hc18) hM
        refine A_skip ?_
        refine hK16 _ _ ?_; try clear hK16 K16
        refine A_regC [(some 17, false), (some 18, true)] (conG Tryd.prog [(17, fun v_ L_ U_ => ∀ u0_, lex_Text_m N (((l')[(x2_).toNat]!).1) (((l')[(x2_).toNat]!).2.1) (((l')[(x2_).toNat]!).2.2.1) (((l')[(x2_).toNat]!).2.2.2.1) (((l')[(x2_).toNat]!).2.2.2.2.1) (((l')[(x2_).toNat]!).2.2.2.2.2) = some u0_ → (pV (Value.string (⟨(u0_).toArray⟩))) v_ L_ U_), (18, fun v_ L_ U_ => ∀ u0_, lex_Text_m N (((l')[(x2_).toNat]!).1) (((l')[(x2_).toNat]!).2.1) (((l')[(x2_).toNat]!).2.2.1) (((l')[(x2_).toNat]!).2.2.2.1) (((l')[(x2_).toNat]!).2.2.2.2.1) (((l')[(x2_).toNat]!).2.2.2.2.2) = some u0_ → ∀ u1_, strings_Builder_WriteString_v2b_m N Valuep1_ u0_ = some u1_ → (pO (List.flatten [SValuep1_]) (oIB 66 5 (Value.pointer (some ⟨b3, 0, none⟩)) u1_.2 (oE (Value.tuple #[Value.int .i64 (u1_.1), Value.nilIface]) []))) v_ L_ U_)]) ?_
        refine r_l (Value.agg #[Value.int .i64 (((l')[(x2_).toNat]!).1), Value.string (⟨(((l')[(x2_).toNat]!).2.1).toArray⟩), Value.int .i64 (((l')[(x2_).toNat]!).2.2.1), Value.int .i64 (((l')[(x2_).toNat]!).2.2.2.1), U (hi (((l')[(x2_).toNat]!).2.2.2.2.1)), U (lo (((l')[(x2_).toNat]!).2.2.2.2.1)), Value.int .i64 (((l')[(x2_).toNat]!).2.2.2.2.2)]) 0 _ _ _ _ rfl rfl rfl rfl rfl ?_
        replace hM := bind_sm hM; obtain ⟨r30, hr31, hM⟩ := hM
        refine r_gv (Value.string (⟨(r30).toArray⟩)) 13 _ rfl rfl rfl (ev_callF rfl call_13 rfl) (fun own_ nw_ hs_ => lex_Text_g N (((l')[(x2_).toNat]!).1) (((l')[(x2_).toNat]!).2.1) (((l')[(x2_).toNat]!).2.2.1) (((l')[(x2_).toNat]!).2.2.2.1) (((l')[(x2_).toNat]!).2.2.2.2.1) (((l')[(x2_).toNat]!).2.2.2.2.2) _ hr31 hs_.view ) (fun _ _ v_ L_ U_ => ⟨fun h_ => h_ _ hr31, fun h_ => by intro _ e_; cases Option.some.inj (e_.symm.trans hr31); exact h_⟩) ?_
        replace hM := bind_sm hM; obtain ⟨r32, hr33, hM⟩ := hM
        refine r_gm (Ls := [[(b15, 47, #[Value.int .i64 (((l')[(x2_).toNat]!).1), Value.string (⟨(((l')[(x2_).toNat]!).2.1).toArray⟩), Value.int .i64 (((l')[(x2_).toNat]!).2.2.1), Value.int .i64 (((l')[(x2_).toNat]!).2.2.2.1), U (hi (((l')[(x2_).toNat]!).2.2.2.2.1)), U (lo (((l')[(x2_).toNat]!).2.2.2.2.1)), Value.int .i64 (((l')[(x2_).toNat]!).2.2.2.2.2)])], SValuep1_]) (FL := [SValuep1_]) (RL := [[(b15, 47, #[Value.int .i64 (((l')[(x2_).toNat]!).1), Value.string (⟨(((l')[(x2_).toNat]!).2.1).toArray⟩), Value.int .i64 (((l')[(x2_).toNat]!).2.2.1), Value.int .i64 (((l')[(x2_).toNat]!).2.2.2.1), U (hi (((l')[(x2_).toNat]!).2.2.2.2.1)), U (lo (((l')[(x2_).toNat]!).2.2.2.2.1)), Value.int .i64 (((l')[(x2_).toNat]!).2.2.2.2.2)])]]) [1] (oIB 66 5 (Value.pointer (some ⟨b3, 0, none⟩)) r32.2 (oE (Value.tuple #[Value.int .i64 (r32.1), Value.nilIface]) [])) (some 18) 28 _ rfl rfl rfl rfl rfl (ev_callF rfl call_28 rfl) (fun own_ nw_ hn_ hs_ => (Does.inv (strings_Builder_WriteString_v2b_g N Valuep1_ r30 _ hr33 _ (Value.pointer (some ⟨b3, 0, none⟩)) SValuep1_ hValuep1_) _)) (fun _ _ v_ L_ U_ => ⟨fun h_ => h_ _ hr31 _ hr33, fun h_ => by intro _ e_; cases Option.some.inj (e_.symm.trans hr31); intro _ e_; cases Option.some.inj (e_.symm.trans hr33); exact h_⟩) (fun h_ => nomatch h_) ?_
        rintro _ _ ⟨S34, _, H35, ⟨rfl, rfl⟩, rfl⟩
        refine lx_perm (Ls := [[(b15, 47, #[Value.int .i64 (((l')[(x2_).toNat]!).1), Value.string (⟨(((l')[(x2_).toNat]!).2.1).toArray⟩), Value.int .i64 (((l')[(x2_).toNat]!).2.2.1), Value.int .i64 (((l')[(x2_).toNat]!).2.2.2.1), U (hi (((l')[(x2_).toNat]!).2.2.2.2.1)), U (lo (((l')[(x2_).toNat]!).2.2.2.2.1)), Value.int .i64 (((l')[(x2_).toNat]!).2.2.2.2.2)])], S34]) (Ls' := [[(b15, 47, #[Value.int .i64 (((l')[(x2_).toNat]!).1), Value.string (⟨(((l')[(x2_).toNat]!).2.1).toArray⟩), Value.int .i64 (((l')[(x2_).toNat]!).2.2.1), Value.int .i64 (((l')[(x2_).toNat]!).2.2.2.1), U (hi (((l')[(x2_).toNat]!).2.2.2.2.1)), U (lo (((l')[(x2_).toNat]!).2.2.2.2.1)), Value.int .i64 (((l')[(x2_).toNat]!).2.2.2.2.2)])], S34]) [0, 1] rfl rfl ?_
        refine lx_nil ?_
        refine hK12 _ _ ?_; try clear hK12 K12
        refine A_reg ?_
        replace hM := ck_some hM; obtain ⟨ck36, hM⟩ := hM
        refine r_v (Value.int .i64 ((x2_ + 1))) rfl rfl (wi64 rfl ck36.1 ck36.2) rfl ?_
        refine r_v (Value.int .i64 ((x2_ + 1))) rfl rfl rfl rfl ?_
        refine lx_nil ?_
        refine fg _ (Sub.pick [[(b15, 47, #[Value.int .i64 (((l')[(x2_).toNat]!).1), Value.string (⟨(((l')[(x2_).toNat]!).2.1).toArray⟩), Value.int .i64 (((l')[(x2_).toNat]!).2.2.1), Value.int .i64 (((l')[(x2_).toNat]!).2.2.2.1), U (hi (((l')[(x2_).toNat]!).2.2.2.2.1)), U (lo (((l')[(x2_).toNat]!).2.2.2.2.1)), Value.int .i64 (((l')[(x2_).toNat]!).2.2.2.2.2)])], S34] [1] rfl) ?_
        exact ⟨n8 + 1, by omega, n8, r32.2, (x2_ + 1), hM, S34, H35, is_mk rfl rfl, rfl⟩
    · replace hM := ifn (of_decide_eq_false hc11) hM
      refine A_exit ?_
      refine hK6 _ _ ?_; try clear hK6 K6
      refine A_seq fun K37 hK37 => ?_
      refine A_regC [(some 20, true)] (conG Tryd.prog [(20, fun v_ L_ U_ => ∀ u0_, strings_Builder_String_v2b_m N Valuep1_ = some u0_ → (pO (List.flatten [SValuep1_]) (oE (Value.string (⟨(u0_).toArray⟩)) [])) v_ L_ U_)]) ?_
      replace hM := bind_sm hM; obtain ⟨r38, hr39, hM⟩ := hM
      refine r_gm (Ls := [SValuep1_]) (FL := [SValuep1_]) (RL := []) [0] (oE (Value.string (⟨(r38).toArray⟩)) []) (some 20) 29 _ rfl rfl rfl rfl rfl (ev_callF rfl call_29 rfl) (fun own_ nw_ hn_ hs_ => (Does.inv (strings_Builder_String_v2b_g N Valuep1_ _ hr39 _ (Value.pointer (some ⟨b3, 0, none⟩)) SValuep1_ hValuep1_) _)) (fun _ _ v_ L_ U_ => ⟨fun h_ => h_ _ hr39, fun h_ => by intro _ e_; cases Option.some.inj (e_.symm.trans hr39); exact h_⟩) (fun h_ => nomatch h_) ?_
      rintro _ _ ⟨rfl, rfl⟩
      refine lx_perm (Ls := []) (Ls' := []) [] rfl rfl ?_
      refine r_v (Value.string (⟨(r38).toArray⟩)) rfl rfl rfl rfl ?_
      refine lx_nil ?_
      refine hK37 _ _ ?_; try clear hK37 K37
      obtain rfl := Option.some.inj hM
      refine A_ret (fun hn => endsV (v0 := Value.string (⟨(r38).toArray⟩)) rfl (res1 rfl))
end Go.Proofs.YtmdjifehblijkaaDoor
