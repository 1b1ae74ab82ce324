/- models of functions and their walks -/
import Derived.Test.YtolfjcihohjknaaUt
import Derived.Test.YtolfjcihohjknaaBase
namespace Go.Proofs.Ytolfjcihohjknaa
open Go Go.RowKit Go.Eng
def encr_22 : EncR (List UInt8) := ⟨fun c x vs => ∃ (s0 : Value), Rd encY c s0 x ∧ vs = [s0], 1, by decide, fun hc ⟨s0, h0, hv⟩ => ⟨s0, h0.mono hc, hv⟩⟩
def sum_word_m (_ : Nat) (first : UInt8) (second : UInt8) : Option (BitVec 64) := some (((BitVec.ofNat 64 first.toNat <<< 8) ||| BitVec.ofNat 64 second.toNat))
set_option maxRecDepth 100000 in
set_option maxHeartbeats 400000 in
theorem sum_word_g (N : Nat) (first : UInt8) (second : UInt8) (r : BitVec 64) (hM : sum_word_m N first second = some r) : Gives Try.prog 21 #[Value.int .u8 (((first.toNat : Nat) : Int)), Value.int .u8 (((second.toNat : Nat) : Int))] (U (r)) := by
  unfold sum_word_m at hM
  refine gives_of_A follows Try.func21 rfl 11 rfl (upd (upd (fun _ => undef) 1 (Value.int .u8 (((second.toNat : Nat) : Int)))) 0 (Value.int .u8 (((first.toNat : Nat) : Int)))) (by funext k; match k with | 0 => rfl | 1 => rfl | k + 2 => rfl) (fun base0_ => ?_)
  refine A_seq fun K1 hK1 => ?_
  refine A_reg ?_
  refine r_v (U (0#64)) rfl rfl rfl rfl ?_
  refine lx_nil ?_
  refine hK1 _ _ ?_; try clear hK1 K1
  refine A_seq fun K2 hK2 => ?_
  refine A_reg ?_
  refine r_v (Value.int .u8 (((first.toNat : Nat) : Int))) rfl rfl rfl rfl ?_
  refine r_w (U (BitVec.ofNat 64 first.toNat)) rfl rfl (u8_u64 first) (fun _ => rfl) ?_
  refine r_v (U ((BitVec.ofNat 64 first.toNat <<< 8))) rfl rfl (U_shl (BitVec.ofNat 64 first.toNat) 8) (ev_shl rfl rfl) ?_
  refine r_v (Value.int .u8 (((second.toNat : Nat) : Int))) rfl rfl rfl rfl ?_
  refine r_w (U (BitVec.ofNat 64 second.toNat)) rfl rfl (u8_u64 second) (fun _ => rfl) ?_
  refine r_v (U (((BitVec.ofNat 64 first.toNat <<< 8) ||| BitVec.ofNat 64 second.toNat))) rfl rfl (U_or ((BitVec.ofNat 64 first.toNat <<< 8)) (BitVec.ofNat 64 second.toNat)) rfl ?_
  refine r_v (U (((BitVec.ofNat 64 first.toNat <<< 8) ||| BitVec.ofNat 64 second.toNat))) rfl rfl rfl rfl ?_
  refine lx_nil ?_
  refine hK2 _ _ ?_; try clear hK2 K2
  obtain rfl := Option.some.inj hM
  refine A_ret (fun hn => ends_eq (v0 := U (((BitVec.ofNat 64 first.toNat <<< 8) ||| BitVec.ofNat 64 second.toNat))) rfl (res1 rfl))
def sum_fold_l2  : Nat → BitVec 64 → Option (UInt16)
  | 0, _ => none
  | n3 + 1, n1_ => if (65535#64) < (n1_) then (sum_fold_l2 n3) (((n1_ >>> 16) + (n1_ &&& 65535#64))) else some ((wrd16 (n1_)))
def sum_fold_m (N : Nat) (n : BitVec 64) : Option (UInt16) := sum_fold_l2 N (n)
set_option maxRecDepth 100000 in
set_option maxHeartbeats 400000 in
theorem sum_fold_g (N : Nat) (n : BitVec 64) (r : UInt16) (hM : sum_fold_m N n = some r) : Gives Try.prog 22 #[U (n)] (Value.int .u16 (((r.toNat : Nat) : Int))) := by
  unfold sum_fold_m at hM
  refine gives_of_A follows Try.func22 rfl 12 rfl (upd (fun _ => undef) 0 (U (n))) (by funext k; match k with | 0 => rfl | k + 1 => rfl) (fun base0_ => ?_)
  refine A_seq fun K1 hK1 => ?_
  refine A_reg ?_
  refine r_v (Value.int .u16 (0)) rfl rfl rfl rfl ?_
  refine lx_nil ?_
  refine hK1 _ _ ?_; try clear hK1 K1
  refine A_seq fun K2 hK2 => ?_
  refine A_block ?_
  refine A_loop (fun tt ll nn => ∃ (n3 : Nat) (n1_ : BitVec 64), (sum_fold_l2 n3 n1_ = some r) ∧ Is [(0, U (n1_))] [] tt ll ∧ nn = n3 + 1) (N + 1) ?_ ?_
  · exact ⟨N, n, hM, is_mk rfl rfl, rfl⟩
  · clear hM; rintro t l _ ⟨n3, n1_, hM, ⟨⟨T, rfl⟩, rfl⟩, rfl⟩
    rcases n3 with _ | n3
    · exact absurd hM (by simp [sum_fold_l2])
    rw [sum_fold_l2] at hM
    refine A_seq fun K4 hK4 => ?_
    refine A_seq fun K5 hK5 => ?_
    refine A_reg ?_
    refine r_v (U (n1_)) rfl rfl rfl rfl ?_
    refine r_v (Value.bool (decide ((65535#64) < (n1_)))) rfl rfl (U_lt (65535#64) (n1_)) rfl ?_
    refine lx_nil ?_
    refine hK5 _ _ ?_; try clear hK5 K5
    refine A_cond (decide ((65535#64) < (n1_))) rfl (fun hc6 => ?_) (fun hc6 => ?_)
    · replace hM := ifp (of_decide_eq_true hc6) hM
      refine A_skip ?_
      refine hK4 _ _ ?_; try clear hK4 K4
      refine A_block ?_
      refine A_reg ?_
      refine r_v (U (n1_)) rfl rfl rfl rfl ?_
      refine r_v (U ((n1_ >>> 16))) rfl rfl (U_shr (n1_) 16) (ev_shr rfl rfl) ?_
      refine r_v (U (n1_)) rfl rfl rfl rfl ?_
      refine r_v (U ((n1_ &&& 65535#64))) rfl rfl (U_and (n1_) (65535#64)) rfl ?_
      refine r_v (U (((n1_ >>> 16) + (n1_ &&& 65535#64)))) rfl rfl (U_add ((n1_ >>> 16)) ((n1_ &&& 65535#64))) rfl ?_
      refine r_v (U (((n1_ >>> 16) + (n1_ &&& 65535#64)))) rfl rfl rfl rfl ?_
      refine lx_nil ?_
      refine fg _ (Sub.of (List.Sublist.slnil)) ?_
      exact ⟨n3 + 1, by omega, n3, ((n1_ >>> 16) + (n1_ &&& 65535#64)), hM, is_mk rfl rfl, rfl⟩
    · replace hM := ifn (of_decide_eq_false hc6) hM
      refine A_exit ?_
      refine hK2 _ _ ?_; try clear hK2 K2
      refine A_seq fun K7 hK7 => ?_
      refine A_reg ?_
      refine r_v (U (n1_)) rfl rfl rfl rfl ?_
      refine r_w (Value.int .u16 ((((wrd16 (n1_)).toNat : Nat) : Int))) rfl rfl (Z16_word (n1_)) (fun _ => rfl) ?_
      refine r_v (Value.int .u16 ((((wrd16 (n1_)).toNat : Nat) : Int))) rfl rfl rfl rfl ?_
      refine lx_nil ?_
      refine hK7 _ _ ?_; try clear hK7 K7
      obtain rfl := Option.some.inj hM
      refine A_ret (fun hn => ends_eq (v0 := Value.int .u16 ((((wrd16 (n1_)).toNat : Nat) : Int))) rfl (res1 rfl))
def sum_Adder_keep_v1_m (_ : Nat) (a_0 : UInt16) (_ : UInt8) (_ : Bool) (rest : List UInt8) : Option (UInt16 × UInt8 × Bool) := if (((rest).length : Int) : Int) > 0 then ck (0 ≤ (0 : Int) ∧ (0 : Int) < ((rest).length : Int)) (some (a_0, ((rest)[((0 : Int)).toNat]!), decide ((((rest).length : Int) : Int) > 0))) else some (a_0, (0 : UInt8), decide ((((rest).length : Int) : Int) > 0))
set_option maxRecDepth 100000 in
set_option maxHeartbeats 400000 in
theorem sum_Adder_keep_v1_g (N : Nat) (a_0 : UInt16) (a_1 : UInt8) (a_2 : Bool) (rest : List UInt8) (r : UInt16 × UInt8 × Bool) (hM : sum_Adder_keep_v1_m N a_0 a_1 a_2 rest = some r) (ro : Addr → Option Value) (ba : Nat) (restv : Value) (hrest : Rd encY ro restv rest) : Does Try.prog 23 #[Value.pointer (some ⟨ba, 0, none⟩), restv] ro [(ba, 26, #[Value.int .u16 (((a_0.toNat : Nat) : Int)), Value.int .u8 (((a_1.toNat : Nat) : Int)), Value.bool (a_2)])] (pO [(ba, 26, #[Value.int .u16 (((a_0.toNat : Nat) : Int)), Value.int .u8 (((a_1.toNat : Nat) : Int)), Value.bool (a_2)])] (oE (Value.tuple #[]) [[(ba, 26, #[Value.int .u16 (((r.1.toNat : Nat) : Int)), Value.int .u8 (((r.2.1.toNat : Nat) : Int)), Value.bool (r.2.2)])]])) := by
  unfold sum_Adder_keep_v1_m at hM
  refine doesO_of_A follows Try.func23 rfl 23 rfl (upd (upd (fun _ => undef) 1 (restv)) 0 (Value.pointer (some ⟨ba, 0, none⟩))) (by funext k; match k with | 0 => rfl | 1 => rfl | k + 2 => rfl) (fun _ _ h_ _ => h_) (fun base0_ => ?_)
  refine A_seq fun K1 hK1 => ?_
  refine A_reg ?_
  refine r_v (Value.pointer (some ⟨ba, 0, none⟩)) rfl rfl rfl rfl ?_
  refine r_v (Value.pointer (some ⟨ba, 0, none⟩)) rfl rfl rfl rfl ?_
  refine r_v (restv) rfl rfl rfl rfl ?_
  refine r_v (Value.int .i64 (((rest).length : Int))) rfl rfl rfl (ev_lenSl rfl rfl rfl (Rd.shp hrest)) ?_
  refine r_v (Value.bool (decide ((((rest).length : Int) : Int) > 0))) rfl rfl rfl rfl ?_
  refine r_v (Value.pointer (some ⟨ba, 0, none⟩)) rfl rfl rfl rfl ?_
  refine r_v (Value.pointer (some ⟨ba, 1, none⟩)) rfl rfl rfl rfl ?_
  refine r_s [(ba, 26, #[Value.int .u16 (((a_0.toNat : Nat) : Int)), Value.int .u8 (0), Value.bool (a_2)])] 0 _ _ _ (#[Value.int .u16 (((a_0.toNat : Nat) : Int)), Value.int .u8 (((a_1.toNat : Nat) : Int)), Value.bool (a_2)]) (#[Value.int .u8 (0)]) (#[Value.int .u16 (((a_0.toNat : Nat) : Int)), Value.int .u8 (0), Value.bool (a_2)]) rfl rfl rfl rfl (.of rfl rfl) rfl rfl ?_
  refine r_v (Value.pointer (some ⟨ba, 0, none⟩)) rfl rfl rfl rfl ?_
  refine r_v (Value.pointer (some ⟨ba, 2, none⟩)) rfl rfl rfl rfl ?_
  refine r_s [(ba, 26, #[Value.int .u16 (((a_0.toNat : Nat) : Int)), Value.int .u8 (0), Value.bool (decide ((((rest).length : Int) : Int) > 0))])] 0 _ _ _ (#[Value.int .u16 (((a_0.toNat : Nat) : Int)), Value.int .u8 (0), Value.bool (a_2)]) (#[Value.bool (decide ((((rest).length : Int) : Int) > 0))]) (#[Value.int .u16 (((a_0.toNat : Nat) : Int)), Value.int .u8 (0), Value.bool (decide ((((rest).length : Int) : Int) > 0))]) rfl rfl rfl rfl (.of rfl rfl) rfl rfl ?_
  refine lx_nil ?_
  refine hK1 _ _ ?_; try clear hK1 K1
  refine A_seq fun K2 hK2 => ?_
  refine A_reg ?_
  refine r_v (Value.pointer (some ⟨ba, 0, none⟩)) rfl rfl rfl rfl ?_
  refine r_v (Value.pointer (some ⟨ba, 0, none⟩)) rfl rfl rfl rfl ?_
  refine r_v (Value.pointer (some ⟨ba, 2, none⟩)) rfl rfl rfl rfl ?_
  refine r_l (Value.bool (decide ((((rest).length : Int) : Int) > 0))) 0 _ _ _ _ rfl rfl rfl rfl rfl ?_
  refine lx_nil ?_
  refine hK2 _ _ ?_; try clear hK2 K2
  refine A_cond (decide ((((rest).length : Int) : Int) > 0)) rfl (fun hc3 => ?_) (fun hc3 => ?_)
  · replace hM := ifp (of_decide_eq_true hc3) hM
    refine A_reg ?_
    refine r_v (Value.pointer (some ⟨ba, 0, none⟩)) rfl rfl rfl rfl ?_
    refine r_v (restv) rfl rfl rfl rfl ?_
    replace hM := ck_some hM; obtain ⟨ck4, hM⟩ := hM
    refine r_v (elA restv (((0 : Int)).toNat * 1)) rfl rfl rfl (ev_v (ev_idxSl rfl rfl rfl (Rd.shp hrest) ck4)) ?_
    refine r_le (Value.int .u8 (((((rest)[((0 : Int)).toNat]!).toNat : Nat) : Int))) (En := encY) ((rest)[((0 : Int)).toNat]!) (((0 : Int)).toNat) 0 rfl rfl (rd_ro hrest) (get_of ck4) rfl ?_
    refine r_v (Value.pointer (some ⟨ba, 0, none⟩)) rfl rfl rfl rfl ?_
    refine r_v (Value.pointer (some ⟨ba, 1, none⟩)) rfl rfl rfl rfl ?_
    refine r_s [(ba, 26, #[Value.int .u16 (((a_0.toNat : Nat) : Int)), Value.int .u8 (((((rest)[((0 : Int)).toNat]!).toNat : Nat) : Int)), Value.bool (decide ((((rest).length : Int) : Int) > 0))])] 0 _ _ _ (#[Value.int .u16 (((a_0.toNat : Nat) : Int)), Value.int .u8 (0), Value.bool (decide ((((rest).length : Int) : Int) > 0))]) (#[Value.int .u8 (((((rest)[((0 : Int)).toNat]!).toNat : Nat) : Int))]) (#[Value.int .u16 (((a_0.toNat : Nat) : Int)), Value.int .u8 (((((rest)[((0 : Int)).toNat]!).toNat : Nat) : Int)), Value.bool (decide ((((rest).length : Int) : Int) > 0))]) rfl rfl rfl rfl (.of rfl rfl) rfl rfl ?_
    refine lx_nil ?_
    obtain rfl := Option.some.inj hM
    refine endsN (v0 := Value.tuple #[]) (O := [[(ba, 26, #[Value.int .u16 (((a_0.toNat : Nat) : Int)), Value.int .u8 (((((rest)[((0 : Int)).toNat]!).toNat : Nat) : Int)), Value.bool (decide ((((rest).length : Int) : Int) > 0))])]]) rfl (Sub.pick [[(ba, 26, #[Value.int .u16 (((a_0.toNat : Nat) : Int)), Value.int .u8 (((((rest)[((0 : Int)).toNat]!).toNat : Nat) : Int)), Value.bool (decide ((((rest).length : Int) : Int) > 0))])]] [0] rfl) ⟨rfl, rfl⟩
  · replace hM := ifn (of_decide_eq_false hc3) hM
    refine A_skip ?_
    obtain rfl := Option.some.inj hM
    refine endsN (v0 := Value.tuple #[]) (O := [[(ba, 26, #[Value.int .u16 (((a_0.toNat : Nat) : Int)), Value.int .u8 (0), Value.bool (decide ((((rest).length : Int) : Int) > 0))])]]) rfl (Sub.pick [[(ba, 26, #[Value.int .u16 (((a_0.toNat : Nat) : Int)), Value.int .u8 (0), Value.bool (decide ((((rest).length : Int) : Int) > 0))])]] [0] rfl) ⟨rfl, rfl⟩
def sum_Adder_Add_v1_l7 (N : Nat) (a_1 : UInt8) (a_2 : Bool) (b2_ : List UInt8) : Nat → BitVec 64 → Int → Option (UInt16 × UInt8 × Bool)
  | 0, _, _ => none
  | n5 + 1, n5_, x6_ => if (x6_ : Int) < (((b2_).length : Int)) / 2 then ck ((-9223372036854775808 ≤ (2 * x6_) ∧ (2 * x6_) ≤ 9223372036854775807)) (ck (0 ≤ (2 * x6_) ∧ (2 * x6_) < ((b2_).length : Int)) (ck ((-9223372036854775808 ≤ (2 * x6_) ∧ (2 * x6_) ≤ 9223372036854775807)) (ck ((-9223372036854775808 ≤ ((2 * x6_) + 1) ∧ ((2 * x6_) + 1) ≤ 9223372036854775807)) (ck (0 ≤ ((2 * x6_) + 1) ∧ ((2 * x6_) + 1) < ((b2_).length : Int)) ((sum_word_m N ((b2_)[((2 * x6_)).toNat]!) ((b2_)[(((2 * x6_) + 1)).toNat]!)).bind fun r16 => ck ((-9223372036854775808 ≤ (x6_ + 1) ∧ (x6_ + 1) ≤ 9223372036854775807)) ((sum_Adder_Add_v1_l7 N a_1 a_2 b2_ n5) ((n5_ + r16)) ((x6_ + 1)))))))) else (sum_fold_m N n5_).bind fun r20 => ck (0 ≤ ((b2_).length : Int) ∧ ((b2_).length : Int) ≤ 9223372036854775807) (ck ((-9223372036854775808 ≤ ((((b2_).length : Int)) / 2 * 2) ∧ ((((b2_).length : Int)) / 2 * 2) ≤ 9223372036854775807)) (ck (0 ≤ ((((b2_).length : Int)) / 2 * 2) ∧ ((((b2_).length : Int)) / 2 * 2) ≤ ((b2_).length : Int)) ((sum_Adder_keep_v1_m N r20 a_1 a_2 (((b2_).take ((b2_).length)).drop ((((((b2_).length : Int)) / 2 * 2)).toNat))).bind fun r25 => some (r25.1, r25.2.1, r25.2.2))))
def sum_Adder_Add_v1_k4 (N : Nat) (a_1 : UInt8) (a_2 : Bool) (b2_ : List UInt8) (n3_ : BitVec 64) : Option (UInt16 × UInt8 × Bool) := ck (0 ≤ ((b2_).length : Int) ∧ ((b2_).length : Int) ≤ 9223372036854775807) (sum_Adder_Add_v1_l7 N a_1 a_2 b2_ N (n3_) (0))
def sum_Adder_Add_v1_k1 (N : Nat) (a_0 : UInt16) (a_1 : UInt8) (a_2 : Bool) (b : List UInt8) : Option (UInt16 × UInt8 × Bool) := if (a_2) = true then ck (0 ≤ (0 : Int) ∧ (0 : Int) < ((b).length : Int)) ((sum_word_m N a_1 ((b)[((0 : Int)).toNat]!)).bind fun r31 => ck (0 ≤ (1 : Int) ∧ (1 : Int) ≤ ((b).length : Int)) (sum_Adder_Add_v1_k4 N a_1 a_2 (((b).take ((b).length)).drop (((1 : Int)).toNat)) ((BitVec.ofNat 64 a_0.toNat + r31)))) else sum_Adder_Add_v1_k4 N a_1 a_2 (b) (BitVec.ofNat 64 a_0.toNat)
def sum_Adder_Add_v1_m (N : Nat) (a_0 : UInt16) (a_1 : UInt8) (a_2 : Bool) (b : List UInt8) : Option (UInt16 × UInt8 × Bool) := if (((b).length : Int) : Int) = 0 then some (a_0, a_1, a_2) else sum_Adder_Add_v1_k1 N a_0 a_1 a_2 b 
set_option maxRecDepth 100000 in
set_option maxHeartbeats 400000 in
theorem sum_Adder_Add_v1_g (N : Nat) (a_0 : UInt16) (a_1 : UInt8) (a_2 : Bool) (b : List UInt8) (r : UInt16 × UInt8 × Bool) (hM : sum_Adder_Add_v1_m N a_0 a_1 a_2 b = some r) (ro : Addr → Option Value) (ba : Nat) (bv : Value) (hb : Rd encY ro bv b) : Does Try.prog 9 #[Value.pointer (some ⟨ba, 0, none⟩), bv] ro [(ba, 26, #[Value.int .u16 (((a_0.toNat : Nat) : Int)), Value.int .u8 (((a_1.toNat : Nat) : Int)), Value.bool (a_2)])] (pO [(ba, 26, #[Value.int .u16 (((a_0.toNat : Nat) : Int)), Value.int .u8 (((a_1.toNat : Nat) : Int)), Value.bool (a_2)])] (oE (Value.tuple #[]) [[(ba, 26, #[Value.int .u16 (((r.1.toNat : Nat) : Int)), Value.int .u8 (((r.2.1.toNat : Nat) : Int)), Value.bool (r.2.2)])]])) := by
  unfold sum_Adder_Add_v1_m at hM
  refine doesO_of_A follows Try.func9 rfl 68 rfl (upd (upd (fun _ => undef) 1 (bv)) 0 (Value.pointer (some ⟨ba, 0, none⟩))) (by funext k; match k with | 0 => rfl | 1 => rfl | k + 2 => rfl) (fun _ _ h_ _ => h_) (fun base0_ => ?_)
  refine A_cut (fun tt ll => (sum_Adder_Add_v1_k1 N a_0 a_1 a_2 b  = some r) ∧ Is [(0, Value.pointer (some ⟨ba, 0, none⟩)), (1, bv)] [(ba, 26, #[Value.int .u16 (((a_0.toNat : Nat) : Int)), Value.int .u8 (((a_1.toNat : Nat) : Int)), Value.bool (a_2)])] tt ll) ?_ ?_
  · refine A_seq fun K34 hK34 => ?_
    refine A_reg ?_
    refine r_v (Value.pointer (some ⟨ba, 0, none⟩)) rfl rfl rfl rfl ?_
    refine r_v (Value.bool (false)) rfl rfl rfl rfl ?_
    refine r_v (Value.bool (false)) rfl rfl rfl rfl ?_
    refine r_y rfl ?_
    refine r_v (bv) rfl rfl rfl rfl ?_
    refine r_y rfl ?_
    refine r_v (Value.int .i64 (((b).length : Int))) rfl rfl rfl (ev_lenSl rfl rfl rfl (Rd.shp hb)) ?_
    refine r_y rfl ?_
    refine r_v (Value.bool (((((b).length : Int) : Int) == 0))) rfl rfl rfl rfl ?_
    refine r_v (Value.bool (((((b).length : Int) : Int) == 0))) rfl rfl rfl rfl ?_
    refine lx_nil ?_
    refine hK34 _ _ ?_; try clear hK34 K34
    refine A_cond (((((b).length : Int) : Int) == 0)) rfl (fun hc35 => ?_) (fun hc35 => ?_)
    · replace hM := ifp (eq_of_beq hc35) hM
      obtain rfl := Option.some.inj hM
      refine A_ret (fun hn => endsO (v0 := Value.tuple #[]) (O := [[(ba, 26, #[Value.int .u16 (((a_0.toNat : Nat) : Int)), Value.int .u8 (((a_1.toNat : Nat) : Int)), Value.bool (a_2)])]]) rfl (Sub.pick [[(ba, 26, #[Value.int .u16 (((a_0.toNat : Nat) : Int)), Value.int .u8 (((a_1.toNat : Nat) : Int)), Value.bool (a_2)])]] [0] rfl) ⟨rfl, rfl⟩)
    · replace hM := ifn (ne_of_beq_false hc35) hM
      refine A_skip ?_
      refine fg _ (Sub.of (List.Sublist.cons_cons _ (List.Sublist.slnil))) ?_
      exact ⟨hM, is_mk rfl rfl⟩
  · clear hM; rintro t l ⟨hM, ⟨T, rfl⟩, rfl⟩
    unfold sum_Adder_Add_v1_k1 at hM
    refine A_seq fun K1 hK1 => ?_
    refine A_reg ?_
    refine r_v (Value.pointer (some ⟨ba, 0, none⟩)) rfl rfl rfl rfl ?_
    refine r_v (Value.pointer (some ⟨ba, 0, none⟩)) rfl rfl rfl rfl ?_
    refine r_v (Value.pointer (some ⟨ba, 0, none⟩)) rfl rfl rfl rfl ?_
    refine r_l (Value.int .u16 (((a_0.toNat : Nat) : Int))) 0 _ _ _ _ rfl rfl rfl rfl rfl ?_
    refine r_w (U (BitVec.ofNat 64 a_0.toNat)) rfl rfl (u16_u64 a_0) (fun _ => rfl) ?_
    refine r_v (U (BitVec.ofNat 64 a_0.toNat)) rfl rfl rfl rfl ?_
    refine lx_nil ?_
    refine hK1 _ _ ?_; try clear hK1 K1
    refine A_cut (fun tt ll => ∃ (b2_ : List UInt8) (n3_ : BitVec 64), (sum_Adder_Add_v1_k4 N a_1 a_2 b2_ n3_ = some r) ∧ ∃ (vb2_ : Value), Rd encY ro vb2_ b2_ ∧ Is [(0, Value.pointer (some ⟨ba, 0, none⟩)), (1, vb2_), (4, U (n3_))] [(ba, 26, #[Value.int .u16 (((a_0.toNat : Nat) : Int)), Value.int .u8 (((a_1.toNat : Nat) : Int)), Value.bool (a_2)])] tt ll) ?_ ?_
    · refine A_seq fun K27 hK27 => ?_
      refine A_reg ?_
      refine r_v (Value.pointer (some ⟨ba, 0, none⟩)) rfl rfl rfl rfl ?_
      refine r_v (Value.pointer (some ⟨ba, 0, none⟩)) rfl rfl rfl rfl ?_
      refine r_v (Value.pointer (some ⟨ba, 2, none⟩)) rfl rfl rfl rfl ?_
      refine r_l (Value.bool (a_2)) 0 _ _ _ _ rfl rfl rfl rfl rfl ?_
      refine lx_nil ?_
      refine hK27 _ _ ?_; try clear hK27 K27
      refine A_cond (a_2) rfl (fun hc28 => ?_) (fun hc28 => ?_)
      · replace hM := ifp hc28 hM
        refine A_seq fun K29 hK29 => ?_
        refine A_draw [] (by decide +kernel) (fun hn => sep_nil) ?_
        refine r_v (U (BitVec.ofNat 64 a_0.toNat)) rfl rfl rfl rfl ?_
        refine r_v (Value.pointer (some ⟨ba, 0, none⟩)) rfl rfl rfl rfl ?_
        refine r_v (Value.pointer (some ⟨ba, 0, none⟩)) rfl rfl rfl rfl ?_
        refine r_v (Value.pointer (some ⟨ba, 1, none⟩)) rfl rfl rfl rfl ?_
        refine r_l (Value.int .u8 (((a_1.toNat : Nat) : Int))) 0 _ _ _ _ rfl rfl rfl rfl rfl ?_
        refine r_v (bv) rfl rfl rfl rfl ?_
        replace hM := ck_some hM; obtain ⟨ck30, hM⟩ := hM
        refine r_v (elA bv (((0 : Int)).toNat * 1)) rfl rfl rfl (ev_v (ev_idxSl rfl rfl rfl (Rd.shp hb) ck30)) ?_
        refine r_le (Value.int .u8 (((((b)[((0 : Int)).toNat]!).toNat : Nat) : Int))) (En := encY) ((b)[((0 : Int)).toNat]!) (((0 : Int)).toNat) 0 rfl rfl (rd_ro hb) (get_of ck30) rfl ?_
        replace hM := bind_sm hM; obtain ⟨r31, hr32, hM⟩ := hM
        refine r_c (U (r31)) rfl _ _ (ev_callF rfl call_21 rfl) (sum_word_g N a_1 ((b)[((0 : Int)).toNat]!) _ hr32) ?_
        refine r_v (U ((BitVec.ofNat 64 a_0.toNat + r31))) rfl rfl (U_add (BitVec.ofNat 64 a_0.toNat) (r31)) rfl ?_
        refine r_v (U ((BitVec.ofNat 64 a_0.toNat + r31))) rfl rfl rfl rfl ?_
        refine lx_nil ?_
        refine hK29 _ _ ?_; try clear hK29 K29
        refine A_reg ?_
        refine r_v (bv) rfl rfl rfl rfl ?_
        replace hM := ck_some hM; obtain ⟨ck33, hM⟩ := hM
        refine r_v (subA bv (((1 : Int)).toNat) ((b).length) 1) rfl rfl rfl (ev_v (ev_subSl1 rfl rfl rfl rfl (Rd.shp hb) ck33)) ?_
        refine r_v (subA bv (((1 : Int)).toNat) ((b).length) 1) rfl rfl rfl rfl ?_
        refine lx_nil ?_
        refine fg _ (Sub.of (List.Sublist.cons_cons _ (List.Sublist.slnil))) ?_
        exact ⟨((b).take ((b).length)).drop (((1 : Int)).toNat), (BitVec.ofNat 64 a_0.toNat + r31), hM, subA bv (((1 : Int)).toNat) ((b).length) 1, (Rd.sub hb (toNat_len ck33.2) (Nat.le_refl _)), is_mk rfl rfl⟩
      · replace hM := ifn (Bool.eq_false_iff.1 hc28) hM
        refine A_skip ?_
        refine fg _ (Sub.of (List.Sublist.cons_cons _ (List.Sublist.slnil))) ?_
        exact ⟨b, BitVec.ofNat 64 a_0.toNat, hM, bv, hb, is_mk rfl rfl⟩
    · clear hM; rintro t l ⟨b2_, n3_, hM, vb2_, hb2_, ⟨T, rfl⟩, rfl⟩
      unfold sum_Adder_Add_v1_k4 at hM
      refine A_seq fun K2 hK2 => ?_
      refine A_seq fun K3 hK3 => ?_
      refine A_reg ?_
      refine r_v (vb2_) rfl rfl rfl rfl ?_
      refine r_v (Value.int .i64 (((b2_).length : Int))) rfl rfl rfl (ev_lenSl rfl rfl rfl (Rd.shp hb2_)) ?_
      replace hM := ck_some hM; obtain ⟨ck4, hM⟩ := hM
      refine r_v (Value.int .i64 ((((b2_).length : Int)) / 2)) rfl rfl (quo_i64 ck4.1 (by decide) ck4.2) rfl ?_
      refine r_v (Value.int .i64 (0)) rfl rfl rfl rfl ?_
      refine lx_nil ?_
      refine hK3 _ _ ?_; try clear hK3 K3
      refine A_block ?_
      refine A_loop (fun tt ll nn => ∃ (n5 : Nat) (n5_ : BitVec 64) (x6_ : Int), (sum_Adder_Add_v1_l7 N a_1 a_2 b2_ n5 n5_ x6_ = some r) ∧ Is [(0, Value.pointer (some ⟨ba, 0, none⟩)), (1, vb2_), (4, U (n5_)), (36, Value.int .i64 ((((b2_).length : Int)) / 2)), (37, Value.int .i64 (x6_))] [(ba, 26, #[Value.int .u16 (((a_0.toNat : Nat) : Int)), Value.int .u8 (((a_1.toNat : Nat) : Int)), Value.bool (a_2)])] tt ll ∧ nn = n5 + 1) (N + 1) ?_ ?_
      · exact ⟨N, n3_, 0, hM, is_mk rfl rfl, rfl⟩
      · clear hM; rintro t l _ ⟨n5, n5_, x6_, hM, ⟨⟨T, rfl⟩, rfl⟩, rfl⟩
        rcases n5 with _ | n5
        · exact absurd hM (by simp [sum_Adder_Add_v1_l7])
        rw [sum_Adder_Add_v1_l7] at hM
        refine A_seq fun K6 hK6 => ?_
        refine A_reg ?_
        refine r_v (Value.bool (decide ((x6_ : Int) < (((b2_).length : Int)) / 2))) rfl rfl rfl rfl ?_
        refine lx_nil ?_
        refine hK6 _ _ ?_; try clear hK6 K6
        refine A_seq fun K7 hK7 => ?_
        refine A_cond (decide ((x6_ : Int) < (((b2_).length : Int)) / 2)) rfl (fun hc8 => ?_) (fun hc8 => ?_)
        · replace hM := ifp (of_decide_eq_true hc8) hM
          refine A_skip ?_
          refine hK7 _ _ ?_; try clear hK7 K7
          refine A_seq fun K9 hK9 => ?_
          refine A_block ?_
          refine A_seq fun K10 hK10 => ?_
          refine A_reg ?_
          refine r_v (Value.int .i64 (x6_)) rfl rfl rfl rfl ?_
          refine r_v (Value.int .i64 (x6_)) rfl rfl rfl rfl ?_
          refine lx_nil ?_
          refine hK10 _ _ ?_; try clear hK10 K10
          refine A_draw [] (by decide +kernel) (fun hn => sep_nil) ?_
          refine r_v (U (n5_)) rfl rfl rfl rfl ?_
          refine r_v (vb2_) rfl rfl rfl rfl ?_
          refine r_v (Value.int .i64 (x6_)) rfl rfl rfl rfl ?_
          replace hM := ck_some hM; obtain ⟨ck11, hM⟩ := hM
          refine r_v (Value.int .i64 ((2 * x6_))) rfl rfl (wi64 rfl ck11.1 ck11.2) rfl ?_
          replace hM := ck_some hM; obtain ⟨ck12, hM⟩ := hM
          refine r_v (elA vb2_ (((2 * x6_)).toNat * 1)) rfl rfl rfl (ev_v (ev_idxSl rfl rfl rfl (Rd.shp hb2_) ck12)) ?_
          refine r_le (Value.int .u8 (((((b2_)[((2 * x6_)).toNat]!).toNat : Nat) : Int))) (En := encY) ((b2_)[((2 * x6_)).toNat]!) (((2 * x6_)).toNat) 0 rfl rfl (rd_ro hb2_) (get_of ck12) rfl ?_
          refine r_v (vb2_) rfl rfl rfl rfl ?_
          refine r_v (Value.int .i64 (x6_)) rfl rfl rfl rfl ?_
          replace hM := ck_some hM; obtain ⟨ck13, hM⟩ := hM
          refine r_v (Value.int .i64 ((2 * x6_))) rfl rfl (wi64 rfl ck13.1 ck13.2) rfl ?_
          replace hM := ck_some hM; obtain ⟨ck14, hM⟩ := hM
          refine r_v (Value.int .i64 (((2 * x6_) + 1))) rfl rfl (wi64 rfl ck14.1 ck14.2) rfl ?_
          replace hM := ck_some hM; obtain ⟨ck15, hM⟩ := hM
          refine r_v (elA vb2_ ((((2 * x6_) + 1)).toNat * 1)) rfl rfl rfl (ev_v (ev_idxSl rfl rfl rfl (Rd.shp hb2_) ck15)) ?_
          refine r_le (Value.int .u8 (((((b2_)[(((2 * x6_) + 1)).toNat]!).toNat : Nat) : Int))) (En := encY) ((b2_)[(((2 * x6_) + 1)).toNat]!) ((((2 * x6_) + 1)).toNat) 0 rfl rfl (rd_ro hb2_) (get_of ck15) rfl ?_
          replace hM := bind_sm hM; obtain ⟨r16, hr17, hM⟩ := hM
          refine r_c (U (r16)) rfl _ _ (ev_callF rfl call_21 rfl) (sum_word_g N ((b2_)[((2 * x6_)).toNat]!) ((b2_)[(((2 * x6_) + 1)).toNat]!) _ hr17) ?_
          refine r_v (U ((n5_ + r16))) rfl rfl (U_add (n5_) (r16)) rfl ?_
          refine r_v (U ((n5_ + r16))) rfl rfl rfl rfl ?_
          refine lx_nil ?_
          refine hK9 _ _ ?_; try clear hK9 K9
          refine A_reg ?_
          replace hM := ck_some hM; obtain ⟨ck18, hM⟩ := hM
          refine r_v (Value.int .i64 ((x6_ + 1))) rfl rfl (wi64 rfl ck18.1 ck18.2) rfl ?_
          refine r_v (Value.int .i64 ((x6_ + 1))) rfl rfl rfl rfl ?_
          refine lx_nil ?_
          refine fg _ (Sub.of (List.Sublist.cons_cons _ (List.Sublist.slnil))) ?_
          exact ⟨n5 + 1, by omega, n5, (n5_ + r16), (x6_ + 1), hM, is_mk rfl rfl, rfl⟩
        · replace hM := ifn (of_decide_eq_false hc8) hM
          refine A_exit ?_
          refine hK2 _ _ ?_; try clear hK2 K2
          refine A_seq fun K19 hK19 => ?_
          refine A_reg ?_
          refine r_v (Value.pointer (some ⟨ba, 0, none⟩)) rfl rfl rfl rfl ?_
          refine r_v (U (n5_)) rfl rfl rfl rfl ?_
          replace hM := bind_sm hM; obtain ⟨r20, hr21, hM⟩ := hM
          refine r_c (Value.int .u16 (((r20.toNat : Nat) : Int))) rfl _ _ (ev_callF rfl call_22 rfl) (sum_fold_g N n5_ _ hr21) ?_
          refine r_v (Value.pointer (some ⟨ba, 0, none⟩)) rfl rfl rfl rfl ?_
          refine r_v (Value.pointer (some ⟨ba, 0, none⟩)) rfl rfl rfl rfl ?_
          refine r_s [(ba, 26, #[Value.int .u16 (((r20.toNat : Nat) : Int)), Value.int .u8 (((a_1.toNat : Nat) : Int)), Value.bool (a_2)])] 0 _ _ _ (#[Value.int .u16 (((a_0.toNat : Nat) : Int)), Value.int .u8 (((a_1.toNat : Nat) : Int)), Value.bool (a_2)]) (#[Value.int .u16 (((r20.toNat : Nat) : Int))]) (#[Value.int .u16 (((r20.toNat : Nat) : Int)), Value.int .u8 (((a_1.toNat : Nat) : Int)), Value.bool (a_2)]) rfl rfl rfl rfl (.of rfl rfl) rfl rfl ?_
          refine lx_nil ?_
          refine hK19 _ _ ?_; try clear hK19 K19
          refine A_regC [(some 67, true)] (conG Try.prog [(67, fun v_ L_ U_ => ∀ u0_, sum_Adder_keep_v1_m N r20 a_1 a_2 (((b2_).take ((b2_).length)).drop ((((((b2_).length : Int)) / 2 * 2)).toNat)) = some u0_ → (pO (List.flatten [[(ba, 26, #[Value.int .u16 (((r20.toNat : Nat) : Int)), Value.int .u8 (((a_1.toNat : Nat) : Int)), Value.bool (a_2)])]]) (oE (Value.tuple #[]) [[(ba, 26, #[Value.int .u16 (((u0_.1.toNat : Nat) : Int)), Value.int .u8 (((u0_.2.1.toNat : Nat) : Int)), Value.bool (u0_.2.2)])]])) v_ L_ U_)]) ?_
          refine r_v (Value.pointer (some ⟨ba, 0, none⟩)) rfl rfl rfl rfl ?_
          refine r_v (vb2_) rfl rfl rfl rfl ?_
          refine r_v (vb2_) rfl rfl rfl rfl ?_
          refine r_v (Value.int .i64 (((b2_).length : Int))) rfl rfl rfl (ev_lenSl rfl rfl rfl (Rd.shp hb2_)) ?_
          replace hM := ck_some hM; obtain ⟨ck22, hM⟩ := hM
          refine r_v (Value.int .i64 ((((b2_).length : Int)) / 2)) rfl rfl (quo_i64 ck22.1 (by decide) ck22.2) rfl ?_
          replace hM := ck_some hM; obtain ⟨ck23, hM⟩ := hM
          refine r_v (Value.int .i64 (((((b2_).length : Int)) / 2 * 2))) rfl rfl (wi64 rfl ck23.1 ck23.2) rfl ?_
          replace hM := ck_some hM; obtain ⟨ck24, hM⟩ := hM
          refine r_v (subA vb2_ ((((((b2_).length : Int)) / 2 * 2)).toNat) ((b2_).length) 1) rfl rfl rfl (ev_v (ev_subSl1 rfl rfl rfl rfl (Rd.shp hb2_) ck24)) ?_
          replace hM := bind_sm hM; obtain ⟨r25, hr26, hM⟩ := hM
          refine r_gm (Ls := [[(ba, 26, #[Value.int .u16 (((r20.toNat : Nat) : Int)), Value.int .u8 (((a_1.toNat : Nat) : Int)), Value.bool (a_2)])]]) (FL := [[(ba, 26, #[Value.int .u16 (((r20.toNat : Nat) : Int)), Value.int .u8 (((a_1.toNat : Nat) : Int)), Value.bool (a_2)])]]) (RL := []) [0] (oE (Value.tuple #[]) [[(ba, 26, #[Value.int .u16 (((r25.1.toNat : Nat) : Int)), Value.int .u8 (((r25.2.1.toNat : Nat) : Int)), Value.bool (r25.2.2)])]]) (some 67) 23 _ rfl rfl rfl rfl rfl (ev_callF rfl call_23 rfl) (fun own_ nw_ hn_ hs_ => sum_Adder_keep_v1_g N r20 a_1 a_2 (((b2_).take ((b2_).length)).drop ((((((b2_).length : Int)) / 2 * 2)).toNat)) _ hr26 _ ba (subA vb2_ ((((((b2_).length : Int)) / 2 * 2)).toNat) ((b2_).length) 1) (Rd.sub (Rd.mono (ro_sans (Ls := [[(ba, 26, #[Value.int .u16 (((r20.toNat : Nat) : Int)), Value.int .u8 (((a_1.toNat : Nat) : Int)), Value.bool (a_2)])]]) (is := [0]) rfl hs_) hb2_) (toNat_len ck24.2) (Nat.le_refl _))) (fun _ _ v_ L_ U_ => ⟨fun h_ => h_ _ hr26, fun h_ => by intro _ e_; cases Option.some.inj (e_.symm.trans hr26); exact h_⟩) (NiceO.sub (R := ([(ba, 26, #[Value.int .u16 (((r20.toNat : Nat) : Int)), Value.int .u8 (((a_1.toNat : Nat) : Int)), Value.bool (a_2)])] ++ [])) (niceE rfl) (Sub.pick [[(ba, 26, #[Value.int .u16 (((r20.toNat : Nat) : Int)), Value.int .u8 (((a_1.toNat : Nat) : Int)), Value.bool (a_2)])]] [0] rfl)) ?_
          rintro _ _ ⟨rfl, rfl⟩
          refine lx_perm (Ls := [[(ba, 26, #[Value.int .u16 (((r25.1.toNat : Nat) : Int)), Value.int .u8 (((r25.2.1.toNat : Nat) : Int)), Value.bool (r25.2.2)])]]) (Ls' := [[(ba, 26, #[Value.int .u16 (((r25.1.toNat : Nat) : Int)), Value.int .u8 (((r25.2.1.toNat : Nat) : Int)), Value.bool (r25.2.2)])]]) [0] rfl rfl ?_
          refine lx_nil ?_
          obtain rfl := Option.some.inj hM
          refine endsN (v0 := Value.tuple #[]) (O := [[(ba, 26, #[Value.int .u16 (((r25.1.toNat : Nat) : Int)), Value.int .u8 (((r25.2.1.toNat : Nat) : Int)), Value.bool (r25.2.2)])]]) rfl (Sub.pick [[(ba, 26, #[Value.int .u16 (((r25.1.toNat : Nat) : Int)), Value.int .u8 (((r25.2.1.toNat : Nat) : Int)), Value.bool (r25.2.2)])]] [0] rfl) ⟨rfl, rfl⟩
def sum_Adder_Total_v1_m (N : Nat) (a_0 : UInt16) (a_1 : UInt8) (_ : Bool) : Option (UInt16) := (sum_word_m N a_1 (0 : UInt8)).bind fun r5 => (sum_fold_m N (BitVec.ofNat 64 a_0.toNat + r5)).bind fun r7 => some (r7)
set_option maxRecDepth 100000 in
set_option maxHeartbeats 400000 in
theorem sum_Adder_Total_v1_g (N : Nat) (a_0 : UInt16) (a_1 : UInt8) (a_2 : Bool) (r : UInt16) (hM : sum_Adder_Total_v1_m N a_0 a_1 a_2 = some r) (ro : Addr → Option Value) (ba : Nat) (hba : Blk ro ba [Value.int .u16 (((a_0.toNat : Nat) : Int)), Value.int .u8 (((a_1.toNat : Nat) : Int)), Value.bool (a_2)]) : Does Try.prog 11 #[Value.pointer (some ⟨ba, 0, none⟩)] ro [] (pV (Value.int .u16 (((r.toNat : Nat) : Int)))) := by
  unfold sum_Adder_Total_v1_m at hM
  refine does_of_A follows Try.func11 rfl 17 rfl (upd (fun _ => undef) 0 (Value.pointer (some ⟨ba, 0, none⟩))) (by funext k; match k with | 0 => rfl | k + 1 => rfl) (fun base0_ => ?_)
  refine A_seq fun K1 hK1 => ?_
  refine A_reg ?_
  refine r_v (Value.int .u16 (0)) rfl rfl rfl rfl ?_
  refine lx_nil ?_
  refine hK1 _ _ ?_; try clear hK1 K1
  refine A_seq fun K2 hK2 => ?_
  refine A_seq fun K3 hK3 => ?_
  refine A_reg ?_
  refine r_v (Value.pointer (some ⟨ba, 0, none⟩)) rfl rfl rfl rfl ?_
  refine r_v (Value.bool (false)) rfl rfl rfl rfl ?_
  refine lx_nil ?_
  refine hK3 _ _ ?_; try clear hK3 K3
  refine A_cond false rfl (fun h_ => nomatch h_) (fun _ => ?_)
  refine A_skip ?_
  refine hK2 _ _ ?_; try clear hK2 K2
  refine A_seq fun K4 hK4 => ?_
  refine A_draw [] (by decide +kernel) (fun hn => sep_nil) ?_
  refine r_v (Value.pointer (some ⟨ba, 0, none⟩)) rfl rfl rfl rfl ?_
  refine r_v (Value.pointer (some ⟨ba, 0, none⟩)) rfl rfl rfl rfl ?_
  refine r_v (Value.pointer (some ⟨ba, 0, none⟩)) rfl rfl rfl rfl ?_
  refine r_lb (Value.int .u16 (((a_0.toNat : Nat) : Int))) (vs := [Value.int .u16 (((a_0.toNat : Nat) : Int)), Value.int .u8 (((a_1.toNat : Nat) : Int)), Value.bool (a_2)]) (o := 0) rfl rfl (blk_ro hba) rfl ?_
  refine r_w (U (BitVec.ofNat 64 a_0.toNat)) rfl rfl (u16_u64 a_0) (fun _ => rfl) ?_
  refine r_v (Value.pointer (some ⟨ba, 0, none⟩)) rfl rfl rfl rfl ?_
  refine r_v (Value.pointer (some ⟨ba, 0, none⟩)) rfl rfl rfl rfl ?_
  refine r_v (Value.pointer (some ⟨ba, 1, none⟩)) rfl rfl rfl rfl ?_
  refine r_lb (Value.int .u8 (((a_1.toNat : Nat) : Int))) (vs := [Value.int .u16 (((a_0.toNat : Nat) : Int)), Value.int .u8 (((a_1.toNat : Nat) : Int)), Value.bool (a_2)]) (o := 1) rfl rfl (blk_ro hba) rfl ?_
  replace hM := bind_sm hM; obtain ⟨r5, hr6, hM⟩ := hM
  refine r_c (U (r5)) rfl _ _ (ev_callF rfl call_21 rfl) (sum_word_g N a_1 (0 : UInt8) _ hr6) ?_
  refine r_v (U ((BitVec.ofNat 64 a_0.toNat + r5))) rfl rfl (U_add (BitVec.ofNat 64 a_0.toNat) (r5)) rfl ?_
  replace hM := bind_sm hM; obtain ⟨r7, hr8, hM⟩ := hM
  refine r_c (Value.int .u16 (((r7.toNat : Nat) : Int))) rfl _ _ (ev_callF rfl call_22 rfl) (sum_fold_g N (BitVec.ofNat 64 a_0.toNat + r5) _ hr8) ?_
  refine r_v (Value.int .u16 (((r7.toNat : Nat) : Int))) rfl rfl rfl rfl ?_
  refine lx_nil ?_
  refine hK4 _ _ ?_; try clear hK4 K4
  obtain rfl := Option.some.inj hM
  refine A_ret (fun hn => endsV (v0 := Value.int .u16 (((r7.toNat : Nat) : Int))) rfl (res1 rfl))
def sum_Adder_Sum_v1_m (N : Nat) (a_0 : UInt16) (a_1 : UInt8) (a_2 : Bool) : Option (UInt16) := (sum_Adder_Total_v1_m N a_0 a_1 a_2).bind fun r3 => some (((65535 : UInt16) - r3))
set_option maxRecDepth 100000 in
set_option maxHeartbeats 400000 in
theorem sum_Adder_Sum_v1_g (N : Nat) (a_0 : UInt16) (a_1 : UInt8) (a_2 : Bool) (r : UInt16) (hM : sum_Adder_Sum_v1_m N a_0 a_1 a_2 = some r) (ro : Addr → Option Value) (ba : Nat) (hba : Blk ro ba [Value.int .u16 (((a_0.toNat : Nat) : Int)), Value.int .u8 (((a_1.toNat : Nat) : Int)), Value.bool (a_2)]) : Does Try.prog 12 #[Value.pointer (some ⟨ba, 0, none⟩)] ro [] (pV (Value.int .u16 (((r.toNat : Nat) : Int)))) := by
  unfold sum_Adder_Sum_v1_m at hM
  refine does_of_A follows Try.func12 rfl 6 rfl (upd (fun _ => undef) 0 (Value.pointer (some ⟨ba, 0, none⟩))) (by funext k; match k with | 0 => rfl | k + 1 => rfl) (fun base0_ => ?_)
  refine A_seq fun K1 hK1 => ?_
  refine A_reg ?_
  refine r_v (Value.int .u16 (0)) rfl rfl rfl rfl ?_
  refine lx_nil ?_
  refine hK1 _ _ ?_; try clear hK1 K1
  refine A_seq fun K2 hK2 => ?_
  refine A_regC [(some 4, false)] (conG Try.prog [(4, fun v_ L_ U_ => ∀ u0_, sum_Adder_Total_v1_m N a_0 a_1 a_2 = some u0_ → (pV (Value.int .u16 (((u0_.toNat : Nat) : Int)))) v_ L_ U_)]) ?_
  refine r_v (Value.pointer (some ⟨ba, 0, none⟩)) rfl rfl rfl rfl ?_
  replace hM := bind_sm hM; obtain ⟨r3, hr4, hM⟩ := hM
  refine r_gv (Value.int .u16 (((r3.toNat : Nat) : Int))) 11 _ rfl rfl rfl (ev_callF rfl call_11 rfl) (fun own_ nw_ hs_ => sum_Adder_Total_v1_g N a_0 a_1 a_2 _ hr4 hs_.view ba (blk_ro hba own_ nw_ hs_)) (fun _ _ v_ L_ U_ => ⟨fun h_ => h_ _ hr4, fun h_ => by intro _ e_; cases Option.some.inj (e_.symm.trans hr4); exact h_⟩) ?_
  refine r_v (Value.int .u16 (((((65535 : UInt16) - r3).toNat : Nat) : Int))) rfl rfl (Z16_sub (65535 : UInt16) r3) rfl ?_
  refine r_v (Value.int .u16 (((((65535 : UInt16) - r3).toNat : Nat) : Int))) rfl rfl rfl rfl ?_
  refine lx_nil ?_
  refine hK2 _ _ ?_; try clear hK2 K2
  obtain rfl := Option.some.inj hM
  refine A_ret (fun hn => endsV (v0 := Value.int .u16 (((((65535 : UInt16) - r3).toNat : Nat) : Int))) rfl (res1 rfl))
def sum_Of_m (N : Nat) (b : List UInt8) : Option (UInt16) := (sum_Adder_Add_v1_m N (0 : UInt16) (0 : UInt8) false b).bind fun r5 => (sum_Adder_Sum_v1_m N r5.1 r5.2.1 r5.2.2).bind fun r8 => some (r8)
set_option maxRecDepth 100000 in
set_option maxHeartbeats 400000 in
theorem sum_Of_g (N : Nat) (b : List UInt8) (r : UInt16) (hM : sum_Of_m N b = some r) (ro : Addr → Option Value) (bv : Value) (hb : Rd encY ro bv b) : Does Try.prog 13 #[bv] ro [] (pV (Value.int .u16 (((r.toNat : Nat) : Int)))) := by
  unfold sum_Of_m at hM
  refine does_of_A follows Try.func13 rfl 7 rfl (upd (fun _ => undef) 0 (bv)) (by funext k; match k with | 0 => rfl | k + 1 => rfl) (fun base0_ => ?_)
  refine A_seq fun K1 hK1 => ?_
  refine A_reg ?_
  refine r_v (Value.int .u16 (0)) rfl rfl rfl rfl ?_
  refine lx_nil ?_
  refine hK1 _ _ ?_; try clear hK1 K1
  refine A_seq fun K2 hK2 => ?_
  refine A_reg ?_
  refine r_a (26, #[Value.int .u16 (0), Value.int .u8 (0), Value.bool (false)]) rfl rfl rfl (fun b3 => ?_) (.inr rfl)
  refine lx_nil ?_
  refine hK2 _ _ ?_; try clear hK2 K2
  refine A_seq fun K4 hK4 => ?_
  refine A_regC [(some 5, true)] (conG Try.prog [(5, fun v_ L_ U_ => ∀ u0_, sum_Adder_Add_v1_m N (0 : UInt16) (0 : UInt8) false b = some u0_ → (pO (List.flatten [[(b3, 26, #[Value.int .u16 (0), Value.int .u8 (0), Value.bool (false)])]]) (oE (Value.tuple #[]) [[(b3, 26, #[Value.int .u16 (((u0_.1.toNat : Nat) : Int)), Value.int .u8 (((u0_.2.1.toNat : Nat) : Int)), Value.bool (u0_.2.2)])]])) v_ L_ U_)]) ?_
  refine r_v (bv) rfl rfl rfl rfl ?_
  replace hM := bind_sm hM; obtain ⟨r5, hr6, hM⟩ := hM
  refine r_gm (Ls := [[(b3, 26, #[Value.int .u16 (0), Value.int .u8 (0), Value.bool (false)])]]) (FL := [[(b3, 26, #[Value.int .u16 (0), Value.int .u8 (0), Value.bool (false)])]]) (RL := []) [0] (oE (Value.tuple #[]) [[(b3, 26, #[Value.int .u16 (((r5.1.toNat : Nat) : Int)), Value.int .u8 (((r5.2.1.toNat : Nat) : Int)), Value.bool (r5.2.2)])]]) (some 5) 9 _ rfl rfl rfl rfl rfl (ev_callF rfl call_9 rfl) (fun own_ nw_ hn_ hs_ => sum_Adder_Add_v1_g N (0 : UInt16) (0 : UInt8) false b _ hr6 _ b3 bv (Rd.mono (ro_sans (Ls := [[(b3, 26, #[Value.int .u16 (0), Value.int .u8 (0), Value.bool (false)])]]) (is := [0]) rfl hs_) hb)) (fun _ _ v_ L_ U_ => ⟨fun h_ => h_ _ hr6, fun h_ => by intro _ e_; cases Option.some.inj (e_.symm.trans hr6); exact h_⟩) (NiceO.sub (R := ([(b3, 26, #[Value.int .u16 (0), Value.int .u8 (0), Value.bool (false)])] ++ [])) (niceE rfl) (Sub.pick [[(b3, 26, #[Value.int .u16 (0), Value.int .u8 (0), Value.bool (false)])]] [0] rfl)) ?_
  rintro _ _ ⟨rfl, rfl⟩
  refine lx_perm (Ls := [[(b3, 26, #[Value.int .u16 (((r5.1.toNat : Nat) : Int)), Value.int .u8 (((r5.2.1.toNat : Nat) : Int)), Value.bool (r5.2.2)])]]) (Ls' := [[(b3, 26, #[Value.int .u16 (((r5.1.toNat : Nat) : Int)), Value.int .u8 (((r5.2.1.toNat : Nat) : Int)), Value.bool (r5.2.2)])]]) [0] rfl rfl ?_
  refine lx_nil ?_
  refine hK4 _ _ ?_; try clear hK4 K4
  refine A_seq fun K7 hK7 => ?_
  refine A_regC [(some 6, false)] (conG Try.prog [(6, fun v_ L_ U_ => ∀ u0_, sum_Adder_Sum_v1_m N r5.1 r5.2.1 r5.2.2 = some u0_ → (pV (Value.int .u16 (((u0_.toNat : Nat) : Int)))) v_ L_ U_)]) ?_
  replace hM := bind_sm hM; obtain ⟨r8, hr9, hM⟩ := hM
  refine r_gv (Value.int .u16 (((r8.toNat : Nat) : Int))) 12 _ rfl rfl rfl (ev_callF rfl call_12 rfl) (fun own_ nw_ hs_ => sum_Adder_Sum_v1_g N r5.1 r5.2.1 r5.2.2 _ hr9 hs_.view b3 (blk_own 0 rfl rfl own_ nw_ hs_)) (fun _ _ v_ L_ U_ => ⟨fun h_ => h_ _ hr9, fun h_ => by intro _ e_; cases Option.some.inj (e_.symm.trans hr9); exact h_⟩) ?_
  refine r_v (Value.int .u16 (((r8.toNat : Nat) : Int))) rfl rfl rfl rfl ?_
  refine lx_nil ?_
  refine hK7 _ _ ?_; try clear hK7 K7
  obtain rfl := Option.some.inj hM
  refine A_ret (fun hn => endsV (v0 := Value.int .u16 (((r8.toNat : Nat) : Int))) rfl (res1 rfl))
def shunterlaw04_lives_m (N : Nat) : Option (Bool) := (sum_Of_m N ([(69 : UInt8), (0 : UInt8), (0 : UInt8), (28 : UInt8)])).bind fun r6 => some (((((r6.toNat : Nat) : Int) : Int) == 47843))
set_option maxRecDepth 100000 in
set_option maxHeartbeats 400000 in
theorem shunterlaw04_lives_g (N : Nat) (r : Bool) (hM : shunterlaw04_lives_m N = some r) : Gives Try.prog 8 #[] (Value.bool (r)) := by
  unfold shunterlaw04_lives_m at hM
  refine gives_of_A follows Try.func8 rfl 4 rfl (fun _ => undef) (by funext k; rfl) (fun base0_ => ?_)
  refine A_seq fun K1 hK1 => ?_
  refine A_reg ?_
  refine r_v (Value.bool (false)) rfl rfl rfl rfl ?_
  refine lx_nil ?_
  refine hK1 _ _ ?_; try clear hK1 K1
  refine A_seq fun K2 hK2 => ?_
  refine A_regC [(some 1, false), (some 2, false)] (conG Try.prog [(2, fun v_ L_ U_ => ∀ u0_, sum_Of_m N ([(69 : UInt8), (0 : UInt8), (0 : UInt8), (28 : UInt8)]) = some u0_ → (pV (Value.int .u16 (((u0_.toNat : Nat) : Int)))) v_ L_ U_)]) ?_
  refine r_bs (cs0 := [(2, fun v_ L_ U_ => ∀ u0_, sum_Of_m N ([(69 : UInt8), (0 : UInt8), (0 : UInt8), (28 : UInt8)]) = some u0_ → (pV (Value.int .u16 (((u0_.toNat : Nat) : Int)))) v_ L_ U_)]) (Ls := []) 5 encY [(69 : UInt8), (0 : UInt8), (0 : UInt8), (28 : UInt8)] [Value.int .u8 (69), Value.int .u8 (0), Value.int .u8 (0), Value.int .u8 (28)] [Value.int .u8 (0), Value.int .u8 (0), Value.int .u8 (0), Value.int .u8 (0)] rfl rfl rfl rfl rfl rfl rfl (by kernel_rfl) (by kernel_rfl) rfl rfl rfl (fun s3 S4 H5 => ?_)
  replace hM := bind_sm hM; obtain ⟨r6, hr7, hM⟩ := hM
  refine r_gv (Value.int .u16 (((r6.toNat : Nat) : Int))) 13 _ rfl rfl rfl (ev_callF rfl call_13 rfl) (fun own_ nw_ hs_ => sum_Of_g N ([(69 : UInt8), (0 : UInt8), (0 : UInt8), (28 : UInt8)]) _ hr7 hs_.view s3 ((rd_own H5 (mem_chunk (Ls := [S4]) (k := 0) rfl rfl)) own_ nw_ hs_)) (fun _ _ v_ L_ U_ => ⟨fun h_ => h_ _ hr7, fun h_ => by intro _ e_; cases Option.some.inj (e_.symm.trans hr7); exact h_⟩) ?_
  refine r_v (Value.bool (((((r6.toNat : Nat) : Int) : Int) == 47843))) rfl rfl rfl rfl ?_
  refine r_v (Value.bool (((((r6.toNat : Nat) : Int) : Int) == 47843))) rfl rfl rfl rfl ?_
  refine lx_nil ?_
  refine hK2 _ _ ?_; try clear hK2 K2
  obtain rfl := Option.some.inj hM
  refine A_ret (fun hn => ends_eq (v0 := Value.bool (((((r6.toNat : Nat) : Int) : Int) == 47843))) rfl (res1 rfl))
def shunterref04_Words_k5 (b : List UInt8) (l1_ : List Int) (i2_ : Int) (rec_shunterref04_Words_l3 : List Int → Int → Option (List Int)) (low4_ : Int) : Option (List Int) := ck (0 ≤ i2_ ∧ i2_ < ((b).length : Int)) (ck ((-9223372036854775808 ≤ (256 * ((((b)[(i2_).toNat]!).toNat : Nat) : Int)) ∧ (256 * ((((b)[(i2_).toNat]!).toNat : Nat) : Int)) ≤ 9223372036854775807)) (ck ((-9223372036854775808 ≤ ((256 * ((((b)[(i2_).toNat]!).toNat : Nat) : Int)) + low4_) ∧ ((256 * ((((b)[(i2_).toNat]!).toNat : Nat) : Int)) + low4_) ≤ 9223372036854775807)) (ck ((l1_).length + ([((256 * ((((b)[(i2_).toNat]!).toNat : Nat) : Int)) + low4_)]).length ≤ 17592186044416) (ck ((-9223372036854775808 ≤ (i2_ + 2) ∧ (i2_ + 2) ≤ 9223372036854775807)) (rec_shunterref04_Words_l3 ((l1_ ++ ([((256 * ((((b)[(i2_).toNat]!).toNat : Nat) : Int)) + low4_)]))) ((i2_ + 2)))))))
def shunterref04_Words_l3 (b : List UInt8) : Nat → List Int → Int → Option (List Int)
  | 0, _, _ => none
  | n5 + 1, l1_, i2_ => if (i2_ : Int) < ((b).length : Int) then ck ((-9223372036854775808 ≤ (i2_ + 1) ∧ (i2_ + 1) ≤ 9223372036854775807)) (if ((i2_ + 1) : Int) < ((b).length : Int) then ck ((-9223372036854775808 ≤ (i2_ + 1) ∧ (i2_ + 1) ≤ 9223372036854775807)) (ck (0 ≤ (i2_ + 1) ∧ (i2_ + 1) < ((b).length : Int)) (shunterref04_Words_k5 b l1_ i2_ (shunterref04_Words_l3 b n5) (((((b)[((i2_ + 1)).toNat]!).toNat : Nat) : Int)))) else shunterref04_Words_k5 b l1_ i2_ (shunterref04_Words_l3 b n5) (0)) else some (l1_)
def shunterref04_Words_m (N : Nat) (b : List UInt8) : Option (List Int) := shunterref04_Words_l3 b N ([]) (0)
set_option maxRecDepth 100000 in
set_option maxHeartbeats 400000 in
theorem shunterref04_Words_g (N : Nat) (b : List UInt8) (r : List Int) (hM : shunterref04_Words_m N b = some r) (ro : Addr → Option Value) (bv : Value) (hb : Rd encY ro bv b) : Does Try.prog 24 #[bv] ro [] (p1 (fun s_ => s_) 3 encI r) := by
  unfold shunterref04_Words_m at hM
  refine does_of_A follows Try.func24 rfl 35 rfl (upd (fun _ => undef) 0 (bv)) (by funext k; match k with | 0 => rfl | k + 1 => rfl) (fun base0_ => ?_)
  refine A_seq fun K1 hK1 => ?_
  refine A_reg ?_
  refine r_v (Value.slice none 0 0) rfl rfl rfl rfl ?_
  refine lx_nil ?_
  refine hK1 _ _ ?_; try clear hK1 K1
  refine A_seq fun K2 hK2 => ?_
  refine A_reg ?_
  refine r_v (Value.slice none 0 0) rfl rfl rfl rfl ?_
  refine lx_nil ?_
  refine hK2 _ _ ?_; try clear hK2 K2
  refine A_seq fun K3 hK3 => ?_
  refine A_seq fun K4 hK4 => ?_
  refine A_reg ?_
  refine r_v (Value.int .i64 (0)) rfl rfl rfl rfl ?_
  refine lx_nil ?_
  refine hK4 _ _ ?_; try clear hK4 K4
  refine A_block ?_
  refine A_forget _ (Sub.pickE (Ls := [[]]) (Ls0 := []) rfl [0] rfl) ?_
  refine A_loop (fun tt ll nn => ∃ (n5 : Nat) (l1_ : List Int) (i2_ : Int), (shunterref04_Words_l3 b n5 l1_ i2_ = some r) ∧ ∃ (vl1_ : Value) (Sl1_ : List Bl), Sl 3 encI vl1_ l1_ Sl1_ ∧ Is [(0, bv), (3, vl1_), (4, Value.int .i64 (i2_))] (List.flatten [Sl1_]) tt ll ∧ nn = n5 + 1) (N + 1) ?_ ?_
  · exact ⟨N, [], 0, hM, Value.slice none 0 0, [], Sl.nil, is_mk rfl rfl, rfl⟩
  · clear hM; rintro t l _ ⟨n5, l1_, i2_, hM, vl1_, Sl1_, hl1_, ⟨⟨T, rfl⟩, rfl⟩, rfl⟩
    rcases n5 with _ | n5
    · exact absurd hM (by simp [shunterref04_Words_l3])
    rw [shunterref04_Words_l3] at hM
    refine A_seq fun K6 hK6 => ?_
    refine A_seq fun K7 hK7 => ?_
    refine A_reg ?_
    refine r_v (Value.int .i64 (i2_)) rfl rfl rfl rfl ?_
    refine r_v (bv) rfl rfl rfl rfl ?_
    refine r_v (Value.int .i64 (((b).length : Int))) rfl rfl rfl (ev_lenSl rfl rfl rfl (Rd.shp hb)) ?_
    refine r_v (Value.bool (decide ((i2_ : Int) < ((b).length : Int)))) rfl rfl rfl rfl ?_
    refine lx_nil ?_
    refine hK7 _ _ ?_; try clear hK7 K7
    refine A_cond (decide ((i2_ : Int) < ((b).length : Int))) rfl (fun hc8 => ?_) (fun hc8 => ?_)
    · replace hM := ifp (of_decide_eq_true hc8) hM
      refine A_skip ?_
      refine hK6 _ _ ?_; try clear hK6 K6
      refine A_seq fun K9 hK9 => ?_
      refine A_block ?_
      refine A_seq fun K10 hK10 => ?_
      refine A_reg ?_
      refine r_v (Value.int .i64 (0)) rfl rfl rfl rfl ?_
      refine lx_nil ?_
      refine hK10 _ _ ?_; try clear hK10 K10
      refine A_cut (fun tt ll => ∃ (low4_ : Int), (shunterref04_Words_k5 b l1_ i2_ (shunterref04_Words_l3 b n5) low4_ = some r) ∧ Is [(0, bv), (3, vl1_), (4, Value.int .i64 (i2_)), (5, Value.int .i64 (low4_))] (List.flatten [Sl1_]) tt ll) ?_ ?_
      · refine A_seq fun K22 hK22 => ?_
        refine A_reg ?_
        refine r_v (Value.int .i64 (i2_)) rfl rfl rfl rfl ?_
        replace hM := ck_some hM; obtain ⟨ck23, hM⟩ := hM
        refine r_v (Value.int .i64 ((i2_ + 1))) rfl rfl (wi64 rfl ck23.1 ck23.2) rfl ?_
        refine r_v (bv) rfl rfl rfl rfl ?_
        refine r_v (Value.int .i64 (((b).length : Int))) rfl rfl rfl (ev_lenSl rfl rfl rfl (Rd.shp hb)) ?_
        refine r_v (Value.bool (decide (((i2_ + 1) : Int) < ((b).length : Int)))) rfl rfl rfl rfl ?_
        refine lx_nil ?_
        refine hK22 _ _ ?_; try clear hK22 K22
        refine A_cond (decide (((i2_ + 1) : Int) < ((b).length : Int))) rfl (fun hc24 => ?_) (fun hc24 => ?_)
        · replace hM := ifp (of_decide_eq_true hc24) hM
          refine A_reg ?_
          refine r_v (bv) rfl rfl rfl rfl ?_
          refine r_v (Value.int .i64 (i2_)) rfl rfl rfl rfl ?_
          replace hM := ck_some hM; obtain ⟨ck25, hM⟩ := hM
          refine r_v (Value.int .i64 ((i2_ + 1))) rfl rfl (wi64 rfl ck25.1 ck25.2) rfl ?_
          replace hM := ck_some hM; obtain ⟨ck26, hM⟩ := hM
          refine r_v (elA bv (((i2_ + 1)).toNat * 1)) rfl rfl rfl (ev_v (ev_idxSl rfl rfl rfl (Rd.shp hb) ck26)) ?_
          refine r_le (Value.int .u8 (((((b)[((i2_ + 1)).toNat]!).toNat : Nat) : Int))) (En := encY) ((b)[((i2_ + 1)).toNat]!) (((i2_ + 1)).toNat) 0 rfl rfl (rd_ro hb) (get_of ck26) rfl ?_
          refine r_w (Value.int .i64 (((((b)[((i2_ + 1)).toNat]!).toNat : Nat) : Int))) rfl rfl (u8_i64 ((b)[((i2_ + 1)).toNat]!)) (fun _ => rfl) ?_
          refine r_v (Value.int .i64 (((((b)[((i2_ + 1)).toNat]!).toNat : Nat) : Int))) rfl rfl rfl rfl ?_
          refine lx_nil ?_
          refine fg _ (Sub.pick [Sl1_] [0] rfl) ?_
          exact ⟨((((b)[((i2_ + 1)).toNat]!).toNat : Nat) : Int), hM, is_mk rfl rfl⟩
        · replace hM := ifn (of_decide_eq_false hc24) hM
          refine A_skip ?_
          refine fg _ (Sub.pick [Sl1_] [0] rfl) ?_
          exact ⟨0, hM, is_mk rfl rfl⟩
      · clear hM; rintro t l ⟨low4_, hM, ⟨T, rfl⟩, rfl⟩
        unfold shunterref04_Words_k5 at hM
        refine A_regC [(some 32, false), (some 33, true)] (conG Try.prog []) ?_
        refine r_v (vl1_) rfl rfl rfl rfl ?_
        refine r_v (bv) rfl rfl rfl rfl ?_
        refine r_v (Value.int .i64 (i2_)) rfl rfl rfl rfl ?_
        replace hM := ck_some hM; obtain ⟨ck11, hM⟩ := hM
        refine r_v (elA bv ((i2_).toNat * 1)) rfl rfl rfl (ev_v (ev_idxSl rfl rfl rfl (Rd.shp hb) ck11)) ?_
        refine r_le (Value.int .u8 (((((b)[(i2_).toNat]!).toNat : Nat) : Int))) (En := encY) ((b)[(i2_).toNat]!) ((i2_).toNat) 0 rfl rfl (rd_ro hb) (get_of ck11) rfl ?_
        refine r_w (Value.int .i64 (((((b)[(i2_).toNat]!).toNat : Nat) : Int))) rfl rfl (u8_i64 ((b)[(i2_).toNat]!)) (fun _ => rfl) ?_
        replace hM := ck_some hM; obtain ⟨ck12, hM⟩ := hM
        refine r_v (Value.int .i64 ((256 * ((((b)[(i2_).toNat]!).toNat : Nat) : Int)))) rfl rfl (wi64 rfl ck12.1 ck12.2) rfl ?_
        refine r_v (Value.int .i64 (low4_)) rfl rfl rfl rfl ?_
        replace hM := ck_some hM; obtain ⟨ck13, hM⟩ := hM
        refine r_v (Value.int .i64 (((256 * ((((b)[(i2_).toNat]!).toNat : Nat) : Int)) + low4_))) rfl rfl (wi64 rfl ck13.1 ck13.2) rfl ?_
        refine r_bs (cs0 := []) (Ls := [Sl1_]) 3 encI [((256 * ((((b)[(i2_).toNat]!).toNat : Nat) : Int)) + low4_)] [Value.int .i64 (((256 * ((((b)[(i2_).toNat]!).toNat : Nat) : Int)) + low4_))] [Value.int .i64 (0)] rfl rfl rfl rfl rfl rfl rfl (by kernel_rfl) (by kernel_rfl) rfl rfl rfl (fun s14 S15 H16 => ?_)
        replace hM := ck_some hM; obtain ⟨ck17, hM⟩ := hM
        refine r_app (cs0 := []) (Ls := [Sl1_, S15]) 0 (En := encI) rfl rfl rfl rfl rfl hl1_ rfl (rd_own H16 (mem_chunk (Ls := [Sl1_, S15]) (k := 1) rfl rfl)) rfl rfl rfl rfl rfl (app_b ck17 rfl) (app_m ck17 rfl) rfl (fun s18 S19 H20 => ?_)
        refine r_v (s18) rfl rfl rfl rfl ?_
        refine lx_nil ?_
        refine hK9 _ _ ?_; try clear hK9 K9
        refine A_reg ?_
        refine r_v (Value.int .i64 (i2_)) rfl rfl rfl rfl ?_
        replace hM := ck_some hM; obtain ⟨ck21, hM⟩ := hM
        refine r_v (Value.int .i64 ((i2_ + 2))) rfl rfl (wi64 rfl ck21.1 ck21.2) rfl ?_
        refine r_v (Value.int .i64 ((i2_ + 2))) rfl rfl rfl rfl ?_
        refine lx_nil ?_
        refine fg _ (Sub.pick [S19, S15] [0] rfl) ?_
        exact ⟨n5 + 1, by omega, n5, (l1_ ++ ([((256 * ((((b)[(i2_).toNat]!).toNat : Nat) : Int)) + low4_)])), (i2_ + 2), hM, s18, S19, H20, is_mk rfl rfl, rfl⟩
    · replace hM := ifn (of_decide_eq_false hc8) hM
      refine A_exit ?_
      refine hK3 _ _ ?_; try clear hK3 K3
      refine A_seq fun K27 hK27 => ?_
      refine A_reg ?_
      refine r_v (vl1_) rfl rfl rfl rfl ?_
      refine r_v (vl1_) rfl rfl rfl rfl ?_
      refine lx_nil ?_
      refine hK27 _ _ ?_; try clear hK27 K27
      obtain rfl := Option.some.inj hM
      refine A_ret (fun hn => ends1 (v0 := vl1_) hl1_ (sub_one (Sub.pick [Sl1_] [0] rfl)) rfl (res1 rfl))
def shunterref04_Total_l5  : Nat → Int → Option (Int)
  | 0, _ => none
  | n14 + 1, n4_ => if (n4_ : Int) > 65535 then ck (0 ≤ n4_ ∧ n4_ ≤ 9223372036854775807) (ck (0 ≤ n4_ ∧ n4_ ≤ 9223372036854775807) (ck ((-9223372036854775808 ≤ ((n4_) / 65536 + (n4_) % 65536) ∧ ((n4_) / 65536 + (n4_) % 65536) ≤ 9223372036854775807)) ((shunterref04_Total_l5 n14) (((n4_) / 65536 + (n4_) % 65536))))) else some (n4_)
def shunterref04_Total_l3 (N : Nat) (l' : List Int) : Nat → Int → Int → Option (Int)
  | 0, _, _ => none
  | n5 + 1, n1_, i2_ => if (i2_ : Int) < ((l').length : Int) then ck (0 ≤ i2_ ∧ i2_ < ((l').length : Int)) (ck ((-9223372036854775808 ≤ (n1_ + (l')[(i2_).toNat]!) ∧ (n1_ + (l')[(i2_).toNat]!) ≤ 9223372036854775807)) (ck ((-9223372036854775808 ≤ (i2_ + 1) ∧ (i2_ + 1) ≤ 9223372036854775807)) ((shunterref04_Total_l3 N l' n5) ((n1_ + (l')[(i2_).toNat]!)) ((i2_ + 1))))) else shunterref04_Total_l5 N (n1_)
def shunterref04_Total_m (N : Nat) (l' : List Int) : Option (Int) := shunterref04_Total_l3 N l' N (0) (0)
set_option maxRecDepth 100000 in
set_option maxHeartbeats 400000 in
theorem shunterref04_Total_g (N : Nat) (l' : List Int) (r : Int) (hM : shunterref04_Total_m N l' = some r) (ro : Addr → Option Value) (l'v : Value) (hl' : Rd encI ro l'v l') : Does Try.prog 20 #[l'v] ro [] (pV (Value.int .i64 (r))) := by
  unfold shunterref04_Total_m at hM
  refine does_of_A follows Try.func20 rfl 25 rfl (upd (fun _ => undef) 0 (l'v)) (by funext k; match k with | 0 => rfl | k + 1 => rfl) (fun base0_ => ?_)
  refine A_seq fun K1 hK1 => ?_
  refine A_reg ?_
  refine r_v (Value.int .i64 (0)) rfl rfl rfl rfl ?_
  refine lx_nil ?_
  refine hK1 _ _ ?_; try clear hK1 K1
  refine A_seq fun K2 hK2 => ?_
  refine A_reg ?_
  refine r_v (Value.int .i64 (0)) rfl rfl rfl rfl ?_
  refine lx_nil ?_
  refine hK2 _ _ ?_; try clear hK2 K2
  refine A_seq fun K3 hK3 => ?_
  refine A_seq fun K4 hK4 => ?_
  refine A_reg ?_
  refine r_v (Value.int .i64 (0)) rfl rfl rfl rfl ?_
  refine lx_nil ?_
  refine hK4 _ _ ?_; try clear hK4 K4
  refine A_block ?_
  refine A_loop (fun tt ll nn => ∃ (n5 : Nat) (n1_ : Int) (i2_ : Int), (shunterref04_Total_l3 N l' n5 n1_ i2_ = some r) ∧ Is [(0, l'v), (3, Value.int .i64 (n1_)), (4, Value.int .i64 (i2_))] [] tt ll ∧ nn = n5 + 1) (N + 1) ?_ ?_
  · exact ⟨N, 0, 0, hM, is_mk rfl rfl, rfl⟩
  · clear hM; rintro t l _ ⟨n5, n1_, i2_, hM, ⟨⟨T, rfl⟩, rfl⟩, rfl⟩
    rcases n5 with _ | n5
    · exact absurd hM (by simp [shunterref04_Total_l3])
    rw [shunterref04_Total_l3] at hM
    refine A_seq fun K6 hK6 => ?_
    refine A_seq fun K7 hK7 => ?_
    refine A_reg ?_
    refine r_v (Value.int .i64 (i2_)) rfl rfl rfl rfl ?_
    refine r_v (l'v) rfl rfl rfl rfl ?_
    refine r_v (Value.int .i64 (((l').length : Int))) rfl rfl rfl (ev_lenSl rfl rfl rfl (Rd.shp hl')) ?_
    refine r_v (Value.bool (decide ((i2_ : Int) < ((l').length : Int)))) rfl rfl rfl rfl ?_
    refine lx_nil ?_
    refine hK7 _ _ ?_; try clear hK7 K7
    refine A_cond (decide ((i2_ : Int) < ((l').length : Int))) rfl (fun hc8 => ?_) (fun hc8 => ?_)
    · replace hM := ifp (of_decide_eq_true hc8) hM
      refine A_skip ?_
      refine hK6 _ _ ?_; try clear hK6 K6
      refine A_seq fun K9 hK9 => ?_
      refine A_block ?_
      refine A_reg ?_
      refine r_v (Value.int .i64 (n1_)) rfl rfl rfl rfl ?_
      refine r_v (l'v) rfl rfl rfl rfl ?_
      refine r_v (Value.int .i64 (i2_)) rfl rfl rfl rfl ?_
      replace hM := ck_some hM; obtain ⟨ck10, hM⟩ := hM
      refine r_v (elA l'v ((i2_).toNat * 1)) rfl rfl rfl (ev_v (ev_idxSl rfl rfl rfl (Rd.shp hl') ck10)) ?_
      refine r_le (Value.int .i64 ((l')[(i2_).toNat]!)) (En := encI) ((l')[(i2_).toNat]!) ((i2_).toNat) 0 rfl rfl (rd_ro hl') (get_of ck10) rfl ?_
      replace hM := ck_some hM; obtain ⟨ck11, hM⟩ := hM
      refine r_v (Value.int .i64 ((n1_ + (l')[(i2_).toNat]!))) rfl rfl (wi64 rfl ck11.1 ck11.2) rfl ?_
      refine r_v (Value.int .i64 ((n1_ + (l')[(i2_).toNat]!))) rfl rfl rfl rfl ?_
      refine lx_nil ?_
      refine hK9 _ _ ?_; try clear hK9 K9
      refine A_reg ?_
      refine r_v (Value.int .i64 (i2_)) rfl rfl rfl rfl ?_
      replace hM := ck_some hM; obtain ⟨ck12, hM⟩ := hM
      refine r_v (Value.int .i64 ((i2_ + 1))) rfl rfl (wi64 rfl ck12.1 ck12.2) rfl ?_
      refine r_v (Value.int .i64 ((i2_ + 1))) rfl rfl rfl rfl ?_
      refine lx_nil ?_
      refine fg _ (Sub.of (List.Sublist.slnil)) ?_
      exact ⟨n5 + 1, by omega, n5, (n1_ + (l')[(i2_).toNat]!), (i2_ + 1), hM, is_mk rfl rfl, rfl⟩
    · replace hM := ifn (of_decide_eq_false hc8) hM
      refine A_exit ?_
      refine hK3 _ _ ?_; try clear hK3 K3
      refine A_seq fun K13 hK13 => ?_
      refine A_block ?_
      refine A_loop (fun tt ll nn => ∃ (n14 : Nat) (n4_ : Int), (shunterref04_Total_l5 n14 n4_ = some r) ∧ Is [(3, Value.int .i64 (n4_))] [] tt ll ∧ nn = n14 + 1) (N + 1) ?_ ?_
      · exact ⟨N, n1_, hM, is_mk rfl rfl, rfl⟩
      · clear hM; rintro t l _ ⟨n14, n4_, hM, ⟨⟨T, rfl⟩, rfl⟩, rfl⟩
        rcases n14 with _ | n14
        · exact absurd hM (by simp [shunterref04_Total_l5])
        rw [shunterref04_Total_l5] at hM
        refine A_seq fun K15 hK15 => ?_
        refine A_seq fun K16 hK16 => ?_
        refine A_reg ?_
        refine r_v (Value.int .i64 (n4_)) rfl rfl rfl rfl ?_
        refine r_v (Value.bool (decide ((n4_ : Int) > 65535))) rfl rfl rfl rfl ?_
        refine lx_nil ?_
        refine hK16 _ _ ?_; try clear hK16 K16
        refine A_cond (decide ((n4_ : Int) > 65535)) rfl (fun hc17 => ?_) (fun hc17 => ?_)
        · replace hM := ifp (of_decide_eq_true hc17) hM
          refine A_skip ?_
          refine hK15 _ _ ?_; try clear hK15 K15
          refine A_block ?_
          refine A_reg ?_
          refine r_v (Value.int .i64 (n4_)) rfl rfl rfl rfl ?_
          replace hM := ck_some hM; obtain ⟨ck18, hM⟩ := hM
          refine r_v (Value.int .i64 ((n4_) / 65536)) rfl rfl (quo_i64 ck18.1 (by decide) ck18.2) rfl ?_
          refine r_v (Value.int .i64 (n4_)) rfl rfl rfl rfl ?_
          replace hM := ck_some hM; obtain ⟨ck19, hM⟩ := hM
          refine r_v (Value.int .i64 ((n4_) % 65536)) rfl rfl (rem_i64 ck19.1) rfl ?_
          replace hM := ck_some hM; obtain ⟨ck20, hM⟩ := hM
          refine r_v (Value.int .i64 (((n4_) / 65536 + (n4_) % 65536))) rfl rfl (wi64 rfl ck20.1 ck20.2) rfl ?_
          refine r_v (Value.int .i64 (((n4_) / 65536 + (n4_) % 65536))) rfl rfl rfl rfl ?_
          refine lx_nil ?_
          refine fg _ (Sub.of (List.Sublist.slnil)) ?_
          exact ⟨n14 + 1, by omega, n14, ((n4_) / 65536 + (n4_) % 65536), hM, is_mk rfl rfl, rfl⟩
        · replace hM := ifn (of_decide_eq_false hc17) hM
          refine A_exit ?_
          refine hK13 _ _ ?_; try clear hK13 K13
          refine A_seq fun K21 hK21 => ?_
          refine A_reg ?_
          refine r_v (Value.int .i64 (n4_)) rfl rfl rfl rfl ?_
          refine r_v (Value.int .i64 (n4_)) rfl rfl rfl rfl ?_
          refine lx_nil ?_
          refine hK21 _ _ ?_; try clear hK21 K21
          obtain rfl := Option.some.inj hM
          refine A_ret (fun hn => endsV (v0 := Value.int .i64 (n4_)) rfl (res1 rfl))
def shunterref04_Sum_m (N : Nat) (b : List UInt8) : Option (Int) := (shunterref04_Words_m N b).bind fun r3 => (shunterref04_Total_m N r3).bind fun r8 => ck ((-9223372036854775808 ≤ (65535 - r8) ∧ (65535 - r8) ≤ 9223372036854775807)) (some ((65535 - r8)))
set_option maxRecDepth 100000 in
set_option maxHeartbeats 400000 in
theorem shunterref04_Sum_g (N : Nat) (b : List UInt8) (r : Int) (hM : shunterref04_Sum_m N b = some r) (ro : Addr → Option Value) (bv : Value) (hb : Rd encY ro bv b) : Does Try.prog 10 #[bv] ro [] (pV (Value.int .i64 (r))) := by
  unfold shunterref04_Sum_m at hM
  refine does_of_A follows Try.func10 rfl 7 rfl (upd (fun _ => undef) 0 (bv)) (by funext k; match k with | 0 => rfl | k + 1 => rfl) (fun base0_ => ?_)
  refine A_seq fun K1 hK1 => ?_
  refine A_reg ?_
  refine r_v (Value.int .i64 (0)) rfl rfl rfl rfl ?_
  refine lx_nil ?_
  refine hK1 _ _ ?_; try clear hK1 K1
  refine A_seq fun K2 hK2 => ?_
  refine A_regC [(some 4, false), (some 5, false)] (conG Try.prog [(4, fun v_ L_ U_ => ∀ u0_, shunterref04_Words_m N b = some u0_ → (p1 (fun s_ => s_) 3 encI (u0_)) v_ L_ U_), (5, fun v_ L_ U_ => ∀ u0_, shunterref04_Words_m N b = some u0_ → ∀ u1_, shunterref04_Total_m N u0_ = some u1_ → (pV (Value.int .i64 (u1_))) v_ L_ U_)]) ?_
  refine r_v (bv) rfl rfl rfl rfl ?_
  replace hM := bind_sm hM; obtain ⟨r3, hr4, hM⟩ := hM
  refine r_g1 (Ls := []) (fun s5 => s5) 3 encI (r3) 24 _ rfl rfl rfl (ev_callF rfl call_24 rfl) (fun own_ nw_ hs_ => shunterref04_Words_g N b _ hr4 hs_.view bv ((rd_ro hb) own_ nw_ hs_)) (fun _ _ v_ L_ U_ => ⟨fun h_ => h_ _ hr4, fun h_ => by intro _ e_; cases Option.some.inj (e_.symm.trans hr4); exact h_⟩) (fun s5 S6 H7 => ?_)
  replace hM := bind_sm hM; obtain ⟨r8, hr9, hM⟩ := hM
  refine r_gv (Value.int .i64 (r8)) 20 _ rfl rfl rfl (ev_callF rfl call_20 rfl) (fun own_ nw_ hs_ => shunterref04_Total_g N r3 _ hr9 hs_.view s5 ((rd_own H7 (mem_chunk (Ls := [S6]) (k := 0) rfl rfl)) own_ nw_ hs_)) (fun _ _ v_ L_ U_ => ⟨fun h_ => h_ _ hr4 _ hr9, fun h_ => by intro _ e_; cases Option.some.inj (e_.symm.trans hr4); intro _ e_; cases Option.some.inj (e_.symm.trans hr9); exact h_⟩) ?_
  replace hM := ck_some hM; obtain ⟨ck10, hM⟩ := hM
  refine r_v (Value.int .i64 ((65535 - r8))) rfl rfl (wi64 rfl ck10.1 ck10.2) rfl ?_
  refine r_v (Value.int .i64 ((65535 - r8))) rfl rfl rfl rfl ?_
  refine lx_nil ?_
  refine hK2 _ _ ?_; try clear hK2 K2
  obtain rfl := Option.some.inj hM
  refine A_ret (fun hn => endsV (v0 := Value.int .i64 ((65535 - r8))) rfl (res1 rfl))
def sum_Right_m (N : Nat) (b : List UInt8) : Option (Bool) := (sum_Of_m N b).bind fun r3 => some (((((r3.toNat : Nat) : Int) : Int) == 0))
set_option maxRecDepth 100000 in
set_option maxHeartbeats 400000 in
theorem sum_Right_g (N : Nat) (b : List UInt8) (r : Bool) (hM : sum_Right_m N b = some r) (ro : Addr → Option Value) (bv : Value) (hb : Rd encY ro bv b) : Does Try.prog 14 #[bv] ro [] (pV (Value.bool (r))) := by
  unfold sum_Right_m at hM
  refine does_of_A follows Try.func14 rfl 6 rfl (upd (fun _ => undef) 0 (bv)) (by funext k; match k with | 0 => rfl | k + 1 => rfl) (fun base0_ => ?_)
  refine A_seq fun K1 hK1 => ?_
  refine A_reg ?_
  refine r_v (Value.bool (false)) rfl rfl rfl rfl ?_
  refine lx_nil ?_
  refine hK1 _ _ ?_; try clear hK1 K1
  refine A_seq fun K2 hK2 => ?_
  refine A_regC [(some 4, false)] (conG Try.prog [(4, fun v_ L_ U_ => ∀ u0_, sum_Of_m N b = some u0_ → (pV (Value.int .u16 (((u0_.toNat : Nat) : Int)))) v_ L_ U_)]) ?_
  refine r_v (bv) rfl rfl rfl rfl ?_
  replace hM := bind_sm hM; obtain ⟨r3, hr4, hM⟩ := hM
  refine r_gv (Value.int .u16 (((r3.toNat : Nat) : Int))) 13 _ rfl rfl rfl (ev_callF rfl call_13 rfl) (fun own_ nw_ hs_ => sum_Of_g N b _ hr4 hs_.view bv ((rd_ro hb) own_ nw_ hs_)) (fun _ _ v_ L_ U_ => ⟨fun h_ => h_ _ hr4, fun h_ => by intro _ e_; cases Option.some.inj (e_.symm.trans hr4); exact h_⟩) ?_
  refine r_v (Value.bool (((((r3.toNat : Nat) : Int) : Int) == 0))) rfl rfl rfl rfl ?_
  refine r_v (Value.bool (((((r3.toNat : Nat) : Int) : Int) == 0))) rfl rfl rfl rfl ?_
  refine lx_nil ?_
  refine hK2 _ _ ?_; try clear hK2 K2
  obtain rfl := Option.some.inj hM
  refine A_ret (fun hn => endsV (v0 := Value.bool (((((r3.toNat : Nat) : Int) : Int) == 0))) rfl (res1 rfl))
def sum_Adder_Add_v2_k1  : Option (Unit) := none
def sum_Adder_Add_v2_m (_ : Nat) (_ : List UInt8) : Option (Unit) := some (())
set_option maxRecDepth 100000 in
set_option maxHeartbeats 400000 in
theorem sum_Adder_Add_v2_g (N : Nat) (b : List UInt8) (r : Unit) (hM : sum_Adder_Add_v2_m N b = some r) (ro : Addr → Option Value) (bv : Value) (_hb : Rd encY ro bv b) : Does Try.prog 9 #[Value.pointer none, bv] ro [] (pV (Value.tuple #[])) := by
  unfold sum_Adder_Add_v2_m at hM
  refine does_of_A follows Try.func9 rfl 68 rfl (upd (upd (fun _ => undef) 1 (bv)) 0 (Value.pointer none)) (by funext k; match k with | 0 => rfl | 1 => rfl | k + 2 => rfl) (fun base0_ => ?_)
  refine A_cut (fun tt ll => (sum_Adder_Add_v2_k1  = some r) ∧ Is [(0, Value.pointer none), (1, bv)] [] tt ll) ?_ ?_
  · refine A_seq fun K2 hK2 => ?_
    refine A_reg ?_
    refine r_v (Value.pointer none) rfl rfl rfl rfl ?_
    refine r_v (Value.bool (true)) rfl rfl rfl rfl ?_
    refine r_v (Value.bool (true)) rfl rfl rfl rfl ?_
    refine r_n true rfl (by decide) rfl ?_
    refine r_n true rfl (by decide) rfl ?_
    refine r_n true rfl (by decide) rfl ?_
    refine r_v (Value.bool (true)) rfl rfl rfl rfl ?_
    refine lx_nil ?_
    refine hK2 _ _ ?_; try clear hK2 K2
    refine A_cond true rfl (fun _ => ?_) (fun h_ => nomatch h_)
    obtain rfl := Option.some.inj hM
    refine A_ret (fun hn => endsV (v0 := Value.tuple #[]) rfl rfl)
  · clear hM; rintro t l ⟨hM, ⟨T, rfl⟩, rfl⟩
    unfold sum_Adder_Add_v2_k1 at hM
    refine A_seq fun K1 hK1 => ?_
    refine A_reg ?_
    refine r_v (Value.pointer none) rfl rfl rfl rfl ?_
    cases hM
def sum_Adder_Total_v2_m (_ : Nat) : Option (UInt16) := some ((0 : UInt16))
set_option maxRecDepth 100000 in
set_option maxHeartbeats 400000 in
theorem sum_Adder_Total_v2_g (N : Nat) (r : UInt16) (hM : sum_Adder_Total_v2_m N = some r) : Gives Try.prog 11 #[Value.pointer none] (Value.int .u16 (((r.toNat : Nat) : Int))) := by
  unfold sum_Adder_Total_v2_m at hM
  refine gives_of_A follows Try.func11 rfl 17 rfl (upd (fun _ => undef) 0 (Value.pointer none)) (by funext k; match k with | 0 => rfl | k + 1 => rfl) (fun base0_ => ?_)
  refine A_seq fun K1 hK1 => ?_
  refine A_reg ?_
  refine r_v (Value.int .u16 (0)) rfl rfl rfl rfl ?_
  refine lx_nil ?_
  refine hK1 _ _ ?_; try clear hK1 K1
  refine A_seq fun K2 hK2 => ?_
  refine A_seq fun K3 hK3 => ?_
  refine A_reg ?_
  refine r_v (Value.pointer none) rfl rfl rfl rfl ?_
  refine r_v (Value.bool (true)) rfl rfl rfl rfl ?_
  refine lx_nil ?_
  refine hK3 _ _ ?_; try clear hK3 K3
  refine A_cond true rfl (fun _ => ?_) (fun h_ => nomatch h_)
  refine A_seq fun K4 hK4 => ?_
  refine A_reg ?_
  refine r_v (Value.int .u16 (0)) rfl rfl rfl rfl ?_
  refine lx_nil ?_
  refine hK4 _ _ ?_; try clear hK4 K4
  obtain rfl := Option.some.inj hM
  refine A_ret (fun hn => ends_eq (v0 := Value.int .u16 (0)) rfl (res1 rfl))
def sum_Adder_Sum_v2_m (N : Nat) : Option (UInt16) := (sum_Adder_Total_v2_m N ).bind fun r3 => some (((65535 : UInt16) - r3))
set_option maxRecDepth 100000 in
set_option maxHeartbeats 400000 in
theorem sum_Adder_Sum_v2_g (N : Nat) (r : UInt16) (hM : sum_Adder_Sum_v2_m N = some r) : Gives Try.prog 12 #[Value.pointer none] (Value.int .u16 (((r.toNat : Nat) : Int))) := by
  unfold sum_Adder_Sum_v2_m at hM
  refine gives_of_A follows Try.func12 rfl 6 rfl (upd (fun _ => undef) 0 (Value.pointer none)) (by funext k; match k with | 0 => rfl | k + 1 => rfl) (fun base0_ => ?_)
  refine A_seq fun K1 hK1 => ?_
  refine A_reg ?_
  refine r_v (Value.int .u16 (0)) rfl rfl rfl rfl ?_
  refine lx_nil ?_
  refine hK1 _ _ ?_; try clear hK1 K1
  refine A_seq fun K2 hK2 => ?_
  refine A_reg ?_
  refine r_v (Value.pointer none) rfl rfl rfl rfl ?_
  replace hM := bind_sm hM; obtain ⟨r3, hr4, hM⟩ := hM
  refine r_c (Value.int .u16 (((r3.toNat : Nat) : Int))) rfl _ _ (ev_callF rfl call_11 rfl) (sum_Adder_Total_v2_g N  _ hr4) ?_
  refine r_v (Value.int .u16 (((((65535 : UInt16) - r3).toNat : Nat) : Int))) rfl rfl (Z16_sub (65535 : UInt16) r3) rfl ?_
  refine r_v (Value.int .u16 (((((65535 : UInt16) - r3).toNat : Nat) : Int))) rfl rfl rfl rfl ?_
  refine lx_nil ?_
  refine hK2 _ _ ?_; try clear hK2 K2
  obtain rfl := Option.some.inj hM
  refine A_ret (fun hn => ends_eq (v0 := Value.int .u16 (((((65535 : UInt16) - r3).toNat : Nat) : Int))) rfl (res1 rfl))
def sum_mayPlace_m (_ : Nat) (b : List UInt8) (at' : Int) : Option (Bool) := if (at' : Int) ≥ 0 then ck (0 ≤ at' ∧ at' ≤ 9223372036854775807) (if ((at') % 2 : Int) = 0 then ck ((-9223372036854775808 ≤ (((b).length : Int) - 2) ∧ (((b).length : Int) - 2) ≤ 9223372036854775807)) (some (decide ((at' : Int) ≤ (((b).length : Int) - 2)))) else some (false)) else some (false)
set_option maxRecDepth 100000 in
set_option maxHeartbeats 400000 in
theorem sum_mayPlace_g (N : Nat) (b : List UInt8) (at' : Int) (r : Bool) (hM : sum_mayPlace_m N b at' = some r) (ro : Addr → Option Value) (bv : Value) (hb : Rd encY ro bv b) : Does Try.prog 25 #[bv, Value.int .i64 (at')] ro [] (pV (Value.bool (r))) := by
  unfold sum_mayPlace_m at hM
  refine does_of_A follows Try.func25 rfl 19 rfl (upd (upd (fun _ => undef) 1 (Value.int .i64 (at'))) 0 (bv)) (by funext k; match k with | 0 => rfl | 1 => rfl | k + 2 => rfl) (fun base0_ => ?_)
  refine A_seq fun K1 hK1 => ?_
  refine A_reg ?_
  refine r_v (Value.bool (false)) rfl rfl rfl rfl ?_
  refine lx_nil ?_
  refine hK1 _ _ ?_; try clear hK1 K1
  refine A_seq fun K2 hK2 => ?_
  refine A_reg ?_
  refine r_v (Value.int .i64 (at')) rfl rfl rfl rfl ?_
  refine r_v (Value.bool (decide ((at' : Int) ≥ 0))) rfl rfl rfl rfl ?_
  refine r_v (Value.bool (decide ((at' : Int) ≥ 0))) rfl rfl rfl rfl ?_
  rcases hg3 : (decide ((at' : Int) ≥ 0)) with _ | _
  · replace hM := ifn (of_decide_eq_false hg3) hM
    refine r_n false rfl (by decide) rfl ?_
    refine r_n false rfl (by decide) rfl ?_
    refine r_n false rfl (by decide) rfl ?_
    refine r_v (Value.bool (false)) rfl rfl rfl rfl ?_
    refine r_v (Value.bool (false)) rfl rfl rfl rfl ?_
    refine r_n false rfl (by decide) rfl ?_
    refine r_n false rfl (by decide) rfl ?_
    refine r_n false rfl (by decide) rfl ?_
    refine r_n false rfl (by decide) rfl ?_
    refine r_n false rfl (by decide) rfl ?_
    refine r_v (Value.bool (false)) rfl rfl rfl rfl ?_
    refine r_v (Value.bool (false)) rfl rfl rfl rfl ?_
    refine lx_nil ?_
    refine hK2 _ _ ?_; try clear hK2 K2
    obtain rfl := Option.some.inj hM
    refine A_ret (fun hn => endsV (v0 := Value.bool (false)) rfl (res1 rfl))
  · replace hM := ifp (of_decide_eq_true hg3) hM
    refine r_y rfl ?_
    refine r_v (Value.int .i64 (at')) rfl rfl rfl rfl ?_
    refine r_y rfl ?_
    replace hM := ck_some hM; obtain ⟨ck4, hM⟩ := hM
    refine r_v (Value.int .i64 ((at') % 2)) rfl rfl (rem_i64 ck4.1) rfl ?_
    refine r_y rfl ?_
    refine r_v (Value.bool ((((at') % 2 : Int) == 0))) rfl rfl rfl rfl ?_
    refine r_v (Value.bool ((((at') % 2 : Int) == 0))) rfl rfl rfl rfl ?_
    refine r_v (Value.bool ((((at') % 2 : Int) == 0))) rfl rfl rfl rfl ?_
    rcases hg5 : ((((at') % 2 : Int) == 0)) with _ | _
    · replace hM := ifn (ne_of_beq_false hg5) hM
      refine r_n false rfl (by decide) rfl ?_
      refine r_n false rfl (by decide) rfl ?_
      refine r_n false rfl (by decide) rfl ?_
      refine r_n false rfl (by decide) rfl ?_
      refine r_n false rfl (by decide) rfl ?_
      refine r_v (Value.bool (false)) rfl rfl rfl rfl ?_
      refine r_v (Value.bool (false)) rfl rfl rfl rfl ?_
      refine lx_nil ?_
      refine hK2 _ _ ?_; try clear hK2 K2
      obtain rfl := Option.some.inj hM
      refine A_ret (fun hn => endsV (v0 := Value.bool (false)) rfl (res1 rfl))
    · replace hM := ifp (eq_of_beq hg5) hM
      refine r_y rfl ?_
      refine r_v (Value.int .i64 (at')) rfl rfl rfl rfl ?_
      refine r_y rfl ?_
      refine r_v (bv) rfl rfl rfl rfl ?_
      refine r_y rfl ?_
      refine r_v (Value.int .i64 (((b).length : Int))) rfl rfl rfl (ev_lenSl rfl rfl rfl (Rd.shp hb)) ?_
      refine r_y rfl ?_
      replace hM := ck_some hM; obtain ⟨ck6, hM⟩ := hM
      refine r_v (Value.int .i64 ((((b).length : Int) - 2))) rfl rfl (wi64 rfl ck6.1 ck6.2) rfl ?_
      refine r_y rfl ?_
      refine r_v (Value.bool (decide ((at' : Int) ≤ (((b).length : Int) - 2)))) rfl rfl rfl rfl ?_
      refine r_v (Value.bool (decide ((at' : Int) ≤ (((b).length : Int) - 2)))) rfl rfl rfl rfl ?_
      refine r_v (Value.bool (decide ((at' : Int) ≤ (((b).length : Int) - 2)))) rfl rfl rfl rfl ?_
      refine lx_nil ?_
      refine hK2 _ _ ?_; try clear hK2 K2
      obtain rfl := Option.some.inj hM
      refine A_ret (fun hn => endsV (v0 := Value.bool (decide ((at' : Int) ≤ (((b).length : Int) - 2)))) rfl (res1 rfl))
def sum_Without_m (N : Nat) (b : List UInt8) (at' : Int) : Option (UInt16 × Bool) := (sum_mayPlace_m N b at').bind fun r4 => if (r4) = true then ck (0 ≤ at' ∧ at' ≤ ((b).length : Int)) ((sum_Adder_Add_v1_m N (0 : UInt16) (0 : UInt8) false (((b).take ((at').toNat)).drop (0))).bind fun r12 => ck ((-9223372036854775808 ≤ (at' + 2) ∧ (at' + 2) ≤ 9223372036854775807)) (ck (0 ≤ (at' + 2) ∧ (at' + 2) ≤ ((b).length : Int)) ((sum_Adder_Add_v1_m N r12.1 r12.2.1 r12.2.2 (((b).take ((b).length)).drop (((at' + 2)).toNat))).bind fun r17 => (sum_Adder_Sum_v1_m N r17.1 r17.2.1 r17.2.2).bind fun r20 => some (r20, true)))) else some ((0 : UInt16), false)
set_option maxRecDepth 100000 in
set_option maxHeartbeats 400000 in
theorem sum_Without_g (N : Nat) (b : List UInt8) (at' : Int) (r : UInt16 × Bool) (hM : sum_Without_m N b at' = some r) (ro : Addr → Option Value) (bv : Value) (hb : Rd encY ro bv b) : Does Try.prog 15 #[bv, Value.int .i64 (at')] ro [] (pV (Value.tuple #[Value.int .u16 (((r.1.toNat : Nat) : Int)), Value.bool (r.2)])) := by
  unfold sum_Without_m at hM
  refine does_of_A follows Try.func15 rfl 21 rfl (upd (upd (fun _ => undef) 1 (Value.int .i64 (at'))) 0 (bv)) (by funext k; match k with | 0 => rfl | 1 => rfl | k + 2 => rfl) (fun base0_ => ?_)
  refine A_seq fun K1 hK1 => ?_
  refine A_reg ?_
  refine r_v (Value.int .u16 (0)) rfl rfl rfl rfl ?_
  refine r_v (Value.bool (false)) rfl rfl rfl rfl ?_
  refine lx_nil ?_
  refine hK1 _ _ ?_; try clear hK1 K1
  refine A_seq fun K2 hK2 => ?_
  refine A_seq fun K3 hK3 => ?_
  refine A_regC [(some 9, false)] (conG Try.prog [(9, fun v_ L_ U_ => ∀ u0_, sum_mayPlace_m N b at' = some u0_ → (pV (Value.bool (u0_))) v_ L_ U_)]) ?_
  refine r_v (bv) rfl rfl rfl rfl ?_
  refine r_v (Value.int .i64 (at')) rfl rfl rfl rfl ?_
  replace hM := bind_sm hM; obtain ⟨r4, hr5, hM⟩ := hM
  refine r_gv (Value.bool (r4)) 25 _ rfl rfl rfl (ev_callF rfl call_25 rfl) (fun own_ nw_ hs_ => sum_mayPlace_g N b at' _ hr5 hs_.view bv ((rd_ro hb) own_ nw_ hs_)) (fun _ _ v_ L_ U_ => ⟨fun h_ => h_ _ hr5, fun h_ => by intro _ e_; cases Option.some.inj (e_.symm.trans hr5); exact h_⟩) ?_
  refine r_v (Value.bool (!(r4))) rfl rfl rfl rfl ?_
  refine lx_nil ?_
  refine hK3 _ _ ?_; try clear hK3 K3
  refine A_cond (!(r4)) rfl (fun hc6 => ?_) (fun hc6 => ?_)
  · replace hM := ifn (Bool.eq_false_iff.1 (not_t hc6)) hM
    refine A_seq fun K7 hK7 => ?_
    refine A_reg ?_
    refine r_v (Value.int .u16 (0)) rfl rfl rfl rfl ?_
    refine r_v (Value.bool (false)) rfl rfl rfl rfl ?_
    refine lx_nil ?_
    refine hK7 _ _ ?_; try clear hK7 K7
    obtain rfl := Option.some.inj hM
    refine A_ret (fun hn => endsV (v0 := Value.tuple #[Value.int .u16 (0), Value.bool (false)]) rfl (res2 rfl rfl))
  · replace hM := ifp (not_f hc6) hM
    refine A_skip ?_
    refine hK2 _ _ ?_; try clear hK2 K2
    refine A_seq fun K8 hK8 => ?_
    refine A_reg ?_
    refine r_a (26, #[Value.int .u16 (0), Value.int .u8 (0), Value.bool (false)]) rfl rfl rfl (fun b9 => ?_) (.inr rfl)
    refine lx_nil ?_
    refine hK8 _ _ ?_; try clear hK8 K8
    refine A_seq fun K10 hK10 => ?_
    refine A_regC [(some 14, true)] (conG Try.prog [(14, fun v_ L_ U_ => ∀ u0_, sum_Adder_Add_v1_m N (0 : UInt16) (0 : UInt8) false (((b).take ((at').toNat)).drop (0)) = some u0_ → (pO (List.flatten [[(b9, 26, #[Value.int .u16 (0), Value.int .u8 (0), Value.bool (false)])]]) (oE (Value.tuple #[]) [[(b9, 26, #[Value.int .u16 (((u0_.1.toNat : Nat) : Int)), Value.int .u8 (((u0_.2.1.toNat : Nat) : Int)), Value.bool (u0_.2.2)])]])) v_ L_ U_)]) ?_
    refine r_v (bv) rfl rfl rfl rfl ?_
    refine r_v (Value.int .i64 (at')) rfl rfl rfl rfl ?_
    replace hM := ck_some hM; obtain ⟨ck11, hM⟩ := hM
    refine r_v (subA bv (0) ((at').toNat) 1) rfl rfl rfl (ev_v (ev_subSl2 rfl rfl rfl rfl (Rd.shp hb) ck11)) ?_
    replace hM := bind_sm hM; obtain ⟨r12, hr13, hM⟩ := hM
    refine r_gm (Ls := [[(b9, 26, #[Value.int .u16 (0), Value.int .u8 (0), Value.bool (false)])]]) (FL := [[(b9, 26, #[Value.int .u16 (0), Value.int .u8 (0), Value.bool (false)])]]) (RL := []) [0] (oE (Value.tuple #[]) [[(b9, 26, #[Value.int .u16 (((r12.1.toNat : Nat) : Int)), Value.int .u8 (((r12.2.1.toNat : Nat) : Int)), Value.bool (r12.2.2)])]]) (some 14) 9 _ rfl rfl rfl rfl rfl (ev_callF rfl call_9 rfl) (fun own_ nw_ hn_ hs_ => sum_Adder_Add_v1_g N (0 : UInt16) (0 : UInt8) false (((b).take ((at').toNat)).drop (0)) _ hr13 _ b9 (subA bv (0) ((at').toNat) 1) (Rd.sub (Rd.mono (ro_sans (Ls := [[(b9, 26, #[Value.int .u16 (0), Value.int .u8 (0), Value.bool (false)])]]) (is := [0]) rfl hs_) hb) (Nat.zero_le _) (toNat_len ck11.2))) (fun _ _ v_ L_ U_ => ⟨fun h_ => h_ _ hr13, fun h_ => by intro _ e_; cases Option.some.inj (e_.symm.trans hr13); exact h_⟩) (NiceO.sub (R := ([(b9, 26, #[Value.int .u16 (0), Value.int .u8 (0), Value.bool (false)])] ++ [])) (niceE rfl) (Sub.pick [[(b9, 26, #[Value.int .u16 (0), Value.int .u8 (0), Value.bool (false)])]] [0] rfl)) ?_
    rintro _ _ ⟨rfl, rfl⟩
    refine lx_perm (Ls := [[(b9, 26, #[Value.int .u16 (((r12.1.toNat : Nat) : Int)), Value.int .u8 (((r12.2.1.toNat : Nat) : Int)), Value.bool (r12.2.2)])]]) (Ls' := [[(b9, 26, #[Value.int .u16 (((r12.1.toNat : Nat) : Int)), Value.int .u8 (((r12.2.1.toNat : Nat) : Int)), Value.bool (r12.2.2)])]]) [0] rfl rfl ?_
    refine lx_nil ?_
    refine hK10 _ _ ?_; try clear hK10 K10
    refine A_seq fun K14 hK14 => ?_
    refine A_regC [(some 19, true)] (conG Try.prog [(19, fun v_ L_ U_ => ∀ u0_, sum_Adder_Add_v1_m N r12.1 r12.2.1 r12.2.2 (((b).take ((b).length)).drop (((at' + 2)).toNat)) = some u0_ → (pO (List.flatten [[(b9, 26, #[Value.int .u16 (((r12.1.toNat : Nat) : Int)), Value.int .u8 (((r12.2.1.toNat : Nat) : Int)), Value.bool (r12.2.2)])]]) (oE (Value.tuple #[]) [[(b9, 26, #[Value.int .u16 (((u0_.1.toNat : Nat) : Int)), Value.int .u8 (((u0_.2.1.toNat : Nat) : Int)), Value.bool (u0_.2.2)])]])) v_ L_ U_)]) ?_
    refine r_v (bv) rfl rfl rfl rfl ?_
    refine r_v (Value.int .i64 (at')) rfl rfl rfl rfl ?_
    replace hM := ck_some hM; obtain ⟨ck15, hM⟩ := hM
    refine r_v (Value.int .i64 ((at' + 2))) rfl rfl (wi64 rfl ck15.1 ck15.2) rfl ?_
    replace hM := ck_some hM; obtain ⟨ck16, hM⟩ := hM
    refine r_v (subA bv (((at' + 2)).toNat) ((b).length) 1) rfl rfl rfl (ev_v (ev_subSl1 rfl rfl rfl rfl (Rd.shp hb) ck16)) ?_
    replace hM := bind_sm hM; obtain ⟨r17, hr18, hM⟩ := hM
    refine r_gm (Ls := [[(b9, 26, #[Value.int .u16 (((r12.1.toNat : Nat) : Int)), Value.int .u8 (((r12.2.1.toNat : Nat) : Int)), Value.bool (r12.2.2)])]]) (FL := [[(b9, 26, #[Value.int .u16 (((r12.1.toNat : Nat) : Int)), Value.int .u8 (((r12.2.1.toNat : Nat) : Int)), Value.bool (r12.2.2)])]]) (RL := []) [0] (oE (Value.tuple #[]) [[(b9, 26, #[Value.int .u16 (((r17.1.toNat : Nat) : Int)), Value.int .u8 (((r17.2.1.toNat : Nat) : Int)), Value.bool (r17.2.2)])]]) (some 19) 9 _ rfl rfl rfl rfl rfl (ev_callF rfl call_9 rfl) (fun own_ nw_ hn_ hs_ => sum_Adder_Add_v1_g N r12.1 r12.2.1 r12.2.2 (((b).take ((b).length)).drop (((at' + 2)).toNat)) _ hr18 _ b9 (subA bv (((at' + 2)).toNat) ((b).length) 1) (Rd.sub (Rd.mono (ro_sans (Ls := [[(b9, 26, #[Value.int .u16 (((r12.1.toNat : Nat) : Int)), Value.int .u8 (((r12.2.1.toNat : Nat) : Int)), Value.bool (r12.2.2)])]]) (is := [0]) rfl hs_) hb) (toNat_len ck16.2) (Nat.le_refl _))) (fun _ _ v_ L_ U_ => ⟨fun h_ => h_ _ hr18, fun h_ => by intro _ e_; cases Option.some.inj (e_.symm.trans hr18); exact h_⟩) (NiceO.sub (R := ([(b9, 26, #[Value.int .u16 (((r12.1.toNat : Nat) : Int)), Value.int .u8 (((r12.2.1.toNat : Nat) : Int)), Value.bool (r12.2.2)])] ++ [])) (niceE rfl) (Sub.pick [[(b9, 26, #[Value.int .u16 (((r12.1.toNat : Nat) : Int)), Value.int .u8 (((r12.2.1.toNat : Nat) : Int)), Value.bool (r12.2.2)])]] [0] rfl)) ?_
    rintro _ _ ⟨rfl, rfl⟩
    refine lx_perm (Ls := [[(b9, 26, #[Value.int .u16 (((r17.1.toNat : Nat) : Int)), Value.int .u8 (((r17.2.1.toNat : Nat) : Int)), Value.bool (r17.2.2)])]]) (Ls' := [[(b9, 26, #[Value.int .u16 (((r17.1.toNat : Nat) : Int)), Value.int .u8 (((r17.2.1.toNat : Nat) : Int)), Value.bool (r17.2.2)])]]) [0] rfl rfl ?_
    refine lx_nil ?_
    refine hK14 _ _ ?_; try clear hK14 K14
    refine A_seq fun K19 hK19 => ?_
    refine A_regC [(some 20, false)] (conG Try.prog [(20, fun v_ L_ U_ => ∀ u0_, sum_Adder_Sum_v1_m N r17.1 r17.2.1 r17.2.2 = some u0_ → (pV (Value.int .u16 (((u0_.toNat : Nat) : Int)))) v_ L_ U_)]) ?_
    replace hM := bind_sm hM; obtain ⟨r20, hr21, hM⟩ := hM
    refine r_gv (Value.int .u16 (((r20.toNat : Nat) : Int))) 12 _ rfl rfl rfl (ev_callF rfl call_12 rfl) (fun own_ nw_ hs_ => sum_Adder_Sum_v1_g N r17.1 r17.2.1 r17.2.2 _ hr21 hs_.view b9 (blk_own 0 rfl rfl own_ nw_ hs_)) (fun _ _ v_ L_ U_ => ⟨fun h_ => h_ _ hr21, fun h_ => by intro _ e_; cases Option.some.inj (e_.symm.trans hr21); exact h_⟩) ?_
    refine r_v (Value.int .u16 (((r20.toNat : Nat) : Int))) rfl rfl rfl rfl ?_
    refine r_v (Value.bool (true)) rfl rfl rfl rfl ?_
    refine lx_nil ?_
    refine hK19 _ _ ?_; try clear hK19 K19
    obtain rfl := Option.some.inj hM
    refine A_ret (fun hn => endsV (v0 := Value.tuple #[Value.int .u16 (((r20.toNat : Nat) : Int)), Value.bool (true)]) rfl (res2 rfl rfl))
def sum_Fix_m (N : Nat) (b : List UInt8) (at' : Int) : Option ((List UInt8) × Bool) := (sum_Without_m N b at').bind fun r3 => if (r3.2) = true then ck ((([] : List UInt8)).length + (b).length ≤ 140737488355328) (ck ((-9223372036854775808 ≤ (at' + 1) ∧ (at' + 1) ≤ 9223372036854775807)) (ck ((0 : Int) ≤ ((8#64).toNat : Int)) (ck (0 ≤ at' ∧ at' < (((([] : List UInt8) ++ b)).length : Int)) (ck (0 ≤ (at' + 1) ∧ (at' + 1) < ((((([] : List UInt8) ++ b)).set ((at').toNat) ((byteI ((((sr16 r3.1 (((8#64).toNat : Int)).toNat).toNat : Nat) : Int))))).length : Int)) (some ((((([] : List UInt8) ++ b)).set ((at').toNat) ((byteI ((((sr16 r3.1 (((8#64).toNat : Int)).toNat).toNat : Nat) : Int))))).set (((at' + 1)).toNat) ((byteI (((r3.1.toNat : Nat) : Int)))), true)))))) else some ([], false)
set_option maxRecDepth 100000 in
set_option maxHeartbeats 400000 in
theorem sum_Fix_g (N : Nat) (b : List UInt8) (at' : Int) (r : (List UInt8) × Bool) (hM : sum_Fix_m N b at' = some r) (ro : Addr → Option Value) (bv : Value) (hb : Rd encY ro bv b) : Does Try.prog 16 #[bv, Value.int .i64 (at')] ro [] (p1 (fun s_ => Value.tuple #[s_, Value.bool (r.2)]) 5 encY r.1) := by
  unfold sum_Fix_m at hM
  refine does_of_A follows Try.func16 rfl 33 rfl (upd (upd (fun _ => undef) 1 (Value.int .i64 (at'))) 0 (bv)) (by funext k; match k with | 0 => rfl | 1 => rfl | k + 2 => rfl) (fun base0_ => ?_)
  refine A_seq fun K1 hK1 => ?_
  refine A_reg ?_
  refine r_v (Value.slice none 0 0) rfl rfl rfl rfl ?_
  refine r_v (Value.bool (false)) rfl rfl rfl rfl ?_
  refine lx_nil ?_
  refine hK1 _ _ ?_; try clear hK1 K1
  refine A_seq fun K2 hK2 => ?_
  refine A_regC [(some 11, false)] (conG Try.prog [(11, fun v_ L_ U_ => ∀ u0_, sum_Without_m N b at' = some u0_ → (pV (Value.tuple #[Value.int .u16 (((u0_.1.toNat : Nat) : Int)), Value.bool (u0_.2)])) v_ L_ U_)]) ?_
  refine r_v (bv) rfl rfl rfl rfl ?_
  refine r_v (Value.int .i64 (at')) rfl rfl rfl rfl ?_
  replace hM := bind_sm hM; obtain ⟨r3, hr4, hM⟩ := hM
  refine r_gv (Value.tuple #[Value.int .u16 (((r3.1.toNat : Nat) : Int)), Value.bool (r3.2)]) 15 _ rfl rfl rfl (ev_callF rfl call_15 rfl) (fun own_ nw_ hs_ => sum_Without_g N b at' _ hr4 hs_.view bv ((rd_ro hb) own_ nw_ hs_)) (fun _ _ v_ L_ U_ => ⟨fun h_ => h_ _ hr4, fun h_ => by intro _ e_; cases Option.some.inj (e_.symm.trans hr4); exact h_⟩) ?_
  refine r_v (Value.tuple #[Value.int .u16 (((r3.1.toNat : Nat) : Int)), Value.bool (r3.2)]) rfl rfl rfl rfl ?_
  refine r_v (Value.int .u16 (((r3.1.toNat : Nat) : Int))) rfl rfl rfl rfl ?_
  refine r_v (Value.bool (r3.2)) rfl rfl rfl rfl ?_
  refine r_v (Value.int .u16 (((r3.1.toNat : Nat) : Int))) rfl rfl rfl rfl ?_
  refine r_v (Value.bool (r3.2)) rfl rfl rfl rfl ?_
  refine lx_nil ?_
  refine hK2 _ _ ?_; try clear hK2 K2
  refine A_seq fun K5 hK5 => ?_
  refine A_seq fun K6 hK6 => ?_
  refine A_reg ?_
  refine r_v (Value.bool (r3.2)) rfl rfl rfl rfl ?_
  refine r_v (Value.bool (!(r3.2))) rfl rfl rfl rfl ?_
  refine lx_nil ?_
  refine hK6 _ _ ?_; try clear hK6 K6
  refine A_cond (!(r3.2)) rfl (fun hc7 => ?_) (fun hc7 => ?_)
  · replace hM := ifn (Bool.eq_false_iff.1 (not_t hc7)) hM
    refine A_seq fun K8 hK8 => ?_
    refine A_reg ?_
    refine r_v (Value.slice none 0 0) rfl rfl rfl rfl ?_
    refine r_v (Value.bool (false)) rfl rfl rfl rfl ?_
    refine lx_nil ?_
    refine hK8 _ _ ?_; try clear hK8 K8
    obtain rfl := Option.some.inj hM
    refine A_ret (fun hn => ends1 (v0 := Value.tuple #[Value.slice none 0 0, Value.bool (false)]) Sl.nil (Sub.nil _) rfl (res2 rfl rfl))
  · replace hM := ifp (not_f hc7) hM
    refine A_skip ?_
    refine hK5 _ _ ?_; try clear hK5 K5
    refine A_seq fun K9 hK9 => ?_
    refine A_regC [(some 19, true)] (conG Try.prog []) ?_
    refine r_v (bv) rfl rfl rfl rfl ?_
    refine r_v (cut0 bv) rfl rfl rfl (ev_v (ev_cut0 rfl rfl rfl rfl (Rd.shp hb))) ?_
    refine r_v (bv) rfl rfl rfl rfl ?_
    replace hM := ck_some hM; obtain ⟨ck10, hM⟩ := hM
    refine lx_nilp [] ?_
    refine r_app (cs0 := []) (Ls := [[]]) 0 (En := encY) rfl rfl rfl rfl rfl (cut0_sl (Rd.shp hb)) rfl (rd_ro hb) rfl rfl rfl rfl rfl (app_b ck10 rfl) (app_m ck10 rfl) rfl (fun s11 S12 H13 => ?_)
    refine r_v (s11) rfl rfl rfl rfl ?_
    refine lx_nil ?_
    refine hK9 _ _ ?_; try clear hK9 K9
    refine A_seq fun K14 hK14 => ?_
    refine A_reg ?_
    refine r_v (s11) rfl rfl rfl rfl ?_
    refine r_v (Value.int .i64 (at')) rfl rfl rfl rfl ?_
    refine r_v (s11) rfl rfl rfl rfl ?_
    refine r_v (Value.int .i64 (at')) rfl rfl rfl rfl ?_
    replace hM := ck_some hM; obtain ⟨ck15, hM⟩ := hM
    refine r_v (Value.int .i64 ((at' + 1))) rfl rfl (wi64 rfl ck15.1 ck15.2) rfl ?_
    refine r_v (Value.int .u16 (((r3.1.toNat : Nat) : Int))) rfl rfl rfl rfl ?_
    replace hM := ck_some hM; obtain ⟨ck16, hM⟩ := hM
    refine r_v (Value.int .u16 ((((sr16 r3.1 (((8#64).toNat : Int)).toNat).toNat : Nat) : Int))) rfl rfl rfl (ev_shrZ16 (x := r3.1) rfl rfl ck16) ?_
    refine r_w (Value.int .u8 ((((byteI ((((sr16 r3.1 (((8#64).toNat : Int)).toNat).toNat : Nat) : Int))).toNat : Nat) : Int))) rfl rfl (u8_wrap ((((sr16 r3.1 (((8#64).toNat : Int)).toNat).toNat : Nat) : Int))) (fun _ => rfl) ?_
    refine r_v (Value.int .u16 (((r3.1.toNat : Nat) : Int))) rfl rfl rfl rfl ?_
    refine r_w (Value.int .u8 ((((byteI (((r3.1.toNat : Nat) : Int))).toNat : Nat) : Int))) rfl rfl (u8_wrap (((r3.1.toNat : Nat) : Int))) (fun _ => rfl) ?_
    replace hM := ck_some hM; obtain ⟨ck17, hM⟩ := hM
    refine r_v (elA s11 ((at').toNat * 1)) rfl rfl rfl (ev_v (ev_idxSl rfl rfl rfl (Sl.shp H13) ck17)) ?_
    refine r_se (Ls := [S12]) 0 (En := encY) (((([] : List UInt8) ++ b))[(at').toNat]!) ((byteI ((((sr16 r3.1 (((8#64).toNat : Int)).toNat).toNat : Nat) : Int)))) ((at').toNat) 0 rfl rfl rfl H13 (get_of ck17) rfl rfl rfl (one_all rfl) rfl (fun S18 H19 => ?_)
    replace hM := ck_some hM; obtain ⟨ck20, hM⟩ := hM
    refine r_v (elA s11 (((at' + 1)).toNat * 1)) rfl rfl rfl (ev_v (ev_idxSl rfl rfl rfl (Sl.shp H19) ck20)) ?_
    refine r_se (Ls := [S18]) 0 (En := encY) ((((([] : List UInt8) ++ b)).set ((at').toNat) ((byteI ((((sr16 r3.1 (((8#64).toNat : Int)).toNat).toNat : Nat) : Int)))))[((at' + 1)).toNat]!) ((byteI (((r3.1.toNat : Nat) : Int)))) (((at' + 1)).toNat) 0 rfl rfl rfl H19 (get_of ck20) rfl rfl rfl (one_all rfl) rfl (fun S21 H22 => ?_)
    refine lx_nil ?_
    refine hK14 _ _ ?_; try clear hK14 K14
    refine A_gen [(0, s11)] rfl (fun T => ?_)
    refine A_seq fun K23 hK23 => ?_
    refine A_reg ?_
    refine r_v (s11) rfl rfl rfl rfl ?_
    refine r_v (s11) rfl rfl rfl rfl ?_
    refine r_v (Value.bool (true)) rfl rfl rfl rfl ?_
    refine lx_nil ?_
    refine hK23 _ _ ?_; try clear hK23 K23
    obtain rfl := Option.some.inj hM
    refine A_ret (fun hn => ends1 (v0 := Value.tuple #[s11, Value.bool (true)]) H22 (sub_one (Sub.pick [S21] [0] rfl)) rfl (res2 rfl rfl))
def shunterref04_Place_m (_ : Nat) (b : List UInt8) (at' : Int) : Option (Bool) := if (at' : Int) ≥ 0 then ck (0 ≤ at' ∧ at' ≤ 9223372036854775807) (if ((at') % 2 : Int) = 0 then ck ((-9223372036854775808 ≤ (((b).length : Int) - 2) ∧ (((b).length : Int) - 2) ≤ 9223372036854775807)) (some (decide ((at' : Int) ≤ (((b).length : Int) - 2)))) else some (false)) else some (false)
set_option maxRecDepth 100000 in
set_option maxHeartbeats 400000 in
theorem shunterref04_Place_g (N : Nat) (b : List UInt8) (at' : Int) (r : Bool) (hM : shunterref04_Place_m N b at' = some r) (ro : Addr → Option Value) (bv : Value) (hb : Rd encY ro bv b) : Does Try.prog 17 #[bv, Value.int .i64 (at')] ro [] (pV (Value.bool (r))) := by
  unfold shunterref04_Place_m at hM
  refine does_of_A follows Try.func17 rfl 19 rfl (upd (upd (fun _ => undef) 1 (Value.int .i64 (at'))) 0 (bv)) (by funext k; match k with | 0 => rfl | 1 => rfl | k + 2 => rfl) (fun base0_ => ?_)
  refine A_seq fun K1 hK1 => ?_
  refine A_reg ?_
  refine r_v (Value.bool (false)) rfl rfl rfl rfl ?_
  refine lx_nil ?_
  refine hK1 _ _ ?_; try clear hK1 K1
  refine A_seq fun K2 hK2 => ?_
  refine A_reg ?_
  refine r_v (Value.int .i64 (at')) rfl rfl rfl rfl ?_
  refine r_v (Value.bool (decide ((at' : Int) ≥ 0))) rfl rfl rfl rfl ?_
  refine r_v (Value.bool (decide ((at' : Int) ≥ 0))) rfl rfl rfl rfl ?_
  rcases hg3 : (decide ((at' : Int) ≥ 0)) with _ | _
  · replace hM := ifn (of_decide_eq_false hg3) hM
    refine r_n false rfl (by decide) rfl ?_
    refine r_n false rfl (by decide) rfl ?_
    refine r_n false rfl (by decide) rfl ?_
    refine r_v (Value.bool (false)) rfl rfl rfl rfl ?_
    refine r_v (Value.bool (false)) rfl rfl rfl rfl ?_
    refine r_n false rfl (by decide) rfl ?_
    refine r_n false rfl (by decide) rfl ?_
    refine r_n false rfl (by decide) rfl ?_
    refine r_n false rfl (by decide) rfl ?_
    refine r_n false rfl (by decide) rfl ?_
    refine r_v (Value.bool (false)) rfl rfl rfl rfl ?_
    refine r_v (Value.bool (false)) rfl rfl rfl rfl ?_
    refine lx_nil ?_
    refine hK2 _ _ ?_; try clear hK2 K2
    obtain rfl := Option.some.inj hM
    refine A_ret (fun hn => endsV (v0 := Value.bool (false)) rfl (res1 rfl))
  · replace hM := ifp (of_decide_eq_true hg3) hM
    refine r_y rfl ?_
    refine r_v (Value.int .i64 (at')) rfl rfl rfl rfl ?_
    refine r_y rfl ?_
    replace hM := ck_some hM; obtain ⟨ck4, hM⟩ := hM
    refine r_v (Value.int .i64 ((at') % 2)) rfl rfl (rem_i64 ck4.1) rfl ?_
    refine r_y rfl ?_
    refine r_v (Value.bool ((((at') % 2 : Int) == 0))) rfl rfl rfl rfl ?_
    refine r_v (Value.bool ((((at') % 2 : Int) == 0))) rfl rfl rfl rfl ?_
    refine r_v (Value.bool ((((at') % 2 : Int) == 0))) rfl rfl rfl rfl ?_
    rcases hg5 : ((((at') % 2 : Int) == 0)) with _ | _
    · replace hM := ifn (ne_of_beq_false hg5) hM
      refine r_n false rfl (by decide) rfl ?_
      refine r_n false rfl (by decide) rfl ?_
      refine r_n false rfl (by decide) rfl ?_
      refine r_n false rfl (by decide) rfl ?_
      refine r_n false rfl (by decide) rfl ?_
      refine r_v (Value.bool (false)) rfl rfl rfl rfl ?_
      refine r_v (Value.bool (false)) rfl rfl rfl rfl ?_
      refine lx_nil ?_
      refine hK2 _ _ ?_; try clear hK2 K2
      obtain rfl := Option.some.inj hM
      refine A_ret (fun hn => endsV (v0 := Value.bool (false)) rfl (res1 rfl))
    · replace hM := ifp (eq_of_beq hg5) hM
      refine r_y rfl ?_
      refine r_v (Value.int .i64 (at')) rfl rfl rfl rfl ?_
      refine r_y rfl ?_
      refine r_v (bv) rfl rfl rfl rfl ?_
      refine r_y rfl ?_
      refine r_v (Value.int .i64 (((b).length : Int))) rfl rfl rfl (ev_lenSl rfl rfl rfl (Rd.shp hb)) ?_
      refine r_y rfl ?_
      replace hM := ck_some hM; obtain ⟨ck6, hM⟩ := hM
      refine r_v (Value.int .i64 ((((b).length : Int) - 2))) rfl rfl (wi64 rfl ck6.1 ck6.2) rfl ?_
      refine r_y rfl ?_
      refine r_v (Value.bool (decide ((at' : Int) ≤ (((b).length : Int) - 2)))) rfl rfl rfl rfl ?_
      refine r_v (Value.bool (decide ((at' : Int) ≤ (((b).length : Int) - 2)))) rfl rfl rfl rfl ?_
      refine r_v (Value.bool (decide ((at' : Int) ≤ (((b).length : Int) - 2)))) rfl rfl rfl rfl ?_
      refine lx_nil ?_
      refine hK2 _ _ ?_; try clear hK2 K2
      obtain rfl := Option.some.inj hM
      refine A_ret (fun hn => endsV (v0 := Value.bool (decide ((at' : Int) ≤ (((b).length : Int) - 2)))) rfl (res1 rfl))
def shunterref04_Without_m (N : Nat) (b : List UInt8) (at' : Int) : Option (Int) := ck ((([] : List UInt8)).length + (b).length ≤ 140737488355328) (ck (0 ≤ at' ∧ at' < (((([] : List UInt8) ++ b)).length : Int)) (ck ((-9223372036854775808 ≤ (at' + 1) ∧ (at' + 1) ≤ 9223372036854775807)) (ck (0 ≤ (at' + 1) ∧ (at' + 1) < ((((([] : List UInt8) ++ b)).set ((at').toNat) ((0 : UInt8))).length : Int)) ((shunterref04_Sum_m N ((((([] : List UInt8) ++ b)).set ((at').toNat) ((0 : UInt8))).set (((at' + 1)).toNat) ((0 : UInt8)))).bind fun r18 => some (r18)))))
set_option maxRecDepth 100000 in
set_option maxHeartbeats 400000 in
theorem shunterref04_Without_g (N : Nat) (b : List UInt8) (at' : Int) (r : Int) (hM : shunterref04_Without_m N b at' = some r) (ro : Addr → Option Value) (bv : Value) (hb : Rd encY ro bv b) : Does Try.prog 18 #[bv, Value.int .i64 (at')] ro [] (pV (Value.int .i64 (r))) := by
  unfold shunterref04_Without_m at hM
  refine does_of_A follows Try.func18 rfl 18 rfl (upd (upd (fun _ => undef) 1 (Value.int .i64 (at'))) 0 (bv)) (by funext k; match k with | 0 => rfl | 1 => rfl | k + 2 => rfl) (fun base0_ => ?_)
  refine A_seq fun K1 hK1 => ?_
  refine A_reg ?_
  refine r_v (Value.int .i64 (0)) rfl rfl rfl rfl ?_
  refine lx_nil ?_
  refine hK1 _ _ ?_; try clear hK1 K1
  refine A_seq fun K2 hK2 => ?_
  refine A_reg ?_
  refine r_v (Value.slice none 0 0) rfl rfl rfl rfl ?_
  refine lx_nil ?_
  refine hK2 _ _ ?_; try clear hK2 K2
  refine A_seq fun K3 hK3 => ?_
  refine A_regC [(some 8, true)] (conG Try.prog []) ?_
  refine r_v (Value.slice none 0 0) rfl rfl rfl rfl ?_
  refine r_v (bv) rfl rfl rfl rfl ?_
  replace hM := ck_some hM; obtain ⟨ck4, hM⟩ := hM
  refine lx_nilp [] ?_
  refine r_app (cs0 := []) (Ls := [[]]) 0 (En := encY) rfl rfl rfl rfl rfl Sl.nil rfl (rd_ro hb) rfl rfl rfl rfl rfl (app_b ck4 rfl) (app_m ck4 rfl) rfl (fun s5 S6 H7 => ?_)
  refine r_v (s5) rfl rfl rfl rfl ?_
  refine lx_nil ?_
  refine hK3 _ _ ?_; try clear hK3 K3
  refine A_seq fun K8 hK8 => ?_
  refine A_reg ?_
  refine r_v (s5) rfl rfl rfl rfl ?_
  refine r_v (Value.int .i64 (at')) rfl rfl rfl rfl ?_
  replace hM := ck_some hM; obtain ⟨ck9, hM⟩ := hM
  refine r_v (elA s5 ((at').toNat * 1)) rfl rfl rfl (ev_v (ev_idxSl rfl rfl rfl (Sl.shp H7) ck9)) ?_
  refine r_se (Ls := [S6]) 0 (En := encY) (((([] : List UInt8) ++ b))[(at').toNat]!) ((0 : UInt8)) ((at').toNat) 0 rfl rfl rfl H7 (get_of ck9) rfl rfl rfl (one_all rfl) rfl (fun S10 H11 => ?_)
  refine lx_nil ?_
  refine hK8 _ _ ?_; try clear hK8 K8
  refine A_seq fun K12 hK12 => ?_
  refine A_reg ?_
  refine r_v (s5) rfl rfl rfl rfl ?_
  refine r_v (Value.int .i64 (at')) rfl rfl rfl rfl ?_
  replace hM := ck_some hM; obtain ⟨ck13, hM⟩ := hM
  refine r_v (Value.int .i64 ((at' + 1))) rfl rfl (wi64 rfl ck13.1 ck13.2) rfl ?_
  replace hM := ck_some hM; obtain ⟨ck14, hM⟩ := hM
  refine r_v (elA s5 (((at' + 1)).toNat * 1)) rfl rfl rfl (ev_v (ev_idxSl rfl rfl rfl (Sl.shp H11) ck14)) ?_
  refine r_se (Ls := [S10]) 0 (En := encY) ((((([] : List UInt8) ++ b)).set ((at').toNat) ((0 : UInt8)))[((at' + 1)).toNat]!) ((0 : UInt8)) (((at' + 1)).toNat) 0 rfl rfl rfl H11 (get_of ck14) rfl rfl rfl (one_all rfl) rfl (fun S15 H16 => ?_)
  refine lx_nil ?_
  refine hK12 _ _ ?_; try clear hK12 K12
  refine A_seq fun K17 hK17 => ?_
  refine A_regC [(some 17, false)] (conG Try.prog [(17, fun v_ L_ U_ => ∀ u0_, shunterref04_Sum_m N ((((([] : List UInt8) ++ b)).set ((at').toNat) ((0 : UInt8))).set (((at' + 1)).toNat) ((0 : UInt8))) = some u0_ → (pV (Value.int .i64 (u0_))) v_ L_ U_)]) ?_
  refine r_v (s5) rfl rfl rfl rfl ?_
  replace hM := bind_sm hM; obtain ⟨r18, hr19, hM⟩ := hM
  refine r_gv (Value.int .i64 (r18)) 10 _ rfl rfl rfl (ev_callF rfl call_10 rfl) (fun own_ nw_ hs_ => shunterref04_Sum_g N ((((([] : List UInt8) ++ b)).set ((at').toNat) ((0 : UInt8))).set (((at' + 1)).toNat) ((0 : UInt8))) _ hr19 hs_.view s5 ((rd_own H16 (mem_chunk (Ls := [S15]) (k := 0) rfl rfl)) own_ nw_ hs_)) (fun _ _ v_ L_ U_ => ⟨fun h_ => h_ _ hr19, fun h_ => by intro _ e_; cases Option.some.inj (e_.symm.trans hr19); exact h_⟩) ?_
  refine r_v (Value.int .i64 (r18)) rfl rfl rfl rfl ?_
  refine lx_nil ?_
  refine hK17 _ _ ?_; try clear hK17 K17
  obtain rfl := Option.some.inj hM
  refine A_ret (fun hn => endsV (v0 := Value.int .i64 (r18)) rfl (res1 rfl))
def sum_Patch_m (N : Nat) (sum : UInt16) (old : UInt16) (fresh : UInt16) : Option (UInt16) := (sum_fold_m N ((BitVec.ofNat 64 ((65535 : UInt16) - sum).toNat + BitVec.ofNat 64 ((65535 : UInt16) - old).toNat) + BitVec.ofNat 64 fresh.toNat)).bind fun r4 => some (((65535 : UInt16) - r4))
set_option maxRecDepth 100000 in
set_option maxHeartbeats 400000 in
theorem sum_Patch_g (N : Nat) (sum : UInt16) (old : UInt16) (fresh : UInt16) (r : UInt16) (hM : sum_Patch_m N sum old fresh = some r) : Gives Try.prog 19 #[Value.int .u16 (((sum.toNat : Nat) : Int)), Value.int .u16 (((old.toNat : Nat) : Int)), Value.int .u16 (((fresh.toNat : Nat) : Int))] (Value.int .u16 (((r.toNat : Nat) : Int))) := by
  unfold sum_Patch_m at hM
  refine gives_of_A follows Try.func19 rfl 21 rfl (upd (upd (upd (fun _ => undef) 2 (Value.int .u16 (((fresh.toNat : Nat) : Int)))) 1 (Value.int .u16 (((old.toNat : Nat) : Int)))) 0 (Value.int .u16 (((sum.toNat : Nat) : Int)))) (by funext k; match k with | 0 => rfl | 1 => rfl | 2 => rfl | k + 3 => rfl) (fun base0_ => ?_)
  refine A_seq fun K1 hK1 => ?_
  refine A_reg ?_
  refine r_v (Value.int .u16 (0)) rfl rfl rfl rfl ?_
  refine lx_nil ?_
  refine hK1 _ _ ?_; try clear hK1 K1
  refine A_seq fun K2 hK2 => ?_
  refine A_reg ?_
  refine r_v (Value.int .u16 (((sum.toNat : Nat) : Int))) rfl rfl rfl rfl ?_
  refine r_v (Value.int .u16 (((((65535 : UInt16) - sum).toNat : Nat) : Int))) rfl rfl (Z16_sub (65535 : UInt16) sum) rfl ?_
  refine r_w (U (BitVec.ofNat 64 ((65535 : UInt16) - sum).toNat)) rfl rfl (u16_u64 ((65535 : UInt16) - sum)) (fun _ => rfl) ?_
  refine r_v (Value.int .u16 (((old.toNat : Nat) : Int))) rfl rfl rfl rfl ?_
  refine r_v (Value.int .u16 (((((65535 : UInt16) - old).toNat : Nat) : Int))) rfl rfl (Z16_sub (65535 : UInt16) old) rfl ?_
  refine r_w (U (BitVec.ofNat 64 ((65535 : UInt16) - old).toNat)) rfl rfl (u16_u64 ((65535 : UInt16) - old)) (fun _ => rfl) ?_
  refine r_v (U ((BitVec.ofNat 64 ((65535 : UInt16) - sum).toNat + BitVec.ofNat 64 ((65535 : UInt16) - old).toNat))) rfl rfl (U_add (BitVec.ofNat 64 ((65535 : UInt16) - sum).toNat) (BitVec.ofNat 64 ((65535 : UInt16) - old).toNat)) rfl ?_
  refine r_v (Value.int .u16 (((fresh.toNat : Nat) : Int))) rfl rfl rfl rfl ?_
  refine r_w (U (BitVec.ofNat 64 fresh.toNat)) rfl rfl (u16_u64 fresh) (fun _ => rfl) ?_
  refine r_v (U (((BitVec.ofNat 64 ((65535 : UInt16) - sum).toNat + BitVec.ofNat 64 ((65535 : UInt16) - old).toNat) + BitVec.ofNat 64 fresh.toNat))) rfl rfl (U_add ((BitVec.ofNat 64 ((65535 : UInt16) - sum).toNat + BitVec.ofNat 64 ((65535 : UInt16) - old).toNat)) (BitVec.ofNat 64 fresh.toNat)) rfl ?_
  refine r_v (U (((BitVec.ofNat 64 ((65535 : UInt16) - sum).toNat + BitVec.ofNat 64 ((65535 : UInt16) - old).toNat) + BitVec.ofNat 64 fresh.toNat))) rfl rfl rfl rfl ?_
  refine lx_nil ?_
  refine hK2 _ _ ?_; try clear hK2 K2
  refine A_seq fun K3 hK3 => ?_
  refine A_reg ?_
  refine r_v (U (((BitVec.ofNat 64 ((65535 : UInt16) - sum).toNat + BitVec.ofNat 64 ((65535 : UInt16) - old).toNat) + BitVec.ofNat 64 fresh.toNat))) rfl rfl rfl rfl ?_
  replace hM := bind_sm hM; obtain ⟨r4, hr5, hM⟩ := hM
  refine r_c (Value.int .u16 (((r4.toNat : Nat) : Int))) rfl _ _ (ev_callF rfl call_22 rfl) (sum_fold_g N ((BitVec.ofNat 64 ((65535 : UInt16) - sum).toNat + BitVec.ofNat 64 ((65535 : UInt16) - old).toNat) + BitVec.ofNat 64 fresh.toNat) _ hr5) ?_
  refine r_v (Value.int .u16 (((((65535 : UInt16) - r4).toNat : Nat) : Int))) rfl rfl (Z16_sub (65535 : UInt16) r4) rfl ?_
  refine r_v (Value.int .u16 (((((65535 : UInt16) - r4).toNat : Nat) : Int))) rfl rfl rfl rfl ?_
  refine lx_nil ?_
  refine hK3 _ _ ?_; try clear hK3 K3
  obtain rfl := Option.some.inj hM
  refine A_ret (fun hn => ends_eq (v0 := Value.int .u16 (((((65535 : UInt16) - r4).toNat : Nat) : Int))) rfl (res1 rfl))
end Go.Proofs.Ytolfjcihohjknaa
