/- models of functions and their walks -/
import Derived.Test.YtdgejbbelmhbdaaBf
namespace Go.Proofs.Ytdgejbbelmhbdaa
open Go Go.RowKit Go.Eng
def encW : Enc (BitVec 128) := ⟨fun x => [U (hi x), U (lo x)], 2, by decide, fun _ => rfl, fun x v h => by simp only [List.mem_cons, List.not_mem_nil, or_false] at h; rcases h with rfl | rfl <;> rfl, True⟩
abbrev enco_34z : EncO (Int × Int × Int × Int × Int × (BitVec 128) × (List UInt8)) := (encoZ (encoZ (encoP (encoF encI) (encoP (encoF encI) (encoP (encoF encI) (encoP (encoF encI) (encoP (encoF encI) (encoP (encoF encW) (encoF encS)))))))))
def shunterlaw07_WireBack_k6 (N : Nat) (ops : List (Int × Int × Int × Int × Int × (BitVec 128) × (List UInt8) × (List (Int × BitVec 128)) × (List Int))) (b1_ : List UInt8) (done2_ : List (Int × Int × Int × Int × Int × (BitVec 128) × (List UInt8))) (i3_ : Int) (rec_shunterlaw07_WireBack_l4 : List UInt8 → List (Int × Int × Int × Int × Int × (BitVec 128) × (List UInt8)) → Int → Option (Bool)) (fits5_ : Bool) : Option (Bool) := if (fits5_) = true then (shunterlaw07_write_v1_m N b1_ ((ops)[(i3_).toNat]!.1) ((ops)[(i3_).toNat]!.2.1) 255 255 ((ops)[(i3_).toNat]!.2.2.2.2.1) ((ops)[(i3_).toNat]!.2.2.2.2.2.1) ((ops)[(i3_).toNat]!.2.2.2.2.2.2.1) ((ops)[(i3_).toNat]!.2.2.2.2.2.2.2.1) ((ops)[(i3_).toNat]!.2.2.2.2.2.2.2.2)).bind fun r36 => SumRow5.on r36.1 (ck ((done2_).length + ([((ops)[(i3_).toNat]!.1, (ops)[(i3_).toNat]!.2.1, 255, 255, (ops)[(i3_).toNat]!.2.2.2.2.1, (ops)[(i3_).toNat]!.2.2.2.2.2.1, (ops)[(i3_).toNat]!.2.2.2.2.2.2.1)]).length ≤ 1172812402961) (ck ((-9223372036854775808 ≤ (i3_ + 1) ∧ (i3_ + 1) ≤ 9223372036854775807)) (rec_shunterlaw07_WireBack_l4 (b1_) ((done2_ ++ ([((ops)[(i3_).toNat]!.1, (ops)[(i3_).toNat]!.2.1, 255, 255, (ops)[(i3_).toNat]!.2.2.2.2.1, (ops)[(i3_).toNat]!.2.2.2.2.2.1, (ops)[(i3_).toNat]!.2.2.2.2.2.2.1)]))) ((i3_ + 1))))) (fun x42_0 => ck ((done2_).length + ([((ops)[(i3_).toNat]!.1, (ops)[(i3_).toNat]!.2.1, 255, 255, (ops)[(i3_).toNat]!.2.2.2.2.1, (ops)[(i3_).toNat]!.2.2.2.2.2.1, (ops)[(i3_).toNat]!.2.2.2.2.2.2.1)]).length ≤ 1172812402961) (ck ((-9223372036854775808 ≤ (i3_ + 1) ∧ (i3_ + 1) ≤ 9223372036854775807)) (rec_shunterlaw07_WireBack_l4 (x42_0) ((done2_ ++ ([((ops)[(i3_).toNat]!.1, (ops)[(i3_).toNat]!.2.1, 255, 255, (ops)[(i3_).toNat]!.2.2.2.2.1, (ops)[(i3_).toNat]!.2.2.2.2.2.1, (ops)[(i3_).toNat]!.2.2.2.2.2.2.1)]))) ((i3_ + 1))))) else ck ((-9223372036854775808 ≤ (i3_ + 1) ∧ (i3_ + 1) ≤ 9223372036854775807)) (rec_shunterlaw07_WireBack_l4 (b1_) (done2_) ((i3_ + 1)))
def shunterlaw07_WireBack_l13 (N : Nat) (cut : Int) (b1_ : List UInt8) (done2_ : List (Int × Int × Int × Int × Int × (BitVec 128) × (List UInt8))) : Nat → Int → List UInt8 → Int → Int → List UInt8 → Int → Int → Option (Bool)
  | 0, _, _, _, _, _, _, _ => none
  | n132 + 1, i8_, s10_, m9__1, m9__2, s12_, m11__1, m11__2 => if (i8_ : Int) < ((done2_).length : Int) then ck (0 ≤ i8_ ∧ i8_ < ((done2_).length : Int)) (if ((done2_)[(i8_).toNat]!.1 : Int) = 0 then (wire_Reader_Byte_v2_m N s10_ m9__1 m9__2 255).bind fun r164 => ck ((r164.2.1).length = (s10_).length) ((wire_Reader_Byte_v2_m N s12_ m11__1 m11__2 255).bind fun r169 => ck ((r169.2.1).length = (s12_).length) (if (r164.1 : Int) = (done2_)[(i8_).toNat]!.2.1 then ck ((-9223372036854775808 ≤ (i8_ + 1) ∧ (i8_ + 1) ≤ 9223372036854775807)) ((shunterlaw07_WireBack_l13 N cut b1_ done2_ n132) ((i8_ + 1)) (r164.2.1) (r164.2.2.1) (r164.2.2.2) (r169.2.1) (r169.2.2.1) (r169.2.2.2)) else some (false))) else if ((done2_)[(i8_).toNat]!.1 : Int) = 1 then (wire_Reader_Two_v1_m N s10_ m9__1 m9__2 65535).bind fun r181 => ck ((r181.2.1).length = (s10_).length) ((wire_Reader_Two_v1_m N s12_ m11__1 m11__2 65535).bind fun r186 => ck ((r186.2.1).length = (s12_).length) (if (r181.1 : Int) = (done2_)[(i8_).toNat]!.2.1 then ck ((-9223372036854775808 ≤ (i8_ + 1) ∧ (i8_ + 1) ≤ 9223372036854775807)) ((shunterlaw07_WireBack_l13 N cut b1_ done2_ n132) ((i8_ + 1)) (r181.2.1) (r181.2.2.1) (r181.2.2.2) (r186.2.1) (r186.2.2.1) (r186.2.2.2)) else some (false))) else if ((done2_)[(i8_).toNat]!.1 : Int) = 2 then (wire_Reader_Four_v1_m N s10_ m9__1 m9__2 4294967295).bind fun r198 => ck ((r198.2.1).length = (s10_).length) ((wire_Reader_Four_v1_m N s12_ m11__1 m11__2 4294967295).bind fun r203 => ck ((r203.2.1).length = (s12_).length) (if (r198.1 : Int) = (done2_)[(i8_).toNat]!.2.1 then ck ((-9223372036854775808 ≤ (i8_ + 1) ∧ (i8_ + 1) ≤ 9223372036854775807)) ((shunterlaw07_WireBack_l13 N cut b1_ done2_ n132) ((i8_ + 1)) (r198.2.1) (r198.2.2.1) (r198.2.2.2) (r203.2.1) (r203.2.2.1) (r203.2.2.2)) else some (false))) else if ((done2_)[(i8_).toNat]!.1 : Int) = 3 then (wire_Reader_Vec_v1_m N s10_ m9__1 m9__2).bind fun r215 => ck ((r215.2.2.1).length = (s10_).length) ((wire_Reader_Vec_v1_m N s12_ m11__1 m11__2).bind fun r220 => ck ((r220.2.2.1).length = (s12_).length) (if (((r215.1) == ((done2_)[(i8_).toNat]!.2.2.2.2.1)) && ((r215.2.1) == ((done2_)[(i8_).toNat]!.2.2.2.2.2.1))) = true then ck ((-9223372036854775808 ≤ (i8_ + 1) ∧ (i8_ + 1) ≤ 9223372036854775807)) ((shunterlaw07_WireBack_l13 N cut b1_ done2_ n132) ((i8_ + 1)) (r215.2.2.1) (r215.2.2.2.1) (r215.2.2.2.2) (r220.2.2.1) (r220.2.2.2.1) (r220.2.2.2.2)) else some (false))) else (wire_Reader_Name_v1_m N s10_ m9__1 m9__2).bind fun r230 => ck ((r230.2.1).length = (s10_).length) ((wire_Reader_Name_v1_m N s12_ m11__1 m11__2).bind fun r235 => ck ((r235.2.1).length = (s12_).length) (if (r230.1) = ((done2_)[(i8_).toNat]!.2.2.2.2.2.2) then ck ((-9223372036854775808 ≤ (i8_ + 1) ∧ (i8_ + 1) ≤ 9223372036854775807)) ((shunterlaw07_WireBack_l13 N cut b1_ done2_ n132) ((i8_ + 1)) (r230.2.1) (r230.2.2.1) (r230.2.2.2) (r235.2.1) (r235.2.2.1) (r235.2.2.2)) else some (false)))) else (wire_Reader_End_v1_m N s12_ m11__1 m11__2).bind fun r245 => Sum46.on r245 ((wire_Why_v1_m N ).bind fun r250 => (wire_Reader_End_v1_m N s10_ m9__1 m9__2).bind fun r254 => Sum46.on r254 ((wire_Reader_Left_v1_m N s10_ m9__1 m9__2).bind fun r259 => if (r259 : Int) = 0 then if (((r250.1 : Int) == 0)) = (decide ((max (0) (cut) : Int) ≥ ((b1_).length : Int))) then if (max (0) (cut) : Int) ≥ ((b1_).length : Int) then (shunterlaw07_lives_m N ).bind fun r267 => some (r267) else if (r250.1 : Int) = 3 then (shunterlaw07_lives_m N ).bind fun r265 => some (r265) else some (false) else some (false) else some (false)) (fun x257_0 x258_1 => some (false))) (fun x248_0 x249_1 => (wire_Why_v2_m N x248_0 x249_1).bind fun r251 => (wire_Reader_End_v1_m N s10_ m9__1 m9__2).bind fun r255 => Sum46.on r255 ((wire_Reader_Left_v1_m N s10_ m9__1 m9__2).bind fun r260 => if (r260 : Int) = 0 then if (((r251.1 : Int) == 0)) = (decide ((max (0) (cut) : Int) ≥ ((b1_).length : Int))) then if (max (0) (cut) : Int) ≥ ((b1_).length : Int) then (shunterlaw07_lives_m N ).bind fun r268 => some (r268) else if (r251.1 : Int) = 3 then (shunterlaw07_lives_m N ).bind fun r266 => some (r266) else some (false) else some (false) else some (false)) (fun x258_0 x259_1 => some (false)))
def shunterlaw07_WireBack_k7 (N : Nat) (cut : Int) (b1_ : List UInt8) (done2_ : List (Int × Int × Int × Int × Int × (BitVec 128) × (List UInt8))) (r117 : (List UInt8) × Int × Int) (r124 : (List UInt8) × Int × Int) : Option (Bool) := shunterlaw07_WireBack_l13 N cut b1_ done2_ N (0) (r117.1) (r117.2.1) (r117.2.2) (r124.1) (r124.2.1) (r124.2.2)
def shunterlaw07_WireBack_l4 (N : Nat) (ops : List (Int × Int × Int × Int × Int × (BitVec 128) × (List UInt8) × (List (Int × BitVec 128)) × (List Int))) (cut : Int) : Nat → List UInt8 → List (Int × Int × Int × Int × Int × (BitVec 128) × (List UInt8)) → Int → Option (Bool)
  | 0, _, _, _ => none
  | n14 + 1, b1_, done2_, i3_ => if (i3_ : Int) < ((ops).length : Int) then ck (0 ≤ i3_ ∧ i3_ < ((ops).length : Int)) (ck ((0 : Int) ≤ ((BitVec.ofInt 64 (max (0) (min ((ops)[(i3_).toNat]!.1) (2)))).toNat : Int)) (if ((ops)[(i3_).toNat]!.1 : Int) ≥ 0 then if ((ops)[(i3_).toNat]!.1 : Int) ≤ 2 then if ((ops)[(i3_).toNat]!.2.1 : Int) ≥ 0 then ck ((-9223372036854775808 ≤ (8 * (shlI (1 : Int) (((BitVec.ofInt 64 (max (0) (min ((ops)[(i3_).toNat]!.1) (2)))).toNat : Int)).toNat)) ∧ (8 * (shlI (1 : Int) (((BitVec.ofInt 64 (max (0) (min ((ops)[(i3_).toNat]!.1) (2)))).toNat : Int)).toNat)) ≤ 9223372036854775807)) (ck ((0 : Int) ≤ ((BitVec.ofInt 64 ((8 * (shlI (1 : Int) (((BitVec.ofInt 64 (max (0) (min ((ops)[(i3_).toNat]!.1) (2)))).toNat : Int)).toNat)))).toNat : Int)) (if ((ops)[(i3_).toNat]!.2.1 : Int) < (shlI (1 : Int) (((BitVec.ofInt 64 ((8 * (shlI (1 : Int) (((BitVec.ofInt 64 (max (0) (min ((ops)[(i3_).toNat]!.1) (2)))).toNat : Int)).toNat)))).toNat : Int)).toNat) then shunterlaw07_WireBack_k6 N ops b1_ done2_ i3_ (shunterlaw07_WireBack_l4 N ops cut n14) (true) else if ((ops)[(i3_).toNat]!.1 : Int) = 3 then (shunterref02_May_m N ((ops)[(i3_).toNat]!.2.2.2.2.1) ((ops)[(i3_).toNat]!.2.2.2.2.2.1)).bind fun r110 => if (r110) = true then shunterlaw07_WireBack_k6 N ops b1_ done2_ i3_ (shunterlaw07_WireBack_l4 N ops cut n14) (true) else if ((ops)[(i3_).toNat]!.1 : Int) = 4 then (shunterref05_May_m N ((ops)[(i3_).toNat]!.2.2.2.2.2.2.1)).bind fun r114 => shunterlaw07_WireBack_k6 N ops b1_ done2_ i3_ (shunterlaw07_WireBack_l4 N ops cut n14) (r114) else shunterlaw07_WireBack_k6 N ops b1_ done2_ i3_ (shunterlaw07_WireBack_l4 N ops cut n14) (false) else if ((ops)[(i3_).toNat]!.1 : Int) = 4 then (shunterref05_May_m N ((ops)[(i3_).toNat]!.2.2.2.2.2.2.1)).bind fun r108 => shunterlaw07_WireBack_k6 N ops b1_ done2_ i3_ (shunterlaw07_WireBack_l4 N ops cut n14) (r108) else shunterlaw07_WireBack_k6 N ops b1_ done2_ i3_ (shunterlaw07_WireBack_l4 N ops cut n14) (false))) else if ((ops)[(i3_).toNat]!.1 : Int) = 3 then (shunterref02_May_m N ((ops)[(i3_).toNat]!.2.2.2.2.1) ((ops)[(i3_).toNat]!.2.2.2.2.2.1)).bind fun r97 => if (r97) = true then shunterlaw07_WireBack_k6 N ops b1_ done2_ i3_ (shunterlaw07_WireBack_l4 N ops cut n14) (true) else if ((ops)[(i3_).toNat]!.1 : Int) = 4 then (shunterref05_May_m N ((ops)[(i3_).toNat]!.2.2.2.2.2.2.1)).bind fun r101 => shunterlaw07_WireBack_k6 N ops b1_ done2_ i3_ (shunterlaw07_WireBack_l4 N ops cut n14) (r101) else shunterlaw07_WireBack_k6 N ops b1_ done2_ i3_ (shunterlaw07_WireBack_l4 N ops cut n14) (false) else if ((ops)[(i3_).toNat]!.1 : Int) = 4 then (shunterref05_May_m N ((ops)[(i3_).toNat]!.2.2.2.2.2.2.1)).bind fun r95 => shunterlaw07_WireBack_k6 N ops b1_ done2_ i3_ (shunterlaw07_WireBack_l4 N ops cut n14) (r95) else shunterlaw07_WireBack_k6 N ops b1_ done2_ i3_ (shunterlaw07_WireBack_l4 N ops cut n14) (false) else if ((ops)[(i3_).toNat]!.1 : Int) = 3 then (shunterref02_May_m N ((ops)[(i3_).toNat]!.2.2.2.2.1) ((ops)[(i3_).toNat]!.2.2.2.2.2.1)).bind fun r86 => if (r86) = true then shunterlaw07_WireBack_k6 N ops b1_ done2_ i3_ (shunterlaw07_WireBack_l4 N ops cut n14) (true) else if ((ops)[(i3_).toNat]!.1 : Int) = 4 then (shunterref05_May_m N ((ops)[(i3_).toNat]!.2.2.2.2.2.2.1)).bind fun r90 => shunterlaw07_WireBack_k6 N ops b1_ done2_ i3_ (shunterlaw07_WireBack_l4 N ops cut n14) (r90) else shunterlaw07_WireBack_k6 N ops b1_ done2_ i3_ (shunterlaw07_WireBack_l4 N ops cut n14) (false) else if ((ops)[(i3_).toNat]!.1 : Int) = 4 then (shunterref05_May_m N ((ops)[(i3_).toNat]!.2.2.2.2.2.2.1)).bind fun r84 => shunterlaw07_WireBack_k6 N ops b1_ done2_ i3_ (shunterlaw07_WireBack_l4 N ops cut n14) (r84) else shunterlaw07_WireBack_k6 N ops b1_ done2_ i3_ (shunterlaw07_WireBack_l4 N ops cut n14) (false) else if ((ops)[(i3_).toNat]!.1 : Int) = 3 then (shunterref02_May_m N ((ops)[(i3_).toNat]!.2.2.2.2.1) ((ops)[(i3_).toNat]!.2.2.2.2.2.1)).bind fun r75 => if (r75) = true then shunterlaw07_WireBack_k6 N ops b1_ done2_ i3_ (shunterlaw07_WireBack_l4 N ops cut n14) (true) else if ((ops)[(i3_).toNat]!.1 : Int) = 4 then (shunterref05_May_m N ((ops)[(i3_).toNat]!.2.2.2.2.2.2.1)).bind fun r79 => shunterlaw07_WireBack_k6 N ops b1_ done2_ i3_ (shunterlaw07_WireBack_l4 N ops cut n14) (r79) else shunterlaw07_WireBack_k6 N ops b1_ done2_ i3_ (shunterlaw07_WireBack_l4 N ops cut n14) (false) else if ((ops)[(i3_).toNat]!.1 : Int) = 4 then (shunterref05_May_m N ((ops)[(i3_).toNat]!.2.2.2.2.2.2.1)).bind fun r73 => shunterlaw07_WireBack_k6 N ops b1_ done2_ i3_ (shunterlaw07_WireBack_l4 N ops cut n14) (r73) else shunterlaw07_WireBack_k6 N ops b1_ done2_ i3_ (shunterlaw07_WireBack_l4 N ops cut n14) (false))) else (wire_Read_m N b1_).bind fun r117 => ck (0 ≤ max (0) (min (cut) (((b1_).length : Int))) ∧ max (0) (min (cut) (((b1_).length : Int))) ≤ ((b1_).length : Int)) ((wire_Read_m N (((b1_).take ((max (0) (min (cut) (((b1_).length : Int)))).toNat)).drop (0))).bind fun r124 => shunterlaw07_WireBack_k7 N cut b1_ done2_ r117 r124 )
def shunterlaw07_WireBack_m (N : Nat) (ops : List (Int × Int × Int × Int × Int × (BitVec 128) × (List UInt8) × (List (Int × BitVec 128)) × (List Int))) (cut : Int) : Option (Bool) := (shunterlaw07_light_m N ops).bind fun r4 => if (r4) = true then shunterlaw07_WireBack_l4 N ops cut N ([]) ([]) (0) else (shunterlaw07_lives_m N ).bind fun r8 => some (r8)
set_option maxRecDepth 100000 in
set_option maxHeartbeats 8000000 in
theorem shunterlaw07_WireBack_g (N : Nat) (ops : List (Int × Int × Int × Int × Int × (BitVec 128) × (List UInt8) × (List (Int × BitVec 128)) × (List Int))) (cut : Int) (r : Bool) (hM : shunterlaw07_WireBack_m N ops cut = some r) (ro : Addr → Option Value) (opsv : Value) (hops : RdN encr_34 ro opsv ops) : Does Try.prog 5 #[opsv, Value.int .i64 (cut)] ro [] (pV (Value.bool (r))) := by
  unfold shunterlaw07_WireBack_m at hM
  refine does_of_A follows Try.func5 rfl 206 rfl (upd (upd (fun _ => undef) 1 (Value.int .i64 (cut))) 0 (opsv)) (by funext k; match k with | 0 => rfl | 1 => rfl | k + 2 => rfl) (fun base0_ => ?_)
  refine A_seq fun K1 hK1 => ?_
  refine A_reg ?_
  refine r_v (Value.bool (false)) rfl rfl rfl rfl ?_
  refine lx_nil ?_
  refine hK1 _ _ ?_; try clear hK1 K1
  refine A_seq fun K2 hK2 => ?_
  refine A_seq fun K3 hK3 => ?_
  refine A_regC [(some 22, false)] (conG Try.prog [(22, fun _ _ v_ L_ U_ => ∀ u0_, shunterlaw07_light_m N ops = some u0_ → (pV (Value.bool (u0_))) v_ L_ U_)]) ?_
  refine r_v (opsv) rfl rfl rfl rfl ?_
  replace hM := bind_sm hM; obtain ⟨r4, hr5, hM⟩ := hM
  refine r_gv (Value.bool (r4)) 6 _ rfl rfl rfl (ev_callF rfl call_6 rfl) (fun own_ nw_ hs_ => shunterlaw07_light_g N ops _ hr5 hs_.view opsv ((fun own_ nw_ hs_ => RdN.mono hs_.ro_cell hops) own_ nw_ hs_)) (fun _ _ v_ L_ U_ => ⟨fun h_ => h_ _ hr5, fun h_ => by intro _ e_; cases Option.some.inj (e_.symm.trans hr5); exact h_⟩) ?_
  refine r_v (Value.bool (!(r4))) rfl rfl rfl rfl ?_
  refine lx_nil ?_
  refine hK3 _ _ ?_; try clear hK3 K3
  refine A_cond (!(r4)) rfl (fun hc6 => ?_) (fun hc6 => ?_)
  · replace hM := ifn (Bool.eq_false_iff.1 (not_t hc6)) hM
    refine A_seq fun K7 hK7 => ?_
    refine A_reg ?_
    replace hM := bind_sm hM; obtain ⟨r8, hr9, hM⟩ := hM
    refine r_c (Value.bool (r8)) rfl _ _ (ev_callF rfl call_7 rfl) (shunterlaw07_lives_g N  _ hr9) ?_
    refine r_v (Value.bool (r8)) rfl rfl rfl rfl ?_
    refine lx_nil ?_
    refine hK7 _ _ ?_; try clear hK7 K7
    obtain rfl := Option.some.inj hM
    refine A_ret (fun hn => endsV (v0 := Value.bool (r8)) rfl (res1 rfl))
  · replace hM := ifp (not_f hc6) hM
    refine A_skip ?_
    refine hK2 _ _ ?_; try clear hK2 K2
    refine A_seq fun K10 hK10 => ?_
    refine A_reg ?_
    refine r_v (Value.slice none 0 0) rfl rfl rfl rfl ?_
    refine lx_nil ?_
    refine hK10 _ _ ?_; try clear hK10 K10
    refine A_seq fun K11 hK11 => ?_
    refine A_reg ?_
    refine r_v (Value.slice none 0 0) rfl rfl rfl rfl ?_
    refine lx_nil ?_
    refine hK11 _ _ ?_; try clear hK11 K11
    refine A_seq fun K12 hK12 => ?_
    refine A_seq fun K13 hK13 => ?_
    refine A_reg ?_
    refine r_v (Value.int .i64 (0)) rfl rfl rfl rfl ?_
    refine lx_nil ?_
    refine hK13 _ _ ?_; try clear hK13 K13
    refine A_block ?_
    refine A_forget _ (Sub.pickE (Ls := [[], []]) (Ls0 := []) rfl [0, 1] rfl) ?_
    refine A_loop (fun tt ll nn => ∃ (n14 : Nat) (b1_ : List UInt8) (done2_ : List (Int × Int × Int × Int × Int × (BitVec 128) × (List UInt8))) (i3_ : Int), (shunterlaw07_WireBack_l4 N ops cut n14 b1_ done2_ i3_ = some r) ∧ ∃ (vb1_ : Value) (Sb1_ : List Bl), Sl 5 encY vb1_ b1_ Sb1_ ∧ ∃ (vdone2_ : Value) (Sdone2_ : List Bl), SlO 34 enco_34z vdone2_ done2_ Sdone2_ ∧ Is [(0, opsv), (1, Value.int .i64 (cut)), (5, vb1_), (6, vdone2_), (7, Value.int .i64 (i3_))] (List.flatten [Sb1_, Sdone2_]) tt ll ∧ nn = n14 + 1) (N + 1) ?_ ?_
    · exact ⟨N, [], [], 0, hM, Value.slice none 0 0, [], Sl.nil, Value.slice none 0 0, [], SlO.nil, is_mk rfl rfl, rfl⟩
    · clear hM; rintro t l _ ⟨n14, b1_, done2_, i3_, hM, vb1_, Sb1_, hb1_, vdone2_, Sdone2_, hdone2_, ⟨⟨T, rfl⟩, rfl⟩, rfl⟩
      rcases n14 with _ | n14
      · exact absurd hM (by simp [shunterlaw07_WireBack_l4])
      rw [shunterlaw07_WireBack_l4] at hM
      refine A_seq fun K15 hK15 => ?_
      refine A_seq fun K16 hK16 => ?_
      refine A_reg ?_
      refine r_v (Value.int .i64 (i3_)) rfl rfl rfl rfl ?_
      refine r_v (opsv) rfl rfl rfl rfl ?_
      refine r_v (Value.int .i64 (((ops).length : Int))) rfl rfl rfl (ev_lenSl rfl rfl rfl (RdN.shp hops)) ?_
      refine r_v (Value.bool (decide ((i3_ : Int) < ((ops).length : Int)))) rfl rfl rfl rfl ?_
      refine lx_nil ?_
      refine hK16 _ _ ?_; try clear hK16 K16
      refine A_cond (decide ((i3_ : Int) < ((ops).length : Int))) rfl (fun hc17 => ?_) (fun hc17 => ?_)
      · replace hM := ifp (of_decide_eq_true hc17) hM
        refine A_skip ?_
        refine hK15 _ _ ?_; try clear hK15 K15
        refine A_seq fun K18 hK18 => ?_
        refine A_block ?_
        refine A_seq fun K19 hK19 => ?_
        refine A_reg ?_
        refine r_v (opsv) rfl rfl rfl rfl ?_
        refine r_v (Value.int .i64 (i3_)) rfl rfl rfl rfl ?_
        replace hM := ck_some hM; obtain ⟨ck20, hM⟩ := hM
        obtain ⟨_, ⟨s21, s22, hs23, hs24, rfl⟩, hat25⟩ := RdN.at (E := encr_34) hops (get_of ck20)
        refine r_v (elA opsv ((i3_).toNat * 10)) rfl rfl rfl (ev_v (ev_idxSl rfl rfl rfl (RdN.shp hops) ck20)) ?_
        refine r_at (Value.agg #[Value.int .i64 ((ops)[(i3_).toNat]!.1), Value.int .i64 ((ops)[(i3_).toNat]!.2.1), Value.int .i64 ((ops)[(i3_).toNat]!.2.2.1), Value.int .i64 ((ops)[(i3_).toNat]!.2.2.2.1), Value.int .i64 ((ops)[(i3_).toNat]!.2.2.2.2.1), U (hi ((ops)[(i3_).toNat]!.2.2.2.2.2.1)), U (lo ((ops)[(i3_).toNat]!.2.2.2.2.2.1)), Value.string (⟨((ops)[(i3_).toNat]!.2.2.2.2.2.2.1).toArray⟩), s21, s22]) (vs := [Value.int .i64 ((ops)[(i3_).toNat]!.1), Value.int .i64 ((ops)[(i3_).toNat]!.2.1), Value.int .i64 ((ops)[(i3_).toNat]!.2.2.1), Value.int .i64 ((ops)[(i3_).toNat]!.2.2.2.1), Value.int .i64 ((ops)[(i3_).toNat]!.2.2.2.2.1), U (hi ((ops)[(i3_).toNat]!.2.2.2.2.2.1)), U (lo ((ops)[(i3_).toNat]!.2.2.2.2.2.1)), Value.string (⟨((ops)[(i3_).toNat]!.2.2.2.2.2.2.1).toArray⟩), s21, s22]) ((i3_).toNat * 10) 0 rfl rfl (fun own_ nw_ hs_ => At.mono hs_.ro_cell hat25) rfl ?_
        refine r_a (34, #[Value.int .i64 (0), Value.int .i64 (0), Value.int .i64 (0), Value.int .i64 (0), Value.int .i64 (0), U (0#64), U (0#64), Value.string (⟨#[]⟩), Value.slice none 0 0, Value.slice none 0 0]) rfl rfl rfl (fun b26 => ?_) (.inr rfl)
        refine r_s (List.flatten [[(b26, 34, #[Value.int .i64 ((ops)[(i3_).toNat]!.1), Value.int .i64 ((ops)[(i3_).toNat]!.2.1), Value.int .i64 ((ops)[(i3_).toNat]!.2.2.1), Value.int .i64 ((ops)[(i3_).toNat]!.2.2.2.1), Value.int .i64 ((ops)[(i3_).toNat]!.2.2.2.2.1), U (hi ((ops)[(i3_).toNat]!.2.2.2.2.2.1)), U (lo ((ops)[(i3_).toNat]!.2.2.2.2.2.1)), Value.string (⟨((ops)[(i3_).toNat]!.2.2.2.2.2.2.1).toArray⟩), s21, s22])], Sb1_, Sdone2_]) 0 _ _ _ (#[Value.int .i64 (0), Value.int .i64 (0), Value.int .i64 (0), Value.int .i64 (0), Value.int .i64 (0), U (0#64), U (0#64), Value.string (⟨#[]⟩), Value.slice none 0 0, Value.slice none 0 0]) (#[Value.int .i64 ((ops)[(i3_).toNat]!.1), Value.int .i64 ((ops)[(i3_).toNat]!.2.1), Value.int .i64 ((ops)[(i3_).toNat]!.2.2.1), Value.int .i64 ((ops)[(i3_).toNat]!.2.2.2.1), Value.int .i64 ((ops)[(i3_).toNat]!.2.2.2.2.1), U (hi ((ops)[(i3_).toNat]!.2.2.2.2.2.1)), U (lo ((ops)[(i3_).toNat]!.2.2.2.2.2.1)), Value.string (⟨((ops)[(i3_).toNat]!.2.2.2.2.2.2.1).toArray⟩), s21, s22]) (#[Value.int .i64 ((ops)[(i3_).toNat]!.1), Value.int .i64 ((ops)[(i3_).toNat]!.2.1), Value.int .i64 ((ops)[(i3_).toNat]!.2.2.1), Value.int .i64 ((ops)[(i3_).toNat]!.2.2.2.1), Value.int .i64 ((ops)[(i3_).toNat]!.2.2.2.2.1), U (hi ((ops)[(i3_).toNat]!.2.2.2.2.2.1)), U (lo ((ops)[(i3_).toNat]!.2.2.2.2.2.1)), Value.string (⟨((ops)[(i3_).toNat]!.2.2.2.2.2.2.1).toArray⟩), s21, s22]) rfl rfl rfl rfl (.ofS rfl rfl (all_cons' rfl (all_cons' rfl (all_cons' rfl (all_cons' rfl (all_cons' rfl (all_cons' rfl (all_cons' rfl (all_cons' rfl (all_cons' (Shp.one (Rd.shp hs23)) (all_cons' (Shp.one (Rd.shp hs24)) all_nil'))))))))))) rfl rfl ?_
        refine lx_nil ?_
        refine hK19 _ _ ?_; try clear hK19 K19
        refine A_seq fun K27 hK27 => ?_
        refine A_reg ?_
        refine r_v (Value.pointer (some ⟨b26, 2, none⟩)) rfl rfl rfl rfl ?_
        refine r_s (List.flatten [[(b26, 34, #[Value.int .i64 ((ops)[(i3_).toNat]!.1), Value.int .i64 ((ops)[(i3_).toNat]!.2.1), Value.int .i64 (255), Value.int .i64 ((ops)[(i3_).toNat]!.2.2.2.1), Value.int .i64 ((ops)[(i3_).toNat]!.2.2.2.2.1), U (hi ((ops)[(i3_).toNat]!.2.2.2.2.2.1)), U (lo ((ops)[(i3_).toNat]!.2.2.2.2.2.1)), Value.string (⟨((ops)[(i3_).toNat]!.2.2.2.2.2.2.1).toArray⟩), s21, s22])], Sb1_, Sdone2_]) 0 _ _ _ (#[Value.int .i64 ((ops)[(i3_).toNat]!.1), Value.int .i64 ((ops)[(i3_).toNat]!.2.1), Value.int .i64 ((ops)[(i3_).toNat]!.2.2.1), Value.int .i64 ((ops)[(i3_).toNat]!.2.2.2.1), Value.int .i64 ((ops)[(i3_).toNat]!.2.2.2.2.1), U (hi ((ops)[(i3_).toNat]!.2.2.2.2.2.1)), U (lo ((ops)[(i3_).toNat]!.2.2.2.2.2.1)), Value.string (⟨((ops)[(i3_).toNat]!.2.2.2.2.2.2.1).toArray⟩), s21, s22]) (#[Value.int .i64 (255)]) (#[Value.int .i64 ((ops)[(i3_).toNat]!.1), Value.int .i64 ((ops)[(i3_).toNat]!.2.1), Value.int .i64 (255), Value.int .i64 ((ops)[(i3_).toNat]!.2.2.2.1), Value.int .i64 ((ops)[(i3_).toNat]!.2.2.2.2.1), U (hi ((ops)[(i3_).toNat]!.2.2.2.2.2.1)), U (lo ((ops)[(i3_).toNat]!.2.2.2.2.2.1)), Value.string (⟨((ops)[(i3_).toNat]!.2.2.2.2.2.2.1).toArray⟩), s21, s22]) rfl rfl rfl rfl (.of rfl rfl) rfl rfl ?_
        refine lx_nil ?_
        refine hK27 _ _ ?_; try clear hK27 K27
        refine A_seq fun K28 hK28 => ?_
        refine A_reg ?_
        refine r_v (Value.pointer (some ⟨b26, 3, none⟩)) rfl rfl rfl rfl ?_
        refine r_s (List.flatten [[(b26, 34, #[Value.int .i64 ((ops)[(i3_).toNat]!.1), Value.int .i64 ((ops)[(i3_).toNat]!.2.1), Value.int .i64 (255), Value.int .i64 (255), Value.int .i64 ((ops)[(i3_).toNat]!.2.2.2.2.1), U (hi ((ops)[(i3_).toNat]!.2.2.2.2.2.1)), U (lo ((ops)[(i3_).toNat]!.2.2.2.2.2.1)), Value.string (⟨((ops)[(i3_).toNat]!.2.2.2.2.2.2.1).toArray⟩), s21, s22])], Sb1_, Sdone2_]) 0 _ _ _ (#[Value.int .i64 ((ops)[(i3_).toNat]!.1), Value.int .i64 ((ops)[(i3_).toNat]!.2.1), Value.int .i64 (255), Value.int .i64 ((ops)[(i3_).toNat]!.2.2.2.1), Value.int .i64 ((ops)[(i3_).toNat]!.2.2.2.2.1), U (hi ((ops)[(i3_).toNat]!.2.2.2.2.2.1)), U (lo ((ops)[(i3_).toNat]!.2.2.2.2.2.1)), Value.string (⟨((ops)[(i3_).toNat]!.2.2.2.2.2.2.1).toArray⟩), s21, s22]) (#[Value.int .i64 (255)]) (#[Value.int .i64 ((ops)[(i3_).toNat]!.1), Value.int .i64 ((ops)[(i3_).toNat]!.2.1), Value.int .i64 (255), Value.int .i64 (255), Value.int .i64 ((ops)[(i3_).toNat]!.2.2.2.2.1), U (hi ((ops)[(i3_).toNat]!.2.2.2.2.2.1)), U (lo ((ops)[(i3_).toNat]!.2.2.2.2.2.1)), Value.string (⟨((ops)[(i3_).toNat]!.2.2.2.2.2.2.1).toArray⟩), s21, s22]) rfl rfl rfl rfl (.of rfl rfl) rfl rfl ?_
        refine lx_nil ?_
        refine hK28 _ _ ?_; try clear hK28 K28
        refine A_seq fun K29 hK29 => ?_
        refine A_reg ?_
        refine r_v (Value.pointer (some ⟨b26, 0, none⟩)) rfl rfl rfl rfl ?_
        refine r_l (Value.int .i64 ((ops)[(i3_).toNat]!.1)) 0 _ _ _ _ rfl rfl rfl rfl rfl ?_
        refine r_v (Value.int .i64 (min ((ops)[(i3_).toNat]!.1) (2))) rfl rfl rfl (ev_min rfl rfl) ?_
        refine r_v (Value.int .i64 (max (0) (min ((ops)[(i3_).toNat]!.1) (2)))) rfl rfl rfl (ev_max rfl rfl) ?_
        refine r_w (U (BitVec.ofInt 64 (max (0) (min ((ops)[(i3_).toNat]!.1) (2))))) rfl rfl (U_wrapI (max (0) (min ((ops)[(i3_).toNat]!.1) (2)))) (fun _ => rfl) ?_
        replace hM := ck_some hM; obtain ⟨ck30, hM⟩ := hM
        refine r_v (Value.int .i64 ((shlI (1 : Int) (((BitVec.ofInt 64 (max (0) (min ((ops)[(i3_).toNat]!.1) (2)))).toNat : Int)).toNat))) rfl rfl rfl (ev_shlI (x := 1) rfl rfl ck30) ?_
        refine r_v (Value.int .i64 ((shlI (1 : Int) (((BitVec.ofInt 64 (max (0) (min ((ops)[(i3_).toNat]!.1) (2)))).toNat : Int)).toNat))) rfl rfl rfl rfl ?_
        refine lx_nil ?_
        refine hK29 _ _ ?_; try clear hK29 K29
        refine A_cut (fun tt ll => ∃ (fits5_ : Bool), (shunterlaw07_WireBack_k6 N ops b1_ done2_ i3_ (shunterlaw07_WireBack_l4 N ops cut n14) fits5_ = some r) ∧ Is [(0, opsv), (1, Value.int .i64 (cut)), (5, vb1_), (6, vdone2_), (7, Value.int .i64 (i3_)), (8, Value.pointer (some ⟨b26, 0, none⟩)), (10, Value.bool (fits5_))] (List.flatten [[(b26, 34, #[Value.int .i64 ((ops)[(i3_).toNat]!.1), Value.int .i64 ((ops)[(i3_).toNat]!.2.1), Value.int .i64 (255), Value.int .i64 (255), Value.int .i64 ((ops)[(i3_).toNat]!.2.2.2.2.1), U (hi ((ops)[(i3_).toNat]!.2.2.2.2.2.1)), U (lo ((ops)[(i3_).toNat]!.2.2.2.2.2.1)), Value.string (⟨((ops)[(i3_).toNat]!.2.2.2.2.2.2.1).toArray⟩), s21, s22])], Sb1_, Sdone2_]) tt ll) ?_ ?_
        · refine A_reg ?_
          refine r_v (Value.pointer (some ⟨b26, 0, none⟩)) rfl rfl rfl rfl ?_
          refine r_l (Value.int .i64 ((ops)[(i3_).toNat]!.1)) 0 _ _ _ _ rfl rfl rfl rfl rfl ?_
          refine r_v (Value.bool (decide (((ops)[(i3_).toNat]!.1 : Int) ≥ 0))) rfl rfl rfl rfl ?_
          refine r_v (Value.bool (decide (((ops)[(i3_).toNat]!.1 : Int) ≥ 0))) rfl rfl rfl rfl ?_
          rcases hg70 : (decide (((ops)[(i3_).toNat]!.1 : Int) ≥ 0)) with _ | _
          · replace hM := ifn (of_decide_eq_false hg70) hM
            refine r_n false rfl (by decide) rfl ?_
            refine r_n false rfl (by decide) rfl ?_
            refine r_n false rfl (by decide) rfl ?_
            refine r_v (Value.bool (false)) rfl rfl rfl rfl ?_
            refine r_v (Value.bool (false)) rfl rfl rfl rfl ?_
            refine r_n false rfl (by decide) rfl ?_
            refine r_n false rfl (by decide) rfl ?_
            refine r_n false rfl (by decide) rfl ?_
            refine r_v (Value.bool (false)) rfl rfl rfl rfl ?_
            refine r_v (Value.bool (false)) rfl rfl rfl rfl ?_
            refine r_n false rfl (by decide) rfl ?_
            refine r_n false rfl (by decide) rfl ?_
            refine r_n false rfl (by decide) rfl ?_
            refine r_n false rfl (by decide) rfl ?_
            refine r_n false rfl (by decide) rfl ?_
            refine r_n false rfl (by decide) rfl ?_
            refine r_n false rfl (by decide) rfl ?_
            refine r_v (Value.bool (false)) rfl rfl rfl rfl ?_
            refine r_v (Value.bool (false)) rfl rfl rfl rfl ?_
            refine r_y rfl ?_
            refine r_v (Value.pointer (some ⟨b26, 0, none⟩)) rfl rfl rfl rfl ?_
            refine r_y rfl ?_
            refine r_l (Value.int .i64 ((ops)[(i3_).toNat]!.1)) 0 _ _ _ _ rfl rfl rfl rfl rfl ?_
            refine r_y rfl ?_
            refine r_v (Value.bool ((((ops)[(i3_).toNat]!.1 : Int) == 3))) rfl rfl rfl rfl ?_
            refine r_y rfl ?_
            refine r_v (Value.bool ((((ops)[(i3_).toNat]!.1 : Int) == 3))) rfl rfl rfl rfl ?_
            rcases hg71 : ((((ops)[(i3_).toNat]!.1 : Int) == 3)) with _ | _
            · replace hM := ifn (ne_of_beq_false hg71) hM
              refine r_n false rfl (by decide) rfl ?_
              refine r_n false rfl (by decide) rfl ?_
              refine r_n false rfl (by decide) rfl ?_
              refine r_y rfl ?_
              refine r_v (Value.bool (false)) rfl rfl rfl rfl ?_
              refine r_v (Value.bool (false)) rfl rfl rfl rfl ?_
              refine r_v (Value.bool (false)) rfl rfl rfl rfl ?_
              refine r_y rfl ?_
              refine r_v (Value.pointer (some ⟨b26, 0, none⟩)) rfl rfl rfl rfl ?_
              refine r_y rfl ?_
              refine r_l (Value.int .i64 ((ops)[(i3_).toNat]!.1)) 0 _ _ _ _ rfl rfl rfl rfl rfl ?_
              refine r_y rfl ?_
              refine r_v (Value.bool ((((ops)[(i3_).toNat]!.1 : Int) == 4))) rfl rfl rfl rfl ?_
              refine r_y rfl ?_
              refine r_v (Value.bool ((((ops)[(i3_).toNat]!.1 : Int) == 4))) rfl rfl rfl rfl ?_
              rcases hg72 : ((((ops)[(i3_).toNat]!.1 : Int) == 4)) with _ | _
              · replace hM := ifn (ne_of_beq_false hg72) hM
                refine r_n false rfl (by decide) rfl ?_
                refine r_n false rfl (by decide) rfl ?_
                refine r_n false rfl (by decide) rfl ?_
                refine r_y rfl ?_
                refine r_v (Value.bool (false)) rfl rfl rfl rfl ?_
                refine r_v (Value.bool (false)) rfl rfl rfl rfl ?_
                refine r_v (Value.bool (false)) rfl rfl rfl rfl ?_
                refine lx_nil ?_
                refine fg _ (Sub.pick [[(b26, 34, #[Value.int .i64 ((ops)[(i3_).toNat]!.1), Value.int .i64 ((ops)[(i3_).toNat]!.2.1), Value.int .i64 (255), Value.int .i64 (255), Value.int .i64 ((ops)[(i3_).toNat]!.2.2.2.2.1), U (hi ((ops)[(i3_).toNat]!.2.2.2.2.2.1)), U (lo ((ops)[(i3_).toNat]!.2.2.2.2.2.1)), Value.string (⟨((ops)[(i3_).toNat]!.2.2.2.2.2.2.1).toArray⟩), s21, s22])], Sb1_, Sdone2_] [0, 1, 2] rfl) ?_
                exact ⟨false, hM, is_mk (by first | rfl | (simp only [hg70, hg71, hg72]; done) | (simp only [hg70, hg71, hg72]; rfl) | (simp only [app_hl]; rfl)) rfl⟩
              · replace hM := ifp (eq_of_beq hg72) hM
                refine r_y rfl ?_
                refine r_v (Value.pointer (some ⟨b26, 7, none⟩)) rfl rfl rfl rfl ?_
                refine r_y rfl ?_
                refine r_l (Value.string (⟨((ops)[(i3_).toNat]!.2.2.2.2.2.2.1).toArray⟩)) 0 _ _ _ _ rfl rfl rfl rfl rfl ?_
                refine r_y rfl ?_
                replace hM := bind_sm hM; obtain ⟨r73, hr74, hM⟩ := hM
                refine r_c (Value.bool (r73)) rfl _ _ (ev_callF rfl call_18 rfl) (shunterref05_May_g N ((ops)[(i3_).toNat]!.2.2.2.2.2.2.1) _ hr74) ?_
                refine r_y rfl ?_
                refine r_v (Value.bool (r73)) rfl rfl rfl rfl ?_
                refine r_v (Value.bool (r73)) rfl rfl rfl rfl ?_
                refine r_v (Value.bool (r73)) rfl rfl rfl rfl ?_
                refine lx_nil ?_
                refine fg _ (Sub.pick [[(b26, 34, #[Value.int .i64 ((ops)[(i3_).toNat]!.1), Value.int .i64 ((ops)[(i3_).toNat]!.2.1), Value.int .i64 (255), Value.int .i64 (255), Value.int .i64 ((ops)[(i3_).toNat]!.2.2.2.2.1), U (hi ((ops)[(i3_).toNat]!.2.2.2.2.2.1)), U (lo ((ops)[(i3_).toNat]!.2.2.2.2.2.1)), Value.string (⟨((ops)[(i3_).toNat]!.2.2.2.2.2.2.1).toArray⟩), s21, s22])], Sb1_, Sdone2_] [0, 1, 2] rfl) ?_
                exact ⟨r73, hM, is_mk (by first | rfl | (simp only [hg70, hg71, hg72]; done) | (simp only [hg70, hg71, hg72]; rfl) | (simp only [app_hl]; rfl)) rfl⟩
            · replace hM := ifp (eq_of_beq hg71) hM
              refine r_y rfl ?_
              refine r_v (Value.pointer (some ⟨b26, 4, none⟩)) rfl rfl rfl rfl ?_
              refine r_y rfl ?_
              refine r_l (Value.agg #[Value.int .i64 ((ops)[(i3_).toNat]!.2.2.2.2.1), U (hi ((ops)[(i3_).toNat]!.2.2.2.2.2.1)), U (lo ((ops)[(i3_).toNat]!.2.2.2.2.2.1))]) 0 _ _ _ _ rfl rfl rfl rfl rfl ?_
              refine r_y rfl ?_
              replace hM := bind_sm hM; obtain ⟨r75, hr76, hM⟩ := hM
              refine r_c (Value.bool (r75)) rfl _ _ (ev_callF rfl call_17 rfl) (shunterref02_May_g N ((ops)[(i3_).toNat]!.2.2.2.2.1) ((ops)[(i3_).toNat]!.2.2.2.2.2.1) _ hr76) ?_
              refine r_y rfl ?_
              refine r_v (Value.bool (r75)) rfl rfl rfl rfl ?_
              refine r_v (Value.bool (r75)) rfl rfl rfl rfl ?_
              refine r_v (Value.bool (r75)) rfl rfl rfl rfl ?_
              rcases hg77 : (r75) with _ | _
              · replace hM := ifn (Bool.eq_false_iff.1 hg77) hM
                refine r_y rfl ?_
                refine r_v (Value.pointer (some ⟨b26, 0, none⟩)) rfl rfl rfl rfl ?_
                refine r_y rfl ?_
                refine r_l (Value.int .i64 ((ops)[(i3_).toNat]!.1)) 0 _ _ _ _ rfl rfl rfl rfl rfl ?_
                refine r_y rfl ?_
                refine r_v (Value.bool ((((ops)[(i3_).toNat]!.1 : Int) == 4))) rfl rfl rfl rfl ?_
                refine r_y rfl ?_
                refine r_v (Value.bool ((((ops)[(i3_).toNat]!.1 : Int) == 4))) rfl rfl rfl rfl ?_
                rcases hg78 : ((((ops)[(i3_).toNat]!.1 : Int) == 4)) with _ | _
                · replace hM := ifn (ne_of_beq_false hg78) hM
                  refine r_n false rfl (by decide) rfl ?_
                  refine r_n false rfl (by decide) rfl ?_
                  refine r_n false rfl (by decide) rfl ?_
                  refine r_y rfl ?_
                  refine r_v (Value.bool (false)) rfl rfl rfl rfl ?_
                  refine r_v (Value.bool (false)) rfl rfl rfl rfl ?_
                  refine r_v (Value.bool (false)) rfl rfl rfl rfl ?_
                  refine lx_nil ?_
                  refine fg _ (Sub.pick [[(b26, 34, #[Value.int .i64 ((ops)[(i3_).toNat]!.1), Value.int .i64 ((ops)[(i3_).toNat]!.2.1), Value.int .i64 (255), Value.int .i64 (255), Value.int .i64 ((ops)[(i3_).toNat]!.2.2.2.2.1), U (hi ((ops)[(i3_).toNat]!.2.2.2.2.2.1)), U (lo ((ops)[(i3_).toNat]!.2.2.2.2.2.1)), Value.string (⟨((ops)[(i3_).toNat]!.2.2.2.2.2.2.1).toArray⟩), s21, s22])], Sb1_, Sdone2_] [0, 1, 2] rfl) ?_
                  exact ⟨false, hM, is_mk (by first | rfl | (simp only [hg70, hg71, hg77, hg78]; done) | (simp only [hg70, hg71, hg77, hg78]; rfl) | (simp only [app_hl]; rfl)) rfl⟩
                · replace hM := ifp (eq_of_beq hg78) hM
                  refine r_y rfl ?_
                  refine r_v (Value.pointer (some ⟨b26, 7, none⟩)) rfl rfl rfl rfl ?_
                  refine r_y rfl ?_
                  refine r_l (Value.string (⟨((ops)[(i3_).toNat]!.2.2.2.2.2.2.1).toArray⟩)) 0 _ _ _ _ rfl rfl rfl rfl rfl ?_
                  refine r_y rfl ?_
                  replace hM := bind_sm hM; obtain ⟨r79, hr80, hM⟩ := hM
                  refine r_c (Value.bool (r79)) rfl _ _ (ev_callF rfl call_18 rfl) (shunterref05_May_g N ((ops)[(i3_).toNat]!.2.2.2.2.2.2.1) _ hr80) ?_
                  refine r_y rfl ?_
                  refine r_v (Value.bool (r79)) rfl rfl rfl rfl ?_
                  refine r_v (Value.bool (r79)) rfl rfl rfl rfl ?_
                  refine r_v (Value.bool (r79)) rfl rfl rfl rfl ?_
                  refine lx_nil ?_
                  refine fg _ (Sub.pick [[(b26, 34, #[Value.int .i64 ((ops)[(i3_).toNat]!.1), Value.int .i64 ((ops)[(i3_).toNat]!.2.1), Value.int .i64 (255), Value.int .i64 (255), Value.int .i64 ((ops)[(i3_).toNat]!.2.2.2.2.1), U (hi ((ops)[(i3_).toNat]!.2.2.2.2.2.1)), U (lo ((ops)[(i3_).toNat]!.2.2.2.2.2.1)), Value.string (⟨((ops)[(i3_).toNat]!.2.2.2.2.2.2.1).toArray⟩), s21, s22])], Sb1_, Sdone2_] [0, 1, 2] rfl) ?_
                  exact ⟨r79, hM, is_mk (by first | rfl | (simp only [hg70, hg71, hg77, hg78]; done) | (simp only [hg70, hg71, hg77, hg78]; rfl) | (simp only [app_hl]; rfl)) rfl⟩
              · replace hM := ifp hg77 hM
                refine r_n true rfl (by decide) rfl ?_
                refine r_n true rfl (by decide) rfl ?_
                refine r_n true rfl (by decide) rfl ?_
                refine r_n true rfl (by decide) rfl ?_
                refine r_nu rfl rfl ?_
                refine r_nu rfl rfl ?_
                refine r_nu rfl rfl ?_
                refine r_n true rfl (by decide) rfl ?_
                refine r_v (Value.bool (true)) rfl rfl rfl rfl ?_
                refine r_v (Value.bool (true)) rfl rfl rfl rfl ?_
                refine lx_nil ?_
                refine fg _ (Sub.pick [[(b26, 34, #[Value.int .i64 ((ops)[(i3_).toNat]!.1), Value.int .i64 ((ops)[(i3_).toNat]!.2.1), Value.int .i64 (255), Value.int .i64 (255), Value.int .i64 ((ops)[(i3_).toNat]!.2.2.2.2.1), U (hi ((ops)[(i3_).toNat]!.2.2.2.2.2.1)), U (lo ((ops)[(i3_).toNat]!.2.2.2.2.2.1)), Value.string (⟨((ops)[(i3_).toNat]!.2.2.2.2.2.2.1).toArray⟩), s21, s22])], Sb1_, Sdone2_] [0, 1, 2] rfl) ?_
                exact ⟨true, hM, is_mk (by first | rfl | (simp only [hg70, hg71, hg77]; done) | (simp only [hg70, hg71, hg77]; rfl) | (simp only [app_hl]; rfl)) rfl⟩
          · replace hM := ifp (of_decide_eq_true hg70) hM
            refine r_y rfl ?_
            refine r_v (Value.pointer (some ⟨b26, 0, none⟩)) rfl rfl rfl rfl ?_
            refine r_y rfl ?_
            refine r_l (Value.int .i64 ((ops)[(i3_).toNat]!.1)) 0 _ _ _ _ rfl rfl rfl rfl rfl ?_
            refine r_y rfl ?_
            refine r_v (Value.bool (decide (((ops)[(i3_).toNat]!.1 : Int) ≤ 2))) rfl rfl rfl rfl ?_
            refine r_v (Value.bool (decide (((ops)[(i3_).toNat]!.1 : Int) ≤ 2))) rfl rfl rfl rfl ?_
            refine r_v (Value.bool (decide (((ops)[(i3_).toNat]!.1 : Int) ≤ 2))) rfl rfl rfl rfl ?_
            rcases hg81 : (decide (((ops)[(i3_).toNat]!.1 : Int) ≤ 2)) with _ | _
            · replace hM := ifn (of_decide_eq_false hg81) hM
              refine r_n false rfl (by decide) rfl ?_
              refine r_n false rfl (by decide) rfl ?_
              refine r_n false rfl (by decide) rfl ?_
              refine r_v (Value.bool (false)) rfl rfl rfl rfl ?_
              refine r_v (Value.bool (false)) rfl rfl rfl rfl ?_
              refine r_n false rfl (by decide) rfl ?_
              refine r_n false rfl (by decide) rfl ?_
              refine r_n false rfl (by decide) rfl ?_
              refine r_n false rfl (by decide) rfl ?_
              refine r_n false rfl (by decide) rfl ?_
              refine r_n false rfl (by decide) rfl ?_
              refine r_n false rfl (by decide) rfl ?_
              refine r_v (Value.bool (false)) rfl rfl rfl rfl ?_
              refine r_v (Value.bool (false)) rfl rfl rfl rfl ?_
              refine r_y rfl ?_
              refine r_v (Value.pointer (some ⟨b26, 0, none⟩)) rfl rfl rfl rfl ?_
              refine r_y rfl ?_
              refine r_l (Value.int .i64 ((ops)[(i3_).toNat]!.1)) 0 _ _ _ _ rfl rfl rfl rfl rfl ?_
              refine r_y rfl ?_
              refine r_v (Value.bool ((((ops)[(i3_).toNat]!.1 : Int) == 3))) rfl rfl rfl rfl ?_
              refine r_y rfl ?_
              refine r_v (Value.bool ((((ops)[(i3_).toNat]!.1 : Int) == 3))) rfl rfl rfl rfl ?_
              rcases hg82 : ((((ops)[(i3_).toNat]!.1 : Int) == 3)) with _ | _
              · replace hM := ifn (ne_of_beq_false hg82) hM
                refine r_n false rfl (by decide) rfl ?_
                refine r_n false rfl (by decide) rfl ?_
                refine r_n false rfl (by decide) rfl ?_
                refine r_y rfl ?_
                refine r_v (Value.bool (false)) rfl rfl rfl rfl ?_
                refine r_v (Value.bool (false)) rfl rfl rfl rfl ?_
                refine r_v (Value.bool (false)) rfl rfl rfl rfl ?_
                refine r_y rfl ?_
                refine r_v (Value.pointer (some ⟨b26, 0, none⟩)) rfl rfl rfl rfl ?_
                refine r_y rfl ?_
                refine r_l (Value.int .i64 ((ops)[(i3_).toNat]!.1)) 0 _ _ _ _ rfl rfl rfl rfl rfl ?_
                refine r_y rfl ?_
                refine r_v (Value.bool ((((ops)[(i3_).toNat]!.1 : Int) == 4))) rfl rfl rfl rfl ?_
                refine r_y rfl ?_
                refine r_v (Value.bool ((((ops)[(i3_).toNat]!.1 : Int) == 4))) rfl rfl rfl rfl ?_
                rcases hg83 : ((((ops)[(i3_).toNat]!.1 : Int) == 4)) with _ | _
                · replace hM := ifn (ne_of_beq_false hg83) hM
                  refine r_n false rfl (by decide) rfl ?_
                  refine r_n false rfl (by decide) rfl ?_
                  refine r_n false rfl (by decide) rfl ?_
                  refine r_y rfl ?_
                  refine r_v (Value.bool (false)) rfl rfl rfl rfl ?_
                  refine r_v (Value.bool (false)) rfl rfl rfl rfl ?_
                  refine r_v (Value.bool (false)) rfl rfl rfl rfl ?_
                  refine lx_nil ?_
                  refine fg _ (Sub.pick [[(b26, 34, #[Value.int .i64 ((ops)[(i3_).toNat]!.1), Value.int .i64 ((ops)[(i3_).toNat]!.2.1), Value.int .i64 (255), Value.int .i64 (255), Value.int .i64 ((ops)[(i3_).toNat]!.2.2.2.2.1), U (hi ((ops)[(i3_).toNat]!.2.2.2.2.2.1)), U (lo ((ops)[(i3_).toNat]!.2.2.2.2.2.1)), Value.string (⟨((ops)[(i3_).toNat]!.2.2.2.2.2.2.1).toArray⟩), s21, s22])], Sb1_, Sdone2_] [0, 1, 2] rfl) ?_
                  exact ⟨false, hM, is_mk (by first | rfl | (simp only [hg70, hg81, hg82, hg83]; done) | (simp only [hg70, hg81, hg82, hg83]; rfl) | (simp only [app_hl]; rfl)) rfl⟩
                · replace hM := ifp (eq_of_beq hg83) hM
                  refine r_y rfl ?_
                  refine r_v (Value.pointer (some ⟨b26, 7, none⟩)) rfl rfl rfl rfl ?_
                  refine r_y rfl ?_
                  refine r_l (Value.string (⟨((ops)[(i3_).toNat]!.2.2.2.2.2.2.1).toArray⟩)) 0 _ _ _ _ rfl rfl rfl rfl rfl ?_
                  refine r_y rfl ?_
                  replace hM := bind_sm hM; obtain ⟨r84, hr85, hM⟩ := hM
                  refine r_c (Value.bool (r84)) rfl _ _ (ev_callF rfl call_18 rfl) (shunterref05_May_g N ((ops)[(i3_).toNat]!.2.2.2.2.2.2.1) _ hr85) ?_
                  refine r_y rfl ?_
                  refine r_v (Value.bool (r84)) rfl rfl rfl rfl ?_
                  refine r_v (Value.bool (r84)) rfl rfl rfl rfl ?_
                  refine r_v (Value.bool (r84)) rfl rfl rfl rfl ?_
                  refine lx_nil ?_
                  refine fg _ (Sub.pick [[(b26, 34, #[Value.int .i64 ((ops)[(i3_).toNat]!.1), Value.int .i64 ((ops)[(i3_).toNat]!.2.1), Value.int .i64 (255), Value.int .i64 (255), Value.int .i64 ((ops)[(i3_).toNat]!.2.2.2.2.1), U (hi ((ops)[(i3_).toNat]!.2.2.2.2.2.1)), U (lo ((ops)[(i3_).toNat]!.2.2.2.2.2.1)), Value.string (⟨((ops)[(i3_).toNat]!.2.2.2.2.2.2.1).toArray⟩), s21, s22])], Sb1_, Sdone2_] [0, 1, 2] rfl) ?_
                  exact ⟨r84, hM, is_mk (by first | rfl | (simp only [hg70, hg81, hg82, hg83]; done) | (simp only [hg70, hg81, hg82, hg83]; rfl) | (simp only [app_hl]; rfl)) rfl⟩
              · replace hM := ifp (eq_of_beq hg82) hM
                refine r_y rfl ?_
                refine r_v (Value.pointer (some ⟨b26, 4, none⟩)) rfl rfl rfl rfl ?_
                refine r_y rfl ?_
                refine r_l (Value.agg #[Value.int .i64 ((ops)[(i3_).toNat]!.2.2.2.2.1), U (hi ((ops)[(i3_).toNat]!.2.2.2.2.2.1)), U (lo ((ops)[(i3_).toNat]!.2.2.2.2.2.1))]) 0 _ _ _ _ rfl rfl rfl rfl rfl ?_
                refine r_y rfl ?_
                replace hM := bind_sm hM; obtain ⟨r86, hr87, hM⟩ := hM
                refine r_c (Value.bool (r86)) rfl _ _ (ev_callF rfl call_17 rfl) (shunterref02_May_g N ((ops)[(i3_).toNat]!.2.2.2.2.1) ((ops)[(i3_).toNat]!.2.2.2.2.2.1) _ hr87) ?_
                refine r_y rfl ?_
                refine r_v (Value.bool (r86)) rfl rfl rfl rfl ?_
                refine r_v (Value.bool (r86)) rfl rfl rfl rfl ?_
                refine r_v (Value.bool (r86)) rfl rfl rfl rfl ?_
                rcases hg88 : (r86) with _ | _
                · replace hM := ifn (Bool.eq_false_iff.1 hg88) hM
                  refine r_y rfl ?_
                  refine r_v (Value.pointer (some ⟨b26, 0, none⟩)) rfl rfl rfl rfl ?_
                  refine r_y rfl ?_
                  refine r_l (Value.int .i64 ((ops)[(i3_).toNat]!.1)) 0 _ _ _ _ rfl rfl rfl rfl rfl ?_
                  refine r_y rfl ?_
                  refine r_v (Value.bool ((((ops)[(i3_).toNat]!.1 : Int) == 4))) rfl rfl rfl rfl ?_
                  refine r_y rfl ?_
                  refine r_v (Value.bool ((((ops)[(i3_).toNat]!.1 : Int) == 4))) rfl rfl rfl rfl ?_
                  rcases hg89 : ((((ops)[(i3_).toNat]!.1 : Int) == 4)) with _ | _
                  · replace hM := ifn (ne_of_beq_false hg89) hM
                    refine r_n false rfl (by decide) rfl ?_
                    refine r_n false rfl (by decide) rfl ?_
                    refine r_n false rfl (by decide) rfl ?_
                    refine r_y rfl ?_
                    refine r_v (Value.bool (false)) rfl rfl rfl rfl ?_
                    refine r_v (Value.bool (false)) rfl rfl rfl rfl ?_
                    refine r_v (Value.bool (false)) rfl rfl rfl rfl ?_
                    refine lx_nil ?_
                    refine fg _ (Sub.pick [[(b26, 34, #[Value.int .i64 ((ops)[(i3_).toNat]!.1), Value.int .i64 ((ops)[(i3_).toNat]!.2.1), Value.int .i64 (255), Value.int .i64 (255), Value.int .i64 ((ops)[(i3_).toNat]!.2.2.2.2.1), U (hi ((ops)[(i3_).toNat]!.2.2.2.2.2.1)), U (lo ((ops)[(i3_).toNat]!.2.2.2.2.2.1)), Value.string (⟨((ops)[(i3_).toNat]!.2.2.2.2.2.2.1).toArray⟩), s21, s22])], Sb1_, Sdone2_] [0, 1, 2] rfl) ?_
                    exact ⟨false, hM, is_mk (by first | rfl | (simp only [hg70, hg81, hg82, hg88, hg89]; done) | (simp only [hg70, hg81, hg82, hg88, hg89]; rfl) | (simp only [app_hl]; rfl)) rfl⟩
                  · replace hM := ifp (eq_of_beq hg89) hM
                    refine r_y rfl ?_
                    refine r_v (Value.pointer (some ⟨b26, 7, none⟩)) rfl rfl rfl rfl ?_
                    refine r_y rfl ?_
                    refine r_l (Value.string (⟨((ops)[(i3_).toNat]!.2.2.2.2.2.2.1).toArray⟩)) 0 _ _ _ _ rfl rfl rfl rfl rfl ?_
                    refine r_y rfl ?_
                    replace hM := bind_sm hM; obtain ⟨r90, hr91, hM⟩ := hM
                    refine r_c (Value.bool (r90)) rfl _ _ (ev_callF rfl call_18 rfl) (shunterref05_May_g N ((ops)[(i3_).toNat]!.2.2.2.2.2.2.1) _ hr91) ?_
                    refine r_y rfl ?_
                    refine r_v (Value.bool (r90)) rfl rfl rfl rfl ?_
                    refine r_v (Value.bool (r90)) rfl rfl rfl rfl ?_
                    refine r_v (Value.bool (r90)) rfl rfl rfl rfl ?_
                    refine lx_nil ?_
                    refine fg _ (Sub.pick [[(b26, 34, #[Value.int .i64 ((ops)[(i3_).toNat]!.1), Value.int .i64 ((ops)[(i3_).toNat]!.2.1), Value.int .i64 (255), Value.int .i64 (255), Value.int .i64 ((ops)[(i3_).toNat]!.2.2.2.2.1), U (hi ((ops)[(i3_).toNat]!.2.2.2.2.2.1)), U (lo ((ops)[(i3_).toNat]!.2.2.2.2.2.1)), Value.string (⟨((ops)[(i3_).toNat]!.2.2.2.2.2.2.1).toArray⟩), s21, s22])], Sb1_, Sdone2_] [0, 1, 2] rfl) ?_
                    exact ⟨r90, hM, is_mk (by first | rfl | (simp only [hg70, hg81, hg82, hg88, hg89]; done) | (simp only [hg70, hg81, hg82, hg88, hg89]; rfl) | (simp only [app_hl]; rfl)) rfl⟩
                · replace hM := ifp hg88 hM
                  refine r_n true rfl (by decide) rfl ?_
                  refine r_n true rfl (by decide) rfl ?_
                  refine r_n true rfl (by decide) rfl ?_
                  refine r_n true rfl (by decide) rfl ?_
                  refine r_nu rfl rfl ?_
                  refine r_nu rfl rfl ?_
                  refine r_nu rfl rfl ?_
                  refine r_n true rfl (by decide) rfl ?_
                  refine r_v (Value.bool (true)) rfl rfl rfl rfl ?_
                  refine r_v (Value.bool (true)) rfl rfl rfl rfl ?_
                  refine lx_nil ?_
                  refine fg _ (Sub.pick [[(b26, 34, #[Value.int .i64 ((ops)[(i3_).toNat]!.1), Value.int .i64 ((ops)[(i3_).toNat]!.2.1), Value.int .i64 (255), Value.int .i64 (255), Value.int .i64 ((ops)[(i3_).toNat]!.2.2.2.2.1), U (hi ((ops)[(i3_).toNat]!.2.2.2.2.2.1)), U (lo ((ops)[(i3_).toNat]!.2.2.2.2.2.1)), Value.string (⟨((ops)[(i3_).toNat]!.2.2.2.2.2.2.1).toArray⟩), s21, s22])], Sb1_, Sdone2_] [0, 1, 2] rfl) ?_
                  exact ⟨true, hM, is_mk (by first | rfl | (simp only [hg70, hg81, hg82, hg88]; done) | (simp only [hg70, hg81, hg82, hg88]; rfl) | (simp only [app_hl]; rfl)) rfl⟩
            · replace hM := ifp (of_decide_eq_true hg81) hM
              refine r_y rfl ?_
              refine r_v (Value.pointer (some ⟨b26, 1, none⟩)) rfl rfl rfl rfl ?_
              refine r_y rfl ?_
              refine r_l (Value.int .i64 ((ops)[(i3_).toNat]!.2.1)) 0 _ _ _ _ rfl rfl rfl rfl rfl ?_
              refine r_y rfl ?_
              refine r_v (Value.bool (decide (((ops)[(i3_).toNat]!.2.1 : Int) ≥ 0))) rfl rfl rfl rfl ?_
              refine r_v (Value.bool (decide (((ops)[(i3_).toNat]!.2.1 : Int) ≥ 0))) rfl rfl rfl rfl ?_
              refine r_v (Value.bool (decide (((ops)[(i3_).toNat]!.2.1 : Int) ≥ 0))) rfl rfl rfl rfl ?_
              rcases hg92 : (decide (((ops)[(i3_).toNat]!.2.1 : Int) ≥ 0)) with _ | _
              · replace hM := ifn (of_decide_eq_false hg92) hM
                refine r_n false rfl (by decide) rfl ?_
                refine r_n false rfl (by decide) rfl ?_
                refine r_n false rfl (by decide) rfl ?_
                refine r_n false rfl (by decide) rfl ?_
                refine r_n false rfl (by decide) rfl ?_
                refine r_n false rfl (by decide) rfl ?_
                refine r_n false rfl (by decide) rfl ?_
                refine r_v (Value.bool (false)) rfl rfl rfl rfl ?_
                refine r_v (Value.bool (false)) rfl rfl rfl rfl ?_
                refine r_y rfl ?_
                refine r_v (Value.pointer (some ⟨b26, 0, none⟩)) rfl rfl rfl rfl ?_
                refine r_y rfl ?_
                refine r_l (Value.int .i64 ((ops)[(i3_).toNat]!.1)) 0 _ _ _ _ rfl rfl rfl rfl rfl ?_
                refine r_y rfl ?_
                refine r_v (Value.bool ((((ops)[(i3_).toNat]!.1 : Int) == 3))) rfl rfl rfl rfl ?_
                refine r_y rfl ?_
                refine r_v (Value.bool ((((ops)[(i3_).toNat]!.1 : Int) == 3))) rfl rfl rfl rfl ?_
                rcases hg93 : ((((ops)[(i3_).toNat]!.1 : Int) == 3)) with _ | _
                · replace hM := ifn (ne_of_beq_false hg93) hM
                  refine r_n false rfl (by decide) rfl ?_
                  refine r_n false rfl (by decide) rfl ?_
                  refine r_n false rfl (by decide) rfl ?_
                  refine r_y rfl ?_
                  refine r_v (Value.bool (false)) rfl rfl rfl rfl ?_
                  refine r_v (Value.bool (false)) rfl rfl rfl rfl ?_
                  refine r_v (Value.bool (false)) rfl rfl rfl rfl ?_
                  refine r_y rfl ?_
                  refine r_v (Value.pointer (some ⟨b26, 0, none⟩)) rfl rfl rfl rfl ?_
                  refine r_y rfl ?_
                  refine r_l (Value.int .i64 ((ops)[(i3_).toNat]!.1)) 0 _ _ _ _ rfl rfl rfl rfl rfl ?_
                  refine r_y rfl ?_
                  refine r_v (Value.bool ((((ops)[(i3_).toNat]!.1 : Int) == 4))) rfl rfl rfl rfl ?_
                  refine r_y rfl ?_
                  refine r_v (Value.bool ((((ops)[(i3_).toNat]!.1 : Int) == 4))) rfl rfl rfl rfl ?_
                  rcases hg94 : ((((ops)[(i3_).toNat]!.1 : Int) == 4)) with _ | _
                  · replace hM := ifn (ne_of_beq_false hg94) hM
                    refine r_n false rfl (by decide) rfl ?_
                    refine r_n false rfl (by decide) rfl ?_
                    refine r_n false rfl (by decide) rfl ?_
                    refine r_y rfl ?_
                    refine r_v (Value.bool (false)) rfl rfl rfl rfl ?_
                    refine r_v (Value.bool (false)) rfl rfl rfl rfl ?_
                    refine r_v (Value.bool (false)) rfl rfl rfl rfl ?_
                    refine lx_nil ?_
                    refine fg _ (Sub.pick [[(b26, 34, #[Value.int .i64 ((ops)[(i3_).toNat]!.1), Value.int .i64 ((ops)[(i3_).toNat]!.2.1), Value.int .i64 (255), Value.int .i64 (255), Value.int .i64 ((ops)[(i3_).toNat]!.2.2.2.2.1), U (hi ((ops)[(i3_).toNat]!.2.2.2.2.2.1)), U (lo ((ops)[(i3_).toNat]!.2.2.2.2.2.1)), Value.string (⟨((ops)[(i3_).toNat]!.2.2.2.2.2.2.1).toArray⟩), s21, s22])], Sb1_, Sdone2_] [0, 1, 2] rfl) ?_
                    exact ⟨false, hM, is_mk (by first | rfl | (simp only [hg70, hg81, hg92, hg93, hg94]; done) | (simp only [hg70, hg81, hg92, hg93, hg94]; rfl) | (simp only [app_hl]; rfl)) rfl⟩
                  · replace hM := ifp (eq_of_beq hg94) hM
                    refine r_y rfl ?_
                    refine r_v (Value.pointer (some ⟨b26, 7, none⟩)) rfl rfl rfl rfl ?_
                    refine r_y rfl ?_
                    refine r_l (Value.string (⟨((ops)[(i3_).toNat]!.2.2.2.2.2.2.1).toArray⟩)) 0 _ _ _ _ rfl rfl rfl rfl rfl ?_
                    refine r_y rfl ?_
                    replace hM := bind_sm hM; obtain ⟨r95, hr96, hM⟩ := hM
                    refine r_c (Value.bool (r95)) rfl _ _ (ev_callF rfl call_18 rfl) (shunterref05_May_g N ((ops)[(i3_).toNat]!.2.2.2.2.2.2.1) _ hr96) ?_
                    refine r_y rfl ?_
                    refine r_v (Value.bool (r95)) rfl rfl rfl rfl ?_
                    refine r_v (Value.bool (r95)) rfl rfl rfl rfl ?_
                    refine r_v (Value.bool (r95)) rfl rfl rfl rfl ?_
                    refine lx_nil ?_
                    refine fg _ (Sub.pick [[(b26, 34, #[Value.int .i64 ((ops)[(i3_).toNat]!.1), Value.int .i64 ((ops)[(i3_).toNat]!.2.1), Value.int .i64 (255), Value.int .i64 (255), Value.int .i64 ((ops)[(i3_).toNat]!.2.2.2.2.1), U (hi ((ops)[(i3_).toNat]!.2.2.2.2.2.1)), U (lo ((ops)[(i3_).toNat]!.2.2.2.2.2.1)), Value.string (⟨((ops)[(i3_).toNat]!.2.2.2.2.2.2.1).toArray⟩), s21, s22])], Sb1_, Sdone2_] [0, 1, 2] rfl) ?_
                    exact ⟨r95, hM, is_mk (by first | rfl | (simp only [hg70, hg81, hg92, hg93, hg94]; done) | (simp only [hg70, hg81, hg92, hg93, hg94]; rfl) | (simp only [app_hl]; rfl)) rfl⟩
                · replace hM := ifp (eq_of_beq hg93) hM
                  refine r_y rfl ?_
                  refine r_v (Value.pointer (some ⟨b26, 4, none⟩)) rfl rfl rfl rfl ?_
                  refine r_y rfl ?_
                  refine r_l (Value.agg #[Value.int .i64 ((ops)[(i3_).toNat]!.2.2.2.2.1), U (hi ((ops)[(i3_).toNat]!.2.2.2.2.2.1)), U (lo ((ops)[(i3_).toNat]!.2.2.2.2.2.1))]) 0 _ _ _ _ rfl rfl rfl rfl rfl ?_
                  refine r_y rfl ?_
                  replace hM := bind_sm hM; obtain ⟨r97, hr98, hM⟩ := hM
                  refine r_c (Value.bool (r97)) rfl _ _ (ev_callF rfl call_17 rfl) (shunterref02_May_g N ((ops)[(i3_).toNat]!.2.2.2.2.1) ((ops)[(i3_).toNat]!.2.2.2.2.2.1) _ hr98) ?_
                  refine r_y rfl ?_
                  refine r_v (Value.bool (r97)) rfl rfl rfl rfl ?_
                  refine r_v (Value.bool (r97)) rfl rfl rfl rfl ?_
                  refine r_v (Value.bool (r97)) rfl rfl rfl rfl ?_
                  rcases hg99 : (r97) with _ | _
                  · replace hM := ifn (Bool.eq_false_iff.1 hg99) hM
                    refine r_y rfl ?_
                    refine r_v (Value.pointer (some ⟨b26, 0, none⟩)) rfl rfl rfl rfl ?_
                    refine r_y rfl ?_
                    refine r_l (Value.int .i64 ((ops)[(i3_).toNat]!.1)) 0 _ _ _ _ rfl rfl rfl rfl rfl ?_
                    refine r_y rfl ?_
                    refine r_v (Value.bool ((((ops)[(i3_).toNat]!.1 : Int) == 4))) rfl rfl rfl rfl ?_
                    refine r_y rfl ?_
                    refine r_v (Value.bool ((((ops)[(i3_).toNat]!.1 : Int) == 4))) rfl rfl rfl rfl ?_
                    rcases hg100 : ((((ops)[(i3_).toNat]!.1 : Int) == 4)) with _ | _
                    · replace hM := ifn (ne_of_beq_false hg100) hM
                      refine r_n false rfl (by decide) rfl ?_
                      refine r_n false rfl (by decide) rfl ?_
                      refine r_n false rfl (by decide) rfl ?_
                      refine r_y rfl ?_
                      refine r_v (Value.bool (false)) rfl rfl rfl rfl ?_
                      refine r_v (Value.bool (false)) rfl rfl rfl rfl ?_
                      refine r_v (Value.bool (false)) rfl rfl rfl rfl ?_
                      refine lx_nil ?_
                      refine fg _ (Sub.pick [[(b26, 34, #[Value.int .i64 ((ops)[(i3_).toNat]!.1), Value.int .i64 ((ops)[(i3_).toNat]!.2.1), Value.int .i64 (255), Value.int .i64 (255), Value.int .i64 ((ops)[(i3_).toNat]!.2.2.2.2.1), U (hi ((ops)[(i3_).toNat]!.2.2.2.2.2.1)), U (lo ((ops)[(i3_).toNat]!.2.2.2.2.2.1)), Value.string (⟨((ops)[(i3_).toNat]!.2.2.2.2.2.2.1).toArray⟩), s21, s22])], Sb1_, Sdone2_] [0, 1, 2] rfl) ?_
                      exact ⟨false, hM, is_mk (by first | rfl | (simp only [hg70, hg81, hg92, hg93, hg99, hg100]; done) | (simp only [hg70, hg81, hg92, hg93, hg99, hg100]; rfl) | (simp only [app_hl]; rfl)) rfl⟩
                    · replace hM := ifp (eq_of_beq hg100) hM
                      refine r_y rfl ?_
                      refine r_v (Value.pointer (some ⟨b26, 7, none⟩)) rfl rfl rfl rfl ?_
                      refine r_y rfl ?_
                      refine r_l (Value.string (⟨((ops)[(i3_).toNat]!.2.2.2.2.2.2.1).toArray⟩)) 0 _ _ _ _ rfl rfl rfl rfl rfl ?_
                      refine r_y rfl ?_
                      replace hM := bind_sm hM; obtain ⟨r101, hr102, hM⟩ := hM
                      refine r_c (Value.bool (r101)) rfl _ _ (ev_callF rfl call_18 rfl) (shunterref05_May_g N ((ops)[(i3_).toNat]!.2.2.2.2.2.2.1) _ hr102) ?_
                      refine r_y rfl ?_
                      refine r_v (Value.bool (r101)) rfl rfl rfl rfl ?_
                      refine r_v (Value.bool (r101)) rfl rfl rfl rfl ?_
                      refine r_v (Value.bool (r101)) rfl rfl rfl rfl ?_
                      refine lx_nil ?_
                      refine fg _ (Sub.pick [[(b26, 34, #[Value.int .i64 ((ops)[(i3_).toNat]!.1), Value.int .i64 ((ops)[(i3_).toNat]!.2.1), Value.int .i64 (255), Value.int .i64 (255), Value.int .i64 ((ops)[(i3_).toNat]!.2.2.2.2.1), U (hi ((ops)[(i3_).toNat]!.2.2.2.2.2.1)), U (lo ((ops)[(i3_).toNat]!.2.2.2.2.2.1)), Value.string (⟨((ops)[(i3_).toNat]!.2.2.2.2.2.2.1).toArray⟩), s21, s22])], Sb1_, Sdone2_] [0, 1, 2] rfl) ?_
                      exact ⟨r101, hM, is_mk (by first | rfl | (simp only [hg70, hg81, hg92, hg93, hg99, hg100]; done) | (simp only [hg70, hg81, hg92, hg93, hg99, hg100]; rfl) | (simp only [app_hl]; rfl)) rfl⟩
                  · replace hM := ifp hg99 hM
                    refine r_n true rfl (by decide) rfl ?_
                    refine r_n true rfl (by decide) rfl ?_
                    refine r_n true rfl (by decide) rfl ?_
                    refine r_n true rfl (by decide) rfl ?_
                    refine r_nu rfl rfl ?_
                    refine r_nu rfl rfl ?_
                    refine r_nu rfl rfl ?_
                    refine r_n true rfl (by decide) rfl ?_
                    refine r_v (Value.bool (true)) rfl rfl rfl rfl ?_
                    refine r_v (Value.bool (true)) rfl rfl rfl rfl ?_
                    refine lx_nil ?_
                    refine fg _ (Sub.pick [[(b26, 34, #[Value.int .i64 ((ops)[(i3_).toNat]!.1), Value.int .i64 ((ops)[(i3_).toNat]!.2.1), Value.int .i64 (255), Value.int .i64 (255), Value.int .i64 ((ops)[(i3_).toNat]!.2.2.2.2.1), U (hi ((ops)[(i3_).toNat]!.2.2.2.2.2.1)), U (lo ((ops)[(i3_).toNat]!.2.2.2.2.2.1)), Value.string (⟨((ops)[(i3_).toNat]!.2.2.2.2.2.2.1).toArray⟩), s21, s22])], Sb1_, Sdone2_] [0, 1, 2] rfl) ?_
                    exact ⟨true, hM, is_mk (by first | rfl | (simp only [hg70, hg81, hg92, hg93, hg99]; done) | (simp only [hg70, hg81, hg92, hg93, hg99]; rfl) | (simp only [app_hl]; rfl)) rfl⟩
              · replace hM := ifp (of_decide_eq_true hg92) hM
                refine r_y rfl ?_
                refine r_v (Value.pointer (some ⟨b26, 1, none⟩)) rfl rfl rfl rfl ?_
                refine r_y rfl ?_
                refine r_l (Value.int .i64 ((ops)[(i3_).toNat]!.2.1)) 0 _ _ _ _ rfl rfl rfl rfl rfl ?_
                refine r_y rfl ?_
                refine r_v (Value.int .i64 ((shlI (1 : Int) (((BitVec.ofInt 64 (max (0) (min ((ops)[(i3_).toNat]!.1) (2)))).toNat : Int)).toNat))) rfl rfl rfl rfl ?_
                refine r_y rfl ?_
                replace hM := ck_some hM; obtain ⟨ck103, hM⟩ := hM
                refine r_v (Value.int .i64 ((8 * (shlI (1 : Int) (((BitVec.ofInt 64 (max (0) (min ((ops)[(i3_).toNat]!.1) (2)))).toNat : Int)).toNat)))) rfl rfl (wi64 rfl ck103.1 ck103.2) rfl ?_
                refine r_y rfl ?_
                refine r_w (U (BitVec.ofInt 64 ((8 * (shlI (1 : Int) (((BitVec.ofInt 64 (max (0) (min ((ops)[(i3_).toNat]!.1) (2)))).toNat : Int)).toNat))))) rfl rfl (U_wrapI ((8 * (shlI (1 : Int) (((BitVec.ofInt 64 (max (0) (min ((ops)[(i3_).toNat]!.1) (2)))).toNat : Int)).toNat)))) (fun _ => rfl) ?_
                refine r_y rfl ?_
                replace hM := ck_some hM; obtain ⟨ck104, hM⟩ := hM
                refine r_v (Value.int .i64 ((shlI (1 : Int) (((BitVec.ofInt 64 ((8 * (shlI (1 : Int) (((BitVec.ofInt 64 (max (0) (min ((ops)[(i3_).toNat]!.1) (2)))).toNat : Int)).toNat)))).toNat : Int)).toNat))) rfl rfl rfl (ev_shlI (x := 1) rfl rfl ck104) ?_
                refine r_y rfl ?_
                refine r_v (Value.bool (decide (((ops)[(i3_).toNat]!.2.1 : Int) < (shlI (1 : Int) (((BitVec.ofInt 64 ((8 * (shlI (1 : Int) (((BitVec.ofInt 64 (max (0) (min ((ops)[(i3_).toNat]!.1) (2)))).toNat : Int)).toNat)))).toNat : Int)).toNat)))) rfl rfl rfl rfl ?_
                refine r_v (Value.bool (decide (((ops)[(i3_).toNat]!.2.1 : Int) < (shlI (1 : Int) (((BitVec.ofInt 64 ((8 * (shlI (1 : Int) (((BitVec.ofInt 64 (max (0) (min ((ops)[(i3_).toNat]!.1) (2)))).toNat : Int)).toNat)))).toNat : Int)).toNat)))) rfl rfl rfl rfl ?_
                refine r_v (Value.bool (decide (((ops)[(i3_).toNat]!.2.1 : Int) < (shlI (1 : Int) (((BitVec.ofInt 64 ((8 * (shlI (1 : Int) (((BitVec.ofInt 64 (max (0) (min ((ops)[(i3_).toNat]!.1) (2)))).toNat : Int)).toNat)))).toNat : Int)).toNat)))) rfl rfl rfl rfl ?_
                rcases hg105 : (decide (((ops)[(i3_).toNat]!.2.1 : Int) < (shlI (1 : Int) (((BitVec.ofInt 64 ((8 * (shlI (1 : Int) (((BitVec.ofInt 64 (max (0) (min ((ops)[(i3_).toNat]!.1) (2)))).toNat : Int)).toNat)))).toNat : Int)).toNat))) with _ | _
                · replace hM := ifn (of_decide_eq_false hg105) hM
                  refine r_y rfl ?_
                  refine r_v (Value.pointer (some ⟨b26, 0, none⟩)) rfl rfl rfl rfl ?_
                  refine r_y rfl ?_
                  refine r_l (Value.int .i64 ((ops)[(i3_).toNat]!.1)) 0 _ _ _ _ rfl rfl rfl rfl rfl ?_
                  refine r_y rfl ?_
                  refine r_v (Value.bool ((((ops)[(i3_).toNat]!.1 : Int) == 3))) rfl rfl rfl rfl ?_
                  refine r_y rfl ?_
                  refine r_v (Value.bool ((((ops)[(i3_).toNat]!.1 : Int) == 3))) rfl rfl rfl rfl ?_
                  rcases hg106 : ((((ops)[(i3_).toNat]!.1 : Int) == 3)) with _ | _
                  · replace hM := ifn (ne_of_beq_false hg106) hM
                    refine r_n false rfl (by decide) rfl ?_
                    refine r_n false rfl (by decide) rfl ?_
                    refine r_n false rfl (by decide) rfl ?_
                    refine r_y rfl ?_
                    refine r_v (Value.bool (false)) rfl rfl rfl rfl ?_
                    refine r_v (Value.bool (false)) rfl rfl rfl rfl ?_
                    refine r_v (Value.bool (false)) rfl rfl rfl rfl ?_
                    refine r_y rfl ?_
                    refine r_v (Value.pointer (some ⟨b26, 0, none⟩)) rfl rfl rfl rfl ?_
                    refine r_y rfl ?_
                    refine r_l (Value.int .i64 ((ops)[(i3_).toNat]!.1)) 0 _ _ _ _ rfl rfl rfl rfl rfl ?_
                    refine r_y rfl ?_
                    refine r_v (Value.bool ((((ops)[(i3_).toNat]!.1 : Int) == 4))) rfl rfl rfl rfl ?_
                    refine r_y rfl ?_
                    refine r_v (Value.bool ((((ops)[(i3_).toNat]!.1 : Int) == 4))) rfl rfl rfl rfl ?_
                    rcases hg107 : ((((ops)[(i3_).toNat]!.1 : Int) == 4)) with _ | _
                    · replace hM := ifn (ne_of_beq_false hg107) hM
                      refine r_n false rfl (by decide) rfl ?_
                      refine r_n false rfl (by decide) rfl ?_
                      refine r_n false rfl (by decide) rfl ?_
                      refine r_y rfl ?_
                      refine r_v (Value.bool (false)) rfl rfl rfl rfl ?_
                      refine r_v (Value.bool (false)) rfl rfl rfl rfl ?_
                      refine r_v (Value.bool (false)) rfl rfl rfl rfl ?_
                      refine lx_nil ?_
                      refine fg _ (Sub.pick [[(b26, 34, #[Value.int .i64 ((ops)[(i3_).toNat]!.1), Value.int .i64 ((ops)[(i3_).toNat]!.2.1), Value.int .i64 (255), Value.int .i64 (255), Value.int .i64 ((ops)[(i3_).toNat]!.2.2.2.2.1), U (hi ((ops)[(i3_).toNat]!.2.2.2.2.2.1)), U (lo ((ops)[(i3_).toNat]!.2.2.2.2.2.1)), Value.string (⟨((ops)[(i3_).toNat]!.2.2.2.2.2.2.1).toArray⟩), s21, s22])], Sb1_, Sdone2_] [0, 1, 2] rfl) ?_
                      exact ⟨false, hM, is_mk (by first | rfl | (simp only [hg70, hg81, hg92, hg105, hg106, hg107]; done) | (simp only [hg70, hg81, hg92, hg105, hg106, hg107]; rfl) | (simp only [app_hl]; rfl)) rfl⟩
                    · replace hM := ifp (eq_of_beq hg107) hM
                      refine r_y rfl ?_
                      refine r_v (Value.pointer (some ⟨b26, 7, none⟩)) rfl rfl rfl rfl ?_
                      refine r_y rfl ?_
                      refine r_l (Value.string (⟨((ops)[(i3_).toNat]!.2.2.2.2.2.2.1).toArray⟩)) 0 _ _ _ _ rfl rfl rfl rfl rfl ?_
                      refine r_y rfl ?_
                      replace hM := bind_sm hM; obtain ⟨r108, hr109, hM⟩ := hM
                      refine r_c (Value.bool (r108)) rfl _ _ (ev_callF rfl call_18 rfl) (shunterref05_May_g N ((ops)[(i3_).toNat]!.2.2.2.2.2.2.1) _ hr109) ?_
                      refine r_y rfl ?_
                      refine r_v (Value.bool (r108)) rfl rfl rfl rfl ?_
                      refine r_v (Value.bool (r108)) rfl rfl rfl rfl ?_
                      refine r_v (Value.bool (r108)) rfl rfl rfl rfl ?_
                      refine lx_nil ?_
                      refine fg _ (Sub.pick [[(b26, 34, #[Value.int .i64 ((ops)[(i3_).toNat]!.1), Value.int .i64 ((ops)[(i3_).toNat]!.2.1), Value.int .i64 (255), Value.int .i64 (255), Value.int .i64 ((ops)[(i3_).toNat]!.2.2.2.2.1), U (hi ((ops)[(i3_).toNat]!.2.2.2.2.2.1)), U (lo ((ops)[(i3_).toNat]!.2.2.2.2.2.1)), Value.string (⟨((ops)[(i3_).toNat]!.2.2.2.2.2.2.1).toArray⟩), s21, s22])], Sb1_, Sdone2_] [0, 1, 2] rfl) ?_
                      exact ⟨r108, hM, is_mk (by first | rfl | (simp only [hg70, hg81, hg92, hg105, hg106, hg107]; done) | (simp only [hg70, hg81, hg92, hg105, hg106, hg107]; rfl) | (simp only [app_hl]; rfl)) rfl⟩
                  · replace hM := ifp (eq_of_beq hg106) hM
                    refine r_y rfl ?_
                    refine r_v (Value.pointer (some ⟨b26, 4, none⟩)) rfl rfl rfl rfl ?_
                    refine r_y rfl ?_
                    refine r_l (Value.agg #[Value.int .i64 ((ops)[(i3_).toNat]!.2.2.2.2.1), U (hi ((ops)[(i3_).toNat]!.2.2.2.2.2.1)), U (lo ((ops)[(i3_).toNat]!.2.2.2.2.2.1))]) 0 _ _ _ _ rfl rfl rfl rfl rfl ?_
                    refine r_y rfl ?_
                    replace hM := bind_sm hM; obtain ⟨r110, hr111, hM⟩ := hM
                    refine r_c (Value.bool (r110)) rfl _ _ (ev_callF rfl call_17 rfl) (shunterref02_May_g N ((ops)[(i3_).toNat]!.2.2.2.2.1) ((ops)[(i3_).toNat]!.2.2.2.2.2.1) _ hr111) ?_
                    refine r_y rfl ?_
                    refine r_v (Value.bool (r110)) rfl rfl rfl rfl ?_
                    refine r_v (Value.bool (r110)) rfl rfl rfl rfl ?_
                    refine r_v (Value.bool (r110)) rfl rfl rfl rfl ?_
                    rcases hg112 : (r110) with _ | _
                    · replace hM := ifn (Bool.eq_false_iff.1 hg112) hM
                      refine r_y rfl ?_
                      refine r_v (Value.pointer (some ⟨b26, 0, none⟩)) rfl rfl rfl rfl ?_
                      refine r_y rfl ?_
                      refine r_l (Value.int .i64 ((ops)[(i3_).toNat]!.1)) 0 _ _ _ _ rfl rfl rfl rfl rfl ?_
                      refine r_y rfl ?_
                      refine r_v (Value.bool ((((ops)[(i3_).toNat]!.1 : Int) == 4))) rfl rfl rfl rfl ?_
                      refine r_y rfl ?_
                      refine r_v (Value.bool ((((ops)[(i3_).toNat]!.1 : Int) == 4))) rfl rfl rfl rfl ?_
                      rcases hg113 : ((((ops)[(i3_).toNat]!.1 : Int) == 4)) with _ | _
                      · replace hM := ifn (ne_of_beq_false hg113) hM
                        refine r_n false rfl (by decide) rfl ?_
                        refine r_n false rfl (by decide) rfl ?_
                        refine r_n false rfl (by decide) rfl ?_
                        refine r_y rfl ?_
                        refine r_v (Value.bool (false)) rfl rfl rfl rfl ?_
                        refine r_v (Value.bool (false)) rfl rfl rfl rfl ?_
                        refine r_v (Value.bool (false)) rfl rfl rfl rfl ?_
                        refine lx_nil ?_
                        refine fg _ (Sub.pick [[(b26, 34, #[Value.int .i64 ((ops)[(i3_).toNat]!.1), Value.int .i64 ((ops)[(i3_).toNat]!.2.1), Value.int .i64 (255), Value.int .i64 (255), Value.int .i64 ((ops)[(i3_).toNat]!.2.2.2.2.1), U (hi ((ops)[(i3_).toNat]!.2.2.2.2.2.1)), U (lo ((ops)[(i3_).toNat]!.2.2.2.2.2.1)), Value.string (⟨((ops)[(i3_).toNat]!.2.2.2.2.2.2.1).toArray⟩), s21, s22])], Sb1_, Sdone2_] [0, 1, 2] rfl) ?_
                        exact ⟨false, hM, is_mk (by first | rfl | (simp only [hg70, hg81, hg92, hg105, hg106, hg112, hg113]; done) | (simp only [hg70, hg81, hg92, hg105, hg106, hg112, hg113]; rfl) | (simp only [app_hl]; rfl)) rfl⟩
                      · replace hM := ifp (eq_of_beq hg113) hM
                        refine r_y rfl ?_
                        refine r_v (Value.pointer (some ⟨b26, 7, none⟩)) rfl rfl rfl rfl ?_
                        refine r_y rfl ?_
                        refine r_l (Value.string (⟨((ops)[(i3_).toNat]!.2.2.2.2.2.2.1).toArray⟩)) 0 _ _ _ _ rfl rfl rfl rfl rfl ?_
                        refine r_y rfl ?_
                        replace hM := bind_sm hM; obtain ⟨r114, hr115, hM⟩ := hM
                        refine r_c (Value.bool (r114)) rfl _ _ (ev_callF rfl call_18 rfl) (shunterref05_May_g N ((ops)[(i3_).toNat]!.2.2.2.2.2.2.1) _ hr115) ?_
                        refine r_y rfl ?_
                        refine r_v (Value.bool (r114)) rfl rfl rfl rfl ?_
                        refine r_v (Value.bool (r114)) rfl rfl rfl rfl ?_
                        refine r_v (Value.bool (r114)) rfl rfl rfl rfl ?_
                        refine lx_nil ?_
                        refine fg _ (Sub.pick [[(b26, 34, #[Value.int .i64 ((ops)[(i3_).toNat]!.1), Value.int .i64 ((ops)[(i3_).toNat]!.2.1), Value.int .i64 (255), Value.int .i64 (255), Value.int .i64 ((ops)[(i3_).toNat]!.2.2.2.2.1), U (hi ((ops)[(i3_).toNat]!.2.2.2.2.2.1)), U (lo ((ops)[(i3_).toNat]!.2.2.2.2.2.1)), Value.string (⟨((ops)[(i3_).toNat]!.2.2.2.2.2.2.1).toArray⟩), s21, s22])], Sb1_, Sdone2_] [0, 1, 2] rfl) ?_
                        exact ⟨r114, hM, is_mk (by first | rfl | (simp only [hg70, hg81, hg92, hg105, hg106, hg112, hg113]; done) | (simp only [hg70, hg81, hg92, hg105, hg106, hg112, hg113]; rfl) | (simp only [app_hl]; rfl)) rfl⟩
                    · replace hM := ifp hg112 hM
                      refine r_n true rfl (by decide) rfl ?_
                      refine r_n true rfl (by decide) rfl ?_
                      refine r_n true rfl (by decide) rfl ?_
                      refine r_n true rfl (by decide) rfl ?_
                      refine r_nu rfl rfl ?_
                      refine r_nu rfl rfl ?_
                      refine r_nu rfl rfl ?_
                      refine r_n true rfl (by decide) rfl ?_
                      refine r_v (Value.bool (true)) rfl rfl rfl rfl ?_
                      refine r_v (Value.bool (true)) rfl rfl rfl rfl ?_
                      refine lx_nil ?_
                      refine fg _ (Sub.pick [[(b26, 34, #[Value.int .i64 ((ops)[(i3_).toNat]!.1), Value.int .i64 ((ops)[(i3_).toNat]!.2.1), Value.int .i64 (255), Value.int .i64 (255), Value.int .i64 ((ops)[(i3_).toNat]!.2.2.2.2.1), U (hi ((ops)[(i3_).toNat]!.2.2.2.2.2.1)), U (lo ((ops)[(i3_).toNat]!.2.2.2.2.2.1)), Value.string (⟨((ops)[(i3_).toNat]!.2.2.2.2.2.2.1).toArray⟩), s21, s22])], Sb1_, Sdone2_] [0, 1, 2] rfl) ?_
                      exact ⟨true, hM, is_mk (by first | rfl | (simp only [hg70, hg81, hg92, hg105, hg106, hg112]; done) | (simp only [hg70, hg81, hg92, hg105, hg106, hg112]; rfl) | (simp only [app_hl]; rfl)) rfl⟩
                · replace hM := ifp (of_decide_eq_true hg105) hM
                  refine r_n true rfl (by decide) rfl ?_
                  refine r_n true rfl (by decide) rfl ?_
                  refine r_n true rfl (by decide) rfl ?_
                  refine r_n true rfl (by decide) rfl ?_
                  refine r_nu rfl rfl ?_
                  refine r_nu rfl rfl ?_
                  refine r_nu rfl rfl ?_
                  refine r_n true rfl (by decide) rfl ?_
                  refine r_v (Value.bool (true)) rfl rfl rfl rfl ?_
                  refine r_v (Value.bool (true)) rfl rfl rfl rfl ?_
                  refine r_n true rfl (by decide) rfl ?_
                  refine r_n true rfl (by decide) rfl ?_
                  refine r_n true rfl (by decide) rfl ?_
                  refine r_n true rfl (by decide) rfl ?_
                  refine r_nu rfl rfl ?_
                  refine r_nu rfl rfl ?_
                  refine r_nu rfl rfl ?_
                  refine r_n true rfl (by decide) rfl ?_
                  refine r_v (Value.bool (true)) rfl rfl rfl rfl ?_
                  refine r_v (Value.bool (true)) rfl rfl rfl rfl ?_
                  refine lx_nil ?_
                  refine fg _ (Sub.pick [[(b26, 34, #[Value.int .i64 ((ops)[(i3_).toNat]!.1), Value.int .i64 ((ops)[(i3_).toNat]!.2.1), Value.int .i64 (255), Value.int .i64 (255), Value.int .i64 ((ops)[(i3_).toNat]!.2.2.2.2.1), U (hi ((ops)[(i3_).toNat]!.2.2.2.2.2.1)), U (lo ((ops)[(i3_).toNat]!.2.2.2.2.2.1)), Value.string (⟨((ops)[(i3_).toNat]!.2.2.2.2.2.2.1).toArray⟩), s21, s22])], Sb1_, Sdone2_] [0, 1, 2] rfl) ?_
                  exact ⟨true, hM, is_mk (by first | rfl | (simp only [hg70, hg81, hg92, hg105]; done) | (simp only [hg70, hg81, hg92, hg105]; rfl) | (simp only [app_hl]; rfl)) rfl⟩
        · clear hM; rintro t l ⟨fits5_, hM, ⟨T, rfl⟩, rfl⟩
          unfold shunterlaw07_WireBack_k6 at hM
          refine A_seq fun K31 hK31 => ?_
          refine A_seq fun K32 hK32 => ?_
          refine A_reg ?_
          refine r_v (Value.bool (fits5_)) rfl rfl rfl rfl ?_
          refine r_v (Value.bool (!(fits5_))) rfl rfl rfl rfl ?_
          refine lx_nil ?_
          refine hK32 _ _ ?_; try clear hK32 K32
          refine A_cond (!(fits5_)) rfl (fun hc33 => ?_) (fun hc33 => ?_)
          · replace hM := ifn (Bool.eq_false_iff.1 (not_t hc33)) hM
            refine A_exit ?_
            refine hK18 _ _ ?_; try clear hK18 K18
            refine A_reg ?_
            refine r_v (Value.int .i64 (i3_)) rfl rfl rfl rfl ?_
            replace hM := ck_some hM; obtain ⟨ck34, hM⟩ := hM
            refine r_v (Value.int .i64 ((i3_ + 1))) rfl rfl (wi64 rfl ck34.1 ck34.2) rfl ?_
            refine r_v (Value.int .i64 ((i3_ + 1))) rfl rfl rfl rfl ?_
            refine lx_nil ?_
            refine fg _ (Sub.pick [[(b26, 34, #[Value.int .i64 ((ops)[(i3_).toNat]!.1), Value.int .i64 ((ops)[(i3_).toNat]!.2.1), Value.int .i64 (255), Value.int .i64 (255), Value.int .i64 ((ops)[(i3_).toNat]!.2.2.2.2.1), U (hi ((ops)[(i3_).toNat]!.2.2.2.2.2.1)), U (lo ((ops)[(i3_).toNat]!.2.2.2.2.2.1)), Value.string (⟨((ops)[(i3_).toNat]!.2.2.2.2.2.2.1).toArray⟩), s21, s22])], Sb1_, Sdone2_] [1, 2] rfl) ?_
            exact ⟨n14 + 1, by omega, n14, b1_, done2_, (i3_ + 1), hM, vb1_, Sb1_, hb1_, vdone2_, Sdone2_, hdone2_, is_mk rfl rfl, rfl⟩
          · replace hM := ifp (not_f hc33) hM
            refine A_skip ?_
            refine hK31 _ _ ?_; try clear hK31 K31
            refine A_seq fun K35 hK35 => ?_
            refine A_regC [(some 90, true)] (conG Try.prog [(90, fun _ _ v_ L_ U_ => ∀ u0_, shunterlaw07_write_v1_m N b1_ ((ops)[(i3_).toNat]!.1) ((ops)[(i3_).toNat]!.2.1) 255 255 ((ops)[(i3_).toNat]!.2.2.2.2.1) ((ops)[(i3_).toNat]!.2.2.2.2.2.1) ((ops)[(i3_).toNat]!.2.2.2.2.2.2.1) ((ops)[(i3_).toNat]!.2.2.2.2.2.2.2.1) ((ops)[(i3_).toNat]!.2.2.2.2.2.2.2.2) = some u0_ → (pO (List.flatten []) (oS 5 encY u0_.2 fun s_0 => (SumRow5.onP u0_.1 (oE (Value.tuple #[vb1_, s_0]) []) (fun y0_0 => (oS 5 encY y0_0 fun ss_0_0 => (oE (Value.tuple #[ss_0_0, s_0]) [])))))) v_ L_ U_)]) ?_
            refine r_v (vb1_) rfl rfl rfl rfl ?_
            refine r_l (Value.agg #[Value.int .i64 ((ops)[(i3_).toNat]!.1), Value.int .i64 ((ops)[(i3_).toNat]!.2.1), Value.int .i64 (255), Value.int .i64 (255), Value.int .i64 ((ops)[(i3_).toNat]!.2.2.2.2.1), U (hi ((ops)[(i3_).toNat]!.2.2.2.2.2.1)), U (lo ((ops)[(i3_).toNat]!.2.2.2.2.2.1)), Value.string (⟨((ops)[(i3_).toNat]!.2.2.2.2.2.2.1).toArray⟩), s21, s22]) 0 _ _ _ _ rfl rfl rfl rfl rfl ?_
            replace hM := bind_sm hM; obtain ⟨r36, hr37, hM⟩ := hM
            refine r_gm (Ls := [[(b26, 34, #[Value.int .i64 ((ops)[(i3_).toNat]!.1), Value.int .i64 ((ops)[(i3_).toNat]!.2.1), Value.int .i64 (255), Value.int .i64 (255), Value.int .i64 ((ops)[(i3_).toNat]!.2.2.2.2.1), U (hi ((ops)[(i3_).toNat]!.2.2.2.2.2.1)), U (lo ((ops)[(i3_).toNat]!.2.2.2.2.2.1)), Value.string (⟨((ops)[(i3_).toNat]!.2.2.2.2.2.2.1).toArray⟩), s21, s22])], Sb1_, Sdone2_]) (FL := []) (RL := [[(b26, 34, #[Value.int .i64 ((ops)[(i3_).toNat]!.1), Value.int .i64 ((ops)[(i3_).toNat]!.2.1), Value.int .i64 (255), Value.int .i64 (255), Value.int .i64 ((ops)[(i3_).toNat]!.2.2.2.2.1), U (hi ((ops)[(i3_).toNat]!.2.2.2.2.2.1)), U (lo ((ops)[(i3_).toNat]!.2.2.2.2.2.1)), Value.string (⟨((ops)[(i3_).toNat]!.2.2.2.2.2.2.1).toArray⟩), s21, s22])], Sb1_, Sdone2_]) [] (oS 5 encY r36.2 fun s_0 => (SumRow5.onP r36.1 (oE (Value.tuple #[vb1_, s_0]) []) (fun y0_0 => (oS 5 encY y0_0 fun ss_0_0 => (oE (Value.tuple #[ss_0_0, s_0]) []))))) (some 90) 8 _ rfl rfl rfl rfl rfl (ev_callF rfl call_8 rfl) (fun own_ nw_ hn_ hs_ => shunterlaw07_write_v1_g N b1_ ((ops)[(i3_).toNat]!.1) ((ops)[(i3_).toNat]!.2.1) 255 255 ((ops)[(i3_).toNat]!.2.2.2.2.1) ((ops)[(i3_).toNat]!.2.2.2.2.2.1) ((ops)[(i3_).toNat]!.2.2.2.2.2.2.1) ((ops)[(i3_).toNat]!.2.2.2.2.2.2.2.1) ((ops)[(i3_).toNat]!.2.2.2.2.2.2.2.2) _ hr37 _ vb1_ (rd_sans (Ls := [[(b26, 34, #[Value.int .i64 ((ops)[(i3_).toNat]!.1), Value.int .i64 ((ops)[(i3_).toNat]!.2.1), Value.int .i64 (255), Value.int .i64 (255), Value.int .i64 ((ops)[(i3_).toNat]!.2.2.2.2.1), U (hi ((ops)[(i3_).toNat]!.2.2.2.2.2.1)), U (lo ((ops)[(i3_).toNat]!.2.2.2.2.2.1)), Value.string (⟨((ops)[(i3_).toNat]!.2.2.2.2.2.2.1).toArray⟩), s21, s22])], Sb1_, Sdone2_]) (is := []) 1 hb1_ rfl rfl hn_ hs_) s21 (Rd.mono (ro_sans (Ls := [[(b26, 34, #[Value.int .i64 ((ops)[(i3_).toNat]!.1), Value.int .i64 ((ops)[(i3_).toNat]!.2.1), Value.int .i64 (255), Value.int .i64 (255), Value.int .i64 ((ops)[(i3_).toNat]!.2.2.2.2.1), U (hi ((ops)[(i3_).toNat]!.2.2.2.2.2.1)), U (lo ((ops)[(i3_).toNat]!.2.2.2.2.2.1)), Value.string (⟨((ops)[(i3_).toNat]!.2.2.2.2.2.2.1).toArray⟩), s21, s22])], Sb1_, Sdone2_]) (is := []) rfl hs_) hs23) s22 (Rd.mono (ro_sans (Ls := [[(b26, 34, #[Value.int .i64 ((ops)[(i3_).toNat]!.1), Value.int .i64 ((ops)[(i3_).toNat]!.2.1), Value.int .i64 (255), Value.int .i64 (255), Value.int .i64 ((ops)[(i3_).toNat]!.2.2.2.2.1), U (hi ((ops)[(i3_).toNat]!.2.2.2.2.2.1)), U (lo ((ops)[(i3_).toNat]!.2.2.2.2.2.1)), Value.string (⟨((ops)[(i3_).toNat]!.2.2.2.2.2.2.1).toArray⟩), s21, s22])], Sb1_, Sdone2_]) (is := []) rfl hs_) hs24)) (fun _ _ v_ L_ U_ => ⟨fun h_ => h_ _ hr37, fun h_ => by intro _ e_; cases Option.some.inj (e_.symm.trans hr37); exact h_⟩) (fun h_ => nomatch h_) ?_
            rintro _ _ ⟨s38, S39, _, H40, hp_, rfl⟩
            rcases SumRow5.cases r36.1 with hx41 | ⟨x42_0, hx41⟩
            · obtain ⟨rfl, rfl⟩ := SumRow5.onP_nil hx41 hp_
              replace hM := SumRow5.on_nil hx41 hM
              refine lx_perm (Ls := [[(b26, 34, #[Value.int .i64 ((ops)[(i3_).toNat]!.1), Value.int .i64 ((ops)[(i3_).toNat]!.2.1), Value.int .i64 (255), Value.int .i64 (255), Value.int .i64 ((ops)[(i3_).toNat]!.2.2.2.2.1), U (hi ((ops)[(i3_).toNat]!.2.2.2.2.2.1)), U (lo ((ops)[(i3_).toNat]!.2.2.2.2.2.1)), Value.string (⟨((ops)[(i3_).toNat]!.2.2.2.2.2.2.1).toArray⟩), s21, s22])], Sb1_, Sdone2_, S39]) (Ls' := [[(b26, 34, #[Value.int .i64 ((ops)[(i3_).toNat]!.1), Value.int .i64 ((ops)[(i3_).toNat]!.2.1), Value.int .i64 (255), Value.int .i64 (255), Value.int .i64 ((ops)[(i3_).toNat]!.2.2.2.2.1), U (hi ((ops)[(i3_).toNat]!.2.2.2.2.2.1)), U (lo ((ops)[(i3_).toNat]!.2.2.2.2.2.1)), Value.string (⟨((ops)[(i3_).toNat]!.2.2.2.2.2.2.1).toArray⟩), s21, s22])], Sb1_, Sdone2_, S39]) [0, 1, 2, 3] rfl rfl ?_
              refine r_v (Value.tuple #[vb1_, s38]) rfl rfl rfl rfl ?_
              refine r_v (vb1_) rfl rfl rfl rfl ?_
              refine r_v (s38) rfl rfl rfl rfl ?_
              refine r_v (vb1_) rfl rfl rfl rfl ?_
              refine r_v (s38) rfl rfl rfl rfl ?_
              refine lx_nil ?_
              refine hK35 _ _ ?_; try clear hK35 K35
              refine A_seq fun K43 hK43 => ?_
              refine A_reg ?_
              refine r_v (vb1_) rfl rfl rfl rfl ?_
              refine r_v (vb1_) rfl rfl rfl rfl ?_
              refine lx_nil ?_
              refine hK43 _ _ ?_; try clear hK43 K43
              refine A_regC [(some 96, false), (some 97, true)] (conG Try.prog []) ?_
              refine r_v (vdone2_) rfl rfl rfl rfl ?_
              refine r_l (Value.agg #[Value.int .i64 ((ops)[(i3_).toNat]!.1), Value.int .i64 ((ops)[(i3_).toNat]!.2.1), Value.int .i64 (255), Value.int .i64 (255), Value.int .i64 ((ops)[(i3_).toNat]!.2.2.2.2.1), U (hi ((ops)[(i3_).toNat]!.2.2.2.2.2.1)), U (lo ((ops)[(i3_).toNat]!.2.2.2.2.2.1)), Value.string (⟨((ops)[(i3_).toNat]!.2.2.2.2.2.2.1).toArray⟩), s21, s22]) 0 _ _ _ _ rfl rfl rfl rfl rfl ?_
              have hR44 : (enco_34z).R ((ops)[(i3_).toNat]!.1, (ops)[(i3_).toNat]!.2.1, 255, 255, (ops)[(i3_).toNat]!.2.2.2.2.1, (ops)[(i3_).toNat]!.2.2.2.2.2.1, (ops)[(i3_).toNat]!.2.2.2.2.2.2.1) [Value.int .i64 ((ops)[(i3_).toNat]!.1), Value.int .i64 ((ops)[(i3_).toNat]!.2.1), Value.int .i64 (255), Value.int .i64 (255), Value.int .i64 ((ops)[(i3_).toNat]!.2.2.2.2.1), U (hi ((ops)[(i3_).toNat]!.2.2.2.2.2.1)), U (lo ((ops)[(i3_).toNat]!.2.2.2.2.2.1)), Value.string (⟨((ops)[(i3_).toNat]!.2.2.2.2.2.2.1).toArray⟩), s21, s22] ([]) := (by have h_ := (encoZ_mk s22 (encoZ_mk s21 (encoP_mk (encoF_mk (E := encI) ((ops)[(i3_).toNat]!.1)) (encoP_mk (encoF_mk (E := encI) ((ops)[(i3_).toNat]!.2.1)) (encoP_mk (encoF_mk (E := encI) 255) (encoP_mk (encoF_mk (E := encI) 255) (encoP_mk (encoF_mk (E := encI) ((ops)[(i3_).toNat]!.2.2.2.2.1)) (encoP_mk (encoF_mk (E := encW) ((ops)[(i3_).toNat]!.2.2.2.2.2.1)) (encoF_mk (E := encS) ((ops)[(i3_).toNat]!.2.2.2.2.2.2.1)))))))) (Shp.one (Rd.shp hs23))) (Shp.one (Rd.shp hs24))); exact EncO.cast h_ (by first | rfl | simp only [List.nil_append, List.append_nil, List.append_assoc]))
              refine r_bs (cs0 := []) (Ls := [[(b26, 34, #[Value.int .i64 ((ops)[(i3_).toNat]!.1), Value.int .i64 ((ops)[(i3_).toNat]!.2.1), Value.int .i64 (255), Value.int .i64 (255), Value.int .i64 ((ops)[(i3_).toNat]!.2.2.2.2.1), U (hi ((ops)[(i3_).toNat]!.2.2.2.2.2.1)), U (lo ((ops)[(i3_).toNat]!.2.2.2.2.2.1)), Value.string (⟨((ops)[(i3_).toNat]!.2.2.2.2.2.2.1).toArray⟩), s21, s22])], Sb1_, Sdone2_, S39]) 34 (EncO.raw enco_34z) [EncO.of enco_34z hR44] [Value.int .i64 ((ops)[(i3_).toNat]!.1), Value.int .i64 ((ops)[(i3_).toNat]!.2.1), Value.int .i64 (255), Value.int .i64 (255), Value.int .i64 ((ops)[(i3_).toNat]!.2.2.2.2.1), U (hi ((ops)[(i3_).toNat]!.2.2.2.2.2.1)), U (lo ((ops)[(i3_).toNat]!.2.2.2.2.2.1)), Value.string (⟨((ops)[(i3_).toNat]!.2.2.2.2.2.2.1).toArray⟩), s21, s22] [Value.int .i64 (0), Value.int .i64 (0), Value.int .i64 (0), Value.int .i64 (0), Value.int .i64 (0), U (0#64), U (0#64), Value.string (⟨#[]⟩), Value.slice none 0 0, Value.slice none 0 0] rfl rfl rfl rfl rfl rfl rfl (by kernel_rfl) ((fillC_eq _ _ _ _ (pc_cons rfl pc_nil)).trans (by kernel_rfl)) rfl rfl rfl (fun s45 S46 H47 => ?_)
              refine lx_name (Ls := [[(b26, 34, #[Value.int .i64 ((ops)[(i3_).toNat]!.1), Value.int .i64 ((ops)[(i3_).toNat]!.2.1), Value.int .i64 (255), Value.int .i64 (255), Value.int .i64 ((ops)[(i3_).toNat]!.2.2.2.2.1), U (hi ((ops)[(i3_).toNat]!.2.2.2.2.2.1)), U (lo ((ops)[(i3_).toNat]!.2.2.2.2.2.1)), Value.string (⟨((ops)[(i3_).toNat]!.2.2.2.2.2.2.1).toArray⟩), s21, s22])], Sb1_, Sdone2_, S39, S46]) (p := fun S_ => SlO 34 enco_34z s45 ([((ops)[(i3_).toNat]!.1, (ops)[(i3_).toNat]!.2.1, 255, 255, (ops)[(i3_).toNat]!.2.2.2.2.1, (ops)[(i3_).toNat]!.2.2.2.2.2.1, (ops)[(i3_).toNat]!.2.2.2.2.2.2.1)]) S_) 4 rfl (SlO.cast (⟨_, _, _, H47, (Items.one hR44), rfl⟩ : SlO 34 enco_34z s45 [((ops)[(i3_).toNat]!.1, (ops)[(i3_).toNat]!.2.1, 255, 255, (ops)[(i3_).toNat]!.2.2.2.2.1, (ops)[(i3_).toNat]!.2.2.2.2.2.1, (ops)[(i3_).toNat]!.2.2.2.2.2.2.1)] _) (by first | rfl | simp only [List.nil_append, List.append_nil, List.append_assoc])) (fun S48 H49 => ?_)
              replace hM := ck_some hM; obtain ⟨ck50, hM⟩ := hM
              obtain ⟨rs51, S54, S55, Hs52, Hi53, rfl⟩ := H49
              refine lx_eq (Ls := [[(b26, 34, #[Value.int .i64 ((ops)[(i3_).toNat]!.1), Value.int .i64 ((ops)[(i3_).toNat]!.2.1), Value.int .i64 (255), Value.int .i64 (255), Value.int .i64 ((ops)[(i3_).toNat]!.2.2.2.2.1), U (hi ((ops)[(i3_).toNat]!.2.2.2.2.2.1)), U (lo ((ops)[(i3_).toNat]!.2.2.2.2.2.1)), Value.string (⟨((ops)[(i3_).toNat]!.2.2.2.2.2.2.1).toArray⟩), s21, s22])], Sb1_, Sdone2_, S39, S54 ++ S55]) (Ls' := [[(b26, 34, #[Value.int .i64 ((ops)[(i3_).toNat]!.1), Value.int .i64 ((ops)[(i3_).toNat]!.2.1), Value.int .i64 (255), Value.int .i64 (255), Value.int .i64 ((ops)[(i3_).toNat]!.2.2.2.2.1), U (hi ((ops)[(i3_).toNat]!.2.2.2.2.2.1)), U (lo ((ops)[(i3_).toNat]!.2.2.2.2.2.1)), Value.string (⟨((ops)[(i3_).toNat]!.2.2.2.2.2.2.1).toArray⟩), s21, s22])], Sb1_, Sdone2_, S39, S54, S55]) (by simp only [List.flatten_cons, List.flatten_nil, List.append_nil, List.append_assoc]) ?_
              obtain ⟨rs56, S59, S60, Hs57, Hi58, rfl⟩ := hdone2_
              refine lx_eq (Ls := [[(b26, 34, #[Value.int .i64 ((ops)[(i3_).toNat]!.1), Value.int .i64 ((ops)[(i3_).toNat]!.2.1), Value.int .i64 (255), Value.int .i64 (255), Value.int .i64 ((ops)[(i3_).toNat]!.2.2.2.2.1), U (hi ((ops)[(i3_).toNat]!.2.2.2.2.2.1)), U (lo ((ops)[(i3_).toNat]!.2.2.2.2.2.1)), Value.string (⟨((ops)[(i3_).toNat]!.2.2.2.2.2.2.1).toArray⟩), s21, s22])], Sb1_, S59 ++ S60, S39, S54, S55]) (Ls' := [[(b26, 34, #[Value.int .i64 ((ops)[(i3_).toNat]!.1), Value.int .i64 ((ops)[(i3_).toNat]!.2.1), Value.int .i64 (255), Value.int .i64 (255), Value.int .i64 ((ops)[(i3_).toNat]!.2.2.2.2.1), U (hi ((ops)[(i3_).toNat]!.2.2.2.2.2.1)), U (lo ((ops)[(i3_).toNat]!.2.2.2.2.2.1)), Value.string (⟨((ops)[(i3_).toNat]!.2.2.2.2.2.2.1).toArray⟩), s21, s22])], Sb1_, S59, S60, S39, S54, S55]) (by simp only [List.flatten_cons, List.flatten_nil, List.append_nil, List.append_assoc]) ?_
              refine r_app (cs0 := []) (Ls := [[(b26, 34, #[Value.int .i64 ((ops)[(i3_).toNat]!.1), Value.int .i64 ((ops)[(i3_).toNat]!.2.1), Value.int .i64 (255), Value.int .i64 (255), Value.int .i64 ((ops)[(i3_).toNat]!.2.2.2.2.1), U (hi ((ops)[(i3_).toNat]!.2.2.2.2.2.1)), U (lo ((ops)[(i3_).toNat]!.2.2.2.2.2.1)), Value.string (⟨((ops)[(i3_).toNat]!.2.2.2.2.2.2.1).toArray⟩), s21, s22])], Sb1_, S59, S60, S39, S54, S55]) 2 (En := EncO.raw enco_34z) rfl rfl rfl rfl rfl Hs57 rfl (rd_own Hs52 (mem_chunk (Ls := [[(b26, 34, #[Value.int .i64 ((ops)[(i3_).toNat]!.1), Value.int .i64 ((ops)[(i3_).toNat]!.2.1), Value.int .i64 (255), Value.int .i64 (255), Value.int .i64 ((ops)[(i3_).toNat]!.2.2.2.2.1), U (hi ((ops)[(i3_).toNat]!.2.2.2.2.2.1)), U (lo ((ops)[(i3_).toNat]!.2.2.2.2.2.1)), Value.string (⟨((ops)[(i3_).toNat]!.2.2.2.2.2.2.1).toArray⟩), s21, s22])], Sb1_, S59, S60, S39, S54, S55]) (k := 5) rfl rfl)) rfl rfl rfl rfl rfl (app_b (show (rs56).length + rs51.length ≤ 1172812402961 by rw [show (rs56).length = _ from Items.len (E := enco_34z) Hi58, Items.len Hi53]; exact ck50) rfl) (app_m (show (rs56).length + rs51.length ≤ 1172812402961 by rw [show (rs56).length = _ from Items.len (E := enco_34z) Hi58, Items.len Hi53]; exact ck50) rfl) rfl (fun s61 S62 H63 => ?_)
              refine lx_perm (Ls := [[(b26, 34, #[Value.int .i64 ((ops)[(i3_).toNat]!.1), Value.int .i64 ((ops)[(i3_).toNat]!.2.1), Value.int .i64 (255), Value.int .i64 (255), Value.int .i64 ((ops)[(i3_).toNat]!.2.2.2.2.1), U (hi ((ops)[(i3_).toNat]!.2.2.2.2.2.1)), U (lo ((ops)[(i3_).toNat]!.2.2.2.2.2.1)), Value.string (⟨((ops)[(i3_).toNat]!.2.2.2.2.2.2.1).toArray⟩), s21, s22])], Sb1_, S62, S60, S39, S54, S55]) (Ls' := [[(b26, 34, #[Value.int .i64 ((ops)[(i3_).toNat]!.1), Value.int .i64 ((ops)[(i3_).toNat]!.2.1), Value.int .i64 (255), Value.int .i64 (255), Value.int .i64 ((ops)[(i3_).toNat]!.2.2.2.2.1), U (hi ((ops)[(i3_).toNat]!.2.2.2.2.2.1)), U (lo ((ops)[(i3_).toNat]!.2.2.2.2.2.1)), Value.string (⟨((ops)[(i3_).toNat]!.2.2.2.2.2.2.1).toArray⟩), s21, s22])], Sb1_, S62, S60, S39, S55]) [0, 1, 2, 3, 4, 6] rfl rfl ?_
              refine lx_perm (Ls := [[(b26, 34, #[Value.int .i64 ((ops)[(i3_).toNat]!.1), Value.int .i64 ((ops)[(i3_).toNat]!.2.1), Value.int .i64 (255), Value.int .i64 (255), Value.int .i64 ((ops)[(i3_).toNat]!.2.2.2.2.1), U (hi ((ops)[(i3_).toNat]!.2.2.2.2.2.1)), U (lo ((ops)[(i3_).toNat]!.2.2.2.2.2.1)), Value.string (⟨((ops)[(i3_).toNat]!.2.2.2.2.2.2.1).toArray⟩), s21, s22])], Sb1_, S62, S60, S39, S55]) (Ls' := [[(b26, 34, #[Value.int .i64 ((ops)[(i3_).toNat]!.1), Value.int .i64 ((ops)[(i3_).toNat]!.2.1), Value.int .i64 (255), Value.int .i64 (255), Value.int .i64 ((ops)[(i3_).toNat]!.2.2.2.2.1), U (hi ((ops)[(i3_).toNat]!.2.2.2.2.2.1)), U (lo ((ops)[(i3_).toNat]!.2.2.2.2.2.1)), Value.string (⟨((ops)[(i3_).toNat]!.2.2.2.2.2.2.1).toArray⟩), s21, s22])], Sb1_, S39, S62, S60, S55]) [0, 1, 4, 2, 3, 5] rfl rfl ?_
              refine lx_eq (Ls := [[(b26, 34, #[Value.int .i64 ((ops)[(i3_).toNat]!.1), Value.int .i64 ((ops)[(i3_).toNat]!.2.1), Value.int .i64 (255), Value.int .i64 (255), Value.int .i64 ((ops)[(i3_).toNat]!.2.2.2.2.1), U (hi ((ops)[(i3_).toNat]!.2.2.2.2.2.1)), U (lo ((ops)[(i3_).toNat]!.2.2.2.2.2.1)), Value.string (⟨((ops)[(i3_).toNat]!.2.2.2.2.2.2.1).toArray⟩), s21, s22])], Sb1_, S39, S62, S60, S55]) (Ls' := [[(b26, 34, #[Value.int .i64 ((ops)[(i3_).toNat]!.1), Value.int .i64 ((ops)[(i3_).toNat]!.2.1), Value.int .i64 (255), Value.int .i64 (255), Value.int .i64 ((ops)[(i3_).toNat]!.2.2.2.2.1), U (hi ((ops)[(i3_).toNat]!.2.2.2.2.2.1)), U (lo ((ops)[(i3_).toNat]!.2.2.2.2.2.1)), Value.string (⟨((ops)[(i3_).toNat]!.2.2.2.2.2.2.1).toArray⟩), s21, s22])], Sb1_, S39, (S62 ++ (S60 ++ S55))]) (by simp only [List.flatten_cons, List.flatten_nil, List.append_nil, List.append_assoc]) ?_
              refine lx_name (Ls := [[(b26, 34, #[Value.int .i64 ((ops)[(i3_).toNat]!.1), Value.int .i64 ((ops)[(i3_).toNat]!.2.1), Value.int .i64 (255), Value.int .i64 (255), Value.int .i64 ((ops)[(i3_).toNat]!.2.2.2.2.1), U (hi ((ops)[(i3_).toNat]!.2.2.2.2.2.1)), U (lo ((ops)[(i3_).toNat]!.2.2.2.2.2.1)), Value.string (⟨((ops)[(i3_).toNat]!.2.2.2.2.2.2.1).toArray⟩), s21, s22])], Sb1_, S39, (S62 ++ (S60 ++ S55))]) (p := fun S_ => SlO 34 enco_34z s61 (done2_ ++ ([((ops)[(i3_).toNat]!.1, (ops)[(i3_).toNat]!.2.1, 255, 255, (ops)[(i3_).toNat]!.2.2.2.2.1, (ops)[(i3_).toNat]!.2.2.2.2.2.1, (ops)[(i3_).toNat]!.2.2.2.2.2.2.1)])) S_) 3 rfl (SlO.cast (SlO.add (rs := rs56) (xs := done2_) H63 Hi58 Hi53) (by first | rfl | simp only [List.nil_append, List.append_nil, List.append_assoc])) (fun S64 H65 => ?_)
              refine r_v (s61) rfl rfl rfl rfl ?_
              refine lx_nil ?_
              refine hK18 _ _ ?_; try clear hK18 K18
              refine A_reg ?_
              refine r_v (Value.int .i64 (i3_)) rfl rfl rfl rfl ?_
              replace hM := ck_some hM; obtain ⟨ck66, hM⟩ := hM
              refine r_v (Value.int .i64 ((i3_ + 1))) rfl rfl (wi64 rfl ck66.1 ck66.2) rfl ?_
              refine r_v (Value.int .i64 ((i3_ + 1))) rfl rfl rfl rfl ?_
              refine lx_nil ?_
              refine fg _ (Sub.pick [[(b26, 34, #[Value.int .i64 ((ops)[(i3_).toNat]!.1), Value.int .i64 ((ops)[(i3_).toNat]!.2.1), Value.int .i64 (255), Value.int .i64 (255), Value.int .i64 ((ops)[(i3_).toNat]!.2.2.2.2.1), U (hi ((ops)[(i3_).toNat]!.2.2.2.2.2.1)), U (lo ((ops)[(i3_).toNat]!.2.2.2.2.2.1)), Value.string (⟨((ops)[(i3_).toNat]!.2.2.2.2.2.2.1).toArray⟩), s21, s22])], Sb1_, S39, S64] [1, 3] rfl) ?_
              exact ⟨n14 + 1, by omega, n14, b1_, (done2_ ++ ([((ops)[(i3_).toNat]!.1, (ops)[(i3_).toNat]!.2.1, 255, 255, (ops)[(i3_).toNat]!.2.2.2.2.1, (ops)[(i3_).toNat]!.2.2.2.2.2.1, (ops)[(i3_).toNat]!.2.2.2.2.2.2.1)])), (i3_ + 1), hM, vb1_, Sb1_, hb1_, s61, S64, H65, is_mk rfl rfl, rfl⟩
            · obtain ⟨s43, S44, _, H45, ⟨rfl, rfl⟩, rfl⟩ := SumRow5.onP_t0 hx41 hp_
              replace hM := SumRow5.on_t0 hx41 hM
              refine lx_perm (Ls := [[(b26, 34, #[Value.int .i64 ((ops)[(i3_).toNat]!.1), Value.int .i64 ((ops)[(i3_).toNat]!.2.1), Value.int .i64 (255), Value.int .i64 (255), Value.int .i64 ((ops)[(i3_).toNat]!.2.2.2.2.1), U (hi ((ops)[(i3_).toNat]!.2.2.2.2.2.1)), U (lo ((ops)[(i3_).toNat]!.2.2.2.2.2.1)), Value.string (⟨((ops)[(i3_).toNat]!.2.2.2.2.2.2.1).toArray⟩), s21, s22])], Sb1_, Sdone2_, S39, S44]) (Ls' := [[(b26, 34, #[Value.int .i64 ((ops)[(i3_).toNat]!.1), Value.int .i64 ((ops)[(i3_).toNat]!.2.1), Value.int .i64 (255), Value.int .i64 (255), Value.int .i64 ((ops)[(i3_).toNat]!.2.2.2.2.1), U (hi ((ops)[(i3_).toNat]!.2.2.2.2.2.1)), U (lo ((ops)[(i3_).toNat]!.2.2.2.2.2.1)), Value.string (⟨((ops)[(i3_).toNat]!.2.2.2.2.2.2.1).toArray⟩), s21, s22])], Sb1_, Sdone2_, S39, S44]) [0, 1, 2, 3, 4] rfl rfl ?_
              refine r_v (Value.tuple #[s43, s38]) rfl rfl rfl rfl ?_
              refine r_v (s43) rfl rfl rfl rfl ?_
              refine r_v (s38) rfl rfl rfl rfl ?_
              refine r_v (s43) rfl rfl rfl rfl ?_
              refine r_v (s38) rfl rfl rfl rfl ?_
              refine lx_nil ?_
              refine hK35 _ _ ?_; try clear hK35 K35
              refine A_seq fun K46 hK46 => ?_
              refine A_reg ?_
              refine r_v (s43) rfl rfl rfl rfl ?_
              refine r_v (s43) rfl rfl rfl rfl ?_
              refine lx_nil ?_
              refine hK46 _ _ ?_; try clear hK46 K46
              refine A_regC [(some 96, false), (some 97, true)] (conG Try.prog []) ?_
              refine r_v (vdone2_) rfl rfl rfl rfl ?_
              refine r_l (Value.agg #[Value.int .i64 ((ops)[(i3_).toNat]!.1), Value.int .i64 ((ops)[(i3_).toNat]!.2.1), Value.int .i64 (255), Value.int .i64 (255), Value.int .i64 ((ops)[(i3_).toNat]!.2.2.2.2.1), U (hi ((ops)[(i3_).toNat]!.2.2.2.2.2.1)), U (lo ((ops)[(i3_).toNat]!.2.2.2.2.2.1)), Value.string (⟨((ops)[(i3_).toNat]!.2.2.2.2.2.2.1).toArray⟩), s21, s22]) 0 _ _ _ _ rfl rfl rfl rfl rfl ?_
              have hR47 : (enco_34z).R ((ops)[(i3_).toNat]!.1, (ops)[(i3_).toNat]!.2.1, 255, 255, (ops)[(i3_).toNat]!.2.2.2.2.1, (ops)[(i3_).toNat]!.2.2.2.2.2.1, (ops)[(i3_).toNat]!.2.2.2.2.2.2.1) [Value.int .i64 ((ops)[(i3_).toNat]!.1), Value.int .i64 ((ops)[(i3_).toNat]!.2.1), Value.int .i64 (255), Value.int .i64 (255), Value.int .i64 ((ops)[(i3_).toNat]!.2.2.2.2.1), U (hi ((ops)[(i3_).toNat]!.2.2.2.2.2.1)), U (lo ((ops)[(i3_).toNat]!.2.2.2.2.2.1)), Value.string (⟨((ops)[(i3_).toNat]!.2.2.2.2.2.2.1).toArray⟩), s21, s22] ([]) := (by have h_ := (encoZ_mk s22 (encoZ_mk s21 (encoP_mk (encoF_mk (E := encI) ((ops)[(i3_).toNat]!.1)) (encoP_mk (encoF_mk (E := encI) ((ops)[(i3_).toNat]!.2.1)) (encoP_mk (encoF_mk (E := encI) 255) (encoP_mk (encoF_mk (E := encI) 255) (encoP_mk (encoF_mk (E := encI) ((ops)[(i3_).toNat]!.2.2.2.2.1)) (encoP_mk (encoF_mk (E := encW) ((ops)[(i3_).toNat]!.2.2.2.2.2.1)) (encoF_mk (E := encS) ((ops)[(i3_).toNat]!.2.2.2.2.2.2.1)))))))) (Shp.one (Rd.shp hs23))) (Shp.one (Rd.shp hs24))); exact EncO.cast h_ (by first | rfl | simp only [List.nil_append, List.append_nil, List.append_assoc]))
              refine r_bs (cs0 := []) (Ls := [[(b26, 34, #[Value.int .i64 ((ops)[(i3_).toNat]!.1), Value.int .i64 ((ops)[(i3_).toNat]!.2.1), Value.int .i64 (255), Value.int .i64 (255), Value.int .i64 ((ops)[(i3_).toNat]!.2.2.2.2.1), U (hi ((ops)[(i3_).toNat]!.2.2.2.2.2.1)), U (lo ((ops)[(i3_).toNat]!.2.2.2.2.2.1)), Value.string (⟨((ops)[(i3_).toNat]!.2.2.2.2.2.2.1).toArray⟩), s21, s22])], Sb1_, Sdone2_, S39, S44]) 34 (EncO.raw enco_34z) [EncO.of enco_34z hR47] [Value.int .i64 ((ops)[(i3_).toNat]!.1), Value.int .i64 ((ops)[(i3_).toNat]!.2.1), Value.int .i64 (255), Value.int .i64 (255), Value.int .i64 ((ops)[(i3_).toNat]!.2.2.2.2.1), U (hi ((ops)[(i3_).toNat]!.2.2.2.2.2.1)), U (lo ((ops)[(i3_).toNat]!.2.2.2.2.2.1)), Value.string (⟨((ops)[(i3_).toNat]!.2.2.2.2.2.2.1).toArray⟩), s21, s22] [Value.int .i64 (0), Value.int .i64 (0), Value.int .i64 (0), Value.int .i64 (0), Value.int .i64 (0), U (0#64), U (0#64), Value.string (⟨#[]⟩), Value.slice none 0 0, Value.slice none 0 0] rfl rfl rfl rfl rfl rfl rfl (by kernel_rfl) ((fillC_eq _ _ _ _ (pc_cons rfl pc_nil)).trans (by kernel_rfl)) rfl rfl rfl (fun s48 S49 H50 => ?_)
              refine lx_name (Ls := [[(b26, 34, #[Value.int .i64 ((ops)[(i3_).toNat]!.1), Value.int .i64 ((ops)[(i3_).toNat]!.2.1), Value.int .i64 (255), Value.int .i64 (255), Value.int .i64 ((ops)[(i3_).toNat]!.2.2.2.2.1), U (hi ((ops)[(i3_).toNat]!.2.2.2.2.2.1)), U (lo ((ops)[(i3_).toNat]!.2.2.2.2.2.1)), Value.string (⟨((ops)[(i3_).toNat]!.2.2.2.2.2.2.1).toArray⟩), s21, s22])], Sb1_, Sdone2_, S39, S44, S49]) (p := fun S_ => SlO 34 enco_34z s48 ([((ops)[(i3_).toNat]!.1, (ops)[(i3_).toNat]!.2.1, 255, 255, (ops)[(i3_).toNat]!.2.2.2.2.1, (ops)[(i3_).toNat]!.2.2.2.2.2.1, (ops)[(i3_).toNat]!.2.2.2.2.2.2.1)]) S_) 5 rfl (SlO.cast (⟨_, _, _, H50, (Items.one hR47), rfl⟩ : SlO 34 enco_34z s48 [((ops)[(i3_).toNat]!.1, (ops)[(i3_).toNat]!.2.1, 255, 255, (ops)[(i3_).toNat]!.2.2.2.2.1, (ops)[(i3_).toNat]!.2.2.2.2.2.1, (ops)[(i3_).toNat]!.2.2.2.2.2.2.1)] _) (by first | rfl | simp only [List.nil_append, List.append_nil, List.append_assoc])) (fun S51 H52 => ?_)
              replace hM := ck_some hM; obtain ⟨ck53, hM⟩ := hM
              obtain ⟨rs54, S57, S58, Hs55, Hi56, rfl⟩ := H52
              refine lx_eq (Ls := [[(b26, 34, #[Value.int .i64 ((ops)[(i3_).toNat]!.1), Value.int .i64 ((ops)[(i3_).toNat]!.2.1), Value.int .i64 (255), Value.int .i64 (255), Value.int .i64 ((ops)[(i3_).toNat]!.2.2.2.2.1), U (hi ((ops)[(i3_).toNat]!.2.2.2.2.2.1)), U (lo ((ops)[(i3_).toNat]!.2.2.2.2.2.1)), Value.string (⟨((ops)[(i3_).toNat]!.2.2.2.2.2.2.1).toArray⟩), s21, s22])], Sb1_, Sdone2_, S39, S44, S57 ++ S58]) (Ls' := [[(b26, 34, #[Value.int .i64 ((ops)[(i3_).toNat]!.1), Value.int .i64 ((ops)[(i3_).toNat]!.2.1), Value.int .i64 (255), Value.int .i64 (255), Value.int .i64 ((ops)[(i3_).toNat]!.2.2.2.2.1), U (hi ((ops)[(i3_).toNat]!.2.2.2.2.2.1)), U (lo ((ops)[(i3_).toNat]!.2.2.2.2.2.1)), Value.string (⟨((ops)[(i3_).toNat]!.2.2.2.2.2.2.1).toArray⟩), s21, s22])], Sb1_, Sdone2_, S39, S44, S57, S58]) (by simp only [List.flatten_cons, List.flatten_nil, List.append_nil, List.append_assoc]) ?_
              obtain ⟨rs59, S62, S63, Hs60, Hi61, rfl⟩ := hdone2_
              refine lx_eq (Ls := [[(b26, 34, #[Value.int .i64 ((ops)[(i3_).toNat]!.1), Value.int .i64 ((ops)[(i3_).toNat]!.2.1), Value.int .i64 (255), Value.int .i64 (255), Value.int .i64 ((ops)[(i3_).toNat]!.2.2.2.2.1), U (hi ((ops)[(i3_).toNat]!.2.2.2.2.2.1)), U (lo ((ops)[(i3_).toNat]!.2.2.2.2.2.1)), Value.string (⟨((ops)[(i3_).toNat]!.2.2.2.2.2.2.1).toArray⟩), s21, s22])], Sb1_, S62 ++ S63, S39, S44, S57, S58]) (Ls' := [[(b26, 34, #[Value.int .i64 ((ops)[(i3_).toNat]!.1), Value.int .i64 ((ops)[(i3_).toNat]!.2.1), Value.int .i64 (255), Value.int .i64 (255), Value.int .i64 ((ops)[(i3_).toNat]!.2.2.2.2.1), U (hi ((ops)[(i3_).toNat]!.2.2.2.2.2.1)), U (lo ((ops)[(i3_).toNat]!.2.2.2.2.2.1)), Value.string (⟨((ops)[(i3_).toNat]!.2.2.2.2.2.2.1).toArray⟩), s21, s22])], Sb1_, S62, S63, S39, S44, S57, S58]) (by simp only [List.flatten_cons, List.flatten_nil, List.append_nil, List.append_assoc]) ?_
              refine r_app (cs0 := []) (Ls := [[(b26, 34, #[Value.int .i64 ((ops)[(i3_).toNat]!.1), Value.int .i64 ((ops)[(i3_).toNat]!.2.1), Value.int .i64 (255), Value.int .i64 (255), Value.int .i64 ((ops)[(i3_).toNat]!.2.2.2.2.1), U (hi ((ops)[(i3_).toNat]!.2.2.2.2.2.1)), U (lo ((ops)[(i3_).toNat]!.2.2.2.2.2.1)), Value.string (⟨((ops)[(i3_).toNat]!.2.2.2.2.2.2.1).toArray⟩), s21, s22])], Sb1_, S62, S63, S39, S44, S57, S58]) 2 (En := EncO.raw enco_34z) rfl rfl rfl rfl rfl Hs60 rfl (rd_own Hs55 (mem_chunk (Ls := [[(b26, 34, #[Value.int .i64 ((ops)[(i3_).toNat]!.1), Value.int .i64 ((ops)[(i3_).toNat]!.2.1), Value.int .i64 (255), Value.int .i64 (255), Value.int .i64 ((ops)[(i3_).toNat]!.2.2.2.2.1), U (hi ((ops)[(i3_).toNat]!.2.2.2.2.2.1)), U (lo ((ops)[(i3_).toNat]!.2.2.2.2.2.1)), Value.string (⟨((ops)[(i3_).toNat]!.2.2.2.2.2.2.1).toArray⟩), s21, s22])], Sb1_, S62, S63, S39, S44, S57, S58]) (k := 6) rfl rfl)) rfl rfl rfl rfl rfl (app_b (show (rs59).length + rs54.length ≤ 1172812402961 by rw [show (rs59).length = _ from Items.len (E := enco_34z) Hi61, Items.len Hi56]; exact ck53) rfl) (app_m (show (rs59).length + rs54.length ≤ 1172812402961 by rw [show (rs59).length = _ from Items.len (E := enco_34z) Hi61, Items.len Hi56]; exact ck53) rfl) rfl (fun s64 S65 H66 => ?_)
              refine lx_perm (Ls := [[(b26, 34, #[Value.int .i64 ((ops)[(i3_).toNat]!.1), Value.int .i64 ((ops)[(i3_).toNat]!.2.1), Value.int .i64 (255), Value.int .i64 (255), Value.int .i64 ((ops)[(i3_).toNat]!.2.2.2.2.1), U (hi ((ops)[(i3_).toNat]!.2.2.2.2.2.1)), U (lo ((ops)[(i3_).toNat]!.2.2.2.2.2.1)), Value.string (⟨((ops)[(i3_).toNat]!.2.2.2.2.2.2.1).toArray⟩), s21, s22])], Sb1_, S65, S63, S39, S44, S57, S58]) (Ls' := [[(b26, 34, #[Value.int .i64 ((ops)[(i3_).toNat]!.1), Value.int .i64 ((ops)[(i3_).toNat]!.2.1), Value.int .i64 (255), Value.int .i64 (255), Value.int .i64 ((ops)[(i3_).toNat]!.2.2.2.2.1), U (hi ((ops)[(i3_).toNat]!.2.2.2.2.2.1)), U (lo ((ops)[(i3_).toNat]!.2.2.2.2.2.1)), Value.string (⟨((ops)[(i3_).toNat]!.2.2.2.2.2.2.1).toArray⟩), s21, s22])], Sb1_, S65, S63, S39, S44, S58]) [0, 1, 2, 3, 4, 5, 7] rfl rfl ?_
              refine lx_perm (Ls := [[(b26, 34, #[Value.int .i64 ((ops)[(i3_).toNat]!.1), Value.int .i64 ((ops)[(i3_).toNat]!.2.1), Value.int .i64 (255), Value.int .i64 (255), Value.int .i64 ((ops)[(i3_).toNat]!.2.2.2.2.1), U (hi ((ops)[(i3_).toNat]!.2.2.2.2.2.1)), U (lo ((ops)[(i3_).toNat]!.2.2.2.2.2.1)), Value.string (⟨((ops)[(i3_).toNat]!.2.2.2.2.2.2.1).toArray⟩), s21, s22])], Sb1_, S65, S63, S39, S44, S58]) (Ls' := [[(b26, 34, #[Value.int .i64 ((ops)[(i3_).toNat]!.1), Value.int .i64 ((ops)[(i3_).toNat]!.2.1), Value.int .i64 (255), Value.int .i64 (255), Value.int .i64 ((ops)[(i3_).toNat]!.2.2.2.2.1), U (hi ((ops)[(i3_).toNat]!.2.2.2.2.2.1)), U (lo ((ops)[(i3_).toNat]!.2.2.2.2.2.1)), Value.string (⟨((ops)[(i3_).toNat]!.2.2.2.2.2.2.1).toArray⟩), s21, s22])], Sb1_, S39, S44, S65, S63, S58]) [0, 1, 4, 5, 2, 3, 6] rfl rfl ?_
              refine lx_eq (Ls := [[(b26, 34, #[Value.int .i64 ((ops)[(i3_).toNat]!.1), Value.int .i64 ((ops)[(i3_).toNat]!.2.1), Value.int .i64 (255), Value.int .i64 (255), Value.int .i64 ((ops)[(i3_).toNat]!.2.2.2.2.1), U (hi ((ops)[(i3_).toNat]!.2.2.2.2.2.1)), U (lo ((ops)[(i3_).toNat]!.2.2.2.2.2.1)), Value.string (⟨((ops)[(i3_).toNat]!.2.2.2.2.2.2.1).toArray⟩), s21, s22])], Sb1_, S39, S44, S65, S63, S58]) (Ls' := [[(b26, 34, #[Value.int .i64 ((ops)[(i3_).toNat]!.1), Value.int .i64 ((ops)[(i3_).toNat]!.2.1), Value.int .i64 (255), Value.int .i64 (255), Value.int .i64 ((ops)[(i3_).toNat]!.2.2.2.2.1), U (hi ((ops)[(i3_).toNat]!.2.2.2.2.2.1)), U (lo ((ops)[(i3_).toNat]!.2.2.2.2.2.1)), Value.string (⟨((ops)[(i3_).toNat]!.2.2.2.2.2.2.1).toArray⟩), s21, s22])], Sb1_, S39, S44, (S65 ++ (S63 ++ S58))]) (by simp only [List.flatten_cons, List.flatten_nil, List.append_nil, List.append_assoc]) ?_
              refine lx_name (Ls := [[(b26, 34, #[Value.int .i64 ((ops)[(i3_).toNat]!.1), Value.int .i64 ((ops)[(i3_).toNat]!.2.1), Value.int .i64 (255), Value.int .i64 (255), Value.int .i64 ((ops)[(i3_).toNat]!.2.2.2.2.1), U (hi ((ops)[(i3_).toNat]!.2.2.2.2.2.1)), U (lo ((ops)[(i3_).toNat]!.2.2.2.2.2.1)), Value.string (⟨((ops)[(i3_).toNat]!.2.2.2.2.2.2.1).toArray⟩), s21, s22])], Sb1_, S39, S44, (S65 ++ (S63 ++ S58))]) (p := fun S_ => SlO 34 enco_34z s64 (done2_ ++ ([((ops)[(i3_).toNat]!.1, (ops)[(i3_).toNat]!.2.1, 255, 255, (ops)[(i3_).toNat]!.2.2.2.2.1, (ops)[(i3_).toNat]!.2.2.2.2.2.1, (ops)[(i3_).toNat]!.2.2.2.2.2.2.1)])) S_) 4 rfl (SlO.cast (SlO.add (rs := rs59) (xs := done2_) H66 Hi61 Hi56) (by first | rfl | simp only [List.nil_append, List.append_nil, List.append_assoc])) (fun S67 H68 => ?_)
              refine r_v (s64) rfl rfl rfl rfl ?_
              refine lx_nil ?_
              refine hK18 _ _ ?_; try clear hK18 K18
              refine A_reg ?_
              refine r_v (Value.int .i64 (i3_)) rfl rfl rfl rfl ?_
              replace hM := ck_some hM; obtain ⟨ck69, hM⟩ := hM
              refine r_v (Value.int .i64 ((i3_ + 1))) rfl rfl (wi64 rfl ck69.1 ck69.2) rfl ?_
              refine r_v (Value.int .i64 ((i3_ + 1))) rfl rfl rfl rfl ?_
              refine lx_nil ?_
              refine fg _ (Sub.pick [[(b26, 34, #[Value.int .i64 ((ops)[(i3_).toNat]!.1), Value.int .i64 ((ops)[(i3_).toNat]!.2.1), Value.int .i64 (255), Value.int .i64 (255), Value.int .i64 ((ops)[(i3_).toNat]!.2.2.2.2.1), U (hi ((ops)[(i3_).toNat]!.2.2.2.2.2.1)), U (lo ((ops)[(i3_).toNat]!.2.2.2.2.2.1)), Value.string (⟨((ops)[(i3_).toNat]!.2.2.2.2.2.2.1).toArray⟩), s21, s22])], Sb1_, S39, S44, S67] [3, 4] rfl) ?_
              exact ⟨n14 + 1, by omega, n14, x42_0, (done2_ ++ ([((ops)[(i3_).toNat]!.1, (ops)[(i3_).toNat]!.2.1, 255, 255, (ops)[(i3_).toNat]!.2.2.2.2.1, (ops)[(i3_).toNat]!.2.2.2.2.2.1, (ops)[(i3_).toNat]!.2.2.2.2.2.2.1)])), (i3_ + 1), hM, s43, S44, H45, s64, S67, H68, is_mk rfl rfl, rfl⟩
      · replace hM := ifn (of_decide_eq_false hc17) hM
        refine A_exit ?_
        refine hK12 _ _ ?_; try clear hK12 K12
        refine A_seq fun K116 hK116 => ?_
        refine A_drawR [(some 99, true), (some 107, true)] (conG Try.prog [(99, fun _ _ v_ L_ U_ => ∀ u0_, wire_Read_m N b1_ = some u0_ → (pO (List.flatten []) (oS 5 encY u0_.1 fun s_0 => (oB 69 #[s_0, Value.int .i64 (u0_.2.1), Value.int .i64 (u0_.2.2)] fun b_0 => (oE (Value.pointer (some ⟨b_0, 0, none⟩)) [])))) v_ L_ U_), (107, fun _ _ v_ L_ U_ => ∀ u0_, wire_Read_m N (((b1_).take ((max (0) (min (cut) (((b1_).length : Int)))).toNat)).drop (0)) = some u0_ → (pO (List.flatten []) (oS 5 encY u0_.1 fun s_0 => (oB 69 #[s_0, Value.int .i64 (u0_.2.1), Value.int .i64 (u0_.2.2)] fun b_0 => (oE (Value.pointer (some ⟨b_0, 0, none⟩)) [])))) v_ L_ U_)]) [] (by decide +kernel) (fun hn => sep_nil) ?_
        refine r_v (vb1_) rfl rfl rfl rfl ?_
        replace hM := bind_sm hM; obtain ⟨r117, hr118, hM⟩ := hM
        refine r_gm (Ls := [Sb1_, Sdone2_]) (FL := []) (RL := [Sb1_, Sdone2_]) [] (oS 5 encY r117.1 fun s_0 => (oB 69 #[s_0, Value.int .i64 (r117.2.1), Value.int .i64 (r117.2.2)] fun b_0 => (oE (Value.pointer (some ⟨b_0, 0, none⟩)) []))) (some 99) 9 _ rfl rfl rfl rfl rfl (ev_callF rfl call_9 rfl) (fun own_ nw_ hn_ hs_ => wire_Read_g N b1_ _ hr118 _ vb1_ (rd_sans (Ls := [Sb1_, Sdone2_]) (is := []) 0 hb1_ rfl rfl hn_ hs_)) (fun _ _ v_ L_ U_ => ⟨fun h_ => h_ _ hr118, fun h_ => by intro _ e_; cases Option.some.inj (e_.symm.trans hr118); exact h_⟩) (fun _ => (NiceO.sub (R := []) (niceS fun s_0 => (niceB fun b_0 => (niceE rfl))) (Sub.pick [] [] rfl))) ?_
        rintro _ _ ⟨s120, S121, _, H122, ⟨b119, _, ⟨rfl, rfl⟩, rfl⟩, rfl⟩
        refine lx_perm (Ls := [Sb1_, Sdone2_, S121, [(b119, 69, #[s120, Value.int .i64 (r117.2.1), Value.int .i64 (r117.2.2)])]]) (Ls' := [[(b119, 69, #[s120, Value.int .i64 (r117.2.1), Value.int .i64 (r117.2.2)])], Sb1_, Sdone2_, S121]) [3, 0, 1, 2] rfl rfl ?_
        refine r_v (vb1_) rfl rfl rfl rfl ?_
        refine r_v (Value.int .i64 (cut)) rfl rfl rfl rfl ?_
        refine r_v (vb1_) rfl rfl rfl rfl ?_
        refine r_v (Value.int .i64 (((b1_).length : Int))) rfl rfl rfl (ev_lenSl rfl rfl rfl (Sl.shp hb1_)) ?_
        refine r_v (Value.int .i64 (min (cut) (((b1_).length : Int)))) rfl rfl rfl (ev_min rfl rfl) ?_
        refine r_v (Value.int .i64 (max (0) (min (cut) (((b1_).length : Int))))) rfl rfl rfl (ev_max rfl rfl) ?_
        replace hM := ck_some hM; obtain ⟨ck123, hM⟩ := hM
        refine r_v (subA vb1_ (0) ((max (0) (min (cut) (((b1_).length : Int)))).toNat) 1) rfl rfl rfl (ev_v (ev_subSl2 rfl rfl rfl rfl (Sl.shp hb1_) ck123)) ?_
        replace hM := bind_sm hM; obtain ⟨r124, hr125, hM⟩ := hM
        refine r_gm (Ls := [[(b119, 69, #[s120, Value.int .i64 (r117.2.1), Value.int .i64 (r117.2.2)])], Sb1_, Sdone2_, S121]) (FL := []) (RL := [[(b119, 69, #[s120, Value.int .i64 (r117.2.1), Value.int .i64 (r117.2.2)])], Sb1_, Sdone2_, S121]) [] (oS 5 encY r124.1 fun s_0 => (oB 69 #[s_0, Value.int .i64 (r124.2.1), Value.int .i64 (r124.2.2)] fun b_0 => (oE (Value.pointer (some ⟨b_0, 0, none⟩)) []))) (some 107) 9 _ rfl rfl rfl rfl rfl (ev_callF rfl call_9 rfl) (fun own_ nw_ hn_ hs_ => wire_Read_g N (((b1_).take ((max (0) (min (cut) (((b1_).length : Int)))).toNat)).drop (0)) _ hr125 _ (subA vb1_ (0) ((max (0) (min (cut) (((b1_).length : Int)))).toNat) 1) (rd_sans (Ls := [[(b119, 69, #[s120, Value.int .i64 (r117.2.1), Value.int .i64 (r117.2.2)])], Sb1_, Sdone2_, S121]) (is := []) 1 (Sl.take0 hb1_ (toNat_len ck123.2)) rfl rfl hn_ hs_)) (fun _ _ v_ L_ U_ => ⟨fun h_ => h_ _ hr125, fun h_ => by intro _ e_; cases Option.some.inj (e_.symm.trans hr125); exact h_⟩) (fun _ => (NiceO.sub (R := []) (niceS fun s_0 => (niceB fun b_0 => (niceE rfl))) (Sub.pick [] [] rfl))) ?_
        rintro _ _ ⟨s127, S128, _, H129, ⟨b126, _, ⟨rfl, rfl⟩, rfl⟩, rfl⟩
        refine lx_perm (Ls := [[(b119, 69, #[s120, Value.int .i64 (r117.2.1), Value.int .i64 (r117.2.2)])], Sb1_, Sdone2_, S121, S128, [(b126, 69, #[s127, Value.int .i64 (r124.2.1), Value.int .i64 (r124.2.2)])]]) (Ls' := [[(b119, 69, #[s120, Value.int .i64 (r117.2.1), Value.int .i64 (r117.2.2)])], [(b126, 69, #[s127, Value.int .i64 (r124.2.1), Value.int .i64 (r124.2.2)])], Sb1_, Sdone2_, S121, S128]) [0, 5, 1, 2, 3, 4] rfl rfl ?_
        refine r_v (Value.pointer (some ⟨b119, 0, none⟩)) rfl rfl rfl rfl ?_
        refine r_v (Value.pointer (some ⟨b126, 0, none⟩)) rfl rfl rfl rfl ?_
        refine lx_nil ?_
        refine hK116 _ _ ?_; try clear hK116 K116
        refine A_cut (fun tt ll => (shunterlaw07_WireBack_k7 N cut b1_ done2_ r117 r124  = some r) ∧ Is [(1, Value.int .i64 (cut)), (5, vb1_), (6, vdone2_), (13, Value.pointer (some ⟨b119, 0, none⟩)), (14, Value.pointer (some ⟨b126, 0, none⟩))] (List.flatten [[(b119, 69, #[s120, Value.int .i64 (r117.2.1), Value.int .i64 (r117.2.2)])], [(b126, 69, #[s127, Value.int .i64 (r124.2.1), Value.int .i64 (r124.2.2)])], Sb1_, Sdone2_, S121, S128]) tt ll) ?_ ?_
        · refine A_seq fun K261 hK261 => ?_
          refine A_reg ?_
          refine r_v (Value.pointer (some ⟨b119, 0, none⟩)) rfl rfl rfl rfl ?_
          refine r_v (Value.bool (false)) rfl rfl rfl rfl ?_
          refine r_v (Value.bool (false)) rfl rfl rfl rfl ?_
          refine r_y rfl ?_
          refine r_v (Value.pointer (some ⟨b126, 0, none⟩)) rfl rfl rfl rfl ?_
          refine r_y rfl ?_
          refine r_v (Value.bool (false)) rfl rfl rfl rfl ?_
          refine r_v (Value.bool (false)) rfl rfl rfl rfl ?_
          refine lx_nil ?_
          refine hK261 _ _ ?_; try clear hK261 K261
          refine A_cond false rfl (fun h_ => nomatch h_) (fun _ => ?_)
          refine A_skip ?_
          refine fg _ (Sub.pick [[(b119, 69, #[s120, Value.int .i64 (r117.2.1), Value.int .i64 (r117.2.2)])], [(b126, 69, #[s127, Value.int .i64 (r124.2.1), Value.int .i64 (r124.2.2)])], Sb1_, Sdone2_, S121, S128] [0, 1, 2, 3, 4, 5] rfl) ?_
          exact ⟨hM, is_mk rfl rfl⟩
        · clear hM; rintro t l ⟨hM, ⟨T, rfl⟩, rfl⟩
          unfold shunterlaw07_WireBack_k7 at hM
          refine A_seq fun K130 hK130 => ?_
          refine A_seq fun K131 hK131 => ?_
          refine A_reg ?_
          refine r_v (Value.int .i64 (0)) rfl rfl rfl rfl ?_
          refine lx_nil ?_
          refine hK131 _ _ ?_; try clear hK131 K131
          refine A_block ?_
          refine A_forget _ (Sub.pick [[(b119, 69, #[s120, Value.int .i64 (r117.2.1), Value.int .i64 (r117.2.2)])], [(b126, 69, #[s127, Value.int .i64 (r124.2.1), Value.int .i64 (r124.2.2)])], Sb1_, Sdone2_, S121, S128] [0, 1, 2, 3, 4, 5] rfl) ?_
          refine A_loop (fun tt ll nn => ∃ (n132 : Nat) (i8_ : Int) (s10_ : List UInt8) (m9__1 : Int) (m9__2 : Int) (s12_ : List UInt8) (m11__1 : Int) (m11__2 : Int), (shunterlaw07_WireBack_l13 N cut b1_ done2_ n132 i8_ s10_ m9__1 m9__2 s12_ m11__1 m11__2 = some r) ∧ ∃ (Ss10_ : List Bl), Sl 5 encY s120 s10_ Ss10_ ∧ ∃ (Ss12_ : List Bl), Sl 5 encY s127 s12_ Ss12_ ∧ Is [(1, Value.int .i64 (cut)), (5, vb1_), (6, vdone2_), (13, Value.pointer (some ⟨b119, 0, none⟩)), (14, Value.pointer (some ⟨b126, 0, none⟩)), (15, Value.int .i64 (i8_))] (List.flatten [[(b119, 69, #[s120, Value.int .i64 (m9__1), Value.int .i64 (m9__2)])], [(b126, 69, #[s127, Value.int .i64 (m11__1), Value.int .i64 (m11__2)])], Sb1_, Sdone2_, Ss10_, Ss12_]) tt ll ∧ nn = n132 + 1) (N + 1) ?_ ?_
          · exact ⟨N, 0, r117.1, r117.2.1, r117.2.2, r124.1, r124.2.1, r124.2.2, hM, S121, H122, S128, H129, is_mk rfl rfl, rfl⟩
          · clear hM; rintro t l _ ⟨n132, i8_, s10_, m9__1, m9__2, s12_, m11__1, m11__2, hM, Ss10_, hs10_, Ss12_, hs12_, ⟨⟨T, rfl⟩, rfl⟩, rfl⟩
            rcases n132 with _ | n132
            · exact absurd hM (by simp [shunterlaw07_WireBack_l13])
            rw [shunterlaw07_WireBack_l13] at hM
            refine A_seq fun K133 hK133 => ?_
            refine A_seq fun K134 hK134 => ?_
            refine A_reg ?_
            refine r_v (Value.int .i64 (i8_)) rfl rfl rfl rfl ?_
            refine r_v (vdone2_) rfl rfl rfl rfl ?_
            refine r_v (Value.int .i64 (((done2_).length : Int))) rfl rfl rfl (ev_lenSl rfl rfl rfl (SlO.shp hdone2_)) ?_
            refine r_v (Value.bool (decide ((i8_ : Int) < ((done2_).length : Int)))) rfl rfl rfl rfl ?_
            refine lx_nil ?_
            refine hK134 _ _ ?_; try clear hK134 K134
            refine A_cond (decide ((i8_ : Int) < ((done2_).length : Int))) rfl (fun hc135 => ?_) (fun hc135 => ?_)
            · replace hM := ifp (of_decide_eq_true hc135) hM
              refine A_skip ?_
              refine hK133 _ _ ?_; try clear hK133 K133
              refine A_seq fun K136 hK136 => ?_
              refine A_block ?_
              refine A_seq fun K137 hK137 => ?_
              refine A_reg ?_
              refine r_v (vdone2_) rfl rfl rfl rfl ?_
              refine r_v (Value.int .i64 (i8_)) rfl rfl rfl rfl ?_
              replace hM := ck_some hM; obtain ⟨ck138, hM⟩ := hM
              obtain ⟨rs139, S140, S141, H142, H143, hS144⟩ := id hdone2_
              obtain ⟨r145, A146, B147, S148, hr149, hR_, hS150, hput151⟩ := Items.at H143 (get_of ck138)
              obtain ⟨_, s155, ⟨_, s153, ⟨_, _, _, _, ⟨rfl, rfl⟩, ⟨_, _, _, _, ⟨rfl, rfl⟩, ⟨_, _, _, _, ⟨rfl, rfl⟩, ⟨_, _, _, _, ⟨rfl, rfl⟩, ⟨_, _, _, _, ⟨rfl, rfl⟩, ⟨_, _, _, _, ⟨rfl, rfl⟩, ⟨rfl, rfl⟩, rfl, rfl⟩, rfl, rfl⟩, rfl, rfl⟩, rfl, rfl⟩, rfl, rfl⟩, rfl, rfl⟩, h154, rfl⟩, h156, hv152⟩ := hR_
              refine r_v (elA vdone2_ ((i8_).toNat * 10)) rfl rfl rfl (ev_v (ev_idxSl rfl rfl rfl (SlO.shp hdone2_) ck138)) ?_
              refine r_le (Value.agg #[Value.int .i64 ((done2_)[(i8_).toNat]!.1), Value.int .i64 ((done2_)[(i8_).toNat]!.2.1), Value.int .i64 ((done2_)[(i8_).toNat]!.2.2.1), Value.int .i64 ((done2_)[(i8_).toNat]!.2.2.2.1), Value.int .i64 ((done2_)[(i8_).toNat]!.2.2.2.2.1), U (hi ((done2_)[(i8_).toNat]!.2.2.2.2.2.1)), U (lo ((done2_)[(i8_).toNat]!.2.2.2.2.2.1)), Value.string (⟨((done2_)[(i8_).toNat]!.2.2.2.2.2.2).toArray⟩), s153, s155]) (En := EncO.raw enco_34z) r145 ((i8_).toNat) 0 rfl rfl (rd_own H142 (mem_part (mem_chunk (Ls := [[(b119, 69, #[s120, Value.int .i64 (m9__1), Value.int .i64 (m9__2)])], [(b126, 69, #[s127, Value.int .i64 (m11__1), Value.int .i64 (m11__2)])], Sb1_, Sdone2_, Ss10_, Ss12_]) (k := 3) rfl rfl) (memP_l hS144))) hr149 (by have e_ : (EncO.raw enco_34z).f r145 = [Value.int .i64 ((done2_)[(i8_).toNat]!.1), Value.int .i64 ((done2_)[(i8_).toNat]!.2.1), Value.int .i64 ((done2_)[(i8_).toNat]!.2.2.1), Value.int .i64 ((done2_)[(i8_).toNat]!.2.2.2.1), Value.int .i64 ((done2_)[(i8_).toNat]!.2.2.2.2.1), U (hi ((done2_)[(i8_).toNat]!.2.2.2.2.2.1)), U (lo ((done2_)[(i8_).toNat]!.2.2.2.2.2.1)), Value.string (⟨((done2_)[(i8_).toNat]!.2.2.2.2.2.2).toArray⟩), s153, s155] := hv152; rw [e_]; rfl) ?_
              refine r_a (34, #[Value.int .i64 (0), Value.int .i64 (0), Value.int .i64 (0), Value.int .i64 (0), Value.int .i64 (0), U (0#64), U (0#64), Value.string (⟨#[]⟩), Value.slice none 0 0, Value.slice none 0 0]) rfl rfl rfl (fun b157 => ?_) (.inr rfl)
              refine r_s (List.flatten [[(b157, 34, #[Value.int .i64 ((done2_)[(i8_).toNat]!.1), Value.int .i64 ((done2_)[(i8_).toNat]!.2.1), Value.int .i64 ((done2_)[(i8_).toNat]!.2.2.1), Value.int .i64 ((done2_)[(i8_).toNat]!.2.2.2.1), Value.int .i64 ((done2_)[(i8_).toNat]!.2.2.2.2.1), U (hi ((done2_)[(i8_).toNat]!.2.2.2.2.2.1)), U (lo ((done2_)[(i8_).toNat]!.2.2.2.2.2.1)), Value.string (⟨((done2_)[(i8_).toNat]!.2.2.2.2.2.2).toArray⟩), s153, s155])], [(b119, 69, #[s120, Value.int .i64 (m9__1), Value.int .i64 (m9__2)])], [(b126, 69, #[s127, Value.int .i64 (m11__1), Value.int .i64 (m11__2)])], Sb1_, Sdone2_, Ss10_, Ss12_]) 0 _ _ _ (#[Value.int .i64 (0), Value.int .i64 (0), Value.int .i64 (0), Value.int .i64 (0), Value.int .i64 (0), U (0#64), U (0#64), Value.string (⟨#[]⟩), Value.slice none 0 0, Value.slice none 0 0]) (#[Value.int .i64 ((done2_)[(i8_).toNat]!.1), Value.int .i64 ((done2_)[(i8_).toNat]!.2.1), Value.int .i64 ((done2_)[(i8_).toNat]!.2.2.1), Value.int .i64 ((done2_)[(i8_).toNat]!.2.2.2.1), Value.int .i64 ((done2_)[(i8_).toNat]!.2.2.2.2.1), U (hi ((done2_)[(i8_).toNat]!.2.2.2.2.2.1)), U (lo ((done2_)[(i8_).toNat]!.2.2.2.2.2.1)), Value.string (⟨((done2_)[(i8_).toNat]!.2.2.2.2.2.2).toArray⟩), s153, s155]) (#[Value.int .i64 ((done2_)[(i8_).toNat]!.1), Value.int .i64 ((done2_)[(i8_).toNat]!.2.1), Value.int .i64 ((done2_)[(i8_).toNat]!.2.2.1), Value.int .i64 ((done2_)[(i8_).toNat]!.2.2.2.1), Value.int .i64 ((done2_)[(i8_).toNat]!.2.2.2.2.1), U (hi ((done2_)[(i8_).toNat]!.2.2.2.2.2.1)), U (lo ((done2_)[(i8_).toNat]!.2.2.2.2.2.1)), Value.string (⟨((done2_)[(i8_).toNat]!.2.2.2.2.2.2).toArray⟩), s153, s155]) rfl rfl rfl rfl (.ofS rfl rfl (all_cons' rfl (all_cons' rfl (all_cons' rfl (all_cons' rfl (all_cons' rfl (all_cons' rfl (all_cons' rfl (all_cons' rfl (all_cons' h154 (all_cons' h156 all_nil'))))))))))) rfl rfl ?_
              refine lx_nil ?_
              refine hK137 _ _ ?_; try clear hK137 K137
              refine A_seq fun K158 hK158 => ?_
              refine A_reg ?_
              refine r_v (Value.bool (true)) rfl rfl rfl rfl ?_
              refine lx_nil ?_
              refine hK158 _ _ ?_; try clear hK158 K158
              refine A_seq fun K159 hK159 => ?_
              refine A_seq fun K160 hK160 => ?_
              refine A_reg ?_
              refine r_v (Value.pointer (some ⟨b157, 0, none⟩)) rfl rfl rfl rfl ?_
              refine r_l (Value.int .i64 ((done2_)[(i8_).toNat]!.1)) 0 _ _ _ _ rfl rfl rfl rfl rfl ?_
              refine lx_nil ?_
              refine hK160 _ _ ?_; try clear hK160 K160
              refine A_block ?_
              refine A_seq fun K161 hK161 => ?_
              refine A_reg ?_
              refine r_v (Value.bool ((((done2_)[(i8_).toNat]!.1 : Int) == 0))) rfl rfl rfl rfl ?_
              refine r_v (Value.bool ((((done2_)[(i8_).toNat]!.1 : Int) == 0))) rfl rfl rfl rfl ?_
              refine lx_nil ?_
              refine hK161 _ _ ?_; try clear hK161 K161
              refine A_cond ((((done2_)[(i8_).toNat]!.1 : Int) == 0)) rfl (fun hc162 => ?_) (fun hc162 => ?_)
              · replace hM := ifp (eq_of_beq hc162) hM
                refine A_seq fun K163 hK163 => ?_
                refine A_drawH (Ls := [[(b157, 34, #[Value.int .i64 ((done2_)[(i8_).toNat]!.1), Value.int .i64 ((done2_)[(i8_).toNat]!.2.1), Value.int .i64 ((done2_)[(i8_).toNat]!.2.2.1), Value.int .i64 ((done2_)[(i8_).toNat]!.2.2.2.1), Value.int .i64 ((done2_)[(i8_).toNat]!.2.2.2.2.1), U (hi ((done2_)[(i8_).toNat]!.2.2.2.2.2.1)), U (lo ((done2_)[(i8_).toNat]!.2.2.2.2.2.1)), Value.string (⟨((done2_)[(i8_).toNat]!.2.2.2.2.2.2).toArray⟩), s153, s155])], [(b119, 69, #[s120, Value.int .i64 (m9__1), Value.int .i64 (m9__2)])], [(b126, 69, #[s127, Value.int .i64 (m11__1), Value.int .i64 (m11__2)])], Sb1_, Sdone2_, Ss10_, Ss12_]) [(some 136, true), (some 1000000137, true)] [(136, fun _ _ v_ L_ U_ => (pH ((List.flatten [[(b119, 69, #[s120, Value.int .i64 (m9__1), Value.int .i64 (m9__2)])], Ss10_]).map (·.1)) (fun v_ L_ U_ => ∀ u0_, wire_Reader_Byte_v2_m N s10_ m9__1 m9__2 255 = some u0_ → (pO (List.flatten [[(b119, 69, #[s120, Value.int .i64 (m9__1), Value.int .i64 (m9__2)])], Ss10_]) (oI 5 encY s120 u0_.2.1 (oE (Value.int .i64 (u0_.1)) [[(b119, 69, #[s120, Value.int .i64 (u0_.2.2.1), Value.int .i64 (u0_.2.2.2)])]]))) v_ L_ U_) v_ L_ U_))] [1, 5] [0] [] (by decide +kernel) (fun hn => sep_nil) (by decide +kernel) rfl (⟨.inr (fun _ _ _ _ _ h_ => pH_hid (pick_sub (Ls := [[(b157, 34, #[Value.int .i64 ((done2_)[(i8_).toNat]!.1), Value.int .i64 ((done2_)[(i8_).toNat]!.2.1), Value.int .i64 ((done2_)[(i8_).toNat]!.2.2.1), Value.int .i64 ((done2_)[(i8_).toNat]!.2.2.2.1), Value.int .i64 ((done2_)[(i8_).toNat]!.2.2.2.2.1), U (hi ((done2_)[(i8_).toNat]!.2.2.2.2.2.1)), U (lo ((done2_)[(i8_).toNat]!.2.2.2.2.2.1)), Value.string (⟨((done2_)[(i8_).toNat]!.2.2.2.2.2.2).toArray⟩), s153, s155])], [(b119, 69, #[s120, Value.int .i64 (m9__1), Value.int .i64 (m9__2)])], [(b126, 69, #[s127, Value.int .i64 (m11__1), Value.int .i64 (m11__2)])], Sb1_, Sdone2_, Ss10_, Ss12_]) (is := [1, 5]) (js := [1, 5]) rfl) h_), trivial⟩) (fun hnb_ => ?_)
                refine r_v (Value.pointer (some ⟨b119, 0, none⟩)) rfl rfl rfl rfl ?_
                replace hM := bind_sm hM; obtain ⟨r164, hr165, hM⟩ := hM
                replace hM := ck_some hM; obtain ⟨ck166, hM⟩ := hM
                refine r_gm (Ls := [[(b157, 34, #[Value.int .i64 ((done2_)[(i8_).toNat]!.1), Value.int .i64 ((done2_)[(i8_).toNat]!.2.1), Value.int .i64 ((done2_)[(i8_).toNat]!.2.2.1), Value.int .i64 ((done2_)[(i8_).toNat]!.2.2.2.1), Value.int .i64 ((done2_)[(i8_).toNat]!.2.2.2.2.1), U (hi ((done2_)[(i8_).toNat]!.2.2.2.2.2.1)), U (lo ((done2_)[(i8_).toNat]!.2.2.2.2.2.1)), Value.string (⟨((done2_)[(i8_).toNat]!.2.2.2.2.2.2).toArray⟩), s153, s155])], [(b119, 69, #[s120, Value.int .i64 (m9__1), Value.int .i64 (m9__2)])], [(b126, 69, #[s127, Value.int .i64 (m11__1), Value.int .i64 (m11__2)])], Sb1_, Sdone2_, Ss10_, Ss12_]) (FL := [[(b119, 69, #[s120, Value.int .i64 (m9__1), Value.int .i64 (m9__2)])], Ss10_]) (RL := [[(b157, 34, #[Value.int .i64 ((done2_)[(i8_).toNat]!.1), Value.int .i64 ((done2_)[(i8_).toNat]!.2.1), Value.int .i64 ((done2_)[(i8_).toNat]!.2.2.1), Value.int .i64 ((done2_)[(i8_).toNat]!.2.2.2.1), Value.int .i64 ((done2_)[(i8_).toNat]!.2.2.2.2.1), U (hi ((done2_)[(i8_).toNat]!.2.2.2.2.2.1)), U (lo ((done2_)[(i8_).toNat]!.2.2.2.2.2.1)), Value.string (⟨((done2_)[(i8_).toNat]!.2.2.2.2.2.2).toArray⟩), s153, s155])], [(b126, 69, #[s127, Value.int .i64 (m11__1), Value.int .i64 (m11__2)])], Sb1_, Sdone2_, Ss12_]) [1, 5] (oI 5 encY s120 r164.2.1 (oE (Value.int .i64 (r164.1)) [[(b119, 69, #[s120, Value.int .i64 (r164.2.2.1), Value.int .i64 (r164.2.2.2)])]])) (some 136) 19 _ rfl rfl rfl rfl rfl (ev_callF rfl call_19 rfl) (fun own_ nw_ hn_ hs_ => wire_Reader_Byte_v2_g N s10_ m9__1 m9__2 255 _ hr165 _ b119 s120 Ss10_ hs10_) (fun a_ c_ v_ L_ U_ => pH_iff (q := fun v_ L_ U_ => ∀ u0_, wire_Reader_Byte_v2_m N s10_ m9__1 m9__2 255 = some u0_ → (pO (List.flatten [[(b119, 69, #[s120, Value.int .i64 (m9__1), Value.int .i64 (m9__2)])], Ss10_]) (oI 5 encY s120 u0_.2.1 (oE (Value.int .i64 (u0_.1)) [[(b119, 69, #[s120, Value.int .i64 (u0_.2.2.1), Value.int .i64 (u0_.2.2.2)])]]))) v_ L_ U_) ((fun _ _ v_ L_ U_ => ⟨fun h_ => h_ _ hr165, fun h_ => by intro _ e_; cases Option.some.inj (e_.symm.trans hr165); exact h_⟩) a_ c_ v_ L_ U_)) (fun _ => (NiceO.sub (R := (Ss10_ ++ ([(b119, 69, #[s120, Value.int .i64 (m9__1), Value.int .i64 (m9__2)])] ++ []))) (niceI hs10_ ck166 (niceE rfl)) (Sub.pick [[(b119, 69, #[s120, Value.int .i64 (m9__1), Value.int .i64 (m9__2)])], Ss10_] [1, 0] rfl))) ?_
                rintro _ _ ⟨S167, _, H168, ⟨rfl, rfl⟩, rfl⟩
                refine lx_perm (Ls := [[(b157, 34, #[Value.int .i64 ((done2_)[(i8_).toNat]!.1), Value.int .i64 ((done2_)[(i8_).toNat]!.2.1), Value.int .i64 ((done2_)[(i8_).toNat]!.2.2.1), Value.int .i64 ((done2_)[(i8_).toNat]!.2.2.2.1), Value.int .i64 ((done2_)[(i8_).toNat]!.2.2.2.2.1), U (hi ((done2_)[(i8_).toNat]!.2.2.2.2.2.1)), U (lo ((done2_)[(i8_).toNat]!.2.2.2.2.2.1)), Value.string (⟨((done2_)[(i8_).toNat]!.2.2.2.2.2.2).toArray⟩), s153, s155])], [(b126, 69, #[s127, Value.int .i64 (m11__1), Value.int .i64 (m11__2)])], Sb1_, Sdone2_, Ss12_, S167, [(b119, 69, #[s120, Value.int .i64 (r164.2.2.1), Value.int .i64 (r164.2.2.2)])]]) (Ls' := [[(b157, 34, #[Value.int .i64 ((done2_)[(i8_).toNat]!.1), Value.int .i64 ((done2_)[(i8_).toNat]!.2.1), Value.int .i64 ((done2_)[(i8_).toNat]!.2.2.1), Value.int .i64 ((done2_)[(i8_).toNat]!.2.2.2.1), Value.int .i64 ((done2_)[(i8_).toNat]!.2.2.2.2.1), U (hi ((done2_)[(i8_).toNat]!.2.2.2.2.2.1)), U (lo ((done2_)[(i8_).toNat]!.2.2.2.2.2.1)), Value.string (⟨((done2_)[(i8_).toNat]!.2.2.2.2.2.2).toArray⟩), s153, s155])], [(b126, 69, #[s127, Value.int .i64 (m11__1), Value.int .i64 (m11__2)])], [(b119, 69, #[s120, Value.int .i64 (r164.2.2.1), Value.int .i64 (r164.2.2.2)])], Sb1_, Sdone2_, Ss12_, S167]) [0, 1, 6, 2, 3, 4, 5] rfl rfl ?_
                refine r_v (Value.pointer (some ⟨b157, 1, none⟩)) rfl rfl rfl rfl ?_
                refine r_lH (Value.int .i64 ((done2_)[(i8_).toNat]!.2.1)) 0 _ _ _ _ rfl rfl rfl rfl rfl (hnb_ b157 (List.mem_of_getElem? (i := 0) rfl)) ?_
                refine r_v (Value.bool (((r164.1 : Int) == (done2_)[(i8_).toNat]!.2.1))) rfl rfl rfl rfl ?_
                refine r_v (Value.bool (((r164.1 : Int) == (done2_)[(i8_).toNat]!.2.1))) rfl rfl rfl rfl ?_
                refine lx_nil ?_
                refine hK163 _ _ ?_; try clear hK163 K163
                refine A_regC [(some 141, true)] (conG Try.prog [(141, fun _ _ v_ L_ U_ => ∀ u0_, wire_Reader_Byte_v2_m N s12_ m11__1 m11__2 255 = some u0_ → (pO (List.flatten [[(b126, 69, #[s127, Value.int .i64 (m11__1), Value.int .i64 (m11__2)])], Ss12_]) (oI 5 encY s127 u0_.2.1 (oE (Value.int .i64 (u0_.1)) [[(b126, 69, #[s127, Value.int .i64 (u0_.2.2.1), Value.int .i64 (u0_.2.2.2)])]]))) v_ L_ U_)]) ?_
                refine r_v (Value.pointer (some ⟨b126, 0, none⟩)) rfl rfl rfl rfl ?_
                replace hM := bind_sm hM; obtain ⟨r169, hr170, hM⟩ := hM
                replace hM := ck_some hM; obtain ⟨ck171, hM⟩ := hM
                refine r_gm (Ls := [[(b157, 34, #[Value.int .i64 ((done2_)[(i8_).toNat]!.1), Value.int .i64 ((done2_)[(i8_).toNat]!.2.1), Value.int .i64 ((done2_)[(i8_).toNat]!.2.2.1), Value.int .i64 ((done2_)[(i8_).toNat]!.2.2.2.1), Value.int .i64 ((done2_)[(i8_).toNat]!.2.2.2.2.1), U (hi ((done2_)[(i8_).toNat]!.2.2.2.2.2.1)), U (lo ((done2_)[(i8_).toNat]!.2.2.2.2.2.1)), Value.string (⟨((done2_)[(i8_).toNat]!.2.2.2.2.2.2).toArray⟩), s153, s155])], [(b126, 69, #[s127, Value.int .i64 (m11__1), Value.int .i64 (m11__2)])], [(b119, 69, #[s120, Value.int .i64 (r164.2.2.1), Value.int .i64 (r164.2.2.2)])], Sb1_, Sdone2_, Ss12_, S167]) (FL := [[(b126, 69, #[s127, Value.int .i64 (m11__1), Value.int .i64 (m11__2)])], Ss12_]) (RL := [[(b157, 34, #[Value.int .i64 ((done2_)[(i8_).toNat]!.1), Value.int .i64 ((done2_)[(i8_).toNat]!.2.1), Value.int .i64 ((done2_)[(i8_).toNat]!.2.2.1), Value.int .i64 ((done2_)[(i8_).toNat]!.2.2.2.1), Value.int .i64 ((done2_)[(i8_).toNat]!.2.2.2.2.1), U (hi ((done2_)[(i8_).toNat]!.2.2.2.2.2.1)), U (lo ((done2_)[(i8_).toNat]!.2.2.2.2.2.1)), Value.string (⟨((done2_)[(i8_).toNat]!.2.2.2.2.2.2).toArray⟩), s153, s155])], [(b119, 69, #[s120, Value.int .i64 (r164.2.2.1), Value.int .i64 (r164.2.2.2)])], Sb1_, Sdone2_, S167]) [1, 5] (oI 5 encY s127 r169.2.1 (oE (Value.int .i64 (r169.1)) [[(b126, 69, #[s127, Value.int .i64 (r169.2.2.1), Value.int .i64 (r169.2.2.2)])]])) (some 141) 19 _ rfl rfl rfl rfl rfl (ev_callF rfl call_19 rfl) (fun own_ nw_ hn_ hs_ => wire_Reader_Byte_v2_g N s12_ m11__1 m11__2 255 _ hr170 _ b126 s127 Ss12_ hs12_) (fun _ _ v_ L_ U_ => ⟨fun h_ => h_ _ hr170, fun h_ => by intro _ e_; cases Option.some.inj (e_.symm.trans hr170); exact h_⟩) (fun h_ => nomatch h_) ?_
                rintro _ _ ⟨S172, _, H173, ⟨rfl, rfl⟩, rfl⟩
                refine lx_perm (Ls := [[(b157, 34, #[Value.int .i64 ((done2_)[(i8_).toNat]!.1), Value.int .i64 ((done2_)[(i8_).toNat]!.2.1), Value.int .i64 ((done2_)[(i8_).toNat]!.2.2.1), Value.int .i64 ((done2_)[(i8_).toNat]!.2.2.2.1), Value.int .i64 ((done2_)[(i8_).toNat]!.2.2.2.2.1), U (hi ((done2_)[(i8_).toNat]!.2.2.2.2.2.1)), U (lo ((done2_)[(i8_).toNat]!.2.2.2.2.2.1)), Value.string (⟨((done2_)[(i8_).toNat]!.2.2.2.2.2.2).toArray⟩), s153, s155])], [(b119, 69, #[s120, Value.int .i64 (r164.2.2.1), Value.int .i64 (r164.2.2.2)])], Sb1_, Sdone2_, S167, S172, [(b126, 69, #[s127, Value.int .i64 (r169.2.2.1), Value.int .i64 (r169.2.2.2)])]]) (Ls' := [[(b157, 34, #[Value.int .i64 ((done2_)[(i8_).toNat]!.1), Value.int .i64 ((done2_)[(i8_).toNat]!.2.1), Value.int .i64 ((done2_)[(i8_).toNat]!.2.2.1), Value.int .i64 ((done2_)[(i8_).toNat]!.2.2.2.1), Value.int .i64 ((done2_)[(i8_).toNat]!.2.2.2.2.1), U (hi ((done2_)[(i8_).toNat]!.2.2.2.2.2.1)), U (lo ((done2_)[(i8_).toNat]!.2.2.2.2.2.1)), Value.string (⟨((done2_)[(i8_).toNat]!.2.2.2.2.2.2).toArray⟩), s153, s155])], [(b119, 69, #[s120, Value.int .i64 (r164.2.2.1), Value.int .i64 (r164.2.2.2)])], [(b126, 69, #[s127, Value.int .i64 (r169.2.2.1), Value.int .i64 (r169.2.2.2)])], Sb1_, Sdone2_, S167, S172]) [0, 1, 6, 2, 3, 4, 5] rfl rfl ?_
                refine lx_nil ?_
                refine hK159 _ _ ?_; try clear hK159 K159
                refine A_seq fun K174 hK174 => ?_
                refine A_reg ?_
                refine r_v (Value.bool (((r164.1 : Int) == (done2_)[(i8_).toNat]!.2.1))) rfl rfl rfl rfl ?_
                refine r_v (Value.bool (!(((r164.1 : Int) == (done2_)[(i8_).toNat]!.2.1)))) rfl rfl rfl rfl ?_
                refine lx_nil ?_
                refine hK174 _ _ ?_; try clear hK174 K174
                refine A_cond (!(((r164.1 : Int) == (done2_)[(i8_).toNat]!.2.1))) rfl (fun hc175 => ?_) (fun hc175 => ?_)
                · replace hM := ifn (ne_of_beq_false (not_t hc175)) hM
                  refine A_seq fun K176 hK176 => ?_
                  refine A_reg ?_
                  refine r_v (Value.bool (false)) rfl rfl rfl rfl ?_
                  refine lx_nil ?_
                  refine hK176 _ _ ?_; try clear hK176 K176
                  refine A_gen [(4, Value.bool (false))] rfl (fun T => ?_)
                  obtain rfl := Option.some.inj hM
                  refine A_ret (fun hn => endsV (v0 := Value.bool (false)) rfl (res1 rfl))
                · replace hM := ifp (eq_of_beq (not_f hc175)) hM
                  refine A_skip ?_
                  refine hK136 _ _ ?_; try clear hK136 K136
                  refine A_reg ?_
                  refine r_v (Value.int .i64 (i8_)) rfl rfl rfl rfl ?_
                  replace hM := ck_some hM; obtain ⟨ck177, hM⟩ := hM
                  refine r_v (Value.int .i64 ((i8_ + 1))) rfl rfl (wi64 rfl ck177.1 ck177.2) rfl ?_
                  refine r_v (Value.int .i64 ((i8_ + 1))) rfl rfl rfl rfl ?_
                  refine lx_nil ?_
                  refine fg _ (Sub.pick [[(b157, 34, #[Value.int .i64 ((done2_)[(i8_).toNat]!.1), Value.int .i64 ((done2_)[(i8_).toNat]!.2.1), Value.int .i64 ((done2_)[(i8_).toNat]!.2.2.1), Value.int .i64 ((done2_)[(i8_).toNat]!.2.2.2.1), Value.int .i64 ((done2_)[(i8_).toNat]!.2.2.2.2.1), U (hi ((done2_)[(i8_).toNat]!.2.2.2.2.2.1)), U (lo ((done2_)[(i8_).toNat]!.2.2.2.2.2.1)), Value.string (⟨((done2_)[(i8_).toNat]!.2.2.2.2.2.2).toArray⟩), s153, s155])], [(b119, 69, #[s120, Value.int .i64 (r164.2.2.1), Value.int .i64 (r164.2.2.2)])], [(b126, 69, #[s127, Value.int .i64 (r169.2.2.1), Value.int .i64 (r169.2.2.2)])], Sb1_, Sdone2_, S167, S172] [1, 2, 3, 4, 5, 6] rfl) ?_
                  exact ⟨n132 + 1, by omega, n132, (i8_ + 1), r164.2.1, r164.2.2.1, r164.2.2.2, r169.2.1, r169.2.2.1, r169.2.2.2, hM, S167, H168, S172, H173, is_mk rfl rfl, rfl⟩
              · replace hM := ifn (ne_of_beq_false hc162) hM
                refine A_seq fun K178 hK178 => ?_
                refine A_reg ?_
                refine r_v (Value.bool ((((done2_)[(i8_).toNat]!.1 : Int) == 1))) rfl rfl rfl rfl ?_
                refine r_v (Value.bool ((((done2_)[(i8_).toNat]!.1 : Int) == 1))) rfl rfl rfl rfl ?_
                refine lx_nil ?_
                refine hK178 _ _ ?_; try clear hK178 K178
                refine A_cond ((((done2_)[(i8_).toNat]!.1 : Int) == 1)) rfl (fun hc179 => ?_) (fun hc179 => ?_)
                · replace hM := ifp (eq_of_beq hc179) hM
                  refine A_seq fun K180 hK180 => ?_
                  refine A_drawH (Ls := [[(b157, 34, #[Value.int .i64 ((done2_)[(i8_).toNat]!.1), Value.int .i64 ((done2_)[(i8_).toNat]!.2.1), Value.int .i64 ((done2_)[(i8_).toNat]!.2.2.1), Value.int .i64 ((done2_)[(i8_).toNat]!.2.2.2.1), Value.int .i64 ((done2_)[(i8_).toNat]!.2.2.2.2.1), U (hi ((done2_)[(i8_).toNat]!.2.2.2.2.2.1)), U (lo ((done2_)[(i8_).toNat]!.2.2.2.2.2.1)), Value.string (⟨((done2_)[(i8_).toNat]!.2.2.2.2.2.2).toArray⟩), s153, s155])], [(b119, 69, #[s120, Value.int .i64 (m9__1), Value.int .i64 (m9__2)])], [(b126, 69, #[s127, Value.int .i64 (m11__1), Value.int .i64 (m11__2)])], Sb1_, Sdone2_, Ss10_, Ss12_]) [(some 145, true), (some 1000000146, true)] [(145, fun _ _ v_ L_ U_ => (pH ((List.flatten [[(b119, 69, #[s120, Value.int .i64 (m9__1), Value.int .i64 (m9__2)])], Ss10_]).map (·.1)) (fun v_ L_ U_ => ∀ u0_, wire_Reader_Two_v1_m N s10_ m9__1 m9__2 65535 = some u0_ → (pO (List.flatten [[(b119, 69, #[s120, Value.int .i64 (m9__1), Value.int .i64 (m9__2)])], Ss10_]) (oI 5 encY s120 u0_.2.1 (oE (Value.int .i64 (u0_.1)) [[(b119, 69, #[s120, Value.int .i64 (u0_.2.2.1), Value.int .i64 (u0_.2.2.2)])]]))) v_ L_ U_) v_ L_ U_))] [1, 5] [0] [] (by decide +kernel) (fun hn => sep_nil) (by decide +kernel) rfl (⟨.inr (fun _ _ _ _ _ h_ => pH_hid (pick_sub (Ls := [[(b157, 34, #[Value.int .i64 ((done2_)[(i8_).toNat]!.1), Value.int .i64 ((done2_)[(i8_).toNat]!.2.1), Value.int .i64 ((done2_)[(i8_).toNat]!.2.2.1), Value.int .i64 ((done2_)[(i8_).toNat]!.2.2.2.1), Value.int .i64 ((done2_)[(i8_).toNat]!.2.2.2.2.1), U (hi ((done2_)[(i8_).toNat]!.2.2.2.2.2.1)), U (lo ((done2_)[(i8_).toNat]!.2.2.2.2.2.1)), Value.string (⟨((done2_)[(i8_).toNat]!.2.2.2.2.2.2).toArray⟩), s153, s155])], [(b119, 69, #[s120, Value.int .i64 (m9__1), Value.int .i64 (m9__2)])], [(b126, 69, #[s127, Value.int .i64 (m11__1), Value.int .i64 (m11__2)])], Sb1_, Sdone2_, Ss10_, Ss12_]) (is := [1, 5]) (js := [1, 5]) rfl) h_), trivial⟩) (fun hnb_ => ?_)
                  refine r_v (Value.pointer (some ⟨b119, 0, none⟩)) rfl rfl rfl rfl ?_
                  replace hM := bind_sm hM; obtain ⟨r181, hr182, hM⟩ := hM
                  replace hM := ck_some hM; obtain ⟨ck183, hM⟩ := hM
                  refine r_gm (Ls := [[(b157, 34, #[Value.int .i64 ((done2_)[(i8_).toNat]!.1), Value.int .i64 ((done2_)[(i8_).toNat]!.2.1), Value.int .i64 ((done2_)[(i8_).toNat]!.2.2.1), Value.int .i64 ((done2_)[(i8_).toNat]!.2.2.2.1), Value.int .i64 ((done2_)[(i8_).toNat]!.2.2.2.2.1), U (hi ((done2_)[(i8_).toNat]!.2.2.2.2.2.1)), U (lo ((done2_)[(i8_).toNat]!.2.2.2.2.2.1)), Value.string (⟨((done2_)[(i8_).toNat]!.2.2.2.2.2.2).toArray⟩), s153, s155])], [(b119, 69, #[s120, Value.int .i64 (m9__1), Value.int .i64 (m9__2)])], [(b126, 69, #[s127, Value.int .i64 (m11__1), Value.int .i64 (m11__2)])], Sb1_, Sdone2_, Ss10_, Ss12_]) (FL := [[(b119, 69, #[s120, Value.int .i64 (m9__1), Value.int .i64 (m9__2)])], Ss10_]) (RL := [[(b157, 34, #[Value.int .i64 ((done2_)[(i8_).toNat]!.1), Value.int .i64 ((done2_)[(i8_).toNat]!.2.1), Value.int .i64 ((done2_)[(i8_).toNat]!.2.2.1), Value.int .i64 ((done2_)[(i8_).toNat]!.2.2.2.1), Value.int .i64 ((done2_)[(i8_).toNat]!.2.2.2.2.1), U (hi ((done2_)[(i8_).toNat]!.2.2.2.2.2.1)), U (lo ((done2_)[(i8_).toNat]!.2.2.2.2.2.1)), Value.string (⟨((done2_)[(i8_).toNat]!.2.2.2.2.2.2).toArray⟩), s153, s155])], [(b126, 69, #[s127, Value.int .i64 (m11__1), Value.int .i64 (m11__2)])], Sb1_, Sdone2_, Ss12_]) [1, 5] (oI 5 encY s120 r181.2.1 (oE (Value.int .i64 (r181.1)) [[(b119, 69, #[s120, Value.int .i64 (r181.2.2.1), Value.int .i64 (r181.2.2.2)])]])) (some 145) 20 _ rfl rfl rfl rfl rfl (ev_callF rfl call_20 rfl) (fun own_ nw_ hn_ hs_ => wire_Reader_Two_v1_g N s10_ m9__1 m9__2 65535 _ hr182 _ b119 s120 Ss10_ hs10_) (fun a_ c_ v_ L_ U_ => pH_iff (q := fun v_ L_ U_ => ∀ u0_, wire_Reader_Two_v1_m N s10_ m9__1 m9__2 65535 = some u0_ → (pO (List.flatten [[(b119, 69, #[s120, Value.int .i64 (m9__1), Value.int .i64 (m9__2)])], Ss10_]) (oI 5 encY s120 u0_.2.1 (oE (Value.int .i64 (u0_.1)) [[(b119, 69, #[s120, Value.int .i64 (u0_.2.2.1), Value.int .i64 (u0_.2.2.2)])]]))) v_ L_ U_) ((fun _ _ v_ L_ U_ => ⟨fun h_ => h_ _ hr182, fun h_ => by intro _ e_; cases Option.some.inj (e_.symm.trans hr182); exact h_⟩) a_ c_ v_ L_ U_)) (fun _ => (NiceO.sub (R := (Ss10_ ++ ([(b119, 69, #[s120, Value.int .i64 (m9__1), Value.int .i64 (m9__2)])] ++ []))) (niceI hs10_ ck183 (niceE rfl)) (Sub.pick [[(b119, 69, #[s120, Value.int .i64 (m9__1), Value.int .i64 (m9__2)])], Ss10_] [1, 0] rfl))) ?_
                  rintro _ _ ⟨S184, _, H185, ⟨rfl, rfl⟩, rfl⟩
                  refine lx_perm (Ls := [[(b157, 34, #[Value.int .i64 ((done2_)[(i8_).toNat]!.1), Value.int .i64 ((done2_)[(i8_).toNat]!.2.1), Value.int .i64 ((done2_)[(i8_).toNat]!.2.2.1), Value.int .i64 ((done2_)[(i8_).toNat]!.2.2.2.1), Value.int .i64 ((done2_)[(i8_).toNat]!.2.2.2.2.1), U (hi ((done2_)[(i8_).toNat]!.2.2.2.2.2.1)), U (lo ((done2_)[(i8_).toNat]!.2.2.2.2.2.1)), Value.string (⟨((done2_)[(i8_).toNat]!.2.2.2.2.2.2).toArray⟩), s153, s155])], [(b126, 69, #[s127, Value.int .i64 (m11__1), Value.int .i64 (m11__2)])], Sb1_, Sdone2_, Ss12_, S184, [(b119, 69, #[s120, Value.int .i64 (r181.2.2.1), Value.int .i64 (r181.2.2.2)])]]) (Ls' := [[(b157, 34, #[Value.int .i64 ((done2_)[(i8_).toNat]!.1), Value.int .i64 ((done2_)[(i8_).toNat]!.2.1), Value.int .i64 ((done2_)[(i8_).toNat]!.2.2.1), Value.int .i64 ((done2_)[(i8_).toNat]!.2.2.2.1), Value.int .i64 ((done2_)[(i8_).toNat]!.2.2.2.2.1), U (hi ((done2_)[(i8_).toNat]!.2.2.2.2.2.1)), U (lo ((done2_)[(i8_).toNat]!.2.2.2.2.2.1)), Value.string (⟨((done2_)[(i8_).toNat]!.2.2.2.2.2.2).toArray⟩), s153, s155])], [(b126, 69, #[s127, Value.int .i64 (m11__1), Value.int .i64 (m11__2)])], [(b119, 69, #[s120, Value.int .i64 (r181.2.2.1), Value.int .i64 (r181.2.2.2)])], Sb1_, Sdone2_, Ss12_, S184]) [0, 1, 6, 2, 3, 4, 5] rfl rfl ?_
                  refine r_v (Value.pointer (some ⟨b157, 1, none⟩)) rfl rfl rfl rfl ?_
                  refine r_lH (Value.int .i64 ((done2_)[(i8_).toNat]!.2.1)) 0 _ _ _ _ rfl rfl rfl rfl rfl (hnb_ b157 (List.mem_of_getElem? (i := 0) rfl)) ?_
                  refine r_v (Value.bool (((r181.1 : Int) == (done2_)[(i8_).toNat]!.2.1))) rfl rfl rfl rfl ?_
                  refine r_v (Value.bool (((r181.1 : Int) == (done2_)[(i8_).toNat]!.2.1))) rfl rfl rfl rfl ?_
                  refine lx_nil ?_
                  refine hK180 _ _ ?_; try clear hK180 K180
                  refine A_regC [(some 150, true)] (conG Try.prog [(150, fun _ _ v_ L_ U_ => ∀ u0_, wire_Reader_Two_v1_m N s12_ m11__1 m11__2 65535 = some u0_ → (pO (List.flatten [[(b126, 69, #[s127, Value.int .i64 (m11__1), Value.int .i64 (m11__2)])], Ss12_]) (oI 5 encY s127 u0_.2.1 (oE (Value.int .i64 (u0_.1)) [[(b126, 69, #[s127, Value.int .i64 (u0_.2.2.1), Value.int .i64 (u0_.2.2.2)])]]))) v_ L_ U_)]) ?_
                  refine r_v (Value.pointer (some ⟨b126, 0, none⟩)) rfl rfl rfl rfl ?_
                  replace hM := bind_sm hM; obtain ⟨r186, hr187, hM⟩ := hM
                  replace hM := ck_some hM; obtain ⟨ck188, hM⟩ := hM
                  refine r_gm (Ls := [[(b157, 34, #[Value.int .i64 ((done2_)[(i8_).toNat]!.1), Value.int .i64 ((done2_)[(i8_).toNat]!.2.1), Value.int .i64 ((done2_)[(i8_).toNat]!.2.2.1), Value.int .i64 ((done2_)[(i8_).toNat]!.2.2.2.1), Value.int .i64 ((done2_)[(i8_).toNat]!.2.2.2.2.1), U (hi ((done2_)[(i8_).toNat]!.2.2.2.2.2.1)), U (lo ((done2_)[(i8_).toNat]!.2.2.2.2.2.1)), Value.string (⟨((done2_)[(i8_).toNat]!.2.2.2.2.2.2).toArray⟩), s153, s155])], [(b126, 69, #[s127, Value.int .i64 (m11__1), Value.int .i64 (m11__2)])], [(b119, 69, #[s120, Value.int .i64 (r181.2.2.1), Value.int .i64 (r181.2.2.2)])], Sb1_, Sdone2_, Ss12_, S184]) (FL := [[(b126, 69, #[s127, Value.int .i64 (m11__1), Value.int .i64 (m11__2)])], Ss12_]) (RL := [[(b157, 34, #[Value.int .i64 ((done2_)[(i8_).toNat]!.1), Value.int .i64 ((done2_)[(i8_).toNat]!.2.1), Value.int .i64 ((done2_)[(i8_).toNat]!.2.2.1), Value.int .i64 ((done2_)[(i8_).toNat]!.2.2.2.1), Value.int .i64 ((done2_)[(i8_).toNat]!.2.2.2.2.1), U (hi ((done2_)[(i8_).toNat]!.2.2.2.2.2.1)), U (lo ((done2_)[(i8_).toNat]!.2.2.2.2.2.1)), Value.string (⟨((done2_)[(i8_).toNat]!.2.2.2.2.2.2).toArray⟩), s153, s155])], [(b119, 69, #[s120, Value.int .i64 (r181.2.2.1), Value.int .i64 (r181.2.2.2)])], Sb1_, Sdone2_, S184]) [1, 5] (oI 5 encY s127 r186.2.1 (oE (Value.int .i64 (r186.1)) [[(b126, 69, #[s127, Value.int .i64 (r186.2.2.1), Value.int .i64 (r186.2.2.2)])]])) (some 150) 20 _ rfl rfl rfl rfl rfl (ev_callF rfl call_20 rfl) (fun own_ nw_ hn_ hs_ => wire_Reader_Two_v1_g N s12_ m11__1 m11__2 65535 _ hr187 _ b126 s127 Ss12_ hs12_) (fun _ _ v_ L_ U_ => ⟨fun h_ => h_ _ hr187, fun h_ => by intro _ e_; cases Option.some.inj (e_.symm.trans hr187); exact h_⟩) (fun h_ => nomatch h_) ?_
                  rintro _ _ ⟨S189, _, H190, ⟨rfl, rfl⟩, rfl⟩
                  refine lx_perm (Ls := [[(b157, 34, #[Value.int .i64 ((done2_)[(i8_).toNat]!.1), Value.int .i64 ((done2_)[(i8_).toNat]!.2.1), Value.int .i64 ((done2_)[(i8_).toNat]!.2.2.1), Value.int .i64 ((done2_)[(i8_).toNat]!.2.2.2.1), Value.int .i64 ((done2_)[(i8_).toNat]!.2.2.2.2.1), U (hi ((done2_)[(i8_).toNat]!.2.2.2.2.2.1)), U (lo ((done2_)[(i8_).toNat]!.2.2.2.2.2.1)), Value.string (⟨((done2_)[(i8_).toNat]!.2.2.2.2.2.2).toArray⟩), s153, s155])], [(b119, 69, #[s120, Value.int .i64 (r181.2.2.1), Value.int .i64 (r181.2.2.2)])], Sb1_, Sdone2_, S184, S189, [(b126, 69, #[s127, Value.int .i64 (r186.2.2.1), Value.int .i64 (r186.2.2.2)])]]) (Ls' := [[(b157, 34, #[Value.int .i64 ((done2_)[(i8_).toNat]!.1), Value.int .i64 ((done2_)[(i8_).toNat]!.2.1), Value.int .i64 ((done2_)[(i8_).toNat]!.2.2.1), Value.int .i64 ((done2_)[(i8_).toNat]!.2.2.2.1), Value.int .i64 ((done2_)[(i8_).toNat]!.2.2.2.2.1), U (hi ((done2_)[(i8_).toNat]!.2.2.2.2.2.1)), U (lo ((done2_)[(i8_).toNat]!.2.2.2.2.2.1)), Value.string (⟨((done2_)[(i8_).toNat]!.2.2.2.2.2.2).toArray⟩), s153, s155])], [(b119, 69, #[s120, Value.int .i64 (r181.2.2.1), Value.int .i64 (r181.2.2.2)])], [(b126, 69, #[s127, Value.int .i64 (r186.2.2.1), Value.int .i64 (r186.2.2.2)])], Sb1_, Sdone2_, S184, S189]) [0, 1, 6, 2, 3, 4, 5] rfl rfl ?_
                  refine lx_nil ?_
                  refine hK159 _ _ ?_; try clear hK159 K159
                  refine A_seq fun K191 hK191 => ?_
                  refine A_reg ?_
                  refine r_v (Value.bool (((r181.1 : Int) == (done2_)[(i8_).toNat]!.2.1))) rfl rfl rfl rfl ?_
                  refine r_v (Value.bool (!(((r181.1 : Int) == (done2_)[(i8_).toNat]!.2.1)))) rfl rfl rfl rfl ?_
                  refine lx_nil ?_
                  refine hK191 _ _ ?_; try clear hK191 K191
                  refine A_cond (!(((r181.1 : Int) == (done2_)[(i8_).toNat]!.2.1))) rfl (fun hc192 => ?_) (fun hc192 => ?_)
                  · replace hM := ifn (ne_of_beq_false (not_t hc192)) hM
                    refine A_seq fun K193 hK193 => ?_
                    refine A_reg ?_
                    refine r_v (Value.bool (false)) rfl rfl rfl rfl ?_
                    refine lx_nil ?_
                    refine hK193 _ _ ?_; try clear hK193 K193
                    refine A_gen [(4, Value.bool (false))] rfl (fun T => ?_)
                    obtain rfl := Option.some.inj hM
                    refine A_ret (fun hn => endsV (v0 := Value.bool (false)) rfl (res1 rfl))
                  · replace hM := ifp (eq_of_beq (not_f hc192)) hM
                    refine A_skip ?_
                    refine hK136 _ _ ?_; try clear hK136 K136
                    refine A_reg ?_
                    refine r_v (Value.int .i64 (i8_)) rfl rfl rfl rfl ?_
                    replace hM := ck_some hM; obtain ⟨ck194, hM⟩ := hM
                    refine r_v (Value.int .i64 ((i8_ + 1))) rfl rfl (wi64 rfl ck194.1 ck194.2) rfl ?_
                    refine r_v (Value.int .i64 ((i8_ + 1))) rfl rfl rfl rfl ?_
                    refine lx_nil ?_
                    refine fg _ (Sub.pick [[(b157, 34, #[Value.int .i64 ((done2_)[(i8_).toNat]!.1), Value.int .i64 ((done2_)[(i8_).toNat]!.2.1), Value.int .i64 ((done2_)[(i8_).toNat]!.2.2.1), Value.int .i64 ((done2_)[(i8_).toNat]!.2.2.2.1), Value.int .i64 ((done2_)[(i8_).toNat]!.2.2.2.2.1), U (hi ((done2_)[(i8_).toNat]!.2.2.2.2.2.1)), U (lo ((done2_)[(i8_).toNat]!.2.2.2.2.2.1)), Value.string (⟨((done2_)[(i8_).toNat]!.2.2.2.2.2.2).toArray⟩), s153, s155])], [(b119, 69, #[s120, Value.int .i64 (r181.2.2.1), Value.int .i64 (r181.2.2.2)])], [(b126, 69, #[s127, Value.int .i64 (r186.2.2.1), Value.int .i64 (r186.2.2.2)])], Sb1_, Sdone2_, S184, S189] [1, 2, 3, 4, 5, 6] rfl) ?_
                    exact ⟨n132 + 1, by omega, n132, (i8_ + 1), r181.2.1, r181.2.2.1, r181.2.2.2, r186.2.1, r186.2.2.1, r186.2.2.2, hM, S184, H185, S189, H190, is_mk rfl rfl, rfl⟩
                · replace hM := ifn (ne_of_beq_false hc179) hM
                  refine A_seq fun K195 hK195 => ?_
                  refine A_reg ?_
                  refine r_v (Value.bool ((((done2_)[(i8_).toNat]!.1 : Int) == 2))) rfl rfl rfl rfl ?_
                  refine r_v (Value.bool ((((done2_)[(i8_).toNat]!.1 : Int) == 2))) rfl rfl rfl rfl ?_
                  refine lx_nil ?_
                  refine hK195 _ _ ?_; try clear hK195 K195
                  refine A_cond ((((done2_)[(i8_).toNat]!.1 : Int) == 2)) rfl (fun hc196 => ?_) (fun hc196 => ?_)
                  · replace hM := ifp (eq_of_beq hc196) hM
                    refine A_seq fun K197 hK197 => ?_
                    refine A_drawH (Ls := [[(b157, 34, #[Value.int .i64 ((done2_)[(i8_).toNat]!.1), Value.int .i64 ((done2_)[(i8_).toNat]!.2.1), Value.int .i64 ((done2_)[(i8_).toNat]!.2.2.1), Value.int .i64 ((done2_)[(i8_).toNat]!.2.2.2.1), Value.int .i64 ((done2_)[(i8_).toNat]!.2.2.2.2.1), U (hi ((done2_)[(i8_).toNat]!.2.2.2.2.2.1)), U (lo ((done2_)[(i8_).toNat]!.2.2.2.2.2.1)), Value.string (⟨((done2_)[(i8_).toNat]!.2.2.2.2.2.2).toArray⟩), s153, s155])], [(b119, 69, #[s120, Value.int .i64 (m9__1), Value.int .i64 (m9__2)])], [(b126, 69, #[s127, Value.int .i64 (m11__1), Value.int .i64 (m11__2)])], Sb1_, Sdone2_, Ss10_, Ss12_]) [(some 154, true), (some 1000000155, true)] [(154, fun _ _ v_ L_ U_ => (pH ((List.flatten [[(b119, 69, #[s120, Value.int .i64 (m9__1), Value.int .i64 (m9__2)])], Ss10_]).map (·.1)) (fun v_ L_ U_ => ∀ u0_, wire_Reader_Four_v1_m N s10_ m9__1 m9__2 4294967295 = some u0_ → (pO (List.flatten [[(b119, 69, #[s120, Value.int .i64 (m9__1), Value.int .i64 (m9__2)])], Ss10_]) (oI 5 encY s120 u0_.2.1 (oE (Value.int .i64 (u0_.1)) [[(b119, 69, #[s120, Value.int .i64 (u0_.2.2.1), Value.int .i64 (u0_.2.2.2)])]]))) v_ L_ U_) v_ L_ U_))] [1, 5] [0] [] (by decide +kernel) (fun hn => sep_nil) (by decide +kernel) rfl (⟨.inr (fun _ _ _ _ _ h_ => pH_hid (pick_sub (Ls := [[(b157, 34, #[Value.int .i64 ((done2_)[(i8_).toNat]!.1), Value.int .i64 ((done2_)[(i8_).toNat]!.2.1), Value.int .i64 ((done2_)[(i8_).toNat]!.2.2.1), Value.int .i64 ((done2_)[(i8_).toNat]!.2.2.2.1), Value.int .i64 ((done2_)[(i8_).toNat]!.2.2.2.2.1), U (hi ((done2_)[(i8_).toNat]!.2.2.2.2.2.1)), U (lo ((done2_)[(i8_).toNat]!.2.2.2.2.2.1)), Value.string (⟨((done2_)[(i8_).toNat]!.2.2.2.2.2.2).toArray⟩), s153, s155])], [(b119, 69, #[s120, Value.int .i64 (m9__1), Value.int .i64 (m9__2)])], [(b126, 69, #[s127, Value.int .i64 (m11__1), Value.int .i64 (m11__2)])], Sb1_, Sdone2_, Ss10_, Ss12_]) (is := [1, 5]) (js := [1, 5]) rfl) h_), trivial⟩) (fun hnb_ => ?_)
                    refine r_v (Value.pointer (some ⟨b119, 0, none⟩)) rfl rfl rfl rfl ?_
                    replace hM := bind_sm hM; obtain ⟨r198, hr199, hM⟩ := hM
                    replace hM := ck_some hM; obtain ⟨ck200, hM⟩ := hM
                    refine r_gm (Ls := [[(b157, 34, #[Value.int .i64 ((done2_)[(i8_).toNat]!.1), Value.int .i64 ((done2_)[(i8_).toNat]!.2.1), Value.int .i64 ((done2_)[(i8_).toNat]!.2.2.1), Value.int .i64 ((done2_)[(i8_).toNat]!.2.2.2.1), Value.int .i64 ((done2_)[(i8_).toNat]!.2.2.2.2.1), U (hi ((done2_)[(i8_).toNat]!.2.2.2.2.2.1)), U (lo ((done2_)[(i8_).toNat]!.2.2.2.2.2.1)), Value.string (⟨((done2_)[(i8_).toNat]!.2.2.2.2.2.2).toArray⟩), s153, s155])], [(b119, 69, #[s120, Value.int .i64 (m9__1), Value.int .i64 (m9__2)])], [(b126, 69, #[s127, Value.int .i64 (m11__1), Value.int .i64 (m11__2)])], Sb1_, Sdone2_, Ss10_, Ss12_]) (FL := [[(b119, 69, #[s120, Value.int .i64 (m9__1), Value.int .i64 (m9__2)])], Ss10_]) (RL := [[(b157, 34, #[Value.int .i64 ((done2_)[(i8_).toNat]!.1), Value.int .i64 ((done2_)[(i8_).toNat]!.2.1), Value.int .i64 ((done2_)[(i8_).toNat]!.2.2.1), Value.int .i64 ((done2_)[(i8_).toNat]!.2.2.2.1), Value.int .i64 ((done2_)[(i8_).toNat]!.2.2.2.2.1), U (hi ((done2_)[(i8_).toNat]!.2.2.2.2.2.1)), U (lo ((done2_)[(i8_).toNat]!.2.2.2.2.2.1)), Value.string (⟨((done2_)[(i8_).toNat]!.2.2.2.2.2.2).toArray⟩), s153, s155])], [(b126, 69, #[s127, Value.int .i64 (m11__1), Value.int .i64 (m11__2)])], Sb1_, Sdone2_, Ss12_]) [1, 5] (oI 5 encY s120 r198.2.1 (oE (Value.int .i64 (r198.1)) [[(b119, 69, #[s120, Value.int .i64 (r198.2.2.1), Value.int .i64 (r198.2.2.2)])]])) (some 154) 21 _ rfl rfl rfl rfl rfl (ev_callF rfl call_21 rfl) (fun own_ nw_ hn_ hs_ => wire_Reader_Four_v1_g N s10_ m9__1 m9__2 4294967295 _ hr199 _ b119 s120 Ss10_ hs10_) (fun a_ c_ v_ L_ U_ => pH_iff (q := fun v_ L_ U_ => ∀ u0_, wire_Reader_Four_v1_m N s10_ m9__1 m9__2 4294967295 = some u0_ → (pO (List.flatten [[(b119, 69, #[s120, Value.int .i64 (m9__1), Value.int .i64 (m9__2)])], Ss10_]) (oI 5 encY s120 u0_.2.1 (oE (Value.int .i64 (u0_.1)) [[(b119, 69, #[s120, Value.int .i64 (u0_.2.2.1), Value.int .i64 (u0_.2.2.2)])]]))) v_ L_ U_) ((fun _ _ v_ L_ U_ => ⟨fun h_ => h_ _ hr199, fun h_ => by intro _ e_; cases Option.some.inj (e_.symm.trans hr199); exact h_⟩) a_ c_ v_ L_ U_)) (fun _ => (NiceO.sub (R := (Ss10_ ++ ([(b119, 69, #[s120, Value.int .i64 (m9__1), Value.int .i64 (m9__2)])] ++ []))) (niceI hs10_ ck200 (niceE rfl)) (Sub.pick [[(b119, 69, #[s120, Value.int .i64 (m9__1), Value.int .i64 (m9__2)])], Ss10_] [1, 0] rfl))) ?_
                    rintro _ _ ⟨S201, _, H202, ⟨rfl, rfl⟩, rfl⟩
                    refine lx_perm (Ls := [[(b157, 34, #[Value.int .i64 ((done2_)[(i8_).toNat]!.1), Value.int .i64 ((done2_)[(i8_).toNat]!.2.1), Value.int .i64 ((done2_)[(i8_).toNat]!.2.2.1), Value.int .i64 ((done2_)[(i8_).toNat]!.2.2.2.1), Value.int .i64 ((done2_)[(i8_).toNat]!.2.2.2.2.1), U (hi ((done2_)[(i8_).toNat]!.2.2.2.2.2.1)), U (lo ((done2_)[(i8_).toNat]!.2.2.2.2.2.1)), Value.string (⟨((done2_)[(i8_).toNat]!.2.2.2.2.2.2).toArray⟩), s153, s155])], [(b126, 69, #[s127, Value.int .i64 (m11__1), Value.int .i64 (m11__2)])], Sb1_, Sdone2_, Ss12_, S201, [(b119, 69, #[s120, Value.int .i64 (r198.2.2.1), Value.int .i64 (r198.2.2.2)])]]) (Ls' := [[(b157, 34, #[Value.int .i64 ((done2_)[(i8_).toNat]!.1), Value.int .i64 ((done2_)[(i8_).toNat]!.2.1), Value.int .i64 ((done2_)[(i8_).toNat]!.2.2.1), Value.int .i64 ((done2_)[(i8_).toNat]!.2.2.2.1), Value.int .i64 ((done2_)[(i8_).toNat]!.2.2.2.2.1), U (hi ((done2_)[(i8_).toNat]!.2.2.2.2.2.1)), U (lo ((done2_)[(i8_).toNat]!.2.2.2.2.2.1)), Value.string (⟨((done2_)[(i8_).toNat]!.2.2.2.2.2.2).toArray⟩), s153, s155])], [(b126, 69, #[s127, Value.int .i64 (m11__1), Value.int .i64 (m11__2)])], [(b119, 69, #[s120, Value.int .i64 (r198.2.2.1), Value.int .i64 (r198.2.2.2)])], Sb1_, Sdone2_, Ss12_, S201]) [0, 1, 6, 2, 3, 4, 5] rfl rfl ?_
                    refine r_v (Value.pointer (some ⟨b157, 1, none⟩)) rfl rfl rfl rfl ?_
                    refine r_lH (Value.int .i64 ((done2_)[(i8_).toNat]!.2.1)) 0 _ _ _ _ rfl rfl rfl rfl rfl (hnb_ b157 (List.mem_of_getElem? (i := 0) rfl)) ?_
                    refine r_v (Value.bool (((r198.1 : Int) == (done2_)[(i8_).toNat]!.2.1))) rfl rfl rfl rfl ?_
                    refine r_v (Value.bool (((r198.1 : Int) == (done2_)[(i8_).toNat]!.2.1))) rfl rfl rfl rfl ?_
                    refine lx_nil ?_
                    refine hK197 _ _ ?_; try clear hK197 K197
                    refine A_regC [(some 159, true)] (conG Try.prog [(159, fun _ _ v_ L_ U_ => ∀ u0_, wire_Reader_Four_v1_m N s12_ m11__1 m11__2 4294967295 = some u0_ → (pO (List.flatten [[(b126, 69, #[s127, Value.int .i64 (m11__1), Value.int .i64 (m11__2)])], Ss12_]) (oI 5 encY s127 u0_.2.1 (oE (Value.int .i64 (u0_.1)) [[(b126, 69, #[s127, Value.int .i64 (u0_.2.2.1), Value.int .i64 (u0_.2.2.2)])]]))) v_ L_ U_)]) ?_
                    refine r_v (Value.pointer (some ⟨b126, 0, none⟩)) rfl rfl rfl rfl ?_
                    replace hM := bind_sm hM; obtain ⟨r203, hr204, hM⟩ := hM
                    replace hM := ck_some hM; obtain ⟨ck205, hM⟩ := hM
                    refine r_gm (Ls := [[(b157, 34, #[Value.int .i64 ((done2_)[(i8_).toNat]!.1), Value.int .i64 ((done2_)[(i8_).toNat]!.2.1), Value.int .i64 ((done2_)[(i8_).toNat]!.2.2.1), Value.int .i64 ((done2_)[(i8_).toNat]!.2.2.2.1), Value.int .i64 ((done2_)[(i8_).toNat]!.2.2.2.2.1), U (hi ((done2_)[(i8_).toNat]!.2.2.2.2.2.1)), U (lo ((done2_)[(i8_).toNat]!.2.2.2.2.2.1)), Value.string (⟨((done2_)[(i8_).toNat]!.2.2.2.2.2.2).toArray⟩), s153, s155])], [(b126, 69, #[s127, Value.int .i64 (m11__1), Value.int .i64 (m11__2)])], [(b119, 69, #[s120, Value.int .i64 (r198.2.2.1), Value.int .i64 (r198.2.2.2)])], Sb1_, Sdone2_, Ss12_, S201]) (FL := [[(b126, 69, #[s127, Value.int .i64 (m11__1), Value.int .i64 (m11__2)])], Ss12_]) (RL := [[(b157, 34, #[Value.int .i64 ((done2_)[(i8_).toNat]!.1), Value.int .i64 ((done2_)[(i8_).toNat]!.2.1), Value.int .i64 ((done2_)[(i8_).toNat]!.2.2.1), Value.int .i64 ((done2_)[(i8_).toNat]!.2.2.2.1), Value.int .i64 ((done2_)[(i8_).toNat]!.2.2.2.2.1), U (hi ((done2_)[(i8_).toNat]!.2.2.2.2.2.1)), U (lo ((done2_)[(i8_).toNat]!.2.2.2.2.2.1)), Value.string (⟨((done2_)[(i8_).toNat]!.2.2.2.2.2.2).toArray⟩), s153, s155])], [(b119, 69, #[s120, Value.int .i64 (r198.2.2.1), Value.int .i64 (r198.2.2.2)])], Sb1_, Sdone2_, S201]) [1, 5] (oI 5 encY s127 r203.2.1 (oE (Value.int .i64 (r203.1)) [[(b126, 69, #[s127, Value.int .i64 (r203.2.2.1), Value.int .i64 (r203.2.2.2)])]])) (some 159) 21 _ rfl rfl rfl rfl rfl (ev_callF rfl call_21 rfl) (fun own_ nw_ hn_ hs_ => wire_Reader_Four_v1_g N s12_ m11__1 m11__2 4294967295 _ hr204 _ b126 s127 Ss12_ hs12_) (fun _ _ v_ L_ U_ => ⟨fun h_ => h_ _ hr204, fun h_ => by intro _ e_; cases Option.some.inj (e_.symm.trans hr204); exact h_⟩) (fun h_ => nomatch h_) ?_
                    rintro _ _ ⟨S206, _, H207, ⟨rfl, rfl⟩, rfl⟩
                    refine lx_perm (Ls := [[(b157, 34, #[Value.int .i64 ((done2_)[(i8_).toNat]!.1), Value.int .i64 ((done2_)[(i8_).toNat]!.2.1), Value.int .i64 ((done2_)[(i8_).toNat]!.2.2.1), Value.int .i64 ((done2_)[(i8_).toNat]!.2.2.2.1), Value.int .i64 ((done2_)[(i8_).toNat]!.2.2.2.2.1), U (hi ((done2_)[(i8_).toNat]!.2.2.2.2.2.1)), U (lo ((done2_)[(i8_).toNat]!.2.2.2.2.2.1)), Value.string (⟨((done2_)[(i8_).toNat]!.2.2.2.2.2.2).toArray⟩), s153, s155])], [(b119, 69, #[s120, Value.int .i64 (r198.2.2.1), Value.int .i64 (r198.2.2.2)])], Sb1_, Sdone2_, S201, S206, [(b126, 69, #[s127, Value.int .i64 (r203.2.2.1), Value.int .i64 (r203.2.2.2)])]]) (Ls' := [[(b157, 34, #[Value.int .i64 ((done2_)[(i8_).toNat]!.1), Value.int .i64 ((done2_)[(i8_).toNat]!.2.1), Value.int .i64 ((done2_)[(i8_).toNat]!.2.2.1), Value.int .i64 ((done2_)[(i8_).toNat]!.2.2.2.1), Value.int .i64 ((done2_)[(i8_).toNat]!.2.2.2.2.1), U (hi ((done2_)[(i8_).toNat]!.2.2.2.2.2.1)), U (lo ((done2_)[(i8_).toNat]!.2.2.2.2.2.1)), Value.string (⟨((done2_)[(i8_).toNat]!.2.2.2.2.2.2).toArray⟩), s153, s155])], [(b119, 69, #[s120, Value.int .i64 (r198.2.2.1), Value.int .i64 (r198.2.2.2)])], [(b126, 69, #[s127, Value.int .i64 (r203.2.2.1), Value.int .i64 (r203.2.2.2)])], Sb1_, Sdone2_, S201, S206]) [0, 1, 6, 2, 3, 4, 5] rfl rfl ?_
                    refine lx_nil ?_
                    refine hK159 _ _ ?_; try clear hK159 K159
                    refine A_seq fun K208 hK208 => ?_
                    refine A_reg ?_
                    refine r_v (Value.bool (((r198.1 : Int) == (done2_)[(i8_).toNat]!.2.1))) rfl rfl rfl rfl ?_
                    refine r_v (Value.bool (!(((r198.1 : Int) == (done2_)[(i8_).toNat]!.2.1)))) rfl rfl rfl rfl ?_
                    refine lx_nil ?_
                    refine hK208 _ _ ?_; try clear hK208 K208
                    refine A_gen [(1, Value.int .i64 (cut)), (5, vb1_), (6, vdone2_), (13, Value.pointer (some ⟨b119, 0, none⟩)), (14, Value.pointer (some ⟨b126, 0, none⟩)), (15, Value.int .i64 (i8_)), (170, Value.bool (!(((r198.1 : Int) == (done2_)[(i8_).toNat]!.2.1))))] rfl (fun T => ?_)
                    refine A_cond (!(((r198.1 : Int) == (done2_)[(i8_).toNat]!.2.1))) rfl (fun hc209 => ?_) (fun hc209 => ?_)
                    · replace hM := ifn (ne_of_beq_false (not_t hc209)) hM
                      refine A_seq fun K210 hK210 => ?_
                      refine A_reg ?_
                      refine r_v (Value.bool (false)) rfl rfl rfl rfl ?_
                      refine lx_nil ?_
                      refine hK210 _ _ ?_; try clear hK210 K210
                      obtain rfl := Option.some.inj hM
                      refine A_ret (fun hn => endsV (v0 := Value.bool (false)) rfl (res1 rfl))
                    · replace hM := ifp (eq_of_beq (not_f hc209)) hM
                      refine A_skip ?_
                      refine hK136 _ _ ?_; try clear hK136 K136
                      refine A_reg ?_
                      refine r_v (Value.int .i64 (i8_)) rfl rfl rfl rfl ?_
                      replace hM := ck_some hM; obtain ⟨ck211, hM⟩ := hM
                      refine r_v (Value.int .i64 ((i8_ + 1))) rfl rfl (wi64 rfl ck211.1 ck211.2) rfl ?_
                      refine r_v (Value.int .i64 ((i8_ + 1))) rfl rfl rfl rfl ?_
                      refine lx_nil ?_
                      refine fg _ (Sub.pick [[(b157, 34, #[Value.int .i64 ((done2_)[(i8_).toNat]!.1), Value.int .i64 ((done2_)[(i8_).toNat]!.2.1), Value.int .i64 ((done2_)[(i8_).toNat]!.2.2.1), Value.int .i64 ((done2_)[(i8_).toNat]!.2.2.2.1), Value.int .i64 ((done2_)[(i8_).toNat]!.2.2.2.2.1), U (hi ((done2_)[(i8_).toNat]!.2.2.2.2.2.1)), U (lo ((done2_)[(i8_).toNat]!.2.2.2.2.2.1)), Value.string (⟨((done2_)[(i8_).toNat]!.2.2.2.2.2.2).toArray⟩), s153, s155])], [(b119, 69, #[s120, Value.int .i64 (r198.2.2.1), Value.int .i64 (r198.2.2.2)])], [(b126, 69, #[s127, Value.int .i64 (r203.2.2.1), Value.int .i64 (r203.2.2.2)])], Sb1_, Sdone2_, S201, S206] [1, 2, 3, 4, 5, 6] rfl) ?_
                      exact ⟨n132 + 1, by omega, n132, (i8_ + 1), r198.2.1, r198.2.2.1, r198.2.2.2, r203.2.1, r203.2.2.1, r203.2.2.2, hM, S201, H202, S206, H207, is_mk rfl rfl, rfl⟩
                  · replace hM := ifn (ne_of_beq_false hc196) hM
                    refine A_seq fun K212 hK212 => ?_
                    refine A_reg ?_
                    refine r_v (Value.bool ((((done2_)[(i8_).toNat]!.1 : Int) == 3))) rfl rfl rfl rfl ?_
                    refine r_v (Value.bool ((((done2_)[(i8_).toNat]!.1 : Int) == 3))) rfl rfl rfl rfl ?_
                    refine lx_nil ?_
                    refine hK212 _ _ ?_; try clear hK212 K212
                    refine A_cond ((((done2_)[(i8_).toNat]!.1 : Int) == 3)) rfl (fun hc213 => ?_) (fun hc213 => ?_)
                    · replace hM := ifp (eq_of_beq hc213) hM
                      refine A_seq fun K214 hK214 => ?_
                      refine A_drawH (Ls := [[(b157, 34, #[Value.int .i64 ((done2_)[(i8_).toNat]!.1), Value.int .i64 ((done2_)[(i8_).toNat]!.2.1), Value.int .i64 ((done2_)[(i8_).toNat]!.2.2.1), Value.int .i64 ((done2_)[(i8_).toNat]!.2.2.2.1), Value.int .i64 ((done2_)[(i8_).toNat]!.2.2.2.2.1), U (hi ((done2_)[(i8_).toNat]!.2.2.2.2.2.1)), U (lo ((done2_)[(i8_).toNat]!.2.2.2.2.2.1)), Value.string (⟨((done2_)[(i8_).toNat]!.2.2.2.2.2.2).toArray⟩), s153, s155])], [(b119, 69, #[s120, Value.int .i64 (m9__1), Value.int .i64 (m9__2)])], [(b126, 69, #[s127, Value.int .i64 (m11__1), Value.int .i64 (m11__2)])], Sb1_, Sdone2_, Ss10_, Ss12_]) [(some 163, true), (some 1000000164, true)] [(163, fun _ _ v_ L_ U_ => (pH ((List.flatten [[(b119, 69, #[s120, Value.int .i64 (m9__1), Value.int .i64 (m9__2)])], Ss10_]).map (·.1)) (fun v_ L_ U_ => ∀ u0_, wire_Reader_Vec_v1_m N s10_ m9__1 m9__2 = some u0_ → (pO (List.flatten [[(b119, 69, #[s120, Value.int .i64 (m9__1), Value.int .i64 (m9__2)])], Ss10_]) (oI 5 encY s120 u0_.2.2.1 (oE (Value.agg #[Value.int .i64 (u0_.1), U (hi (u0_.2.1)), U (lo (u0_.2.1))]) [[(b119, 69, #[s120, Value.int .i64 (u0_.2.2.2.1), Value.int .i64 (u0_.2.2.2.2)])]]))) v_ L_ U_) v_ L_ U_))] [1, 5] [0] [] (by decide +kernel) (fun hn => sep_nil) (by decide +kernel) rfl (⟨.inr (fun _ _ _ _ _ h_ => pH_hid (pick_sub (Ls := [[(b157, 34, #[Value.int .i64 ((done2_)[(i8_).toNat]!.1), Value.int .i64 ((done2_)[(i8_).toNat]!.2.1), Value.int .i64 ((done2_)[(i8_).toNat]!.2.2.1), Value.int .i64 ((done2_)[(i8_).toNat]!.2.2.2.1), Value.int .i64 ((done2_)[(i8_).toNat]!.2.2.2.2.1), U (hi ((done2_)[(i8_).toNat]!.2.2.2.2.2.1)), U (lo ((done2_)[(i8_).toNat]!.2.2.2.2.2.1)), Value.string (⟨((done2_)[(i8_).toNat]!.2.2.2.2.2.2).toArray⟩), s153, s155])], [(b119, 69, #[s120, Value.int .i64 (m9__1), Value.int .i64 (m9__2)])], [(b126, 69, #[s127, Value.int .i64 (m11__1), Value.int .i64 (m11__2)])], Sb1_, Sdone2_, Ss10_, Ss12_]) (is := [1, 5]) (js := [1, 5]) rfl) h_), trivial⟩) (fun hnb_ => ?_)
                      refine r_v (Value.pointer (some ⟨b119, 0, none⟩)) rfl rfl rfl rfl ?_
                      replace hM := bind_sm hM; obtain ⟨r215, hr216, hM⟩ := hM
                      replace hM := ck_some hM; obtain ⟨ck217, hM⟩ := hM
                      refine r_gm (Ls := [[(b157, 34, #[Value.int .i64 ((done2_)[(i8_).toNat]!.1), Value.int .i64 ((done2_)[(i8_).toNat]!.2.1), Value.int .i64 ((done2_)[(i8_).toNat]!.2.2.1), Value.int .i64 ((done2_)[(i8_).toNat]!.2.2.2.1), Value.int .i64 ((done2_)[(i8_).toNat]!.2.2.2.2.1), U (hi ((done2_)[(i8_).toNat]!.2.2.2.2.2.1)), U (lo ((done2_)[(i8_).toNat]!.2.2.2.2.2.1)), Value.string (⟨((done2_)[(i8_).toNat]!.2.2.2.2.2.2).toArray⟩), s153, s155])], [(b119, 69, #[s120, Value.int .i64 (m9__1), Value.int .i64 (m9__2)])], [(b126, 69, #[s127, Value.int .i64 (m11__1), Value.int .i64 (m11__2)])], Sb1_, Sdone2_, Ss10_, Ss12_]) (FL := [[(b119, 69, #[s120, Value.int .i64 (m9__1), Value.int .i64 (m9__2)])], Ss10_]) (RL := [[(b157, 34, #[Value.int .i64 ((done2_)[(i8_).toNat]!.1), Value.int .i64 ((done2_)[(i8_).toNat]!.2.1), Value.int .i64 ((done2_)[(i8_).toNat]!.2.2.1), Value.int .i64 ((done2_)[(i8_).toNat]!.2.2.2.1), Value.int .i64 ((done2_)[(i8_).toNat]!.2.2.2.2.1), U (hi ((done2_)[(i8_).toNat]!.2.2.2.2.2.1)), U (lo ((done2_)[(i8_).toNat]!.2.2.2.2.2.1)), Value.string (⟨((done2_)[(i8_).toNat]!.2.2.2.2.2.2).toArray⟩), s153, s155])], [(b126, 69, #[s127, Value.int .i64 (m11__1), Value.int .i64 (m11__2)])], Sb1_, Sdone2_, Ss12_]) [1, 5] (oI 5 encY s120 r215.2.2.1 (oE (Value.agg #[Value.int .i64 (r215.1), U (hi (r215.2.1)), U (lo (r215.2.1))]) [[(b119, 69, #[s120, Value.int .i64 (r215.2.2.2.1), Value.int .i64 (r215.2.2.2.2)])]])) (some 163) 22 _ rfl rfl rfl rfl rfl (ev_callF rfl call_22 rfl) (fun own_ nw_ hn_ hs_ => wire_Reader_Vec_v1_g N s10_ m9__1 m9__2 _ hr216 _ b119 s120 Ss10_ hs10_) (fun a_ c_ v_ L_ U_ => pH_iff (q := fun v_ L_ U_ => ∀ u0_, wire_Reader_Vec_v1_m N s10_ m9__1 m9__2 = some u0_ → (pO (List.flatten [[(b119, 69, #[s120, Value.int .i64 (m9__1), Value.int .i64 (m9__2)])], Ss10_]) (oI 5 encY s120 u0_.2.2.1 (oE (Value.agg #[Value.int .i64 (u0_.1), U (hi (u0_.2.1)), U (lo (u0_.2.1))]) [[(b119, 69, #[s120, Value.int .i64 (u0_.2.2.2.1), Value.int .i64 (u0_.2.2.2.2)])]]))) v_ L_ U_) ((fun _ _ v_ L_ U_ => ⟨fun h_ => h_ _ hr216, fun h_ => by intro _ e_; cases Option.some.inj (e_.symm.trans hr216); exact h_⟩) a_ c_ v_ L_ U_)) (fun _ => (NiceO.sub (R := (Ss10_ ++ ([(b119, 69, #[s120, Value.int .i64 (m9__1), Value.int .i64 (m9__2)])] ++ []))) (niceI hs10_ ck217 (niceE rfl)) (Sub.pick [[(b119, 69, #[s120, Value.int .i64 (m9__1), Value.int .i64 (m9__2)])], Ss10_] [1, 0] rfl))) ?_
                      rintro _ _ ⟨S218, _, H219, ⟨rfl, rfl⟩, rfl⟩
                      refine lx_perm (Ls := [[(b157, 34, #[Value.int .i64 ((done2_)[(i8_).toNat]!.1), Value.int .i64 ((done2_)[(i8_).toNat]!.2.1), Value.int .i64 ((done2_)[(i8_).toNat]!.2.2.1), Value.int .i64 ((done2_)[(i8_).toNat]!.2.2.2.1), Value.int .i64 ((done2_)[(i8_).toNat]!.2.2.2.2.1), U (hi ((done2_)[(i8_).toNat]!.2.2.2.2.2.1)), U (lo ((done2_)[(i8_).toNat]!.2.2.2.2.2.1)), Value.string (⟨((done2_)[(i8_).toNat]!.2.2.2.2.2.2).toArray⟩), s153, s155])], [(b126, 69, #[s127, Value.int .i64 (m11__1), Value.int .i64 (m11__2)])], Sb1_, Sdone2_, Ss12_, S218, [(b119, 69, #[s120, Value.int .i64 (r215.2.2.2.1), Value.int .i64 (r215.2.2.2.2)])]]) (Ls' := [[(b157, 34, #[Value.int .i64 ((done2_)[(i8_).toNat]!.1), Value.int .i64 ((done2_)[(i8_).toNat]!.2.1), Value.int .i64 ((done2_)[(i8_).toNat]!.2.2.1), Value.int .i64 ((done2_)[(i8_).toNat]!.2.2.2.1), Value.int .i64 ((done2_)[(i8_).toNat]!.2.2.2.2.1), U (hi ((done2_)[(i8_).toNat]!.2.2.2.2.2.1)), U (lo ((done2_)[(i8_).toNat]!.2.2.2.2.2.1)), Value.string (⟨((done2_)[(i8_).toNat]!.2.2.2.2.2.2).toArray⟩), s153, s155])], [(b126, 69, #[s127, Value.int .i64 (m11__1), Value.int .i64 (m11__2)])], [(b119, 69, #[s120, Value.int .i64 (r215.2.2.2.1), Value.int .i64 (r215.2.2.2.2)])], Sb1_, Sdone2_, Ss12_, S218]) [0, 1, 6, 2, 3, 4, 5] rfl rfl ?_
                      refine r_v (Value.pointer (some ⟨b157, 4, none⟩)) rfl rfl rfl rfl ?_
                      refine r_lH (Value.agg #[Value.int .i64 ((done2_)[(i8_).toNat]!.2.2.2.2.1), U (hi ((done2_)[(i8_).toNat]!.2.2.2.2.2.1)), U (lo ((done2_)[(i8_).toNat]!.2.2.2.2.2.1))]) 0 _ _ _ _ rfl rfl rfl rfl rfl (hnb_ b157 (List.mem_of_getElem? (i := 0) rfl)) ?_
                      refine r_v (Value.bool (((r215.1) == ((done2_)[(i8_).toNat]!.2.2.2.2.1)) && ((r215.2.1) == ((done2_)[(i8_).toNat]!.2.2.2.2.2.1)))) rfl rfl rfl (ev_binEq rfl rfl eg_30 (eqst_30 (r215.1) ((done2_)[(i8_).toNat]!.2.2.2.2.1) (r215.2.1) ((done2_)[(i8_).toNat]!.2.2.2.2.2.1))) ?_
                      refine r_v (Value.bool (((r215.1) == ((done2_)[(i8_).toNat]!.2.2.2.2.1)) && ((r215.2.1) == ((done2_)[(i8_).toNat]!.2.2.2.2.2.1)))) rfl rfl rfl rfl ?_
                      refine lx_nil ?_
                      refine hK214 _ _ ?_; try clear hK214 K214
                      refine A_regC [(some 168, true)] (conG Try.prog [(168, fun _ _ v_ L_ U_ => ∀ u0_, wire_Reader_Vec_v1_m N s12_ m11__1 m11__2 = some u0_ → (pO (List.flatten [[(b126, 69, #[s127, Value.int .i64 (m11__1), Value.int .i64 (m11__2)])], Ss12_]) (oI 5 encY s127 u0_.2.2.1 (oE (Value.agg #[Value.int .i64 (u0_.1), U (hi (u0_.2.1)), U (lo (u0_.2.1))]) [[(b126, 69, #[s127, Value.int .i64 (u0_.2.2.2.1), Value.int .i64 (u0_.2.2.2.2)])]]))) v_ L_ U_)]) ?_
                      refine r_v (Value.pointer (some ⟨b126, 0, none⟩)) rfl rfl rfl rfl ?_
                      replace hM := bind_sm hM; obtain ⟨r220, hr221, hM⟩ := hM
                      replace hM := ck_some hM; obtain ⟨ck222, hM⟩ := hM
                      refine r_gm (Ls := [[(b157, 34, #[Value.int .i64 ((done2_)[(i8_).toNat]!.1), Value.int .i64 ((done2_)[(i8_).toNat]!.2.1), Value.int .i64 ((done2_)[(i8_).toNat]!.2.2.1), Value.int .i64 ((done2_)[(i8_).toNat]!.2.2.2.1), Value.int .i64 ((done2_)[(i8_).toNat]!.2.2.2.2.1), U (hi ((done2_)[(i8_).toNat]!.2.2.2.2.2.1)), U (lo ((done2_)[(i8_).toNat]!.2.2.2.2.2.1)), Value.string (⟨((done2_)[(i8_).toNat]!.2.2.2.2.2.2).toArray⟩), s153, s155])], [(b126, 69, #[s127, Value.int .i64 (m11__1), Value.int .i64 (m11__2)])], [(b119, 69, #[s120, Value.int .i64 (r215.2.2.2.1), Value.int .i64 (r215.2.2.2.2)])], Sb1_, Sdone2_, Ss12_, S218]) (FL := [[(b126, 69, #[s127, Value.int .i64 (m11__1), Value.int .i64 (m11__2)])], Ss12_]) (RL := [[(b157, 34, #[Value.int .i64 ((done2_)[(i8_).toNat]!.1), Value.int .i64 ((done2_)[(i8_).toNat]!.2.1), Value.int .i64 ((done2_)[(i8_).toNat]!.2.2.1), Value.int .i64 ((done2_)[(i8_).toNat]!.2.2.2.1), Value.int .i64 ((done2_)[(i8_).toNat]!.2.2.2.2.1), U (hi ((done2_)[(i8_).toNat]!.2.2.2.2.2.1)), U (lo ((done2_)[(i8_).toNat]!.2.2.2.2.2.1)), Value.string (⟨((done2_)[(i8_).toNat]!.2.2.2.2.2.2).toArray⟩), s153, s155])], [(b119, 69, #[s120, Value.int .i64 (r215.2.2.2.1), Value.int .i64 (r215.2.2.2.2)])], Sb1_, Sdone2_, S218]) [1, 5] (oI 5 encY s127 r220.2.2.1 (oE (Value.agg #[Value.int .i64 (r220.1), U (hi (r220.2.1)), U (lo (r220.2.1))]) [[(b126, 69, #[s127, Value.int .i64 (r220.2.2.2.1), Value.int .i64 (r220.2.2.2.2)])]])) (some 168) 22 _ rfl rfl rfl rfl rfl (ev_callF rfl call_22 rfl) (fun own_ nw_ hn_ hs_ => wire_Reader_Vec_v1_g N s12_ m11__1 m11__2 _ hr221 _ b126 s127 Ss12_ hs12_) (fun _ _ v_ L_ U_ => ⟨fun h_ => h_ _ hr221, fun h_ => by intro _ e_; cases Option.some.inj (e_.symm.trans hr221); exact h_⟩) (fun h_ => nomatch h_) ?_
                      rintro _ _ ⟨S223, _, H224, ⟨rfl, rfl⟩, rfl⟩
                      refine lx_perm (Ls := [[(b157, 34, #[Value.int .i64 ((done2_)[(i8_).toNat]!.1), Value.int .i64 ((done2_)[(i8_).toNat]!.2.1), Value.int .i64 ((done2_)[(i8_).toNat]!.2.2.1), Value.int .i64 ((done2_)[(i8_).toNat]!.2.2.2.1), Value.int .i64 ((done2_)[(i8_).toNat]!.2.2.2.2.1), U (hi ((done2_)[(i8_).toNat]!.2.2.2.2.2.1)), U (lo ((done2_)[(i8_).toNat]!.2.2.2.2.2.1)), Value.string (⟨((done2_)[(i8_).toNat]!.2.2.2.2.2.2).toArray⟩), s153, s155])], [(b119, 69, #[s120, Value.int .i64 (r215.2.2.2.1), Value.int .i64 (r215.2.2.2.2)])], Sb1_, Sdone2_, S218, S223, [(b126, 69, #[s127, Value.int .i64 (r220.2.2.2.1), Value.int .i64 (r220.2.2.2.2)])]]) (Ls' := [[(b157, 34, #[Value.int .i64 ((done2_)[(i8_).toNat]!.1), Value.int .i64 ((done2_)[(i8_).toNat]!.2.1), Value.int .i64 ((done2_)[(i8_).toNat]!.2.2.1), Value.int .i64 ((done2_)[(i8_).toNat]!.2.2.2.1), Value.int .i64 ((done2_)[(i8_).toNat]!.2.2.2.2.1), U (hi ((done2_)[(i8_).toNat]!.2.2.2.2.2.1)), U (lo ((done2_)[(i8_).toNat]!.2.2.2.2.2.1)), Value.string (⟨((done2_)[(i8_).toNat]!.2.2.2.2.2.2).toArray⟩), s153, s155])], [(b119, 69, #[s120, Value.int .i64 (r215.2.2.2.1), Value.int .i64 (r215.2.2.2.2)])], [(b126, 69, #[s127, Value.int .i64 (r220.2.2.2.1), Value.int .i64 (r220.2.2.2.2)])], Sb1_, Sdone2_, S218, S223]) [0, 1, 6, 2, 3, 4, 5] rfl rfl ?_
                      refine lx_nil ?_
                      refine hK159 _ _ ?_; try clear hK159 K159
                      refine A_gen [(1, Value.int .i64 (cut)), (5, vb1_), (6, vdone2_), (13, Value.pointer (some ⟨b119, 0, none⟩)), (14, Value.pointer (some ⟨b126, 0, none⟩)), (15, Value.int .i64 (i8_)), (17, Value.bool (((r215.1) == ((done2_)[(i8_).toNat]!.2.2.2.2.1)) && ((r215.2.1) == ((done2_)[(i8_).toNat]!.2.2.2.2.2.1))))] rfl (fun T => ?_)
                      refine A_seq fun K225 hK225 => ?_
                      refine A_reg ?_
                      refine r_v (Value.bool (((r215.1) == ((done2_)[(i8_).toNat]!.2.2.2.2.1)) && ((r215.2.1) == ((done2_)[(i8_).toNat]!.2.2.2.2.2.1)))) rfl rfl rfl rfl ?_
                      refine r_v (Value.bool (!(((r215.1) == ((done2_)[(i8_).toNat]!.2.2.2.2.1)) && ((r215.2.1) == ((done2_)[(i8_).toNat]!.2.2.2.2.2.1))))) rfl rfl rfl rfl ?_
                      refine lx_nil ?_
                      refine hK225 _ _ ?_; try clear hK225 K225
                      refine A_cond (!(((r215.1) == ((done2_)[(i8_).toNat]!.2.2.2.2.1)) && ((r215.2.1) == ((done2_)[(i8_).toNat]!.2.2.2.2.2.1)))) rfl (fun hc226 => ?_) (fun hc226 => ?_)
                      · replace hM := ifn (Bool.eq_false_iff.1 (not_t hc226)) hM
                        refine A_seq fun K227 hK227 => ?_
                        refine A_reg ?_
                        refine r_v (Value.bool (false)) rfl rfl rfl rfl ?_
                        refine lx_nil ?_
                        refine hK227 _ _ ?_; try clear hK227 K227
                        obtain rfl := Option.some.inj hM
                        refine A_ret (fun hn => endsV (v0 := Value.bool (false)) rfl (res1 rfl))
                      · replace hM := ifp (not_f hc226) hM
                        refine A_skip ?_
                        refine hK136 _ _ ?_; try clear hK136 K136
                        refine A_reg ?_
                        refine r_v (Value.int .i64 (i8_)) rfl rfl rfl rfl ?_
                        replace hM := ck_some hM; obtain ⟨ck228, hM⟩ := hM
                        refine r_v (Value.int .i64 ((i8_ + 1))) rfl rfl (wi64 rfl ck228.1 ck228.2) rfl ?_
                        refine r_v (Value.int .i64 ((i8_ + 1))) rfl rfl rfl rfl ?_
                        refine lx_nil ?_
                        refine fg _ (Sub.pick [[(b157, 34, #[Value.int .i64 ((done2_)[(i8_).toNat]!.1), Value.int .i64 ((done2_)[(i8_).toNat]!.2.1), Value.int .i64 ((done2_)[(i8_).toNat]!.2.2.1), Value.int .i64 ((done2_)[(i8_).toNat]!.2.2.2.1), Value.int .i64 ((done2_)[(i8_).toNat]!.2.2.2.2.1), U (hi ((done2_)[(i8_).toNat]!.2.2.2.2.2.1)), U (lo ((done2_)[(i8_).toNat]!.2.2.2.2.2.1)), Value.string (⟨((done2_)[(i8_).toNat]!.2.2.2.2.2.2).toArray⟩), s153, s155])], [(b119, 69, #[s120, Value.int .i64 (r215.2.2.2.1), Value.int .i64 (r215.2.2.2.2)])], [(b126, 69, #[s127, Value.int .i64 (r220.2.2.2.1), Value.int .i64 (r220.2.2.2.2)])], Sb1_, Sdone2_, S218, S223] [1, 2, 3, 4, 5, 6] rfl) ?_
                        exact ⟨n132 + 1, by omega, n132, (i8_ + 1), r215.2.2.1, r215.2.2.2.1, r215.2.2.2.2, r220.2.2.1, r220.2.2.2.1, r220.2.2.2.2, hM, S218, H219, S223, H224, is_mk rfl rfl, rfl⟩
                    · replace hM := ifn (ne_of_beq_false hc213) hM
                      refine A_seq fun K229 hK229 => ?_
                      refine A_drawH (Ls := [[(b157, 34, #[Value.int .i64 ((done2_)[(i8_).toNat]!.1), Value.int .i64 ((done2_)[(i8_).toNat]!.2.1), Value.int .i64 ((done2_)[(i8_).toNat]!.2.2.1), Value.int .i64 ((done2_)[(i8_).toNat]!.2.2.2.1), Value.int .i64 ((done2_)[(i8_).toNat]!.2.2.2.2.1), U (hi ((done2_)[(i8_).toNat]!.2.2.2.2.2.1)), U (lo ((done2_)[(i8_).toNat]!.2.2.2.2.2.1)), Value.string (⟨((done2_)[(i8_).toNat]!.2.2.2.2.2.2).toArray⟩), s153, s155])], [(b119, 69, #[s120, Value.int .i64 (m9__1), Value.int .i64 (m9__2)])], [(b126, 69, #[s127, Value.int .i64 (m11__1), Value.int .i64 (m11__2)])], Sb1_, Sdone2_, Ss10_, Ss12_]) [(some 127, true), (some 1000000128, true)] [(127, fun _ _ v_ L_ U_ => (pH ((List.flatten [[(b119, 69, #[s120, Value.int .i64 (m9__1), Value.int .i64 (m9__2)])], Ss10_]).map (·.1)) (fun v_ L_ U_ => ∀ u0_, wire_Reader_Name_v1_m N s10_ m9__1 m9__2 = some u0_ → (pO (List.flatten [[(b119, 69, #[s120, Value.int .i64 (m9__1), Value.int .i64 (m9__2)])], Ss10_]) (oI 5 encY s120 u0_.2.1 (oE (Value.string (⟨(u0_.1).toArray⟩)) [[(b119, 69, #[s120, Value.int .i64 (u0_.2.2.1), Value.int .i64 (u0_.2.2.2)])]]))) v_ L_ U_) v_ L_ U_))] [1, 5] [0] [] (by decide +kernel) (fun hn => sep_nil) (by decide +kernel) rfl (⟨.inr (fun _ _ _ _ _ h_ => pH_hid (pick_sub (Ls := [[(b157, 34, #[Value.int .i64 ((done2_)[(i8_).toNat]!.1), Value.int .i64 ((done2_)[(i8_).toNat]!.2.1), Value.int .i64 ((done2_)[(i8_).toNat]!.2.2.1), Value.int .i64 ((done2_)[(i8_).toNat]!.2.2.2.1), Value.int .i64 ((done2_)[(i8_).toNat]!.2.2.2.2.1), U (hi ((done2_)[(i8_).toNat]!.2.2.2.2.2.1)), U (lo ((done2_)[(i8_).toNat]!.2.2.2.2.2.1)), Value.string (⟨((done2_)[(i8_).toNat]!.2.2.2.2.2.2).toArray⟩), s153, s155])], [(b119, 69, #[s120, Value.int .i64 (m9__1), Value.int .i64 (m9__2)])], [(b126, 69, #[s127, Value.int .i64 (m11__1), Value.int .i64 (m11__2)])], Sb1_, Sdone2_, Ss10_, Ss12_]) (is := [1, 5]) (js := [1, 5]) rfl) h_), trivial⟩) (fun hnb_ => ?_)
                      refine r_v (Value.pointer (some ⟨b119, 0, none⟩)) rfl rfl rfl rfl ?_
                      replace hM := bind_sm hM; obtain ⟨r230, hr231, hM⟩ := hM
                      replace hM := ck_some hM; obtain ⟨ck232, hM⟩ := hM
                      refine r_gm (Ls := [[(b157, 34, #[Value.int .i64 ((done2_)[(i8_).toNat]!.1), Value.int .i64 ((done2_)[(i8_).toNat]!.2.1), Value.int .i64 ((done2_)[(i8_).toNat]!.2.2.1), Value.int .i64 ((done2_)[(i8_).toNat]!.2.2.2.1), Value.int .i64 ((done2_)[(i8_).toNat]!.2.2.2.2.1), U (hi ((done2_)[(i8_).toNat]!.2.2.2.2.2.1)), U (lo ((done2_)[(i8_).toNat]!.2.2.2.2.2.1)), Value.string (⟨((done2_)[(i8_).toNat]!.2.2.2.2.2.2).toArray⟩), s153, s155])], [(b119, 69, #[s120, Value.int .i64 (m9__1), Value.int .i64 (m9__2)])], [(b126, 69, #[s127, Value.int .i64 (m11__1), Value.int .i64 (m11__2)])], Sb1_, Sdone2_, Ss10_, Ss12_]) (FL := [[(b119, 69, #[s120, Value.int .i64 (m9__1), Value.int .i64 (m9__2)])], Ss10_]) (RL := [[(b157, 34, #[Value.int .i64 ((done2_)[(i8_).toNat]!.1), Value.int .i64 ((done2_)[(i8_).toNat]!.2.1), Value.int .i64 ((done2_)[(i8_).toNat]!.2.2.1), Value.int .i64 ((done2_)[(i8_).toNat]!.2.2.2.1), Value.int .i64 ((done2_)[(i8_).toNat]!.2.2.2.2.1), U (hi ((done2_)[(i8_).toNat]!.2.2.2.2.2.1)), U (lo ((done2_)[(i8_).toNat]!.2.2.2.2.2.1)), Value.string (⟨((done2_)[(i8_).toNat]!.2.2.2.2.2.2).toArray⟩), s153, s155])], [(b126, 69, #[s127, Value.int .i64 (m11__1), Value.int .i64 (m11__2)])], Sb1_, Sdone2_, Ss12_]) [1, 5] (oI 5 encY s120 r230.2.1 (oE (Value.string (⟨(r230.1).toArray⟩)) [[(b119, 69, #[s120, Value.int .i64 (r230.2.2.1), Value.int .i64 (r230.2.2.2)])]])) (some 127) 23 _ rfl rfl rfl rfl rfl (ev_callF rfl call_23 rfl) (fun own_ nw_ hn_ hs_ => wire_Reader_Name_v1_g N s10_ m9__1 m9__2 _ hr231 _ b119 s120 Ss10_ hs10_) (fun a_ c_ v_ L_ U_ => pH_iff (q := fun v_ L_ U_ => ∀ u0_, wire_Reader_Name_v1_m N s10_ m9__1 m9__2 = some u0_ → (pO (List.flatten [[(b119, 69, #[s120, Value.int .i64 (m9__1), Value.int .i64 (m9__2)])], Ss10_]) (oI 5 encY s120 u0_.2.1 (oE (Value.string (⟨(u0_.1).toArray⟩)) [[(b119, 69, #[s120, Value.int .i64 (u0_.2.2.1), Value.int .i64 (u0_.2.2.2)])]]))) v_ L_ U_) ((fun _ _ v_ L_ U_ => ⟨fun h_ => h_ _ hr231, fun h_ => by intro _ e_; cases Option.some.inj (e_.symm.trans hr231); exact h_⟩) a_ c_ v_ L_ U_)) (fun _ => (NiceO.sub (R := (Ss10_ ++ ([(b119, 69, #[s120, Value.int .i64 (m9__1), Value.int .i64 (m9__2)])] ++ []))) (niceI hs10_ ck232 (niceE rfl)) (Sub.pick [[(b119, 69, #[s120, Value.int .i64 (m9__1), Value.int .i64 (m9__2)])], Ss10_] [1, 0] rfl))) ?_
                      rintro _ _ ⟨S233, _, H234, ⟨rfl, rfl⟩, rfl⟩
                      refine lx_perm (Ls := [[(b157, 34, #[Value.int .i64 ((done2_)[(i8_).toNat]!.1), Value.int .i64 ((done2_)[(i8_).toNat]!.2.1), Value.int .i64 ((done2_)[(i8_).toNat]!.2.2.1), Value.int .i64 ((done2_)[(i8_).toNat]!.2.2.2.1), Value.int .i64 ((done2_)[(i8_).toNat]!.2.2.2.2.1), U (hi ((done2_)[(i8_).toNat]!.2.2.2.2.2.1)), U (lo ((done2_)[(i8_).toNat]!.2.2.2.2.2.1)), Value.string (⟨((done2_)[(i8_).toNat]!.2.2.2.2.2.2).toArray⟩), s153, s155])], [(b126, 69, #[s127, Value.int .i64 (m11__1), Value.int .i64 (m11__2)])], Sb1_, Sdone2_, Ss12_, S233, [(b119, 69, #[s120, Value.int .i64 (r230.2.2.1), Value.int .i64 (r230.2.2.2)])]]) (Ls' := [[(b157, 34, #[Value.int .i64 ((done2_)[(i8_).toNat]!.1), Value.int .i64 ((done2_)[(i8_).toNat]!.2.1), Value.int .i64 ((done2_)[(i8_).toNat]!.2.2.1), Value.int .i64 ((done2_)[(i8_).toNat]!.2.2.2.1), Value.int .i64 ((done2_)[(i8_).toNat]!.2.2.2.2.1), U (hi ((done2_)[(i8_).toNat]!.2.2.2.2.2.1)), U (lo ((done2_)[(i8_).toNat]!.2.2.2.2.2.1)), Value.string (⟨((done2_)[(i8_).toNat]!.2.2.2.2.2.2).toArray⟩), s153, s155])], [(b126, 69, #[s127, Value.int .i64 (m11__1), Value.int .i64 (m11__2)])], [(b119, 69, #[s120, Value.int .i64 (r230.2.2.1), Value.int .i64 (r230.2.2.2)])], Sb1_, Sdone2_, Ss12_, S233]) [0, 1, 6, 2, 3, 4, 5] rfl rfl ?_
                      refine r_v (Value.pointer (some ⟨b157, 7, none⟩)) rfl rfl rfl rfl ?_
                      refine r_lH (Value.string (⟨((done2_)[(i8_).toNat]!.2.2.2.2.2.2).toArray⟩)) 0 _ _ _ _ rfl rfl rfl rfl rfl (hnb_ b157 (List.mem_of_getElem? (i := 0) rfl)) ?_
                      refine r_v (Value.bool ((r230.1) == ((done2_)[(i8_).toNat]!.2.2.2.2.2.2))) rfl rfl rfl (ev_eqS rfl rfl) ?_
                      refine r_v (Value.bool ((r230.1) == ((done2_)[(i8_).toNat]!.2.2.2.2.2.2))) rfl rfl rfl rfl ?_
                      refine lx_nil ?_
                      refine hK229 _ _ ?_; try clear hK229 K229
                      refine A_regC [(some 132, true)] (conG Try.prog [(132, fun _ _ v_ L_ U_ => ∀ u0_, wire_Reader_Name_v1_m N s12_ m11__1 m11__2 = some u0_ → (pO (List.flatten [[(b126, 69, #[s127, Value.int .i64 (m11__1), Value.int .i64 (m11__2)])], Ss12_]) (oI 5 encY s127 u0_.2.1 (oE (Value.string (⟨(u0_.1).toArray⟩)) [[(b126, 69, #[s127, Value.int .i64 (u0_.2.2.1), Value.int .i64 (u0_.2.2.2)])]]))) v_ L_ U_)]) ?_
                      refine r_v (Value.pointer (some ⟨b126, 0, none⟩)) rfl rfl rfl rfl ?_
                      replace hM := bind_sm hM; obtain ⟨r235, hr236, hM⟩ := hM
                      replace hM := ck_some hM; obtain ⟨ck237, hM⟩ := hM
                      refine r_gm (Ls := [[(b157, 34, #[Value.int .i64 ((done2_)[(i8_).toNat]!.1), Value.int .i64 ((done2_)[(i8_).toNat]!.2.1), Value.int .i64 ((done2_)[(i8_).toNat]!.2.2.1), Value.int .i64 ((done2_)[(i8_).toNat]!.2.2.2.1), Value.int .i64 ((done2_)[(i8_).toNat]!.2.2.2.2.1), U (hi ((done2_)[(i8_).toNat]!.2.2.2.2.2.1)), U (lo ((done2_)[(i8_).toNat]!.2.2.2.2.2.1)), Value.string (⟨((done2_)[(i8_).toNat]!.2.2.2.2.2.2).toArray⟩), s153, s155])], [(b126, 69, #[s127, Value.int .i64 (m11__1), Value.int .i64 (m11__2)])], [(b119, 69, #[s120, Value.int .i64 (r230.2.2.1), Value.int .i64 (r230.2.2.2)])], Sb1_, Sdone2_, Ss12_, S233]) (FL := [[(b126, 69, #[s127, Value.int .i64 (m11__1), Value.int .i64 (m11__2)])], Ss12_]) (RL := [[(b157, 34, #[Value.int .i64 ((done2_)[(i8_).toNat]!.1), Value.int .i64 ((done2_)[(i8_).toNat]!.2.1), Value.int .i64 ((done2_)[(i8_).toNat]!.2.2.1), Value.int .i64 ((done2_)[(i8_).toNat]!.2.2.2.1), Value.int .i64 ((done2_)[(i8_).toNat]!.2.2.2.2.1), U (hi ((done2_)[(i8_).toNat]!.2.2.2.2.2.1)), U (lo ((done2_)[(i8_).toNat]!.2.2.2.2.2.1)), Value.string (⟨((done2_)[(i8_).toNat]!.2.2.2.2.2.2).toArray⟩), s153, s155])], [(b119, 69, #[s120, Value.int .i64 (r230.2.2.1), Value.int .i64 (r230.2.2.2)])], Sb1_, Sdone2_, S233]) [1, 5] (oI 5 encY s127 r235.2.1 (oE (Value.string (⟨(r235.1).toArray⟩)) [[(b126, 69, #[s127, Value.int .i64 (r235.2.2.1), Value.int .i64 (r235.2.2.2)])]])) (some 132) 23 _ rfl rfl rfl rfl rfl (ev_callF rfl call_23 rfl) (fun own_ nw_ hn_ hs_ => wire_Reader_Name_v1_g N s12_ m11__1 m11__2 _ hr236 _ b126 s127 Ss12_ hs12_) (fun _ _ v_ L_ U_ => ⟨fun h_ => h_ _ hr236, fun h_ => by intro _ e_; cases Option.some.inj (e_.symm.trans hr236); exact h_⟩) (fun h_ => nomatch h_) ?_
                      rintro _ _ ⟨S238, _, H239, ⟨rfl, rfl⟩, rfl⟩
                      refine lx_perm (Ls := [[(b157, 34, #[Value.int .i64 ((done2_)[(i8_).toNat]!.1), Value.int .i64 ((done2_)[(i8_).toNat]!.2.1), Value.int .i64 ((done2_)[(i8_).toNat]!.2.2.1), Value.int .i64 ((done2_)[(i8_).toNat]!.2.2.2.1), Value.int .i64 ((done2_)[(i8_).toNat]!.2.2.2.2.1), U (hi ((done2_)[(i8_).toNat]!.2.2.2.2.2.1)), U (lo ((done2_)[(i8_).toNat]!.2.2.2.2.2.1)), Value.string (⟨((done2_)[(i8_).toNat]!.2.2.2.2.2.2).toArray⟩), s153, s155])], [(b119, 69, #[s120, Value.int .i64 (r230.2.2.1), Value.int .i64 (r230.2.2.2)])], Sb1_, Sdone2_, S233, S238, [(b126, 69, #[s127, Value.int .i64 (r235.2.2.1), Value.int .i64 (r235.2.2.2)])]]) (Ls' := [[(b157, 34, #[Value.int .i64 ((done2_)[(i8_).toNat]!.1), Value.int .i64 ((done2_)[(i8_).toNat]!.2.1), Value.int .i64 ((done2_)[(i8_).toNat]!.2.2.1), Value.int .i64 ((done2_)[(i8_).toNat]!.2.2.2.1), Value.int .i64 ((done2_)[(i8_).toNat]!.2.2.2.2.1), U (hi ((done2_)[(i8_).toNat]!.2.2.2.2.2.1)), U (lo ((done2_)[(i8_).toNat]!.2.2.2.2.2.1)), Value.string (⟨((done2_)[(i8_).toNat]!.2.2.2.2.2.2).toArray⟩), s153, s155])], [(b119, 69, #[s120, Value.int .i64 (r230.2.2.1), Value.int .i64 (r230.2.2.2)])], [(b126, 69, #[s127, Value.int .i64 (r235.2.2.1), Value.int .i64 (r235.2.2.2)])], Sb1_, Sdone2_, S233, S238]) [0, 1, 6, 2, 3, 4, 5] rfl rfl ?_
                      refine lx_nil ?_
                      refine hK159 _ _ ?_; try clear hK159 K159
                      refine A_gen [(1, Value.int .i64 (cut)), (5, vb1_), (6, vdone2_), (13, Value.pointer (some ⟨b119, 0, none⟩)), (14, Value.pointer (some ⟨b126, 0, none⟩)), (15, Value.int .i64 (i8_)), (17, Value.bool ((r230.1) == ((done2_)[(i8_).toNat]!.2.2.2.2.2.2)))] rfl (fun T => ?_)
                      refine A_seq fun K240 hK240 => ?_
                      refine A_reg ?_
                      refine r_v (Value.bool ((r230.1) == ((done2_)[(i8_).toNat]!.2.2.2.2.2.2))) rfl rfl rfl rfl ?_
                      refine r_v (Value.bool (!((r230.1) == ((done2_)[(i8_).toNat]!.2.2.2.2.2.2)))) rfl rfl rfl rfl ?_
                      refine lx_nil ?_
                      refine hK240 _ _ ?_; try clear hK240 K240
                      refine A_cond (!((r230.1) == ((done2_)[(i8_).toNat]!.2.2.2.2.2.2))) rfl (fun hc241 => ?_) (fun hc241 => ?_)
                      · replace hM := ifn (ne_of_beq_false (not_t hc241)) hM
                        refine A_seq fun K242 hK242 => ?_
                        refine A_reg ?_
                        refine r_v (Value.bool (false)) rfl rfl rfl rfl ?_
                        refine lx_nil ?_
                        refine hK242 _ _ ?_; try clear hK242 K242
                        obtain rfl := Option.some.inj hM
                        refine A_ret (fun hn => endsV (v0 := Value.bool (false)) rfl (res1 rfl))
                      · replace hM := ifp (eq_of_beq (not_f hc241)) hM
                        refine A_skip ?_
                        refine hK136 _ _ ?_; try clear hK136 K136
                        refine A_reg ?_
                        refine r_v (Value.int .i64 (i8_)) rfl rfl rfl rfl ?_
                        replace hM := ck_some hM; obtain ⟨ck243, hM⟩ := hM
                        refine r_v (Value.int .i64 ((i8_ + 1))) rfl rfl (wi64 rfl ck243.1 ck243.2) rfl ?_
                        refine r_v (Value.int .i64 ((i8_ + 1))) rfl rfl rfl rfl ?_
                        refine lx_nil ?_
                        refine fg _ (Sub.pick [[(b157, 34, #[Value.int .i64 ((done2_)[(i8_).toNat]!.1), Value.int .i64 ((done2_)[(i8_).toNat]!.2.1), Value.int .i64 ((done2_)[(i8_).toNat]!.2.2.1), Value.int .i64 ((done2_)[(i8_).toNat]!.2.2.2.1), Value.int .i64 ((done2_)[(i8_).toNat]!.2.2.2.2.1), U (hi ((done2_)[(i8_).toNat]!.2.2.2.2.2.1)), U (lo ((done2_)[(i8_).toNat]!.2.2.2.2.2.1)), Value.string (⟨((done2_)[(i8_).toNat]!.2.2.2.2.2.2).toArray⟩), s153, s155])], [(b119, 69, #[s120, Value.int .i64 (r230.2.2.1), Value.int .i64 (r230.2.2.2)])], [(b126, 69, #[s127, Value.int .i64 (r235.2.2.1), Value.int .i64 (r235.2.2.2)])], Sb1_, Sdone2_, S233, S238] [1, 2, 3, 4, 5, 6] rfl) ?_
                        exact ⟨n132 + 1, by omega, n132, (i8_ + 1), r230.2.1, r230.2.2.1, r230.2.2.2, r235.2.1, r235.2.2.1, r235.2.2.2, hM, S233, H234, S238, H239, is_mk rfl rfl, rfl⟩
            · replace hM := ifn (of_decide_eq_false hc135) hM
              refine A_exit ?_
              refine hK130 _ _ ?_; try clear hK130 K130
              refine A_seq fun K244 hK244 => ?_
              refine A_regC [(some 173, true), (some 174, false)] (conG Try.prog [(173, fun _ _ v_ L_ U_ => ∀ u0_, wire_Reader_End_v1_m N s12_ m11__1 m11__2 = some u0_ → (pO (List.flatten []) (Sum46.onP u0_ (oE (Value.nilIface) []) (fun y0_0 y0_1 => (oB 84 #[Value.int .i64 (y0_0), Value.int .i64 (y0_1)] fun bs_0 => (oE (Value.iface 80 (Value.pointer (some ⟨bs_0, 0, none⟩))) []))))) v_ L_ U_), (174, fun _ _ v_ L_ U_ => (∀ u0_, wire_Reader_End_v1_m N s12_ m11__1 m11__2 = some u0_ → u0_ = .nil → ∀ u2_, wire_Why_v1_m N  = some u2_ → (pV (Value.tuple #[Value.int .i64 (u2_.1), Value.int .i64 (u2_.2)])) v_ L_ U_) ∧ (∀ u0_, wire_Reader_End_v1_m N s12_ m11__1 m11__2 = some u0_ → ∀ u1_0 u1_1, u0_ = .t80 u1_0 u1_1 → ∀ u2_, wire_Why_v2_m N u1_0 u1_1 = some u2_ → (pV (Value.tuple #[Value.int .i64 (u2_.1), Value.int .i64 (u2_.2)])) v_ L_ U_))]) ?_
              refine r_v (Value.pointer (some ⟨b126, 0, none⟩)) rfl rfl rfl rfl ?_
              replace hM := bind_sm hM; obtain ⟨r245, hr246, hM⟩ := hM
              refine r_gm (Ls := [[(b119, 69, #[s120, Value.int .i64 (m9__1), Value.int .i64 (m9__2)])], [(b126, 69, #[s127, Value.int .i64 (m11__1), Value.int .i64 (m11__2)])], Sb1_, Sdone2_, Ss10_, Ss12_]) (FL := []) (RL := [[(b119, 69, #[s120, Value.int .i64 (m9__1), Value.int .i64 (m9__2)])], [(b126, 69, #[s127, Value.int .i64 (m11__1), Value.int .i64 (m11__2)])], Sb1_, Sdone2_, Ss10_, Ss12_]) [] (Sum46.onP r245 (oE (Value.nilIface) []) (fun y0_0 y0_1 => (oB 84 #[Value.int .i64 (y0_0), Value.int .i64 (y0_1)] fun bs_0 => (oE (Value.iface 80 (Value.pointer (some ⟨bs_0, 0, none⟩))) [])))) (some 173) 15 _ rfl rfl rfl rfl rfl (ev_callF rfl call_15 rfl) (fun own_ nw_ hn_ hs_ => wire_Reader_End_v1_g N s12_ m11__1 m11__2 _ hr246 _ b126 s127 (rd_sans (Ls := [[(b119, 69, #[s120, Value.int .i64 (m9__1), Value.int .i64 (m9__2)])], [(b126, 69, #[s127, Value.int .i64 (m11__1), Value.int .i64 (m11__2)])], Sb1_, Sdone2_, Ss10_, Ss12_]) (is := []) 5 hs12_ rfl rfl hn_ hs_) (blk_sans (Ls := [[(b119, 69, #[s120, Value.int .i64 (m9__1), Value.int .i64 (m9__2)])], [(b126, 69, #[s127, Value.int .i64 (m11__1), Value.int .i64 (m11__2)])], Sb1_, Sdone2_, Ss10_, Ss12_]) (is := []) 1 rfl rfl hn_ hs_)) (fun _ _ v_ L_ U_ => ⟨fun h_ => h_ _ hr246, fun h_ => by intro _ e_; cases Option.some.inj (e_.symm.trans hr246); exact h_⟩) (fun h_ => nomatch h_) ?_
              rintro _ _ hp_
              rcases Sum46.cases r245 with hx247 | ⟨x248_0, x249_1, hx247⟩
              · obtain ⟨rfl, rfl⟩ := Sum46.onP_nil hx247 hp_
                replace hM := Sum46.on_nil hx247 hM
                refine lx_perm (Ls := [[(b119, 69, #[s120, Value.int .i64 (m9__1), Value.int .i64 (m9__2)])], [(b126, 69, #[s127, Value.int .i64 (m11__1), Value.int .i64 (m11__2)])], Sb1_, Sdone2_, Ss10_, Ss12_]) (Ls' := [[(b119, 69, #[s120, Value.int .i64 (m9__1), Value.int .i64 (m9__2)])], [(b126, 69, #[s127, Value.int .i64 (m11__1), Value.int .i64 (m11__2)])], Sb1_, Sdone2_, Ss10_, Ss12_]) [0, 1, 2, 3, 4, 5] rfl rfl ?_
                replace hM := bind_sm hM; obtain ⟨r250, hr251, hM⟩ := hM
                refine r_gv (Value.tuple #[Value.int .i64 (r250.1), Value.int .i64 (r250.2)]) 14 _ rfl rfl rfl (ev_callF rfl call_14 rfl) (fun own_ nw_ hs_ => Does.inv (Gives.doesV (wire_Why_v1_g N  _ hr251) _) _) (fun _ _ v_ L_ U_ => ⟨fun h_ => h_.1 _ hr246 hx247 _ hr251, fun h_ => ⟨by intro _ e_; cases Option.some.inj (e_.symm.trans hr246); intro e_; first | (cases (e_.symm.trans hx247); done) | (cases (e_.symm.trans hx247); intro _ e_; cases Option.some.inj (e_.symm.trans hr251); exact h_), by intro _ e_; cases Option.some.inj (e_.symm.trans hr246); intro _ _ e_; first | (cases (e_.symm.trans hx247); done) | (cases (e_.symm.trans hx247); intro _ e_; cases Option.some.inj (e_.symm.trans hr252); exact h_)⟩⟩) ?_
                refine r_v (Value.tuple #[Value.int .i64 (r250.1), Value.int .i64 (r250.2)]) rfl rfl rfl rfl ?_
                refine r_v (Value.int .i64 (r250.1)) rfl rfl rfl rfl ?_
                refine r_v (Value.int .i64 (r250.2)) rfl rfl rfl rfl ?_
                refine r_v (Value.int .i64 (r250.1)) rfl rfl rfl rfl ?_
                refine r_v (Value.int .i64 (r250.2)) rfl rfl rfl rfl ?_
                refine lx_nil ?_
                refine hK244 _ _ ?_; try clear hK244 K244
                refine A_seq fun K252 hK252 => ?_
                refine A_reg ?_
                refine r_v (Value.int .i64 (cut)) rfl rfl rfl rfl ?_
                refine r_v (Value.int .i64 (max (0) (cut))) rfl rfl rfl (ev_max rfl rfl) ?_
                refine r_v (vb1_) rfl rfl rfl rfl ?_
                refine r_v (Value.int .i64 (((b1_).length : Int))) rfl rfl rfl (ev_lenSl rfl rfl rfl (Sl.shp hb1_)) ?_
                refine r_v (Value.bool (decide ((max (0) (cut) : Int) ≥ ((b1_).length : Int)))) rfl rfl rfl rfl ?_
                refine r_v (Value.bool (decide ((max (0) (cut) : Int) ≥ ((b1_).length : Int)))) rfl rfl rfl rfl ?_
                refine lx_nil ?_
                refine hK252 _ _ ?_; try clear hK252 K252
                refine A_seq fun K253 hK253 => ?_
                refine A_regC [(some 183, true), (some 187, false)] (conG Try.prog [(183, fun _ _ v_ L_ U_ => ∀ u0_, wire_Reader_End_v1_m N s10_ m9__1 m9__2 = some u0_ → (pO (List.flatten []) (Sum46.onP u0_ (oE (Value.nilIface) []) (fun y0_0 y0_1 => (oB 84 #[Value.int .i64 (y0_0), Value.int .i64 (y0_1)] fun bs_0 => (oE (Value.iface 80 (Value.pointer (some ⟨bs_0, 0, none⟩))) []))))) v_ L_ U_), (187, fun _ _ v_ L_ U_ => ∀ u0_, wire_Reader_Left_v1_m N s10_ m9__1 m9__2 = some u0_ → (pV (Value.int .i64 (u0_))) v_ L_ U_)]) ?_
                refine r_v (Value.pointer (some ⟨b119, 0, none⟩)) rfl rfl rfl rfl ?_
                replace hM := bind_sm hM; obtain ⟨r254, hr255, hM⟩ := hM
                refine r_gm (Ls := [[(b119, 69, #[s120, Value.int .i64 (m9__1), Value.int .i64 (m9__2)])], [(b126, 69, #[s127, Value.int .i64 (m11__1), Value.int .i64 (m11__2)])], Sb1_, Sdone2_, Ss10_, Ss12_]) (FL := []) (RL := [[(b119, 69, #[s120, Value.int .i64 (m9__1), Value.int .i64 (m9__2)])], [(b126, 69, #[s127, Value.int .i64 (m11__1), Value.int .i64 (m11__2)])], Sb1_, Sdone2_, Ss10_, Ss12_]) [] (Sum46.onP r254 (oE (Value.nilIface) []) (fun y0_0 y0_1 => (oB 84 #[Value.int .i64 (y0_0), Value.int .i64 (y0_1)] fun bs_0 => (oE (Value.iface 80 (Value.pointer (some ⟨bs_0, 0, none⟩))) [])))) (some 183) 15 _ rfl rfl rfl rfl rfl (ev_callF rfl call_15 rfl) (fun own_ nw_ hn_ hs_ => wire_Reader_End_v1_g N s10_ m9__1 m9__2 _ hr255 _ b119 s120 (rd_sans (Ls := [[(b119, 69, #[s120, Value.int .i64 (m9__1), Value.int .i64 (m9__2)])], [(b126, 69, #[s127, Value.int .i64 (m11__1), Value.int .i64 (m11__2)])], Sb1_, Sdone2_, Ss10_, Ss12_]) (is := []) 4 hs10_ rfl rfl hn_ hs_) (blk_sans (Ls := [[(b119, 69, #[s120, Value.int .i64 (m9__1), Value.int .i64 (m9__2)])], [(b126, 69, #[s127, Value.int .i64 (m11__1), Value.int .i64 (m11__2)])], Sb1_, Sdone2_, Ss10_, Ss12_]) (is := []) 0 rfl rfl hn_ hs_)) (fun _ _ v_ L_ U_ => ⟨fun h_ => h_ _ hr255, fun h_ => by intro _ e_; cases Option.some.inj (e_.symm.trans hr255); exact h_⟩) (fun h_ => nomatch h_) ?_
                rintro _ _ hp_
                rcases Sum46.cases r254 with hx256 | ⟨x257_0, x258_1, hx256⟩
                · obtain ⟨rfl, rfl⟩ := Sum46.onP_nil hx256 hp_
                  replace hM := Sum46.on_nil hx256 hM
                  refine lx_perm (Ls := [[(b119, 69, #[s120, Value.int .i64 (m9__1), Value.int .i64 (m9__2)])], [(b126, 69, #[s127, Value.int .i64 (m11__1), Value.int .i64 (m11__2)])], Sb1_, Sdone2_, Ss10_, Ss12_]) (Ls' := [[(b119, 69, #[s120, Value.int .i64 (m9__1), Value.int .i64 (m9__2)])], [(b126, 69, #[s127, Value.int .i64 (m11__1), Value.int .i64 (m11__2)])], Sb1_, Sdone2_, Ss10_, Ss12_]) [0, 1, 2, 3, 4, 5] rfl rfl ?_
                  refine r_v (Value.bool (true)) rfl rfl rfl rfl ?_
                  refine r_v (Value.bool (true)) rfl rfl rfl rfl ?_
                  refine r_y rfl ?_
                  refine r_v (Value.pointer (some ⟨b119, 0, none⟩)) rfl rfl rfl rfl ?_
                  refine r_y rfl ?_
                  replace hM := bind_sm hM; obtain ⟨r259, hr260, hM⟩ := hM
                  refine r_gv (Value.int .i64 (r259)) 12 _ rfl rfl rfl (ev_callF rfl call_12 rfl) (fun own_ nw_ hs_ => wire_Reader_Left_v1_g N s10_ m9__1 m9__2 _ hr260 hs_.view b119 s120 ((rd_own hs10_ (mem_chunk (Ls := [[(b119, 69, #[s120, Value.int .i64 (m9__1), Value.int .i64 (m9__2)])], [(b126, 69, #[s127, Value.int .i64 (m11__1), Value.int .i64 (m11__2)])], Sb1_, Sdone2_, Ss10_, Ss12_]) (k := 4) rfl rfl)) own_ nw_ hs_) (blk_own 0 rfl rfl own_ nw_ hs_)) (fun _ _ v_ L_ U_ => ⟨fun h_ => h_ _ hr260, fun h_ => by intro _ e_; cases Option.some.inj (e_.symm.trans hr260); exact h_⟩) ?_
                  refine r_y rfl ?_
                  refine r_v (Value.bool (((r259 : Int) == 0))) rfl rfl rfl rfl ?_
                  refine r_v (Value.bool (((r259 : Int) == 0))) rfl rfl rfl rfl ?_
                  refine r_v (Value.bool (((r259 : Int) == 0))) rfl rfl rfl rfl ?_
                  rcases hg261 : (((r259 : Int) == 0)) with _ | _
                  · replace hM := ifn (ne_of_beq_false hg261) hM
                    refine r_n false rfl (by decide) rfl ?_
                    refine r_n false rfl (by decide) rfl ?_
                    refine r_n false rfl (by decide) rfl ?_
                    refine r_n false rfl (by decide) rfl ?_
                    refine r_v (Value.bool (false)) rfl rfl rfl rfl ?_
                    refine r_v (Value.bool (false)) rfl rfl rfl rfl ?_
                    refine r_n false rfl (by decide) rfl ?_
                    refine r_n false rfl (by decide) rfl ?_
                    refine r_nu rfl rfl ?_
                    refine r_nu rfl rfl ?_
                    refine r_n false rfl (by decide) rfl ?_
                    refine r_v (Value.bool (false)) rfl rfl rfl rfl ?_
                    refine r_v (Value.bool (false)) rfl rfl rfl rfl ?_
                    refine r_n false rfl (by decide) rfl ?_
                    refine r_v (Value.bool (false)) rfl rfl rfl rfl ?_
                    refine r_v (Value.bool (false)) rfl rfl rfl rfl ?_
                    refine lx_nil ?_
                    refine hK253 _ _ ?_; try clear hK253 K253
                    refine A_gen [(4, Value.bool (false))] rfl (fun T => ?_)
                    obtain rfl := Option.some.inj hM
                    refine A_ret (fun hn => endsV (v0 := Value.bool (false)) rfl (res1 rfl))
                  · replace hM := ifp (eq_of_beq hg261) hM
                    refine r_y rfl ?_
                    refine r_v (Value.int .i64 (r250.1)) rfl rfl rfl rfl ?_
                    refine r_y rfl ?_
                    refine r_v (Value.bool (((r250.1 : Int) == 0))) rfl rfl rfl rfl ?_
                    refine r_y rfl ?_
                    refine r_v (Value.bool (decide ((max (0) (cut) : Int) ≥ ((b1_).length : Int)))) rfl rfl rfl rfl ?_
                    refine r_y rfl ?_
                    refine r_v (Value.bool ((((r250.1 : Int) == 0)) == (decide ((max (0) (cut) : Int) ≥ ((b1_).length : Int))))) rfl rfl rfl (ev_binB rfl rfl rfl) ?_
                    refine r_v (Value.bool ((((r250.1 : Int) == 0)) == (decide ((max (0) (cut) : Int) ≥ ((b1_).length : Int))))) rfl rfl rfl rfl ?_
                    refine r_v (Value.bool ((((r250.1 : Int) == 0)) == (decide ((max (0) (cut) : Int) ≥ ((b1_).length : Int))))) rfl rfl rfl rfl ?_
                    rcases hg262 : ((((r250.1 : Int) == 0)) == (decide ((max (0) (cut) : Int) ≥ ((b1_).length : Int)))) with _ | _
                    · replace hM := ifn (ne_of_beq_false hg262) hM
                      refine r_n false rfl (by decide) rfl ?_
                      refine r_n false rfl (by decide) rfl ?_
                      refine r_nu rfl rfl ?_
                      refine r_nu rfl rfl ?_
                      refine r_n false rfl (by decide) rfl ?_
                      refine r_v (Value.bool (false)) rfl rfl rfl rfl ?_
                      refine r_v (Value.bool (false)) rfl rfl rfl rfl ?_
                      refine r_n false rfl (by decide) rfl ?_
                      refine r_v (Value.bool (false)) rfl rfl rfl rfl ?_
                      refine r_v (Value.bool (false)) rfl rfl rfl rfl ?_
                      refine lx_nil ?_
                      refine hK253 _ _ ?_; try clear hK253 K253
                      refine A_gen [(4, Value.bool (false))] rfl (fun T => ?_)
                      obtain rfl := Option.some.inj hM
                      refine A_ret (fun hn => endsV (v0 := Value.bool (false)) rfl (res1 rfl))
                    · replace hM := ifp (eq_of_beq hg262) hM
                      refine r_y rfl ?_
                      refine r_v (Value.bool (decide ((max (0) (cut) : Int) ≥ ((b1_).length : Int)))) rfl rfl rfl rfl ?_
                      refine r_y rfl ?_
                      refine r_v (Value.bool (decide ((max (0) (cut) : Int) ≥ ((b1_).length : Int)))) rfl rfl rfl rfl ?_
                      rcases hg263 : (decide ((max (0) (cut) : Int) ≥ ((b1_).length : Int))) with _ | _
                      · replace hM := ifn (of_decide_eq_false hg263) hM
                        refine r_y rfl ?_
                        refine r_v (Value.int .i64 (r250.1)) rfl rfl rfl rfl ?_
                        refine r_y rfl ?_
                        refine r_v (Value.bool (((r250.1 : Int) == 3))) rfl rfl rfl rfl ?_
                        refine r_y rfl ?_
                        refine r_v (Value.bool (((r250.1 : Int) == 3))) rfl rfl rfl rfl ?_
                        refine r_v (Value.bool (((r250.1 : Int) == 3))) rfl rfl rfl rfl ?_
                        refine r_v (Value.bool (((r250.1 : Int) == 3))) rfl rfl rfl rfl ?_
                        rcases hg264 : (((r250.1 : Int) == 3)) with _ | _
                        · replace hM := ifn (ne_of_beq_false hg264) hM
                          refine r_n false rfl (by decide) rfl ?_
                          refine r_v (Value.bool (false)) rfl rfl rfl rfl ?_
                          refine r_v (Value.bool (false)) rfl rfl rfl rfl ?_
                          refine lx_nil ?_
                          refine hK253 _ _ ?_; try clear hK253 K253
                          refine A_gen [(4, Value.bool (false))] rfl (fun T => ?_)
                          obtain rfl := Option.some.inj hM
                          refine A_ret (fun hn => endsV (v0 := Value.bool (false)) rfl (res1 rfl))
                        · replace hM := ifp (eq_of_beq hg264) hM
                          refine r_y rfl ?_
                          replace hM := bind_sm hM; obtain ⟨r265, hr266, hM⟩ := hM
                          refine r_c (Value.bool (r265)) rfl _ _ (ev_callF rfl call_7 rfl) (shunterlaw07_lives_g N  _ hr266) ?_
                          refine r_v (Value.bool (r265)) rfl rfl rfl rfl ?_
                          refine r_v (Value.bool (r265)) rfl rfl rfl rfl ?_
                          refine lx_nil ?_
                          refine hK253 _ _ ?_; try clear hK253 K253
                          refine A_gen [(4, Value.bool (r265))] rfl (fun T => ?_)
                          obtain rfl := Option.some.inj hM
                          refine A_ret (fun hn => endsV (v0 := Value.bool (r265)) rfl (res1 rfl))
                      · replace hM := ifp (of_decide_eq_true hg263) hM
                        refine r_n true rfl (by decide) rfl ?_
                        refine r_n true rfl (by decide) rfl ?_
                        refine r_y rfl ?_
                        refine r_v (Value.bool (true)) rfl rfl rfl rfl ?_
                        refine r_v (Value.bool (true)) rfl rfl rfl rfl ?_
                        refine r_v (Value.bool (true)) rfl rfl rfl rfl ?_
                        refine r_y rfl ?_
                        replace hM := bind_sm hM; obtain ⟨r267, hr268, hM⟩ := hM
                        refine r_c (Value.bool (r267)) rfl _ _ (ev_callF rfl call_7 rfl) (shunterlaw07_lives_g N  _ hr268) ?_
                        refine r_v (Value.bool (r267)) rfl rfl rfl rfl ?_
                        refine r_v (Value.bool (r267)) rfl rfl rfl rfl ?_
                        refine lx_nil ?_
                        refine hK253 _ _ ?_; try clear hK253 K253
                        refine A_gen [(4, Value.bool (r267))] rfl (fun T => ?_)
                        obtain rfl := Option.some.inj hM
                        refine A_ret (fun hn => endsV (v0 := Value.bool (r267)) rfl (res1 rfl))
                · obtain ⟨b259, _, ⟨rfl, rfl⟩, rfl⟩ := Sum46.onP_t80 hx256 hp_
                  replace hM := Sum46.on_t80 hx256 hM
                  refine lx_perm (Ls := [[(b119, 69, #[s120, Value.int .i64 (m9__1), Value.int .i64 (m9__2)])], [(b126, 69, #[s127, Value.int .i64 (m11__1), Value.int .i64 (m11__2)])], Sb1_, Sdone2_, Ss10_, Ss12_, [(b259, 84, #[Value.int .i64 (x257_0), Value.int .i64 (x258_1)])]]) (Ls' := [[(b119, 69, #[s120, Value.int .i64 (m9__1), Value.int .i64 (m9__2)])], [(b126, 69, #[s127, Value.int .i64 (m11__1), Value.int .i64 (m11__2)])], [(b259, 84, #[Value.int .i64 (x257_0), Value.int .i64 (x258_1)])], Sb1_, Sdone2_, Ss10_, Ss12_]) [0, 1, 6, 2, 3, 4, 5] rfl rfl ?_
                  refine r_v (Value.bool (false)) rfl rfl rfl rfl ?_
                  refine r_v (Value.bool (false)) rfl rfl rfl rfl ?_
                  refine r_n false rfl (by decide) rfl ?_
                  refine r_n false rfl (by decide) rfl ?_
                  refine r_n false rfl (by decide) rfl ?_
                  refine r_v (Value.bool (false)) rfl rfl rfl rfl ?_
                  refine r_v (Value.bool (false)) rfl rfl rfl rfl ?_
                  refine r_n false rfl (by decide) rfl ?_
                  refine r_n false rfl (by decide) rfl ?_
                  refine r_n false rfl (by decide) rfl ?_
                  refine r_n false rfl (by decide) rfl ?_
                  refine r_v (Value.bool (false)) rfl rfl rfl rfl ?_
                  refine r_v (Value.bool (false)) rfl rfl rfl rfl ?_
                  refine r_n false rfl (by decide) rfl ?_
                  refine r_n false rfl (by decide) rfl ?_
                  refine r_nu rfl rfl ?_
                  refine r_nu rfl rfl ?_
                  refine r_n false rfl (by decide) rfl ?_
                  refine r_v (Value.bool (false)) rfl rfl rfl rfl ?_
                  refine r_v (Value.bool (false)) rfl rfl rfl rfl ?_
                  refine r_n false rfl (by decide) rfl ?_
                  refine r_v (Value.bool (false)) rfl rfl rfl rfl ?_
                  refine r_v (Value.bool (false)) rfl rfl rfl rfl ?_
                  refine lx_nil ?_
                  refine hK253 _ _ ?_; try clear hK253 K253
                  refine A_gen [(4, Value.bool (false))] rfl (fun T => ?_)
                  obtain rfl := Option.some.inj hM
                  refine A_ret (fun hn => endsV (v0 := Value.bool (false)) rfl (res1 rfl))
              · obtain ⟨b250, _, ⟨rfl, rfl⟩, rfl⟩ := Sum46.onP_t80 hx247 hp_
                replace hM := Sum46.on_t80 hx247 hM
                refine lx_perm (Ls := [[(b119, 69, #[s120, Value.int .i64 (m9__1), Value.int .i64 (m9__2)])], [(b126, 69, #[s127, Value.int .i64 (m11__1), Value.int .i64 (m11__2)])], Sb1_, Sdone2_, Ss10_, Ss12_, [(b250, 84, #[Value.int .i64 (x248_0), Value.int .i64 (x249_1)])]]) (Ls' := [[(b119, 69, #[s120, Value.int .i64 (m9__1), Value.int .i64 (m9__2)])], [(b126, 69, #[s127, Value.int .i64 (m11__1), Value.int .i64 (m11__2)])], [(b250, 84, #[Value.int .i64 (x248_0), Value.int .i64 (x249_1)])], Sb1_, Sdone2_, Ss10_, Ss12_]) [0, 1, 6, 2, 3, 4, 5] rfl rfl ?_
                replace hM := bind_sm hM; obtain ⟨r251, hr252, hM⟩ := hM
                refine r_gv (Value.tuple #[Value.int .i64 (r251.1), Value.int .i64 (r251.2)]) 14 _ rfl rfl rfl (ev_callF rfl call_14 rfl) (fun own_ nw_ hs_ => wire_Why_v2_g N x248_0 x249_1 _ hr252 hs_.view b250 (blk_own 2 rfl rfl own_ nw_ hs_)) (fun _ _ v_ L_ U_ => ⟨fun h_ => h_.2 _ hr246 _ _ hx247 _ hr252, fun h_ => ⟨by intro _ e_; cases Option.some.inj (e_.symm.trans hr246); intro e_; first | (cases (e_.symm.trans hx247); done) | (cases (e_.symm.trans hx247); intro _ e_; cases Option.some.inj (e_.symm.trans hr251); exact h_), by intro _ e_; cases Option.some.inj (e_.symm.trans hr246); intro _ _ e_; first | (cases (e_.symm.trans hx247); done) | (cases (e_.symm.trans hx247); intro _ e_; cases Option.some.inj (e_.symm.trans hr252); exact h_)⟩⟩) ?_
                refine r_v (Value.tuple #[Value.int .i64 (r251.1), Value.int .i64 (r251.2)]) rfl rfl rfl rfl ?_
                refine r_v (Value.int .i64 (r251.1)) rfl rfl rfl rfl ?_
                refine r_v (Value.int .i64 (r251.2)) rfl rfl rfl rfl ?_
                refine r_v (Value.int .i64 (r251.1)) rfl rfl rfl rfl ?_
                refine r_v (Value.int .i64 (r251.2)) rfl rfl rfl rfl ?_
                refine lx_nil ?_
                refine hK244 _ _ ?_; try clear hK244 K244
                refine A_seq fun K253 hK253 => ?_
                refine A_reg ?_
                refine r_v (Value.int .i64 (cut)) rfl rfl rfl rfl ?_
                refine r_v (Value.int .i64 (max (0) (cut))) rfl rfl rfl (ev_max rfl rfl) ?_
                refine r_v (vb1_) rfl rfl rfl rfl ?_
                refine r_v (Value.int .i64 (((b1_).length : Int))) rfl rfl rfl (ev_lenSl rfl rfl rfl (Sl.shp hb1_)) ?_
                refine r_v (Value.bool (decide ((max (0) (cut) : Int) ≥ ((b1_).length : Int)))) rfl rfl rfl rfl ?_
                refine r_v (Value.bool (decide ((max (0) (cut) : Int) ≥ ((b1_).length : Int)))) rfl rfl rfl rfl ?_
                refine lx_nil ?_
                refine hK253 _ _ ?_; try clear hK253 K253
                refine A_seq fun K254 hK254 => ?_
                refine A_regC [(some 183, true), (some 187, false)] (conG Try.prog [(183, fun _ _ v_ L_ U_ => ∀ u0_, wire_Reader_End_v1_m N s10_ m9__1 m9__2 = some u0_ → (pO (List.flatten []) (Sum46.onP u0_ (oE (Value.nilIface) []) (fun y0_0 y0_1 => (oB 84 #[Value.int .i64 (y0_0), Value.int .i64 (y0_1)] fun bs_0 => (oE (Value.iface 80 (Value.pointer (some ⟨bs_0, 0, none⟩))) []))))) v_ L_ U_), (187, fun _ _ v_ L_ U_ => ∀ u0_, wire_Reader_Left_v1_m N s10_ m9__1 m9__2 = some u0_ → (pV (Value.int .i64 (u0_))) v_ L_ U_)]) ?_
                refine r_v (Value.pointer (some ⟨b119, 0, none⟩)) rfl rfl rfl rfl ?_
                replace hM := bind_sm hM; obtain ⟨r255, hr256, hM⟩ := hM
                refine r_gm (Ls := [[(b119, 69, #[s120, Value.int .i64 (m9__1), Value.int .i64 (m9__2)])], [(b126, 69, #[s127, Value.int .i64 (m11__1), Value.int .i64 (m11__2)])], [(b250, 84, #[Value.int .i64 (x248_0), Value.int .i64 (x249_1)])], Sb1_, Sdone2_, Ss10_, Ss12_]) (FL := []) (RL := [[(b119, 69, #[s120, Value.int .i64 (m9__1), Value.int .i64 (m9__2)])], [(b126, 69, #[s127, Value.int .i64 (m11__1), Value.int .i64 (m11__2)])], [(b250, 84, #[Value.int .i64 (x248_0), Value.int .i64 (x249_1)])], Sb1_, Sdone2_, Ss10_, Ss12_]) [] (Sum46.onP r255 (oE (Value.nilIface) []) (fun y0_0 y0_1 => (oB 84 #[Value.int .i64 (y0_0), Value.int .i64 (y0_1)] fun bs_0 => (oE (Value.iface 80 (Value.pointer (some ⟨bs_0, 0, none⟩))) [])))) (some 183) 15 _ rfl rfl rfl rfl rfl (ev_callF rfl call_15 rfl) (fun own_ nw_ hn_ hs_ => wire_Reader_End_v1_g N s10_ m9__1 m9__2 _ hr256 _ b119 s120 (rd_sans (Ls := [[(b119, 69, #[s120, Value.int .i64 (m9__1), Value.int .i64 (m9__2)])], [(b126, 69, #[s127, Value.int .i64 (m11__1), Value.int .i64 (m11__2)])], [(b250, 84, #[Value.int .i64 (x248_0), Value.int .i64 (x249_1)])], Sb1_, Sdone2_, Ss10_, Ss12_]) (is := []) 5 hs10_ rfl rfl hn_ hs_) (blk_sans (Ls := [[(b119, 69, #[s120, Value.int .i64 (m9__1), Value.int .i64 (m9__2)])], [(b126, 69, #[s127, Value.int .i64 (m11__1), Value.int .i64 (m11__2)])], [(b250, 84, #[Value.int .i64 (x248_0), Value.int .i64 (x249_1)])], Sb1_, Sdone2_, Ss10_, Ss12_]) (is := []) 0 rfl rfl hn_ hs_)) (fun _ _ v_ L_ U_ => ⟨fun h_ => h_ _ hr256, fun h_ => by intro _ e_; cases Option.some.inj (e_.symm.trans hr256); exact h_⟩) (fun h_ => nomatch h_) ?_
                rintro _ _ hp_
                rcases Sum46.cases r255 with hx257 | ⟨x258_0, x259_1, hx257⟩
                · obtain ⟨rfl, rfl⟩ := Sum46.onP_nil hx257 hp_
                  replace hM := Sum46.on_nil hx257 hM
                  refine lx_perm (Ls := [[(b119, 69, #[s120, Value.int .i64 (m9__1), Value.int .i64 (m9__2)])], [(b126, 69, #[s127, Value.int .i64 (m11__1), Value.int .i64 (m11__2)])], [(b250, 84, #[Value.int .i64 (x248_0), Value.int .i64 (x249_1)])], Sb1_, Sdone2_, Ss10_, Ss12_]) (Ls' := [[(b119, 69, #[s120, Value.int .i64 (m9__1), Value.int .i64 (m9__2)])], [(b126, 69, #[s127, Value.int .i64 (m11__1), Value.int .i64 (m11__2)])], [(b250, 84, #[Value.int .i64 (x248_0), Value.int .i64 (x249_1)])], Sb1_, Sdone2_, Ss10_, Ss12_]) [0, 1, 2, 3, 4, 5, 6] rfl rfl ?_
                  refine r_v (Value.bool (true)) rfl rfl rfl rfl ?_
                  refine r_v (Value.bool (true)) rfl rfl rfl rfl ?_
                  refine r_y rfl ?_
                  refine r_v (Value.pointer (some ⟨b119, 0, none⟩)) rfl rfl rfl rfl ?_
                  refine r_y rfl ?_
                  replace hM := bind_sm hM; obtain ⟨r260, hr261, hM⟩ := hM
                  refine r_gv (Value.int .i64 (r260)) 12 _ rfl rfl rfl (ev_callF rfl call_12 rfl) (fun own_ nw_ hs_ => wire_Reader_Left_v1_g N s10_ m9__1 m9__2 _ hr261 hs_.view b119 s120 ((rd_own hs10_ (mem_chunk (Ls := [[(b119, 69, #[s120, Value.int .i64 (m9__1), Value.int .i64 (m9__2)])], [(b126, 69, #[s127, Value.int .i64 (m11__1), Value.int .i64 (m11__2)])], [(b250, 84, #[Value.int .i64 (x248_0), Value.int .i64 (x249_1)])], Sb1_, Sdone2_, Ss10_, Ss12_]) (k := 5) rfl rfl)) own_ nw_ hs_) (blk_own 0 rfl rfl own_ nw_ hs_)) (fun _ _ v_ L_ U_ => ⟨fun h_ => h_ _ hr261, fun h_ => by intro _ e_; cases Option.some.inj (e_.symm.trans hr261); exact h_⟩) ?_
                  refine r_y rfl ?_
                  refine r_v (Value.bool (((r260 : Int) == 0))) rfl rfl rfl rfl ?_
                  refine r_v (Value.bool (((r260 : Int) == 0))) rfl rfl rfl rfl ?_
                  refine r_v (Value.bool (((r260 : Int) == 0))) rfl rfl rfl rfl ?_
                  rcases hg262 : (((r260 : Int) == 0)) with _ | _
                  · replace hM := ifn (ne_of_beq_false hg262) hM
                    refine r_n false rfl (by decide) rfl ?_
                    refine r_n false rfl (by decide) rfl ?_
                    refine r_n false rfl (by decide) rfl ?_
                    refine r_n false rfl (by decide) rfl ?_
                    refine r_v (Value.bool (false)) rfl rfl rfl rfl ?_
                    refine r_v (Value.bool (false)) rfl rfl rfl rfl ?_
                    refine r_n false rfl (by decide) rfl ?_
                    refine r_n false rfl (by decide) rfl ?_
                    refine r_nu rfl rfl ?_
                    refine r_nu rfl rfl ?_
                    refine r_n false rfl (by decide) rfl ?_
                    refine r_v (Value.bool (false)) rfl rfl rfl rfl ?_
                    refine r_v (Value.bool (false)) rfl rfl rfl rfl ?_
                    refine r_n false rfl (by decide) rfl ?_
                    refine r_v (Value.bool (false)) rfl rfl rfl rfl ?_
                    refine r_v (Value.bool (false)) rfl rfl rfl rfl ?_
                    refine lx_nil ?_
                    refine hK254 _ _ ?_; try clear hK254 K254
                    refine A_gen [(4, Value.bool (false))] rfl (fun T => ?_)
                    obtain rfl := Option.some.inj hM
                    refine A_ret (fun hn => endsV (v0 := Value.bool (false)) rfl (res1 rfl))
                  · replace hM := ifp (eq_of_beq hg262) hM
                    refine r_y rfl ?_
                    refine r_v (Value.int .i64 (r251.1)) rfl rfl rfl rfl ?_
                    refine r_y rfl ?_
                    refine r_v (Value.bool (((r251.1 : Int) == 0))) rfl rfl rfl rfl ?_
                    refine r_y rfl ?_
                    refine r_v (Value.bool (decide ((max (0) (cut) : Int) ≥ ((b1_).length : Int)))) rfl rfl rfl rfl ?_
                    refine r_y rfl ?_
                    refine r_v (Value.bool ((((r251.1 : Int) == 0)) == (decide ((max (0) (cut) : Int) ≥ ((b1_).length : Int))))) rfl rfl rfl (ev_binB rfl rfl rfl) ?_
                    refine r_v (Value.bool ((((r251.1 : Int) == 0)) == (decide ((max (0) (cut) : Int) ≥ ((b1_).length : Int))))) rfl rfl rfl rfl ?_
                    refine r_v (Value.bool ((((r251.1 : Int) == 0)) == (decide ((max (0) (cut) : Int) ≥ ((b1_).length : Int))))) rfl rfl rfl rfl ?_
                    rcases hg263 : ((((r251.1 : Int) == 0)) == (decide ((max (0) (cut) : Int) ≥ ((b1_).length : Int)))) with _ | _
                    · replace hM := ifn (ne_of_beq_false hg263) hM
                      refine r_n false rfl (by decide) rfl ?_
                      refine r_n false rfl (by decide) rfl ?_
                      refine r_nu rfl rfl ?_
                      refine r_nu rfl rfl ?_
                      refine r_n false rfl (by decide) rfl ?_
                      refine r_v (Value.bool (false)) rfl rfl rfl rfl ?_
                      refine r_v (Value.bool (false)) rfl rfl rfl rfl ?_
                      refine r_n false rfl (by decide) rfl ?_
                      refine r_v (Value.bool (false)) rfl rfl rfl rfl ?_
                      refine r_v (Value.bool (false)) rfl rfl rfl rfl ?_
                      refine lx_nil ?_
                      refine hK254 _ _ ?_; try clear hK254 K254
                      refine A_gen [(4, Value.bool (false))] rfl (fun T => ?_)
                      obtain rfl := Option.some.inj hM
                      refine A_ret (fun hn => endsV (v0 := Value.bool (false)) rfl (res1 rfl))
                    · replace hM := ifp (eq_of_beq hg263) hM
                      refine r_y rfl ?_
                      refine r_v (Value.bool (decide ((max (0) (cut) : Int) ≥ ((b1_).length : Int)))) rfl rfl rfl rfl ?_
                      refine r_y rfl ?_
                      refine r_v (Value.bool (decide ((max (0) (cut) : Int) ≥ ((b1_).length : Int)))) rfl rfl rfl rfl ?_
                      rcases hg264 : (decide ((max (0) (cut) : Int) ≥ ((b1_).length : Int))) with _ | _
                      · replace hM := ifn (of_decide_eq_false hg264) hM
                        refine r_y rfl ?_
                        refine r_v (Value.int .i64 (r251.1)) rfl rfl rfl rfl ?_
                        refine r_y rfl ?_
                        refine r_v (Value.bool (((r251.1 : Int) == 3))) rfl rfl rfl rfl ?_
                        refine r_y rfl ?_
                        refine r_v (Value.bool (((r251.1 : Int) == 3))) rfl rfl rfl rfl ?_
                        refine r_v (Value.bool (((r251.1 : Int) == 3))) rfl rfl rfl rfl ?_
                        refine r_v (Value.bool (((r251.1 : Int) == 3))) rfl rfl rfl rfl ?_
                        rcases hg265 : (((r251.1 : Int) == 3)) with _ | _
                        · replace hM := ifn (ne_of_beq_false hg265) hM
                          refine r_n false rfl (by decide) rfl ?_
                          refine r_v (Value.bool (false)) rfl rfl rfl rfl ?_
                          refine r_v (Value.bool (false)) rfl rfl rfl rfl ?_
                          refine lx_nil ?_
                          refine hK254 _ _ ?_; try clear hK254 K254
                          refine A_gen [(4, Value.bool (false))] rfl (fun T => ?_)
                          obtain rfl := Option.some.inj hM
                          refine A_ret (fun hn => endsV (v0 := Value.bool (false)) rfl (res1 rfl))
                        · replace hM := ifp (eq_of_beq hg265) hM
                          refine r_y rfl ?_
                          replace hM := bind_sm hM; obtain ⟨r266, hr267, hM⟩ := hM
                          refine r_c (Value.bool (r266)) rfl _ _ (ev_callF rfl call_7 rfl) (shunterlaw07_lives_g N  _ hr267) ?_
                          refine r_v (Value.bool (r266)) rfl rfl rfl rfl ?_
                          refine r_v (Value.bool (r266)) rfl rfl rfl rfl ?_
                          refine lx_nil ?_
                          refine hK254 _ _ ?_; try clear hK254 K254
                          refine A_gen [(4, Value.bool (r266))] rfl (fun T => ?_)
                          obtain rfl := Option.some.inj hM
                          refine A_ret (fun hn => endsV (v0 := Value.bool (r266)) rfl (res1 rfl))
                      · replace hM := ifp (of_decide_eq_true hg264) hM
                        refine r_n true rfl (by decide) rfl ?_
                        refine r_n true rfl (by decide) rfl ?_
                        refine r_y rfl ?_
                        refine r_v (Value.bool (true)) rfl rfl rfl rfl ?_
                        refine r_v (Value.bool (true)) rfl rfl rfl rfl ?_
                        refine r_v (Value.bool (true)) rfl rfl rfl rfl ?_
                        refine r_y rfl ?_
                        replace hM := bind_sm hM; obtain ⟨r268, hr269, hM⟩ := hM
                        refine r_c (Value.bool (r268)) rfl _ _ (ev_callF rfl call_7 rfl) (shunterlaw07_lives_g N  _ hr269) ?_
                        refine r_v (Value.bool (r268)) rfl rfl rfl rfl ?_
                        refine r_v (Value.bool (r268)) rfl rfl rfl rfl ?_
                        refine lx_nil ?_
                        refine hK254 _ _ ?_; try clear hK254 K254
                        refine A_gen [(4, Value.bool (r268))] rfl (fun T => ?_)
                        obtain rfl := Option.some.inj hM
                        refine A_ret (fun hn => endsV (v0 := Value.bool (r268)) rfl (res1 rfl))
                · obtain ⟨b260, _, ⟨rfl, rfl⟩, rfl⟩ := Sum46.onP_t80 hx257 hp_
                  replace hM := Sum46.on_t80 hx257 hM
                  refine lx_perm (Ls := [[(b119, 69, #[s120, Value.int .i64 (m9__1), Value.int .i64 (m9__2)])], [(b126, 69, #[s127, Value.int .i64 (m11__1), Value.int .i64 (m11__2)])], [(b250, 84, #[Value.int .i64 (x248_0), Value.int .i64 (x249_1)])], Sb1_, Sdone2_, Ss10_, Ss12_, [(b260, 84, #[Value.int .i64 (x258_0), Value.int .i64 (x259_1)])]]) (Ls' := [[(b119, 69, #[s120, Value.int .i64 (m9__1), Value.int .i64 (m9__2)])], [(b126, 69, #[s127, Value.int .i64 (m11__1), Value.int .i64 (m11__2)])], [(b250, 84, #[Value.int .i64 (x248_0), Value.int .i64 (x249_1)])], [(b260, 84, #[Value.int .i64 (x258_0), Value.int .i64 (x259_1)])], Sb1_, Sdone2_, Ss10_, Ss12_]) [0, 1, 2, 7, 3, 4, 5, 6] rfl rfl ?_
                  refine r_v (Value.bool (false)) rfl rfl rfl rfl ?_
                  refine r_v (Value.bool (false)) rfl rfl rfl rfl ?_
                  refine r_n false rfl (by decide) rfl ?_
                  refine r_n false rfl (by decide) rfl ?_
                  refine r_n false rfl (by decide) rfl ?_
                  refine r_v (Value.bool (false)) rfl rfl rfl rfl ?_
                  refine r_v (Value.bool (false)) rfl rfl rfl rfl ?_
                  refine r_n false rfl (by decide) rfl ?_
                  refine r_n false rfl (by decide) rfl ?_
                  refine r_n false rfl (by decide) rfl ?_
                  refine r_n false rfl (by decide) rfl ?_
                  refine r_v (Value.bool (false)) rfl rfl rfl rfl ?_
                  refine r_v (Value.bool (false)) rfl rfl rfl rfl ?_
                  refine r_n false rfl (by decide) rfl ?_
                  refine r_n false rfl (by decide) rfl ?_
                  refine r_nu rfl rfl ?_
                  refine r_nu rfl rfl ?_
                  refine r_n false rfl (by decide) rfl ?_
                  refine r_v (Value.bool (false)) rfl rfl rfl rfl ?_
                  refine r_v (Value.bool (false)) rfl rfl rfl rfl ?_
                  refine r_n false rfl (by decide) rfl ?_
                  refine r_v (Value.bool (false)) rfl rfl rfl rfl ?_
                  refine r_v (Value.bool (false)) rfl rfl rfl rfl ?_
                  refine lx_nil ?_
                  refine hK254 _ _ ?_; try clear hK254 K254
                  refine A_gen [(4, Value.bool (false))] rfl (fun T => ?_)
                  obtain rfl := Option.some.inj hM
                  refine A_ret (fun hn => endsV (v0 := Value.bool (false)) rfl (res1 rfl))
end Go.Proofs.Ytdgejbbelmhbdaa
