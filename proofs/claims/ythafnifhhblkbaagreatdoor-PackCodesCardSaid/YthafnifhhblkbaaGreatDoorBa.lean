import Derived.Test.YthafnifhhblkbaaGreatDoorIt
import Derived.Test.YthafnifhhblkbaaGreatDoorYt
import Derived.Test.YthafnifhhblkbaaGreatDoorAs
import Derived.Test.YthafnifhhblkbaaGreatDoorMove
import Derived.Test.YthafnifhhblkbaaGreatDoorGx
import Derived.Test.YthafnifhhblkbaaGreatDoorMd
import Derived.Test.YthafnifhhblkbaaGreatDoorSr
set_option linter.unusedSimpArgs false
set_option linter.unusedVariables false
namespace Go.Proofs.YthafnifhhblkbaaGreatDoor
open Go Go.RowKit Go.Eng _root_.Go.Proofs.Tryz
set_option maxRecDepth 100000
set_option maxHeartbeats 8000000
abbrev OT (b : Nat) (x0 : Value) (x1 : Value) (x2 : Value) (x3 : Value) (x4 : Value) (x5 : Value) (x6 : Value) (x7 : Value) (x8 : Value) (x9 : Value) (x10 : Value) (x11 : Value) (x12 : Value) (x13 : Value) (x14 : Value) (x15 : Int) (x16 : Int) (x17 : Int) : List Bl := [(b, 35, #[x0, x1, x2, x3, x4, x5, x6, x7, x8, x9, x10, x11, x12, x13, x14, vI x15, vI x16, vI x17])]
abbrev Vu (b : Nat) (x0 : List UInt8) (x1 : Value) (x2 : Int) (x3 : Int) (x4 : Int) (x5 : Int) : List Bl := [(b, 68, #[vS x0, x1, vI x2, vI x3, vI x4, vI x5])]
abbrev ZE (b : Nat) (x0 : Value) : List Bl := [(b, 24, #[x0])]
abbrev Am (b : Nat) (x0 : Value) (x1 : Value) : List Bl := [(b, 453, #[x0, x1])]
abbrev ZD (b : Nat) (x0 : List UInt8) (x1 : Int) : List Bl := [(b, 66, #[vS x0, vI x1])]
theorem Uz (c : UInt8) : ∀ s : List UInt8, Lib.index s [c] = Lib.indexByte s c
  | [] => rfl
  | b :: l => by
    rw [Lib.index, Lib.indexByte, Uz c l]
    by_cases h : c = b
    · subst h; simp [List.isPrefixOf]
    · have h2 : ¬ b = c := fun e => h e.symm
      simp [List.isPrefixOf, h, h2]
theorem cf (s sep : List UInt8) (h : sep.length = 1) : Gives prog 393 #[.string ⟨s.toArray⟩, .string ⟨sep.toArray⟩] (.int .i64 (Lib.index s sep)) := by
 obtain ⟨c, rfl⟩ := List.length_eq_one_iff.mp h
 rw [Uz]
 exact Gives.of_same (fun w => Tryz.stringslite_Index_one ⟨s.toArray⟩ c w)
def enc_56 : Enc (Int × Int × Int × Int × BitVec 128) := ⟨fun x => [vI x.1, vI x.2.1, vI x.2.2.1, vI x.2.2.2.1, U (hi x.2.2.2.2), U (lo x.2.2.2.2)], 6, by decide, fun _ => rfl, fun x v h => by simp only [List.mem_cons, List.not_mem_nil, or_false] at h; rcases h with rfl | rfl | rfl | rfl | rfl | rfl <;> rfl, True⟩
def BQ : Enc (List UInt8 × Int) := ⟨fun x => [vS x.1, vI x.2], 2, by decide, fun _ => rfl, fun x v h => by simp only [List.mem_cons, List.not_mem_nil, or_false] at h; rcases h with rfl | rfl <;> rfl, True⟩
def IB : Enc (List UInt8 × Int × Int) := ⟨fun x => [vS x.1, vI x.2.1, vI x.2.2], 3, by decide, fun _ => rfl, fun x v h => by simp only [List.mem_cons, List.not_mem_nil, or_false] at h; rcases h with rfl | rfl | rfl <;> rfl, True⟩
def JQ : Enc (Int × Int) := ⟨fun x => [vI x.1, vI x.2], 2, by decide, fun _ => rfl, fun x v h => by simp only [List.mem_cons, List.not_mem_nil, or_false] at h; rcases h with rfl | rfl <;> rfl, True⟩
def DO : Enc (Int × Int × Int) := ⟨fun x => [vI x.1, vI x.2.1, vI x.2.2], 3, by decide, fun _ => rfl, fun x v h => by simp only [List.mem_cons, List.not_mem_nil, or_false] at h; rcases h with rfl | rfl | rfl <;> rfl, True⟩
def JP : Enc (Int × BitVec 128 × Int × BitVec 128 × Int) := ⟨fun x => [vI x.1, U (hi x.2.1), U (lo x.2.1), vI x.2.2.1, U (hi x.2.2.2.1), U (lo x.2.2.2.1), vI x.2.2.2.2], 7, by decide, fun _ => rfl, fun x v h => by simp only [List.mem_cons, List.not_mem_nil, or_false] at h; rcases h with rfl | rfl | rfl | rfl | rfl | rfl | rfl <;> rfl, True⟩
def enc_54 : Enc (Int × BitVec 128) := ⟨fun x => [vI x.1, U (hi x.2), U (lo x.2)], 3, by decide, fun _ => rfl, fun x v h => by simp only [List.mem_cons, List.not_mem_nil, or_false] at h; rcases h with rfl | rfl | rfl <;> rfl, True⟩
def JR : Enc (Int × Int) := ⟨fun x => [vI x.1, vI x.2], 2, by decide, fun _ => rfl, fun x v h => by simp only [List.mem_cons, List.not_mem_nil, or_false] at h; rcases h with rfl | rfl <;> rfl, True⟩
def Lf : Enc (List UInt8 × Int × Int) := ⟨fun x => [vS x.1, vI x.2.1, vI x.2.2], 3, by decide, fun _ => rfl, fun x v h => by simp only [List.mem_cons, List.not_mem_nil, or_false] at h; rcases h with rfl | rfl | rfl <;> rfl, True⟩
def Le : Enc (List UInt8 × Int) := ⟨fun x => [vS x.1, vI x.2], 2, by decide, fun _ => rfl, fun x v h => by simp only [List.mem_cons, List.not_mem_nil, or_false] at h; rcases h with rfl | rfl <;> rfl, True⟩
def Ld : Enc (List UInt8 × Int × Int × Int) := ⟨fun x => [vS x.1, vI x.2.1, vI x.2.2.1, vI x.2.2.2], 4, by decide, fun _ => rfl, fun x v h => by simp only [List.mem_cons, List.not_mem_nil, or_false] at h; rcases h with rfl | rfl | rfl | rfl <;> rfl, True⟩
def NC : Enc (List UInt8 × Int × Int × Int × Int × Int × Int × Int × List UInt8) := ⟨fun x => [vS x.1, vI x.2.1, vI x.2.2.1, vI x.2.2.2.1, vI x.2.2.2.2.1, vI x.2.2.2.2.2.1, vI x.2.2.2.2.2.2.1, vI x.2.2.2.2.2.2.2.1, vS x.2.2.2.2.2.2.2.2], 9, by decide, fun _ => rfl, fun x v h => by simp only [List.mem_cons, List.not_mem_nil, or_false] at h; rcases h with rfl | rfl | rfl | rfl | rfl | rfl | rfl | rfl | rfl <;> rfl, True⟩
def Hl : Nl ((List UInt8) × (List (List UInt8 × Int)) × Int × Int × Int × Int) := ⟨fun c x vs => ∃ (s0 : Value), Rd BQ c s0 x.2.1 ∧ vs = [vS x.1, s0, vI x.2.2.1, vI x.2.2.2.1, vI x.2.2.2.2.1, vI x.2.2.2.2.2], 6, by decide, fun hc ⟨s0, h0, hv⟩ => ⟨s0, h0.mono hc, hv⟩⟩
def Im : Nl ((List UInt8) × (List (Int × Int)) × (List (Int × Int × Int)) × (List (Int × BitVec 128 × Int × BitVec 128 × Int)) × Int) := ⟨fun c x vs => ∃ (s0 : Value) (s1 : Value) (s2 : Value), Rd JQ c s0 x.2.1 ∧ Rd DO c s1 x.2.2.1 ∧ Rd JP c s2 x.2.2.2.1 ∧ vs = [vS x.1, s0, s1, s2, vI x.2.2.2.2], 5, by decide, fun hc ⟨s0, s1, s2, h0, h1, h2, hv⟩ => ⟨s0, s1, s2, h0.mono hc, h1.mono hc, h2.mono hc, hv⟩⟩
def Hk : Nl ((List UInt8) × (List Int) × (List (Int × Int × Int × Int × BitVec 128))) := ⟨fun c x vs => ∃ (s0 : Value) (s1 : Value), Rd Bf c s0 x.2.1 ∧ Rd enc_56 c s1 x.2.2 ∧ vs = [vS x.1, s0, s1], 3, by decide, fun hc ⟨s0, s1, h0, h1, hv⟩ => ⟨s0, s1, h0.mono hc, h1.mono hc, hv⟩⟩
def Il : Nl ((List UInt8) × Int × (List (Int × Int × Int)) × (List Int) × Int × (List (Int × BitVec 128)) × Int) := ⟨fun c x vs => ∃ (s0 : Value) (s1 : Value) (s2 : Value), Rd DO c s0 x.2.2.1 ∧ Rd Bf c s1 x.2.2.2.1 ∧ Rd enc_54 c s2 x.2.2.2.2.2.1 ∧ vs = [vS x.1, vI x.2.1, s0, s1, vI x.2.2.2.2.1, s2, vI x.2.2.2.2.2.2], 7, by decide, fun hc ⟨s0, s1, s2, h0, h1, h2, hv⟩ => ⟨s0, s1, s2, h0.mono hc, h1.mono hc, h2.mono hc, hv⟩⟩
def Fc : Nl (Int × Int × (List (Int × Int × Int × Int × BitVec 128)) × (List (Int × BitVec 128)) × Int × Int) := ⟨fun c x vs => ∃ (s0 : Value) (s1 : Value), Rd enc_56 c s0 x.2.2.1 ∧ Rd enc_54 c s1 x.2.2.2.1 ∧ vs = [vI x.1, vI x.2.1, s0, s1, vI x.2.2.2.2.1, vI x.2.2.2.2.2], 6, by decide, fun hc ⟨s0, s1, h0, h1, hv⟩ => ⟨s0, s1, h0.mono hc, h1.mono hc, hv⟩⟩
abbrev AN : Type := (List UInt8) × (List ((List UInt8) × (List (List UInt8 × Int)) × Int × Int × Int × Int)) × (List (List UInt8 × Int × Int)) × (List (List UInt8 × Int)) × (List ((List UInt8) × (List (Int × Int)) × (List (Int × Int × Int)) × (List (Int × BitVec 128 × Int × BitVec 128 × Int)) × Int)) × (List ((List UInt8) × (List Int) × (List (Int × Int × Int × Int × BitVec 128)))) × (List ((List UInt8) × Int × (List (Int × Int × Int)) × (List Int) × Int × (List (Int × BitVec 128)) × Int)) × (List (Int × Int × (List (Int × Int × Int × Int × BitVec 128)) × (List (Int × BitVec 128)) × Int × Int)) × (List (Int × Int × (List (Int × Int × Int × Int × BitVec 128)) × (List (Int × BitVec 128)) × Int × Int)) × (List Int) × (List (Int × Int)) × (List (Int × Int)) × (List (List UInt8 × Int × Int)) × (List (List UInt8 × Int)) × (List (List UInt8 × Int × Int × Int)) × Int × Int × Int
abbrev AH : Type := Value × Value × Value × Value × Value × Value × Value × Value × Value × Value × Value × Value × Value × Value
abbrev DA (m : AN) (v : AH) : List Value := [vS m.1, v.1, v.2.1, v.2.2.1, v.2.2.2.1, v.2.2.2.2.1, v.2.2.2.2.2.1, v.2.2.2.2.2.2.1, v.2.2.2.2.2.2.2.1, v.2.2.2.2.2.2.2.2.1, v.2.2.2.2.2.2.2.2.2.1, v.2.2.2.2.2.2.2.2.2.2.1, v.2.2.2.2.2.2.2.2.2.2.2.1, v.2.2.2.2.2.2.2.2.2.2.2.2.1, v.2.2.2.2.2.2.2.2.2.2.2.2.2, vI m.2.2.2.2.2.2.2.2.2.2.2.2.2.2.2.1, vI m.2.2.2.2.2.2.2.2.2.2.2.2.2.2.2.2.1, vI m.2.2.2.2.2.2.2.2.2.2.2.2.2.2.2.2.2]
abbrev Ag (m : AN) (v : AH) : Array Value := (DA m v).toArray
abbrev Bun35R (ro : Ro) (v : AH) (m : AN) : Prop := RdN Hl ro v.1 m.2.1 ∧ Rd IB ro v.2.1 m.2.2.1 ∧ Rd BQ ro v.2.2.1 m.2.2.2.1 ∧ RdN Im ro v.2.2.2.1 m.2.2.2.2.1 ∧ RdN Hk ro v.2.2.2.2.1 m.2.2.2.2.2.1 ∧ RdN Il ro v.2.2.2.2.2.1 m.2.2.2.2.2.2.1 ∧ RdN Fc ro v.2.2.2.2.2.2.1 m.2.2.2.2.2.2.2.1 ∧ RdN Fc ro v.2.2.2.2.2.2.2.1 m.2.2.2.2.2.2.2.2.1 ∧ Rd Bf ro v.2.2.2.2.2.2.2.2.1 m.2.2.2.2.2.2.2.2.2.1 ∧ Rd JR ro v.2.2.2.2.2.2.2.2.2.1 m.2.2.2.2.2.2.2.2.2.2.1 ∧ Rd JR ro v.2.2.2.2.2.2.2.2.2.2.1 m.2.2.2.2.2.2.2.2.2.2.2.1 ∧ Rd Lf ro v.2.2.2.2.2.2.2.2.2.2.2.1 m.2.2.2.2.2.2.2.2.2.2.2.2.1 ∧ Rd Le ro v.2.2.2.2.2.2.2.2.2.2.2.2.1 m.2.2.2.2.2.2.2.2.2.2.2.2.2.1 ∧ Rd Ld ro v.2.2.2.2.2.2.2.2.2.2.2.2.2 m.2.2.2.2.2.2.2.2.2.2.2.2.2.2.1
theorem Bun35R.mono  {c c' : Addr → Option Value} {v : AH} {m : AN} (hc : ∀ a v, c a = some v → c' a = some v) (h : Bun35R c v m) : Bun35R c' v m := ⟨RdN.mono hc h.1, Rd.mono hc h.2.1, Rd.mono hc h.2.2.1, RdN.mono hc h.2.2.2.1, RdN.mono hc h.2.2.2.2.1, RdN.mono hc h.2.2.2.2.2.1, RdN.mono hc h.2.2.2.2.2.2.1, RdN.mono hc h.2.2.2.2.2.2.2.1, Rd.mono hc h.2.2.2.2.2.2.2.2.1, Rd.mono hc h.2.2.2.2.2.2.2.2.2.1, Rd.mono hc h.2.2.2.2.2.2.2.2.2.2.1, Rd.mono hc h.2.2.2.2.2.2.2.2.2.2.2.1, Rd.mono hc h.2.2.2.2.2.2.2.2.2.2.2.2.1, Rd.mono hc h.2.2.2.2.2.2.2.2.2.2.2.2.2⟩
def DH : Nl (List UInt8) := ⟨fun c x vs => ∃ (s0 : Value), Rd encY c s0 x ∧ vs = [s0], 1, by decide, fun hc ⟨s0, h0, hv⟩ => ⟨s0, h0.mono hc, hv⟩⟩
abbrev Ng : EncO (Int × Int × (List (Int × Int × Int × Int × BitVec 128)) × (List (Int × BitVec 128)) × Int × Int) := (Gf (Jq Bf) (Gf (Jq Bf) (Gf (AD 56 enc_56) (Gf (AD 54 enc_54) (Gf (Jq Bf) (Jq Bf))))))
abbrev VP : EncO ((List UInt8) × Int × (List (Int × Int × Int)) × (List Int) × Int × (List (Int × BitVec 128)) × Int) := (Gf (Jq Bz) (Gf (Jq Bf) (Gf (AD 204 DO) (Gf (AD 3 Bf) (Gf (Jq Bf) (Gf (AD 54 enc_54) (Jq Bf)))))))
abbrev VQ : EncO ((List UInt8) × (List Int) × (List (Int × Int × Int × Int × BitVec 128))) := (Gf (Jq Bz) (Gf (AD 3 Bf) (AD 56 enc_56)))
abbrev Lb : EncO ((List UInt8) × (List (Int × Int)) × (List (Int × Int × Int)) × (List (Int × BitVec 128 × Int × BitVec 128 × Int)) × Int) := (Gf (Jq Bz) (Gf (AD 199 JQ) (Gf (AD 204 DO) (Gf (AD 201 JP) (Jq Bf)))))
abbrev Lc : EncO ((List UInt8) × (List (List UInt8 × Int)) × Int × Int × Int × Int) := (Gf (Jq Bz) (Gf (AD 66 BQ) (Gf (Jq Bf) (Gf (Jq Bf) (Gf (Jq Bf) (Jq Bf))))))
def Er (_ : Nat) : Option ((List UInt8) × (List ((List UInt8) × (List (List UInt8 × Int)) × Int × Int × Int × Int)) × (List (List UInt8 × Int × Int)) × (List (List UInt8 × Int)) × (List ((List UInt8) × (List (Int × Int)) × (List (Int × Int × Int)) × (List (Int × BitVec 128 × Int × BitVec 128 × Int)) × Int)) × (List ((List UInt8) × (List Int) × (List (Int × Int × Int × Int × BitVec 128)))) × (List ((List UInt8) × Int × (List (Int × Int × Int)) × (List Int) × Int × (List (Int × BitVec 128)) × Int)) × (List (Int × Int × (List (Int × Int × Int × Int × BitVec 128)) × (List (Int × BitVec 128)) × Int × Int)) × (List (Int × Int × (List (Int × Int × Int × Int × BitVec 128)) × (List (Int × BitVec 128)) × Int × Int)) × (List Int) × (List (Int × Int)) × (List (Int × Int)) × (List (List UInt8 × Int × Int)) × (List (List UInt8 × Int)) × (List (List UInt8 × Int × Int × Int)) × Int × Int × Int) := some (([109] : List UInt8), [], [], [], [(([115] : List UInt8), [], [], [], -1)], [], [], [], [], [], [], [], [], [], [], 1, 1, 0)
theorem ME (N r) (hM : Er N = some r) (ro : Ro) : Does prog 21 #[] ro [] (pO [] (oSO 68 Lc r.2.1 fun s_0 => (oS 70 IB r.2.2.1 fun s_1 => (oS 66 BQ r.2.2.2.1 fun s_2 => (oSO 85 Lb r.2.2.2.2.1 fun s_3 => (oSO 87 VQ r.2.2.2.2.2.1 fun s_4 => (oSO 94 VP r.2.2.2.2.2.2.1 fun s_5 => (oSO 128 Ng r.2.2.2.2.2.2.2.1 fun s_6 => (oSO 128 Ng r.2.2.2.2.2.2.2.2.1 fun s_7 => (oS 3 Bf r.2.2.2.2.2.2.2.2.2.1 fun s_8 => (oS 133 JR r.2.2.2.2.2.2.2.2.2.2.1 fun s_9 => (oS 133 JR r.2.2.2.2.2.2.2.2.2.2.2.1 fun s_10 => (oS 100 Lf r.2.2.2.2.2.2.2.2.2.2.2.2.1 fun s_11 => (oS 102 Le r.2.2.2.2.2.2.2.2.2.2.2.2.2.1 fun s_12 => (oS 104 Ld r.2.2.2.2.2.2.2.2.2.2.2.2.2.2.1 fun s_13 => (oE (vA #[vS r.1, s_0, s_1, s_2, s_3, s_4, s_5, s_6, s_7, s_8, s_9, s_10, s_11, s_12, s_13, vI r.2.2.2.2.2.2.2.2.2.2.2.2.2.2.2.1, vI r.2.2.2.2.2.2.2.2.2.2.2.2.2.2.2.2.1, vI r.2.2.2.2.2.2.2.2.2.2.2.2.2.2.2.2.2]) [])))))))))))))))) := by
 unfold Er at hM
 refine BU follows func21 rfl 4 rfl _ fz0 (fun _ _ h_ _ => h_) (fun base0_ => ?_)
 refine Ai <| rA rfl fun b2 => As <| A_sc [(some 2, false)] (conG prog []) <| r_W (vA #[Value.string (⟨#[115]⟩), nS, nS, nS, vI (-1)]) rfl (An rfl rfl rfl rfl) ?_
 have hR4 : (Lb).R (([115] : List UInt8), [], [], [], -1) [Value.string (⟨#[115]⟩), nS, nS, nS, vI (-1)] ([]) := (by have h_ := (In (Ku (E := Bz) ([115] : List UInt8)) (In (Bi (e := 199) (E := JQ) Sl.nil) (In (Bi (e := 204) (E := DO) Sl.nil) (In (Bi (e := 201) (E := JP) Sl.nil) (Ku (E := Bf) (-1)))))); exact EncO.cast h_ (by first | rfl | simp only [List.nil_append, List.append_nil, List.append_assoc]))
 refine BF (cs0 := []) (Ls := [(OT b2 (Value.string (⟨#[]⟩)) nS nS nS nS nS nS nS nS nS nS nS nS nS nS 0 0 0)]) 85 (EncO.raw Lb) [EncO.of Lb hR4] [Value.string (⟨#[115]⟩), nS, nS, nS, vI (-1)] [Value.string (⟨#[]⟩), nS, nS, nS, vI 0] rfl rfl rfl rfl rfl rfl rfl (by kernel_rfl) ((CN _ _ _ _ (Bj rfl Ei)).trans (by kernel_rfl)) rfl rfl rfl (fun s5 S6 H7 => ?_)
 refine Ee (Ls := [(OT b2 (Value.string (⟨#[]⟩)) nS nS nS nS nS nS nS nS nS nS nS nS nS nS 0 0 0), S6]) (p := fun S_ => SlO 85 Lb s5 ([(([115] : List UInt8), [], [], [], -1)]) S_) 1 rfl (SlO.cast (⟨_, _, _, H7, (Items.one hR4), rfl⟩ : SlO 85 Lb s5 [(([115] : List UInt8), [], [], [], -1)] _) (by first | rfl | simp only [List.nil_append, List.append_nil, List.append_assoc])) (fun S8 H9 => ?_)
 refine r_W (vA #[Value.string (⟨#[109]⟩), nS, nS, nS, s5, nS, nS, nS, nS, nS, nS, nS, nS, nS, nS, vI 1, vI 1, vI 0]) rfl (Ol rfl rfl rfl (Bj rfl (Bj (AI rfl (SlO.shp H9)) (Bj rfl (Bj rfl Ei)))) rfl) ?_
 refine r_s (List.flatten [(OT b2 (Value.string (⟨#[109]⟩)) nS nS nS s5 nS nS nS nS nS nS nS nS nS nS 1 1 0), S8]) 0 _ _ _ _ _ (#[Value.string (⟨#[109]⟩), nS, nS, nS, s5, nS, nS, nS, nS, nS, nS, nS, nS, nS, nS, vI 1, vI 1, vI 0]) rfl rfl rfl rfl (.ofS rfl rfl (Ab rfl (Ab (Shp.one (.inl ⟨rfl, rfl⟩)) (Ab (Shp.one (.inl ⟨rfl, rfl⟩)) (Ab (Shp.one (.inl ⟨rfl, rfl⟩)) (Ab (Shp.one (SlO.shp H9)) (Ab (Shp.one (.inl ⟨rfl, rfl⟩)) (Ab (Shp.one (.inl ⟨rfl, rfl⟩)) (Ab (Shp.one (.inl ⟨rfl, rfl⟩)) (Ab (Shp.one (.inl ⟨rfl, rfl⟩)) (Ab (Shp.one (.inl ⟨rfl, rfl⟩)) (Ab (Shp.one (.inl ⟨rfl, rfl⟩)) (Ab (Shp.one (.inl ⟨rfl, rfl⟩)) (Ab (Shp.one (.inl ⟨rfl, rfl⟩)) (Ab (Shp.one (.inl ⟨rfl, rfl⟩)) (Ab (Shp.one (.inl ⟨rfl, rfl⟩)) (Ab rfl (Ab rfl (Ab rfl Bh))))))))))))))))))) rfl rfl ?_
 refine As ?_
 cases hM
 refine Au (fun hn => Ge (v0 := vA #[Value.string (⟨#[109]⟩), nS, nS, nS, s5, nS, nS, nS, nS, nS, nS, nS, nS, nS, nS, vI 1, vI 1, vI 0]) (O := [[], [], [], S8, [], [], [], [], [], [], [], [], [], []]) (AV (Bc hn 0 rfl rfl rfl)) (Sub.pickE (Ls := [(OT b2 (Value.string (⟨#[109]⟩)) nS nS nS s5 nS nS nS nS nS nS nS nS nS nS 1 1 0), S8, [], [], [], [], [], [], [], [], [], [], [], [], []]) (Ls0 := [(OT b2 (Value.string (⟨#[109]⟩)) nS nS nS s5 nS nS nS nS nS nS nS nS nS nS 1 1 0), S8]) rfl [2, 3, 4, 1, 5, 6, 7, 8, 9, 10, 11, 12, 13, 14] rfl) ⟨nS, [], _, SlO.nil, ⟨nS, [], _, Sl.nil, ⟨nS, [], _, Sl.nil, ⟨s5, S8, _, H9, ⟨nS, [], _, SlO.nil, ⟨nS, [], _, SlO.nil, ⟨nS, [], _, SlO.nil, ⟨nS, [], _, SlO.nil, ⟨nS, [], _, Sl.nil, ⟨nS, [], _, Sl.nil, ⟨nS, [], _, Sl.nil, ⟨nS, [], _, Sl.nil, ⟨nS, [], _, Sl.nil, ⟨nS, [], _, Sl.nil, ⟨rfl, rfl⟩, rfl⟩, rfl⟩, rfl⟩, rfl⟩, rfl⟩, rfl⟩, rfl⟩, rfl⟩, rfl⟩, rfl⟩, rfl⟩, rfl⟩, rfl⟩, rfl⟩)
def EE : List Fv := [⟨vF 95 #[] #[], rfl⟩, ⟨vF 96 #[] #[], rfl⟩, ⟨vF 99 #[] #[], rfl⟩, ⟨vF 102 #[] #[], rfl⟩, ⟨vF 105 #[] #[], rfl⟩, ⟨vF 108 #[] #[], rfl⟩, ⟨vF 111 #[] #[], rfl⟩, ⟨vF 114 #[] #[], rfl⟩, ⟨vF 117 #[] #[], rfl⟩, ⟨vF 118 #[] #[], rfl⟩, ⟨vF 120 #[] #[], rfl⟩, ⟨vF 123 #[] #[], rfl⟩, ⟨vF 124 #[] #[], rfl⟩, ⟨vF 127 #[] #[], rfl⟩, ⟨vF 130 #[] #[], rfl⟩]
def Jv (_ : Nat) : Option Unit := some ()
theorem Qy (N r) (hM : Jv N = some r) (ro : Ro) : Does prog 28 #[] ro [] (p1 (fun s_ => s_) 45 NQ EE) := by
 unfold Jv at hM
 refine Ac follows func28 rfl 2 rfl _ fz0 (fun base0_ => ?_)
 refine AZ rfl <| A_sc [(some 1, false)] (conG prog []) ?_
 refine BF (cs0 := []) (Ls := []) 45 NQ EE [vF 95 #[] #[], vF 96 #[] #[], vF 99 #[] #[], vF 102 #[] #[], vF 105 #[] #[], vF 108 #[] #[], vF 111 #[] #[], vF 114 #[] #[], vF 117 #[] #[], vF 118 #[] #[], vF 120 #[] #[], vF 123 #[] #[], vF 124 #[] #[], vF 127 #[] #[], vF 130 #[] #[]] [Value.nilFunc, Value.nilFunc, Value.nilFunc, Value.nilFunc, Value.nilFunc, Value.nilFunc, Value.nilFunc, Value.nilFunc, Value.nilFunc, Value.nilFunc, Value.nilFunc, Value.nilFunc, Value.nilFunc, Value.nilFunc, Value.nilFunc] rfl rfl rfl rfl rfl rfl rfl (by kernel_rfl) (by kernel_rfl) rfl rfl rfl (fun s3 S4 H5 => ?_)
 refine rz rfl ?_
 cases hM
 refine Au (fun hn => AG (v0 := s3) H5 (Aw (Sub.pick [S4] [0] rfl)) rfl (AV rfl))
def GJ (a0 : Value) : List Fv := [⟨vF 193 #[a0] #[], rfl⟩, ⟨vF 194 #[a0] #[], rfl⟩, ⟨vF 195 #[a0] #[], rfl⟩, ⟨vF 196 #[a0] #[], rfl⟩, ⟨vF 197 #[a0] #[], rfl⟩, ⟨vF 198 #[a0] #[], rfl⟩, ⟨vF 199 #[a0] #[], rfl⟩, ⟨vF 200 #[a0] #[], rfl⟩, ⟨vF 201 #[a0] #[], rfl⟩, ⟨vF 202 #[a0] #[], rfl⟩, ⟨vF 203 #[a0] #[], rfl⟩, ⟨vF 204 #[a0] #[], rfl⟩, ⟨vF 205 #[a0] #[], rfl⟩, ⟨vF 206 #[a0] #[], rfl⟩, ⟨vF 207 #[a0] #[], rfl⟩]
def Mg (_ : Nat) (_ : AN) : Option Unit := some ()
theorem VB (N c r) (hM : Mg N c = some r) (ro : Ro) (cv : AH) (_hc : Bun35R ro cv c) : DoesI prog 162 #[vA (Ag c cv)] Ej ro [] (p1 (fun s_ => s_) 240 NQ (GJ (vA (Ag c cv)))) := by
 unfold Mg at hM
 refine AQ follows func162 rfl 34 rfl _ fz1 AW (fun base0_ => ?_)
 refine Ai <| rA rfl fun b2 => rz rfl <| A_sc [(some 33, false)] (conG prog []) <| rm 1 [0] rfl <| r_W (vF 193 #[vA (Ag c cv)] #[]) rfl (EU rfl rfl) <| rm 1 [0] rfl <| r_W (vF 194 #[vA (Ag c cv)] #[]) rfl (EU rfl rfl) <| rm 1 [0] rfl <| r_W (vF 195 #[vA (Ag c cv)] #[]) rfl (EU rfl rfl) <| rm 1 [0] rfl <| r_W (vF 196 #[vA (Ag c cv)] #[]) rfl (EU rfl rfl) ?_
 refine rm 1 [0] rfl <| r_W (vF 197 #[vA (Ag c cv)] #[]) rfl (EU rfl rfl) <| rm 1 [0] rfl <| r_W (vF 198 #[vA (Ag c cv)] #[]) rfl (EU rfl rfl) <| rm 1 [0] rfl <| r_W (vF 199 #[vA (Ag c cv)] #[]) rfl (EU rfl rfl) <| rm 1 [0] rfl <| r_W (vF 200 #[vA (Ag c cv)] #[]) rfl (EU rfl rfl) <| rm 1 [0] rfl ?_
 refine r_W (vF 201 #[vA (Ag c cv)] #[]) rfl (EU rfl rfl) <| rm 1 [0] rfl <| r_W (vF 202 #[vA (Ag c cv)] #[]) rfl (EU rfl rfl) <| rm 1 [0] rfl <| r_W (vF 203 #[vA (Ag c cv)] #[]) rfl (EU rfl rfl) <| rm 1 [0] rfl <| r_W (vF 204 #[vA (Ag c cv)] #[]) rfl (EU rfl rfl) <| rm 1 [0] rfl <| r_W (vF 205 #[vA (Ag c cv)] #[]) rfl (EU rfl rfl) ?_
 refine rm 1 [0] rfl <| r_W (vF 206 #[vA (Ag c cv)] #[]) rfl (EU rfl rfl) <| rm 1 [0] rfl <| r_W (vF 207 #[vA (Ag c cv)] #[]) rfl (EU rfl rfl) ?_
 refine BF (cs0 := []) (Ls := [[(b2, 238, (Ag c cv))]]) 240 NQ (GJ (vA (Ag c cv))) [vF 193 #[vA (Ag c cv)] #[], vF 194 #[vA (Ag c cv)] #[], vF 195 #[vA (Ag c cv)] #[], vF 196 #[vA (Ag c cv)] #[], vF 197 #[vA (Ag c cv)] #[], vF 198 #[vA (Ag c cv)] #[], vF 199 #[vA (Ag c cv)] #[], vF 200 #[vA (Ag c cv)] #[], vF 201 #[vA (Ag c cv)] #[], vF 202 #[vA (Ag c cv)] #[], vF 203 #[vA (Ag c cv)] #[], vF 204 #[vA (Ag c cv)] #[], vF 205 #[vA (Ag c cv)] #[], vF 206 #[vA (Ag c cv)] #[], vF 207 #[vA (Ag c cv)] #[]] [Value.nilFunc, Value.nilFunc, Value.nilFunc, Value.nilFunc, Value.nilFunc, Value.nilFunc, Value.nilFunc, Value.nilFunc, Value.nilFunc, Value.nilFunc, Value.nilFunc, Value.nilFunc, Value.nilFunc, Value.nilFunc, Value.nilFunc] rfl rfl rfl rfl rfl rfl rfl (by kernel_rfl) (by kernel_rfl) rfl rfl rfl (fun s4 S5 H6 => ?_)
 refine rz rfl <| DJ [(2, s4)] rfl (fun T => ?_)
 cases hM
 refine Au (fun hn => AG (v0 := s4) H6 (Aw (Sub.pick [[(b2, 238, (Ag c cv))], S5] [1] rfl)) rfl (AV rfl))
def AE (_ : Nat) (n : Int) (least : Int) (most : Int) : Option Bool := if n ≥ least then some (decide (n ≤ most)) else some false
theorem AJ (N n least most r) (hM : AE N n least most = some r) : Gives prog 224 #[vI n, vI least, vI most] (vB r) := by
 unfold AE at hM
 refine Aq follows func224 rfl 15 rfl _ fz3 (fun base0_ => ?_)
 refine AZ rfl <| Aa fun K2 hK2 => Ar <| rn 4 rfl ?_
 rcases hg3 : (decide (n ≥ least)) with _ | _
 ·replace hM := iF hg3 hM
  refine rz rfl <| hK2 _ _ ?_
  cases hM
  exact aR eE1
 replace hM := iD hg3 hM
 refine rz rfl <| hK2 _ _ ?_
 cases hM
 exact aR eE1
def Cg (_ : Nat) (c : Int) (first : Int) (last : Int) : Option Bool := if c ≥ first then some (decide (c ≤ last)) else some false
theorem CL (N c first last r) (hM : Cg N c first last = some r) : Gives prog 377 #[Value.int .i32 c, Value.int .i32 first, Value.int .i32 last] (vB r) := by
 unfold Cg at hM
 refine Aq follows func377 rfl 15 rfl _ fz3 (fun base0_ => ?_)
 refine AZ rfl <| Aa fun K2 hK2 => Ar <| rn 4 rfl ?_
 rcases hg3 : (decide (c ≥ first)) with _ | _
 ·replace hM := iF hg3 hM
  refine rz rfl <| hK2 _ _ ?_
  cases hM
  exact aR eE1
 replace hM := iD hg3 hM
 refine rz rfl <| hK2 _ _ ?_
 cases hM
 exact aR eE1
def FQ (N : Nat) (c : Int) : Option Bool := (Cg N c 65 90).bind fun r3 => if r3 = true then some true else (Cg N c 97 122).bind fun r6 => if r6 = true then some true else if c = 95 then some true else (Cg N c 192 591).bind fun r10 => if r10 = true then some true else (Cg N c 913 969).bind fun r13 => if r13 = true then some true else (Cg N c 1024 1279).bind fun r16 => some r16
def IL (N : Nat) (c : Int) : Option Bool := if c = 215 then if c = 215 then some false else FQ N c  else if c = 247 then if c = 247 then some false else FQ N c  else if c = 930 then some false else FQ N c 
theorem NP (N c r) (hM : IL N c = some r) : Gives prog 343 #[Value.int .i32 c] (vB r) := by
 unfold IL at hM
 refine Aq follows func343 rfl 30 rfl _ fz1 (fun base0_ => ?_)
 refine AZ rfl <| Cr (fun tt ll => (FQ N c  = some r) ∧ Is [(0, Value.int .i32 c)] [] tt ll) ?_ ?_
 ·refine AZ rfl <| Aj <| Aa fun K19 hK19 => AZ rfl <| aE hM rfl (fun hc21 hM => ?_) (fun hc21 hM => ?_)
  ·refine Af <| hK19 _ _ ?_
   refine aE hM rfl (fun hc22 hM => ?_) (fun hc22 hM => ?_)
   ·refine AZ rfl ?_
    cases hM
    exact aR eE1
   refine Af <| fg _ (Sub.of suN) ?_
   exact ⟨hM, Ak rfl rfl⟩
  refine AZ rfl <| aE hM rfl (fun hc25 hM => ?_) (fun hc25 hM => ?_)
  ·refine Af <| hK19 _ _ ?_
   refine aE hM rfl (fun hc26 hM => ?_) (fun hc26 hM => ?_)
   ·refine AZ rfl ?_
    cases hM
    exact aR eE1
   refine Af <| fg _ (Sub.of suN) ?_
   exact ⟨hM, Ak rfl rfl⟩
  refine Ar <| rz rfl <| hK19 _ _ ?_
  refine aE hM rfl (fun hc28 hM => ?_) (fun hc28 hM => ?_)
  ·refine AZ rfl ?_
   cases hM
   exact aR eE1
  refine Af <| fg _ (Sub.of suN) ?_
  exact ⟨hM, Ak rfl rfl⟩
 clear hM; rintro t l ⟨hM, ⟨T, rfl⟩, rfl⟩
 unfold FQ at hM
 refine Aa fun K2 hK2 => Ar <| rn 1 rfl <| kB hM fun r3 hr4 hM => rc _ (cF Gg) (CL N c 65 90 _ hr4) <| rn 1 rfl ?_
 rcases hg5 : r3 with _ | _
 ·replace hM := iB hg5 hM
  refine rn 1 rfl <| r_y rfl <| kB hM fun r6 hr7 hM => rc _ (cF Gg) (CL N c 97 122 _ hr7) <| rn 2 rfl ?_
  rcases hg8 : r6 with _ | _
  ·replace hM := iB hg8 hM
   refine rn 4 rfl ?_
   rcases hg9 : (c == 95) with _ | _
   ·replace hM := iG hg9 hM
    refine rn 1 rfl <| r_y rfl <| kB hM fun r10 hr11 hM => rc _ (cF Gg) (CL N c 192 591 _ hr11) <| rn 2 rfl ?_
    rcases hg12 : r10 with _ | _
    ·replace hM := iB hg12 hM
     refine rn 1 rfl <| r_y rfl <| kB hM fun r13 hr14 hM => rc _ (cF Gg) (CL N c 913 969 _ hr14) <| rn 2 rfl ?_
     rcases hg15 : r13 with _ | _
     ·replace hM := iB hg15 hM
      refine rn 1 rfl <| r_y rfl <| kB hM fun r16 hr17 hM => rc _ (cF Gg) (CL N c 1024 1279 _ hr17) <| rz rfl <| hK2 _ _ ?_
      cases hM
      exact aR eE1
     replace hM := ifp hg15 hM
     refine rz rfl <| hK2 _ _ ?_
     cases hM
     exact aR eE1
    replace hM := ifp hg12 hM
    refine rz rfl <| hK2 _ _ ?_
    cases hM
    exact aR eE1
   replace hM := iE hg9 hM
   refine rz rfl <| hK2 _ _ ?_
   cases hM
   exact aR eE1
  replace hM := ifp hg8 hM
  refine rz rfl <| hK2 _ _ ?_
  cases hM
  exact aR eE1
 replace hM := ifp hg5 hM
 refine rz rfl <| hK2 _ _ ?_
 cases hM
 exact aR eE1
def Mc (N : Nat) (c : Int) : Option Bool := (Cg N c 48 57).bind fun r3 => some r3
theorem Vl (N c r) (hM : Mc N c = some r) : Gives prog 344 #[Value.int .i32 c] (vB r) := by
 unfold Mc at hM
 refine Aq follows func344 rfl 5 rfl _ fz1 (fun base0_ => ?_)
 refine AZ rfl <| Ai <| rn 1 rfl <| kB hM fun r3 hr4 hM => rc _ (cF Gg) (CL N c 48 57 _ hr4) <| rz rfl ?_
 cases hM
 exact aR eE1
def Jw (N : Nat) (c : Int) (ahead : Int) : Option Bool := (IL N c).bind fun r3 => if r3 = true then some true else if ahead > 0 then (Mc N c).bind fun r7 => if r7 = true then some true else if c = 45 then some true else some (c == 46) else some false
theorem QA (N c ahead r) (hM : Jw N c ahead = some r) : Gives prog 280 #[Value.int .i32 c, vI ahead] (vB r) := by
 unfold Jw at hM
 refine Aq follows func280 rfl 23 rfl _ fz2 (fun base0_ => ?_)
 refine AZ rfl <| Aa fun K2 hK2 => Ar <| rn 1 rfl <| kB hM fun r3 hr4 hM => rc _ (cF XK) (NP N c _ hr4) <| rn 1 rfl ?_
 rcases hg5 : r3 with _ | _
 ·replace hM := iB hg5 hM
  refine rn 3 rfl ?_
  rcases hg6 : (decide (ahead > 0)) with _ | _
  ·replace hM := iF hg6 hM
   refine rn 3 rfl <| Gk rfl rfl <| Gk rfl rfl <| rn 2 rfl <| Gk rfl rfl <| Gk rfl rfl <| rz rfl <| hK2 _ _ ?_
   cases hM
   exact aR eE1
  replace hM := iD hg6 hM
  refine rn 1 rfl <| r_y rfl <| kB hM fun r7 hr8 hM => rc _ (cF dP) (Vl N c _ hr8) <| rn 1 rfl ?_
  rcases hg9 : r7 with _ | _
  ·replace hM := iB hg9 hM
   refine rn 4 rfl ?_
   rcases hg10 : (c == 45) with _ | _
   ·replace hM := iG hg10 hM
    refine rz rfl <| hK2 _ _ ?_
    cases hM
    exact aR eE1
   replace hM := iE hg10 hM
   refine rz rfl <| hK2 _ _ ?_
   cases hM
   exact aR eE1
  replace hM := ifp hg9 hM
  refine rz rfl <| hK2 _ _ ?_
  cases hM
  exact aR eE1
 replace hM := ifp hg5 hM
 refine rn 3 rfl <| Gk rfl rfl <| Gk rfl rfl <| Gk rfl rfl <| Gk rfl rfl <| Gk rfl rfl <| Gk rfl rfl <| Gk rfl rfl <| Gk rfl rfl <| Gk rfl rfl <| Gk rfl rfl <| rz rfl <| hK2 _ _ ?_
 cases hM
 exact aR eE1
def Jj (N : Nat) (s : List UInt8) : Nat → Int → Nat → Option Bool
  | 0, _, _ => none
  | n6 + 1, count1_, m2_ => if m2_ < (s).length then ck (m2_ < (s).length) (if count1_ = 24 then some false else (Jw N ((runeAt s m2_ : Nat) : Int) count1_).bind fun r15 => if r15 = true then ck (-9223372036854775808 ≤ (count1_ + 1) ∧ (count1_ + 1) ≤ 9223372036854775807) ((Jj N s n6) (count1_ + 1) (HJ s m2_)) else some false) else some (decide (count1_ > 0))
def Iy (N : Nat) (s : List UInt8) : Option Bool := Jj N s N 0 0
theorem Oe (N s r) (hM : Iy N s = some r) : Gives prog 227 #[vS s] (vB r) := by
 unfold Iy at hM
 refine Aq follows func227 rfl 23 rfl _ fz1 (fun base0_ => ?_)
 refine AZ rfl <| AZ rfl <| Aa fun K3 hK3 => A_sc [(some 7, false)] (conG prog [(7, fun _ _ v_ L_ U_ => (pIt s) v_ L_ U_)]) <| rn 1 rfl <| Zo s rfl rfl rfl rfl rfl (fun _ _ _ _ _ => Iff.rfl) (fun b5 => ?_)
 refine As <| Aj <| AU (fun tt ll nn => ∃ (n6 : Nat) (count1_ : Int) (m2_ : Nat), (Jj N s n6 count1_ m2_ = some r) ∧ Is [(3, vI count1_), (7, vP b5 0)] [(b5, (itT s m2_), #[])] tt ll ∧ nn = n6 + 1) (N + 1) ?_ ?_
 ·exact ⟨N, 0, 0, hM, Ak rfl rfl, rfl⟩
 clear hM; rintro t l _ ⟨n6, count1_, m2_, hM, ⟨⟨T, rfl⟩, rfl⟩, rfl⟩
 rcases n6 with _ | n6
 ·exact absurd hM (by simp [Jj])
 rw [Jj] at hM
 refine A_sc [(some 8, true)] (conG prog [(8, fun _ _ v_ L_ U_ => (pNx b5 s m2_) v_ L_ U_)]) <| bC (lN := [(b5, (itT s (HJ s m2_)), #[])]) 0 b5 s m2_ rfl rfl rfl rfl rfl rfl (fun _ _ _ _ _ => Iff.rfl) rfl <| r_W (vB (decide (m2_ < (s).length))) rfl (GE (Xi s m2_)) <| As <| Aa fun K8 hK8 => aD hM rfl (fun hc9 hM => ?_) (fun hc9 hM => ?_)
 ·refine Af <| hK8 _ _ ?_
  refine Aj <| Ai <| kC hM fun ck11 hM => r_W (Value.int .i32 ((runeAt s m2_ : Nat) : Int)) rfl (GE (Xh ck11)) <| rz rfl <| Aa fun K12 hK12 => Aa fun K13 hK13 => Ar <| rn 3 rfl ?_
  rcases hg14 : (count1_ == 24) with _ | _
  ·replace hM := iG hg14 hM
   refine rn 2 rfl <| r_y rfl <| kB hM fun r15 hr16 hM => rc _ (cF eR) (QA N ((runeAt s m2_ : Nat) : Int) count1_ _ hr16) <| rz rfl <| hK13 _ _ ?_
   refine AB _ rfl (fun hc17 => ?_) (fun hc17 => ?_)
   ·replace hM := ifn (Bool.eq_false_iff.1 (EF hc17)) hM
    refine AZ rfl ?_
    cases hM
    exact aR eE1
   replace hM := ifp (EG hc17) hM
   refine Af <| hK12 _ _ ?_
   refine Ar <| rn 1 rfl <| kC hM fun ck19 hM => rX ck19 rfl <| rz rfl <| fg _ (Sub.of (suK _ suN)) ?_
   exact ⟨n6 + 1, by omega, n6, (count1_ + 1), HJ s m2_, hM, Ak (by first | rfl | (simp only [hg14]; done) | (simp only [hg14]; rfl) | (simp only [CZ]; rfl)) rfl, rfl⟩
  replace hM := iE hg14 hM
  refine rz rfl <| hK13 _ _ ?_
  refine AB true rfl (fun _ => ?_) (fun h_ => nomatch h_)
  refine AZ rfl ?_
  cases hM
  exact aR eE1
 refine AS <| hK3 _ _ ?_
 refine AZ rfl ?_
 cases hM
 exact aR eE1
def Al (_ : Nat) (so : Bool) (e' : Int) : Option Int := if so = true then some 0 else some e'
theorem Az (N so e' r) (hM : Al N so e' = some r) : Gives prog 226 #[vB so, vI e'] (vI r) := by
 unfold Al at hM
 refine Aq follows func226 rfl 7 rfl _ fz2 (fun base0_ => ?_)
 refine AZ rfl <| Aa fun K2 hK2 => AZ rfl <| aB hM rfl (fun hc4 hM => ?_) (fun hc4 hM => ?_)
 ·refine AZ rfl ?_
  cases hM
  exact aR eE1
 refine Af <| hK2 _ _ ?_
 refine AZ rfl ?_
 cases hM
 exact aR eE1
def MW (_ : Nat) (e' : Int) : Option Bool := some (e' != 0)
theorem WM (N e' r) (hM : MW N e' = some r) : Gives prog 279 #[vI e'] (vB r) := by
 unfold MW at hM
 refine Aq follows func279 rfl 5 rfl _ fz1 (fun base0_ => ?_)
 refine AZ rfl <| AZ rfl ?_
 cases hM
 exact aR eE1
def bt (N : Nat) (s : List Int) : Nat → Int → Option Int
  | 0, _ => none
  | n4 + 1, x1_ => if x1_ < (s.length : Int) then ck (0 ≤ x1_ ∧ x1_ < (s.length : Int)) ((MW N (s[x1_.toNat]!)).bind fun r12 => if r12 = true then some x1_ else ck (-9223372036854775808 ≤ (x1_ + 1) ∧ (x1_ + 1) ≤ 9223372036854775807) ((bt N s n4) (x1_ + 1))) else some (-1)
def sFm (N : Nat) (s : List Int) : Option Int := bt N s N 0
theorem sFg (N s r) (hM : sFm N s = some r) (ro sv) (hs : Rd Bf ro sv s) : Does prog 278 #[sv, vF 279 #[] #[]] ro [] (pV (vI r)) := by
 unfold sFm at hM
 refine Ac follows func278 rfl 19 rfl _ fz2 (fun base0_ => ?_)
 refine AZ rfl <| Aa fun K2 hK2 => Ai <| rn 1 rfl <| rL (Rd.shp hs) rfl <| rz rfl <| Aj <| AU (fun tt ll nn => ∃ (n4 : Nat) (x1_ : Int), (bt N s n4 x1_ = some r) ∧ Is [(0, sv), (1, vF 279 #[] #[]), (7, vI (s.length : Int)), (8, vI x1_)] [] tt ll ∧ nn = n4 + 1) (N + 1) ?_ ?_
 ·exact ⟨N, 0, hM, Ak rfl rfl, rfl⟩
 clear hM; rintro t l _ ⟨n4, x1_, hM, ⟨⟨T, rfl⟩, rfl⟩, rfl⟩
 rcases n4 with _ | n4
 ·exact absurd hM (by simp [bt])
 rw [bt] at hM
 refine AZ rfl <| Aa fun K6 hK6 => aD hM rfl (fun hc7 hM => ?_) (fun hc7 hM => ?_)
 ·refine Af <| hK6 _ _ ?_
  refine Aa fun K8 hK8 => Aj <| AZ rfl <| Ai <| rn 3 rfl <| kC hM fun ck11 hM => rI (Rd.shp hs) ck11 rfl <| rE (AA hs) ck11 0 rfl <| kB hM fun r12 hr13 hM => rc _ (AO (caps := []) rfl eS rfl) (WM N (s[x1_.toNat]!) _ hr13) <| As <| aB hM rfl (fun hc14 hM => ?_) (fun hc14 hM => ?_)
  ·refine AZ rfl ?_
   cases hM
   exact aR eV1
  refine Af <| hK8 _ _ ?_
  refine Ar <| kC hM fun ck16 hM => rX ck16 rfl <| rz rfl <| fg _ (Sub.of suN) ?_
  exact ⟨n4 + 1, by omega, n4, (x1_ + 1), hM, Ak rfl rfl, rfl⟩
 refine AS <| hK2 _ _ ?_
 refine AZ rfl ?_
 cases hM
 exact aR eV1
def AC (N : Nat) (l' : List Int) : Option Int := (sFm N l').bind fun r3 => if r3 < 0 then some 0 else ck (0 ≤ r3 ∧ r3 < (l'.length : Int)) (some (l'[r3.toNat]!))
theorem BD (N l' r) (hM : AC N l' = some r) (ro l'v) (hl' : Rd Bf ro l'v l') : Does prog 225 #[l'v] ro [] (pV (vI r)) := by
 unfold AC at hM
 refine Ac follows func225 rfl 12 rfl _ fz1 (fun base0_ => ?_)
 refine AZ rfl <| A_sc [(some 5, false)] (conG prog [(5, cV (sFm N l') fun u0_ => vI u0_)]) <| rn 1 rfl <| kB hM fun r3 hr4 hM => rg _ (cF eT) (fun o w z_ => sFg N l' _ hr4 z_.view l'v ((AA hl') o w z_)) (Ao hr4) <| rz rfl <| Aa fun K5 hK5 => AZ rfl <| aD hM rfl (fun hc7 hM => ?_) (fun hc7 hM => ?_)
 ·refine AZ rfl ?_
  cases hM
  exact aR eV1
 refine Af <| hK5 _ _ ?_
 refine Ai <| rn 2 rfl <| kC hM fun ck10 hM => rI (Rd.shp hl') ck10 rfl <| rE (AA hl') ck10 0 rfl <| rz rfl ?_
 cases hM
 exact aR eV1
def GK (N : Nat) (c : AN) (inRange1_ : Bool) : Option (Int × Int) := (Iy N c.1).bind fun r4 => (Al N r4 4).bind fun r6 => (Al N inRange1_ 7).bind fun r8 => (AC N ([r6, r8])).bind fun r13 => some (0, r13)
def Mk (N : Nat) (c : AN) : Option (Int × Int) := (AE N c.2.2.2.2.2.2.2.2.2.2.2.2.2.2.2.1 1 64).bind fun r15 => if r15 = true then (AE N c.2.2.2.2.2.2.2.2.2.2.2.2.2.2.2.2.1 1 32).bind fun r18 => if r18 = true then (AE N c.2.2.2.2.2.2.2.2.2.2.2.2.2.2.2.2.2 0 4).bind fun r21 => GK N c r21 else GK N c false else GK N c false
theorem VH (N c r) (hM : Mk N c = some r) (ro : Ro) (cv : AH) (_hc : Bun35R ro cv c) : Does prog 193 #[vA (Ag c cv)] ro [] (pV (vT #[vI r.1, vI r.2])) := by
 unfold Mk at hM
 refine Ac follows func193 rfl 30 rfl _ fz1 (fun base0_ => ?_)
 refine Ai <| rA rfl fun b2 => rz rfl <| Cr (fun tt ll => ∃ (inRange1_ : Bool), (GK N c inRange1_ = some r) ∧ Is [(1, vP b2 0), (4, vB inRange1_)] [(b2, 238, (Ag c cv))] tt ll) ?_ ?_
 ·refine Ar <| rm 3 [0] rfl <| kB hM fun r15 hr16 hM => rc _ (cF Cd) (AJ N c.2.2.2.2.2.2.2.2.2.2.2.2.2.2.2.1 1 64 _ hr16) <| rn 1 rfl ?_
  rcases hg17 : r15 with _ | _
  ·replace hM := iB hg17 hM
   refine rz rfl <| fg _ (Sub.of (suK _ suN)) ?_
   exact ⟨false, hM, Ak (by first | rfl | (simp only [hg17]; done) | (simp only [hg17]; rfl) | (simp only [CZ]; rfl)) rfl⟩
  replace hM := ifp hg17 hM
  refine rn 2 rfl <| r_y rfl <| rm 1 [0] rfl <| r_y rfl <| kB hM fun r18 hr19 hM => rc _ (cF Cd) (AJ N c.2.2.2.2.2.2.2.2.2.2.2.2.2.2.2.2.1 1 32 _ hr19) <| rn 2 rfl ?_
  rcases hg20 : r18 with _ | _
  ·replace hM := iB hg20 hM
   refine rz rfl <| fg _ (Sub.of (suK _ suN)) ?_
   exact ⟨false, hM, Ak (by first | rfl | (simp only [hg17, hg20]; done) | (simp only [hg17, hg20]; rfl) | (simp only [CZ]; rfl)) rfl⟩
  replace hM := ifp hg20 hM
  refine rn 2 rfl <| r_y rfl <| rm 1 [0] rfl <| r_y rfl <| kB hM fun r21 hr22 hM => rc _ (cF Cd) (AJ N c.2.2.2.2.2.2.2.2.2.2.2.2.2.2.2.2.2 0 4 _ hr22) <| rz rfl <| fg _ (Sub.of (suK _ suN)) ?_
  exact ⟨r21, hM, Ak (by first | rfl | (simp only [hg17, hg20]; done) | (simp only [hg17, hg20]; rfl) | (simp only [CZ]; rfl)) rfl⟩
 clear hM; rintro t l ⟨inRange1_, hM, ⟨T, rfl⟩, rfl⟩
 unfold GK at hM
 refine A_sc [(some 28, false), (some 29, false)] (conG prog [(29, fun _ _ v_ L_ U_ => ∀ u0_, Iy N c.1 = some u0_ → ∀ u1_, Al N u0_ 4 = some u1_ → ∀ u2_, Al N inRange1_ 7 = some u2_ → ∀ u3_, AC N ([u1_, u2_]) = some u3_ → (pV (vI u3_)) v_ L_ U_)]) <| rm 3 [0] rfl <| kB hM fun r4 hr5 hM => rc _ (cF SQ) (Oe N c.1 _ hr5) <| kB hM fun r6 hr7 hM => rc _ (cF AL) (Az N r4 4 _ hr7) <| rn 1 rfl <| kB hM fun r8 hr9 hM => rc _ (cF AL) (Az N inRange1_ 7 _ hr9) <| BF (Ls := [[(b2, 238, (Ag c cv))]]) 39 Bf [r6, r8] [vI r6, vI r8] [vI 0, vI 0] rfl rfl rfl rfl rfl rfl rfl (by kernel_rfl) (by kernel_rfl) rfl rfl rfl (fun s10 S11 H12 => ?_)
 refine kB hM fun r13 hr14 hM => rg _ (cF BV) (fun o w z_ => BD N ([r6, r8]) _ hr14 z_.view s10 ((Ap H12 (Ad (Ls := [[(b2, 238, (Ag c cv))], S11]) (k := 1) rfl rfl)) o w z_)) (fun _ _ v_ L_ U_ => ⟨fun h_ => h_ _ hr5 _ hr7 _ hr9 _ hr14, fun h_ => by intro _ e_; cases Option.some.inj (e_.symm.trans hr5); intro _ e_; cases Option.some.inj (e_.symm.trans hr7); intro _ e_; cases Option.some.inj (e_.symm.trans hr9); intro _ e_; cases Option.some.inj (e_.symm.trans hr14); exact h_⟩) ?_
 refine rz rfl ?_
 cases hM
 exact aR eV2
def Gw (_ : Nat) (h_0 : List UInt8) (_ : List (List UInt8 × Int)) (_ : Int) (_ : Int) (_ : Int) (_ : Int) : Option (List UInt8) := some h_0
theorem PM (N h_0 h_1 h_2 h_3 h_4 h_5 r) (hM : Gw N h_0 h_1 h_2 h_3 h_4 h_5 = some r) (ro : Ro) (h_1v : Value) (_hh_1 : Rd BQ ro h_1v h_1) : Does prog 229 #[vA #[vS h_0, h_1v, vI h_2, vI h_3, vI h_4, vI h_5]] ro [] (pV (vS r)) := by
 unfold Gw at hM
 refine Ac follows func229 rfl 5 rfl _ fz1 (fun base0_ => ?_)
 refine Ai <| rA rfl fun b2 => rz rfl <| AY [0] rfl ?_
 cases hM
 exact aR eV1
def EW (N : Nat) (l' : List ((List UInt8) × (List (List UInt8 × Int)) × Int × Int × Int × Int)) : Nat → List (List UInt8) → Int → Option (List (List UInt8))
  | 0, _, _ => none
  | n9 + 1, s1_, x2_ => if x2_ < (l'.length : Int) then ck (0 ≤ x2_ ∧ x2_ < (l'.length : Int)) ((Gw N (l'[x2_.toNat]!.1) (l'[x2_.toNat]!.2.1) (l'[x2_.toNat]!.2.2.1) (l'[x2_.toNat]!.2.2.2.1) (l'[x2_.toNat]!.2.2.2.2.1) (l'[x2_.toNat]!.2.2.2.2.2)).bind fun r20 => ck (0 ≤ x2_ ∧ x2_ < (s1_.length : Int)) (ck (-9223372036854775808 ≤ (x2_ + 1) ∧ (x2_ + 1) ≤ 9223372036854775807) ((EW N l' n9) ((s1_).set (x2_.toNat) r20) (x2_ + 1)))) else some s1_
def HX (N : Nat) (l' : List ((List UInt8) × (List (List UInt8 × Int)) × Int × Int × Int × Int)) : Option (List (List UInt8)) := ck (0 ≤ (l'.length : Int) ∧ (l'.length : Int) ≤ 8796093022208) (EW N l' N ((List.replicate ((l'.length : Int)).toNat ([]))) 0)
theorem Sc (N l' r) (hM : HX N l' = some r) (ro l'v) (hl' : RdN Hl ro l'v l') : Does prog 228 #[l'v, vF 229 #[] #[]] ro [] (p1 (fun s_ => s_) 9 Bz r) := by
 unfold HX at hM
 refine Ac follows func228 rfl 26 rfl _ fz2 (fun base0_ => ?_)
 refine AZ rfl <| A_sc [(some 10, false)] (conG prog [(10, fun _ _ v_ L_ U_ => (p1 (fun v => v) 9 Bz (List.replicate ((l'.length : Int)).toNat ([]))) v_ L_ U_)]) <| rn 1 rfl <| rL (RdN.shp hl') rfl <| kC hM fun ck3 hM => Rs (Ls := []) 9 Bz ([]) (l'.length : Int) rfl rfl rfl rfl rfl rfl rfl rfl rfl rfl 8796093022208 rfl ck3 (fun _ _ _ _ _ => Iff.rfl) (fun s4 S5 H6 => ?_)
 refine rz rfl <| Aa fun K7 hK7 => Ai <| rn 1 rfl <| rL (RdN.shp hl') rfl <| rz rfl <| Aj <| Be _ (Sub.pick [S5] [0] rfl) <| AU (fun tt ll nn => ∃ (n9 : Nat) (s1_ : List (List UInt8)) (x2_ : Int), (EW N l' n9 s1_ x2_ = some r) ∧ ∃ (Ss1_ : List Bl), Sl 9 Bz s4 s1_ Ss1_ ∧ Is [(1, vF 229 #[] #[]), (5, s4), (11, l'v), (12, vI (l'.length : Int)), (13, vI x2_)] (List.flatten [Ss1_]) tt ll ∧ nn = n9 + 1) (N + 1) ?_ ?_
 ·exact ⟨N, (List.replicate ((l'.length : Int)).toNat ([])), 0, hM, S5, H6, Ak rfl rfl, rfl⟩
 clear hM; rintro t l _ ⟨n9, s1_, x2_, hM, Ss1_, hs1_, ⟨⟨T, rfl⟩, rfl⟩, rfl⟩
 rcases n9 with _ | n9
 ·exact absurd hM (by simp [EW])
 rw [EW] at hM
 refine AZ rfl <| Aa fun K11 hK11 => aD hM rfl (fun hc12 hM => ?_) (fun hc12 hM => ?_)
 ·refine Af <| hK11 _ _ ?_
  refine Aa fun K13 hK13 => Aj <| Ai <| rn 1 rfl <| kC hM fun ck15 hM => ?_
  obtain ⟨_, ⟨s16, hs17, rfl⟩, hat18⟩ := RdN.at (E := Hl) hl' (CP ck15)
  refine rI (RdN.shp hl') ck15 rfl <| Mv (vA #[vS (l'[x2_.toNat]!.1), s16, vI (l'[x2_.toNat]!.2.2.1), vI (l'[x2_.toNat]!.2.2.2.1), vI (l'[x2_.toNat]!.2.2.2.2.1), vI (l'[x2_.toNat]!.2.2.2.2.2)]) (vs := [vS (l'[x2_.toNat]!.1), s16, vI (l'[x2_.toNat]!.2.2.1), vI (l'[x2_.toNat]!.2.2.2.1), vI (l'[x2_.toNat]!.2.2.2.2.1), vI (l'[x2_.toNat]!.2.2.2.2.2)]) (x2_.toNat * 6) 0 rfl rfl (fun o w z_ => At.mono z_.ro_cell hat18) rfl <| rA rfl fun b19 => rn 1 rfl <| r_s (List.flatten [(Vu b19 (l'[x2_.toNat]!.1) s16 (l'[x2_.toNat]!.2.2.1) (l'[x2_.toNat]!.2.2.2.1) (l'[x2_.toNat]!.2.2.2.2.1) (l'[x2_.toNat]!.2.2.2.2.2)), Ss1_]) 0 _ _ _ _ _ (#[vS (l'[x2_.toNat]!.1), s16, vI (l'[x2_.toNat]!.2.2.1), vI (l'[x2_.toNat]!.2.2.2.1), vI (l'[x2_.toNat]!.2.2.2.2.1), vI (l'[x2_.toNat]!.2.2.2.2.2)]) rfl rfl rfl rfl (.ofS rfl rfl (Ab rfl (Ab (Shp.one (Rd.shp hs17)) (Ab rfl (Ab rfl (Ab rfl (Ab rfl Bh))))))) rfl rfl <| As ?_
  refine A_regC [(some 22, false)] (conG prog [(22, cV (Gw N (l'[x2_.toNat]!.1) (l'[x2_.toNat]!.2.1) (l'[x2_.toNat]!.2.2.1) (l'[x2_.toNat]!.2.2.2.1) (l'[x2_.toNat]!.2.2.2.2.1) (l'[x2_.toNat]!.2.2.2.2.2)) fun u0_ => vS u0_)]) <| rm 4 [0] rfl <| kB hM fun r20 hr21 hM => rg _ (AO (caps := []) rfl fG rfl) (fun o w z_ => PM N (l'[x2_.toNat]!.1) (l'[x2_.toNat]!.2.1) (l'[x2_.toNat]!.2.2.1) (l'[x2_.toNat]!.2.2.2.1) (l'[x2_.toNat]!.2.2.2.2.1) (l'[x2_.toNat]!.2.2.2.2.2) _ hr21 z_.view s16 (z_.r hs17)) (Ao hr21) <| kC hM fun ck22 hM => rI (Sl.shp hs1_) ck22 rfl <| Rr (Ls := [(Vu b19 (l'[x2_.toNat]!.1) s16 (l'[x2_.toNat]!.2.2.1) (l'[x2_.toNat]!.2.2.2.1) (l'[x2_.toNat]!.2.2.2.2.1) (l'[x2_.toNat]!.2.2.2.2.2)), Ss1_]) 1 (En := Bz) (s1_[x2_.toNat]!) r20 (x2_.toNat) 0 rfl rfl rfl hs1_ (CP ck22) rfl rfl rfl (HI rfl) rfl (fun S23 H24 => ?_)
  refine As <| hK13 _ _ ?_
  refine Ar <| kC hM fun ck25 hM => rX ck25 rfl <| rz rfl <| fg _ (Sub.pick [(Vu b19 (l'[x2_.toNat]!.1) s16 (l'[x2_.toNat]!.2.2.1) (l'[x2_.toNat]!.2.2.2.1) (l'[x2_.toNat]!.2.2.2.2.1) (l'[x2_.toNat]!.2.2.2.2.2)), S23] [1] rfl) ?_
  exact ⟨n9 + 1, by omega, n9, (s1_).set (x2_.toNat) r20, (x2_ + 1), hM, S23, H24, Ak rfl rfl, rfl⟩
 refine AS <| hK7 _ _ ?_
 refine AZ rfl ?_
 cases hM
 refine Au (fun hn => AG (v0 := s4) hs1_ (Aw (Sub.pick [Ss1_] [0] rfl)) rfl (AV rfl))
def Ps (_ : Nat) (s : List UInt8) (substr : List UInt8) : Option Int := ck ((substr).length = 1) (some (Lib.index s substr))
theorem ai (N s substr r) (hM : Ps N s substr = some r) : Gives prog 378 #[vS s, vS substr] (vI r) := by
 unfold Ps at hM
 refine Aq follows func378 rfl 8 rfl _ fz2 (fun base0_ => ?_)
 refine AZ rfl <| Ai <| rn 2 rfl <| kC hM fun ck3 hM => rc _ (cF cY) (cf s substr ck3) <| rz rfl ?_
 cases hM
 exact aR eE1
def JE (N : Nat) (s : List UInt8) (substr : List UInt8) : Option Bool := (Ps N s substr).bind fun r3 => some (decide (r3 ≥ 0))
theorem Ox (N s substr r) (hM : JE N s substr = some r) : Gives prog 345 #[vS s, vS substr] (vB r) := by
 unfold JE at hM
 refine Aq follows func345 rfl 9 rfl _ fz2 (fun base0_ => ?_)
 refine AZ rfl <| Ai <| rn 2 rfl <| kB hM fun r3 hr4 hM => rc _ (cF dn) (ai N s substr _ hr4) <| rz rfl ?_
 cases hM
 exact aR eE1
def No (N : Nat) (s : List UInt8) : Option Bool := (Iy N s).bind fun r3 => if r3 = true then (JE N s ([46] : List UInt8)).bind fun r6 => some (!(r6)) else some false
theorem Ul (N s r) (hM : No N s = some r) : Gives prog 281 #[vS s] (vB r) := by
 unfold No at hM
 refine Aq follows func281 rfl 10 rfl _ fz1 (fun base0_ => ?_)
 refine AZ rfl <| Aa fun K2 hK2 => Ar <| rn 1 rfl <| kB hM fun r3 hr4 hM => rc _ (cF SQ) (Oe N s _ hr4) <| rn 1 rfl ?_
 rcases hg5 : r3 with _ | _
 ·replace hM := iB hg5 hM
  refine rz rfl <| hK2 _ _ ?_
  cases hM
  exact aR eE1
 replace hM := ifp hg5 hM
 refine rn 1 rfl <| r_y rfl <| kB hM fun r6 hr7 hM => rc _ (cF XJ) (Ox N s ([46] : List UInt8) _ hr7) <| rz rfl <| hK2 _ _ ?_
 cases hM
 exact aR eE1
def Ex (_ : Nat) (i : Int) (c1_ : List (List UInt8 × Int)) : Option (List UInt8) := ck (0 ≤ i ∧ i < (c1_.length : Int)) (some ((c1_[i.toNat]!).1))
theorem NI (N i c1_ r) (hM : Ex N i c1_ = some r) (ro) (bc1_ : Nat) (c1_v) (hc1_ : Rd BQ ro c1_v c1_) (hbc1_ : Blk ro bc1_ [c1_v]) : Does prog 379 #[vI i, vP bc1_ 0] ro [] (pV (vS r)) := by
 unfold Ex at hM
 refine Ac follows func379 rfl 9 rfl _ fz2 (fun base0_ => ?_)
 refine AZ rfl <| Ai <| Ec c1_v (vs := [c1_v]) (o := 0) rfl rfl (AM hbc1_) rfl <| rn 1 rfl <| kC hM fun ck3 hM => rI (Rd.shp hc1_) ck3 rfl <| rF (Rd.shp hc1_) (Eh ck3) rfl <| rE (AA hc1_) ck3 0 rfl <| rz rfl ?_
 cases hM
 exact aR eV1
def FD (N : Nat) (count : Int) (at0_ : List (List UInt8 × Int)) : Nat → List (List UInt8) → Int → Option (List (List UInt8))
  | 0, _, _ => none
  | n9 + 1, s1_, x2_ => if x2_ < count then (Ex N x2_ at0_).bind fun r15 => ck (0 ≤ x2_ ∧ x2_ < (s1_.length : Int)) (ck (-9223372036854775808 ≤ (x2_ + 1) ∧ (x2_ + 1) ≤ 9223372036854775807) ((FD N count at0_ n9) ((s1_).set (x2_.toNat) r15) (x2_ + 1))) else some s1_
def II (N : Nat) (count : Int) (at0_ : List (List UInt8 × Int)) : Option (List (List UInt8)) := ck (0 ≤ count ∧ count ≤ 8796093022208) (FD N count at0_ N (List.replicate count.toNat ([])) 0)
theorem Tb (N count at0_ r) (hM : II N count at0_ = some r) (ro) (bat0_ : Nat) (at0_v) (hat0_ : Rd BQ ro at0_v at0_) (hbat0_ : Blk ro bat0_ [at0_v]) : Does prog 350 #[vI count, vF 379 #[] #[vP bat0_ 0]] ro [] (p1 (fun s_ => s_) 9 Bz r) := by
 unfold II at hM
 refine Ac follows func350 rfl 21 rfl _ fz2 (fun base0_ => ?_)
 refine AZ rfl <| A_sc [(some 8, false)] (conG prog [(8, fun _ _ v_ L_ U_ => (p1 (fun v => v) 9 Bz (List.replicate count.toNat ([]))) v_ L_ U_)]) <| rn 1 rfl <| kC hM fun ck3 hM => Rs (Ls := []) 9 Bz ([]) count rfl rfl rfl rfl rfl rfl rfl rfl rfl rfl 8796093022208 rfl ck3 (fun _ _ _ _ _ => Iff.rfl) (fun s4 S5 H6 => ?_)
 refine rz rfl <| Aa fun K7 hK7 => AZ rfl <| Aj <| Be _ (Sub.pick [S5] [0] rfl) <| AU (fun tt ll nn => ∃ (n9 : Nat) (s1_ : List (List UInt8)) (x2_ : Int), (FD N count at0_ n9 s1_ x2_ = some r) ∧ ∃ (Ss1_ : List Bl), Sl 9 Bz s4 s1_ Ss1_ ∧ Is [(1, vF 379 #[] #[vP bat0_ 0]), (5, s4), (9, vI count), (10, vI x2_)] (List.flatten [Ss1_]) tt ll ∧ nn = n9 + 1) (N + 1) ?_ ?_
 ·exact ⟨N, (List.replicate count.toNat ([])), 0, hM, S5, H6, Ak rfl rfl, rfl⟩
 clear hM; rintro t l _ ⟨n9, s1_, x2_, hM, Ss1_, hs1_, ⟨⟨T, rfl⟩, rfl⟩, rfl⟩
 rcases n9 with _ | n9
 ·exact absurd hM (by simp [FD])
 rw [FD] at hM
 refine AZ rfl <| Aa fun K11 hK11 => aD hM rfl (fun hc12 hM => ?_) (fun hc12 hM => ?_)
 ·refine Af <| hK11 _ _ ?_
  refine Aa fun K13 hK13 => Aj <| AZ rfl <| A_regC [(some 17, false)] (conG prog [(17, cV (Ex N x2_ at0_) fun u0_ => vS u0_)]) <| rn 4 rfl <| kB hM fun r15 hr16 hM => rg _ (AO (caps := [vP bat0_ 0]) rfl dm rfl) (fun o w z_ => NI N x2_ at0_ _ hr16 z_.view bat0_ at0_v (z_.r hat0_) (AM hbat0_ o w z_)) (Ao hr16) <| kC hM fun ck17 hM => rI (Sl.shp hs1_) ck17 rfl <| Rr (Ls := [Ss1_]) 0 (En := Bz) (s1_[x2_.toNat]!) r15 (x2_.toNat) 0 rfl rfl rfl hs1_ (CP ck17) rfl rfl rfl (HI rfl) rfl (fun S18 H19 => ?_)
  refine As <| hK13 _ _ ?_
  refine Ar <| kC hM fun ck20 hM => rX ck20 rfl <| rz rfl <| fg _ (Sub.pick [S18] [0] rfl) ?_
  exact ⟨n9 + 1, by omega, n9, (s1_).set (x2_.toNat) r15, (x2_ + 1), hM, S18, H19, Ak rfl rfl, rfl⟩
 refine AS <| hK7 _ _ ?_
 refine AZ rfl ?_
 cases hM
 refine Au (fun hn => AG (v0 := s4) hs1_ (Aw (Sub.pick [Ss1_] [0] rfl)) rfl (AV rfl))
def HC (N : Nat) (l' : List (List UInt8 × Int)) : Option (List (List UInt8)) := (II N (l'.length : Int) l').bind fun r4 => some r4
theorem Rm (N l' r) (hM : HC N l' = some r) (ro l'v) (hl' : Rd BQ ro l'v l') : Does prog 346 #[l'v] ro [] (p1 (fun s_ => s_) 9 Bz r) := by
 unfold HC at hM
 refine Ac follows func346 rfl 7 rfl _ fz1 (fun base0_ => ?_)
 refine Ai <| r_a (24, #[l'v]) rfl rfl (KB rfl (Rd.shp hl')) (fun b2 => ?_) (.inr rfl)
 refine rz rfl <| A_sc [(some 6, false)] (conG prog [(6, fun _ _ v_ L_ U_ => ∀ u0_, II N (l'.length : Int) l' = some u0_ → (p1 (fun s_ => s_) 9 Bz u0_) v_ L_ U_)]) <| rm 1 [0] rfl <| rL (Rd.shp hl') rfl <| r_W (vF 379 #[] #[vP b2 0]) rfl (EM rfl) <| kB hM fun r4 hr5 hM => AP (Ls := [(ZE b2 l'v)]) (fun s6 => s6) 9 Bz r4 350 _ rfl rfl rfl (cF XH) (fun o w z_ => Tb N (l'.length : Int) l' _ hr5 z_.view b2 l'v ((AA hl') o w z_) (BR 0 rfl rfl o w z_)) (Ao hr5) (fun s6 S7 H8 => ?_)
 refine rz rfl ?_
 cases hM
 refine Au (fun hn => AG (v0 := s6) H8 (Aw (Sub.pick [(ZE b2 l'v), S7] [1] rfl)) rfl (AV rfl))
def Iw (_ : Nat) : Option Unit := some ()
theorem Pv (N r) (hM : Iw N = some r) (ro : Ro) (bb : Nat) : Does prog 394 #[vP bb 0] ro (Am bb (Value.pointer none) nS) (pO (Am bb (Value.pointer none) nS) (oE (vT #[]) [(Am bb (vP bb 0) nS)])) := by
 unfold Iw at hM
 refine BU follows func394 rfl 20 rfl _ fz1 (fun _ _ h_ _ => h_) (fun base0_ => ?_)
 refine AY [0] rfl <| AB true rfl (fun _ => ?_) (fun h_ => nomatch h_)
 refine A_regC [(some 9, true), (some 10, true), (some 11, true)] (conG prog [(9, fun _ _ v_ L_ U_ => (pUp (fun v_ U_ => v_ = vP bb 0 ∧ U_ = (Am bb (Value.pointer none) nS))) v_ L_ U_), (10, fun _ _ v_ L_ U_ => (pUp (fun v_ U_ => v_ = vP bb 0 ∧ U_ = (Am bb (Value.pointer none) nS))) v_ L_ U_), (11, fun _ _ v_ L_ U_ => (pUp (fun v_ U_ => v_ = vP bb 0 ∧ U_ = (Am bb (Value.pointer none) nS))) v_ L_ U_)]) <| rn 2 rfl <| an (Ls := [(Am bb (Value.pointer none) nS)]) (vP bb 0) 0 rfl rfl rfl rfl rfl (Zl (TB := 453) (cs := #[Value.pointer none, nS]) rfl rfl rfl rfl rfl rfl rfl (List.mem_singleton.2 rfl)) (fun _ _ _ _ _ => Iff.rfl) ?_
 refine an (Ls := [(Am bb (Value.pointer none) nS)]) (vP bb 0) 0 rfl rfl rfl rfl rfl (fun w_ _ => UR (args := #[vP bb 0]) (e := Extern.AbiNoEscape.same) (w' := w_) (VK rfl) func402 (by kernel_rfl) (by kernel_rfl) (by kernel_rfl) (by kernel_rfl) rfl) (fun _ _ _ _ _ => Iff.rfl) <| an (Ls := [(Am bb (Value.pointer none) nS)]) (vP bb 0) 0 rfl rfl rfl rfl rfl (Up (TB := 453) (cs := #[Value.pointer none, nS]) 2 rfl rfl rfl rfl rfl (List.mem_singleton.2 rfl) rfl (by kernel_rfl)) (fun _ _ _ _ _ => Iff.rfl) <| ry [0] rfl ?_
 cases hM
 refine UD (v0 := vT #[]) (O := [(Am bb (vP bb 0) nS)]) rfl (Sub.pick [(Am bb (vP bb 0) nS)] [0] rfl) ⟨rfl, rfl⟩
def KJ (_ : Nat) (n : Int) : Option (List UInt8) := ck (-9223372036854775808 ≤ (0 + n) ∧ (0 + n) ≤ 9223372036854775807) (ck (0 ≤ (0 + n) ∧ (0 + n) ≤ 140737488355328) (some ((([] : List UInt8)).take (([] : List UInt8)).length ++ (([] : List UInt8)).drop (([] : List UInt8)).length)))
theorem Wr (N n r) (hM : KJ N n = some r) (ro : Ro) (bb : Nat) : Does prog 395 #[vP bb 0, vI n] ro (Am bb (vP bb 0) nS) (pO (Am bb (vP bb 0) nS) (oS 5 encYs r fun s_0 => (oE (vT #[]) [(Am bb (vP bb 0) s_0)]))) := by
 unfold KJ at hM
 refine BU follows func395 rfl 30 rfl _ fz2 (fun _ _ h_ _ => h_) (fun base0_ => ?_)
 refine Aa fun K1 hK1 => BA [(some 13, false)] (conG prog [(13, fun _ _ v_ L_ U_ => (iL 5 ((0 + n)).toNat) v_ L_ U_)]) [] (by decide +kernel) (fun hn => Ba) <| rm 4 [0] rfl <| r_W (vI 0) rfl (Rb rfl rfl rfl) <| r_X (vI 0) rfl (Ot rfl (by decide) (by decide)) rfl <| rn 1 rfl <| kC hM fun ck2 hM => rX ck2 rfl <| kC hM fun ck3 hM => lC (Ls := [(Am bb (vP bb 0) nS)]) (ps := #[3]) (t := 38) 5 (0 + n) rfl rfl rfl (VK rfl) func403 (by kernel_rfl) (by kernel_rfl) (by kernel_rfl) (by kernel_rfl) rfl ck3 (fun _ _ _ _ _ => Iff.rfl) (fun s5 S6 xs4 _ H7 => ?_)
 refine rm 4 [0] rfl <| rL (.inl ⟨rfl, rfl⟩) rfl <| r_W (Fy s5 0 ((((([] : List UInt8)).length : Int)).toNat) 1) rfl (GE (Hz rfl rfl rfl rfl (Sl.shp H7) (by exact ⟨by decide, Int.natCast_nonneg _⟩))) <| rz rfl <| hK1 _ _ ?_
 refine A_sc [(some 25, true)] (conG prog [(25, fun _ _ v_ L_ U_ => (pUp (fun v_ U_ => v_ = .int .i64 ((min (([] : List UInt8)).length (([] : List UInt8)).length : Nat) : Int) ∧ Sl 5 encYs (Fy s5 0 ((((([] : List UInt8)).length : Int)).toNat) 1) ((([] : List UInt8)).take (([] : List UInt8)).length ++ (([] : List UInt8)).drop (([] : List UInt8)).length) U_ ∧ U_.map (·.1) = S6.map (·.1))) v_ L_ U_)]) <| rm 5 [0] rfl ?_
 refine lG (Ls := [(Am bb (vP bb 0) nS), S6]) 1 (En := encYs) (ys := ([] : List UInt8)) rfl rfl rfl rfl rfl rfl (Sl.take00 H7) (.inl ⟨rfl, rfl⟩) (fun _ _ _ => .inl ⟨rfl, rfl⟩) rfl rfl rfl rfl (fun _ _ _ _ _ => Iff.rfl) (fun S9 H10 => ?_)
 refine As <| Ar <| rn 4 rfl <| r_s (List.flatten [(Am bb (vP bb 0) (Fy s5 0 ((((([] : List UInt8)).length : Int)).toNat) 1)), S9]) 0 _ _ _ _ _ (#[vP bb 0, Fy s5 0 ((((([] : List UInt8)).length : Int)).toNat) 1]) rfl rfl rfl (AI rfl (Sl.shp H10)) (.ofS rfl rfl (Ab (Shp.one (Sl.shp H10)) Bh)) rfl rfl <| As ?_
 cases hM
 refine UD (v0 := vT #[]) (O := [S9, (Am bb (vP bb 0) (Fy s5 0 ((((([] : List UInt8)).length : Int)).toNat) 1))]) rfl (Sub.pick [(Am bb (vP bb 0) (Fy s5 0 ((((([] : List UInt8)).length : Int)).toNat) 1)), S9] [1, 0] rfl) ⟨Fy s5 0 ((((([] : List UInt8)).length : Int)).toNat) 1, S9, _, H10, ⟨rfl, rfl⟩, rfl⟩
def LW (N : Nat) (n : Int) : Option (List UInt8) := ck ((-9223372036854775808 ≤ (0 - ((([] : List UInt8)).length : Int)) ∧ (0 - ((([] : List UInt8)).length : Int)) ≤ 9223372036854775807)) (if ((0 - ((([] : List UInt8)).length : Int)) : Int) < n then (KJ N n).bind fun r7 => some r7 else some ([] : List UInt8))
def KK (N : Nat) (n : Int) : Option (List UInt8) := (Iw N ).bind fun r2 => if n < 0 then none else LW N n 
theorem Ws (N n r) (hM : KK N n = some r) (ro : Ro) (bb : Nat) : Does prog 380 #[vP bb 0, vI n] ro (Am bb (Value.pointer none) nS) (pO (Am bb (Value.pointer none) nS) (oS 5 encYs r fun s_0 => (oE (vT #[]) [(Am bb (vP bb 0) s_0)]))) := by
 unfold KK at hM
 refine BU follows func380 rfl 25 rfl _ fz2 (fun _ _ h_ _ => h_) (fun base0_ => ?_)
 refine A_sc [(some 5, true)] (conG prog [(5, fun _ _ v_ L_ U_ => (pO (List.flatten [(Am bb (Value.pointer none) nS)]) (oE (vT #[]) [(Am bb (vP bb 0) nS)])) v_ L_ U_)]) <| rn 1 rfl <| kB hM fun r2 hr3 hM => Ju (Ls := [(Am bb (Value.pointer none) nS)]) (FL := [(Am bb (Value.pointer none) nS)]) [0] _ (some 5) 394 _ rfl rfl rfl rfl rfl (cF SE) (fun o w hn_ z_ => Pv N  _ hr3 _ bb) (fun _ _ _ _ _ => Iff.rfl) (fun h_ => nomatch h_) ?_
 rintro _ _ ⟨rfl, rfl⟩
 refine AX (Ls := [(Am bb (vP bb 0) nS)]) (Ls' := [(Am bb (vP bb 0) nS)]) [0] rfl rfl <| As <| Cr (fun tt ll => (LW N n  = some r) ∧ Is [(0, vP bb 0), (1, vI n)] (Am bb (vP bb 0) nS) tt ll) ?_ ?_
 ·refine AZ rfl <| aD hM rfl (fun hc13 hM => ?_) (fun hc13 hM => ?_)
  ·refine Ar <| rn 1 rfl ?_
   cases hM
  refine Af <| fg _ (Sub.of (suK _ suN)) ?_
  exact ⟨hM, Ak rfl rfl⟩
 clear hM; rintro t l ⟨hM, ⟨T, rfl⟩, rfl⟩
 unfold LW at hM
 refine Aa fun K4 hK4 => Lz [] (by decide +kernel) (fun hn => Ba) <| rm 4 [0] rfl <| r_W (vI 0) rfl (Rb rfl rfl rfl) <| rm 4 [0] rfl <| rL (.inl ⟨rfl, rfl⟩) rfl <| kC hM fun ck5 hM => rX ck5 rfl <| rz rfl <| hK4 _ _ ?_
 refine aD hM rfl (fun hc6 hM => ?_) (fun hc6 hM => ?_)
 ·refine A_regC [(some 24, true)] (conG prog [(24, fun _ _ v_ L_ U_ => ∀ u0_, KJ N n = some u0_ → (pO (List.flatten [(Am bb (vP bb 0) nS)]) (oS 5 encYs u0_ fun s_0 => (oE (vT #[]) [(Am bb (vP bb 0) s_0)]))) v_ L_ U_)]) <| rn 2 rfl <| kB hM fun r7 hr8 hM => Ju (Ls := [(Am bb (vP bb 0) nS)]) (FL := [(Am bb (vP bb 0) nS)]) [0] _ (some 24) 395 _ rfl rfl rfl rfl rfl (cF cX) (fun o w hn_ z_ => Wr N n _ hr8 _ bb) (Ao hr8) (fun h_ => nomatch h_) ?_
  rintro _ _ ⟨s9, S10, _, H11, ⟨rfl, rfl⟩, rfl⟩
  refine AX (Ls := [S10, (Am bb (vP bb 0) s9)]) (Ls' := [(Am bb (vP bb 0) s9), S10]) [1, 0] rfl rfl <| As ?_
  cases hM
  refine UD (v0 := vT #[]) (O := [S10, (Am bb (vP bb 0) s9)]) rfl (Sub.pick [(Am bb (vP bb 0) s9), S10] [1, 0] rfl) ⟨s9, S10, _, H11, ⟨rfl, rfl⟩, rfl⟩
 refine Af ?_
 cases hM
 refine UD (v0 := vT #[]) (O := [[], (Am bb (vP bb 0) nS)]) rfl (Sub.pickE (Ls := [(Am bb (vP bb 0) nS), []]) (Ls0 := [(Am bb (vP bb 0) nS)]) rfl [1, 0] rfl) ⟨nS, [], _, Sl.nil, ⟨rfl, rfl⟩, rfl⟩
def Gp (N : Nat) (c : Int) (x1_ : Bool) : Option Int := if x1_ = true then some (IntKind.i32.wrap (c + 32)) else (Cg N c 1024 1039).bind fun r11 => if r11 = true then some (IntKind.i32.wrap (c + 80)) else if c = 962 then some 963 else some c
def KN (N : Nat) (c : Int) : Option Int := (IL N c).bind fun r4 => if r4 = true then (Cg N c 65 90).bind fun r20 => if r20 = true then Gp N c r20 else (Cg N c 192 222).bind fun r24 => if r24 = true then Gp N c r24 else (Cg N c 913 937).bind fun r28 => if r28 = true then Gp N c r28 else (Cg N c 1040 1071).bind fun r31 => Gp N c r31 else some c
theorem WE (N c r) (hM : KN N c = some r) : Gives prog 382 #[Value.int .i32 c] (Value.int .i32 r) := by
 unfold KN at hM
 refine Aq follows func382 rfl 28 rfl _ fz1 (fun base0_ => ?_)
 refine AZ rfl <| Aa fun K2 hK2 => Aj <| Ai <| rn 1 rfl <| kB hM fun r4 hr5 hM => rc _ (cF XK) (NP N c _ hr5) <| rz rfl <| AB _ rfl (fun hc6 => ?_) (fun hc6 => ?_)
 ·replace hM := ifn (Bool.eq_false_iff.1 (EF hc6)) hM
  refine AZ rfl ?_
  cases hM
  exact aR eE1
 replace hM := ifp (EG hc6) hM
 refine Cr (fun tt ll => ∃ (x1_ : Bool), (Gp N c x1_ = some r) ∧ Is [(0, Value.int .i32 c), (8, vB x1_)] [] tt ll) ?_ ?_
 ·refine Ai <| rn 1 rfl <| kB hM fun r20 hr21 hM => rc _ (cF Gg) (CL N c 65 90 _ hr21) <| rz rfl <| aB hM rfl (fun hc22 hM => ?_) (fun hc22 hM => ?_)
  ·refine Af <| fg _ (Sub.of suN) ?_
   exact ⟨r20, hM, Ak rfl rfl⟩
  refine Ai <| rn 1 rfl <| kB hM fun r24 hr25 hM => rc _ (cF Gg) (CL N c 192 222 _ hr25) <| rz rfl <| aB hM rfl (fun hc26 hM => ?_) (fun hc26 hM => ?_)
  ·refine Af <| fg _ (Sub.of suN) ?_
   exact ⟨r24, hM, Ak rfl rfl⟩
  refine Ai <| rn 1 rfl <| kB hM fun r28 hr29 hM => rc _ (cF Gg) (CL N c 913 937 _ hr29) <| rz rfl <| aB hM rfl (fun hc30 hM => ?_) (fun hc30 hM => ?_)
  ·refine Af <| fg _ (Sub.of suN) ?_
   exact ⟨r28, hM, Ak rfl rfl⟩
  refine Ar <| rn 1 rfl <| kB hM fun r31 hr32 hM => rc _ (cF Gg) (CL N c 1040 1071 _ hr32) <| rz rfl <| fg _ (Sub.of suN) ?_
  exact ⟨r31, hM, Ak rfl rfl⟩
 clear hM; rintro t l ⟨x1_, hM, ⟨T, rfl⟩, rfl⟩
 unfold Gp at hM
 refine aB hM rfl (fun hc8 hM => ?_) (fun hc8 hM => ?_)
 ·refine AZ rfl ?_
  cases hM
  exact aR eE1
 refine Ai <| rn 1 rfl <| kB hM fun r11 hr12 hM => rc _ (cF Gg) (CL N c 1024 1039 _ hr12) <| rz rfl <| aB hM rfl (fun hc13 hM => ?_) (fun hc13 hM => ?_)
 ·refine AZ rfl ?_
  cases hM
  exact aR eE1
 refine AZ rfl <| aE hM rfl (fun hc16 hM => ?_) (fun hc16 hM => ?_)
 ·refine AZ rfl ?_
  cases hM
  exact aR eE1
 refine Af <| hK2 _ _ ?_
 refine AZ rfl ?_
 cases hM
 exact aR eE1
def Gj (_ : Nat) (b : List UInt8) : Option (List UInt8) := some b
theorem Pu (N b r) (hM : Gj N b = some r) (ro : Ro) (bb : Nat) (bv : Value) (Sb : List Bl) (hb : Sl 5 encYs bv b Sb) : Does prog 394 #[vP bb 0] ro (List.flatten [(Am bb (Value.pointer none) bv), Sb]) (pO (List.flatten [(Am bb (Value.pointer none) bv), Sb]) (oI 5 encYs bv r (oE (vT #[]) [(Am bb (vP bb 0) bv)]))) := by
 unfold Gj at hM
 refine BU follows func394 rfl 20 rfl _ fz1 (fun _ _ h_ _ => h_) (fun base0_ => ?_)
 refine AY [0] rfl <| AB true rfl (fun _ => ?_) (fun h_ => nomatch h_)
 refine A_regC [(some 9, true), (some 10, true), (some 11, true)] (conG prog [(9, fun _ _ v_ L_ U_ => (pUp (fun v_ U_ => v_ = vP bb 0 ∧ U_ = (Am bb (Value.pointer none) bv))) v_ L_ U_), (10, fun _ _ v_ L_ U_ => (pUp (fun v_ U_ => v_ = vP bb 0 ∧ U_ = (Am bb (Value.pointer none) bv))) v_ L_ U_), (11, fun _ _ v_ L_ U_ => (pUp (fun v_ U_ => v_ = vP bb 0 ∧ U_ = (Am bb (Value.pointer none) bv))) v_ L_ U_)]) <| rn 2 rfl <| an (Ls := [(Am bb (Value.pointer none) bv), Sb]) (vP bb 0) 0 rfl rfl rfl rfl rfl (Zl (TB := 453) (cs := #[Value.pointer none, bv]) rfl rfl rfl rfl rfl rfl rfl (List.mem_singleton.2 rfl)) (fun _ _ _ _ _ => Iff.rfl) ?_
 refine an (Ls := [(Am bb (Value.pointer none) bv), Sb]) (vP bb 0) 0 rfl rfl rfl rfl rfl (fun w_ _ => UR (args := #[vP bb 0]) (e := Extern.AbiNoEscape.same) (w' := w_) (VK rfl) func402 (by kernel_rfl) (by kernel_rfl) (by kernel_rfl) (by kernel_rfl) rfl) (fun _ _ _ _ _ => Iff.rfl) <| an (Ls := [(Am bb (Value.pointer none) bv), Sb]) (vP bb 0) 0 rfl rfl rfl rfl rfl (Up (TB := 453) (cs := #[Value.pointer none, bv]) 2 rfl rfl rfl rfl rfl (List.mem_singleton.2 rfl) rfl (by kernel_rfl)) (fun _ _ _ _ _ => Iff.rfl) <| rn 2 rfl ?_
 refine ry [0] rfl ?_
 cases hM
 refine UD (v0 := vT #[]) (O := [Sb, (Am bb (vP bb 0) bv)]) rfl (Sub.pick [(Am bb (vP bb 0) bv), Sb] [1, 0] rfl) ⟨Sb, _, hb, ⟨rfl, rfl⟩, rfl⟩
def im (p : List UInt8) (r' : Int) (x3_ : Bool) : Option (List UInt8) := if x3_ = true then ck ((0 : Int) ≤ ((18#64).toNat : Int)) (ck ((0 : Int) ≤ ((12#64).toNat : Int)) (ck ((0 : Int) ≤ ((6#64).toNat : Int)) (ck ((p).length + ([((240 : UInt8) ||| (byteI (CU r' 18))), ((128 : UInt8) ||| ((byteI (CU r' 12)) &&& (63 : UInt8))), ((128 : UInt8) ||| ((byteI (CU r' 6)) &&& (63 : UInt8))), ((128 : UInt8) ||| ((byteI r') &&& (63 : UInt8)))]).length ≤ 140737488355328) (some ((p ++ ([((240 : UInt8) ||| (byteI (CU r' 18))), ((128 : UInt8) ||| ((byteI (CU r' 12)) &&& (63 : UInt8))), ((128 : UInt8) ||| ((byteI (CU r' 6)) &&& (63 : UInt8))), ((128 : UInt8) ||| ((byteI r') &&& (63 : UInt8)))]))))))) else ck ((p).length + ([(239 : UInt8), (191 : UInt8), (189 : UInt8)]).length ≤ 140737488355328) (some (p ++ ([(239 : UInt8), (191 : UInt8), (189 : UInt8)])))
def bg (p : List UInt8) (r' : Int) (x1_ : Bool) : Option (List UInt8) := if x1_ = true then ck ((0 : Int) ≤ ((12#64).toNat : Int)) (ck ((0 : Int) ≤ ((6#64).toNat : Int)) (ck ((p).length + ([((224 : UInt8) ||| (byteI (CU r' 12))), ((128 : UInt8) ||| ((byteI (CU r' 6)) &&& (63 : UInt8))), ((128 : UInt8) ||| ((byteI r') &&& (63 : UInt8)))]).length ≤ 140737488355328) (some ((p ++ ([((224 : UInt8) ||| (byteI (CU r' 12))), ((128 : UInt8) ||| ((byteI (CU r' 6)) &&& (63 : UInt8))), ((128 : UInt8) ||| ((byteI r') &&& (63 : UInt8)))])))))) else if ((((Ir r').toNat : Nat) : Int) : Int) > 65535 then im p r' (decide (((((Ir r').toNat : Nat) : Int) : Int) ≤ 1114111)) else im p r' false
def uNm (_ : Nat) (p : List UInt8) (r' : Int) : Option (List UInt8) := if ((((Ir r').toNat : Nat) : Int) : Int) ≤ 2047 then ck ((0 : Int) ≤ ((6#64).toNat : Int)) (ck ((p).length + ([((192 : UInt8) ||| (byteI (CU r' 6))), ((128 : UInt8) ||| ((byteI r') &&& (63 : UInt8)))]).length ≤ 140737488355328) (some ((p ++ ([((192 : UInt8) ||| (byteI (CU r' 6))), ((128 : UInt8) ||| ((byteI r') &&& (63 : UInt8)))]))))) else if ((((Ir r').toNat : Nat) : Int) : Int) < 55296 then bg p r' (decide (((((Ir r').toNat : Nat) : Int) : Int) < 55296)) else if (57343 : Int) < (((Ir r').toNat : Nat) : Int) then bg p r' (decide (((((Ir r').toNat : Nat) : Int) : Int) ≤ 65535)) else bg p r' false
theorem uNg (N p r' r) (hM : uNm N p r' = some r) (ro : Ro) (pv : Value) (Sp : List Bl) (hp : Sl 5 encYs pv p Sp) : Does prog 404 #[pv, Value.int .i32 r'] ro (List.flatten [Sp]) (pO (List.flatten [Sp]) (oS 5 encYs r fun s_0 => (oE s_0 []))) := by
 unfold uNm at hM
 refine BU follows func404 rfl 78 rfl _ fz2 (fun _ _ h_ _ => h_) (fun base0_ => ?_)
 refine AZ rfl <| Ai <| rn 1 rfl <| r_w (Value.int .u32 (((Ir r').toNat : Nat) : Int)) rfl rfl (Ym r') (fun _ => rfl) <| rz rfl <| Aj <| AZ rfl <| aD hM rfl (fun hc4 hM => ?_) (fun hc4 hM => ?_)
 ·refine A_sc [(some 23, false), (some 24, true)] (conG prog []) <| rn 2 rfl <| kC hM fun ck6 hM => r_W (Value.int .i32 (CU r' 6)) rfl (NB (x := r') 6 rfl rfl) <| r_w (Value.int .u8 ((((byteI (CU r' 6)).toNat : Nat) : Int))) rfl rfl (GS (CU r' 6)) (fun _ => rfl) <| r_X (Value.int .u8 (((((192 : UInt8) ||| (byteI (CU r' 6))).toNat : Nat) : Int))) rfl (Wd (192 : UInt8) (byteI (CU r' 6))) rfl <| rn 1 rfl <| r_w (Value.int .u8 (((byteI r').toNat : Nat) : Int)) rfl rfl (GS r') (fun _ => rfl) <| r_X (Value.int .u8 (((((byteI r') &&& (63 : UInt8)).toNat : Nat) : Int))) rfl (UI (byteI r') (63 : UInt8)) rfl ?_
  refine r_X (Value.int .u8 (((((128 : UInt8) ||| ((byteI r') &&& (63 : UInt8))).toNat : Nat) : Int))) rfl (Wd (128 : UInt8) ((byteI r') &&& (63 : UInt8))) rfl <| BF (cs0 := []) (Ls := [Sp]) 5 encY [((192 : UInt8) ||| (byteI (CU r' 6))), ((128 : UInt8) ||| ((byteI r') &&& (63 : UInt8)))] [Value.int .u8 (((((192 : UInt8) ||| (byteI (CU r' 6))).toNat : Nat) : Int)), Value.int .u8 (((((128 : UInt8) ||| ((byteI r') &&& (63 : UInt8))).toNat : Nat) : Int))] [Value.int .u8 0, Value.int .u8 0] rfl rfl rfl rfl rfl rfl rfl (by kernel_rfl) (by kernel_rfl) rfl rfl rfl (fun s7 S8 H9 => ?_)
  refine kC hM fun ck10 hM => Dg (cs0 := []) (Ls := [Sp, S8]) 0 (En := encYs) rfl rfl rfl rfl rfl hp rfl (fun o w z_ => LF ((Ap H9 (Ad (Ls := [Sp, S8]) (k := 1) rfl rfl)) o w z_)) rfl rfl rfl rfl rfl (Dk ck10 rfl) (Dj ck10 rfl) rfl (fun s11 S12 H13 => ?_)
  refine rz rfl ?_
  cases hM
  refine Au (fun hn => Ge (v0 := s11) (O := [S12]) (AV rfl) (Sub.pick [S12, S8] [0] rfl) ⟨s11, S12, _, H13, ⟨rfl, rfl⟩, rfl⟩)
 refine Cr (fun tt ll => ∃ (x1_ : Bool), (bg p r' x1_ = some r) ∧ Is [(0, pv), (1, Value.int .i32 r'), (5, Value.int .u32 (((Ir r').toNat : Nat) : Int)), (25, vB x1_)] (List.flatten [Sp]) tt ll) ?_ ?_
 ·refine AZ rfl <| aD hM rfl (fun hc47 hM => ?_) (fun hc47 hM => ?_)
  ·refine Af <| fg _ (Sub.pick [Sp] [0] rfl) ?_
   exact ⟨decide (((((Ir r').toNat : Nat) : Int) : Int) < 55296), hM, Ak rfl rfl⟩
  refine Ar <| rn 3 rfl ?_
  rcases hg48 : (decide ((57343 : Int) < (((Ir r').toNat : Nat) : Int))) with _ | _
  ·replace hM := iF hg48 hM
   refine rz rfl <| fg _ (Sub.pick [Sp] [0] rfl) ?_
   exact ⟨false, hM, Ak (by first | rfl | (simp only [hg48]; done) | (simp only [hg48]; rfl) | (simp only [CZ]; rfl)) rfl⟩
  replace hM := iD hg48 hM
  refine rz rfl <| fg _ (Sub.pick [Sp] [0] rfl) ?_
  exact ⟨decide (((((Ir r').toNat : Nat) : Int) : Int) ≤ 65535), hM, Ak (by first | rfl | (simp only [hg48]; done) | (simp only [hg48]; rfl) | (simp only [CZ]; rfl)) rfl⟩
 clear hM; rintro t l ⟨x1_, hM, ⟨T, rfl⟩, rfl⟩
 unfold bg at hM
 refine aB hM rfl (fun hc14 hM => ?_) (fun hc14 hM => ?_)
 ·refine A_sc [(some 48, false), (some 49, true)] (conG prog []) <| rn 2 rfl <| kC hM fun ck16 hM => r_W (Value.int .i32 (CU r' 12)) rfl (NB (x := r') 12 rfl rfl) <| r_w (Value.int .u8 ((((byteI (CU r' 12)).toNat : Nat) : Int))) rfl rfl (GS (CU r' 12)) (fun _ => rfl) <| r_X (Value.int .u8 (((((224 : UInt8) ||| (byteI (CU r' 12))).toNat : Nat) : Int))) rfl (Wd (224 : UInt8) (byteI (CU r' 12))) rfl <| rn 1 rfl <| kC hM fun ck17 hM => r_W (Value.int .i32 (CU r' 6)) rfl (NB (x := r') 6 rfl rfl) <| r_w (Value.int .u8 ((((byteI (CU r' 6)).toNat : Nat) : Int))) rfl rfl (GS (CU r' 6)) (fun _ => rfl) <| r_X (Value.int .u8 (((((byteI (CU r' 6)) &&& (63 : UInt8)).toNat : Nat) : Int))) rfl (UI (byteI (CU r' 6)) (63 : UInt8)) rfl <| r_X (Value.int .u8 (((((128 : UInt8) ||| ((byteI (CU r' 6)) &&& (63 : UInt8))).toNat : Nat) : Int))) rfl (Wd (128 : UInt8) ((byteI (CU r' 6)) &&& (63 : UInt8))) rfl <| rn 1 rfl <| r_w (Value.int .u8 (((byteI r').toNat : Nat) : Int)) rfl rfl (GS r') (fun _ => rfl) ?_
  refine r_X (Value.int .u8 (((((byteI r') &&& (63 : UInt8)).toNat : Nat) : Int))) rfl (UI (byteI r') (63 : UInt8)) rfl <| r_X (Value.int .u8 (((((128 : UInt8) ||| ((byteI r') &&& (63 : UInt8))).toNat : Nat) : Int))) rfl (Wd (128 : UInt8) ((byteI r') &&& (63 : UInt8))) rfl ?_
  refine BF (cs0 := []) (Ls := [Sp]) 5 encY [((224 : UInt8) ||| (byteI (CU r' 12))), ((128 : UInt8) ||| ((byteI (CU r' 6)) &&& (63 : UInt8))), ((128 : UInt8) ||| ((byteI r') &&& (63 : UInt8)))] [Value.int .u8 (((((224 : UInt8) ||| (byteI (CU r' 12))).toNat : Nat) : Int)), Value.int .u8 (((((128 : UInt8) ||| ((byteI (CU r' 6)) &&& (63 : UInt8))).toNat : Nat) : Int)), Value.int .u8 (((((128 : UInt8) ||| ((byteI r') &&& (63 : UInt8))).toNat : Nat) : Int))] [Value.int .u8 0, Value.int .u8 0, Value.int .u8 0] rfl rfl rfl rfl rfl rfl rfl (by kernel_rfl) (by kernel_rfl) rfl rfl rfl (fun s18 S19 H20 => ?_)
  refine kC hM fun ck21 hM => Dg (cs0 := []) (Ls := [Sp, S19]) 0 (En := encYs) rfl rfl rfl rfl rfl hp rfl (fun o w z_ => LF ((Ap H20 (Ad (Ls := [Sp, S19]) (k := 1) rfl rfl)) o w z_)) rfl rfl rfl rfl rfl (Dk ck21 rfl) (Dj ck21 rfl) rfl (fun s22 S23 H24 => ?_)
  refine rz rfl ?_
  cases hM
  refine Au (fun hn => Ge (v0 := s22) (O := [S23]) (AV rfl) (Sub.pick [S23, S19] [0] rfl) ⟨s22, S23, _, H24, ⟨rfl, rfl⟩, rfl⟩)
 refine Cr (fun tt ll => ∃ (x3_ : Bool), (im p r' x3_ = some r) ∧ Is [(0, pv), (1, Value.int .i32 r'), (50, vB x3_)] (List.flatten [Sp]) tt ll) ?_ ?_
 ·refine Ar <| rn 3 rfl ?_
  rcases hg45 : (decide (((((Ir r').toNat : Nat) : Int) : Int) > 65535)) with _ | _
  ·replace hM := iF hg45 hM
   refine rz rfl <| fg _ (Sub.pick [Sp] [0] rfl) ?_
   exact ⟨false, hM, Ak (by first | rfl | (simp only [hg45]; done) | (simp only [hg45]; rfl) | (simp only [CZ]; rfl)) rfl⟩
  replace hM := iD hg45 hM
  refine rz rfl <| fg _ (Sub.pick [Sp] [0] rfl) ?_
  exact ⟨decide (((((Ir r').toNat : Nat) : Int) : Int) ≤ 1114111), hM, Ak (by first | rfl | (simp only [hg45]; done) | (simp only [hg45]; rfl) | (simp only [CZ]; rfl)) rfl⟩
 clear hM; rintro t l ⟨x3_, hM, ⟨T, rfl⟩, rfl⟩
 unfold im at hM
 refine aB hM rfl (fun hc25 hM => ?_) (fun hc25 hM => ?_)
 ·refine A_sc [(some 76, false), (some 77, true)] (conG prog []) <| rn 2 rfl <| kC hM fun ck27 hM => r_W (Value.int .i32 (CU r' 18)) rfl (NB (x := r') 18 rfl rfl) <| r_w (Value.int .u8 ((((byteI (CU r' 18)).toNat : Nat) : Int))) rfl rfl (GS (CU r' 18)) (fun _ => rfl) <| r_X (Value.int .u8 (((((240 : UInt8) ||| (byteI (CU r' 18))).toNat : Nat) : Int))) rfl (Wd (240 : UInt8) (byteI (CU r' 18))) rfl <| rn 1 rfl <| kC hM fun ck28 hM => r_W (Value.int .i32 (CU r' 12)) rfl (NB (x := r') 12 rfl rfl) <| r_w (Value.int .u8 ((((byteI (CU r' 12)).toNat : Nat) : Int))) rfl rfl (GS (CU r' 12)) (fun _ => rfl) <| r_X (Value.int .u8 (((((byteI (CU r' 12)) &&& (63 : UInt8)).toNat : Nat) : Int))) rfl (UI (byteI (CU r' 12)) (63 : UInt8)) rfl <| r_X (Value.int .u8 (((((128 : UInt8) ||| ((byteI (CU r' 12)) &&& (63 : UInt8))).toNat : Nat) : Int))) rfl (Wd (128 : UInt8) ((byteI (CU r' 12)) &&& (63 : UInt8))) rfl <| rn 1 rfl <| kC hM fun ck29 hM => r_W (Value.int .i32 (CU r' 6)) rfl (NB (x := r') 6 rfl rfl) <| r_w (Value.int .u8 ((((byteI (CU r' 6)).toNat : Nat) : Int))) rfl rfl (GS (CU r' 6)) (fun _ => rfl) <| r_X (Value.int .u8 (((((byteI (CU r' 6)) &&& (63 : UInt8)).toNat : Nat) : Int))) rfl (UI (byteI (CU r' 6)) (63 : UInt8)) rfl <| r_X (Value.int .u8 (((((128 : UInt8) ||| ((byteI (CU r' 6)) &&& (63 : UInt8))).toNat : Nat) : Int))) rfl (Wd (128 : UInt8) ((byteI (CU r' 6)) &&& (63 : UInt8))) rfl <| rn 1 rfl <| r_w (Value.int .u8 (((byteI r').toNat : Nat) : Int)) rfl rfl (GS r') (fun _ => rfl) ?_
  refine r_X (Value.int .u8 (((((byteI r') &&& (63 : UInt8)).toNat : Nat) : Int))) rfl (UI (byteI r') (63 : UInt8)) rfl <| r_X (Value.int .u8 (((((128 : UInt8) ||| ((byteI r') &&& (63 : UInt8))).toNat : Nat) : Int))) rfl (Wd (128 : UInt8) ((byteI r') &&& (63 : UInt8))) rfl ?_
  refine BF (cs0 := []) (Ls := [Sp]) 5 encY [((240 : UInt8) ||| (byteI (CU r' 18))), ((128 : UInt8) ||| ((byteI (CU r' 12)) &&& (63 : UInt8))), ((128 : UInt8) ||| ((byteI (CU r' 6)) &&& (63 : UInt8))), ((128 : UInt8) ||| ((byteI r') &&& (63 : UInt8)))] [Value.int .u8 (((((240 : UInt8) ||| (byteI (CU r' 18))).toNat : Nat) : Int)), Value.int .u8 (((((128 : UInt8) ||| ((byteI (CU r' 12)) &&& (63 : UInt8))).toNat : Nat) : Int)), Value.int .u8 (((((128 : UInt8) ||| ((byteI (CU r' 6)) &&& (63 : UInt8))).toNat : Nat) : Int)), Value.int .u8 (((((128 : UInt8) ||| ((byteI r') &&& (63 : UInt8))).toNat : Nat) : Int))] [Value.int .u8 0, Value.int .u8 0, Value.int .u8 0, Value.int .u8 0] rfl rfl rfl rfl rfl rfl rfl (by kernel_rfl) (by kernel_rfl) rfl rfl rfl (fun s30 S31 H32 => ?_)
  refine kC hM fun ck33 hM => Dg (cs0 := []) (Ls := [Sp, S31]) 0 (En := encYs) rfl rfl rfl rfl rfl hp rfl (fun o w z_ => LF ((Ap H32 (Ad (Ls := [Sp, S31]) (k := 1) rfl rfl)) o w z_)) rfl rfl rfl rfl rfl (Dk ck33 rfl) (Dj ck33 rfl) rfl (fun s34 S35 H36 => ?_)
  refine rz rfl ?_
  cases hM
  refine Au (fun hn => Ge (v0 := s34) (O := [S35]) (AV rfl) (Sub.pick [S35, S31] [0] rfl) ⟨s34, S35, _, H36, ⟨rfl, rfl⟩, rfl⟩)
 refine A_sc [(some 9, false), (some 10, true)] (conG prog []) <| rn 1 rfl <| BF (cs0 := []) (Ls := [Sp]) 5 encY [(239 : UInt8), (191 : UInt8), (189 : UInt8)] [Value.int .u8 239, Value.int .u8 191, Value.int .u8 189] [Value.int .u8 0, Value.int .u8 0, Value.int .u8 0] rfl rfl rfl rfl rfl rfl rfl (by kernel_rfl) (by kernel_rfl) rfl rfl rfl (fun s38 S39 H40 => ?_)
 refine kC hM fun ck41 hM => Dg (cs0 := []) (Ls := [Sp, S39]) 0 (En := encYs) rfl rfl rfl rfl rfl hp rfl (fun o w z_ => LF ((Ap H40 (Ad (Ls := [Sp, S39]) (k := 1) rfl rfl)) o w z_)) rfl rfl rfl rfl rfl (Dk ck41 rfl) (Dj ck41 rfl) rfl (fun s42 S43 H44 => ?_)
 refine rz rfl ?_
 cases hM
 refine Au (fun hn => Ge (v0 := s42) (O := [S43]) (AV rfl) (Sub.pick [S43, S39] [0] rfl) ⟨s42, S43, _, H44, ⟨rfl, rfl⟩, rfl⟩)
def Pr (N : Nat) (p : List UInt8) (r' : Int) : Option (List UInt8) := if ((((Ir r').toNat : Nat) : Int) : Int) ≤ 127 then ck ((p).length + ([(byteI r')]).length ≤ 140737488355328) (some (p ++ ([(byteI r')]))) else (uNm N p r').bind fun r14 => some r14
theorem bh (N p r' r) (hM : Pr N p r' = some r) (ro : Ro) (pv : Value) (Sp : List Bl) (hp : Sl 5 encYs pv p Sp) : Does prog 396 #[pv, Value.int .i32 r'] ro (List.flatten [Sp]) (pO (List.flatten [Sp]) (oS 5 encYs r fun s_0 => (oE s_0 []))) := by
 unfold Pr at hM
 refine BU follows func396 rfl 16 rfl _ fz2 (fun _ _ h_ _ => h_) (fun base0_ => ?_)
 refine AZ rfl <| Aa fun K2 hK2 => Ai <| rn 1 rfl <| r_w (Value.int .u32 (((Ir r').toNat : Nat) : Int)) rfl rfl (Ym r') (fun _ => rfl) <| rz rfl <| aD hM rfl (fun hc4 hM => ?_) (fun hc4 hM => ?_)
 ·refine A_sc [(some 11, false), (some 12, true)] (conG prog []) <| rn 2 rfl <| r_w (Value.int .u8 (((byteI r').toNat : Nat) : Int)) rfl rfl (GS r') (fun _ => rfl) <| BF (cs0 := []) (Ls := [Sp]) 5 encY [(byteI r')] [Value.int .u8 (((byteI r').toNat : Nat) : Int)] [Value.int .u8 0] rfl rfl rfl rfl rfl rfl rfl (by kernel_rfl) (by kernel_rfl) rfl rfl rfl (fun s6 S7 H8 => ?_)
  refine kC hM fun ck9 hM => Dg (cs0 := []) (Ls := [Sp, S7]) 0 (En := encYs) rfl rfl rfl rfl rfl hp rfl (fun o w z_ => LF ((Ap H8 (Ad (Ls := [Sp, S7]) (k := 1) rfl rfl)) o w z_)) rfl rfl rfl rfl rfl (Dk ck9 rfl) (Dj ck9 rfl) rfl (fun s10 S11 H12 => ?_)
  refine rz rfl ?_
  cases hM
  refine Au (fun hn => Ge (v0 := s10) (O := [S11]) (AV rfl) (Sub.pick [S11, S7] [0] rfl) ⟨s10, S11, _, H12, ⟨rfl, rfl⟩, rfl⟩)
 refine Af <| hK2 _ _ ?_
 refine A_sc [(some 15, true)] (conG prog [(15, fun _ _ v_ L_ U_ => ∀ u0_, uNm N p r' = some u0_ → (pO (List.flatten [Sp]) (oS 5 encYs u0_ fun s_0 => (oE s_0 []))) v_ L_ U_)]) <| rn 2 rfl <| kB hM fun r14 hr15 hM => Ju (Ls := [Sp]) (FL := [Sp]) [0] _ (some 15) 404 _ rfl rfl rfl rfl rfl (cF cU) (fun o w hn_ z_ => uNg N p r' _ hr15 _ pv Sp hp) (Ao hr15) (fun h_ => nomatch h_) ?_
 rintro s16 _ ⟨_, S17, _, H18, ⟨rfl, rfl⟩, rfl⟩
 refine AX (Ls := [S17]) (Ls' := [S17]) [0] rfl rfl <| rz rfl ?_
 cases hM
 refine Au (fun hn => Ge (v0 := s16) (O := [S17]) (AV rfl) (Sub.pick [S17] [0] rfl) ⟨s16, S17, _, H18, ⟨rfl, rfl⟩, rfl⟩)
def LD (N : Nat) (b : List UInt8) (r' : Int) : Option (Int × (List UInt8)) := (Gj N b).bind fun r3 => ck ((r3).length = (b).length) ((Pr N r3 r').bind fun r10 => ck ((-9223372036854775808 ≤ ((r10.length : Int) - (r3.length : Int)) ∧ ((r10.length : Int) - (r3.length : Int)) ≤ 9223372036854775807)) (some (((r10.length : Int) - (r3.length : Int)), r10)))
theorem Px (N b r' r) (hM : LD N b r' = some r) (ro : Ro) (bb : Nat) (bv : Value) (Sb : List Bl) (hb : Sl 5 encYs bv b Sb) : Does prog 381 #[vP bb 0, Value.int .i32 r'] ro (List.flatten [(Am bb (Value.pointer none) bv), Sb]) (pO (List.flatten [(Am bb (Value.pointer none) bv), Sb]) (oS 5 encYs r.2 fun s_0 => (oE (vT #[vI r.1, Value.nilIface]) [(Am bb (vP bb 0) s_0)]))) := by
 unfold LD at hM
 refine BU follows func381 rfl 30 rfl _ fz2 (fun _ _ h_ _ => h_) (fun base0_ => ?_)
 refine AZ rfl <| A_sc [(some 8, true)] (conG prog [(8, fun _ _ v_ L_ U_ => ∀ u0_, Gj N b = some u0_ → (pO (List.flatten [(Am bb (Value.pointer none) bv), Sb]) (oI 5 encYs bv u0_ (oE (vT #[]) [(Am bb (vP bb 0) bv)]))) v_ L_ U_)]) <| rn 1 rfl <| kB hM fun r3 hr4 hM => kC hM fun ck5 hM => Ju (Ls := [(Am bb (Value.pointer none) bv), Sb]) (FL := [(Am bb (Value.pointer none) bv), Sb]) [0, 1] _ (some 8) 394 _ rfl rfl rfl rfl rfl (cF SE) (fun o w hn_ z_ => Pu N b _ hr4 _ bb bv Sb hb) (Ao hr4) (fun h_ => nomatch h_) ?_
 rintro _ _ ⟨S6, _, H7, ⟨rfl, rfl⟩, rfl⟩
 refine AX (Ls := [S6, (Am bb (vP bb 0) bv)]) (Ls' := [(Am bb (vP bb 0) bv), S6]) [1, 0] rfl rfl <| As <| Ai <| rm 4 [0] rfl <| rL (Sl.shp H7) rfl <| rz rfl <| A_sc [(some 20, true)] (conG prog [(20, fun _ _ v_ L_ U_ => ∀ u0_, Pr N r3 r' = some u0_ → (pO (List.flatten [S6]) (oS 5 encYs u0_ fun s_0 => (oE s_0 []))) v_ L_ U_)]) <| rm 6 [0] rfl <| kB hM fun r10 hr11 hM => Ju (Ls := [(Am bb (vP bb 0) bv), S6]) (FL := [S6]) [1] _ (some 20) 396 _ rfl rfl rfl rfl rfl (cF XB) (fun o w hn_ z_ => bh N r3 r' _ hr11 _ bv S6 H7) (Ao hr11) (fun h_ => nomatch h_) ?_
 rintro s12 _ ⟨_, S13, _, H14, ⟨rfl, rfl⟩, rfl⟩
 refine AX (Ls := [(Am bb (vP bb 0) bv), S13]) (Ls' := [(Am bb (vP bb 0) bv), S13]) [0, 1] rfl rfl <| rn 2 rfl <| r_s (List.flatten [(Am bb (vP bb 0) s12), S13]) 0 _ _ _ _ _ (#[vP bb 0, s12]) rfl rfl rfl (AI rfl (Sl.shp H14)) (.ofS rfl rfl (Ab (Shp.one (Sl.shp H14)) Bh)) rfl rfl <| As <| Ai <| rm 4 [0] rfl <| rL (Sl.shp H14) rfl <| rn 1 rfl <| kC hM fun ck16 hM => rX ck16 rfl <| rz rfl <| DJ [(4, vI ((r10.length : Int) - (r3.length : Int))), (5, Value.nilIface)] rfl (fun T => ?_)
 cases hM
 refine Au (fun hn => Ge (v0 := vT #[vI ((r10.length : Int) - (r3.length : Int)), Value.nilIface]) (O := [S13, (Am bb (vP bb 0) s12)]) (JF rfl rfl) (Sub.pick [(Am bb (vP bb 0) s12), S13] [1, 0] rfl) ⟨s12, S13, _, H14, ⟨rfl, rfl⟩, rfl⟩)
def Gi (_ : Nat) (b : List UInt8) : Option (List UInt8) := some b
theorem Pt (N b r) (hM : Gi N b = some r) (ro : Ro) (bb : Nat) (bv : Value) (Sb : List Bl) (hb : Sl 5 encYs bv b Sb) : Does prog 394 #[vP bb 0] ro (List.flatten [(Am bb (vP bb 0) bv), Sb]) (pO (List.flatten [(Am bb (vP bb 0) bv), Sb]) (oI 5 encYs bv r (oE (vT #[]) [(Am bb (vP bb 0) bv)]))) := by
 unfold Gi at hM
 refine BU follows func394 rfl 20 rfl _ fz1 (fun _ _ h_ _ => h_) (fun base0_ => ?_)
 refine AY [0] rfl <| AB false rfl (fun h_ => nomatch h_) (fun _ => ?_)
 refine Ai <| rm 5 [0] rfl <| r_W (vB false) rfl (jh rfl rfl rfl rfl rfl) <| As <| AB false rfl (fun h_ => nomatch h_) (fun _ => ?_)
 refine Af ?_
 cases hM
 refine UD (v0 := vT #[]) (O := [Sb, (Am bb (vP bb 0) bv)]) rfl (Sub.pick [(Am bb (vP bb 0) bv), Sb] [1, 0] rfl) ⟨Sb, _, hb, ⟨rfl, rfl⟩, rfl⟩
def Ix (N : Nat) (b : List UInt8) (r' : Int) : Option (Int × (List UInt8)) := (Gi N b).bind fun r3 => ck ((r3).length = (b).length) ((Pr N r3 r').bind fun r10 => ck ((-9223372036854775808 ≤ ((r10.length : Int) - (r3.length : Int)) ∧ ((r10.length : Int) - (r3.length : Int)) ≤ 9223372036854775807)) (some (((r10.length : Int) - (r3.length : Int)), r10)))
theorem Pw (N b r' r) (hM : Ix N b r' = some r) (ro : Ro) (bb : Nat) (bv : Value) (Sb : List Bl) (hb : Sl 5 encYs bv b Sb) : Does prog 381 #[vP bb 0, Value.int .i32 r'] ro (List.flatten [(Am bb (vP bb 0) bv), Sb]) (pO (List.flatten [(Am bb (vP bb 0) bv), Sb]) (oS 5 encYs r.2 fun s_0 => (oE (vT #[vI r.1, Value.nilIface]) [(Am bb (vP bb 0) s_0)]))) := by
 unfold Ix at hM
 refine BU follows func381 rfl 30 rfl _ fz2 (fun _ _ h_ _ => h_) (fun base0_ => ?_)
 refine AZ rfl <| A_sc [(some 8, true)] (conG prog [(8, fun _ _ v_ L_ U_ => ∀ u0_, Gi N b = some u0_ → (pO (List.flatten [(Am bb (vP bb 0) bv), Sb]) (oI 5 encYs bv u0_ (oE (vT #[]) [(Am bb (vP bb 0) bv)]))) v_ L_ U_)]) <| rn 1 rfl <| kB hM fun r3 hr4 hM => kC hM fun ck5 hM => Ju (Ls := [(Am bb (vP bb 0) bv), Sb]) (FL := [(Am bb (vP bb 0) bv), Sb]) [0, 1] _ (some 8) 394 _ rfl rfl rfl rfl rfl (cF SE) (fun o w hn_ z_ => Pt N b _ hr4 _ bb bv Sb hb) (Ao hr4) (fun h_ => nomatch h_) ?_
 rintro _ _ ⟨S6, _, H7, ⟨rfl, rfl⟩, rfl⟩
 refine AX (Ls := [S6, (Am bb (vP bb 0) bv)]) (Ls' := [(Am bb (vP bb 0) bv), S6]) [1, 0] rfl rfl <| As <| Ai <| rm 4 [0] rfl <| rL (Sl.shp H7) rfl <| rz rfl <| A_sc [(some 20, true)] (conG prog [(20, fun _ _ v_ L_ U_ => ∀ u0_, Pr N r3 r' = some u0_ → (pO (List.flatten [S6]) (oS 5 encYs u0_ fun s_0 => (oE s_0 []))) v_ L_ U_)]) <| rm 6 [0] rfl <| kB hM fun r10 hr11 hM => Ju (Ls := [(Am bb (vP bb 0) bv), S6]) (FL := [S6]) [1] _ (some 20) 396 _ rfl rfl rfl rfl rfl (cF XB) (fun o w hn_ z_ => bh N r3 r' _ hr11 _ bv S6 H7) (Ao hr11) (fun h_ => nomatch h_) ?_
 rintro s12 _ ⟨_, S13, _, H14, ⟨rfl, rfl⟩, rfl⟩
 refine AX (Ls := [(Am bb (vP bb 0) bv), S13]) (Ls' := [(Am bb (vP bb 0) bv), S13]) [0, 1] rfl rfl <| rn 2 rfl <| r_s (List.flatten [(Am bb (vP bb 0) s12), S13]) 0 _ _ _ _ _ (#[vP bb 0, s12]) rfl rfl rfl (AI rfl (Sl.shp H14)) (.ofS rfl rfl (Ab (Shp.one (Sl.shp H14)) Bh)) rfl rfl <| As <| Ai <| rm 4 [0] rfl <| rL (Sl.shp H14) rfl <| rn 1 rfl <| kC hM fun ck16 hM => rX ck16 rfl <| rz rfl <| DJ [(4, vI ((r10.length : Int) - (r3.length : Int))), (5, Value.nilIface)] rfl (fun T => ?_)
 cases hM
 refine Au (fun hn => Ge (v0 := vT #[vI ((r10.length : Int) - (r3.length : Int)), Value.nilIface]) (O := [S13, (Am bb (vP bb 0) s12)]) (JF rfl rfl) (Sub.pick [(Am bb (vP bb 0) s12), S13] [1, 0] rfl) ⟨s12, S13, _, H14, ⟨rfl, rfl⟩, rfl⟩)
def HD (N : Nat) (b : List UInt8) (r' : Int) : Option (Int × (List UInt8)) := Ix N b r'
set_option maxRecDepth 100000 in
theorem Oz (N b r' r) (hM : HD N b r' = some r) (ro : Ro) (vb_ : Value) (Sb_ : List Bl) (Hb_ : Bd 453 5 vb_ b Sb_) : Does prog 381 #[vb_, Value.int .i32 r'] ro (List.flatten [Sb_]) (pO (List.flatten [Sb_]) (oIB 453 5 vb_ r.2 (oE (vT #[vI r.1, Value.nilIface]) []))) := by
 rw [Xc]
 obtain ⟨b_, f_, s_, S0_, rfl, H0_, rfl⟩ := Hb_
 cases f_
 ·exact mg (f := true) (Px N b r' r hM ro b_ s_ S0_ H0_ )
 exact mg (f := true) (Pw N b r' r hM ro b_ s_ S0_ H0_ )
def NO (_ : Nat) (b : List UInt8) : Option (List UInt8) := ck ((b).length ≤ 140737488355328) (some b)
theorem Te (N b r) (hM : NO N b = some r) (ro : Ro) (bb : Nat) (bv : Value) (Sb : List Bl) (hb : Sl 5 encYs bv b Sb) : Does prog 383 #[vP bb 0] ro (List.flatten [(Am bb (Value.pointer none) bv), Sb]) (pO (List.flatten [(Am bb (Value.pointer none) bv), Sb]) (oE (vS r) [])) := by
 unfold NO at hM
 refine BU follows func383 rfl 14 rfl _ fz1 (fun _ _ h_ _ => h_) (fun base0_ => ?_)
 refine AZ rfl <| Aa fun K2 hK2 => BA [(some 7, false), (some 13, true)] (conG prog [(7, fun _ _ v_ L_ U_ => (fun v_ L_ U_ => Yo bv v_ ∧ L_ = [] ∧ U_ = []) v_ L_ U_), (13, fun _ _ v_ L_ U_ => (pUp (fun v_ U_ => v_ = .string ⟨(b).toArray⟩ ∧ U_ = Lg Sb)) v_ L_ U_)]) [] (by decide +kernel) (fun hn => Ba) <| rm 4 [0] rfl <| jO (Ls := [(Am bb (Value.pointer none) bv), Sb]) 1 rfl rfl rfl rfl rfl hb rfl rfl (fun _ _ _ _ _ => Iff.rfl) (fun u3 hu4 => ?_)
 refine rm 4 [0] rfl <| rL (Sl.shp hb) rfl <| kC hM fun ck5 hM => bB (Ls := [(Am bb (Value.pointer none) bv), Sb]) 1 (xs := b) rfl rfl rfl rfl rfl rfl hb hu4 rfl (by kernel_rfl) rfl ck5 (fun _ _ _ _ _ => Iff.rfl) <| AX (Ls := [(Am bb (Value.pointer none) bv), Lg Sb]) (Ls' := [(Am bb (Value.pointer none) bv)]) [0] rfl rfl <| rz rfl <| hK2 _ _ ?_
 cases hM
 refine Au (fun hn => Ge (v0 := vS b) (O := []) (AV rfl) (Sub.nil _) ⟨rfl, rfl⟩)
def Ll (_ : Nat) (b : List UInt8) : Option (List UInt8) := ck ((b).length ≤ 140737488355328) (some b)
theorem Td (N b r) (hM : Ll N b = some r) (ro : Ro) (bb : Nat) (bv : Value) (Sb : List Bl) (hb : Sl 5 encYs bv b Sb) : Does prog 383 #[vP bb 0] ro (List.flatten [(Am bb (vP bb 0) bv), Sb]) (pO (List.flatten [(Am bb (vP bb 0) bv), Sb]) (oE (vS r) [])) := by
 unfold Ll at hM
 refine BU follows func383 rfl 14 rfl _ fz1 (fun _ _ h_ _ => h_) (fun base0_ => ?_)
 refine AZ rfl <| Aa fun K2 hK2 => BA [(some 7, false), (some 13, true)] (conG prog [(7, fun _ _ v_ L_ U_ => (fun v_ L_ U_ => Yo bv v_ ∧ L_ = [] ∧ U_ = []) v_ L_ U_), (13, fun _ _ v_ L_ U_ => (pUp (fun v_ U_ => v_ = .string ⟨(b).toArray⟩ ∧ U_ = Lg Sb)) v_ L_ U_)]) [] (by decide +kernel) (fun hn => Ba) <| rm 4 [0] rfl <| jO (Ls := [(Am bb (vP bb 0) bv), Sb]) 1 rfl rfl rfl rfl rfl hb rfl rfl (fun _ _ _ _ _ => Iff.rfl) (fun u3 hu4 => ?_)
 refine rm 4 [0] rfl <| rL (Sl.shp hb) rfl <| kC hM fun ck5 hM => bB (Ls := [(Am bb (vP bb 0) bv), Sb]) 1 (xs := b) rfl rfl rfl rfl rfl rfl hb hu4 rfl (by kernel_rfl) rfl ck5 (fun _ _ _ _ _ => Iff.rfl) <| AX (Ls := [(Am bb (vP bb 0) bv), Lg Sb]) (Ls' := [(Am bb (vP bb 0) bv)]) [0] rfl rfl <| rz rfl <| hK2 _ _ ?_
 cases hM
 refine Au (fun hn => Ge (v0 := vS b) (O := []) (AV rfl) (Sub.nil _) ⟨rfl, rfl⟩)
def Kc (N : Nat) (b : List UInt8) : Option (List UInt8) := Ll N b
set_option maxRecDepth 100000 in
theorem Rn (N b r) (hM : Kc N b = some r) (ro : Ro) (vb_ : Value) (Sb_ : List Bl) (Hb_ : Bd 453 5 vb_ b Sb_) : Does prog 383 #[vb_] ro (List.flatten [Sb_]) (pO (List.flatten [Sb_]) (oE (vS r) [])) := by
 rw [Xc]
 obtain ⟨b_, f_, s_, S0_, rfl, H0_, rfl⟩ := Hb_
 cases f_
 ·exact Te N b r hM ro b_ s_ S0_ H0_ 
 exact Td N b r hM ro b_ s_ S0_ H0_ 
def Jk (N : Nat) (s : List UInt8) : Nat → List UInt8 → Nat → Option (List UInt8)
  | 0, _, _ => none
  | n15 + 1, Valuep1_, m2_ => if m2_ < (s).length then ck (m2_ < (s).length) ((KN N ((runeAt s m2_ : Nat) : Int)).bind fun r21 => (HD N Valuep1_ r21).bind fun r23 => (Jk N s n15) r23.2 (HJ s m2_)) else (Kc N Valuep1_).bind fun r28 => some r28
def Mb (N : Nat) (s : List UInt8) : Option (List UInt8) := (KK N (s.length : Int)).bind fun r5 => Jk N s N r5 0
theorem RD (N s r) (hM : Mb N s = some r) : Gives prog 347 #[vS s] (vS r) := by
 unfold Mb at hM
 refine Aq follows func347 rfl 18 rfl _ fz1 (fun base0_ => ?_)
 refine AZ rfl <| Ai <| rA rfl fun b3 => As <| A_sc [(some 8, true)] (conG prog [(8, fun _ _ v_ L_ U_ => ∀ u0_, KK N (s.length : Int) = some u0_ → (pO (List.flatten [(Am b3 (Value.pointer none) nS)]) (oS 5 encYs u0_ fun s_0 => (oE (vT #[]) [(Am b3 (vP b3 0) s_0)]))) v_ L_ U_)]) <| rn 1 rfl <| r_W (vI (s.length : Int)) rfl (Pb rfl rfl rfl) <| kB hM fun r5 hr6 hM => Ju (Ls := [(Am b3 (Value.pointer none) nS)]) (FL := [(Am b3 (Value.pointer none) nS)]) [0] _ (some 8) 380 _ rfl rfl rfl rfl rfl (cF dl) (fun o w hn_ z_ => Ws N (s.length : Int) _ hr6 _ b3) (Ao hr6) (fun h_ => nomatch h_) ?_
 rintro _ _ ⟨s7, S8, _, H9, ⟨rfl, rfl⟩, rfl⟩
 refine AX (Ls := [S8, (Am b3 (vP b3 0) s7)]) (Ls' := [(Am b3 (vP b3 0) s7), S8]) [1, 0] rfl rfl <| AX (Ls := [(Am b3 (vP b3 0) s7), S8]) (Ls' := [(Am b3 (vP b3 0) s7), S8]) [0, 1] rfl rfl <| Jl (Ls := [(Am b3 (vP b3 0) s7), S8]) (Ls' := [(List.flatten [(Am b3 (vP b3 0) s7), S8])]) (by simp only [List.flatten_cons, List.flatten_nil, List.append_nil, List.append_assoc]) <| Ee (Ls := [(List.flatten [(Am b3 (vP b3 0) s7), S8])]) (p := fun S_ => Bd 453 5 (vP b3 0) r5 S_) 0 rfl ⟨b3, true, _, _, rfl, H9, rfl⟩ (fun S10 H11 => ?_)
 refine As <| Aa fun K12 hK12 => A_sc [(some 10, false)] (conG prog [(10, fun _ _ v_ L_ U_ => (pIt s) v_ L_ U_)]) <| rn 1 rfl <| Zo s rfl rfl rfl rfl rfl (fun _ _ _ _ _ => Iff.rfl) (fun b14 => ?_)
 refine iX (Ls := [S10]) <| AX (Ls := [S10, [(b14, (itT s 0), #[])]]) (Ls' := [[(b14, (itT s 0), #[])], S10]) [1, 0] rfl rfl <| As <| Aj <| Be _ (Sub.pick [[(b14, (itT s 0), #[])], S10] [0, 1] rfl) <| AU (fun tt ll nn => ∃ (n15 : Nat) (Valuep1_ : List UInt8) (m2_ : Nat), (Jk N s n15 Valuep1_ m2_ = some r) ∧ ∃ (SValuep1_ : List Bl), Bd 453 5 (vP b3 0) Valuep1_ SValuep1_ ∧ Is [(3, vP b3 0), (10, vP b14 0)] (List.flatten [[(b14, (itT s m2_), #[])], SValuep1_]) tt ll ∧ nn = n15 + 1) (N + 1) ?_ ?_
 ·exact ⟨N, r5, 0, hM, S10, H11, Ak rfl rfl, rfl⟩
 clear hM; rintro t l _ ⟨n15, Valuep1_, m2_, hM, SValuep1_, hValuep1_, ⟨⟨T, rfl⟩, rfl⟩, rfl⟩
 rcases n15 with _ | n15
 ·exact absurd hM (by simp [Jk])
 rw [Jk] at hM
 refine A_sc [(some 11, true)] (conG prog [(11, fun _ _ v_ L_ U_ => (pNx b14 s m2_) v_ L_ U_)]) <| bC (lN := (List.flatten [[(b14, (itT s (HJ s m2_)), #[])], SValuep1_])) 0 b14 s m2_ rfl rfl rfl rfl rfl rfl (fun _ _ _ _ _ => Iff.rfl) rfl <| r_W (vB (decide (m2_ < (s).length))) rfl (GE (Xi s m2_)) <| As <| Aa fun K17 hK17 => aD hM rfl (fun hc18 hM => ?_) (fun hc18 hM => ?_)
 ·refine Af <| hK17 _ _ ?_
  refine Aj <| Ai <| kC hM fun ck20 hM => r_W (Value.int .i32 ((runeAt s m2_ : Nat) : Int)) rfl (GE (Xh ck20)) <| rz rfl <| A_regC [(some 16, true)] (conG prog [(16, fun _ _ v_ L_ U_ => ∀ u0_, KN N ((runeAt s m2_ : Nat) : Int) = some u0_ → ∀ u1_, HD N Valuep1_ u0_ = some u1_ → (pO (List.flatten [SValuep1_]) (oIB 453 5 (vP b3 0) u1_.2 (oE (vT #[vI u1_.1, Value.nilIface]) []))) v_ L_ U_)]) <| rn 1 rfl <| kB hM fun r21 hr22 hM => rc _ (cF dj) (WE N ((runeAt s m2_ : Nat) : Int) _ hr22) <| kB hM fun r23 hr24 hM => Ju (Ls := [[(b14, (itT s (HJ s m2_)), #[])], SValuep1_]) (FL := [SValuep1_]) [1] _ (some 16) 381 _ rfl rfl rfl rfl rfl (cF dk) (fun o w hn_ z_ => Oz N Valuep1_ r21 _ hr24 _ (vP b3 0) SValuep1_ hValuep1_) (fun _ _ v_ L_ U_ => ⟨fun h_ => h_ _ hr22 _ hr24, fun h_ => by intro _ e_; cases Option.some.inj (e_.symm.trans hr22); intro _ e_; cases Option.some.inj (e_.symm.trans hr24); exact h_⟩) (fun h_ => nomatch h_) ?_
  rintro _ _ ⟨S25, _, H26, ⟨rfl, rfl⟩, rfl⟩
  refine AX (Ls := [[(b14, (itT s (HJ s m2_)), #[])], S25]) (Ls' := [[(b14, (itT s (HJ s m2_)), #[])], S25]) [0, 1] rfl rfl <| As <| fg _ (Sub.pick [[(b14, (itT s (HJ s m2_)), #[])], S25] [0, 1] rfl) ?_
  exact ⟨n15 + 1, by omega, n15, r23.2, HJ s m2_, hM, S25, H26, Ak rfl rfl, rfl⟩
 refine AS <| hK12 _ _ ?_
 refine A_sc [(some 17, true)] (conG prog [(17, fun _ _ v_ L_ U_ => ∀ u0_, Kc N Valuep1_ = some u0_ → (pO (List.flatten [SValuep1_]) (oE (vS u0_) [])) v_ L_ U_)]) <| kB hM fun r28 hr29 hM => Ju (Ls := [[(b14, (itT s (HJ s m2_)), #[])], SValuep1_]) (FL := [SValuep1_]) [1] _ (some 17) 383 _ rfl rfl rfl rfl rfl (cF di) (fun o w hn_ z_ => Rn N Valuep1_ _ hr29 _ (vP b3 0) SValuep1_ hValuep1_) (Ao hr29) (fun h_ => nomatch h_) ?_
 rintro _ _ ⟨rfl, rfl⟩
 refine AX (Ls := [[(b14, (itT s (HJ s m2_)), #[])]]) (Ls' := [[(b14, (itT s (HJ s m2_)), #[])]]) [0] rfl rfl <| rz rfl ?_
 cases hM
 exact aR eE1
def Ft (N : Nat) (other : List UInt8) (c1_ : List UInt8) : Option Bool := (Mb N other).bind fun r3 => some (r3 == c1_)
theorem OM (N other c1_ r) (hM : Ft N other c1_ = some r) (ro : Ro) (bc1_ : Nat) (hbc1_ : Blk ro bc1_ [vS c1_]) : Does prog 349 #[vS other, vP bc1_ 0] ro [] (pV (vB r)) := by
 unfold Ft at hM
 refine Ac follows func349 rfl 8 rfl _ fz2 (fun base0_ => ?_)
 refine AZ rfl <| Aa fun K2 hK2 => Lz [] (by decide +kernel) (fun hn => Ba) <| rn 1 rfl <| kB hM fun r3 hr4 hM => rc _ (cF XI) (RD N other _ hr4) <| Ec (vS c1_) (vs := [vS c1_]) (o := 0) rfl rfl (AM hbc1_) rfl <| r_W (vB (r3 == c1_)) rfl (Ok rfl rfl) <| rz rfl <| hK2 _ _ ?_
 cases hM
 exact aR eV1
def bp (N : Nat) (s : List (List UInt8)) (f0_ : List UInt8) : Nat → Int → Option Int
  | 0, _ => none
  | n4 + 1, x1_ => if x1_ < (s.length : Int) then ck (0 ≤ x1_ ∧ x1_ < (s.length : Int)) ((Ft N (s[x1_.toNat]!) f0_).bind fun r12 => if r12 = true then some x1_ else ck (-9223372036854775808 ≤ (x1_ + 1) ∧ (x1_ + 1) ≤ 9223372036854775807) ((bp N s f0_ n4) (x1_ + 1))) else some (-1)
def sfm (N : Nat) (s : List (List UInt8)) (f0_ : List UInt8) : Option Int := bp N s f0_ N 0
theorem sfg (N s f0_ r) (hM : sfm N s f0_ = some r) (ro sv) (hs : Rd Bz ro sv s) (bf0_ : Nat) (hbf0_ : Blk ro bf0_ [vS f0_]) : Does prog 348 #[sv, vF 349 #[] #[vP bf0_ 0]] ro [] (pV (vI r)) := by
 unfold sfm at hM
 refine Ac follows func348 rfl 19 rfl _ fz2 (fun base0_ => ?_)
 refine AZ rfl <| Aa fun K2 hK2 => Ai <| rn 1 rfl <| rL (Rd.shp hs) rfl <| rz rfl <| Aj <| AU (fun tt ll nn => ∃ (n4 : Nat) (x1_ : Int), (bp N s f0_ n4 x1_ = some r) ∧ Is [(0, sv), (1, vF 349 #[] #[vP bf0_ 0]), (7, vI (s.length : Int)), (8, vI x1_)] [] tt ll ∧ nn = n4 + 1) (N + 1) ?_ ?_
 ·exact ⟨N, 0, hM, Ak rfl rfl, rfl⟩
 clear hM; rintro t l _ ⟨n4, x1_, hM, ⟨⟨T, rfl⟩, rfl⟩, rfl⟩
 rcases n4 with _ | n4
 ·exact absurd hM (by simp [bp])
 rw [bp] at hM
 refine AZ rfl <| Aa fun K6 hK6 => aD hM rfl (fun hc7 hM => ?_) (fun hc7 hM => ?_)
 ·refine Af <| hK6 _ _ ?_
  refine Aa fun K8 hK8 => Aj <| AZ rfl <| A_sc [(some 16, false)] (conG prog [(16, cV (Ft N (s[x1_.toNat]!) f0_) fun u0_ => vB u0_)]) <| rn 3 rfl <| kC hM fun ck11 hM => rI (Rd.shp hs) ck11 rfl <| rE (AA hs) ck11 0 rfl <| kB hM fun r12 hr13 hM => rg _ (AO (caps := [vP bf0_ 0]) rfl dM rfl) (fun o w z_ => OM N (s[x1_.toNat]!) f0_ _ hr13 z_.view bf0_ (AM hbf0_ o w z_)) (Ao hr13) <| As <| aB hM rfl (fun hc14 hM => ?_) (fun hc14 hM => ?_)
  ·refine AZ rfl ?_
   cases hM
   exact aR eV1
  refine Af <| hK8 _ _ ?_
  refine Ar <| kC hM fun ck16 hM => rX ck16 rfl <| rz rfl <| fg _ (Sub.of suN) ?_
  exact ⟨n4 + 1, by omega, n4, (x1_ + 1), hM, Ak rfl rfl, rfl⟩
 refine AS <| hK2 _ _ ?_
 refine AZ rfl ?_
 cases hM
 exact aR eV1
def Gn (N : Nat) (l' : List (List UInt8)) (s : List UInt8) : Option Int := (Mb N s).bind fun r3 => (sfm N l' r3).bind fun r7 => some r7
theorem OL (N l' s r) (hM : Gn N l' s = some r) (ro l'v) (hl' : Rd Bz ro l'v l') : Does prog 285 #[l'v, vS s] ro [] (pV (vI r)) := by
 unfold Gn at hM
 refine Ac follows func285 rfl 11 rfl _ fz2 (fun base0_ => ?_)
 refine AZ rfl <| Ai <| rn 1 rfl <| kB hM fun r3 hr4 hM => rc _ (cF XI) (RD N s _ hr4) <| rA rfl fun b5 => ry [0] rfl <| A_sc [(some 10, false)] (conG prog [(10, cV (sfm N l' r3) fun u0_ => vI u0_)]) <| rn 1 rfl <| r_W (vF 349 #[] #[vP b5 0]) rfl (EM rfl) <| kB hM fun r7 hr8 hM => rg _ (cF dN) (fun o w z_ => sfg N l' r3 _ hr8 z_.view l'v ((AA hl') o w z_) b5 (BR 0 rfl rfl o w z_)) (Ao hr8) <| rz rfl ?_
 cases hM
 exact aR eV1
def Hq (N : Nat) (names : List (List UInt8)) (i : Int) : Option Int := ck (0 ≤ i ∧ i < (names.length : Int)) ((No N (names[i.toNat]!)).bind fun r5 => if r5 = true then ck (0 ≤ i ∧ i ≤ (names.length : Int)) (ck (0 ≤ i ∧ i < (names.length : Int)) ((Gn N (((names).take (i.toNat)).drop 0) (names[i.toNat]!)).bind fun r12 => if r12 ≥ 0 then some 6 else some 0)) else some 4)
theorem Qb (N names i r) (hM : Hq N names i = some r) (ro namesv) (hnames : Rd Bz ro namesv names) : Does prog 287 #[namesv, vI i] ro [] (pV (vI r)) := by
 unfold Hq at hM
 refine Ac follows func287 rfl 22 rfl _ fz2 (fun base0_ => ?_)
 refine AZ rfl <| Aa fun K2 hK2 => Aj <| Ai <| rn 2 rfl <| kC hM fun ck4 hM => rI (Rd.shp hnames) ck4 rfl <| rE (AA hnames) ck4 0 rfl <| kB hM fun r5 hr6 hM => rc _ (cF XU) (Ul N (names[i.toNat]!) _ hr6) <| rz rfl <| AB _ rfl (fun hc7 => ?_) (fun hc7 => ?_)
 ·replace hM := ifn (Bool.eq_false_iff.1 (EF hc7)) hM
  refine AZ rfl ?_
  cases hM
  exact aR eV1
 replace hM := ifp (EG hc7) hM
 refine Aa fun K9 hK9 => BA [(some 20, false)] (conG prog [(20, cV (Gn N (((names).take (i.toNat)).drop 0) (names[i.toNat]!)) fun u0_ => vI u0_)]) [] (by decide +kernel) (fun hn => Ba) <| rn 2 rfl <| kC hM fun ck10 hM => r_W (Fy namesv 0 (i.toNat) 1) rfl (GE (Hz rfl rfl rfl rfl (Rd.shp hnames) ck10)) <| rn 2 rfl <| kC hM fun ck11 hM => rI (Rd.shp hnames) ck11 rfl <| rE (AA hnames) ck11 0 rfl <| kB hM fun r12 hr13 hM => rg _ (cF XS) (fun o w z_ => OL N (((names).take (i.toNat)).drop 0) (names[i.toNat]!) _ hr13 z_.view (Fy namesv 0 (i.toNat) 1) ((Py (AA hnames) (Nat.zero_le _) (Iu ck10.2)) o w z_)) (Ao hr13) <| rz rfl <| hK9 _ _ ?_
 refine aD hM rfl (fun hc14 hM => ?_) (fun hc14 hM => ?_)
 ·refine AZ rfl ?_
  cases hM
  exact aR eV1
 refine Af <| hK2 _ _ ?_
 refine AZ rfl ?_
 cases hM
 exact aR eV1
def DQ (_ : Nat) (n : Int) (least : Int) (most : Int) : Option Bool := if n ≥ least then some (decide (n ≤ most)) else some false
theorem Eu (N n least most r) (hM : DQ N n least most = some r) : Gives prog 288 #[vI n, vI least, vI most] (vB r) := by
 unfold DQ at hM
 refine Aq follows func288 rfl 15 rfl _ fz3 (fun base0_ => ?_)
 refine AZ rfl <| Aa fun K2 hK2 => Ar <| rn 4 rfl ?_
 rcases hg3 : (decide (n ≥ least)) with _ | _
 ·replace hM := iF hg3 hM
  refine rz rfl <| hK2 _ _ ?_
  cases hM
  exact aR eE1
 replace hM := iD hg3 hM
 refine rz rfl <| hK2 _ _ ?_
 cases hM
 exact aR eE1
def FB (N : Nat) (l' : List (List UInt8 × Int)) (r3 : List (List UInt8)) : Nat → Int → Option Int
  | 0, _ => none
  | n10 + 1, x1_ => if x1_ < (l'.length : Int) then ck (0 ≤ x1_ ∧ x1_ < (l'.length : Int)) ((Hq N r3 x1_).bind fun r20 => if (r20 : Int) ≠ 0 then some r20 else (DQ N ((l'[x1_.toNat]!).2) 1 128).bind fun r26 => if r26 = true then ck (-9223372036854775808 ≤ (x1_ + 1) ∧ (x1_ + 1) ≤ 9223372036854775807) ((FB N l' r3 n10) (x1_ + 1)) else some 9) else some 0
def IF (N : Nat) (l' : List (List UInt8 × Int)) : Option Int := (HC N l').bind fun r3 => FB N l' r3 N 0
theorem SX (N l' r) (hM : IF N l' = some r) (ro l'v) (hl' : Rd BQ ro l'v l') : Does prog 282 #[l'v] ro [] (pV (vI r)) := by
 unfold IF at hM
 refine Ac follows func282 rfl 27 rfl _ fz1 (fun base0_ => ?_)
 refine AZ rfl <| A_sc [(some 8, false)] (conG prog [(8, fun _ _ v_ L_ U_ => ∀ u0_, HC N l' = some u0_ → (p1 (fun s_ => s_) 9 Bz u0_) v_ L_ U_)]) <| rn 1 rfl <| kB hM fun r3 hr4 hM => AP (Ls := []) (fun s5 => s5) 9 Bz r3 346 _ rfl rfl rfl (cF dO) (fun o w z_ => Rm N l' _ hr4 z_.view l'v ((AA hl') o w z_)) (Ao hr4) (fun s5 S6 H7 => ?_)
 refine rz rfl <| Aa fun K8 hK8 => Ai <| rn 1 rfl <| rL (Rd.shp hl') rfl <| rz rfl <| Aj <| Be _ (Sub.pick [S6] [0] rfl) <| AU (fun tt ll nn => ∃ (n10 : Nat) (x1_ : Int), (FB N l' r3 n10 x1_ = some r) ∧ Is [(3, s5), (9, l'v), (10, vI (l'.length : Int)), (11, vI x1_)] (List.flatten [S6]) tt ll ∧ nn = n10 + 1) (N + 1) ?_ ?_
 ·exact ⟨N, 0, hM, Ak rfl rfl, rfl⟩
 clear hM; rintro t l _ ⟨n10, x1_, hM, ⟨⟨T, rfl⟩, rfl⟩, rfl⟩
 rcases n10 with _ | n10
 ·exact absurd hM (by simp [FB])
 rw [FB] at hM
 refine AZ rfl <| Aa fun K12 hK12 => aD hM rfl (fun hc13 hM => ?_) (fun hc13 hM => ?_)
 ·refine Af <| hK12 _ _ ?_
  refine Aa fun K14 hK14 => Aj <| Ai <| rn 1 rfl <| kC hM fun ck16 hM => rI (Rd.shp hl') ck16 rfl <| rE (AA hl') ck16 0 rfl <| rA rfl fun b17 => ry [0] rfl <| Aa fun K18 hK18 => A_sc [(some 18, false)] (conG prog [(18, cV (Hq N r3 x1_) fun u0_ => vI u0_)]) <| rn 2 rfl <| kB hM fun r20 hr21 hM => rg _ (cF XR) (fun o w z_ => Qb N r3 x1_ _ hr21 z_.view s5 ((Ap H7 (Ad (Ls := [(ZD b17 ((l'[x1_.toNat]!).1) ((l'[x1_.toNat]!).2)), S6]) (k := 1) rfl rfl)) o w z_)) (Ao hr21) <| rz rfl <| AZ rfl <| aN hM rfl (fun hc23 hM => ?_) (fun hc23 hM => ?_)
  ·refine AZ rfl ?_
   cases hM
   exact aR eV1
  refine Af <| hK18 _ _ ?_
  refine Ai <| rm 2 [0] rfl <| kB hM fun r26 hr27 hM => rc _ (cF GP) (Eu N ((l'[x1_.toNat]!).2) 1 128 _ hr27) <| rz rfl <| AB _ rfl (fun hc28 => ?_) (fun hc28 => ?_)
  ·replace hM := ifn (Bool.eq_false_iff.1 (EF hc28)) hM
   refine AZ rfl ?_
   cases hM
   exact aR eV1
  replace hM := ifp (EG hc28) hM
  refine Af <| hK14 _ _ ?_
  refine Ar <| kC hM fun ck30 hM => rX ck30 rfl <| rz rfl <| fg _ (Sub.pick [(ZD b17 ((l'[x1_.toNat]!).1) ((l'[x1_.toNat]!).2)), S6] [1] rfl) ?_
  exact ⟨n10 + 1, by omega, n10, (x1_ + 1), hM, Ak rfl rfl, rfl⟩
 refine AS <| hK8 _ _ ?_
 refine AZ rfl ?_
 cases hM
 exact aR eV1
end Go.Proofs.YthafnifhhblkbaaGreatDoor
