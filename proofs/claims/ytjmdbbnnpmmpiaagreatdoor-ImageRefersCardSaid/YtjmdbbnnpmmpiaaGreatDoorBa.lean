import Derived.Test.YtjmdbbnnpmmpiaaGreatDoorIt
import Derived.Test.YtjmdbbnnpmmpiaaGreatDoorYt
import Derived.Test.YtjmdbbnnpmmpiaaGreatDoorMm
import Derived.Test.YtjmdbbnnpmmpiaaGreatDoorBu
import Derived.Test.YtjmdbbnnpmmpiaaGreatDoorIo
import Derived.Test.YtjmdbbnnpmmpiaaGreatDoorWord
import Derived.Test.YtjmdbbnnpmmpiaaGreatDoorMd
import Derived.Test.YtjmdbbnnpmmpiaaGreatDoorSr
import Derived.Test.YtjmdbbnnpmmpiaaGreatDoorFr
namespace Go.Proofs.YtjmdbbnnpmmpiaaGreatDoor
open Go Go.RowKit Go.Eng _root_.Go.Proofs.Tryz
set_option maxRecDepth 100000
set_option maxHeartbeats 8000000
theorem PE (c : UInt8) : ∀ s : List UInt8, Lib.index s [c] = Lib.indexByte s c
  | [] => rfl
  | b :: l => by
    rw [Lib.index, Lib.indexByte, PE c l]
    by_cases h : c = b
    · subst h; simp [List.isPrefixOf]
    · have h2 : ¬ b = c := fun e => h e.symm
      simp [List.isPrefixOf, h, h2]
theorem WZ (s sep : List UInt8) (h : sep.length = 1) : Gives prog 288 #[.string ⟨s.toArray⟩, .string ⟨sep.toArray⟩] (.int .i64 (Lib.index s sep)) := by
 obtain ⟨c, rfl⟩ := List.length_eq_one_iff.mp h
 rw [PE]
 exact Gives.of_same (fun w => Tryz.stringslite_Index_one ⟨s.toArray⟩ c w)
def enc_50 : Enc (List UInt8 × Int) := ⟨fun x => [vS x.1, vI x.2], 2, by decide, fun _ => rfl, fun x v h => by simp only [List.mem_cons, List.not_mem_nil, or_false] at h; rcases h with rfl | rfl <;> rfl, True⟩
def enc_84 : Enc (List UInt8 × Int × Int) := ⟨fun x => [vS x.1, vI x.2.1, vI x.2.2], 3, by decide, fun _ => rfl, fun x v h => by simp only [List.mem_cons, List.not_mem_nil, or_false] at h; rcases h with rfl | rfl | rfl <;> rfl, True⟩
def enc_164 : Enc (Int × Int) := ⟨fun x => [vI x.1, vI x.2], 2, by decide, fun _ => rfl, fun x v h => by simp only [List.mem_cons, List.not_mem_nil, or_false] at h; rcases h with rfl | rfl <;> rfl, True⟩
def enc_168 : Enc (Int × Int × Int) := ⟨fun x => [vI x.1, vI x.2.1, vI x.2.2], 3, by decide, fun _ => rfl, fun x v h => by simp only [List.mem_cons, List.not_mem_nil, or_false] at h; rcases h with rfl | rfl | rfl <;> rfl, True⟩
def enc_66 : Enc (Int × BitVec 128 × Int × BitVec 128 × Int) := ⟨fun x => [vI x.1, U (hi x.2.1), U (lo x.2.1), vI x.2.2.1, U (hi x.2.2.2.1), U (lo x.2.2.2.1), vI x.2.2.2.2], 7, by decide, fun _ => rfl, fun x v h => by simp only [List.mem_cons, List.not_mem_nil, or_false] at h; rcases h with rfl | rfl | rfl | rfl | rfl | rfl | rfl <;> rfl, True⟩
def enc_59 : Enc (Int × Int × Int × Int × BitVec 128) := ⟨fun x => [vI x.1, vI x.2.1, vI x.2.2.1, vI x.2.2.2.1, U (hi x.2.2.2.2), U (lo x.2.2.2.2)], 6, by decide, fun _ => rfl, fun x v h => by simp only [List.mem_cons, List.not_mem_nil, or_false] at h; rcases h with rfl | rfl | rfl | rfl | rfl | rfl <;> rfl, True⟩
def enc_57 : Enc (Int × BitVec 128) := ⟨fun x => [vI x.1, U (hi x.2), U (lo x.2)], 3, by decide, fun _ => rfl, fun x v h => by simp only [List.mem_cons, List.not_mem_nil, or_false] at h; rcases h with rfl | rfl | rfl <;> rfl, True⟩
def enc_115 : Enc (Int × Int) := ⟨fun x => [vI x.1, vI x.2], 2, by decide, fun _ => rfl, fun x v h => by simp only [List.mem_cons, List.not_mem_nil, or_false] at h; rcases h with rfl | rfl <;> rfl, True⟩
def enc_118 : Enc (List UInt8 × Int × Int) := ⟨fun x => [vS x.1, vI x.2.1, vI x.2.2], 3, by decide, fun _ => rfl, fun x v h => by simp only [List.mem_cons, List.not_mem_nil, or_false] at h; rcases h with rfl | rfl | rfl <;> rfl, True⟩
def enc_122 : Enc (List UInt8 × Int) := ⟨fun x => [vS x.1, vI x.2], 2, by decide, fun _ => rfl, fun x v h => by simp only [List.mem_cons, List.not_mem_nil, or_false] at h; rcases h with rfl | rfl <;> rfl, True⟩
def enc_126 : Enc (List UInt8 × Int × Int × Int) := ⟨fun x => [vS x.1, vI x.2.1, vI x.2.2.1, vI x.2.2.2], 4, by decide, fun _ => rfl, fun x v h => by simp only [List.mem_cons, List.not_mem_nil, or_false] at h; rcases h with rfl | rfl | rfl | rfl <;> rfl, True⟩
def encr_48 : KG ((List UInt8) × (List (List UInt8 × Int)) × Int × Int × Int × Int) := ⟨fun c x vs => ∃ (s0 : Value), Rd enc_50 c s0 x.2.1 ∧ vs = [vS x.1, s0, vI x.2.2.1, vI x.2.2.2.1, vI x.2.2.2.2.1, vI x.2.2.2.2.2], 6, by decide, fun hc ⟨s0, h0, hv⟩ => ⟨s0, h0.mono hc, hv⟩⟩
def encr_64 : KG ((List UInt8) × (List (Int × Int)) × (List (Int × Int × Int)) × (List (Int × BitVec 128 × Int × BitVec 128 × Int)) × Int) := ⟨fun c x vs => ∃ (s0 : Value) (s1 : Value) (s2 : Value), Rd enc_164 c s0 x.2.1 ∧ Rd enc_168 c s1 x.2.2.1 ∧ Rd enc_66 c s2 x.2.2.2.1 ∧ vs = [vS x.1, s0, s1, s2, vI x.2.2.2.2], 5, by decide, fun hc ⟨s0, s1, s2, h0, h1, h2, hv⟩ => ⟨s0, s1, s2, h0.mono hc, h1.mono hc, h2.mono hc, hv⟩⟩
def encr_53 : KG ((List UInt8) × (List Int) × (List (Int × Int × Int × Int × BitVec 128))) := ⟨fun c x vs => ∃ (s0 : Value) (s1 : Value), Rd BK c s0 x.2.1 ∧ Rd enc_59 c s1 x.2.2 ∧ vs = [vS x.1, s0, s1], 3, by decide, fun hc ⟨s0, s1, h0, h1, hv⟩ => ⟨s0, s1, h0.mono hc, h1.mono hc, hv⟩⟩
def encr_72 : KG ((List UInt8) × Int × (List (Int × Int × Int)) × (List Int) × Int × (List (Int × BitVec 128)) × Int) := ⟨fun c x vs => ∃ (s0 : Value) (s1 : Value) (s2 : Value), Rd enc_168 c s0 x.2.2.1 ∧ Rd BK c s1 x.2.2.2.1 ∧ Rd enc_57 c s2 x.2.2.2.2.2.1 ∧ vs = [vS x.1, vI x.2.1, s0, s1, vI x.2.2.2.2.1, s2, vI x.2.2.2.2.2.2], 7, by decide, fun hc ⟨s0, s1, s2, h0, h1, h2, hv⟩ => ⟨s0, s1, s2, h0.mono hc, h1.mono hc, h2.mono hc, hv⟩⟩
def encr_79 : KG (Int × Int × (List (Int × Int × Int × Int × BitVec 128)) × (List (Int × BitVec 128)) × Int × Int) := ⟨fun c x vs => ∃ (s0 : Value) (s1 : Value), Rd enc_59 c s0 x.2.2.1 ∧ Rd enc_57 c s1 x.2.2.2.1 ∧ vs = [vI x.1, vI x.2.1, s0, s1, vI x.2.2.2.2.1, vI x.2.2.2.2.2], 6, by decide, fun hc ⟨s0, s1, h0, h1, hv⟩ => ⟨s0, s1, h0.mono hc, h1.mono hc, hv⟩⟩
abbrev Al : Type := (List UInt8) × (List ((List UInt8) × (List (List UInt8 × Int)) × Int × Int × Int × Int)) × (List (List UInt8 × Int × Int)) × (List (List UInt8 × Int)) × (List ((List UInt8) × (List (Int × Int)) × (List (Int × Int × Int)) × (List (Int × BitVec 128 × Int × BitVec 128 × Int)) × Int)) × (List ((List UInt8) × (List Int) × (List (Int × Int × Int × Int × BitVec 128)))) × (List ((List UInt8) × Int × (List (Int × Int × Int)) × (List Int) × Int × (List (Int × BitVec 128)) × Int)) × (List (Int × Int × (List (Int × Int × Int × Int × BitVec 128)) × (List (Int × BitVec 128)) × Int × Int)) × (List (Int × Int × (List (Int × Int × Int × Int × BitVec 128)) × (List (Int × BitVec 128)) × Int × Int)) × (List Int) × (List (Int × Int)) × (List (Int × Int)) × (List (List UInt8 × Int × Int)) × (List (List UInt8 × Int)) × (List (List UInt8 × Int × Int × Int)) × Int × Int × Int
abbrev AP : Type := Value × Value × Value × Value × Value × Value × Value × Value × Value × Value × Value × Value × Value × Value
abbrev Ch (m : Al) (v : AP) : List Value := [vS m.1, v.1, v.2.1, v.2.2.1, v.2.2.2.1, v.2.2.2.2.1, v.2.2.2.2.2.1, v.2.2.2.2.2.2.1, v.2.2.2.2.2.2.2.1, v.2.2.2.2.2.2.2.2.1, v.2.2.2.2.2.2.2.2.2.1, v.2.2.2.2.2.2.2.2.2.2.1, v.2.2.2.2.2.2.2.2.2.2.2.1, v.2.2.2.2.2.2.2.2.2.2.2.2.1, v.2.2.2.2.2.2.2.2.2.2.2.2.2, vI m.2.2.2.2.2.2.2.2.2.2.2.2.2.2.2.1, vI m.2.2.2.2.2.2.2.2.2.2.2.2.2.2.2.2.1, vI m.2.2.2.2.2.2.2.2.2.2.2.2.2.2.2.2.2]
abbrev Ac (m : Al) (v : AP) : Array Value := (Ch m v).toArray
abbrev Bun35R (ro : Ro) (v : AP) (m : Al) : Prop := RdN encr_48 ro v.1 m.2.1 ∧ Rd enc_84 ro v.2.1 m.2.2.1 ∧ Rd enc_50 ro v.2.2.1 m.2.2.2.1 ∧ RdN encr_64 ro v.2.2.2.1 m.2.2.2.2.1 ∧ RdN encr_53 ro v.2.2.2.2.1 m.2.2.2.2.2.1 ∧ RdN encr_72 ro v.2.2.2.2.2.1 m.2.2.2.2.2.2.1 ∧ RdN encr_79 ro v.2.2.2.2.2.2.1 m.2.2.2.2.2.2.2.1 ∧ RdN encr_79 ro v.2.2.2.2.2.2.2.1 m.2.2.2.2.2.2.2.2.1 ∧ Rd BK ro v.2.2.2.2.2.2.2.2.1 m.2.2.2.2.2.2.2.2.2.1 ∧ Rd enc_115 ro v.2.2.2.2.2.2.2.2.2.1 m.2.2.2.2.2.2.2.2.2.2.1 ∧ Rd enc_115 ro v.2.2.2.2.2.2.2.2.2.2.1 m.2.2.2.2.2.2.2.2.2.2.2.1 ∧ Rd enc_118 ro v.2.2.2.2.2.2.2.2.2.2.2.1 m.2.2.2.2.2.2.2.2.2.2.2.2.1 ∧ Rd enc_122 ro v.2.2.2.2.2.2.2.2.2.2.2.2.1 m.2.2.2.2.2.2.2.2.2.2.2.2.2.1 ∧ Rd enc_126 ro v.2.2.2.2.2.2.2.2.2.2.2.2.2 m.2.2.2.2.2.2.2.2.2.2.2.2.2.2.1
theorem Bun35R.mono  {c c' : Addr → Option Value} {v : AP} {m : Al} (hc : ∀ a v, c a = some v → c' a = some v) (h : Bun35R c v m) : Bun35R c' v m := ⟨RdN.mono hc h.1, Rd.mono hc h.2.1, Rd.mono hc h.2.2.1, RdN.mono hc h.2.2.2.1, RdN.mono hc h.2.2.2.2.1, RdN.mono hc h.2.2.2.2.2.1, RdN.mono hc h.2.2.2.2.2.2.1, RdN.mono hc h.2.2.2.2.2.2.2.1, Rd.mono hc h.2.2.2.2.2.2.2.2.1, Rd.mono hc h.2.2.2.2.2.2.2.2.2.1, Rd.mono hc h.2.2.2.2.2.2.2.2.2.2.1, Rd.mono hc h.2.2.2.2.2.2.2.2.2.2.2.1, Rd.mono hc h.2.2.2.2.2.2.2.2.2.2.2.2.1, Rd.mono hc h.2.2.2.2.2.2.2.2.2.2.2.2.2⟩
def Uj (m : Al) (l15_ : List (List UInt8)) (i16_ : Int) (rec_rTl17 : List (List UInt8) → Int → Option (List (List UInt8))) : Option (List (List UInt8)) := ck (0 ≤ i16_ ∧ i16_ < (m.2.2.2.2.2.2.2.2.2.2.2.2.2.2.1.length : Int)) (ck ((l15_).length + ([((m.2.2.2.2.2.2.2.2.2.2.2.2.2.2.1)[i16_.toNat]!).1]).length ≤ 8796093022208) (ck (-9223372036854775808 ≤ (i16_ + 1) ∧ (i16_ + 1) ≤ 9223372036854775807) (rec_rTl17 ((l15_ ++ ([((m.2.2.2.2.2.2.2.2.2.2.2.2.2.2.1)[i16_.toNat]!).1]))) (i16_ + 1))))
def Ke (m : Al) (part : Int) : Nat → List (List UInt8) → Int → Option (List (List UInt8))
  | 0, _, _ => none
  | n6 + 1, l15_, i16_ => if i16_ < (m.2.2.2.2.2.2.2.2.2.2.2.2.2.2.1.length : Int) then if part = 14 then Uj m l15_ i16_ (Ke m part n6)  else some l15_ else some l15_
def Kf (N : Nat) (m : Al) (part : Int) (l13_ : List (List UInt8)) : Option (List (List UInt8)) := Ke m part N l13_ 0
def Ui (m : Al) (l19_ : List (List UInt8)) (i20_ : Int) (rec_rTl21 : List (List UInt8) → Int → Option (List (List UInt8))) : Option (List (List UInt8)) := ck (0 ≤ i20_ ∧ i20_ < (m.2.2.2.2.2.2.2.2.2.2.2.2.2.1.length : Int)) (ck ((l19_).length + ([((m.2.2.2.2.2.2.2.2.2.2.2.2.2.1)[i20_.toNat]!).1]).length ≤ 8796093022208) (ck (-9223372036854775808 ≤ (i20_ + 1) ∧ (i20_ + 1) ≤ 9223372036854775807) (rec_rTl21 ((l19_ ++ ([((m.2.2.2.2.2.2.2.2.2.2.2.2.2.1)[i20_.toNat]!).1]))) (i20_ + 1))))
def Kc (N : Nat) (m : Al) (part : Int) : Nat → List (List UInt8) → Int → Option (List (List UInt8))
  | 0, _, _ => none
  | n23 + 1, l19_, i20_ => if i20_ < (m.2.2.2.2.2.2.2.2.2.2.2.2.2.1.length : Int) then if part = 13 then Ui m l19_ i20_ (Kc N m part n23)  else Kf N m part l19_ else Kf N m part l19_
def Kg (N : Nat) (m : Al) (part : Int) (l11_ : List (List UInt8)) : Option (List (List UInt8)) := Kc N m part N l11_ 0
def Uh (m : Al) (l23_ : List (List UInt8)) (i24_ : Int) (rec_rTl25 : List (List UInt8) → Int → Option (List (List UInt8))) : Option (List (List UInt8)) := ck (0 ≤ i24_ ∧ i24_ < (m.2.2.2.2.2.2.2.2.2.2.2.2.1.length : Int)) (ck ((l23_).length + ([((m.2.2.2.2.2.2.2.2.2.2.2.2.1)[i24_.toNat]!).1]).length ≤ 8796093022208) (ck (-9223372036854775808 ≤ (i24_ + 1) ∧ (i24_ + 1) ≤ 9223372036854775807) (rec_rTl25 ((l23_ ++ ([((m.2.2.2.2.2.2.2.2.2.2.2.2.1)[i24_.toNat]!).1]))) (i24_ + 1))))
def Kb (N : Nat) (m : Al) (part : Int) : Nat → List (List UInt8) → Int → Option (List (List UInt8))
  | 0, _, _ => none
  | n38 + 1, l23_, i24_ => if i24_ < (m.2.2.2.2.2.2.2.2.2.2.2.2.1.length : Int) then if part = 12 then Uh m l23_ i24_ (Kb N m part n38)  else Kg N m part l23_ else Kg N m part l23_
def Kh (N : Nat) (m : Al) (part : Int) (l9_ : List (List UInt8)) : Option (List (List UInt8)) := Kb N m part N l9_ 0
def Ug (m : Al) (l27_ : List (List UInt8)) (i28_ : Int) (rec_rTl29 : List (List UInt8) → Int → Option (List (List UInt8))) : Option (List (List UInt8)) := ck (0 ≤ i28_ ∧ i28_ < (m.2.2.2.2.2.2.1.length : Int)) (ck ((l27_).length + ([(m.2.2.2.2.2.2.1)[i28_.toNat]!.1]).length ≤ 8796093022208) (ck (-9223372036854775808 ≤ (i28_ + 1) ∧ (i28_ + 1) ≤ 9223372036854775807) (rec_rTl29 (l27_ ++ ([(m.2.2.2.2.2.2.1)[i28_.toNat]!.1])) (i28_ + 1))))
def Ka (N : Nat) (m : Al) (part : Int) : Nat → List (List UInt8) → Int → Option (List (List UInt8))
  | 0, _, _ => none
  | n53 + 1, l27_, i28_ => if i28_ < (m.2.2.2.2.2.2.1.length : Int) then if part = 6 then Ug m l27_ i28_ (Ka N m part n53)  else Kh N m part l27_ else Kh N m part l27_
def OC (N : Nat) (m : Al) (part : Int) (l7_ : List (List UInt8)) : Option (List (List UInt8)) := Ka N m part N l7_ 0
def Uf (m : Al) (l31_ : List (List UInt8)) (i32_ : Int) (rec_rTl33 : List (List UInt8) → Int → Option (List (List UInt8))) : Option (List (List UInt8)) := ck (0 ≤ i32_ ∧ i32_ < (m.2.2.2.2.2.1.length : Int)) (ck ((l31_).length + ([(m.2.2.2.2.2.1)[i32_.toNat]!.1]).length ≤ 8796093022208) (ck (-9223372036854775808 ≤ (i32_ + 1) ∧ (i32_ + 1) ≤ 9223372036854775807) (rec_rTl33 (l31_ ++ ([(m.2.2.2.2.2.1)[i32_.toNat]!.1])) (i32_ + 1))))
def JZ (N : Nat) (m : Al) (part : Int) : Nat → List (List UInt8) → Int → Option (List (List UInt8))
  | 0, _, _ => none
  | n75 + 1, l31_, i32_ => if i32_ < (m.2.2.2.2.2.1.length : Int) then if part = 5 then Uf m l31_ i32_ (JZ N m part n75)  else OC N m part l31_ else OC N m part l31_
def OD (N : Nat) (m : Al) (part : Int) (l5_ : List (List UInt8)) : Option (List (List UInt8)) := JZ N m part N l5_ 0
def Ue (m : Al) (l35_ : List (List UInt8)) (i36_ : Int) (rec_rTl37 : List (List UInt8) → Int → Option (List (List UInt8))) : Option (List (List UInt8)) := ck (0 ≤ i36_ ∧ i36_ < (m.2.2.2.2.1.length : Int)) (ck ((l35_).length + ([(m.2.2.2.2.1)[i36_.toNat]!.1]).length ≤ 8796093022208) (ck (-9223372036854775808 ≤ (i36_ + 1) ∧ (i36_ + 1) ≤ 9223372036854775807) (rec_rTl37 (l35_ ++ ([(m.2.2.2.2.1)[i36_.toNat]!.1])) (i36_ + 1))))
def JY (N : Nat) (m : Al) (part : Int) : Nat → List (List UInt8) → Int → Option (List (List UInt8))
  | 0, _, _ => none
  | n95 + 1, l35_, i36_ => if i36_ < (m.2.2.2.2.1.length : Int) then if part = 4 then Ue m l35_ i36_ (JY N m part n95)  else OD N m part l35_ else OD N m part l35_
def OE (N : Nat) (m : Al) (part : Int) (l3_ : List (List UInt8)) : Option (List (List UInt8)) := JY N m part N l3_ 0
def Ud (m : Al) (l39_ : List (List UInt8)) (i40_ : Int) (rec_rTl41 : List (List UInt8) → Int → Option (List (List UInt8))) : Option (List (List UInt8)) := ck (0 ≤ i40_ ∧ i40_ < (m.2.2.2.1.length : Int)) (ck ((l39_).length + ([((m.2.2.2.1)[i40_.toNat]!).1]).length ≤ 8796093022208) (ck (-9223372036854775808 ≤ (i40_ + 1) ∧ (i40_ + 1) ≤ 9223372036854775807) (rec_rTl41 ((l39_ ++ ([((m.2.2.2.1)[i40_.toNat]!).1]))) (i40_ + 1))))
def JX (N : Nat) (m : Al) (part : Int) : Nat → List (List UInt8) → Int → Option (List (List UInt8))
  | 0, _, _ => none
  | n117 + 1, l39_, i40_ => if i40_ < (m.2.2.2.1.length : Int) then if part = 3 then Ud m l39_ i40_ (JX N m part n117)  else OE N m part l39_ else OE N m part l39_
def OG (N : Nat) (m : Al) (part : Int) (l1_ : List (List UInt8)) : Option (List (List UInt8)) := JX N m part N l1_ 0
def Uc (m : Al) (l43_ : List (List UInt8)) (i44_ : Int) (rec_rTl45 : List (List UInt8) → Int → Option (List (List UInt8))) : Option (List (List UInt8)) := ck (0 ≤ i44_ ∧ i44_ < (m.2.1.length : Int)) (ck ((l43_).length + ([(m.2.1)[i44_.toNat]!.1]).length ≤ 8796093022208) (ck (-9223372036854775808 ≤ (i44_ + 1) ∧ (i44_ + 1) ≤ 9223372036854775807) (rec_rTl45 (l43_ ++ ([(m.2.1)[i44_.toNat]!.1])) (i44_ + 1))))
def JW (N : Nat) (m : Al) (part : Int) : Nat → List (List UInt8) → Int → Option (List (List UInt8))
  | 0, _, _ => none
  | n132 + 1, l43_, i44_ => if i44_ < (m.2.1.length : Int) then if part = 1 then Uc m l43_ i44_ (JW N m part n132)  else OG N m part l43_ else OG N m part l43_
def rTm (N : Nat) (m : Al) (part : Int) : Option (List (List UInt8)) := JW N m part N ([]) 0
theorem rTg (N : Nat) (m : Al) (part : Int) (r) (hM : rTm N m part = some r) (ro : Ro) (mv : AP) (hm : Bun35R ro mv m) : Does prog 16 #[Value.agg (Ac m mv), vI part] ro [] (p1 (fun s_ => s_) 9 encS r) := by
 unfold rTm at hM
 refine Aq follows func16 rfl 175 rfl _ fz2 (fun base0_ => ?_)
 refine Ad <| r_a (35, (Ac m mv)) rfl rfl rfl (fun b2 => ?_) (.inr rfl)
 refine r_V nS rfl <| Aa <| Ad <| r_V nS rfl <| Aa <| Bm (fun tt ll => ∃ (l1_ : List (List UInt8)), (OG N m part l1_ = some r) ∧ ∃ (vl1_ : Value) (Sl1_ : List Bl), Sl 9 encS vl1_ l1_ Sl1_ ∧ Is [(1, vI part), (2, vP b2 0), (5, vl1_)] (List.flatten [[(b2, 35, (Ac m mv))], Sl1_]) tt ll) ?_ ?_
 ·refine Ad <| r_V (vI 0) rfl <| Aa <| Ap <| BF _ (Sub.pickE (Ls := [[(b2, 35, (Ac m mv))], []]) (Ls0 := [[(b2, 35, (Ac m mv))]]) rfl [0, 1] rfl) <| AS (fun tt ll nn => ∃ (n132 : Nat) (l43_ : List (List UInt8)) (i44_ : Int), (JW N m part n132 l43_ i44_ = some r) ∧ ∃ (vl43_ : Value) (Sl43_ : List Bl), Sl 9 encS vl43_ l43_ Sl43_ ∧ Is [(1, vI part), (2, vP b2 0), (5, vl43_), (6, vI i44_)] (List.flatten [[(b2, 35, (Ac m mv))], Sl43_]) tt ll ∧ nn = n132 + 1) (N + 1) ?_ ?_
  ·exact ⟨N, [], 0, hM, nS, [], Sl.nil, Ak rfl rfl, rfl⟩
  clear hM; rintro t l _ ⟨n132, l43_, i44_, hM, vl43_, Sl43_, hl43_, ⟨⟨T, rfl⟩, rfl⟩, rfl⟩
  rcases n132 with _ | n132
  ·exact absurd hM (by simp [JW])
  rw [JW] at hM
  refine Bm (fun tt ll => (Uc m l43_ i44_ (JW N m part n132)  = some r) ∧ Is [(1, vI part), (2, vP b2 0), (5, vl43_), (6, vI i44_)] (List.flatten [[(b2, 35, (Ac m mv))], Sl43_]) tt ll) ?_ ?_
  ·refine Ai fun K146 hK146 => Ax <| r_R [vI i44_, vP b2 1] rfl <| rl mv.1 0 <| r_W (vI (m.2.1.length : Int)) rfl (Aj rfl rfl rfl (RdN.shp hm.1)) <| r_R [vB (decide (i44_ < (m.2.1.length : Int))), vB (decide (i44_ < (m.2.1.length : Int)))] rfl ?_
   rcases hg147 : (decide (i44_ < (m.2.1.length : Int))) with _ | _
   ·replace hM := iF hg147 hM
    refine r_R [none, none, vB false] rfl <| Aa <| hK146 _ _ ?_
    refine Af false rfl (fun h_ => nomatch h_) (fun _ => ?_)
    refine AM <| fg _ (Sub.pick [[(b2, 35, (Ac m mv))], Sl43_] [0, 1] rfl) ?_
    exact ⟨l43_, hM, vl43_, Sl43_, hl43_, Ak (by first | rfl | (simp only [hg147]; done) | (simp only [hg147]; rfl) | (simp only [Bc]; rfl)) rfl⟩
   replace hM := iD hg147 hM
   refine r_R [vI part, vB (part == 1), vB (part == 1)] rfl <| Aa <| hK146 _ _ ?_
   refine Af _ rfl (fun hc148 => ?_) (fun hc148 => ?_)
   ·replace hM := iE hc148 hM
    refine Ah <| fg _ (Sub.pick [[(b2, 35, (Ac m mv))], Sl43_] [0, 1] rfl) ?_
    exact ⟨hM, Ak rfl rfl⟩
   replace hM := iG hc148 hM
   refine AM <| fg _ (Sub.pick [[(b2, 35, (Ac m mv))], Sl43_] [0, 1] rfl) ?_
   exact ⟨l43_, hM, vl43_, Sl43_, hl43_, Ak (by first | rfl | (simp only [hg147]; done) | (simp only [hg147]; rfl) | (simp only [Bc]; rfl)) rfl⟩
  clear hM; rintro t l ⟨hM, ⟨T, rfl⟩, rfl⟩
  unfold Uc at hM
  refine Ai fun K133 hK133 => Ap <| BB [(some 32, false), (some 33, true)] (conG prog []) <| r_R [vl43_, vP b2 1] rfl <| rl mv.1 0 <| r_V (vI i44_) rfl ?_
  obtain ⟨ck134, hM⟩ := Ae hM
  obtain ⟨_, ⟨s135, hs136, rfl⟩, hat137⟩ := RdN.at (E := encr_48) hm.1 (AA ck134)
  refine r_W (elA mv.1 (i44_.toNat * 6)) rfl (AD (An rfl rfl rfl (RdN.shp hm.1) ck134)) <| r_W (elA mv.1 (i44_.toNat * 6 + 0)) rfl (AD (AH rfl rfl rfl rfl rfl rfl (RdN.shp hm.1) (AY ck134))) <| Eo (vS ((m.2.1)[i44_.toNat]!.1)) (vs := [vS ((m.2.1)[i44_.toNat]!.1), s135, vI ((m.2.1)[i44_.toNat]!.2.2.1), vI ((m.2.1)[i44_.toNat]!.2.2.2.1), vI ((m.2.1)[i44_.toNat]!.2.2.2.2.1), vI ((m.2.1)[i44_.toNat]!.2.2.2.2.2)]) (i44_.toNat * 6) 0 rfl rfl (fun o w z_ => At.mono z_.ro_cell hat137) rfl ?_
  refine Dj (cs0 := []) (Ls := [[(b2, 35, (Ac m mv))], Sl43_]) 9 encS [(m.2.1)[i44_.toNat]!.1] [vS ((m.2.1)[i44_.toNat]!.1)] [Value.string (⟨#[]⟩)] rfl rfl rfl rfl rfl rfl rfl (by kernel_rfl) (by kernel_rfl) rfl rfl rfl (fun s138 S139 H140 => ?_)
  obtain ⟨ck141, hM⟩ := Ae hM
  refine HJ (cs0 := []) (Ls := [[(b2, 35, (Ac m mv))], Sl43_, S139]) 1 (En := encS) rfl rfl rfl rfl rfl hl43_ rfl (AN H140 (Aw (Ls := [[(b2, 35, (Ac m mv))], Sl43_, S139]) (k := 2) rfl rfl)) rfl rfl rfl rfl rfl (HV ck141 rfl) (HU ck141 rfl) rfl (fun s142 S143 H144 => ?_)
  refine r_V s142 rfl <| Aa <| hK133 _ _ ?_
  refine Ax <| r_V (vI i44_) rfl ?_
  obtain ⟨ck145, hM⟩ := Ae hM
  refine r_X (vI (i44_ + 1)) rfl (AR rfl ck145.1 ck145.2) rfl <| r_V (vI (i44_ + 1)) rfl <| Aa <| fg _ (Sub.pick [[(b2, 35, (Ac m mv))], S143, S139] [0, 1] rfl) ?_
  exact ⟨n132 + 1, by omega, n132, (l43_ ++ ([(m.2.1)[i44_.toNat]!.1])), (i44_ + 1), hM, s142, S143, H144, Ak rfl rfl, rfl⟩
 clear hM; rintro t l ⟨l1_, hM, vl1_, Sl1_, hl1_, ⟨T, rfl⟩, rfl⟩
 unfold OG at hM
 refine Bm (fun tt ll => ∃ (l3_ : List (List UInt8)), (OE N m part l3_ = some r) ∧ ∃ (vl3_ : Value) (Sl3_ : List Bl), Sl 9 encS vl3_ l3_ Sl3_ ∧ Is [(1, vI part), (2, vP b2 0), (5, vl3_)] (List.flatten [[(b2, 35, (Ac m mv))], Sl3_]) tt ll) ?_ ?_
 ·refine Ad <| r_V (vI 0) rfl <| Aa <| Ap <| BF _ (Sub.pick [[(b2, 35, (Ac m mv))], Sl1_] [0, 1] rfl) <| AS (fun tt ll nn => ∃ (n117 : Nat) (l39_ : List (List UInt8)) (i40_ : Int), (JX N m part n117 l39_ i40_ = some r) ∧ ∃ (vl39_ : Value) (Sl39_ : List Bl), Sl 9 encS vl39_ l39_ Sl39_ ∧ Is [(1, vI part), (2, vP b2 0), (5, vl39_), (7, vI i40_)] (List.flatten [[(b2, 35, (Ac m mv))], Sl39_]) tt ll ∧ nn = n117 + 1) (N + 1) ?_ ?_
  ·exact ⟨N, l1_, 0, hM, vl1_, Sl1_, hl1_, Ak rfl rfl, rfl⟩
  clear hM; rintro t l _ ⟨n117, l39_, i40_, hM, vl39_, Sl39_, hl39_, ⟨⟨T, rfl⟩, rfl⟩, rfl⟩
  rcases n117 with _ | n117
  ·exact absurd hM (by simp [JX])
  rw [JX] at hM
  refine Bm (fun tt ll => (Ud m l39_ i40_ (JX N m part n117)  = some r) ∧ Is [(1, vI part), (2, vP b2 0), (5, vl39_), (7, vI i40_)] (List.flatten [[(b2, 35, (Ac m mv))], Sl39_]) tt ll) ?_ ?_
  ·refine Ai fun K128 hK128 => Ax <| r_R [vI i40_, vP b2 3] rfl <| rl mv.2.2.1 0 <| r_W (vI (m.2.2.2.1.length : Int)) rfl (Aj rfl rfl rfl (Rd.shp hm.2.2.1)) <| r_R [vB (decide (i40_ < (m.2.2.2.1.length : Int))), vB (decide (i40_ < (m.2.2.2.1.length : Int)))] rfl ?_
   rcases hg129 : (decide (i40_ < (m.2.2.2.1.length : Int))) with _ | _
   ·replace hM := iF hg129 hM
    refine r_R [none, none, vB false] rfl <| Aa <| hK128 _ _ ?_
    refine Af false rfl (fun h_ => nomatch h_) (fun _ => ?_)
    refine AM <| fg _ (Sub.pick [[(b2, 35, (Ac m mv))], Sl39_] [0, 1] rfl) ?_
    exact ⟨l39_, hM, vl39_, Sl39_, hl39_, Ak (by first | rfl | (simp only [hg129]; done) | (simp only [hg129]; rfl) | (simp only [Bc]; rfl)) rfl⟩
   replace hM := iD hg129 hM
   refine r_R [vI part, vB (part == 3), vB (part == 3)] rfl <| Aa <| hK128 _ _ ?_
   refine Af _ rfl (fun hc130 => ?_) (fun hc130 => ?_)
   ·replace hM := iE hc130 hM
    refine Ah <| fg _ (Sub.pick [[(b2, 35, (Ac m mv))], Sl39_] [0, 1] rfl) ?_
    exact ⟨hM, Ak rfl rfl⟩
   replace hM := iG hc130 hM
   refine AM <| fg _ (Sub.pick [[(b2, 35, (Ac m mv))], Sl39_] [0, 1] rfl) ?_
   exact ⟨l39_, hM, vl39_, Sl39_, hl39_, Ak (by first | rfl | (simp only [hg129]; done) | (simp only [hg129]; rfl) | (simp only [Bc]; rfl)) rfl⟩
  clear hM; rintro t l ⟨hM, ⟨T, rfl⟩, rfl⟩
  unfold Ud at hM
  refine Ai fun K118 hK118 => Ap <| BB [(some 52, false), (some 53, true)] (conG prog []) <| r_R [vl39_, vP b2 3] rfl <| rl mv.2.2.1 0 <| r_V (vI i40_) rfl ?_
  obtain ⟨ck119, hM⟩ := Ae hM
  refine r_W (elA mv.2.2.1 (i40_.toNat * 2)) rfl (AD (An rfl rfl rfl (Rd.shp hm.2.2.1) ck119)) <| r_W (elA mv.2.2.1 (i40_.toNat * 2 + 0)) rfl (AD (AH rfl rfl rfl rfl rfl rfl (Rd.shp hm.2.2.1) (AY ck119))) <| Bw (vS (((m.2.2.2.1)[i40_.toNat]!).1)) (En := enc_50) ((m.2.2.2.1)[i40_.toNat]!) (i40_.toNat) 0 rfl rfl (Av hm.2.2.1) (AA ck119) rfl <| Dj (cs0 := []) (Ls := [[(b2, 35, (Ac m mv))], Sl39_]) 9 encS [((m.2.2.2.1)[i40_.toNat]!).1] [vS (((m.2.2.2.1)[i40_.toNat]!).1)] [Value.string (⟨#[]⟩)] rfl rfl rfl rfl rfl rfl rfl (by kernel_rfl) (by kernel_rfl) rfl rfl rfl (fun s120 S121 H122 => ?_)
  obtain ⟨ck123, hM⟩ := Ae hM
  refine HJ (cs0 := []) (Ls := [[(b2, 35, (Ac m mv))], Sl39_, S121]) 1 (En := encS) rfl rfl rfl rfl rfl hl39_ rfl (AN H122 (Aw (Ls := [[(b2, 35, (Ac m mv))], Sl39_, S121]) (k := 2) rfl rfl)) rfl rfl rfl rfl rfl (HV ck123 rfl) (HU ck123 rfl) rfl (fun s124 S125 H126 => ?_)
  refine r_V s124 rfl <| Aa <| hK118 _ _ ?_
  refine Ax <| r_V (vI i40_) rfl ?_
  obtain ⟨ck127, hM⟩ := Ae hM
  refine r_X (vI (i40_ + 1)) rfl (AR rfl ck127.1 ck127.2) rfl <| r_V (vI (i40_ + 1)) rfl <| Aa <| fg _ (Sub.pick [[(b2, 35, (Ac m mv))], S125, S121] [0, 1] rfl) ?_
  exact ⟨n117 + 1, by omega, n117, (l39_ ++ ([((m.2.2.2.1)[i40_.toNat]!).1])), (i40_ + 1), hM, s124, S125, H126, Ak rfl rfl, rfl⟩
 clear hM; rintro t l ⟨l3_, hM, vl3_, Sl3_, hl3_, ⟨T, rfl⟩, rfl⟩
 unfold OE at hM
 refine Bm (fun tt ll => ∃ (l5_ : List (List UInt8)), (OD N m part l5_ = some r) ∧ ∃ (vl5_ : Value) (Sl5_ : List Bl), Sl 9 encS vl5_ l5_ Sl5_ ∧ Is [(1, vI part), (2, vP b2 0), (5, vl5_)] (List.flatten [[(b2, 35, (Ac m mv))], Sl5_]) tt ll) ?_ ?_
 ·refine Ad <| r_V (vI 0) rfl <| Aa <| Ap <| BF _ (Sub.pick [[(b2, 35, (Ac m mv))], Sl3_] [0, 1] rfl) <| AS (fun tt ll nn => ∃ (n95 : Nat) (l35_ : List (List UInt8)) (i36_ : Int), (JY N m part n95 l35_ i36_ = some r) ∧ ∃ (vl35_ : Value) (Sl35_ : List Bl), Sl 9 encS vl35_ l35_ Sl35_ ∧ Is [(1, vI part), (2, vP b2 0), (5, vl35_), (8, vI i36_)] (List.flatten [[(b2, 35, (Ac m mv))], Sl35_]) tt ll ∧ nn = n95 + 1) (N + 1) ?_ ?_
  ·exact ⟨N, l3_, 0, hM, vl3_, Sl3_, hl3_, Ak rfl rfl, rfl⟩
  clear hM; rintro t l _ ⟨n95, l35_, i36_, hM, vl35_, Sl35_, hl35_, ⟨⟨T, rfl⟩, rfl⟩, rfl⟩
  rcases n95 with _ | n95
  ·exact absurd hM (by simp [JY])
  rw [JY] at hM
  refine Bm (fun tt ll => (Ue m l35_ i36_ (JY N m part n95)  = some r) ∧ Is [(1, vI part), (2, vP b2 0), (5, vl35_), (8, vI i36_)] (List.flatten [[(b2, 35, (Ac m mv))], Sl35_]) tt ll) ?_ ?_
  ·refine Ai fun K113 hK113 => Ax <| r_R [vI i36_, vP b2 4] rfl <| rl mv.2.2.2.1 0 <| r_W (vI (m.2.2.2.2.1.length : Int)) rfl (Aj rfl rfl rfl (RdN.shp hm.2.2.2.1)) <| r_R [vB (decide (i36_ < (m.2.2.2.2.1.length : Int))), vB (decide (i36_ < (m.2.2.2.2.1.length : Int)))] rfl ?_
   rcases hg114 : (decide (i36_ < (m.2.2.2.2.1.length : Int))) with _ | _
   ·replace hM := iF hg114 hM
    refine r_R [none, none, vB false] rfl <| Aa <| hK113 _ _ ?_
    refine Af false rfl (fun h_ => nomatch h_) (fun _ => ?_)
    refine AM <| fg _ (Sub.pick [[(b2, 35, (Ac m mv))], Sl35_] [0, 1] rfl) ?_
    exact ⟨l35_, hM, vl35_, Sl35_, hl35_, Ak (by first | rfl | (simp only [hg114]; done) | (simp only [hg114]; rfl) | (simp only [Bc]; rfl)) rfl⟩
   replace hM := iD hg114 hM
   refine r_R [vI part, vB (part == 4), vB (part == 4)] rfl <| Aa <| hK113 _ _ ?_
   refine Af _ rfl (fun hc115 => ?_) (fun hc115 => ?_)
   ·replace hM := iE hc115 hM
    refine Ah <| fg _ (Sub.pick [[(b2, 35, (Ac m mv))], Sl35_] [0, 1] rfl) ?_
    exact ⟨hM, Ak rfl rfl⟩
   replace hM := iG hc115 hM
   refine AM <| fg _ (Sub.pick [[(b2, 35, (Ac m mv))], Sl35_] [0, 1] rfl) ?_
   exact ⟨l35_, hM, vl35_, Sl35_, hl35_, Ak (by first | rfl | (simp only [hg114]; done) | (simp only [hg114]; rfl) | (simp only [Bc]; rfl)) rfl⟩
  clear hM; rintro t l ⟨hM, ⟨T, rfl⟩, rfl⟩
  unfold Ue at hM
  refine Ai fun K96 hK96 => Ap <| BB [(some 72, false), (some 73, true)] (conG prog []) <| r_R [vl35_, vP b2 4] rfl <| rl mv.2.2.2.1 0 <| r_V (vI i36_) rfl ?_
  obtain ⟨ck97, hM⟩ := Ae hM
  obtain ⟨_, ⟨s98, s99, s100, hs101, hs102, hs103, rfl⟩, hat104⟩ := RdN.at (E := encr_64) hm.2.2.2.1 (AA ck97)
  refine r_W (elA mv.2.2.2.1 (i36_.toNat * 5)) rfl (AD (An rfl rfl rfl (RdN.shp hm.2.2.2.1) ck97)) <| r_W (elA mv.2.2.2.1 (i36_.toNat * 5 + 0)) rfl (AD (AH rfl rfl rfl rfl rfl rfl (RdN.shp hm.2.2.2.1) (AY ck97))) <| Eo (vS ((m.2.2.2.2.1)[i36_.toNat]!.1)) (vs := [vS ((m.2.2.2.2.1)[i36_.toNat]!.1), s98, s99, s100, vI ((m.2.2.2.2.1)[i36_.toNat]!.2.2.2.2)]) (i36_.toNat * 5) 0 rfl rfl (fun o w z_ => At.mono z_.ro_cell hat104) rfl ?_
  refine Dj (cs0 := []) (Ls := [[(b2, 35, (Ac m mv))], Sl35_]) 9 encS [(m.2.2.2.2.1)[i36_.toNat]!.1] [vS ((m.2.2.2.2.1)[i36_.toNat]!.1)] [Value.string (⟨#[]⟩)] rfl rfl rfl rfl rfl rfl rfl (by kernel_rfl) (by kernel_rfl) rfl rfl rfl (fun s105 S106 H107 => ?_)
  obtain ⟨ck108, hM⟩ := Ae hM
  refine HJ (cs0 := []) (Ls := [[(b2, 35, (Ac m mv))], Sl35_, S106]) 1 (En := encS) rfl rfl rfl rfl rfl hl35_ rfl (AN H107 (Aw (Ls := [[(b2, 35, (Ac m mv))], Sl35_, S106]) (k := 2) rfl rfl)) rfl rfl rfl rfl rfl (HV ck108 rfl) (HU ck108 rfl) rfl (fun s109 S110 H111 => ?_)
  refine r_V s109 rfl <| Aa <| hK96 _ _ ?_
  refine Ax <| r_V (vI i36_) rfl ?_
  obtain ⟨ck112, hM⟩ := Ae hM
  refine r_X (vI (i36_ + 1)) rfl (AR rfl ck112.1 ck112.2) rfl <| r_V (vI (i36_ + 1)) rfl <| Aa <| fg _ (Sub.pick [[(b2, 35, (Ac m mv))], S110, S106] [0, 1] rfl) ?_
  exact ⟨n95 + 1, by omega, n95, (l35_ ++ ([(m.2.2.2.2.1)[i36_.toNat]!.1])), (i36_ + 1), hM, s109, S110, H111, Ak rfl rfl, rfl⟩
 clear hM; rintro t l ⟨l5_, hM, vl5_, Sl5_, hl5_, ⟨T, rfl⟩, rfl⟩
 unfold OD at hM
 refine Bm (fun tt ll => ∃ (l7_ : List (List UInt8)), (OC N m part l7_ = some r) ∧ ∃ (vl7_ : Value) (Sl7_ : List Bl), Sl 9 encS vl7_ l7_ Sl7_ ∧ Is [(1, vI part), (2, vP b2 0), (5, vl7_)] (List.flatten [[(b2, 35, (Ac m mv))], Sl7_]) tt ll) ?_ ?_
 ·refine Ad <| r_V (vI 0) rfl <| Aa <| Ap <| BF _ (Sub.pick [[(b2, 35, (Ac m mv))], Sl5_] [0, 1] rfl) <| AS (fun tt ll nn => ∃ (n75 : Nat) (l31_ : List (List UInt8)) (i32_ : Int), (JZ N m part n75 l31_ i32_ = some r) ∧ ∃ (vl31_ : Value) (Sl31_ : List Bl), Sl 9 encS vl31_ l31_ Sl31_ ∧ Is [(1, vI part), (2, vP b2 0), (5, vl31_), (9, vI i32_)] (List.flatten [[(b2, 35, (Ac m mv))], Sl31_]) tt ll ∧ nn = n75 + 1) (N + 1) ?_ ?_
  ·exact ⟨N, l5_, 0, hM, vl5_, Sl5_, hl5_, Ak rfl rfl, rfl⟩
  clear hM; rintro t l _ ⟨n75, l31_, i32_, hM, vl31_, Sl31_, hl31_, ⟨⟨T, rfl⟩, rfl⟩, rfl⟩
  rcases n75 with _ | n75
  ·exact absurd hM (by simp [JZ])
  rw [JZ] at hM
  refine Bm (fun tt ll => (Uf m l31_ i32_ (JZ N m part n75)  = some r) ∧ Is [(1, vI part), (2, vP b2 0), (5, vl31_), (9, vI i32_)] (List.flatten [[(b2, 35, (Ac m mv))], Sl31_]) tt ll) ?_ ?_
  ·refine Ai fun K91 hK91 => Ax <| r_R [vI i32_, vP b2 5] rfl <| rl mv.2.2.2.2.1 0 <| r_W (vI (m.2.2.2.2.2.1.length : Int)) rfl (Aj rfl rfl rfl (RdN.shp hm.2.2.2.2.1)) <| r_R [vB (decide (i32_ < (m.2.2.2.2.2.1.length : Int))), vB (decide (i32_ < (m.2.2.2.2.2.1.length : Int)))] rfl ?_
   rcases hg92 : (decide (i32_ < (m.2.2.2.2.2.1.length : Int))) with _ | _
   ·replace hM := iF hg92 hM
    refine r_R [none, none, vB false] rfl <| Aa <| hK91 _ _ ?_
    refine Af false rfl (fun h_ => nomatch h_) (fun _ => ?_)
    refine AM <| fg _ (Sub.pick [[(b2, 35, (Ac m mv))], Sl31_] [0, 1] rfl) ?_
    exact ⟨l31_, hM, vl31_, Sl31_, hl31_, Ak (by first | rfl | (simp only [hg92]; done) | (simp only [hg92]; rfl) | (simp only [Bc]; rfl)) rfl⟩
   replace hM := iD hg92 hM
   refine r_R [vI part, vB (part == 5), vB (part == 5)] rfl <| Aa <| hK91 _ _ ?_
   refine Af _ rfl (fun hc93 => ?_) (fun hc93 => ?_)
   ·replace hM := iE hc93 hM
    refine Ah <| fg _ (Sub.pick [[(b2, 35, (Ac m mv))], Sl31_] [0, 1] rfl) ?_
    exact ⟨hM, Ak rfl rfl⟩
   replace hM := iG hc93 hM
   refine AM <| fg _ (Sub.pick [[(b2, 35, (Ac m mv))], Sl31_] [0, 1] rfl) ?_
   exact ⟨l31_, hM, vl31_, Sl31_, hl31_, Ak (by first | rfl | (simp only [hg92]; done) | (simp only [hg92]; rfl) | (simp only [Bc]; rfl)) rfl⟩
  clear hM; rintro t l ⟨hM, ⟨T, rfl⟩, rfl⟩
  unfold Uf at hM
  refine Ai fun K76 hK76 => Ap <| BB [(some 92, false), (some 93, true)] (conG prog []) <| r_R [vl31_, vP b2 5] rfl <| rl mv.2.2.2.2.1 0 <| r_V (vI i32_) rfl ?_
  obtain ⟨ck77, hM⟩ := Ae hM
  obtain ⟨_, ⟨s78, s79, hs80, hs81, rfl⟩, hat82⟩ := RdN.at (E := encr_53) hm.2.2.2.2.1 (AA ck77)
  refine r_W (elA mv.2.2.2.2.1 (i32_.toNat * 3)) rfl (AD (An rfl rfl rfl (RdN.shp hm.2.2.2.2.1) ck77)) <| r_W (elA mv.2.2.2.2.1 (i32_.toNat * 3 + 0)) rfl (AD (AH rfl rfl rfl rfl rfl rfl (RdN.shp hm.2.2.2.2.1) (AY ck77))) <| Eo (vS ((m.2.2.2.2.2.1)[i32_.toNat]!.1)) (vs := [vS ((m.2.2.2.2.2.1)[i32_.toNat]!.1), s78, s79]) (i32_.toNat * 3) 0 rfl rfl (fun o w z_ => At.mono z_.ro_cell hat82) rfl ?_
  refine Dj (cs0 := []) (Ls := [[(b2, 35, (Ac m mv))], Sl31_]) 9 encS [(m.2.2.2.2.2.1)[i32_.toNat]!.1] [vS ((m.2.2.2.2.2.1)[i32_.toNat]!.1)] [Value.string (⟨#[]⟩)] rfl rfl rfl rfl rfl rfl rfl (by kernel_rfl) (by kernel_rfl) rfl rfl rfl (fun s83 S84 H85 => ?_)
  obtain ⟨ck86, hM⟩ := Ae hM
  refine HJ (cs0 := []) (Ls := [[(b2, 35, (Ac m mv))], Sl31_, S84]) 1 (En := encS) rfl rfl rfl rfl rfl hl31_ rfl (AN H85 (Aw (Ls := [[(b2, 35, (Ac m mv))], Sl31_, S84]) (k := 2) rfl rfl)) rfl rfl rfl rfl rfl (HV ck86 rfl) (HU ck86 rfl) rfl (fun s87 S88 H89 => ?_)
  refine r_V s87 rfl <| Aa <| hK76 _ _ ?_
  refine Ax <| r_V (vI i32_) rfl ?_
  obtain ⟨ck90, hM⟩ := Ae hM
  refine r_X (vI (i32_ + 1)) rfl (AR rfl ck90.1 ck90.2) rfl <| r_V (vI (i32_ + 1)) rfl <| Aa <| fg _ (Sub.pick [[(b2, 35, (Ac m mv))], S88, S84] [0, 1] rfl) ?_
  exact ⟨n75 + 1, by omega, n75, (l31_ ++ ([(m.2.2.2.2.2.1)[i32_.toNat]!.1])), (i32_ + 1), hM, s87, S88, H89, Ak rfl rfl, rfl⟩
 clear hM; rintro t l ⟨l7_, hM, vl7_, Sl7_, hl7_, ⟨T, rfl⟩, rfl⟩
 unfold OC at hM
 refine Bm (fun tt ll => ∃ (l9_ : List (List UInt8)), (Kh N m part l9_ = some r) ∧ ∃ (vl9_ : Value) (Sl9_ : List Bl), Sl 9 encS vl9_ l9_ Sl9_ ∧ Is [(1, vI part), (2, vP b2 0), (5, vl9_)] (List.flatten [[(b2, 35, (Ac m mv))], Sl9_]) tt ll) ?_ ?_
 ·refine Ad <| r_V (vI 0) rfl <| Aa <| Ap <| BF _ (Sub.pick [[(b2, 35, (Ac m mv))], Sl7_] [0, 1] rfl) <| AS (fun tt ll nn => ∃ (n53 : Nat) (l27_ : List (List UInt8)) (i28_ : Int), (Ka N m part n53 l27_ i28_ = some r) ∧ ∃ (vl27_ : Value) (Sl27_ : List Bl), Sl 9 encS vl27_ l27_ Sl27_ ∧ Is [(1, vI part), (2, vP b2 0), (5, vl27_), (10, vI i28_)] (List.flatten [[(b2, 35, (Ac m mv))], Sl27_]) tt ll ∧ nn = n53 + 1) (N + 1) ?_ ?_
  ·exact ⟨N, l7_, 0, hM, vl7_, Sl7_, hl7_, Ak rfl rfl, rfl⟩
  clear hM; rintro t l _ ⟨n53, l27_, i28_, hM, vl27_, Sl27_, hl27_, ⟨⟨T, rfl⟩, rfl⟩, rfl⟩
  rcases n53 with _ | n53
  ·exact absurd hM (by simp [Ka])
  rw [Ka] at hM
  refine Bm (fun tt ll => (Ug m l27_ i28_ (Ka N m part n53)  = some r) ∧ Is [(1, vI part), (2, vP b2 0), (5, vl27_), (10, vI i28_)] (List.flatten [[(b2, 35, (Ac m mv))], Sl27_]) tt ll) ?_ ?_
  ·refine Ai fun K71 hK71 => Ax <| r_R [vI i28_, vP b2 6] rfl <| rl mv.2.2.2.2.2.1 0 <| r_W (vI (m.2.2.2.2.2.2.1.length : Int)) rfl (Aj rfl rfl rfl (RdN.shp hm.2.2.2.2.2.1)) <| r_R [vB (decide (i28_ < (m.2.2.2.2.2.2.1.length : Int))), vB (decide (i28_ < (m.2.2.2.2.2.2.1.length : Int)))] rfl ?_
   rcases hg72 : (decide (i28_ < (m.2.2.2.2.2.2.1.length : Int))) with _ | _
   ·replace hM := iF hg72 hM
    refine r_R [none, none, vB false] rfl <| Aa <| hK71 _ _ ?_
    refine Af false rfl (fun h_ => nomatch h_) (fun _ => ?_)
    refine AM <| fg _ (Sub.pick [[(b2, 35, (Ac m mv))], Sl27_] [0, 1] rfl) ?_
    exact ⟨l27_, hM, vl27_, Sl27_, hl27_, Ak (by first | rfl | (simp only [hg72]; done) | (simp only [hg72]; rfl) | (simp only [Bc]; rfl)) rfl⟩
   replace hM := iD hg72 hM
   refine r_R [vI part, vB (part == 6), vB (part == 6)] rfl <| Aa <| hK71 _ _ ?_
   refine Af _ rfl (fun hc73 => ?_) (fun hc73 => ?_)
   ·replace hM := iE hc73 hM
    refine Ah <| fg _ (Sub.pick [[(b2, 35, (Ac m mv))], Sl27_] [0, 1] rfl) ?_
    exact ⟨hM, Ak rfl rfl⟩
   replace hM := iG hc73 hM
   refine AM <| fg _ (Sub.pick [[(b2, 35, (Ac m mv))], Sl27_] [0, 1] rfl) ?_
   exact ⟨l27_, hM, vl27_, Sl27_, hl27_, Ak (by first | rfl | (simp only [hg72]; done) | (simp only [hg72]; rfl) | (simp only [Bc]; rfl)) rfl⟩
  clear hM; rintro t l ⟨hM, ⟨T, rfl⟩, rfl⟩
  unfold Ug at hM
  refine Ai fun K54 hK54 => Ap <| BB [(some 112, false), (some 113, true)] (conG prog []) <| r_R [vl27_, vP b2 6] rfl <| rl mv.2.2.2.2.2.1 0 <| r_V (vI i28_) rfl ?_
  obtain ⟨ck55, hM⟩ := Ae hM
  obtain ⟨_, ⟨s56, s57, s58, hs59, hs60, hs61, rfl⟩, hat62⟩ := RdN.at (E := encr_72) hm.2.2.2.2.2.1 (AA ck55)
  refine r_W (elA mv.2.2.2.2.2.1 (i28_.toNat * 7)) rfl (AD (An rfl rfl rfl (RdN.shp hm.2.2.2.2.2.1) ck55)) <| r_W (elA mv.2.2.2.2.2.1 (i28_.toNat * 7 + 0)) rfl (AD (AH rfl rfl rfl rfl rfl rfl (RdN.shp hm.2.2.2.2.2.1) (AY ck55))) <| Eo (vS ((m.2.2.2.2.2.2.1)[i28_.toNat]!.1)) (vs := [vS ((m.2.2.2.2.2.2.1)[i28_.toNat]!.1), vI ((m.2.2.2.2.2.2.1)[i28_.toNat]!.2.1), s56, s57, vI ((m.2.2.2.2.2.2.1)[i28_.toNat]!.2.2.2.2.1), s58, vI ((m.2.2.2.2.2.2.1)[i28_.toNat]!.2.2.2.2.2.2)]) (i28_.toNat * 7) 0 rfl rfl (fun o w z_ => At.mono z_.ro_cell hat62) rfl ?_
  refine Dj (cs0 := []) (Ls := [[(b2, 35, (Ac m mv))], Sl27_]) 9 encS [(m.2.2.2.2.2.2.1)[i28_.toNat]!.1] [vS ((m.2.2.2.2.2.2.1)[i28_.toNat]!.1)] [Value.string (⟨#[]⟩)] rfl rfl rfl rfl rfl rfl rfl (by kernel_rfl) (by kernel_rfl) rfl rfl rfl (fun s63 S64 H65 => ?_)
  obtain ⟨ck66, hM⟩ := Ae hM
  refine HJ (cs0 := []) (Ls := [[(b2, 35, (Ac m mv))], Sl27_, S64]) 1 (En := encS) rfl rfl rfl rfl rfl hl27_ rfl (AN H65 (Aw (Ls := [[(b2, 35, (Ac m mv))], Sl27_, S64]) (k := 2) rfl rfl)) rfl rfl rfl rfl rfl (HV ck66 rfl) (HU ck66 rfl) rfl (fun s67 S68 H69 => ?_)
  refine r_V s67 rfl <| Aa <| hK54 _ _ ?_
  refine Ax <| r_V (vI i28_) rfl ?_
  obtain ⟨ck70, hM⟩ := Ae hM
  refine r_X (vI (i28_ + 1)) rfl (AR rfl ck70.1 ck70.2) rfl <| r_V (vI (i28_ + 1)) rfl <| Aa <| fg _ (Sub.pick [[(b2, 35, (Ac m mv))], S68, S64] [0, 1] rfl) ?_
  exact ⟨n53 + 1, by omega, n53, (l27_ ++ ([(m.2.2.2.2.2.2.1)[i28_.toNat]!.1])), (i28_ + 1), hM, s67, S68, H69, Ak rfl rfl, rfl⟩
 clear hM; rintro t l ⟨l9_, hM, vl9_, Sl9_, hl9_, ⟨T, rfl⟩, rfl⟩
 unfold Kh at hM
 refine Bm (fun tt ll => ∃ (l11_ : List (List UInt8)), (Kg N m part l11_ = some r) ∧ ∃ (vl11_ : Value) (Sl11_ : List Bl), Sl 9 encS vl11_ l11_ Sl11_ ∧ Is [(1, vI part), (2, vP b2 0), (5, vl11_)] (List.flatten [[(b2, 35, (Ac m mv))], Sl11_]) tt ll) ?_ ?_
 ·refine Ad <| r_V (vI 0) rfl <| Aa <| Ap <| BF _ (Sub.pick [[(b2, 35, (Ac m mv))], Sl9_] [0, 1] rfl) <| AS (fun tt ll nn => ∃ (n38 : Nat) (l23_ : List (List UInt8)) (i24_ : Int), (Kb N m part n38 l23_ i24_ = some r) ∧ ∃ (vl23_ : Value) (Sl23_ : List Bl), Sl 9 encS vl23_ l23_ Sl23_ ∧ Is [(1, vI part), (2, vP b2 0), (5, vl23_), (11, vI i24_)] (List.flatten [[(b2, 35, (Ac m mv))], Sl23_]) tt ll ∧ nn = n38 + 1) (N + 1) ?_ ?_
  ·exact ⟨N, l9_, 0, hM, vl9_, Sl9_, hl9_, Ak rfl rfl, rfl⟩
  clear hM; rintro t l _ ⟨n38, l23_, i24_, hM, vl23_, Sl23_, hl23_, ⟨⟨T, rfl⟩, rfl⟩, rfl⟩
  rcases n38 with _ | n38
  ·exact absurd hM (by simp [Kb])
  rw [Kb] at hM
  refine Bm (fun tt ll => (Uh m l23_ i24_ (Kb N m part n38)  = some r) ∧ Is [(1, vI part), (2, vP b2 0), (5, vl23_), (11, vI i24_)] (List.flatten [[(b2, 35, (Ac m mv))], Sl23_]) tt ll) ?_ ?_
  ·refine Ai fun K49 hK49 => Ax <| r_R [vI i24_, vP b2 12] rfl <| rl mv.2.2.2.2.2.2.2.2.2.2.2.1 0 <| r_W (vI (m.2.2.2.2.2.2.2.2.2.2.2.2.1.length : Int)) rfl (Aj rfl rfl rfl (Rd.shp hm.2.2.2.2.2.2.2.2.2.2.2.1)) <| r_R [vB (decide (i24_ < (m.2.2.2.2.2.2.2.2.2.2.2.2.1.length : Int))), vB (decide (i24_ < (m.2.2.2.2.2.2.2.2.2.2.2.2.1.length : Int)))] rfl ?_
   rcases hg50 : (decide (i24_ < (m.2.2.2.2.2.2.2.2.2.2.2.2.1.length : Int))) with _ | _
   ·replace hM := iF hg50 hM
    refine r_R [none, none, vB false] rfl <| Aa <| hK49 _ _ ?_
    refine Af false rfl (fun h_ => nomatch h_) (fun _ => ?_)
    refine AM <| fg _ (Sub.pick [[(b2, 35, (Ac m mv))], Sl23_] [0, 1] rfl) ?_
    exact ⟨l23_, hM, vl23_, Sl23_, hl23_, Ak (by first | rfl | (simp only [hg50]; done) | (simp only [hg50]; rfl) | (simp only [Bc]; rfl)) rfl⟩
   replace hM := iD hg50 hM
   refine r_R [vI part, vB (part == 12), vB (part == 12)] rfl <| Aa <| hK49 _ _ ?_
   refine Af _ rfl (fun hc51 => ?_) (fun hc51 => ?_)
   ·replace hM := iE hc51 hM
    refine Ah <| fg _ (Sub.pick [[(b2, 35, (Ac m mv))], Sl23_] [0, 1] rfl) ?_
    exact ⟨hM, Ak rfl rfl⟩
   replace hM := iG hc51 hM
   refine AM <| fg _ (Sub.pick [[(b2, 35, (Ac m mv))], Sl23_] [0, 1] rfl) ?_
   exact ⟨l23_, hM, vl23_, Sl23_, hl23_, Ak (by first | rfl | (simp only [hg50]; done) | (simp only [hg50]; rfl) | (simp only [Bc]; rfl)) rfl⟩
  clear hM; rintro t l ⟨hM, ⟨T, rfl⟩, rfl⟩
  unfold Uh at hM
  refine Ai fun K39 hK39 => Ap <| BB [(some 132, false), (some 133, true)] (conG prog []) <| r_R [vl23_, vP b2 12] rfl <| rl mv.2.2.2.2.2.2.2.2.2.2.2.1 0 <| r_V (vI i24_) rfl ?_
  obtain ⟨ck40, hM⟩ := Ae hM
  refine r_W (elA mv.2.2.2.2.2.2.2.2.2.2.2.1 (i24_.toNat * 3)) rfl (AD (An rfl rfl rfl (Rd.shp hm.2.2.2.2.2.2.2.2.2.2.2.1) ck40)) <| r_W (elA mv.2.2.2.2.2.2.2.2.2.2.2.1 (i24_.toNat * 3 + 0)) rfl (AD (AH rfl rfl rfl rfl rfl rfl (Rd.shp hm.2.2.2.2.2.2.2.2.2.2.2.1) (AY ck40))) <| Bw (vS (((m.2.2.2.2.2.2.2.2.2.2.2.2.1)[i24_.toNat]!).1)) (En := enc_118) ((m.2.2.2.2.2.2.2.2.2.2.2.2.1)[i24_.toNat]!) (i24_.toNat) 0 rfl rfl (Av hm.2.2.2.2.2.2.2.2.2.2.2.1) (AA ck40) rfl ?_
  refine Dj (cs0 := []) (Ls := [[(b2, 35, (Ac m mv))], Sl23_]) 9 encS [((m.2.2.2.2.2.2.2.2.2.2.2.2.1)[i24_.toNat]!).1] [vS (((m.2.2.2.2.2.2.2.2.2.2.2.2.1)[i24_.toNat]!).1)] [Value.string (⟨#[]⟩)] rfl rfl rfl rfl rfl rfl rfl (by kernel_rfl) (by kernel_rfl) rfl rfl rfl (fun s41 S42 H43 => ?_)
  obtain ⟨ck44, hM⟩ := Ae hM
  refine HJ (cs0 := []) (Ls := [[(b2, 35, (Ac m mv))], Sl23_, S42]) 1 (En := encS) rfl rfl rfl rfl rfl hl23_ rfl (AN H43 (Aw (Ls := [[(b2, 35, (Ac m mv))], Sl23_, S42]) (k := 2) rfl rfl)) rfl rfl rfl rfl rfl (HV ck44 rfl) (HU ck44 rfl) rfl (fun s45 S46 H47 => ?_)
  refine r_V s45 rfl <| Aa <| hK39 _ _ ?_
  refine Ax <| r_V (vI i24_) rfl ?_
  obtain ⟨ck48, hM⟩ := Ae hM
  refine r_X (vI (i24_ + 1)) rfl (AR rfl ck48.1 ck48.2) rfl <| r_V (vI (i24_ + 1)) rfl <| Aa <| fg _ (Sub.pick [[(b2, 35, (Ac m mv))], S46, S42] [0, 1] rfl) ?_
  exact ⟨n38 + 1, by omega, n38, (l23_ ++ ([((m.2.2.2.2.2.2.2.2.2.2.2.2.1)[i24_.toNat]!).1])), (i24_ + 1), hM, s45, S46, H47, Ak rfl rfl, rfl⟩
 clear hM; rintro t l ⟨l11_, hM, vl11_, Sl11_, hl11_, ⟨T, rfl⟩, rfl⟩
 unfold Kg at hM
 refine Bm (fun tt ll => ∃ (l13_ : List (List UInt8)), (Kf N m part l13_ = some r) ∧ ∃ (vl13_ : Value) (Sl13_ : List Bl), Sl 9 encS vl13_ l13_ Sl13_ ∧ Is [(1, vI part), (2, vP b2 0), (5, vl13_)] (List.flatten [[(b2, 35, (Ac m mv))], Sl13_]) tt ll) ?_ ?_
 ·refine Ad <| r_V (vI 0) rfl <| Aa <| Ap <| BF _ (Sub.pick [[(b2, 35, (Ac m mv))], Sl11_] [0, 1] rfl) <| AS (fun tt ll nn => ∃ (n23 : Nat) (l19_ : List (List UInt8)) (i20_ : Int), (Kc N m part n23 l19_ i20_ = some r) ∧ ∃ (vl19_ : Value) (Sl19_ : List Bl), Sl 9 encS vl19_ l19_ Sl19_ ∧ Is [(1, vI part), (2, vP b2 0), (5, vl19_), (12, vI i20_)] (List.flatten [[(b2, 35, (Ac m mv))], Sl19_]) tt ll ∧ nn = n23 + 1) (N + 1) ?_ ?_
  ·exact ⟨N, l11_, 0, hM, vl11_, Sl11_, hl11_, Ak rfl rfl, rfl⟩
  clear hM; rintro t l _ ⟨n23, l19_, i20_, hM, vl19_, Sl19_, hl19_, ⟨⟨T, rfl⟩, rfl⟩, rfl⟩
  rcases n23 with _ | n23
  ·exact absurd hM (by simp [Kc])
  rw [Kc] at hM
  refine Bm (fun tt ll => (Ui m l19_ i20_ (Kc N m part n23)  = some r) ∧ Is [(1, vI part), (2, vP b2 0), (5, vl19_), (12, vI i20_)] (List.flatten [[(b2, 35, (Ac m mv))], Sl19_]) tt ll) ?_ ?_
  ·refine Ai fun K34 hK34 => Ax <| r_R [vI i20_, vP b2 13] rfl <| rl mv.2.2.2.2.2.2.2.2.2.2.2.2.1 0 <| r_W (vI (m.2.2.2.2.2.2.2.2.2.2.2.2.2.1.length : Int)) rfl (Aj rfl rfl rfl (Rd.shp hm.2.2.2.2.2.2.2.2.2.2.2.2.1)) <| r_R [vB (decide (i20_ < (m.2.2.2.2.2.2.2.2.2.2.2.2.2.1.length : Int))), vB (decide (i20_ < (m.2.2.2.2.2.2.2.2.2.2.2.2.2.1.length : Int)))] rfl ?_
   rcases hg35 : (decide (i20_ < (m.2.2.2.2.2.2.2.2.2.2.2.2.2.1.length : Int))) with _ | _
   ·replace hM := iF hg35 hM
    refine r_R [none, none, vB false] rfl <| Aa <| hK34 _ _ ?_
    refine Af false rfl (fun h_ => nomatch h_) (fun _ => ?_)
    refine AM <| fg _ (Sub.pick [[(b2, 35, (Ac m mv))], Sl19_] [0, 1] rfl) ?_
    exact ⟨l19_, hM, vl19_, Sl19_, hl19_, Ak (by first | rfl | (simp only [hg35]; done) | (simp only [hg35]; rfl) | (simp only [Bc]; rfl)) rfl⟩
   replace hM := iD hg35 hM
   refine r_R [vI part, vB (part == 13), vB (part == 13)] rfl <| Aa <| hK34 _ _ ?_
   refine Af _ rfl (fun hc36 => ?_) (fun hc36 => ?_)
   ·replace hM := iE hc36 hM
    refine Ah <| fg _ (Sub.pick [[(b2, 35, (Ac m mv))], Sl19_] [0, 1] rfl) ?_
    exact ⟨hM, Ak rfl rfl⟩
   replace hM := iG hc36 hM
   refine AM <| fg _ (Sub.pick [[(b2, 35, (Ac m mv))], Sl19_] [0, 1] rfl) ?_
   exact ⟨l19_, hM, vl19_, Sl19_, hl19_, Ak (by first | rfl | (simp only [hg35]; done) | (simp only [hg35]; rfl) | (simp only [Bc]; rfl)) rfl⟩
  clear hM; rintro t l ⟨hM, ⟨T, rfl⟩, rfl⟩
  unfold Ui at hM
  refine Ai fun K24 hK24 => Ap <| BB [(some 152, false), (some 153, true)] (conG prog []) <| r_R [vl19_, vP b2 13] rfl <| rl mv.2.2.2.2.2.2.2.2.2.2.2.2.1 0 <| r_V (vI i20_) rfl ?_
  obtain ⟨ck25, hM⟩ := Ae hM
  refine r_W (elA mv.2.2.2.2.2.2.2.2.2.2.2.2.1 (i20_.toNat * 2)) rfl (AD (An rfl rfl rfl (Rd.shp hm.2.2.2.2.2.2.2.2.2.2.2.2.1) ck25)) <| r_W (elA mv.2.2.2.2.2.2.2.2.2.2.2.2.1 (i20_.toNat * 2 + 0)) rfl (AD (AH rfl rfl rfl rfl rfl rfl (Rd.shp hm.2.2.2.2.2.2.2.2.2.2.2.2.1) (AY ck25))) <| Bw (vS (((m.2.2.2.2.2.2.2.2.2.2.2.2.2.1)[i20_.toNat]!).1)) (En := enc_122) ((m.2.2.2.2.2.2.2.2.2.2.2.2.2.1)[i20_.toNat]!) (i20_.toNat) 0 rfl rfl (Av hm.2.2.2.2.2.2.2.2.2.2.2.2.1) (AA ck25) rfl ?_
  refine Dj (cs0 := []) (Ls := [[(b2, 35, (Ac m mv))], Sl19_]) 9 encS [((m.2.2.2.2.2.2.2.2.2.2.2.2.2.1)[i20_.toNat]!).1] [vS (((m.2.2.2.2.2.2.2.2.2.2.2.2.2.1)[i20_.toNat]!).1)] [Value.string (⟨#[]⟩)] rfl rfl rfl rfl rfl rfl rfl (by kernel_rfl) (by kernel_rfl) rfl rfl rfl (fun s26 S27 H28 => ?_)
  obtain ⟨ck29, hM⟩ := Ae hM
  refine HJ (cs0 := []) (Ls := [[(b2, 35, (Ac m mv))], Sl19_, S27]) 1 (En := encS) rfl rfl rfl rfl rfl hl19_ rfl (AN H28 (Aw (Ls := [[(b2, 35, (Ac m mv))], Sl19_, S27]) (k := 2) rfl rfl)) rfl rfl rfl rfl rfl (HV ck29 rfl) (HU ck29 rfl) rfl (fun s30 S31 H32 => ?_)
  refine r_V s30 rfl <| Aa <| hK24 _ _ ?_
  refine Ax <| r_V (vI i20_) rfl ?_
  obtain ⟨ck33, hM⟩ := Ae hM
  refine r_X (vI (i20_ + 1)) rfl (AR rfl ck33.1 ck33.2) rfl <| r_V (vI (i20_ + 1)) rfl <| Aa <| fg _ (Sub.pick [[(b2, 35, (Ac m mv))], S31, S27] [0, 1] rfl) ?_
  exact ⟨n23 + 1, by omega, n23, (l19_ ++ ([((m.2.2.2.2.2.2.2.2.2.2.2.2.2.1)[i20_.toNat]!).1])), (i20_ + 1), hM, s30, S31, H32, Ak rfl rfl, rfl⟩
 clear hM; rintro t l ⟨l13_, hM, vl13_, Sl13_, hl13_, ⟨T, rfl⟩, rfl⟩
 unfold Kf at hM
 refine Ai fun K4 hK4 => Ad <| r_V (vI 0) rfl <| Aa <| Ap <| BF _ (Sub.pick [[(b2, 35, (Ac m mv))], Sl13_] [0, 1] rfl) <| AS (fun tt ll nn => ∃ (n6 : Nat) (l15_ : List (List UInt8)) (i16_ : Int), (Ke m part n6 l15_ i16_ = some r) ∧ ∃ (vl15_ : Value) (Sl15_ : List Bl), Sl 9 encS vl15_ l15_ Sl15_ ∧ Is [(1, vI part), (2, vP b2 0), (5, vl15_), (13, vI i16_)] (List.flatten [[(b2, 35, (Ac m mv))], Sl15_]) tt ll ∧ nn = n6 + 1) (N + 1) ?_ ?_
 ·exact ⟨N, l13_, 0, hM, vl13_, Sl13_, hl13_, Ak rfl rfl, rfl⟩
 clear hM; rintro t l _ ⟨n6, l15_, i16_, hM, vl15_, Sl15_, hl15_, ⟨⟨T, rfl⟩, rfl⟩, rfl⟩
 rcases n6 with _ | n6
 ·exact absurd hM (by simp [Ke])
 rw [Ke] at hM
 refine Bm (fun tt ll => (Uj m l15_ i16_ (Ke m part n6)  = some r) ∧ Is [(1, vI part), (2, vP b2 0), (5, vl15_), (13, vI i16_)] (List.flatten [[(b2, 35, (Ac m mv))], Sl15_]) tt ll) ?_ ?_
 ·refine Ai fun K17 hK17 => Ax <| r_R [vI i16_, vP b2 14] rfl <| rl mv.2.2.2.2.2.2.2.2.2.2.2.2.2 0 <| r_W (vI (m.2.2.2.2.2.2.2.2.2.2.2.2.2.2.1.length : Int)) rfl (Aj rfl rfl rfl (Rd.shp hm.2.2.2.2.2.2.2.2.2.2.2.2.2)) <| r_R [vB (decide (i16_ < (m.2.2.2.2.2.2.2.2.2.2.2.2.2.2.1.length : Int))), vB (decide (i16_ < (m.2.2.2.2.2.2.2.2.2.2.2.2.2.2.1.length : Int)))] rfl ?_
  rcases hg18 : (decide (i16_ < (m.2.2.2.2.2.2.2.2.2.2.2.2.2.2.1.length : Int))) with _ | _
  ·replace hM := iF hg18 hM
   refine r_R [none, none, vB false] rfl <| Aa <| hK17 _ _ ?_
   refine Af false rfl (fun h_ => nomatch h_) (fun _ => ?_)
   refine AM <| hK4 _ _ ?_
   refine Ad <| r_R [vl15_, vl15_] rfl <| Aa ?_
   cases hM
   refine AW (fun hn => Ex (v0 := vl15_) hl15_ (Cv (Sub.pick [[(b2, 35, (Ac m mv))], Sl15_] [1] rfl)) rfl (Cy rfl))
  replace hM := iD hg18 hM
  refine r_R [vI part, vB (part == 14), vB (part == 14)] rfl <| Aa <| hK17 _ _ ?_
  refine Af _ rfl (fun hc20 => ?_) (fun hc20 => ?_)
  ·replace hM := iE hc20 hM
   refine Ah <| fg _ (Sub.pick [[(b2, 35, (Ac m mv))], Sl15_] [0, 1] rfl) ?_
   exact ⟨hM, Ak rfl rfl⟩
  replace hM := iG hc20 hM
  refine AM <| hK4 _ _ ?_
  refine Ad <| r_R [vl15_, vl15_] rfl <| Aa ?_
  cases hM
  refine AW (fun hn => Ex (v0 := vl15_) hl15_ (Cv (Sub.pick [[(b2, 35, (Ac m mv))], Sl15_] [1] rfl)) rfl (Cy rfl))
 clear hM; rintro t l ⟨hM, ⟨T, rfl⟩, rfl⟩
 unfold Uj at hM
 refine Ai fun K7 hK7 => Ap <| BB [(some 172, false), (some 173, true)] (conG prog []) <| r_R [vl15_, vP b2 14] rfl <| rl mv.2.2.2.2.2.2.2.2.2.2.2.2.2 0 <| r_V (vI i16_) rfl ?_
 obtain ⟨ck8, hM⟩ := Ae hM
 refine r_W (elA mv.2.2.2.2.2.2.2.2.2.2.2.2.2 (i16_.toNat * 4)) rfl (AD (An rfl rfl rfl (Rd.shp hm.2.2.2.2.2.2.2.2.2.2.2.2.2) ck8)) <| r_W (elA mv.2.2.2.2.2.2.2.2.2.2.2.2.2 (i16_.toNat * 4 + 0)) rfl (AD (AH rfl rfl rfl rfl rfl rfl (Rd.shp hm.2.2.2.2.2.2.2.2.2.2.2.2.2) (AY ck8))) <| Bw (vS (((m.2.2.2.2.2.2.2.2.2.2.2.2.2.2.1)[i16_.toNat]!).1)) (En := enc_126) ((m.2.2.2.2.2.2.2.2.2.2.2.2.2.2.1)[i16_.toNat]!) (i16_.toNat) 0 rfl rfl (Av hm.2.2.2.2.2.2.2.2.2.2.2.2.2) (AA ck8) rfl ?_
 refine Dj (cs0 := []) (Ls := [[(b2, 35, (Ac m mv))], Sl15_]) 9 encS [((m.2.2.2.2.2.2.2.2.2.2.2.2.2.2.1)[i16_.toNat]!).1] [vS (((m.2.2.2.2.2.2.2.2.2.2.2.2.2.2.1)[i16_.toNat]!).1)] [Value.string (⟨#[]⟩)] rfl rfl rfl rfl rfl rfl rfl (by kernel_rfl) (by kernel_rfl) rfl rfl rfl (fun s9 S10 H11 => ?_)
 obtain ⟨ck12, hM⟩ := Ae hM
 refine HJ (cs0 := []) (Ls := [[(b2, 35, (Ac m mv))], Sl15_, S10]) 1 (En := encS) rfl rfl rfl rfl rfl hl15_ rfl (AN H11 (Aw (Ls := [[(b2, 35, (Ac m mv))], Sl15_, S10]) (k := 2) rfl rfl)) rfl rfl rfl rfl rfl (HV ck12 rfl) (HU ck12 rfl) rfl (fun s13 S14 H15 => ?_)
 refine r_V s13 rfl <| Aa <| hK7 _ _ ?_
 refine Ax <| r_V (vI i16_) rfl ?_
 obtain ⟨ck16, hM⟩ := Ae hM
 refine r_X (vI (i16_ + 1)) rfl (AR rfl ck16.1 ck16.2) rfl <| r_V (vI (i16_ + 1)) rfl <| Aa <| fg _ (Sub.pick [[(b2, 35, (Ac m mv))], S14, S10] [0, 1] rfl) ?_
 exact ⟨n6 + 1, by omega, n6, (l15_ ++ ([((m.2.2.2.2.2.2.2.2.2.2.2.2.2.2.1)[i16_.toNat]!).1])), (i16_ + 1), hM, s13, S14, H15, Ak rfl rfl, rfl⟩
def ES (l' : List (List UInt8)) : Nat → Int → Option Bool
  | 0, _ => none
  | n4 + 1, i1_ => if i1_ < (l'.length : Int) then ck (0 ≤ i1_ ∧ i1_ < (l'.length : Int)) (if (((l'[i1_.toNat]!).length : Int) : Int) > 100 then some false else ck (-9223372036854775808 ≤ (i1_ + 1) ∧ (i1_ + 1) ≤ 9223372036854775807) ((ES l' n4) (i1_ + 1))) else some (decide ((l'.length : Int) ≤ 70))
def IC (N : Nat) (l' : List (List UInt8)) : Option Bool := ES l' N 0
theorem Vg (N : Nat) (l' : List (List UInt8)) (r) (hM : IC N l' = some r) (ro : Ro) (l'v : Value) (hl' : Rd encS ro l'v l') : Does prog 15 #[l'v] ro [] (pV (vB r)) := by
 unfold IC at hM
 refine Aq follows func15 rfl 19 rfl _ fz1 (fun base0_ => ?_)
 refine Ad <| r_V (vB false) rfl <| Aa <| Ai fun K2 hK2 => Ad <| r_V (vI 0) rfl <| Aa <| Ap <| AS (fun tt ll nn => ∃ (n4 : Nat) (i1_ : Int), (ES l' n4 i1_ = some r) ∧ Is [(0, l'v), (3, vI i1_)] [] tt ll ∧ nn = n4 + 1) (N + 1) ?_ ?_
 ·exact ⟨N, 0, hM, Ak rfl rfl, rfl⟩
 clear hM; rintro t l _ ⟨n4, i1_, hM, ⟨⟨T, rfl⟩, rfl⟩, rfl⟩
 rcases n4 with _ | n4
 ·exact absurd hM (by simp [ES])
 rw [ES] at hM
 refine Ai fun K5 hK5 => Ad <| r_R [vI i1_, l'v] rfl <| r_W (vI (l'.length : Int)) rfl (Aj rfl rfl rfl (Rd.shp hl')) <| r_V (vB (decide (i1_ < (l'.length : Int)))) rfl <| Aa <| Af _ rfl (fun hc7 => ?_) (fun hc7 => ?_)
 ·replace hM := iD hc7 hM
  refine Ah <| hK5 _ _ ?_
  refine Ai fun K8 hK8 => Ap <| Ad <| r_R [l'v, vI i1_] rfl ?_
  obtain ⟨ck10, hM⟩ := Ae hM
  refine r_W (elA l'v (i1_.toNat * 1)) rfl (AD (An rfl rfl rfl (Rd.shp hl') ck10)) <| Bw (vS (l'[i1_.toNat]!)) (En := encS) (l'[i1_.toNat]!) (i1_.toNat) 0 rfl rfl (Av hl') (AA ck10) rfl <| r_W (vI ((l'[i1_.toNat]!).length : Int)) rfl (Il rfl rfl rfl) <| r_V (vB (decide ((((l'[i1_.toNat]!).length : Int) : Int) > 100))) rfl <| Aa <| Af _ rfl (fun hc11 => ?_) (fun hc11 => ?_)
  ·replace hM := iD hc11 hM
   refine Ad <| r_V (vB false) rfl <| Aa ?_
   cases hM
   exact aR eV1
  replace hM := iF hc11 hM
  refine Ah <| hK8 _ _ ?_
  refine Ax <| r_V (vI i1_) rfl ?_
  obtain ⟨ck13, hM⟩ := Ae hM
  refine r_X (vI (i1_ + 1)) rfl (AR rfl ck13.1 ck13.2) rfl <| r_V (vI (i1_ + 1)) rfl <| Aa <| fg _ (Sub.of suN) ?_
  exact ⟨n4 + 1, by omega, n4, (i1_ + 1), hM, Ak rfl rfl, rfl⟩
 replace hM := iF hc7 hM
 refine AM <| hK2 _ _ ?_
 refine Ad <| r_V l'v rfl <| r_W (vI (l'.length : Int)) rfl (Aj rfl rfl rfl (Rd.shp hl')) <| r_R [vB (decide ((l'.length : Int) ≤ 70)), vB (decide ((l'.length : Int) ≤ 70))] rfl <| Aa ?_
 cases hM
 exact aR eV1
def bx (m : Al) (i4_ : Int) (k6_ : Int) (rec_lLl7 : Int → Option Bool) : Option Bool := ck (0 ≤ i4_ ∧ i4_ < (m.2.1.length : Int)) (ck (0 ≤ k6_ ∧ k6_ < (((m.2.1)[i4_.toNat]!.2.1).length : Int)) (if ((((((m.2.1)[i4_.toNat]!.2.1)[k6_.toNat]!).1).length : Int) : Int) > 100 then some false else ck (-9223372036854775808 ≤ (k6_ + 1) ∧ (k6_ + 1) ≤ 9223372036854775807) (rec_lLl7 (k6_ + 1))))
def Ni (m : Al) (n3_ : Int) (i4_ : Int) (rec_lLl5 : Int → Int → Option Bool) : Nat → Int → Option Bool
  | 0, _ => none
  | n41 + 1, k6_ => ck (0 ≤ i4_ ∧ i4_ < (m.2.1.length : Int)) (if k6_ < (((m.2.1)[i4_.toNat]!.2.1).length : Int) then if k6_ < 300 then bx m i4_ k6_ (Ni m n3_ i4_ rec_lLl5 n41)  else ck (-9223372036854775808 ≤ (i4_ + 1) ∧ (i4_ + 1) ≤ 9223372036854775807) (rec_lLl5 ((n3_ + (((m.2.1)[i4_.toNat]!.2.1).length : Int))) (i4_ + 1)) else ck (-9223372036854775808 ≤ (i4_ + 1) ∧ (i4_ + 1) ≤ 9223372036854775807) (rec_lLl5 ((n3_ + (((m.2.1)[i4_.toNat]!.2.1).length : Int))) (i4_ + 1)))
def PB (m : Al) (n21_ : Int) : Option Bool := if n21_ ≤ 900 then some (decide ((m.1.length : Int) ≤ 200)) else some false
def Uq (m : Al) (n23_ : Int) (i24_ : Int) (rec_lLl25 : Int → Int → Option Bool) : Option Bool := ck (0 ≤ i24_ ∧ i24_ < (m.2.2.2.2.2.2.2.2.1.length : Int)) (ck ((-9223372036854775808 ≤ (n23_ + (((m.2.2.2.2.2.2.2.2.1)[i24_.toNat]!.2.2.1).length : Int)) ∧ (n23_ + (((m.2.2.2.2.2.2.2.2.1)[i24_.toNat]!.2.2.1).length : Int)) ≤ 9223372036854775807)) (ck (0 ≤ i24_ ∧ i24_ < (m.2.2.2.2.2.2.2.2.1.length : Int)) (ck ((-9223372036854775808 ≤ ((n23_ + (((m.2.2.2.2.2.2.2.2.1)[i24_.toNat]!.2.2.1).length : Int)) + (((m.2.2.2.2.2.2.2.2.1)[i24_.toNat]!.2.2.2.1).length : Int)) ∧ ((n23_ + (((m.2.2.2.2.2.2.2.2.1)[i24_.toNat]!.2.2.1).length : Int)) + (((m.2.2.2.2.2.2.2.2.1)[i24_.toNat]!.2.2.2.1).length : Int)) ≤ 9223372036854775807)) (ck (-9223372036854775808 ≤ (i24_ + 1) ∧ (i24_ + 1) ≤ 9223372036854775807) (rec_lLl25 (((n23_ + (((m.2.2.2.2.2.2.2.2.1)[i24_.toNat]!.2.2.1).length : Int)) + (((m.2.2.2.2.2.2.2.2.1)[i24_.toNat]!.2.2.2.1).length : Int))) (i24_ + 1))))))
def KU (m : Al) : Nat → Int → Int → Option Bool
  | 0, _, _ => none
  | n156 + 1, n23_, i24_ => if i24_ < (m.2.2.2.2.2.2.2.2.1.length : Int) then if i24_ < 300 then Uq m n23_ i24_ (KU m n156)  else PB m n23_ else PB m n23_
def PC (N : Nat) (m : Al) (n19_ : Int) : Option Bool := KU m N n19_ 0
def Up (m : Al) (n27_ : Int) (i28_ : Int) (rec_lLl29 : Int → Int → Option Bool) : Option Bool := ck (0 ≤ i28_ ∧ i28_ < (m.2.2.2.2.2.2.2.1.length : Int)) (ck ((-9223372036854775808 ≤ (n27_ + (((m.2.2.2.2.2.2.2.1)[i28_.toNat]!.2.2.1).length : Int)) ∧ (n27_ + (((m.2.2.2.2.2.2.2.1)[i28_.toNat]!.2.2.1).length : Int)) ≤ 9223372036854775807)) (ck (0 ≤ i28_ ∧ i28_ < (m.2.2.2.2.2.2.2.1.length : Int)) (ck ((-9223372036854775808 ≤ ((n27_ + (((m.2.2.2.2.2.2.2.1)[i28_.toNat]!.2.2.1).length : Int)) + (((m.2.2.2.2.2.2.2.1)[i28_.toNat]!.2.2.2.1).length : Int)) ∧ ((n27_ + (((m.2.2.2.2.2.2.2.1)[i28_.toNat]!.2.2.1).length : Int)) + (((m.2.2.2.2.2.2.2.1)[i28_.toNat]!.2.2.2.1).length : Int)) ≤ 9223372036854775807)) (ck (-9223372036854775808 ≤ (i28_ + 1) ∧ (i28_ + 1) ≤ 9223372036854775807) (rec_lLl29 (((n27_ + (((m.2.2.2.2.2.2.2.1)[i28_.toNat]!.2.2.1).length : Int)) + (((m.2.2.2.2.2.2.2.1)[i28_.toNat]!.2.2.2.1).length : Int))) (i28_ + 1))))))
def Jr (N : Nat) (m : Al) : Nat → Int → Int → Option Bool
  | 0, _, _ => none
  | n177 + 1, n27_, i28_ => if i28_ < (m.2.2.2.2.2.2.2.1.length : Int) then if i28_ < 300 then Up m n27_ i28_ (Jr N m n177)  else PC N m n27_ else PC N m n27_
def Kn (N : Nat) (m : Al) : Nat → Int → Int → Option Bool
  | 0, _, _ => none
  | n120 + 1, n16_, i17_ => if i17_ < (m.2.2.2.2.2.2.1.length : Int) then ck (0 ≤ i17_ ∧ i17_ < (m.2.2.2.2.2.2.1.length : Int)) (ck ((-9223372036854775808 ≤ (n16_ + (((m.2.2.2.2.2.2.1)[i17_.toNat]!.2.2.1).length : Int)) ∧ (n16_ + (((m.2.2.2.2.2.2.1)[i17_.toNat]!.2.2.1).length : Int)) ≤ 9223372036854775807)) (ck (0 ≤ i17_ ∧ i17_ < (m.2.2.2.2.2.2.1.length : Int)) (ck ((-9223372036854775808 ≤ ((n16_ + (((m.2.2.2.2.2.2.1)[i17_.toNat]!.2.2.1).length : Int)) + (((m.2.2.2.2.2.2.1)[i17_.toNat]!.2.2.2.1).length : Int)) ∧ ((n16_ + (((m.2.2.2.2.2.2.1)[i17_.toNat]!.2.2.1).length : Int)) + (((m.2.2.2.2.2.2.1)[i17_.toNat]!.2.2.2.1).length : Int)) ≤ 9223372036854775807)) (ck (0 ≤ i17_ ∧ i17_ < (m.2.2.2.2.2.2.1.length : Int)) (ck ((-9223372036854775808 ≤ (((n16_ + (((m.2.2.2.2.2.2.1)[i17_.toNat]!.2.2.1).length : Int)) + (((m.2.2.2.2.2.2.1)[i17_.toNat]!.2.2.2.1).length : Int)) + (((m.2.2.2.2.2.2.1)[i17_.toNat]!.2.2.2.2.2.1).length : Int)) ∧ (((n16_ + (((m.2.2.2.2.2.2.1)[i17_.toNat]!.2.2.1).length : Int)) + (((m.2.2.2.2.2.2.1)[i17_.toNat]!.2.2.2.1).length : Int)) + (((m.2.2.2.2.2.2.1)[i17_.toNat]!.2.2.2.2.2.1).length : Int)) ≤ 9223372036854775807)) (ck (-9223372036854775808 ≤ (i17_ + 1) ∧ (i17_ + 1) ≤ 9223372036854775807) ((Kn N m n120) ((((n16_ + (((m.2.2.2.2.2.2.1)[i17_.toNat]!.2.2.1).length : Int)) + (((m.2.2.2.2.2.2.1)[i17_.toNat]!.2.2.2.1).length : Int)) + (((m.2.2.2.2.2.2.1)[i17_.toNat]!.2.2.2.2.2.1).length : Int))) (i17_ + 1)))))))) else Jr N m N n16_ 0
def Ko (N : Nat) (m : Al) : Nat → Int → Int → Option Bool
  | 0, _, _ => none
  | n98 + 1, n13_, i14_ => if i14_ < (m.2.2.2.2.2.1.length : Int) then ck (0 ≤ i14_ ∧ i14_ < (m.2.2.2.2.2.1.length : Int)) (ck ((-9223372036854775808 ≤ (n13_ + (((m.2.2.2.2.2.1)[i14_.toNat]!.2.1).length : Int)) ∧ (n13_ + (((m.2.2.2.2.2.1)[i14_.toNat]!.2.1).length : Int)) ≤ 9223372036854775807)) (ck (0 ≤ i14_ ∧ i14_ < (m.2.2.2.2.2.1.length : Int)) (ck ((-9223372036854775808 ≤ ((n13_ + (((m.2.2.2.2.2.1)[i14_.toNat]!.2.1).length : Int)) + (((m.2.2.2.2.2.1)[i14_.toNat]!.2.2).length : Int)) ∧ ((n13_ + (((m.2.2.2.2.2.1)[i14_.toNat]!.2.1).length : Int)) + (((m.2.2.2.2.2.1)[i14_.toNat]!.2.2).length : Int)) ≤ 9223372036854775807)) (ck (-9223372036854775808 ≤ (i14_ + 1) ∧ (i14_ + 1) ≤ 9223372036854775807) ((Ko N m n98) (((n13_ + (((m.2.2.2.2.2.1)[i14_.toNat]!.2.1).length : Int)) + (((m.2.2.2.2.2.1)[i14_.toNat]!.2.2).length : Int))) (i14_ + 1)))))) else Kn N m N n13_ 0
def Ma (N : Nat) (m : Al) : Nat → Int → Int → Option Bool
  | 0, _, _ => none
  | n63 + 1, n10_, i11_ => if i11_ < (m.2.2.2.2.1.length : Int) then ck (0 ≤ i11_ ∧ i11_ < (m.2.2.2.2.1.length : Int)) (ck ((-9223372036854775808 ≤ (n10_ + (((m.2.2.2.2.1)[i11_.toNat]!.2.1).length : Int)) ∧ (n10_ + (((m.2.2.2.2.1)[i11_.toNat]!.2.1).length : Int)) ≤ 9223372036854775807)) (ck (0 ≤ i11_ ∧ i11_ < (m.2.2.2.2.1.length : Int)) (ck ((-9223372036854775808 ≤ ((n10_ + (((m.2.2.2.2.1)[i11_.toNat]!.2.1).length : Int)) + (((m.2.2.2.2.1)[i11_.toNat]!.2.2.1).length : Int)) ∧ ((n10_ + (((m.2.2.2.2.1)[i11_.toNat]!.2.1).length : Int)) + (((m.2.2.2.2.1)[i11_.toNat]!.2.2.1).length : Int)) ≤ 9223372036854775807)) (ck (0 ≤ i11_ ∧ i11_ < (m.2.2.2.2.1.length : Int)) (ck ((-9223372036854775808 ≤ (((n10_ + (((m.2.2.2.2.1)[i11_.toNat]!.2.1).length : Int)) + (((m.2.2.2.2.1)[i11_.toNat]!.2.2.1).length : Int)) + (((m.2.2.2.2.1)[i11_.toNat]!.2.2.2.1).length : Int)) ∧ (((n10_ + (((m.2.2.2.2.1)[i11_.toNat]!.2.1).length : Int)) + (((m.2.2.2.2.1)[i11_.toNat]!.2.2.1).length : Int)) + (((m.2.2.2.2.1)[i11_.toNat]!.2.2.2.1).length : Int)) ≤ 9223372036854775807)) (ck (-9223372036854775808 ≤ (i11_ + 1) ∧ (i11_ + 1) ≤ 9223372036854775807) ((Ma N m n63) ((((n10_ + (((m.2.2.2.2.1)[i11_.toNat]!.2.1).length : Int)) + (((m.2.2.2.2.1)[i11_.toNat]!.2.2.1).length : Int)) + (((m.2.2.2.2.1)[i11_.toNat]!.2.2.2.1).length : Int))) (i11_ + 1)))))))) else Ko N m N n10_ 0
def Tp (N : Nat) (m : Al) (n3_ : Int) : Option Bool := Ma N m N n3_ 0
def Uo (m : Al) (i31_ : Int) (rec_lLl32 : Int → Option Bool) : Option Bool := ck (0 ≤ i31_ ∧ i31_ < (m.2.2.1.length : Int)) (if (((((m.2.2.1)[i31_.toNat]!).1).length : Int) : Int) > 100 then some false else ck (-9223372036854775808 ≤ (i31_ + 1) ∧ (i31_ + 1) ≤ 9223372036854775807) (rec_lLl32 (i31_ + 1)))
def Jd (N : Nat) (m : Al) (n3_ : Int) : Nat → Int → Option Bool
  | 0, _ => none
  | n198 + 1, i31_ => if i31_ < (m.2.2.1.length : Int) then if i31_ < 300 then Uo m i31_ (Jd N m n3_ n198)  else Tp N m n3_  else Tp N m n3_ 
def LE (N : Nat) (m : Al) : Nat → Int → Int → Option Bool
  | 0, _, _ => none
  | n29 + 1, n3_, i4_ => if i4_ < (m.2.1.length : Int) then ck (0 ≤ i4_ ∧ i4_ < (m.2.1.length : Int)) (ck ((-9223372036854775808 ≤ (n3_ + (((m.2.1)[i4_.toNat]!.2.1).length : Int)) ∧ (n3_ + (((m.2.1)[i4_.toNat]!.2.1).length : Int)) ≤ 9223372036854775807)) (Ni m n3_ i4_ (LE N m n29) N 0)) else Jd N m n3_ N 0
def Rp (N : Nat) (m : Al) : Nat → Int → Option Bool
  | 0, _ => none
  | n5 + 1, p1_ => if p1_ < 15 then (rTm N m p1_).bind fun r11 => (IC N r11).bind fun r16 => if r16 = true then ck (-9223372036854775808 ≤ (p1_ + 1) ∧ (p1_ + 1) ≤ 9223372036854775807) ((Rp N m n5) (p1_ + 1)) else some false else ck ((-9223372036854775808 ≤ ((m.2.2.1.length : Int) + (m.2.2.2.2.2.2.2.1.length : Int)) ∧ ((m.2.2.1.length : Int) + (m.2.2.2.2.2.2.2.1.length : Int)) ≤ 9223372036854775807)) (ck ((-9223372036854775808 ≤ (((m.2.2.1.length : Int) + (m.2.2.2.2.2.2.2.1.length : Int)) + (m.2.2.2.2.2.2.2.2.1.length : Int)) ∧ (((m.2.2.1.length : Int) + (m.2.2.2.2.2.2.2.1.length : Int)) + (m.2.2.2.2.2.2.2.2.1.length : Int)) ≤ 9223372036854775807)) (ck ((-9223372036854775808 ≤ ((((m.2.2.1.length : Int) + (m.2.2.2.2.2.2.2.1.length : Int)) + (m.2.2.2.2.2.2.2.2.1.length : Int)) + (m.2.2.2.2.2.2.2.2.2.1.length : Int)) ∧ ((((m.2.2.1.length : Int) + (m.2.2.2.2.2.2.2.1.length : Int)) + (m.2.2.2.2.2.2.2.2.1.length : Int)) + (m.2.2.2.2.2.2.2.2.2.1.length : Int)) ≤ 9223372036854775807)) (ck ((-9223372036854775808 ≤ (((((m.2.2.1.length : Int) + (m.2.2.2.2.2.2.2.1.length : Int)) + (m.2.2.2.2.2.2.2.2.1.length : Int)) + (m.2.2.2.2.2.2.2.2.2.1.length : Int)) + (m.2.2.2.2.2.2.2.2.2.2.1.length : Int)) ∧ (((((m.2.2.1.length : Int) + (m.2.2.2.2.2.2.2.1.length : Int)) + (m.2.2.2.2.2.2.2.2.1.length : Int)) + (m.2.2.2.2.2.2.2.2.2.1.length : Int)) + (m.2.2.2.2.2.2.2.2.2.2.1.length : Int)) ≤ 9223372036854775807)) (ck ((-9223372036854775808 ≤ ((((((m.2.2.1.length : Int) + (m.2.2.2.2.2.2.2.1.length : Int)) + (m.2.2.2.2.2.2.2.2.1.length : Int)) + (m.2.2.2.2.2.2.2.2.2.1.length : Int)) + (m.2.2.2.2.2.2.2.2.2.2.1.length : Int)) + (m.2.2.2.2.2.2.2.2.2.2.2.1.length : Int)) ∧ ((((((m.2.2.1.length : Int) + (m.2.2.2.2.2.2.2.1.length : Int)) + (m.2.2.2.2.2.2.2.2.1.length : Int)) + (m.2.2.2.2.2.2.2.2.2.1.length : Int)) + (m.2.2.2.2.2.2.2.2.2.2.1.length : Int)) + (m.2.2.2.2.2.2.2.2.2.2.2.1.length : Int)) ≤ 9223372036854775807)) (LE N m N (((((((m.2.2.1.length : Int) + (m.2.2.2.2.2.2.2.1.length : Int)) + (m.2.2.2.2.2.2.2.2.1.length : Int)) + (m.2.2.2.2.2.2.2.2.2.1.length : Int)) + (m.2.2.2.2.2.2.2.2.2.2.1.length : Int)) + (m.2.2.2.2.2.2.2.2.2.2.2.1.length : Int))) 0)))))
def lLm (N : Nat) (m : Al) : Option Bool := Rp N m N 0
theorem lLg (N : Nat) (m : Al) (r) (hM : lLm N m = some r) (ro : Ro) (mv : AP) (hm : Bun35R ro mv m) : Does prog 6 #[Value.agg (Ac m mv)] ro [] (pV (vB r)) := by
 unfold lLm at hM
 refine Aq follows func6 rfl 260 rfl _ fz1 (fun base0_ => ?_)
 refine Ad <| r_a (35, (Ac m mv)) rfl rfl rfl (fun b2 => ?_) (.inr rfl)
 refine r_V (vB false) rfl <| Aa <| Ai fun K3 hK3 => Ad <| r_V (vI 0) rfl <| Aa <| Ap <| AS (fun tt ll nn => ∃ (n5 : Nat) (p1_ : Int), (Rp N m n5 p1_ = some r) ∧ Is [(1, vP b2 0), (3, vI p1_)] [(b2, 35, (Ac m mv))] tt ll ∧ nn = n5 + 1) (N + 1) ?_ ?_
 ·exact ⟨N, 0, hM, Ak rfl rfl, rfl⟩
 clear hM; rintro t l _ ⟨n5, p1_, hM, ⟨⟨T, rfl⟩, rfl⟩, rfl⟩
 rcases n5 with _ | n5
 ·exact absurd hM (by simp [Rp])
 rw [Rp] at hM
 refine Ai fun K6 hK6 => Ad <| r_R [vI p1_, vB (decide (p1_ < 15))] rfl <| Aa <| Af _ rfl (fun hc8 => ?_) (fun hc8 => ?_)
 ·replace hM := iD hc8 hM
  refine Ah <| hK6 _ _ ?_
  refine Ai fun K9 hK9 => Ap <| AL [(some 19, false), (some 20, false)] (conG prog [(19, fun _ _ v_ L_ U_ => ∀ u0_, rTm N m p1_ = some u0_ → (p1 (fun s_ => s_) 9 encS u0_) v_ L_ U_), (20, fun _ _ v_ L_ U_ => ∀ u0_, rTm N m p1_ = some u0_ → ∀ u1_, IC N u0_ = some u1_ → (pV (vB u1_)) v_ L_ U_)]) <| rl (Value.agg (Ac m mv)) 0 <| r_V (vI p1_) rfl ?_
  obtain ⟨r11, hr12, hM⟩ := Ab hM
  refine Iy (Ls := [[(b2, 35, (Ac m mv))]]) (fun s13 => s13) 9 encS r11 16 _ rfl rfl rfl (cF cu) (fun o w z_ => rTg N m p1_ _ hr12 z_.view mv (Bun35R.mono z_.ro_cell hm)) (AF hr12) (fun s13 S14 H15 => ?_)
  obtain ⟨r16, hr17, hM⟩ := Ab hM
  refine rg (vB r16) (cF cw) (fun o w z_ => Vg N r11 _ hr17 z_.view s13 ((AN H15 (Aw (Ls := [[(b2, 35, (Ac m mv))], S14]) (k := 1) rfl rfl)) o w z_)) (fun _ _ v_ L_ U_ => ⟨fun h_ => h_ _ hr12 _ hr17, fun h_ => by intro _ e_; cases Option.some.inj (e_.symm.trans hr12); intro _ e_; cases Option.some.inj (e_.symm.trans hr17); exact h_⟩) ?_
  refine r_V (vB (!(r16))) rfl <| Aa <| Af _ rfl (fun hc18 => ?_) (fun hc18 => ?_)
  ·replace hM := ifn (Bool.eq_false_iff.1 (CZ hc18)) hM
   refine Ad <| r_V (vB false) rfl <| Aa ?_
   cases hM
   exact aR eV1
  replace hM := ifp (Da hc18) hM
  refine Ah <| hK9 _ _ ?_
  refine Ax <| r_V (vI p1_) rfl ?_
  obtain ⟨ck20, hM⟩ := Ae hM
  refine r_X (vI (p1_ + 1)) rfl (AR rfl ck20.1 ck20.2) rfl <| r_V (vI (p1_ + 1)) rfl <| Aa <| fg _ (Sub.pick [[(b2, 35, (Ac m mv))], S14] [0] rfl) ?_
  exact ⟨n5 + 1, by omega, n5, (p1_ + 1), hM, Ak rfl rfl, rfl⟩
 replace hM := iF hc8 hM
 refine AM <| hK3 _ _ ?_
 refine Ad <| r_V (vP b2 2) rfl <| rl mv.2.1 0 <| r_W (vI (m.2.2.1.length : Int)) rfl (Aj rfl rfl rfl (Rd.shp hm.2.1)) <| r_V (vP b2 7) rfl <| rl mv.2.2.2.2.2.2.1 0 <| r_W (vI (m.2.2.2.2.2.2.2.1.length : Int)) rfl (Aj rfl rfl rfl (RdN.shp hm.2.2.2.2.2.2.1)) ?_
 obtain ⟨ck22, hM⟩ := Ae hM
 refine r_X (vI ((m.2.2.1.length : Int) + (m.2.2.2.2.2.2.2.1.length : Int))) rfl (AR rfl ck22.1 ck22.2) rfl <| r_V (vP b2 8) rfl <| rl mv.2.2.2.2.2.2.2.1 0 <| r_W (vI (m.2.2.2.2.2.2.2.2.1.length : Int)) rfl (Aj rfl rfl rfl (RdN.shp hm.2.2.2.2.2.2.2.1)) ?_
 obtain ⟨ck23, hM⟩ := Ae hM
 refine r_X (vI ((((m.2.2.1.length : Int) + (m.2.2.2.2.2.2.2.1.length : Int)) + (m.2.2.2.2.2.2.2.2.1.length : Int)))) rfl (AR rfl ck23.1 ck23.2) rfl <| r_V (vP b2 9) rfl <| rl mv.2.2.2.2.2.2.2.2.1 0 <| r_W (vI (m.2.2.2.2.2.2.2.2.2.1.length : Int)) rfl (Aj rfl rfl rfl (Rd.shp hm.2.2.2.2.2.2.2.2.1)) ?_
 obtain ⟨ck24, hM⟩ := Ae hM
 refine r_X (vI (((((m.2.2.1.length : Int) + (m.2.2.2.2.2.2.2.1.length : Int)) + (m.2.2.2.2.2.2.2.2.1.length : Int)) + (m.2.2.2.2.2.2.2.2.2.1.length : Int)))) rfl (AR rfl ck24.1 ck24.2) rfl <| r_V (vP b2 10) rfl <| rl mv.2.2.2.2.2.2.2.2.2.1 0 <| r_W (vI (m.2.2.2.2.2.2.2.2.2.2.1.length : Int)) rfl (Aj rfl rfl rfl (Rd.shp hm.2.2.2.2.2.2.2.2.2.1)) ?_
 obtain ⟨ck25, hM⟩ := Ae hM
 refine r_X (vI ((((((m.2.2.1.length : Int) + (m.2.2.2.2.2.2.2.1.length : Int)) + (m.2.2.2.2.2.2.2.2.1.length : Int)) + (m.2.2.2.2.2.2.2.2.2.1.length : Int)) + (m.2.2.2.2.2.2.2.2.2.2.1.length : Int)))) rfl (AR rfl ck25.1 ck25.2) rfl <| r_V (vP b2 11) rfl <| rl mv.2.2.2.2.2.2.2.2.2.2.1 0 <| r_W (vI (m.2.2.2.2.2.2.2.2.2.2.2.1.length : Int)) rfl (Aj rfl rfl rfl (Rd.shp hm.2.2.2.2.2.2.2.2.2.2.1)) ?_
 obtain ⟨ck26, hM⟩ := Ae hM
 refine r_X (vI (((((((m.2.2.1.length : Int) + (m.2.2.2.2.2.2.2.1.length : Int)) + (m.2.2.2.2.2.2.2.2.1.length : Int)) + (m.2.2.2.2.2.2.2.2.2.1.length : Int)) + (m.2.2.2.2.2.2.2.2.2.2.1.length : Int)) + (m.2.2.2.2.2.2.2.2.2.2.2.1.length : Int)))) rfl (AR rfl ck26.1 ck26.2) rfl <| r_V (vI (((((((m.2.2.1.length : Int) + (m.2.2.2.2.2.2.2.1.length : Int)) + (m.2.2.2.2.2.2.2.2.1.length : Int)) + (m.2.2.2.2.2.2.2.2.2.1.length : Int)) + (m.2.2.2.2.2.2.2.2.2.2.1.length : Int)) + (m.2.2.2.2.2.2.2.2.2.2.2.1.length : Int)))) rfl <| Aa ?_
 refine Cd [(1, vP b2 0), (4, vI (((((((m.2.2.1.length : Int) + (m.2.2.2.2.2.2.2.1.length : Int)) + (m.2.2.2.2.2.2.2.2.1.length : Int)) + (m.2.2.2.2.2.2.2.2.2.1.length : Int)) + (m.2.2.2.2.2.2.2.2.2.2.1.length : Int)) + (m.2.2.2.2.2.2.2.2.2.2.2.1.length : Int))))] rfl (fun T => ?_)
 refine Ai fun K27 hK27 => Ad <| r_V (vI 0) rfl <| Aa <| Ap <| AS (fun tt ll nn => ∃ (n29 : Nat) (n3_ : Int) (i4_ : Int), (LE N m n29 n3_ i4_ = some r) ∧ Is [(1, vP b2 0), (4, vI n3_), (5, vI i4_)] [(b2, 35, (Ac m mv))] tt ll ∧ nn = n29 + 1) (N + 1) ?_ ?_
 ·exact ⟨N, ((((((m.2.2.1.length : Int) + (m.2.2.2.2.2.2.2.1.length : Int)) + (m.2.2.2.2.2.2.2.2.1.length : Int)) + (m.2.2.2.2.2.2.2.2.2.1.length : Int)) + (m.2.2.2.2.2.2.2.2.2.2.1.length : Int)) + (m.2.2.2.2.2.2.2.2.2.2.2.1.length : Int)), 0, hM, Ak rfl rfl, rfl⟩
 clear hM; rintro t l _ ⟨n29, n3_, i4_, hM, ⟨⟨T, rfl⟩, rfl⟩, rfl⟩
 rcases n29 with _ | n29
 ·exact absurd hM (by simp [LE])
 rw [LE] at hM
 refine Ai fun K30 hK30 => Ad <| r_R [vI i4_, vP b2 1] rfl <| rl mv.1 0 <| r_W (vI (m.2.1.length : Int)) rfl (Aj rfl rfl rfl (RdN.shp hm.1)) <| r_V (vB (decide (i4_ < (m.2.1.length : Int)))) rfl <| Aa <| Af _ rfl (fun hc32 => ?_) (fun hc32 => ?_)
 ·replace hM := iD hc32 hM
  refine Ah <| hK30 _ _ ?_
  refine Ai fun K33 hK33 => Ap <| Ad <| r_R [vI n3_, vP b2 1] rfl <| rl mv.1 0 <| r_V (vI i4_) rfl ?_
  obtain ⟨ck35, hM⟩ := Ae hM
  obtain ⟨_, ⟨s36, hs37, rfl⟩, hat38⟩ := RdN.at (E := encr_48) hm.1 (AA ck35)
  refine r_W (elA mv.1 (i4_.toNat * 6)) rfl (AD (An rfl rfl rfl (RdN.shp hm.1) ck35)) <| r_W (elA mv.1 (i4_.toNat * 6 + 1)) rfl (AD (AH rfl rfl rfl rfl rfl rfl (RdN.shp hm.1) (AY ck35))) <| Eo s36 (vs := [vS ((m.2.1)[i4_.toNat]!.1), s36, vI ((m.2.1)[i4_.toNat]!.2.2.1), vI ((m.2.1)[i4_.toNat]!.2.2.2.1), vI ((m.2.1)[i4_.toNat]!.2.2.2.2.1), vI ((m.2.1)[i4_.toNat]!.2.2.2.2.2)]) (i4_.toNat * 6) 1 rfl rfl (fun o w z_ => At.mono z_.ro_cell hat38) rfl <| r_W (vI (((m.2.1)[i4_.toNat]!.2.1).length : Int)) rfl (Aj rfl rfl rfl (Rd.shp hs37)) ?_
  obtain ⟨ck39, hM⟩ := Ae hM
  refine r_X (vI ((n3_ + (((m.2.1)[i4_.toNat]!.2.1).length : Int)))) rfl (AR rfl ck39.1 ck39.2) rfl <| r_V (vI ((n3_ + (((m.2.1)[i4_.toNat]!.2.1).length : Int)))) rfl <| Aa <| Ad <| r_V (vI 0) rfl <| Aa <| Ap <| AS (fun tt ll nn => ∃ (n41 : Nat) (k6_ : Int), (Ni m n3_ i4_ (LE N m n29) n41 k6_ = some r) ∧ Is [(1, vP b2 0), (4, vI ((n3_ + (((m.2.1)[i4_.toNat]!.2.1).length : Int)))), (5, vI i4_), (6, vI k6_)] [(b2, 35, (Ac m mv))] tt ll ∧ nn = n41 + 1) (N + 1) ?_ ?_
  ·exact ⟨N, 0, hM, Ak rfl rfl, rfl⟩
  clear hM; rintro t l _ ⟨n41, k6_, hM, ⟨⟨T, rfl⟩, rfl⟩, rfl⟩
  rcases n41 with _ | n41
  ·exact absurd hM (by simp [Ni])
  rw [Ni] at hM
  refine Bm (fun tt ll => (bx m i4_ k6_ (Ni m n3_ i4_ (LE N m n29) n41)  = some r) ∧ Is [(1, vP b2 0), (4, vI ((n3_ + (((m.2.1)[i4_.toNat]!.2.1).length : Int)))), (5, vI i4_), (6, vI k6_)] [(b2, 35, (Ac m mv))] tt ll) ?_ ?_
  ·refine Ai fun K52 hK52 => Ax <| r_R [vI k6_, vP b2 1] rfl <| rl mv.1 0 <| r_V (vI i4_) rfl ?_
   obtain ⟨ck53, hM⟩ := Ae hM
   obtain ⟨_, ⟨s54, hs55, rfl⟩, hat56⟩ := RdN.at (E := encr_48) hm.1 (AA ck53)
   refine r_W (elA mv.1 (i4_.toNat * 6)) rfl (AD (An rfl rfl rfl (RdN.shp hm.1) ck53)) <| r_W (elA mv.1 (i4_.toNat * 6 + 1)) rfl (AD (AH rfl rfl rfl rfl rfl rfl (RdN.shp hm.1) (AY ck53))) <| Eo s54 (vs := [vS ((m.2.1)[i4_.toNat]!.1), s54, vI ((m.2.1)[i4_.toNat]!.2.2.1), vI ((m.2.1)[i4_.toNat]!.2.2.2.1), vI ((m.2.1)[i4_.toNat]!.2.2.2.2.1), vI ((m.2.1)[i4_.toNat]!.2.2.2.2.2)]) (i4_.toNat * 6) 1 rfl rfl (fun o w z_ => At.mono z_.ro_cell hat56) rfl <| r_W (vI (((m.2.1)[i4_.toNat]!.2.1).length : Int)) rfl (Aj rfl rfl rfl (Rd.shp hs55)) ?_
   refine r_R [vB (decide (k6_ < (((m.2.1)[i4_.toNat]!.2.1).length : Int))), vB (decide (k6_ < (((m.2.1)[i4_.toNat]!.2.1).length : Int)))] rfl ?_
   rcases hg57 : (decide (k6_ < (((m.2.1)[i4_.toNat]!.2.1).length : Int))) with _ | _
   ·replace hM := iF hg57 hM
    refine r_R [none, none, vB false] rfl <| Aa <| hK52 _ _ ?_
    refine Af false rfl (fun h_ => nomatch h_) (fun _ => ?_)
    refine AM <| hK33 _ _ ?_
    refine Ax <| r_V (vI i4_) rfl ?_
    obtain ⟨ck58, hM⟩ := Ae hM
    refine r_X (vI (i4_ + 1)) rfl (AR rfl ck58.1 ck58.2) rfl <| r_V (vI (i4_ + 1)) rfl <| Aa <| fg _ (Sub.of (suK _ suN)) ?_
    exact ⟨n29 + 1, by omega, n29, (n3_ + (((m.2.1)[i4_.toNat]!.2.1).length : Int)), (i4_ + 1), hM, Ak (by first | rfl | (simp only [hg57]; done) | (simp only [hg57]; rfl) | (simp only [Bc]; rfl)) rfl, rfl⟩
   replace hM := iD hg57 hM
   refine r_R [vI k6_, vB (decide (k6_ < 300)), vB (decide (k6_ < 300))] rfl <| Aa <| hK52 _ _ ?_
   refine Af _ rfl (fun hc59 => ?_) (fun hc59 => ?_)
   ·replace hM := iD hc59 hM
    refine Ah <| fg _ (Sub.of (suK _ suN)) ?_
    exact ⟨hM, Ak rfl rfl⟩
   replace hM := iF hc59 hM
   refine AM <| hK33 _ _ ?_
   refine Ax <| r_V (vI i4_) rfl ?_
   obtain ⟨ck60, hM⟩ := Ae hM
   refine r_X (vI (i4_ + 1)) rfl (AR rfl ck60.1 ck60.2) rfl <| r_V (vI (i4_ + 1)) rfl <| Aa <| fg _ (Sub.of (suK _ suN)) ?_
   exact ⟨n29 + 1, by omega, n29, (n3_ + (((m.2.1)[i4_.toNat]!.2.1).length : Int)), (i4_ + 1), hM, Ak (by first | rfl | (simp only [hg57]; done) | (simp only [hg57]; rfl) | (simp only [Bc]; rfl)) rfl, rfl⟩
  clear hM; rintro t l ⟨hM, ⟨T, rfl⟩, rfl⟩
  unfold bx at hM
  refine Ai fun K42 hK42 => Ap <| Ad <| r_V (vP b2 1) rfl <| rl mv.1 0 <| r_V (vI i4_) rfl ?_
  obtain ⟨ck44, hM⟩ := Ae hM
  obtain ⟨_, ⟨s45, hs46, rfl⟩, hat47⟩ := RdN.at (E := encr_48) hm.1 (AA ck44)
  refine r_W (elA mv.1 (i4_.toNat * 6)) rfl (AD (An rfl rfl rfl (RdN.shp hm.1) ck44)) <| r_W (elA mv.1 (i4_.toNat * 6 + 1)) rfl (AD (AH rfl rfl rfl rfl rfl rfl (RdN.shp hm.1) (AY ck44))) <| Eo s45 (vs := [vS ((m.2.1)[i4_.toNat]!.1), s45, vI ((m.2.1)[i4_.toNat]!.2.2.1), vI ((m.2.1)[i4_.toNat]!.2.2.2.1), vI ((m.2.1)[i4_.toNat]!.2.2.2.2.1), vI ((m.2.1)[i4_.toNat]!.2.2.2.2.2)]) (i4_.toNat * 6) 1 rfl rfl (fun o w z_ => At.mono z_.ro_cell hat47) rfl <| r_V (vI k6_) rfl ?_
  obtain ⟨ck48, hM⟩ := Ae hM
  refine r_W (elA s45 (k6_.toNat * 2)) rfl (AD (An rfl rfl rfl (Rd.shp hs46) ck48)) <| r_W (elA s45 (k6_.toNat * 2 + 0)) rfl (AD (AH rfl rfl rfl rfl rfl rfl (Rd.shp hs46) (AY ck48))) <| Bw (vS ((((m.2.1)[i4_.toNat]!.2.1)[k6_.toNat]!).1)) (En := enc_50) (((m.2.1)[i4_.toNat]!.2.1)[k6_.toNat]!) (k6_.toNat) 0 rfl rfl (Av hs46) (AA ck48) rfl <| r_W (vI ((((((m.2.1)[i4_.toNat]!.2.1)[k6_.toNat]!).1).length : Int))) rfl (Il rfl rfl rfl) <| r_V (vB (decide (((((((m.2.1)[i4_.toNat]!.2.1)[k6_.toNat]!).1).length : Int) : Int) > 100))) rfl <| Aa ?_
  refine Af _ rfl (fun hc49 => ?_) (fun hc49 => ?_)
  ·replace hM := iD hc49 hM
   refine Ad <| r_V (vB false) rfl <| Aa ?_
   cases hM
   exact aR eV1
  replace hM := iF hc49 hM
  refine Ah <| hK42 _ _ ?_
  refine Ax <| r_V (vI k6_) rfl ?_
  obtain ⟨ck51, hM⟩ := Ae hM
  refine r_X (vI (k6_ + 1)) rfl (AR rfl ck51.1 ck51.2) rfl <| r_V (vI (k6_ + 1)) rfl <| Aa <| fg _ (Sub.of (suK _ suN)) ?_
  exact ⟨n41 + 1, by omega, n41, (k6_ + 1), hM, Ak rfl rfl, rfl⟩
 replace hM := iF hc32 hM
 refine AM <| hK27 _ _ ?_
 refine Bm (fun tt ll => (Tp N m n3_  = some r) ∧ Is [(1, vP b2 0), (4, vI n3_)] [(b2, 35, (Ac m mv))] tt ll) ?_ ?_
 ·refine Ad <| r_V (vI 0) rfl <| Aa <| Ap <| AS (fun tt ll nn => ∃ (n198 : Nat) (i31_ : Int), (Jd N m n3_ n198 i31_ = some r) ∧ Is [(1, vP b2 0), (4, vI n3_), (7, vI i31_)] [(b2, 35, (Ac m mv))] tt ll ∧ nn = n198 + 1) (N + 1) ?_ ?_
  ·exact ⟨N, 0, hM, Ak rfl rfl, rfl⟩
  clear hM; rintro t l _ ⟨n198, i31_, hM, ⟨⟨T, rfl⟩, rfl⟩, rfl⟩
  rcases n198 with _ | n198
  ·exact absurd hM (by simp [Jd])
  rw [Jd] at hM
  refine Bm (fun tt ll => (Uo m i31_ (Jd N m n3_ n198)  = some r) ∧ Is [(1, vP b2 0), (4, vI n3_), (7, vI i31_)] [(b2, 35, (Ac m mv))] tt ll) ?_ ?_
  ·refine Ai fun K205 hK205 => Ax <| r_R [vI i31_, vP b2 2] rfl <| rl mv.2.1 0 <| r_W (vI (m.2.2.1.length : Int)) rfl (Aj rfl rfl rfl (Rd.shp hm.2.1)) <| r_R [vB (decide (i31_ < (m.2.2.1.length : Int))), vB (decide (i31_ < (m.2.2.1.length : Int)))] rfl ?_
   rcases hg206 : (decide (i31_ < (m.2.2.1.length : Int))) with _ | _
   ·replace hM := iF hg206 hM
    refine r_R [none, none, vB false] rfl <| Aa <| hK205 _ _ ?_
    refine Af false rfl (fun h_ => nomatch h_) (fun _ => ?_)
    refine AM <| fg _ (Sub.of (suK _ suN)) ?_
    exact ⟨hM, Ak rfl rfl⟩
   replace hM := iD hg206 hM
   refine r_R [vI i31_, vB (decide (i31_ < 300)), vB (decide (i31_ < 300))] rfl <| Aa <| hK205 _ _ ?_
   refine Af _ rfl (fun hc207 => ?_) (fun hc207 => ?_)
   ·replace hM := iD hc207 hM
    refine Ah <| fg _ (Sub.of (suK _ suN)) ?_
    exact ⟨hM, Ak rfl rfl⟩
   replace hM := iF hc207 hM
   refine AM <| fg _ (Sub.of (suK _ suN)) ?_
   exact ⟨hM, Ak rfl rfl⟩
  clear hM; rintro t l ⟨hM, ⟨T, rfl⟩, rfl⟩
  unfold Uo at hM
  refine Ai fun K199 hK199 => Ap <| Ad <| r_V (vP b2 2) rfl <| rl mv.2.1 0 <| r_V (vI i31_) rfl ?_
  obtain ⟨ck201, hM⟩ := Ae hM
  refine r_W (elA mv.2.1 (i31_.toNat * 3)) rfl (AD (An rfl rfl rfl (Rd.shp hm.2.1) ck201)) <| r_W (elA mv.2.1 (i31_.toNat * 3 + 0)) rfl (AD (AH rfl rfl rfl rfl rfl rfl (Rd.shp hm.2.1) (AY ck201))) <| Bw (vS (((m.2.2.1)[i31_.toNat]!).1)) (En := enc_84) ((m.2.2.1)[i31_.toNat]!) (i31_.toNat) 0 rfl rfl (Av hm.2.1) (AA ck201) rfl <| r_W (vI (((((m.2.2.1)[i31_.toNat]!).1).length : Int))) rfl (Il rfl rfl rfl) <| r_V (vB (decide ((((((m.2.2.1)[i31_.toNat]!).1).length : Int) : Int) > 100))) rfl <| Aa <| Af _ rfl (fun hc202 => ?_) (fun hc202 => ?_)
  ·replace hM := iD hc202 hM
   refine Ad <| r_V (vB false) rfl <| Aa ?_
   cases hM
   exact aR eV1
  replace hM := iF hc202 hM
  refine Ah <| hK199 _ _ ?_
  refine Ax <| r_V (vI i31_) rfl ?_
  obtain ⟨ck204, hM⟩ := Ae hM
  refine r_X (vI (i31_ + 1)) rfl (AR rfl ck204.1 ck204.2) rfl <| r_V (vI (i31_ + 1)) rfl <| Aa <| fg _ (Sub.of (suK _ suN)) ?_
  exact ⟨n198 + 1, by omega, n198, (i31_ + 1), hM, Ak rfl rfl, rfl⟩
 clear hM; rintro t l ⟨hM, ⟨T, rfl⟩, rfl⟩
 unfold Tp at hM
 refine Ai fun K61 hK61 => Ad <| r_V (vI 0) rfl <| Aa <| Ap <| AS (fun tt ll nn => ∃ (n63 : Nat) (n10_ : Int) (i11_ : Int), (Ma N m n63 n10_ i11_ = some r) ∧ Is [(1, vP b2 0), (4, vI n10_), (8, vI i11_)] [(b2, 35, (Ac m mv))] tt ll ∧ nn = n63 + 1) (N + 1) ?_ ?_
 ·exact ⟨N, n3_, 0, hM, Ak rfl rfl, rfl⟩
 clear hM; rintro t l _ ⟨n63, n10_, i11_, hM, ⟨⟨T, rfl⟩, rfl⟩, rfl⟩
 rcases n63 with _ | n63
 ·exact absurd hM (by simp [Ma])
 rw [Ma] at hM
 refine Ai fun K64 hK64 => Ad <| r_R [vI i11_, vP b2 4] rfl <| rl mv.2.2.2.1 0 <| r_W (vI (m.2.2.2.2.1.length : Int)) rfl (Aj rfl rfl rfl (RdN.shp hm.2.2.2.1)) <| r_V (vB (decide (i11_ < (m.2.2.2.2.1.length : Int)))) rfl <| Aa <| Af _ rfl (fun hc66 => ?_) (fun hc66 => ?_)
 ·replace hM := iD hc66 hM
  refine Ah <| hK64 _ _ ?_
  refine Ai fun K67 hK67 => Ap <| Ge [] (by decide +kernel) (fun hn => Be) <| r_R [vI n10_, vP b2 4] rfl <| rl mv.2.2.2.1 0 <| r_V (vI i11_) rfl ?_
  obtain ⟨ck68, hM⟩ := Ae hM
  obtain ⟨_, ⟨s69, s70, s71, hs72, hs73, hs74, rfl⟩, hat75⟩ := RdN.at (E := encr_64) hm.2.2.2.1 (AA ck68)
  refine r_W (elA mv.2.2.2.1 (i11_.toNat * 5)) rfl (AD (An rfl rfl rfl (RdN.shp hm.2.2.2.1) ck68)) <| r_W (elA mv.2.2.2.1 (i11_.toNat * 5 + 1)) rfl (AD (AH rfl rfl rfl rfl rfl rfl (RdN.shp hm.2.2.2.1) (AY ck68))) <| Eo s69 (vs := [vS ((m.2.2.2.2.1)[i11_.toNat]!.1), s69, s70, s71, vI ((m.2.2.2.2.1)[i11_.toNat]!.2.2.2.2)]) (i11_.toNat * 5) 1 rfl rfl (fun o w z_ => At.mono z_.ro_cell hat75) rfl <| r_W (vI (((m.2.2.2.2.1)[i11_.toNat]!.2.1).length : Int)) rfl (Aj rfl rfl rfl (Rd.shp hs72)) ?_
  obtain ⟨ck76, hM⟩ := Ae hM
  refine r_X (vI ((n10_ + (((m.2.2.2.2.1)[i11_.toNat]!.2.1).length : Int)))) rfl (AR rfl ck76.1 ck76.2) rfl <| r_V (vP b2 4) rfl <| rl mv.2.2.2.1 0 <| r_V (vI i11_) rfl ?_
  obtain ⟨ck77, hM⟩ := Ae hM
  obtain ⟨_, ⟨s78, s79, s80, hs81, hs82, hs83, rfl⟩, hat84⟩ := RdN.at (E := encr_64) hm.2.2.2.1 (AA ck77)
  refine r_W (elA mv.2.2.2.1 (i11_.toNat * 5)) rfl (AD (An rfl rfl rfl (RdN.shp hm.2.2.2.1) ck77)) <| r_W (elA mv.2.2.2.1 (i11_.toNat * 5 + 2)) rfl (AD (AH rfl rfl rfl rfl rfl rfl (RdN.shp hm.2.2.2.1) (AY ck77))) <| Eo s79 (vs := [vS ((m.2.2.2.2.1)[i11_.toNat]!.1), s78, s79, s80, vI ((m.2.2.2.2.1)[i11_.toNat]!.2.2.2.2)]) (i11_.toNat * 5) 2 rfl rfl (fun o w z_ => At.mono z_.ro_cell hat84) rfl <| r_W (vI (((m.2.2.2.2.1)[i11_.toNat]!.2.2.1).length : Int)) rfl (Aj rfl rfl rfl (Rd.shp hs82)) ?_
  obtain ⟨ck85, hM⟩ := Ae hM
  refine r_X (vI (((n10_ + (((m.2.2.2.2.1)[i11_.toNat]!.2.1).length : Int)) + (((m.2.2.2.2.1)[i11_.toNat]!.2.2.1).length : Int)))) rfl (AR rfl ck85.1 ck85.2) rfl <| r_V (vP b2 4) rfl <| rl mv.2.2.2.1 0 <| r_V (vI i11_) rfl ?_
  obtain ⟨ck86, hM⟩ := Ae hM
  obtain ⟨_, ⟨s87, s88, s89, hs90, hs91, hs92, rfl⟩, hat93⟩ := RdN.at (E := encr_64) hm.2.2.2.1 (AA ck86)
  refine r_W (elA mv.2.2.2.1 (i11_.toNat * 5)) rfl (AD (An rfl rfl rfl (RdN.shp hm.2.2.2.1) ck86)) <| r_W (elA mv.2.2.2.1 (i11_.toNat * 5 + 3)) rfl (AD (AH rfl rfl rfl rfl rfl rfl (RdN.shp hm.2.2.2.1) (AY ck86))) <| Eo s89 (vs := [vS ((m.2.2.2.2.1)[i11_.toNat]!.1), s87, s88, s89, vI ((m.2.2.2.2.1)[i11_.toNat]!.2.2.2.2)]) (i11_.toNat * 5) 3 rfl rfl (fun o w z_ => At.mono z_.ro_cell hat93) rfl <| r_W (vI (((m.2.2.2.2.1)[i11_.toNat]!.2.2.2.1).length : Int)) rfl (Aj rfl rfl rfl (Rd.shp hs92)) ?_
  obtain ⟨ck94, hM⟩ := Ae hM
  refine r_X (vI ((((n10_ + (((m.2.2.2.2.1)[i11_.toNat]!.2.1).length : Int)) + (((m.2.2.2.2.1)[i11_.toNat]!.2.2.1).length : Int)) + (((m.2.2.2.2.1)[i11_.toNat]!.2.2.2.1).length : Int)))) rfl (AR rfl ck94.1 ck94.2) rfl <| r_V (vI ((((n10_ + (((m.2.2.2.2.1)[i11_.toNat]!.2.1).length : Int)) + (((m.2.2.2.2.1)[i11_.toNat]!.2.2.1).length : Int)) + (((m.2.2.2.2.1)[i11_.toNat]!.2.2.2.1).length : Int)))) rfl <| Aa <| hK67 _ _ ?_
  refine Cd [(1, vP b2 0), (4, vI ((((n10_ + (((m.2.2.2.2.1)[i11_.toNat]!.2.1).length : Int)) + (((m.2.2.2.2.1)[i11_.toNat]!.2.2.1).length : Int)) + (((m.2.2.2.2.1)[i11_.toNat]!.2.2.2.1).length : Int)))), (8, vI i11_)] rfl (fun T => ?_)
  refine Ax <| r_V (vI i11_) rfl ?_
  obtain ⟨ck95, hM⟩ := Ae hM
  refine r_X (vI (i11_ + 1)) rfl (AR rfl ck95.1 ck95.2) rfl <| r_V (vI (i11_ + 1)) rfl <| Aa <| fg _ (Sub.of (suK _ suN)) ?_
  exact ⟨n63 + 1, by omega, n63, (((n10_ + (((m.2.2.2.2.1)[i11_.toNat]!.2.1).length : Int)) + (((m.2.2.2.2.1)[i11_.toNat]!.2.2.1).length : Int)) + (((m.2.2.2.2.1)[i11_.toNat]!.2.2.2.1).length : Int)), (i11_ + 1), hM, Ak rfl rfl, rfl⟩
 replace hM := iF hc66 hM
 refine AM <| hK61 _ _ ?_
 refine Ai fun K96 hK96 => Ad <| r_V (vI 0) rfl <| Aa <| Ap <| AS (fun tt ll nn => ∃ (n98 : Nat) (n13_ : Int) (i14_ : Int), (Ko N m n98 n13_ i14_ = some r) ∧ Is [(1, vP b2 0), (4, vI n13_), (9, vI i14_)] [(b2, 35, (Ac m mv))] tt ll ∧ nn = n98 + 1) (N + 1) ?_ ?_
 ·exact ⟨N, n10_, 0, hM, Ak rfl rfl, rfl⟩
 clear hM; rintro t l _ ⟨n98, n13_, i14_, hM, ⟨⟨T, rfl⟩, rfl⟩, rfl⟩
 rcases n98 with _ | n98
 ·exact absurd hM (by simp [Ko])
 rw [Ko] at hM
 refine Ai fun K99 hK99 => Ad <| r_R [vI i14_, vP b2 5] rfl <| rl mv.2.2.2.2.1 0 <| r_W (vI (m.2.2.2.2.2.1.length : Int)) rfl (Aj rfl rfl rfl (RdN.shp hm.2.2.2.2.1)) <| r_V (vB (decide (i14_ < (m.2.2.2.2.2.1.length : Int)))) rfl <| Aa <| Af _ rfl (fun hc101 => ?_) (fun hc101 => ?_)
 ·replace hM := iD hc101 hM
  refine Ah <| hK99 _ _ ?_
  refine Ai fun K102 hK102 => Ap <| Ge [] (by decide +kernel) (fun hn => Be) <| r_R [vI n13_, vP b2 5] rfl <| rl mv.2.2.2.2.1 0 <| r_V (vI i14_) rfl ?_
  obtain ⟨ck103, hM⟩ := Ae hM
  obtain ⟨_, ⟨s104, s105, hs106, hs107, rfl⟩, hat108⟩ := RdN.at (E := encr_53) hm.2.2.2.2.1 (AA ck103)
  refine r_W (elA mv.2.2.2.2.1 (i14_.toNat * 3)) rfl (AD (An rfl rfl rfl (RdN.shp hm.2.2.2.2.1) ck103)) <| r_W (elA mv.2.2.2.2.1 (i14_.toNat * 3 + 1)) rfl (AD (AH rfl rfl rfl rfl rfl rfl (RdN.shp hm.2.2.2.2.1) (AY ck103))) <| Eo s104 (vs := [vS ((m.2.2.2.2.2.1)[i14_.toNat]!.1), s104, s105]) (i14_.toNat * 3) 1 rfl rfl (fun o w z_ => At.mono z_.ro_cell hat108) rfl <| r_W (vI (((m.2.2.2.2.2.1)[i14_.toNat]!.2.1).length : Int)) rfl (Aj rfl rfl rfl (Rd.shp hs106)) ?_
  obtain ⟨ck109, hM⟩ := Ae hM
  refine r_X (vI ((n13_ + (((m.2.2.2.2.2.1)[i14_.toNat]!.2.1).length : Int)))) rfl (AR rfl ck109.1 ck109.2) rfl <| r_V (vP b2 5) rfl <| rl mv.2.2.2.2.1 0 <| r_V (vI i14_) rfl ?_
  obtain ⟨ck110, hM⟩ := Ae hM
  obtain ⟨_, ⟨s111, s112, hs113, hs114, rfl⟩, hat115⟩ := RdN.at (E := encr_53) hm.2.2.2.2.1 (AA ck110)
  refine r_W (elA mv.2.2.2.2.1 (i14_.toNat * 3)) rfl (AD (An rfl rfl rfl (RdN.shp hm.2.2.2.2.1) ck110)) <| r_W (elA mv.2.2.2.2.1 (i14_.toNat * 3 + 2)) rfl (AD (AH rfl rfl rfl rfl rfl rfl (RdN.shp hm.2.2.2.2.1) (AY ck110))) <| Eo s112 (vs := [vS ((m.2.2.2.2.2.1)[i14_.toNat]!.1), s111, s112]) (i14_.toNat * 3) 2 rfl rfl (fun o w z_ => At.mono z_.ro_cell hat115) rfl <| r_W (vI (((m.2.2.2.2.2.1)[i14_.toNat]!.2.2).length : Int)) rfl (Aj rfl rfl rfl (Rd.shp hs114)) ?_
  obtain ⟨ck116, hM⟩ := Ae hM
  refine r_X (vI (((n13_ + (((m.2.2.2.2.2.1)[i14_.toNat]!.2.1).length : Int)) + (((m.2.2.2.2.2.1)[i14_.toNat]!.2.2).length : Int)))) rfl (AR rfl ck116.1 ck116.2) rfl <| r_V (vI (((n13_ + (((m.2.2.2.2.2.1)[i14_.toNat]!.2.1).length : Int)) + (((m.2.2.2.2.2.1)[i14_.toNat]!.2.2).length : Int)))) rfl <| Aa <| hK102 _ _ ?_
  refine Ax <| r_V (vI i14_) rfl ?_
  obtain ⟨ck117, hM⟩ := Ae hM
  refine r_X (vI (i14_ + 1)) rfl (AR rfl ck117.1 ck117.2) rfl <| r_V (vI (i14_ + 1)) rfl <| Aa <| fg _ (Sub.of (suK _ suN)) ?_
  exact ⟨n98 + 1, by omega, n98, ((n13_ + (((m.2.2.2.2.2.1)[i14_.toNat]!.2.1).length : Int)) + (((m.2.2.2.2.2.1)[i14_.toNat]!.2.2).length : Int)), (i14_ + 1), hM, Ak rfl rfl, rfl⟩
 replace hM := iF hc101 hM
 refine AM <| hK96 _ _ ?_
 refine Ai fun K118 hK118 => Ad <| r_V (vI 0) rfl <| Aa <| Ap <| AS (fun tt ll nn => ∃ (n120 : Nat) (n16_ : Int) (i17_ : Int), (Kn N m n120 n16_ i17_ = some r) ∧ Is [(1, vP b2 0), (4, vI n16_), (10, vI i17_)] [(b2, 35, (Ac m mv))] tt ll ∧ nn = n120 + 1) (N + 1) ?_ ?_
 ·exact ⟨N, n13_, 0, hM, Ak rfl rfl, rfl⟩
 clear hM; rintro t l _ ⟨n120, n16_, i17_, hM, ⟨⟨T, rfl⟩, rfl⟩, rfl⟩
 rcases n120 with _ | n120
 ·exact absurd hM (by simp [Kn])
 rw [Kn] at hM
 refine Ai fun K121 hK121 => Ad <| r_R [vI i17_, vP b2 6] rfl <| rl mv.2.2.2.2.2.1 0 <| r_W (vI (m.2.2.2.2.2.2.1.length : Int)) rfl (Aj rfl rfl rfl (RdN.shp hm.2.2.2.2.2.1)) <| r_V (vB (decide (i17_ < (m.2.2.2.2.2.2.1.length : Int)))) rfl <| Aa <| Af _ rfl (fun hc123 => ?_) (fun hc123 => ?_)
 ·replace hM := iD hc123 hM
  refine Ah <| hK121 _ _ ?_
  refine Ai fun K124 hK124 => Ap <| Ge [] (by decide +kernel) (fun hn => Be) <| r_R [vI n16_, vP b2 6] rfl <| rl mv.2.2.2.2.2.1 0 <| r_V (vI i17_) rfl ?_
  obtain ⟨ck125, hM⟩ := Ae hM
  obtain ⟨_, ⟨s126, s127, s128, hs129, hs130, hs131, rfl⟩, hat132⟩ := RdN.at (E := encr_72) hm.2.2.2.2.2.1 (AA ck125)
  refine r_W (elA mv.2.2.2.2.2.1 (i17_.toNat * 7)) rfl (AD (An rfl rfl rfl (RdN.shp hm.2.2.2.2.2.1) ck125)) <| r_W (elA mv.2.2.2.2.2.1 (i17_.toNat * 7 + 2)) rfl (AD (AH rfl rfl rfl rfl rfl rfl (RdN.shp hm.2.2.2.2.2.1) (AY ck125))) <| Eo s126 (vs := [vS ((m.2.2.2.2.2.2.1)[i17_.toNat]!.1), vI ((m.2.2.2.2.2.2.1)[i17_.toNat]!.2.1), s126, s127, vI ((m.2.2.2.2.2.2.1)[i17_.toNat]!.2.2.2.2.1), s128, vI ((m.2.2.2.2.2.2.1)[i17_.toNat]!.2.2.2.2.2.2)]) (i17_.toNat * 7) 2 rfl rfl (fun o w z_ => At.mono z_.ro_cell hat132) rfl <| r_W (vI (((m.2.2.2.2.2.2.1)[i17_.toNat]!.2.2.1).length : Int)) rfl (Aj rfl rfl rfl (Rd.shp hs129)) ?_
  obtain ⟨ck133, hM⟩ := Ae hM
  refine r_X (vI ((n16_ + (((m.2.2.2.2.2.2.1)[i17_.toNat]!.2.2.1).length : Int)))) rfl (AR rfl ck133.1 ck133.2) rfl <| r_V (vP b2 6) rfl <| rl mv.2.2.2.2.2.1 0 <| r_V (vI i17_) rfl ?_
  obtain ⟨ck134, hM⟩ := Ae hM
  obtain ⟨_, ⟨s135, s136, s137, hs138, hs139, hs140, rfl⟩, hat141⟩ := RdN.at (E := encr_72) hm.2.2.2.2.2.1 (AA ck134)
  refine r_W (elA mv.2.2.2.2.2.1 (i17_.toNat * 7)) rfl (AD (An rfl rfl rfl (RdN.shp hm.2.2.2.2.2.1) ck134)) <| r_W (elA mv.2.2.2.2.2.1 (i17_.toNat * 7 + 3)) rfl (AD (AH rfl rfl rfl rfl rfl rfl (RdN.shp hm.2.2.2.2.2.1) (AY ck134))) <| Eo s136 (vs := [vS ((m.2.2.2.2.2.2.1)[i17_.toNat]!.1), vI ((m.2.2.2.2.2.2.1)[i17_.toNat]!.2.1), s135, s136, vI ((m.2.2.2.2.2.2.1)[i17_.toNat]!.2.2.2.2.1), s137, vI ((m.2.2.2.2.2.2.1)[i17_.toNat]!.2.2.2.2.2.2)]) (i17_.toNat * 7) 3 rfl rfl (fun o w z_ => At.mono z_.ro_cell hat141) rfl <| r_W (vI (((m.2.2.2.2.2.2.1)[i17_.toNat]!.2.2.2.1).length : Int)) rfl (Aj rfl rfl rfl (Rd.shp hs139)) ?_
  obtain ⟨ck142, hM⟩ := Ae hM
  refine r_X (vI (((n16_ + (((m.2.2.2.2.2.2.1)[i17_.toNat]!.2.2.1).length : Int)) + (((m.2.2.2.2.2.2.1)[i17_.toNat]!.2.2.2.1).length : Int)))) rfl (AR rfl ck142.1 ck142.2) rfl <| r_V (vP b2 6) rfl <| rl mv.2.2.2.2.2.1 0 <| r_V (vI i17_) rfl ?_
  obtain ⟨ck143, hM⟩ := Ae hM
  obtain ⟨_, ⟨s144, s145, s146, hs147, hs148, hs149, rfl⟩, hat150⟩ := RdN.at (E := encr_72) hm.2.2.2.2.2.1 (AA ck143)
  refine r_W (elA mv.2.2.2.2.2.1 (i17_.toNat * 7)) rfl (AD (An rfl rfl rfl (RdN.shp hm.2.2.2.2.2.1) ck143)) <| r_W (elA mv.2.2.2.2.2.1 (i17_.toNat * 7 + 4)) rfl (AD (AH rfl rfl rfl rfl rfl rfl (RdN.shp hm.2.2.2.2.2.1) (AY ck143))) <| r_W (elA mv.2.2.2.2.2.1 (i17_.toNat * 7 + 5)) rfl (AD (AH rfl rfl rfl rfl rfl rfl (RdN.shp hm.2.2.2.2.2.1) (AY ck143))) ?_
  refine Eo s146 (vs := [vS ((m.2.2.2.2.2.2.1)[i17_.toNat]!.1), vI ((m.2.2.2.2.2.2.1)[i17_.toNat]!.2.1), s144, s145, vI ((m.2.2.2.2.2.2.1)[i17_.toNat]!.2.2.2.2.1), s146, vI ((m.2.2.2.2.2.2.1)[i17_.toNat]!.2.2.2.2.2.2)]) (i17_.toNat * 7) 5 rfl rfl (fun o w z_ => At.mono z_.ro_cell hat150) rfl <| r_W (vI (((m.2.2.2.2.2.2.1)[i17_.toNat]!.2.2.2.2.2.1).length : Int)) rfl (Aj rfl rfl rfl (Rd.shp hs149)) ?_
  obtain ⟨ck151, hM⟩ := Ae hM
  refine r_X (vI ((((n16_ + (((m.2.2.2.2.2.2.1)[i17_.toNat]!.2.2.1).length : Int)) + (((m.2.2.2.2.2.2.1)[i17_.toNat]!.2.2.2.1).length : Int)) + (((m.2.2.2.2.2.2.1)[i17_.toNat]!.2.2.2.2.2.1).length : Int)))) rfl (AR rfl ck151.1 ck151.2) rfl <| r_V (vI ((((n16_ + (((m.2.2.2.2.2.2.1)[i17_.toNat]!.2.2.1).length : Int)) + (((m.2.2.2.2.2.2.1)[i17_.toNat]!.2.2.2.1).length : Int)) + (((m.2.2.2.2.2.2.1)[i17_.toNat]!.2.2.2.2.2.1).length : Int)))) rfl <| Aa <| hK124 _ _ ?_
  refine Cd [(1, vP b2 0), (4, vI ((((n16_ + (((m.2.2.2.2.2.2.1)[i17_.toNat]!.2.2.1).length : Int)) + (((m.2.2.2.2.2.2.1)[i17_.toNat]!.2.2.2.1).length : Int)) + (((m.2.2.2.2.2.2.1)[i17_.toNat]!.2.2.2.2.2.1).length : Int)))), (10, vI i17_)] rfl (fun T => ?_)
  refine Ax <| r_V (vI i17_) rfl ?_
  obtain ⟨ck152, hM⟩ := Ae hM
  refine r_X (vI (i17_ + 1)) rfl (AR rfl ck152.1 ck152.2) rfl <| r_V (vI (i17_ + 1)) rfl <| Aa <| fg _ (Sub.of (suK _ suN)) ?_
  exact ⟨n120 + 1, by omega, n120, (((n16_ + (((m.2.2.2.2.2.2.1)[i17_.toNat]!.2.2.1).length : Int)) + (((m.2.2.2.2.2.2.1)[i17_.toNat]!.2.2.2.1).length : Int)) + (((m.2.2.2.2.2.2.1)[i17_.toNat]!.2.2.2.2.2.1).length : Int)), (i17_ + 1), hM, Ak rfl rfl, rfl⟩
 replace hM := iF hc123 hM
 refine AM <| hK118 _ _ ?_
 refine Bm (fun tt ll => ∃ (n19_ : Int), (PC N m n19_ = some r) ∧ Is [(1, vP b2 0), (4, vI n19_)] [(b2, 35, (Ac m mv))] tt ll) ?_ ?_
 ·refine Ad <| r_V (vI 0) rfl <| Aa <| Ap <| AS (fun tt ll nn => ∃ (n177 : Nat) (n27_ : Int) (i28_ : Int), (Jr N m n177 n27_ i28_ = some r) ∧ Is [(1, vP b2 0), (4, vI n27_), (11, vI i28_)] [(b2, 35, (Ac m mv))] tt ll ∧ nn = n177 + 1) (N + 1) ?_ ?_
  ·exact ⟨N, n16_, 0, hM, Ak rfl rfl, rfl⟩
  clear hM; rintro t l _ ⟨n177, n27_, i28_, hM, ⟨⟨T, rfl⟩, rfl⟩, rfl⟩
  rcases n177 with _ | n177
  ·exact absurd hM (by simp [Jr])
  rw [Jr] at hM
  refine Bm (fun tt ll => (Up m n27_ i28_ (Jr N m n177)  = some r) ∧ Is [(1, vP b2 0), (4, vI n27_), (11, vI i28_)] [(b2, 35, (Ac m mv))] tt ll) ?_ ?_
  ·refine Ai fun K194 hK194 => Ax <| r_R [vI i28_, vP b2 7] rfl <| rl mv.2.2.2.2.2.2.1 0 <| r_W (vI (m.2.2.2.2.2.2.2.1.length : Int)) rfl (Aj rfl rfl rfl (RdN.shp hm.2.2.2.2.2.2.1)) <| r_R [vB (decide (i28_ < (m.2.2.2.2.2.2.2.1.length : Int))), vB (decide (i28_ < (m.2.2.2.2.2.2.2.1.length : Int)))] rfl ?_
   rcases hg195 : (decide (i28_ < (m.2.2.2.2.2.2.2.1.length : Int))) with _ | _
   ·replace hM := iF hg195 hM
    refine r_R [none, none, vB false] rfl <| Aa <| hK194 _ _ ?_
    refine Af false rfl (fun h_ => nomatch h_) (fun _ => ?_)
    refine AM <| fg _ (Sub.of (suK _ suN)) ?_
    exact ⟨n27_, hM, Ak (by first | rfl | (simp only [hg195]; done) | (simp only [hg195]; rfl) | (simp only [Bc]; rfl)) rfl⟩
   replace hM := iD hg195 hM
   refine r_R [vI i28_, vB (decide (i28_ < 300)), vB (decide (i28_ < 300))] rfl <| Aa <| hK194 _ _ ?_
   refine Af _ rfl (fun hc196 => ?_) (fun hc196 => ?_)
   ·replace hM := iD hc196 hM
    refine Ah <| fg _ (Sub.of (suK _ suN)) ?_
    exact ⟨hM, Ak rfl rfl⟩
   replace hM := iF hc196 hM
   refine AM <| fg _ (Sub.of (suK _ suN)) ?_
   exact ⟨n27_, hM, Ak (by first | rfl | (simp only [hg195]; done) | (simp only [hg195]; rfl) | (simp only [Bc]; rfl)) rfl⟩
  clear hM; rintro t l ⟨hM, ⟨T, rfl⟩, rfl⟩
  unfold Up at hM
  refine Ai fun K178 hK178 => Ap <| Ge [] (by decide +kernel) (fun hn => Be) <| r_R [vI n27_, vP b2 7] rfl <| rl mv.2.2.2.2.2.2.1 0 <| r_V (vI i28_) rfl ?_
  obtain ⟨ck179, hM⟩ := Ae hM
  obtain ⟨_, ⟨s180, s181, hs182, hs183, rfl⟩, hat184⟩ := RdN.at (E := encr_79) hm.2.2.2.2.2.2.1 (AA ck179)
  refine r_W (elA mv.2.2.2.2.2.2.1 (i28_.toNat * 6)) rfl (AD (An rfl rfl rfl (RdN.shp hm.2.2.2.2.2.2.1) ck179)) <| r_W (elA mv.2.2.2.2.2.2.1 (i28_.toNat * 6 + 2)) rfl (AD (AH rfl rfl rfl rfl rfl rfl (RdN.shp hm.2.2.2.2.2.2.1) (AY ck179))) <| Eo s180 (vs := [vI ((m.2.2.2.2.2.2.2.1)[i28_.toNat]!.1), vI ((m.2.2.2.2.2.2.2.1)[i28_.toNat]!.2.1), s180, s181, vI ((m.2.2.2.2.2.2.2.1)[i28_.toNat]!.2.2.2.2.1), vI ((m.2.2.2.2.2.2.2.1)[i28_.toNat]!.2.2.2.2.2)]) (i28_.toNat * 6) 2 rfl rfl (fun o w z_ => At.mono z_.ro_cell hat184) rfl <| r_W (vI (((m.2.2.2.2.2.2.2.1)[i28_.toNat]!.2.2.1).length : Int)) rfl (Aj rfl rfl rfl (Rd.shp hs182)) ?_
  obtain ⟨ck185, hM⟩ := Ae hM
  refine r_X (vI ((n27_ + (((m.2.2.2.2.2.2.2.1)[i28_.toNat]!.2.2.1).length : Int)))) rfl (AR rfl ck185.1 ck185.2) rfl <| r_V (vP b2 7) rfl <| rl mv.2.2.2.2.2.2.1 0 <| r_V (vI i28_) rfl ?_
  obtain ⟨ck186, hM⟩ := Ae hM
  obtain ⟨_, ⟨s187, s188, hs189, hs190, rfl⟩, hat191⟩ := RdN.at (E := encr_79) hm.2.2.2.2.2.2.1 (AA ck186)
  refine r_W (elA mv.2.2.2.2.2.2.1 (i28_.toNat * 6)) rfl (AD (An rfl rfl rfl (RdN.shp hm.2.2.2.2.2.2.1) ck186)) <| r_W (elA mv.2.2.2.2.2.2.1 (i28_.toNat * 6 + 3)) rfl (AD (AH rfl rfl rfl rfl rfl rfl (RdN.shp hm.2.2.2.2.2.2.1) (AY ck186))) <| Eo s188 (vs := [vI ((m.2.2.2.2.2.2.2.1)[i28_.toNat]!.1), vI ((m.2.2.2.2.2.2.2.1)[i28_.toNat]!.2.1), s187, s188, vI ((m.2.2.2.2.2.2.2.1)[i28_.toNat]!.2.2.2.2.1), vI ((m.2.2.2.2.2.2.2.1)[i28_.toNat]!.2.2.2.2.2)]) (i28_.toNat * 6) 3 rfl rfl (fun o w z_ => At.mono z_.ro_cell hat191) rfl <| r_W (vI (((m.2.2.2.2.2.2.2.1)[i28_.toNat]!.2.2.2.1).length : Int)) rfl (Aj rfl rfl rfl (Rd.shp hs190)) ?_
  obtain ⟨ck192, hM⟩ := Ae hM
  refine r_X (vI (((n27_ + (((m.2.2.2.2.2.2.2.1)[i28_.toNat]!.2.2.1).length : Int)) + (((m.2.2.2.2.2.2.2.1)[i28_.toNat]!.2.2.2.1).length : Int)))) rfl (AR rfl ck192.1 ck192.2) rfl <| r_V (vI (((n27_ + (((m.2.2.2.2.2.2.2.1)[i28_.toNat]!.2.2.1).length : Int)) + (((m.2.2.2.2.2.2.2.1)[i28_.toNat]!.2.2.2.1).length : Int)))) rfl <| Aa <| hK178 _ _ ?_
  refine Ax <| r_V (vI i28_) rfl ?_
  obtain ⟨ck193, hM⟩ := Ae hM
  refine r_X (vI (i28_ + 1)) rfl (AR rfl ck193.1 ck193.2) rfl <| r_V (vI (i28_ + 1)) rfl <| Aa <| fg _ (Sub.of (suK _ suN)) ?_
  exact ⟨n177 + 1, by omega, n177, ((n27_ + (((m.2.2.2.2.2.2.2.1)[i28_.toNat]!.2.2.1).length : Int)) + (((m.2.2.2.2.2.2.2.1)[i28_.toNat]!.2.2.2.1).length : Int)), (i28_ + 1), hM, Ak rfl rfl, rfl⟩
 clear hM; rintro t l ⟨n19_, hM, ⟨T, rfl⟩, rfl⟩
 unfold PC at hM
 refine Bm (fun tt ll => ∃ (n21_ : Int), (PB m n21_ = some r) ∧ Is [(1, vP b2 0), (4, vI n21_)] [(b2, 35, (Ac m mv))] tt ll) ?_ ?_
 ·refine Ad <| r_V (vI 0) rfl <| Aa <| Ap <| AS (fun tt ll nn => ∃ (n156 : Nat) (n23_ : Int) (i24_ : Int), (KU m n156 n23_ i24_ = some r) ∧ Is [(1, vP b2 0), (4, vI n23_), (12, vI i24_)] [(b2, 35, (Ac m mv))] tt ll ∧ nn = n156 + 1) (N + 1) ?_ ?_
  ·exact ⟨N, n19_, 0, hM, Ak rfl rfl, rfl⟩
  clear hM; rintro t l _ ⟨n156, n23_, i24_, hM, ⟨⟨T, rfl⟩, rfl⟩, rfl⟩
  rcases n156 with _ | n156
  ·exact absurd hM (by simp [KU])
  rw [KU] at hM
  refine Bm (fun tt ll => (Uq m n23_ i24_ (KU m n156)  = some r) ∧ Is [(1, vP b2 0), (4, vI n23_), (12, vI i24_)] [(b2, 35, (Ac m mv))] tt ll) ?_ ?_
  ·refine Ai fun K173 hK173 => Ax <| r_R [vI i24_, vP b2 8] rfl <| rl mv.2.2.2.2.2.2.2.1 0 <| r_W (vI (m.2.2.2.2.2.2.2.2.1.length : Int)) rfl (Aj rfl rfl rfl (RdN.shp hm.2.2.2.2.2.2.2.1)) <| r_R [vB (decide (i24_ < (m.2.2.2.2.2.2.2.2.1.length : Int))), vB (decide (i24_ < (m.2.2.2.2.2.2.2.2.1.length : Int)))] rfl ?_
   rcases hg174 : (decide (i24_ < (m.2.2.2.2.2.2.2.2.1.length : Int))) with _ | _
   ·replace hM := iF hg174 hM
    refine r_R [none, none, vB false] rfl <| Aa <| hK173 _ _ ?_
    refine Af false rfl (fun h_ => nomatch h_) (fun _ => ?_)
    refine AM <| fg _ (Sub.of (suK _ suN)) ?_
    exact ⟨n23_, hM, Ak (by first | rfl | (simp only [hg174]; done) | (simp only [hg174]; rfl) | (simp only [Bc]; rfl)) rfl⟩
   replace hM := iD hg174 hM
   refine r_R [vI i24_, vB (decide (i24_ < 300)), vB (decide (i24_ < 300))] rfl <| Aa <| hK173 _ _ ?_
   refine Af _ rfl (fun hc175 => ?_) (fun hc175 => ?_)
   ·replace hM := iD hc175 hM
    refine Ah <| fg _ (Sub.of (suK _ suN)) ?_
    exact ⟨hM, Ak rfl rfl⟩
   replace hM := iF hc175 hM
   refine AM <| fg _ (Sub.of (suK _ suN)) ?_
   exact ⟨n23_, hM, Ak (by first | rfl | (simp only [hg174]; done) | (simp only [hg174]; rfl) | (simp only [Bc]; rfl)) rfl⟩
  clear hM; rintro t l ⟨hM, ⟨T, rfl⟩, rfl⟩
  unfold Uq at hM
  refine Ai fun K157 hK157 => Ap <| Ge [] (by decide +kernel) (fun hn => Be) <| r_R [vI n23_, vP b2 8] rfl <| rl mv.2.2.2.2.2.2.2.1 0 <| r_V (vI i24_) rfl ?_
  obtain ⟨ck158, hM⟩ := Ae hM
  obtain ⟨_, ⟨s159, s160, hs161, hs162, rfl⟩, hat163⟩ := RdN.at (E := encr_79) hm.2.2.2.2.2.2.2.1 (AA ck158)
  refine r_W (elA mv.2.2.2.2.2.2.2.1 (i24_.toNat * 6)) rfl (AD (An rfl rfl rfl (RdN.shp hm.2.2.2.2.2.2.2.1) ck158)) <| r_W (elA mv.2.2.2.2.2.2.2.1 (i24_.toNat * 6 + 2)) rfl (AD (AH rfl rfl rfl rfl rfl rfl (RdN.shp hm.2.2.2.2.2.2.2.1) (AY ck158))) <| Eo s159 (vs := [vI ((m.2.2.2.2.2.2.2.2.1)[i24_.toNat]!.1), vI ((m.2.2.2.2.2.2.2.2.1)[i24_.toNat]!.2.1), s159, s160, vI ((m.2.2.2.2.2.2.2.2.1)[i24_.toNat]!.2.2.2.2.1), vI ((m.2.2.2.2.2.2.2.2.1)[i24_.toNat]!.2.2.2.2.2)]) (i24_.toNat * 6) 2 rfl rfl (fun o w z_ => At.mono z_.ro_cell hat163) rfl ?_
  refine r_W (vI (((m.2.2.2.2.2.2.2.2.1)[i24_.toNat]!.2.2.1).length : Int)) rfl (Aj rfl rfl rfl (Rd.shp hs161)) ?_
  obtain ⟨ck164, hM⟩ := Ae hM
  refine r_X (vI ((n23_ + (((m.2.2.2.2.2.2.2.2.1)[i24_.toNat]!.2.2.1).length : Int)))) rfl (AR rfl ck164.1 ck164.2) rfl <| r_V (vP b2 8) rfl <| rl mv.2.2.2.2.2.2.2.1 0 <| r_V (vI i24_) rfl ?_
  obtain ⟨ck165, hM⟩ := Ae hM
  obtain ⟨_, ⟨s166, s167, hs168, hs169, rfl⟩, hat170⟩ := RdN.at (E := encr_79) hm.2.2.2.2.2.2.2.1 (AA ck165)
  refine r_W (elA mv.2.2.2.2.2.2.2.1 (i24_.toNat * 6)) rfl (AD (An rfl rfl rfl (RdN.shp hm.2.2.2.2.2.2.2.1) ck165)) <| r_W (elA mv.2.2.2.2.2.2.2.1 (i24_.toNat * 6 + 3)) rfl (AD (AH rfl rfl rfl rfl rfl rfl (RdN.shp hm.2.2.2.2.2.2.2.1) (AY ck165))) <| Eo s167 (vs := [vI ((m.2.2.2.2.2.2.2.2.1)[i24_.toNat]!.1), vI ((m.2.2.2.2.2.2.2.2.1)[i24_.toNat]!.2.1), s166, s167, vI ((m.2.2.2.2.2.2.2.2.1)[i24_.toNat]!.2.2.2.2.1), vI ((m.2.2.2.2.2.2.2.2.1)[i24_.toNat]!.2.2.2.2.2)]) (i24_.toNat * 6) 3 rfl rfl (fun o w z_ => At.mono z_.ro_cell hat170) rfl ?_
  refine r_W (vI (((m.2.2.2.2.2.2.2.2.1)[i24_.toNat]!.2.2.2.1).length : Int)) rfl (Aj rfl rfl rfl (Rd.shp hs169)) ?_
  obtain ⟨ck171, hM⟩ := Ae hM
  refine r_X (vI (((n23_ + (((m.2.2.2.2.2.2.2.2.1)[i24_.toNat]!.2.2.1).length : Int)) + (((m.2.2.2.2.2.2.2.2.1)[i24_.toNat]!.2.2.2.1).length : Int)))) rfl (AR rfl ck171.1 ck171.2) rfl <| r_V (vI (((n23_ + (((m.2.2.2.2.2.2.2.2.1)[i24_.toNat]!.2.2.1).length : Int)) + (((m.2.2.2.2.2.2.2.2.1)[i24_.toNat]!.2.2.2.1).length : Int)))) rfl <| Aa <| hK157 _ _ ?_
  refine Ax <| r_V (vI i24_) rfl ?_
  obtain ⟨ck172, hM⟩ := Ae hM
  refine r_X (vI (i24_ + 1)) rfl (AR rfl ck172.1 ck172.2) rfl <| r_V (vI (i24_ + 1)) rfl <| Aa <| fg _ (Sub.of (suK _ suN)) ?_
  exact ⟨n156 + 1, by omega, n156, ((n23_ + (((m.2.2.2.2.2.2.2.2.1)[i24_.toNat]!.2.2.1).length : Int)) + (((m.2.2.2.2.2.2.2.2.1)[i24_.toNat]!.2.2.2.1).length : Int)), (i24_ + 1), hM, Ak rfl rfl, rfl⟩
 clear hM; rintro t l ⟨n21_, hM, ⟨T, rfl⟩, rfl⟩
 unfold PB at hM
 refine Ai fun K153 hK153 => Ax <| r_R [vI n21_, vB (decide (n21_ ≤ 900)), vB (decide (n21_ ≤ 900))] rfl ?_
 rcases hg154 : (decide (n21_ ≤ 900)) with _ | _
 ·replace hM := iF hg154 hM
  refine r_R [none, none, none, none, vB false, vB false] rfl <| Aa <| hK153 _ _ ?_
  cases hM
  exact aR eV1
 replace hM := iD hg154 hM
 refine r_R [vP b2 0] rfl <| r_y rfl <| rl (vS m.1) 0 <| r_y rfl <| r_W (vI (m.1.length : Int)) rfl (Il rfl rfl rfl) <| r_R [vB (decide ((m.1.length : Int) ≤ 200)), vB (decide ((m.1.length : Int) ≤ 200)), vB (decide ((m.1.length : Int) ≤ 200))] rfl <| Aa <| hK153 _ _ ?_
 cases hM
 exact aR eV1
def Ha (a0 : Value) : List Fv := [⟨vF 63 #[a0] #[], rfl⟩, ⟨vF 64 #[a0] #[], rfl⟩, ⟨vF 65 #[a0] #[], rfl⟩, ⟨vF 66 #[a0] #[], rfl⟩, ⟨vF 67 #[a0] #[], rfl⟩, ⟨vF 68 #[a0] #[], rfl⟩, ⟨vF 69 #[a0] #[], rfl⟩, ⟨vF 70 #[a0] #[], rfl⟩, ⟨vF 71 #[a0] #[], rfl⟩, ⟨vF 72 #[a0] #[], rfl⟩, ⟨vF 73 #[a0] #[], rfl⟩, ⟨vF 74 #[a0] #[], rfl⟩, ⟨vF 75 #[a0] #[], rfl⟩, ⟨vF 76 #[a0] #[], rfl⟩, ⟨vF 77 #[a0] #[], rfl⟩]
def Hz (_ : Nat) (_ : Al) : Option Unit := some ()
theorem Qx (N : Nat) (c : Al) (r) (hM : Hz N c = some r) (ro : Ro) (cv : AP) (_hc : Bun35R ro cv c) : DoesI prog 18 #[Value.agg (Ac c cv)] DZ ro [] (p1 (fun s_ => s_) 94 GA (Ha (Value.agg (Ac c cv)))) := by
 unfold Hz at hM
 refine AO follows func18 rfl 34 rfl _ fz1 AT (fun base0_ => ?_)
 refine Ad <| r_a (92, (Ac c cv)) rfl rfl rfl (fun b2 => ?_) (.inr rfl)
 refine r_V nS rfl <| Aa <| AL [(some 33, false)] (conG prog []) <| rl (Value.agg (Ac c cv)) 0 <| r_W (vF 63 #[Value.agg (Ac c cv)] #[]) rfl (Ej rfl rfl) <| rl (Value.agg (Ac c cv)) 0 <| r_W (vF 64 #[Value.agg (Ac c cv)] #[]) rfl (Ej rfl rfl) <| rl (Value.agg (Ac c cv)) 0 <| r_W (vF 65 #[Value.agg (Ac c cv)] #[]) rfl (Ej rfl rfl) <| rl (Value.agg (Ac c cv)) 0 <| r_W (vF 66 #[Value.agg (Ac c cv)] #[]) rfl (Ej rfl rfl) ?_
 refine rl (Value.agg (Ac c cv)) 0 <| r_W (vF 67 #[Value.agg (Ac c cv)] #[]) rfl (Ej rfl rfl) <| rl (Value.agg (Ac c cv)) 0 <| r_W (vF 68 #[Value.agg (Ac c cv)] #[]) rfl (Ej rfl rfl) <| rl (Value.agg (Ac c cv)) 0 <| r_W (vF 69 #[Value.agg (Ac c cv)] #[]) rfl (Ej rfl rfl) <| rl (Value.agg (Ac c cv)) 0 <| r_W (vF 70 #[Value.agg (Ac c cv)] #[]) rfl (Ej rfl rfl) <| rl (Value.agg (Ac c cv)) 0 ?_
 refine r_W (vF 71 #[Value.agg (Ac c cv)] #[]) rfl (Ej rfl rfl) <| rl (Value.agg (Ac c cv)) 0 <| r_W (vF 72 #[Value.agg (Ac c cv)] #[]) rfl (Ej rfl rfl) <| rl (Value.agg (Ac c cv)) 0 <| r_W (vF 73 #[Value.agg (Ac c cv)] #[]) rfl (Ej rfl rfl) <| rl (Value.agg (Ac c cv)) 0 <| r_W (vF 74 #[Value.agg (Ac c cv)] #[]) rfl (Ej rfl rfl) <| rl (Value.agg (Ac c cv)) 0 <| r_W (vF 75 #[Value.agg (Ac c cv)] #[]) rfl (Ej rfl rfl) ?_
 refine rl (Value.agg (Ac c cv)) 0 <| r_W (vF 76 #[Value.agg (Ac c cv)] #[]) rfl (Ej rfl rfl) <| rl (Value.agg (Ac c cv)) 0 <| r_W (vF 77 #[Value.agg (Ac c cv)] #[]) rfl (Ej rfl rfl) ?_
 refine Dj (cs0 := []) (Ls := [[(b2, 92, (Ac c cv))]]) 94 GA (Ha (Value.agg (Ac c cv))) [vF 63 #[Value.agg (Ac c cv)] #[], vF 64 #[Value.agg (Ac c cv)] #[], vF 65 #[Value.agg (Ac c cv)] #[], vF 66 #[Value.agg (Ac c cv)] #[], vF 67 #[Value.agg (Ac c cv)] #[], vF 68 #[Value.agg (Ac c cv)] #[], vF 69 #[Value.agg (Ac c cv)] #[], vF 70 #[Value.agg (Ac c cv)] #[], vF 71 #[Value.agg (Ac c cv)] #[], vF 72 #[Value.agg (Ac c cv)] #[], vF 73 #[Value.agg (Ac c cv)] #[], vF 74 #[Value.agg (Ac c cv)] #[], vF 75 #[Value.agg (Ac c cv)] #[], vF 76 #[Value.agg (Ac c cv)] #[], vF 77 #[Value.agg (Ac c cv)] #[]] [Value.nilFunc, Value.nilFunc, Value.nilFunc, Value.nilFunc, Value.nilFunc, Value.nilFunc, Value.nilFunc, Value.nilFunc, Value.nilFunc, Value.nilFunc, Value.nilFunc, Value.nilFunc, Value.nilFunc, Value.nilFunc, Value.nilFunc] rfl rfl rfl rfl rfl rfl rfl (by kernel_rfl) (by kernel_rfl) rfl rfl rfl (fun s4 S5 H6 => ?_)
 refine r_V s4 rfl <| Aa <| Cd [(2, s4)] rfl (fun T => ?_)
 cases hM
 refine AW (fun hn => Ex (v0 := s4) H6 (Cv (Sub.pick [[(b2, 92, (Ac c cv))], S5] [1] rfl)) rfl (Cy rfl))
end Go.Proofs.YtjmdbbnnpmmpiaaGreatDoor
