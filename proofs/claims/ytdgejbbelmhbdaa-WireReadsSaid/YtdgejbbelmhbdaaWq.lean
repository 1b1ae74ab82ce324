/- Layer 7: what the program's reader answers, and that it goes with the document's. Conditions: those written (lengths, fuel). -/
import Derived.Test.YtdgejbbelmhbdaaWp
namespace Go.Proofs.Ytdgejbbelmhbdaa
open Go Go.RowKit Go.Eng
theorem orW_s (N : Nat) (a b : BitVec 128) : word_Or_m N a b = some (a ||| b) := by
  unfold word_Or_m
  rw [← hi_or, ← lo_or, hi_lo]
theorem wordN_s (n k : Nat) (hn : n * 256 + k < 2 ^ 128) (hk : k < 256) : (shiftI (BitVec.ofNat 128 n) 8 ||| ((0#64) ++ (BitVec.ofNat 64 k))) = BitVec.ofNat 128 (n * 256 + k) := by
  have e1 : shiftI (BitVec.ofNat 128 n) 8 = BitVec.ofNat 128 n <<< 8 := rfl
  have e2 : (0#64) ++ (BitVec.ofNat 64 k) = BitVec.ofNat 128 k := by
    apply BitVec.eq_of_toNat_eq
    rw [BitVec.toNat_append, BitVec.toNat_ofNat, BitVec.toNat_ofNat, BitVec.toNat_ofNat]
    simp only [Nat.zero_mod, Nat.zero_shiftLeft, Nat.zero_or]
    omega
  rw [e1, e2]
  have key : ∀ M : Nat, n < M → k < M → n * 256 + k < M → n <<< 8 < M → (n % M) <<< 8 % M ||| k % M = (n * 256 + k) % M := fun M h1 h2 h3 h4 => by
    rw [Nat.mod_eq_of_lt h1, Nat.mod_eq_of_lt h2, Nat.mod_eq_of_lt h3, Nat.mod_eq_of_lt h4, ← Nat.shiftLeft_add_eq_or_of_lt (show k < 2 ^ 8 from hk), Nat.shiftLeft_eq]
  apply BitVec.eq_of_toNat_eq
  rw [BitVec.toNat_or, BitVec.toNat_shiftLeft, BitVec.toNat_ofNat, BitVec.toNat_ofNat, BitVec.toNat_ofNat]
  exact key (2 ^ 128) (Nat.lt_of_le_of_lt (by omega) hn) (Nat.lt_of_le_of_lt (by omega) hn) hn (Nat.lt_of_le_of_lt (by rw [Nat.shiftLeft_eq]; omega) hn)
theorem numU_lt16 (l : List UInt8) (h : l.length ≤ 16) : numU l < 2 ^ 128 := by
  have h1 := numU_lt l
  have h2 : (256 : Nat) ^ l.length ≤ 256 ^ 16 := Nat.pow_le_pow_right (by decide) h
  have h3 : (256 : Nat) ^ 16 = 2 ^ 128 := by decide
  omega
theorem wordOf_loop (N : Nat) (b : List UInt8) (hb : b.length ≤ 16) : ∀ (k f i : Nat), i + k = b.length → k < f → wire_wordOf_l3 N b f (i : Int) (BitVec.ofNat 128 (numU (b.take i))) = some (BitVec.ofNat 128 (numU b)) := by
  intro k
  induction k with
  | zero =>
    intro f i hi hf
    obtain ⟨f, rfl⟩ : ∃ n, f = n + 1 := ⟨f - 1, by omega⟩
    rw [wire_wordOf_l3, if_neg (by omega), List.take_of_length_le (by omega)]
  | succ k ih =>
    intro f i hi hf
    obtain ⟨f, rfl⟩ : ∃ n, f = n + 1 := ⟨f - 1, by omega⟩
    have hib : i < b.length := by omega
    have et : numU (b.take (i + 1)) = numU (b.take i) * 256 + (b[i]!).toNat := by
      rw [List.take_add_one, List.getElem?_eq_getElem hib, get!_of_lt _ _ hib]
      exact numU_snoc _ _
    have hlt : numU (b.take (i + 1)) < 2 ^ 128 := numU_lt16 _ (by rw [List.length_take]; omega)
    rw [wire_wordOf_l3, if_pos (by omega), ck_pos _ (by omega), ck_pos _ (by omega), Int.toNat_natCast, orW_s, Option.bind_some, ck_pos _ (by omega), wordN_s _ _ (by rw [← et]; exact hlt) (b[i]!).toNat_lt, ← et, show (i : Int) + 1 = ((i + 1 : Nat) : Int) from by omega]
    exact ih f (i + 1) (by omega) (by omega)
theorem wordOf_s (N : Nat) (hN : 16 < N) (b : List UInt8) (hb : b.length ≤ 16) : wire_wordOf_m N b = some (BitVec.ofNat 128 (numU b)) := by
  have := wordOf_loop N b hb b.length N 0 (by omega) (by omega)
  rw [List.take_zero] at this
  unfold wire_wordOf_m
  exact this
/-- a number -/
def firstNum (b : List UInt8) (c : Nat) (most err : Int) : Int × Int × Int :=
  if b.length < c then (0, 0, 3) else if ((numU (b.take c) : Nat) : Int) > most then (0, 0, err) else ((numU (b.take c) : Int), (c : Int), 0)
theorem num1_s (N : Nat) (hN : 16 < N) (b : List UInt8) (c : Nat) (hc : c ≤ 7) (most err : Int) : wire_Reader_number_1_v1_m N b (c : Int) most err = some (firstNum b c most err) := by
  unfold wire_Reader_number_1_v1_m firstNum
  by_cases h : b.length < c
  · rw [if_pos (by omega), if_pos h]
  · have hl : (b.take c).length = c := by rw [List.length_take]; omega
    have h2 : numU (b.take c) < 72057594037927936 := Nat.lt_of_lt_of_le (numU_lt _) (by rw [hl]; exact Nat.pow_le_pow_right (n := 256) (by decide) hc)
    have h3 : (lo (BitVec.ofNat 128 (numU (b.take c)))).toNat = numU (b.take c) := by
      unfold lo
      simp only [BitVec.extractLsb'_toNat, BitVec.toNat_ofNat, Nat.shiftRight_zero]
      omega
    rw [if_neg (by omega), if_neg h, ck_pos _ (by omega), Int.toNat_natCast, List.drop_zero, wordOf_s N hN _ (by omega), Option.bind_some, h3, ck_pos _ (by omega)]
    split <;> rfl
theorem mayB_num (w n : Nat) (h1 : 1 ≤ w) (h2 : w ≤ 128) (hn : n < 2 ^ 128) : mayB (w : Int) (BitVec.ofNat 128 n) = true ↔ n < 2 ^ w := by
  constructor
  · intro h
    refine Nat.lt_pow_two_of_testBit n (fun j hj => ?_)
    have h3 := may_bit h j (by omega)
    rw [BitVec.getLsbD_ofNat] at h3
    by_cases hj2 : j < 128
    · rw [decide_eq_true hj2, Bool.true_and] at h3; exact h3
    · exact Nat.testBit_lt_two_pow (Nat.lt_of_lt_of_le hn (Nat.pow_le_pow_right (by decide) (by omega)))
  · intro h
    refine may_of (by omega) (by omega) (fun j hj => ?_)
    rw [BitVec.getLsbD_ofNat, Nat.testBit_lt_two_pow (Nat.lt_of_lt_of_le h (Nat.pow_le_pow_right (by decide) (by omega))), Bool.and_false]
/-- a row -/
def firstRow : List UInt8 → (Int × BitVec 128) × Int × Int
  | [] => ((0, 0#128), 0, 3)
  | c :: t => if c.toNat < 1 ∨ c.toNat > 128 then ((0, 0#128), 0, 9) else if t.length < (c.toNat + 7) / 8 then ((0, 0#128), 0, 3)
    else if 2 ^ c.toNat ≤ numU (t.take ((c.toNat + 7) / 8)) then ((0, 0#128), 0, 4) else ((((c.toNat : Nat) : Int), BitVec.ofNat 128 (numU (t.take ((c.toNat + 7) / 8)))), ((1 + (c.toNat + 7) / 8 : Nat) : Int), 0)
theorem firstRow_s (N : Nat) (hN : 400 < N) (b : List UInt8) (hb : b.length ≤ 100000000) : wire_rowOf_m N b = some ((firstRow b).1.1, (firstRow b).1.2, (firstRow b).2.1, (firstRow b).2.2) := by
  cases b with
  | nil => unfold wire_rowOf_m firstRow; rw [if_pos (by rfl), zero128]
  | cons c t =>
    rw [List.length_cons] at hb
    have hg : (c :: t)[((0 : Int)).toNat]! = c := rfl
    have hlen : (((c :: t).length : Nat) : Int) = (t.length : Int) + 1 := by rw [List.length_cons]; omega
    unfold wire_rowOf_m firstRow
    simp only
    rw [hg, hlen, if_neg (by omega), ck_pos _ (by omega)]
    by_cases h1 : c.toNat < 1 ∨ c.toNat > 128
    · rw [if_pos h1]
      by_cases h2 : c.toNat < 1
      · rw [if_pos (by omega), zero128]
      · rw [if_neg (by omega), if_pos (by omega), zero128]
    · rw [if_neg h1, if_neg (by omega), if_neg (by omega)]
      unfold wire_rowOf_k1
      rw [hg, hold_s N c.toNat (by omega), Option.bind_some, ck_pos _ (by omega), hlen]
      by_cases h3 : t.length < (c.toNat + 7) / 8
      · rw [if_pos (by omega), if_pos h3, zero128]
      · have e1 : ((1 : Int) + (((c.toNat + 7) / 8 : Nat) : Int)).toNat = (c.toNat + 7) / 8 + 1 := by omega
        have e2 : ((c :: t).take ((c.toNat + 7) / 8 + 1)).drop ((1 : Int)).toNat = t.take ((c.toNat + 7) / 8) := rfl
        have hl : (t.take ((c.toNat + 7) / 8)).length = (c.toNat + 7) / 8 := by rw [List.length_take]; omega
        have hlt := numU_lt16 (t.take ((c.toNat + 7) / 8)) (by omega)
        have hm := mayB_num c.toNat (numU (t.take ((c.toNat + 7) / 8))) (by omega) (by omega) hlt
        rw [if_neg (by omega), if_neg h3, ck_pos _ (by omega), e1, e2, wordOf_s N (by omega) _ (by omega), Option.bind_some, new_s, hi_lo, if_pos (by omega)]
        by_cases h4 : 2 ^ c.toNat ≤ numU (t.take ((c.toNat + 7) / 8))
        · have h5 : ¬ mayB (c.toNat : Int) (BitVec.ofNat 128 (numU (t.take ((c.toNat + 7) / 8)))) = true := fun h => by have := hm.1 h; omega
          rw [if_neg h5, if_pos h4, Option.bind_some, zero128]; rfl
        · rw [if_pos (hm.2 (by omega)), if_neg h4, Option.bind_some, if_neg (show ¬ (0 : Int) ≠ 0 by decide)]
          congr 4
/-- a name -/
def firstName : List UInt8 → List UInt8 × Int × Int
  | [] => ([], 0, 3)
  | c :: t => if t.length < c.toNat then ([], 0, 3) else if mayL (runesL (t.take c.toNat)) = true then (t.take c.toNat, ((1 + c.toNat : Nat) : Int), 0) else ([], 0, 4)
theorem firstName_s (N : Nat) (hN : 400 < N) (b : List UInt8) (hb : b.length ≤ 100000000) : wire_nameOf_m N b = some (firstName b) := by
  cases b with
  | nil => unfold wire_nameOf_m firstName; rw [if_pos (by rfl)]
  | cons c t =>
    rw [List.length_cons] at hb
    have hg : (c :: t)[((0 : Int)).toNat]! = c := rfl
    have hlen : (((c :: t).length : Nat) : Int) = (t.length : Int) + 1 := by rw [List.length_cons]; omega
    have hc := c.toNat_lt
    unfold wire_nameOf_m firstName
    simp only
    rw [hg, hlen, if_neg (by omega), ck_pos _ (by omega), ck_pos _ (by omega)]
    by_cases h3 : t.length < c.toNat
    · rw [if_pos (by omega), if_pos h3]
    · have e1 : ((1 : Int) + ((c.toNat : Nat) : Int)).toNat = c.toNat + 1 := by omega
      have e2 : ((c :: t).take (c.toNat + 1)).drop ((1 : Int)).toNat = t.take c.toNat := rfl
      have hl : (t.take c.toNat).length = c.toNat := by rw [List.length_take]; omega
      rw [if_neg (by omega), if_neg h3, ck_pos _ (by omega), e1, e2, may_s N _ (by omega), Option.bind_some]
      by_cases h4 : mayL (runesL (t.take c.toNat)) = true
      · rw [if_pos h4, if_pos h4]; congr 3
      · rw [if_neg h4, if_neg h4]
def stepP {α : Type} (z : α) (at' e : Int) (fr : α × Int × Int) : α × Int × Int := if e ≠ 0 then (z, at', e) else if fr.2.2 ≠ 0 then (z, at', fr.2.2) else (fr.1, at' + fr.2.1, 0)
section
variable (N : Nat) (hN : 400 < N) (r : List UInt8) (hr : r.length ≤ 100000000) (a e : Int) (ha : 0 ≤ a ∧ a ≤ (r.length : Int))
include hN hr ha
theorem tInt2_s (c : Nat) (hc : c ≤ 7) (most err : Int) : wire_take_int__v2_m N r a e (c : Int) most err = some ((stepP 0 a e (firstNum (r.drop a.toNat) c most err)).1, r, (stepP 0 a e (firstNum (r.drop a.toNat) c most err)).2.1, (stepP 0 a e (firstNum (r.drop a.toNat) c most err)).2.2) := by
  unfold wire_take_int__v2_m wire_Reader_Bad_v1_m wire_spot_fail_v2_m stepP
  rw [Option.bind_some]
  by_cases he : e = 0
  · subst he
    have hx : (firstNum (r.drop a.toNat) c most err).2.1 ≤ 7 ∧ 0 ≤ (firstNum (r.drop a.toNat) c most err).2.1 := by
      unfold firstNum; split
      · exact ⟨by show (0 : Int) ≤ 7; decide, by show (0 : Int) ≤ 0; decide⟩
      · split
        · exact ⟨by show (0 : Int) ≤ 7; decide, by show (0 : Int) ≤ 0; decide⟩
        · exact ⟨by show (c : Int) ≤ 7; omega, by show 0 ≤ (c : Int); omega⟩
    rw [if_neg (by decide), ck_pos _ ha, List.take_length, num1_s N (by omega) _ c hc, Option.bind_some, if_neg (show ¬ (0 : Int) ≠ 0 by decide)]
    by_cases h : (firstNum (r.drop a.toNat) c most err).2.2 = 0
    · have h' : ¬ (firstNum (r.drop a.toNat) c most err).2.2 ≠ 0 := fun h2 => h2 h
      rw [if_neg h', if_neg h', ck_pos _ (by omega)]
    · rw [if_pos h, if_pos h, if_pos rfl, Option.bind_some, ck_pos _ rfl]
  · have h1 : (e != 0) = true := by simpa using he
    rw [h1, if_pos rfl, if_pos he]
theorem tRow2_s : wire_take_api_Vec__v2_m N r a e = some ((stepP (0, 0#128) a e (firstRow (r.drop a.toNat))).1.1, (stepP (0, 0#128) a e (firstRow (r.drop a.toNat))).1.2, r, (stepP (0, 0#128) a e (firstRow (r.drop a.toNat))).2.1, (stepP (0, 0#128) a e (firstRow (r.drop a.toNat))).2.2) := by
  unfold wire_take_api_Vec__v2_m wire_Reader_Bad_v1_m wire_spot_fail_v2_m stepP
  rw [Option.bind_some]
  by_cases he : e = 0
  · subst he
    have hx : (firstRow (r.drop a.toNat)).2.1 ≤ 1000 ∧ 0 ≤ (firstRow (r.drop a.toNat)).2.1 := by
      generalize r.drop a.toNat = b
      cases b with
      | nil => exact ⟨by show (0 : Int) ≤ 1000; decide, by show (0 : Int) ≤ 0; decide⟩
      | cons c t =>
        have hc := c.toNat_lt
        unfold firstRow
        simp only
        split
        · exact ⟨by show (0 : Int) ≤ 1000; decide, by show (0 : Int) ≤ 0; decide⟩
        · split
          · exact ⟨by show (0 : Int) ≤ 1000; decide, by show (0 : Int) ≤ 0; decide⟩
          · split
            · exact ⟨by show (0 : Int) ≤ 1000; decide, by show (0 : Int) ≤ 0; decide⟩
            · exact ⟨by show ((1 + (c.toNat + 7) / 8 : Nat) : Int) ≤ 1000; omega, by show 0 ≤ ((1 + (c.toNat + 7) / 8 : Nat) : Int); omega⟩
    rw [if_neg (by decide), ck_pos _ ha, List.take_length, firstRow_s N hN _ (by rw [List.length_drop]; omega), Option.bind_some, if_neg (show ¬ (0 : Int) ≠ 0 by decide)]
    by_cases h : (firstRow (r.drop a.toNat)).2.2 = 0
    · have h' : ¬ (firstRow (r.drop a.toNat)).2.2 ≠ 0 := fun h2 => h2 h
      rw [if_neg h', if_neg h', ck_pos _ (by show -9223372036854775808 ≤ a + (firstRow (r.drop a.toNat)).2.1 ∧ a + (firstRow (r.drop a.toNat)).2.1 ≤ 9223372036854775807; omega)]
    · rw [if_pos h, if_pos h, if_pos rfl, Option.bind_some, ck_pos _ rfl, zero128]
  · have h1 : (e != 0) = true := by simpa using he
    rw [h1, if_pos rfl, if_pos he, zero128]
theorem tName2_s : wire_take_string__v2_m N r a e = some ((stepP [] a e (firstName (r.drop a.toNat))).1, r, (stepP [] a e (firstName (r.drop a.toNat))).2.1, (stepP [] a e (firstName (r.drop a.toNat))).2.2) := by
  unfold wire_take_string__v2_m wire_Reader_Bad_v1_m wire_spot_fail_v2_m stepP
  rw [Option.bind_some]
  by_cases he : e = 0
  · subst he
    have hx : (firstName (r.drop a.toNat)).2.1 ≤ 1000 ∧ 0 ≤ (firstName (r.drop a.toNat)).2.1 := by
      generalize r.drop a.toNat = b
      cases b with
      | nil => exact ⟨by show (0 : Int) ≤ 1000; decide, by show (0 : Int) ≤ 0; decide⟩
      | cons c t =>
        have hc := c.toNat_lt
        unfold firstName
        simp only
        split
        · exact ⟨by show (0 : Int) ≤ 1000; decide, by show (0 : Int) ≤ 0; decide⟩
        · split
          · exact ⟨by show ((1 + c.toNat : Nat) : Int) ≤ 1000; omega, by show 0 ≤ ((1 + c.toNat : Nat) : Int); omega⟩
          · exact ⟨by show (0 : Int) ≤ 1000; decide, by show (0 : Int) ≤ 0; decide⟩
    rw [if_neg (by decide), ck_pos _ ha, List.take_length, firstName_s N hN _ (by rw [List.length_drop]; omega), Option.bind_some, if_neg (show ¬ (0 : Int) ≠ 0 by decide)]
    by_cases h : (firstName (r.drop a.toNat)).2.2 = 0
    · have h' : ¬ (firstName (r.drop a.toNat)).2.2 ≠ 0 := fun h2 => h2 h
      rw [if_neg h', if_neg h', ck_pos _ (by omega)]
    · rw [if_pos h, if_pos h, if_pos rfl, Option.bind_some, ck_pos _ rfl]
  · have h1 : (e != 0) = true := by simpa using he
    rw [h1, if_pos rfl, if_pos he]
/-- the number that the reader reads -/
abbrev pNum (r : List UInt8) (a e : Int) (c : Nat) (most err : Int) := stepP 0 a e (firstNum (r.drop a.toNat) c most err)
abbrev pRow (r : List UInt8) (a e : Int) := stepP (0, 0#128) a e (firstRow (r.drop a.toNat))
abbrev pName (r : List UInt8) (a e : Int) := stepP ([] : List UInt8) a e (firstName (r.drop a.toNat))
theorem rnum2_s (c : Nat) (hc : c ≤ 7) (most err : Int) : wire_Reader_number_v2_m N r a e (c : Int) most err = some ((pNum r a e c most err).1, r, (pNum r a e c most err).2.1, (pNum r a e c most err).2.2) := by
  unfold wire_Reader_number_v2_m
  rw [tInt2_s N hN r hr a e ha c hc, Option.bind_some, ck_pos _ rfl]
theorem rByte_s (most : Int) : wire_Reader_Byte_v2_m N r a e most = some ((pNum r a e 1 most 7).1, r, (pNum r a e 1 most 7).2.1, (pNum r a e 1 most 7).2.2) := by
  unfold wire_Reader_Byte_v2_m
  rw [show wire_Reader_number_v2_m N r a e 1 most 7 = _ from rnum2_s N hN r hr a e ha 1 (by decide) most 7, Option.bind_some, ck_pos _ rfl]
theorem rTwo_s (most : Int) : wire_Reader_Two_v1_m N r a e most = some ((pNum r a e 2 most 7).1, r, (pNum r a e 2 most 7).2.1, (pNum r a e 2 most 7).2.2) := by
  unfold wire_Reader_Two_v1_m
  rw [show wire_Reader_number_v2_m N r a e 2 most 7 = _ from rnum2_s N hN r hr a e ha 2 (by decide) most 7, Option.bind_some, ck_pos _ rfl]
theorem rFour_s (most : Int) : wire_Reader_Four_v1_m N r a e most = some ((pNum r a e 4 most 7).1, r, (pNum r a e 4 most 7).2.1, (pNum r a e 4 most 7).2.2) := by
  unfold wire_Reader_Four_v1_m
  rw [show wire_Reader_number_v2_m N r a e 4 most 7 = _ from rnum2_s N hN r hr a e ha 4 (by decide) most 7, Option.bind_some, ck_pos _ rfl]
theorem rVec_s : wire_Reader_Vec_v1_m N r a e = some ((pRow r a e).1.1, (pRow r a e).1.2, r, (pRow r a e).2.1, (pRow r a e).2.2) := by
  unfold wire_Reader_Vec_v1_m
  rw [tRow2_s N hN r hr a e ha, Option.bind_some, ck_pos _ rfl]
theorem rName_s : wire_Reader_Name_v1_m N r a e = some ((pName r a e).1, r, (pName r a e).2.1, (pName r a e).2.2) := by
  unfold wire_Reader_Name_v1_m
  rw [tName2_s N hN r hr a e ha, Option.bind_some, ck_pos _ rfl]
end
structure Goes (r : List UInt8) (a e : Int) (x : RdS) : Prop where
  at0 : 0 ≤ a ∧ a ≤ (r.length : Int)
  rest : x.1 = r.drop a.toNat
  place : x.2.1 = a
  err : x.2.2.1 = e
  wher : e ≠ 0 → x.2.2.2 = a
theorem Goes.len {r : List UInt8} {a e : Int} {x : RdS} (h : Goes r a e x) : (x.1.length : Int) = (r.length : Int) - a := by
  have := h.at0; rw [h.rest, List.length_drop]; omega
theorem Goes.fail {r : List UInt8} {a : Int} {x : RdS} (h : Goes r a 0 x) (e w : Int) (hw : w = a) : Goes r a e (x.1, x.2.1, e, w) := ⟨h.at0, h.rest, h.place, rfl, fun _ => hw⟩
theorem Goes.on {r : List UInt8} {a : Int} {x : RdS} (h : Goes r a 0 x) (c : Nat) (hc : c ≤ x.1.length) : Goes r (a + c) 0 (x.1.drop c, x.2.1 + c, 0, x.2.2.2) := by
  have h0 := h.at0; have hl := h.len
  refine ⟨by omega, ?_, by rw [h.place], rfl, fun hne => absurd rfl hne⟩
  show x.1.drop c = r.drop (a + (c : Int)).toNat
  rw [h.rest, List.drop_drop]; congr 1; omega
theorem goes_num {r : List UInt8} {a e : Int} {x : RdS} (h : Goes r a e x) (c : Nat) (most : Int) : (takeL x c most).2 = (pNum r a e c most 7).1 ∧ Goes r (pNum r a e c most 7).2.1 (pNum r a e c most 7).2.2 (takeL x c most).1 := by
  unfold takeL pNum stepP
  rw [h.err]
  by_cases he : e = 0
  · subst he
    rw [if_neg (show ¬ (0 : Int) ≠ 0 by decide), if_neg (show ¬ (0 : Int) ≠ 0 by decide), ← h.rest]
    unfold firstNum
    by_cases h1 : x.1.length < c
    · rw [if_pos h1, if_pos h1, if_pos (show (3 : Int) ≠ 0 by decide)]
      exact ⟨rfl, h.fail 3 _ h.place⟩
    · rw [if_neg h1, if_neg h1]
      by_cases h2 : ((numU (x.1.take c) : Nat) : Int) > most
      · rw [if_pos h2, if_pos h2, if_pos (show (7 : Int) ≠ 0 by decide)]
        exact ⟨rfl, h.fail 7 _ h.place⟩
      · rw [if_neg h2, if_neg h2, if_neg (show ¬ (0 : Int) ≠ 0 by decide)]
        exact ⟨rfl, h.on c (by omega)⟩
  · rw [if_pos he, if_pos he]
    exact ⟨rfl, h⟩
theorem take_byte (c : UInt8) (t : List UInt8) (a w : Int) : takeL (c :: t, a, 0, w) 1 255 = ((t, a + 1, 0, w), ((c.toNat : Nat) : Int)) := by
  have h := c.toNat_lt
  unfold takeL
  simp only
  rw [if_neg (show ¬ (0 : Int) ≠ 0 by decide), if_neg (by rw [List.length_cons]; omega)]
  have e : numU ((c :: t).take 1) = c.toNat := by simp [numU]
  rw [e, if_neg (by omega)]; rfl
theorem Goes.eq {r : List UInt8} {a e : Int} {x : RdS} (h : Goes r a e x) : x = (r.drop a.toNat, a, e, x.2.2.2) := by
  obtain ⟨x1, x2, x3, x4⟩ := x
  have h1 := h.rest; have h2 := h.place; have h3 := h.err
  simp only at h1 h2 h3
  rw [h1, h2, h3]
theorem goes_row {r : List UInt8} {a e : Int} {x : RdS} (h : Goes r a e x) : (rowL x).2 = (pRow r a e).1 ∧ Goes r (pRow r a e).2.1 (pRow r a e).2.2 (rowL x).1 := by
  unfold pRow stepP
  by_cases he : e = 0
  · subst he
    rw [if_neg (show ¬ (0 : Int) ≠ 0 by decide)]
    have hx := h.eq
    rw [hx] at h
    rw [hx]
    generalize x.2.2.2 = w at h
    cases hb : r.drop a.toNat with
    | nil =>
      rw [hb] at h
      have ht := take_short [] 1 255 a w (by decide)
      unfold rowL firstRow
      simp only
      rw [ht, if_neg (show ¬ (0 : Int) ≠ 0 by decide), if_pos (show (3 : Int) ≠ 0 by decide), if_pos (show (3 : Int) ≠ 0 by decide)]
      exact ⟨rfl, h.fail 3 _ rfl⟩
    | cons c t =>
      rw [hb] at h
      have hc := c.toNat_lt
      unfold rowL firstRow
      simp only
      rw [take_byte]
      simp only
      rw [if_neg (show ¬ (0 : Int) ≠ 0 by decide), if_neg (show ¬ (0 : Int) ≠ 0 by decide), Int.toNat_natCast]
      by_cases h1 : c.toNat < 1 ∨ c.toNat > 128
      · rw [if_pos (by omega), if_pos h1, if_pos (show (9 : Int) ≠ 0 by decide)]
        exact ⟨rfl, h.fail 9 _ rfl⟩
      · rw [if_neg (by omega), if_neg h1]
        by_cases h2 : t.length < (c.toNat + 7) / 8
        · rw [if_pos h2, if_pos h2, if_pos (show (3 : Int) ≠ 0 by decide)]
          exact ⟨rfl, h.fail 3 _ rfl⟩
        · rw [if_neg h2, if_neg h2]
          by_cases h3 : 2 ^ c.toNat ≤ numU (t.take ((c.toNat + 7) / 8))
          · rw [if_pos h3, if_pos h3, if_pos (show (4 : Int) ≠ 0 by decide)]
            exact ⟨rfl, h.fail 4 _ rfl⟩
          · rw [if_neg h3, if_neg h3, if_neg (show ¬ (0 : Int) ≠ 0 by decide)]
            refine ⟨rfl, ?_⟩
            have h4 := h.on (1 + (c.toNat + 7) / 8) (by rw [List.length_cons]; omega)
            have e1 : (c :: t).drop (1 + (c.toNat + 7) / 8) = t.drop ((c.toNat + 7) / 8) := by rw [Nat.add_comm]; rfl
            simp only at h4
            rw [e1] at h4
            have e2 : a + 1 + (((c.toNat + 7) / 8 : Nat) : Int) = a + ((1 + (c.toNat + 7) / 8 : Nat) : Int) := by omega
            rw [e2]; exact h4
  · rw [if_pos he]
    have hx : x.2.2.1 ≠ 0 := by rw [h.err]; exact he
    unfold rowL
    rw [if_pos hx]
    exact ⟨rfl, h⟩
theorem goes_name {r : List UInt8} {a e : Int} {x : RdS} (h : Goes r a e x) : (nameL x).2 = (pName r a e).1 ∧ Goes r (pName r a e).2.1 (pName r a e).2.2 (nameL x).1 := by
  unfold pName stepP
  by_cases he : e = 0
  · subst he
    rw [if_neg (show ¬ (0 : Int) ≠ 0 by decide)]
    have hx := h.eq
    rw [hx] at h
    rw [hx]
    generalize x.2.2.2 = w at h
    cases hb : r.drop a.toNat with
    | nil =>
      rw [hb] at h
      have ht := take_short [] 1 255 a w (by decide)
      unfold nameL firstName
      simp only
      rw [ht, if_neg (show ¬ (0 : Int) ≠ 0 by decide), if_pos (show (3 : Int) ≠ 0 by decide), if_pos (show (3 : Int) ≠ 0 by decide)]
      exact ⟨rfl, h.fail 3 _ rfl⟩
    | cons c t =>
      rw [hb] at h
      have hc := c.toNat_lt
      unfold nameL firstName
      simp only
      rw [take_byte]
      simp only
      rw [if_neg (show ¬ (0 : Int) ≠ 0 by decide), if_neg (show ¬ (0 : Int) ≠ 0 by decide), Int.toNat_natCast]
      by_cases h2 : t.length < c.toNat
      · rw [if_pos h2, if_pos h2, if_pos (show (3 : Int) ≠ 0 by decide)]
        exact ⟨rfl, h.fail 3 _ rfl⟩
      · rw [if_neg h2, if_neg h2]
        by_cases h3 : mayL (runesL (t.take c.toNat)) = true
        · rw [if_pos h3, if_pos h3, if_neg (show ¬ (0 : Int) ≠ 0 by decide)]
          refine ⟨rfl, ?_⟩
          have h4 := h.on (1 + c.toNat) (by rw [List.length_cons]; omega)
          have e1 : (c :: t).drop (1 + c.toNat) = t.drop c.toNat := by rw [Nat.add_comm]; rfl
          simp only at h4
          rw [e1] at h4
          have e2 : a + 1 + ((c.toNat : Nat) : Int) = a + ((1 + c.toNat : Nat) : Int) := by omega
          rw [e2]; exact h4
        · rw [if_neg h3, if_neg h3, if_pos (show (4 : Int) ≠ 0 by decide)]
          exact ⟨rfl, h.fail 4 _ rfl⟩
  · rw [if_pos he]
    have hx : x.2.2.1 ≠ 0 := by rw [h.err]; exact he
    unfold nameL
    rw [if_pos hx]
    exact ⟨rfl, h⟩
end Go.Proofs.Ytdgejbbelmhbdaa
