/- Layer 7: what was written is read again. Conditions: fuel, the cut an int of 64 bits. -/
import Derived.Test.YtdgejbbelmhbdaaWd
import Derived.Test.YtdgejbbelmhbdaaLWireBack
namespace Go.Proofs.Ytdgejbbelmhbdaa
open Go Go.RowKit Go.Eng
/-- the two readers' places: the first is right, the second goes with it or has met the end -/
structure Two (b : List UInt8) (cut : Nat) (a a2 e2 : Int) (rest : List UInt8) : Prop where
  at0 : 0 ≤ a ∧ a ≤ (b.length : Int)
  drop : b.drop a.toNat = rest
  at2 : 0 ≤ a2 ∧ a2 ≤ ((b.take cut).length : Int)
  or : (e2 = 0 ∧ a2 = a) ∨ (e2 = 3 ∧ cut < b.length)
theorem step_two {α : Type} (F : RdS → RdS × α) (p : List UInt8 → Int → Int → α × Int × Int)
    (hgo : ∀ {r : List UInt8} {a e : Int} {x : RdS}, Goes r a e x → (F x).2 = (p r a e).1 ∧ Goes r (p r a e).2.1 (p r a e).2.2 (F x).1) (B : List UInt8) (v : α)
    (full : ∀ (rest : List UInt8) (a w : Int), F (B ++ rest, a, 0, w) = ((rest, a + (B.length : Int), 0, w), v))
    (short : ∀ (c : Nat) (rest : List UInt8) (a w : Int), c < B.length → (F ((B ++ rest).take c, a, 0, w)).1.2.2.1 = 3)
    (bad : ∀ (b : List UInt8) (a e w : Int), e ≠ 0 → (F (b, a, e, w)).1 = (b, a, e, w))
    {b : List UInt8} {cut : Nat} {a a2 e2 : Int} {rest : List UInt8} (h : Two b cut a a2 e2 (B ++ rest)) :
    (p b a 0).1 = v ∧ (p b a 0).2.2 = 0 ∧ Two b cut (p b a 0).2.1 (p (b.take cut) a2 e2).2.1 (p (b.take cut) a2 e2).2.2 rest := by
  have ha := h.at0
  obtain ⟨h1, h2⟩ := hgo (Goes.self ha 0)
  rw [h.drop, full rest a a] at h1 h2
  have hp1 := h2.place; have he1 := h2.err; have hr1 := h2.rest; have ha1 := h2.at0
  simp only at hp1 he1 hr1
  have hB : B.length ≤ b.length - a.toNat := by
    have := congrArg List.length h.drop
    rw [List.length_drop, List.length_append] at this; omega
  obtain ⟨h3, h4⟩ := hgo (Goes.self h.at2 e2)
  refine ⟨h1.symm, he1.symm, ⟨by rw [← hp1]; exact ⟨by omega, by omega⟩, hr1.symm, h4.at0, ?_⟩⟩
  rcases h.or with ⟨rfl, rfl⟩ | ⟨rfl, hc⟩
  · have hc2 := h.at2
    have hl : (b.take cut).length = min cut b.length := List.length_take
    have hd : (b.take cut).drop a2.toNat = (B ++ rest).take (cut - a2.toNat) := by rw [List.drop_take, h.drop]
    rw [hd] at h4
    by_cases hm : cut - a2.toNat < B.length
    · right
      have := h4.err
      rw [short _ _ _ _ hm] at this
      exact ⟨this.symm, by omega⟩
    · left
      have e1 : (B ++ rest).take (cut - a2.toNat) = B ++ rest.take (cut - a2.toNat - B.length) := by
        rw [List.take_append, List.take_of_length_le (by omega)]
      rw [e1, full] at h4
      have h5 := h4.place; have h6 := h4.err
      simp only at h5 h6
      exact ⟨h6.symm, by rw [← h5, ← hp1]⟩
  · right
    have := h4.err
    rw [bad _ _ _ _ (by decide)] at this
    exact ⟨this.symm, hc⟩
theorem two_num {n : Int} {size : Nat} (hs : size = 1 ∨ size = 2 ∨ size = 4) (h0 : 0 ≤ n) (hn : n < 256 ^ size) {most : Int} (hm : n ≤ most) {b : List UInt8} {cut : Nat} {a a2 e2 : Int} {rest : List UInt8} (h : Two b cut a a2 e2 (numB n size ++ rest)) :
    (pNum b a 0 size most 7).1 = n ∧ (pNum b a 0 size most 7).2.2 = 0 ∧ Two b cut (pNum b a 0 size most 7).2.1 (pNum (b.take cut) a2 e2 size most 7).2.1 (pNum (b.take cut) a2 e2 size most 7).2.2 rest :=
  step_two (fun x => takeL x size most) (fun r a e => pNum r a e size most 7) (fun h => goes_num h size most) (numB n size) n
    (fun rest a w => by rw [numB_len n size hs]; exact take_num n size hs h0 hn most hm rest a w)
    (fun c rest a w hc => by
      rw [numB_len n size hs] at hc
      show (takeL ((numB n size ++ rest).take c, a, 0, w) size most).1.2.2.1 = 3
      rw [take_short _ size most a w (by rw [List.length_take]; omega)])
    (fun b a e w he => by show (takeL (b, a, e, w) size most).1 = _; rw [take_bad b size most a e w he]) h
theorem two_row {w : Int} {x : BitVec 128} (hw : mayB w x = true) {b : List UInt8} {cut : Nat} {a a2 e2 : Int} {rest : List UInt8} (h : Two b cut a a2 e2 (vecB w x ++ rest)) :
    (pRow b a 0).1 = (w, x) ∧ (pRow b a 0).2.2 = 0 ∧ Two b cut (pRow b a 0).2.1 (pRow (b.take cut) a2 e2).2.1 (pRow (b.take cut) a2 e2).2.2 rest :=
  step_two rowL pRow goes_row (vecB w x) (w, x)
    (fun rest a e => by rw [vecB_len]; exact row_back hw rest a e)
    (fun c rest a e hc => by obtain ⟨r, h1, h2⟩ := row_short hw c rest hc a e; rw [h1]; exact h2)
    (fun b a e w he => by rw [row_bad b a e w he]) h
theorem two_name {s : List UInt8} (hs : mayL (runesL s) = true) {b : List UInt8} {cut : Nat} {a a2 e2 : Int} {rest : List UInt8} (h : Two b cut a a2 e2 (textB s ++ rest)) :
    (pName b a 0).1 = s ∧ (pName b a 0).2.2 = 0 ∧ Two b cut (pName b a 0).2.1 (pName (b.take cut) a2 e2).2.1 (pName (b.take cut) a2 e2).2.2 rest := by
  have hl := may_len hs
  have ht : (textB s).length = 1 + s.length := by unfold textB; rw [if_neg (by omega), List.length_cons]; omega
  exact step_two nameL pName goes_name (textB s) s
    (fun rest a e => by rw [ht]; exact name_back hs rest a e)
    (fun c rest a e hc => by obtain ⟨r, h1, h2⟩ := name_short hs c rest hc a e; rw [h1]; exact h2)
    (fun b a e w he => by rw [name_bad b a e w he]) h
abbrev DoneL := Int × Int × Int × Int × Int × (BitVec 128) × (List UInt8)
def outD (d : DoneL) : List UInt8 := if d.1 = 0 then numB d.2.1 1 else if d.1 = 1 then numB d.2.1 2 else if d.1 = 2 then numB d.2.1 4 else if d.1 = 3 then vecB d.2.2.2.2.1 d.2.2.2.2.2.1 else textB d.2.2.2.2.2.2
def FitsD (d : DoneL) : Prop := (d.1 = 0 ∧ 0 ≤ d.2.1 ∧ d.2.1 < 256) ∨ (d.1 = 1 ∧ 0 ≤ d.2.1 ∧ d.2.1 < 65536) ∨ (d.1 = 2 ∧ 0 ≤ d.2.1 ∧ d.2.1 < 4294967296) ∨ (d.1 = 3 ∧ mayB d.2.2.2.2.1 d.2.2.2.2.2.1 = true) ∨ (d.1 = 4 ∧ mayL (runesL d.2.2.2.2.2.2) = true)
theorem whole_s (N : Nat) (hN : 2000 < N) (b : List UInt8) (hb : b.length ≤ 1000000) (cut : Int) (done : List DoneL) (hd : ∀ d ∈ done, FitsD d) (hdl : done.length ≤ 30) (cn : Nat) (hcn : (cn : Int) = max 0 (min cut (b.length : Int))) : ∀ (k f i : Nat) (a a2 e2 : Int), i + k = done.length → k < f → Two b cn a a2 e2 ((done.drop i).flatMap outD) →
    shunterlaw07_WireBack_l13 N cut b done f (i : Int) b a 0 (b.take cn) a2 e2 = some true := by
  have htl : (b.take cn).length ≤ 1000000 := by rw [List.length_take]; omega
  intro k
  induction k with
  | zero =>
    intro f i a a2 e2 hi hf h
    obtain ⟨f, rfl⟩ : ∃ n, f = n + 1 := ⟨f - 1, by omega⟩
    have ha := h.at0; have ha2 := h.at2
    have hd0 := h.drop
    rw [show done.drop i = [] from List.drop_of_length_le (by omega), List.flatMap_nil] at hd0
    have hal : a = (b.length : Int) := by
      have := congrArg List.length hd0
      rw [List.length_drop, List.length_nil] at this; omega
    have hEr : wire_Reader_End_v1_m N b a 0 = some .nil := by
      rw [end_s N b hb a 0 ha, if_neg (show ¬ (0 : Int) ≠ 0 by decide), if_neg (by omega)]
    have hLr : wire_Reader_Left_v1_m N b a 0 = some 0 := by
      unfold wire_Reader_Left_v1_m
      rw [ck_pos _ (by omega)]; congr 1; omega
    have hl : (b.take cn).length = min cn b.length := List.length_take
    rw [shunterlaw07_WireBack_l13, if_neg (by omega)]
    rcases h.or with ⟨rfl, rfl⟩ | ⟨rfl, hc⟩
    · have hw : max 0 cut ≥ (b.length : Int) := by omega
      have hEs : wire_Reader_End_v1_m N (b.take cn) a2 0 = some .nil := by
        rw [end_s N _ htl a2 0 ha2, if_neg (show ¬ (0 : Int) ≠ 0 by decide), if_neg (by omega)]
      rw [hEs, Option.bind_some]
      simp only [Sum46.on, wire_Why_v1_m, Option.bind_some, hEr, hLr]
      rw [if_pos trivial, if_pos (by rw [decide_eq_true hw]; rfl), if_pos hw, lives_s N (by omega)]; rfl
    · have hw : ¬ max 0 cut ≥ (b.length : Int) := by omega
      have hEs : wire_Reader_End_v1_m N (b.take cn) a2 3 = some (.t80 3 a2) := by
        rw [end_s N _ htl a2 3 ha2, if_pos (show (3 : Int) ≠ 0 by decide)]
      rw [hEs, Option.bind_some]
      simp only [Sum46.on, wire_Why_v2_m, wire_asFault_v1_m, Option.bind_some, if_true, hEr, hLr]
      rw [if_pos (by rw [decide_eq_false hw]; rfl), if_neg hw, lives_s N (by omega)]; rfl
  | succ k ih =>
    intro f i a a2 e2 hi hf h
    obtain ⟨f, rfl⟩ : ∃ n, f = n + 1 := ⟨f - 1, by omega⟩
    have ha := h.at0; have ha2 := h.at2
    have hlt : i < done.length := by omega
    have hF : FitsD (done[i]!) := by rw [get!_of_lt _ _ hlt]; exact hd _ (List.getElem_mem _)
    rw [drop_get done i hlt, List.flatMap_cons] at h
    rw [shunterlaw07_WireBack_l13, if_pos (by omega), ck_pos _ (by omega), Int.toNat_natCast]
    generalize done[i]! = d at hF h ⊢
    unfold outD at h
    rcases hF with ⟨h0, h1, h2⟩ | ⟨h0, h1, h2⟩ | ⟨h0, h1, h2⟩ | ⟨h0, h1⟩ | ⟨h0, h1⟩
    · rw [if_pos h0] at h
      obtain ⟨g1, g2, g3⟩ := two_num (.inl rfl) h1 h2 (most := 255) (by omega) h
      rw [if_pos h0, rByte_s N (by omega) b (by omega) a 0 ha, Option.bind_some, ck_pos _ rfl, rByte_s N (by omega) _ (by omega) a2 e2 ha2, Option.bind_some, ck_pos _ rfl, if_pos g1, ck_pos _ (by omega), g2, show (i : Int) + 1 = ((i + 1 : Nat) : Int) from by omega]
      exact ih f (i + 1) _ _ _ (by omega) (by omega) g3
    · rw [if_neg (by omega), if_pos h0] at h
      obtain ⟨g1, g2, g3⟩ := two_num (.inr (.inl rfl)) h1 h2 (most := 65535) (by omega) h
      rw [if_neg (by omega), if_pos h0, rTwo_s N (by omega) b (by omega) a 0 ha, Option.bind_some, ck_pos _ rfl, rTwo_s N (by omega) _ (by omega) a2 e2 ha2, Option.bind_some, ck_pos _ rfl, if_pos g1, ck_pos _ (by omega), g2, show (i : Int) + 1 = ((i + 1 : Nat) : Int) from by omega]
      exact ih f (i + 1) _ _ _ (by omega) (by omega) g3
    · rw [if_neg (by omega), if_neg (by omega), if_pos h0] at h
      obtain ⟨g1, g2, g3⟩ := two_num (.inr (.inr rfl)) h1 h2 (most := 4294967295) (by omega) h
      rw [if_neg (by omega), if_neg (by omega), if_pos h0, rFour_s N (by omega) b (by omega) a 0 ha, Option.bind_some, ck_pos _ rfl, rFour_s N (by omega) _ (by omega) a2 e2 ha2, Option.bind_some, ck_pos _ rfl, if_pos g1, ck_pos _ (by omega), g2, show (i : Int) + 1 = ((i + 1 : Nat) : Int) from by omega]
      exact ih f (i + 1) _ _ _ (by omega) (by omega) g3
    · rw [if_neg (by omega), if_neg (by omega), if_neg (by omega), if_pos h0] at h
      obtain ⟨g1, g2, g3⟩ := two_row h1 h
      have e1 : (pRow b a 0).1.1 = d.2.2.2.2.1 := congrArg Prod.fst g1
      have e2' : (pRow b a 0).1.2 = d.2.2.2.2.2.1 := congrArg Prod.snd g1
      rw [if_neg (by omega), if_neg (by omega), if_neg (by omega), if_pos h0, rVec_s N (by omega) b (by omega) a 0 ha, Option.bind_some, ck_pos _ rfl, rVec_s N (by omega) _ (by omega) a2 e2 ha2, Option.bind_some, ck_pos _ rfl, e1, e2', beq_self_eq_true, beq_self_eq_true, Bool.and_self, if_pos rfl, ck_pos _ (by omega), g2, show (i : Int) + 1 = ((i + 1 : Nat) : Int) from by omega]
      exact ih f (i + 1) _ _ _ (by omega) (by omega) g3
    · rw [if_neg (by omega), if_neg (by omega), if_neg (by omega), if_neg (by omega)] at h
      obtain ⟨g1, g2, g3⟩ := two_name h1 h
      rw [if_neg (by omega), if_neg (by omega), if_neg (by omega), if_neg (by omega), rName_s N (by omega) b (by omega) a 0 ha, Option.bind_some, ck_pos _ rfl, rName_s N (by omega) _ (by omega) a2 e2 ha2, Option.bind_some, ck_pos _ rfl, if_pos g1, ck_pos _ (by omega), g2, show (i : Int) + 1 = ((i + 1 : Nat) : Int) from by omega]
      exact ih f (i + 1) _ _ _ (by omega) (by omega) g3
def dn (o : OpL) : DoneL := (o.1, o.2.1, 255, 255, o.2.2.2.2.1, o.2.2.2.2.2.1, o.2.2.2.2.2.2.1)
theorem outD_dn (o : OpL) (h : FitsD (dn o)) : outB o = outD (dn o) := by
  obtain ⟨o0, o1, o2, o3, o4, o5, o6, o7, o8⟩ := o
  unfold FitsD dn at h
  simp only at h
  unfold outB outD dn
  simp only
  rcases h with ⟨h0, _⟩ | ⟨h0, _⟩ | ⟨h0, _⟩ | ⟨h0, h1⟩ | ⟨h0, h1⟩
  · rw [if_pos h0, if_pos h0]
  · rw [if_neg (by omega), if_pos h0, if_neg (by omega), if_pos h0]
  · rw [if_neg (by omega), if_neg (by omega), if_pos h0, if_neg (by omega), if_neg (by omega), if_pos h0]
  · rw [if_neg (by omega), if_neg (by omega), if_neg (by omega), if_pos h0, if_neg (by omega), if_neg (by omega), if_neg (by omega), if_pos h0]
    unfold rowB; rw [if_pos h1]
  · rw [if_neg (by omega), if_neg (by omega), if_neg (by omega), if_neg (by omega), if_pos h0, if_neg (by omega), if_neg (by omega), if_neg (by omega), if_neg (by omega)]
theorem FitsD.kind {d : DoneL} (h : FitsD d) : 0 ≤ d.1 ∧ d.1 ≤ 6 := by
  rcases h with ⟨h0, _⟩ | ⟨h0, _⟩ | ⟨h0, _⟩ | ⟨h0, _⟩ | ⟨h0, _⟩ <;> omega
theorem k6b_s (N : Nat) (hN : 2000 < N) (ops : List OpL) (b : List UInt8) (hb : b.length ≤ 500000) (done : List DoneL) (hdl : done.length ≤ 30) (i : Nat) (hi : i ≤ 30) (rec : List UInt8 → List DoneL → Int → Option Bool) (hL : Light (ops[i]!)) (fits : Bool) (hf : fits = true → FitsD (dn (ops[i]!))) :
    shunterlaw07_WireBack_k6 N ops b done (i : Int) rec fits = if fits = true then rec (b ++ outD (dn (ops[i]!))) (done ++ [dn (ops[i]!)]) ((i + 1 : Nat) : Int) else rec b done ((i + 1 : Nat) : Int) := by
  unfold shunterlaw07_WireBack_k6
  have ei : (i : Int) + 1 = ((i + 1 : Nat) : Int) := by omega
  by_cases h : fits = true
  · have hF := hf h
    rw [if_pos h, if_pos h, Int.toNat_natCast, write_s N (by omega) b (by omega) (ops[i]!) hL, Option.bind_some]
    have hk : 0 ≤ (ops[i]!).1 ∧ (ops[i]!).1 ≤ 6 := hF.kind
    simp only
    rw [if_pos hk]
    simp only [SumRow5.on]
    rw [ck_pos _ (by simp only [List.length_singleton]; omega), ck_pos _ (by omega), ei, outD_dn _ hF]; rfl
  · rw [if_neg h, if_neg h, ck_pos _ (by omega), ei]
theorem fits_s (N : Nat) (hN : 2000 < N) (o : OpL) (hL : Light o) (K : Bool → Option Bool) (E : Option Bool)
    (hE : E = (ck ((0 : Int) ≤ ((BitVec.ofInt 64 (max (0) (min (o.1) (2)))).toNat : Int)) (if (o.1 : Int) ≥ 0 then if (o.1 : Int) ≤ 2 then if (o.2.1 : Int) ≥ 0 then ck ((-9223372036854775808 ≤ (8 * (shlI (1 : Int) (((BitVec.ofInt 64 (max (0) (min (o.1) (2)))).toNat : Int)).toNat)) ∧ (8 * (shlI (1 : Int) (((BitVec.ofInt 64 (max (0) (min (o.1) (2)))).toNat : Int)).toNat)) ≤ 9223372036854775807)) (ck ((0 : Int) ≤ ((BitVec.ofInt 64 ((8 * (shlI (1 : Int) (((BitVec.ofInt 64 (max (0) (min (o.1) (2)))).toNat : Int)).toNat)))).toNat : Int)) (if (o.2.1 : Int) < (shlI (1 : Int) (((BitVec.ofInt 64 ((8 * (shlI (1 : Int) (((BitVec.ofInt 64 (max (0) (min (o.1) (2)))).toNat : Int)).toNat)))).toNat : Int)).toNat) then K true else if (o.1 : Int) = 3 then (shunterref02_May_m N (o.2.2.2.2.1) (o.2.2.2.2.2.1)).bind fun r110 => if (r110) = true then K true else if (o.1 : Int) = 4 then (shunterref05_May_m N (o.2.2.2.2.2.2.1)).bind fun r114 => K r114 else K false else if (o.1 : Int) = 4 then (shunterref05_May_m N (o.2.2.2.2.2.2.1)).bind fun r108 => K r108 else K false)) else if (o.1 : Int) = 3 then (shunterref02_May_m N (o.2.2.2.2.1) (o.2.2.2.2.2.1)).bind fun r97 => if (r97) = true then K true else if (o.1 : Int) = 4 then (shunterref05_May_m N (o.2.2.2.2.2.2.1)).bind fun r101 => K r101 else K false else if (o.1 : Int) = 4 then (shunterref05_May_m N (o.2.2.2.2.2.2.1)).bind fun r95 => K r95 else K false else if (o.1 : Int) = 3 then (shunterref02_May_m N (o.2.2.2.2.1) (o.2.2.2.2.2.1)).bind fun r86 => if (r86) = true then K true else if (o.1 : Int) = 4 then (shunterref05_May_m N (o.2.2.2.2.2.2.1)).bind fun r90 => K r90 else K false else if (o.1 : Int) = 4 then (shunterref05_May_m N (o.2.2.2.2.2.2.1)).bind fun r84 => K r84 else K false else if (o.1 : Int) = 3 then (shunterref02_May_m N (o.2.2.2.2.1) (o.2.2.2.2.2.1)).bind fun r75 => if (r75) = true then K true else if (o.1 : Int) = 4 then (shunterref05_May_m N (o.2.2.2.2.2.2.1)).bind fun r79 => K r79 else K false else if (o.1 : Int) = 4 then (shunterref05_May_m N (o.2.2.2.2.2.2.1)).bind fun r73 => K r73 else K false))) :
    ∃ fits : Bool, E = K fits ∧ (fits = true → FitsD (dn o)) := by
  subst hE
  obtain ⟨o0, o1, o2, o3, o4, o5, o6, o7, o8⟩ := o
  have hs : o6.length ≤ 600 := hL.2.2
  unfold FitsD dn
  simp only
  rw [ck_pos _ (by omega)]
  by_cases c : o0 ≥ 0
  · rw [if_pos c]
    by_cases c2 : o0 ≤ 2
    · rw [if_pos c2]
      by_cases c3 : o1 ≥ 0
      · rw [if_pos c3]
        rcases (by omega : o0 = 0 ∨ o0 = 1 ∨ o0 = 2) with rfl | rfl | rfl
        · rw [ck_pos _ (by decide), ck_pos _ (by omega)]
          by_cases c4 : o1 < 256
          · exact ⟨true, if_pos c4, fun _ => .inl ⟨rfl, c3, c4⟩⟩
          · exact ⟨false, by rw [if_neg (show ¬ o1 < shlI (1 : Int) (((BitVec.ofInt 64 ((8 * (shlI (1 : Int) (((BitVec.ofInt 64 (max (0) (min (0) (2)))).toNat : Int)).toNat)))).toNat : Int)).toNat from c4), if_neg (by decide), if_neg (by decide)], fun h => nomatch h⟩
        · rw [ck_pos _ (by decide), ck_pos _ (by omega)]
          by_cases c4 : o1 < 65536
          · exact ⟨true, if_pos c4, fun _ => .inr (.inl ⟨rfl, c3, c4⟩)⟩
          · exact ⟨false, by rw [if_neg (show ¬ o1 < shlI (1 : Int) (((BitVec.ofInt 64 ((8 * (shlI (1 : Int) (((BitVec.ofInt 64 (max (0) (min (1) (2)))).toNat : Int)).toNat)))).toNat : Int)).toNat from c4), if_neg (by decide), if_neg (by decide)], fun h => nomatch h⟩
        · rw [ck_pos _ (by decide), ck_pos _ (by omega)]
          by_cases c4 : o1 < 4294967296
          · exact ⟨true, if_pos c4, fun _ => .inr (.inr (.inl ⟨rfl, c3, c4⟩))⟩
          · exact ⟨false, by rw [if_neg (show ¬ o1 < shlI (1 : Int) (((BitVec.ofInt 64 ((8 * (shlI (1 : Int) (((BitVec.ofInt 64 (max (0) (min (2) (2)))).toNat : Int)).toNat)))).toNat : Int)).toNat from c4), if_neg (by decide), if_neg (by decide)], fun h => nomatch h⟩
      · exact ⟨false, by rw [if_neg c3, if_neg (by omega), if_neg (by omega)], fun h => nomatch h⟩
    · rw [if_neg c2]
      by_cases c5 : o0 = 3
      · rw [if_pos c5, rmay_s, Option.bind_some]
        by_cases c6 : mayB o4 o5 = true
        · exact ⟨true, if_pos c6, fun _ => .inr (.inr (.inr (.inl ⟨c5, c6⟩)))⟩
        · exact ⟨false, by rw [if_neg c6, if_neg (by omega)], fun h => nomatch h⟩
      · rw [if_neg c5]
        by_cases c7 : o0 = 4
        · rw [if_pos c7, refmay_s N _ (by omega) (by omega), Option.bind_some]
          exact ⟨_, rfl, fun h => .inr (.inr (.inr (.inr ⟨c7, h⟩)))⟩
        · exact ⟨false, if_neg c7, fun h => nomatch h⟩
  · exact ⟨false, by rw [if_neg c, if_neg (by omega), if_neg (by omega)], fun h => nomatch h⟩
theorem back_loop (N : Nat) (hN : 2000 < N) (ops : List OpL) (hl : ops.length ≤ 30) (ho : ∀ o ∈ ops, Light o) (cut : Int) : ∀ (k f i : Nat) (b : List UInt8) (done : List DoneL), i + k = ops.length → k < f → b.length ≤ 6000 * i → done.length ≤ i → b = done.flatMap outD → (∀ d ∈ done, FitsD d) → shunterlaw07_WireBack_l4 N ops cut f b done (i : Int) = some true := by
  intro k
  induction k with
  | zero =>
    intro f i b done hi hf hb hdl hbd hd
    obtain ⟨f, rfl⟩ : ∃ n, f = n + 1 := ⟨f - 1, by omega⟩
    obtain ⟨cn, hcn⟩ : ∃ cn : Nat, (cn : Int) = max 0 (min cut (b.length : Int)) := ⟨(max 0 (min cut (b.length : Int))).toNat, by omega⟩
    rw [shunterlaw07_WireBack_l4, if_neg (by omega), read_s N b (by omega), Option.bind_some, ck_pos _ (by omega), ← hcn, Int.toNat_natCast, List.drop_zero, read_s N _ (by rw [List.length_take]; omega), Option.bind_some]
    unfold shunterlaw07_WireBack_k7
    refine whole_s N hN b (by omega) cut done hd (by omega) cn hcn done.length N 0 0 0 0 (by omega) (by omega) ⟨⟨Int.le_refl _, by omega⟩, ?_, ⟨Int.le_refl _, by omega⟩, .inl ⟨rfl, rfl⟩⟩
    rw [List.drop_zero, ← hbd]; rfl
  | succ k ih =>
    intro f i b done hi hf hb hdl hbd hd
    obtain ⟨f, rfl⟩ : ∃ n, f = n + 1 := ⟨f - 1, by omega⟩
    have hlt : i < ops.length := by omega
    have hL : Light (ops[i]!) := by rw [get!_of_lt _ _ hlt]; exact ho _ (List.getElem_mem _)
    have hO := outB_len _ hL
    rw [shunterlaw07_WireBack_l4, if_pos (by omega), ck_pos _ (by omega)]
    obtain ⟨fits, h1, h2⟩ := fits_s N hN (ops[i]!) hL (fun fits => shunterlaw07_WireBack_k6 N ops b done (i : Int) (shunterlaw07_WireBack_l4 N ops cut f) fits) _ rfl
    rw [Int.toNat_natCast, h1, k6b_s N hN ops b (by omega) done (by omega) i (by omega) _ hL fits h2]
    by_cases hfit : fits = true
    · have hF := h2 hfit
      rw [if_pos hfit]
      refine ih f (i + 1) _ _ (by omega) (by omega) (by rw [List.length_append, ← outD_dn _ hF]; omega) (by rw [List.length_append, List.length_singleton]; omega) (by rw [List.flatMap_append, ← hbd, List.flatMap_singleton]) (fun d hd' => ?_)
      rcases List.mem_append.1 hd' with hd' | hd'
      · exact hd d hd'
      · rw [List.mem_singleton] at hd'; rw [hd']; exact hF
    · rw [if_neg hfit]
      exact ih f (i + 1) b done (by omega) (by omega) (by omega) (by omega) hbd hd
theorem back_s (N : Nat) (hN : 2000 < N) (ops : List OpL) (cut : Int) (_ : -9223372036854775808 ≤ cut ∧ cut ≤ 9223372036854775807) : shunterlaw07_WireBack_m N ops cut = some true := by
  obtain ⟨v, h1, h2⟩ := light_s N (by omega) ops
  unfold shunterlaw07_WireBack_m
  rw [h1, Option.bind_some]
  by_cases hv : v = true
  · have hl := (h2 hv).1
    rw [if_pos hv]
    exact back_loop N hN ops hl (h2 hv).2 cut ops.length N 0 [] [] (by omega) (by omega) (by simp) (by simp) rfl (fun _ h => nomatch h)
  · rw [if_neg hv, lives_s N (by omega)]; rfl
end Go.Proofs.Ytdgejbbelmhbdaa
