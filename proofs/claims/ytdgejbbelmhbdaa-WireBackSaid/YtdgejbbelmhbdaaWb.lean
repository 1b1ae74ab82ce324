/- Layer 7 by definition: what was written is read again. Conditions: none but those written. -/
import Derived.Test.YtdgejbbelmhbdaaWa
namespace Go.Proofs.Ytdgejbbelmhbdaa
open Go Go.RowKit Go.Eng
theorem numU_num (n : Int) (size : Nat) (hs : size = 1 ∨ size = 2 ∨ size = 4) (h0 : 0 ≤ n) (h1 : n < 256 ^ size) : ((numU (numB n size) : Nat) : Int) = n := by
  rcases hs with rfl | rfl | rfl
  · show ((numU [byteI n] : Nat) : Int) = n
    simp only [numU, List.foldl_cons, List.foldl_nil, byteI_nat]
    omega
  · show ((numU [byteI (n / 256), byteI n] : Nat) : Int) = n
    simp only [numU, List.foldl_cons, List.foldl_nil, byteI_nat]
    omega
  · show ((numU [byteI (n / 16777216), byteI (n / 65536), byteI (n / 256), byteI n] : Nat) : Int) = n
    simp only [numU, List.foldl_cons, List.foldl_nil, byteI_nat]
    omega
theorem numB_len (n : Int) (size : Nat) (hs : size = 1 ∨ size = 2 ∨ size = 4) : (numB n size).length = size := by rcases hs with rfl | rfl | rfl <;> rfl
theorem take_num (n : Int) (size : Nat) (hs : size = 1 ∨ size = 2 ∨ size = 4) (h0 : 0 ≤ n) (h1 : n < 256 ^ size) (most : Int) (hm : n ≤ most) (rest : List UInt8) (a w : Int) :
    takeL (numB n size ++ rest, a, 0, w) size most = ((rest, a + size, 0, w), n) := by
  have hl := numB_len n size hs
  unfold takeL
  simp only
  rw [if_neg (by decide), if_neg (by rw [List.length_append, hl]; omega), List.take_left' hl, List.drop_left' hl, numU_num n size hs h0 h1, if_neg (by omega)]
theorem take_short (b : List UInt8) (size : Nat) (most a w : Int) (h : b.length < size) : takeL (b, a, 0, w) size most = ((b, a, 3, a), 0) := by
  unfold takeL
  simp only
  rw [if_neg (by decide), if_pos h]
theorem take_bad (b : List UInt8) (size : Nat) (most a e w : Int) (h : e ≠ 0) : takeL (b, a, e, w) size most = ((b, a, e, w), 0) := by
  unfold takeL
  simp only
  rw [if_pos h]
theorem bits_bytes (l : List Bool) (h : l.length % 8 = 0) : bitsB (bytesL l) = l := by
  have hl : (bitsB (bytesL l)).length = l.length := by rw [bitsB_len, bytesL_len]; omega
  apply List.ext_getElem hl
  intro i h1 h2
  have e1 := bitsB_get (bytesL l) i (by rw [bitsB_len] at h1; exact h1)
  rw [get!_of_lt _ _ h1] at e1
  rw [e1, bytesL_bit _ _ (by rw [bitsB_len] at h1; exact h1), get!_of_lt _ _ h2]
def padB (w : Int) (x : BitVec 128) : List Bool := List.replicate ((8 - w.toNat % 8) % 8) false ++ highB w x
theorem padB_len (w : Int) (x : BitVec 128) : (padB w x).length = 8 * ((w.toNat + 7) / 8) := by
  unfold padB
  rw [List.length_append, List.length_replicate, highB_len]; omega
theorem row_bytes {w : Int} {x : BitVec 128} (h : mayB w x = true) : numU (bytesL (padB w x)) < 2 ^ w.toNat ∧ BitVec.ofNat 128 (numU (bytesL (padB w x))) = x := by
  obtain ⟨h1, h2, _⟩ := may_w h
  have hl := padB_len w x
  have hb : (bytesL (padB w x)).length = (w.toNat + 7) / 8 := by rw [bytesL_len, hl]; omega
  have hbb : bitsB (bytesL (padB w x)) = padB w x := bits_bytes _ (by rw [hl]; omega)
  have hpad : 8 * ((w.toNat + 7) / 8) - w.toNat = (8 - w.toNat % 8) % 8 := by omega
  have ha := any_num (bytesL (padB w x)) w.toNat (by rw [hb]; omega)
  rw [hbb, hb, hpad] at ha
  have ht : (padB w x).take ((8 - w.toNat % 8) % 8) = List.replicate ((8 - w.toNat % 8) % 8) false := List.take_left' List.length_replicate
  rw [ht] at ha
  have hf : (List.replicate ((8 - w.toNat % 8) % 8) false).any id = false := by simp
  rw [hf] at ha
  have hlt : numU (bytesL (padB w x)) < 2 ^ w.toNat := Nat.lt_of_not_le (of_decide_eq_false ha.symm)
  refine ⟨hlt, ?_⟩
  have hv := vec_drop (bytesL (padB w x)) w.toNat (by rw [hb]; omega) (by omega) hlt
  rw [hbb, hb, hpad] at hv
  have hd : (padB w x).drop ((8 - w.toNat % 8) % 8) = highB w x := List.drop_left' List.length_replicate
  rw [hd, vec_high h] at hv
  exact hv.symm
theorem vecB_len (w : Int) (x : BitVec 128) : (vecB w x).length = 1 + (w.toNat + 7) / 8 := by
  show (byteI w :: bytesL (padB w x)).length = _
  rw [List.length_cons, bytesL_len, padB_len]; omega
theorem vecB_eq (w : Int) (x : BitVec 128) : vecB w x = numB w 1 ++ bytesL (padB w x) := rfl
theorem row_back {w : Int} {x : BitVec 128} (h : mayB w x = true) (rest : List UInt8) (a e : Int) : rowL (vecB w x ++ rest, a, 0, e) = ((rest, a + (1 + (w.toNat + 7) / 8 : Nat), 0, e), w, x) := by
  obtain ⟨h1, h2, _⟩ := may_w h
  obtain ⟨r1, r2⟩ := row_bytes h
  have hb : (bytesL (padB w x)).length = (w.toNat + 7) / 8 := by rw [bytesL_len, padB_len]; omega
  have ht := take_num w 1 (.inl rfl) (by omega) (by omega) 255 (by omega) (bytesL (padB w x) ++ rest) a e
  unfold rowL
  simp only
  rw [vecB_eq, List.append_assoc, ht]
  simp only
  rw [if_neg (by decide), if_neg (by decide), if_neg (by omega), if_neg (by rw [List.length_append, hb]; omega), List.take_left' hb, List.drop_left' hb, if_neg (by omega), r2]
  congr 2
  rw [Int.add_assoc]
  congr 2
theorem row_short {w : Int} {x : BitVec 128} (h : mayB w x = true) (c : Nat) (rest : List UInt8) (hc : c < (vecB w x).length) (a e : Int) : ∃ r : RdS, rowL ((vecB w x ++ rest).take c, a, 0, e) = (r, 0, 0#128) ∧ r.2.2.1 = 3 := by
  obtain ⟨h1, h2, _⟩ := may_w h
  have hb : (bytesL (padB w x)).length = (w.toNat + 7) / 8 := by rw [bytesL_len, padB_len]; omega
  rw [vecB_len] at hc
  by_cases h0 : c = 0
  · subst h0
    refine ⟨([], a, 3, a), ?_, rfl⟩
    unfold rowL
    simp only
    rw [List.take_zero, take_short [] 1 255 a e (by decide), if_neg (by decide), if_pos (show (3 : Int) ≠ 0 by decide)]
  · obtain ⟨c', rfl⟩ : ∃ k, c = k + 1 := ⟨c - 1, by omega⟩
    have ht := take_num w 1 (.inl rfl) (by omega) (by omega) 255 (by omega) ((bytesL (padB w x) ++ rest).take c') a e
    have e1 : (vecB w x ++ rest).take (c' + 1) = numB w 1 ++ (bytesL (padB w x) ++ rest).take c' := rfl
    refine ⟨failL (numB w 1 ++ (bytesL (padB w x) ++ rest).take c', a, 0, e) 3 a, ?_, ?_⟩
    · unfold rowL
      simp only
      rw [e1, ht]
      simp only
      rw [if_neg (by decide), if_neg (by decide), if_neg (by omega), if_pos (by rw [List.length_take, List.length_append, hb]; omega)]
    · unfold failL
      simp only
      rw [if_pos (by decide)]
theorem row_bad (b : List UInt8) (a e w : Int) (h : e ≠ 0) : rowL (b, a, e, w) = ((b, a, e, w), 0, 0#128) := by
  unfold rowL
  simp only
  rw [if_pos h]
theorem runes_bytes : ∀ s : List UInt8, s.length ≤ 4 * (runesL s).length := by
  apply runes_ind
  · simp
  · intro s hs ih
    obtain ⟨h1, h2, h3⟩ := dec_w s hs
    rw [List.length_drop] at ih
    rw [runesL_cons hs, List.length_cons]; omega
theorem may_len {s : List UInt8} (h : mayL (runesL s) = true) : s.length ≤ 96 := by
  have h1 := runes_bytes s
  unfold mayL at h
  simp only [Bool.and_eq_true, decide_eq_true_eq] at h
  omega
def textB (s : List UInt8) : List UInt8 := if s.length > 255 then [0] else UInt8.ofNat s.length :: s
theorem textB_may {s : List UInt8} (h : mayL (runesL s) = true) : textB s = numB (s.length : Int) 1 ++ s := by
  have := may_len h
  unfold textB
  rw [if_neg (by omega)]
  show _ = byteI (s.length : Int) :: s
  unfold byteI
  rw [show (s.length : Int) % 256 = ((s.length : Nat) : Int) from by omega, Int.toNat_natCast]
theorem name_back {s : List UInt8} (h : mayL (runesL s) = true) (rest : List UInt8) (a e : Int) : nameL (textB s ++ rest, a, 0, e) = ((rest, a + (1 + s.length : Nat), 0, e), s) := by
  have hl := may_len h
  have ht := take_num (s.length : Int) 1 (.inl rfl) (by omega) (by omega) 255 (by omega) (s ++ rest) a e
  unfold nameL
  simp only
  rw [textB_may h, List.append_assoc, ht]
  simp only
  rw [Int.toNat_natCast, if_neg (by decide), if_neg (by decide), if_neg (by rw [List.length_append]; omega), List.take_left' rfl, List.drop_left' rfl, if_pos h]
  congr 2
  rw [Int.add_assoc]
  congr 2
theorem name_short {s : List UInt8} (h : mayL (runesL s) = true) (c : Nat) (rest : List UInt8) (hc : c < (textB s).length) (a e : Int) : ∃ r : RdS, nameL ((textB s ++ rest).take c, a, 0, e) = (r, []) ∧ r.2.2.1 = 3 := by
  have hl := may_len h
  rw [textB_may h] at hc ⊢
  by_cases h0 : c = 0
  · subst h0
    refine ⟨([], a, 3, a), ?_, rfl⟩
    unfold nameL
    simp only
    rw [List.take_zero, take_short [] 1 255 a e (by decide), if_neg (by decide), if_pos (show (3 : Int) ≠ 0 by decide)]
  · obtain ⟨c', rfl⟩ : ∃ k, c = k + 1 := ⟨c - 1, by omega⟩
    have ht := take_num (s.length : Int) 1 (.inl rfl) (by omega) (by omega) 255 (by omega) ((s ++ rest).take c') a e
    have e1 : (numB (s.length : Int) 1 ++ s ++ rest).take (c' + 1) = numB (s.length : Int) 1 ++ (s ++ rest).take c' := rfl
    have hc' : c' < s.length := by
      have : (numB (s.length : Int) 1 ++ s).length = 1 + s.length := by rw [List.length_append]; rfl
      omega
    refine ⟨failL (numB (s.length : Int) 1 ++ (s ++ rest).take c', a, 0, e) 3 a, ?_, ?_⟩
    · unfold nameL
      simp only
      rw [e1, ht]
      simp only
      rw [Int.toNat_natCast, if_neg (by decide), if_neg (by decide), if_pos (by rw [List.length_take, List.length_append]; omega)]
    · unfold failL
      simp only
      rw [if_pos (by decide)]
theorem name_bad (b : List UInt8) (a e w : Int) (h : e ≠ 0) : nameL (b, a, e, w) = ((b, a, e, w), []) := by
  unfold nameL
  simp only
  rw [if_pos h]
end Go.Proofs.Ytdgejbbelmhbdaa
