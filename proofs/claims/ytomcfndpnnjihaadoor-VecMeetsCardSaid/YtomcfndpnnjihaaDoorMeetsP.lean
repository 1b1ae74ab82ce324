/- What the model of the law on rows that meet comes to. Conditions: none but those written. -/
import Derived.Test.YtomcfndpnnjihaaDoorTwoP
import Derived.Test.YtomcfndpnnjihaaDoorLVecMeets
namespace Go.Proofs.YtomcfndpnnjihaaDoor
open Go Go.RowKit Go.Eng
theorem mt_bit (x y z : BitVec 128) (j : Nat) : ((x ^^^ y) &&& z).getLsbD j = ((x.getLsbD j ^^ y.getLsbD j) && z.getLsbD j) := by rw [BitVec.getLsbD_and, BitVec.getLsbD_xor]
theorem meets_loop (x y z : BitVec 128) (w : Int) (hx : mayB w x = true) (hy : mayB w y = true) : ∀ (k f i : Nat), i + k = w.toNat → k < f → (∀ j, j < i → ((x ^^^ y) &&& z).getLsbD j = false) →
    shunterref02_Meets_l3 (bitsL w.toNat x) (bitsL w.toNat y) (bitsL w.toNat z) f (i : Int) = some (((x ^^^ y) &&& z) == 0#128) := by
  have hw := may_w hx
  intro k
  induction k with
  | zero =>
    intro f i hi hf hP
    obtain ⟨f, rfl⟩ : ∃ k, f = k + 1 := ⟨f - 1, by omega⟩
    rw [shunterref02_Meets_l3, if_neg (by rw [bitsL_len]; omega)]
    have : (x ^^^ y) &&& z = 0#128 := by
      apply BitVec.eq_of_getLsbD_eq
      intro j hj
      rw [BitVec.getLsbD_zero]
      by_cases h : j < i
      · exact hP j h
      · rw [mt_bit, may_bit hx j (by omega), may_bit hy j (by omega)]; rfl
    rw [this]; rfl
  | succ k ih =>
    intro f i hi hf hP
    obtain ⟨f, rfl⟩ : ∃ k, f = k + 1 := ⟨f - 1, by omega⟩
    have hlt : i < w.toNat := by omega
    have next : ((x ^^^ y) &&& z).getLsbD i = false → shunterref02_Meets_l3 (bitsL w.toNat x) (bitsL w.toNat y) (bitsL w.toNat z) f ((i : Int) + 1) = some (((x ^^^ y) &&& z) == 0#128) := fun h =>
      ih f (i + 1) (by omega) (by omega) fun j hj => by
        by_cases e : j = i
        · rw [e]; exact h
        · exact hP j (by omega)
    rw [shunterref02_Meets_l3, if_pos (by rw [bitsL_len]; omega), ck_pos _ (by rw [bitsL_len]; omega), Int.toNat_natCast, bitsL_get, bitsL_get, bitsL_get, decide_eq_true hlt, Bool.true_and, Bool.true_and, Bool.true_and]
    by_cases hz : z.getLsbD i = true
    · rw [if_pos hz, ck_pos _ (by rw [bitsL_len]; omega), ck_pos _ (by rw [bitsL_len]; omega)]
      by_cases he : x.getLsbD i = y.getLsbD i
      · rw [if_neg (fun h => h he), ck_pos _ (by omega)]
        exact next (by rw [mt_bit, he]; simp)
      · rw [if_pos he]
        have hne : (x ^^^ y) &&& z ≠ 0#128 := fun h => by
          have := mt_bit x y z i
          rw [h, hz, BitVec.getLsbD_zero, Bool.and_true] at this
          apply he
          revert this
          cases x.getLsbD i <;> cases y.getLsbD i <;> simp
        rw [beq_false_of_ne hne]
    · rw [if_neg hz, ck_pos _ (by omega)]
      exact next (by rw [mt_bit, eq_false_of_ne_true hz, Bool.and_false])
theorem meets_eq (N : Nat) (hN : 128 < N) (u : Int) (x : BitVec 128) (v : Int) (y : BitVec 128) (w : Int) (z : BitVec 128) : ∃ A, vec_Meets_m N u x v y w z = some A ∧ shunterref02_Meets_m N u x v y w z = some A := by
  unfold vec_Meets_m shunterref02_Meets_m vec_Meets_k1 vec_Word_m
  rw [unlike_s, unlike_s, rmay_s, rmay_s, rmay_s]
  simp only [Option.bind_some]
  by_cases hx : mayB u x = true
  · by_cases hy : mayB v y = true
    · rw [if_pos (show mayB u x = true ∧ mayB v y = true from ⟨hx, hy⟩), if_pos hx, if_pos hy]
      by_cases hz : mayB w z = true
      · rw [if_pos (show mayB u x = true ∧ mayB w z = true from ⟨hx, hz⟩), if_pos hz]
        by_cases e1 : u = v
        · subst e1
          rw [if_pos rfl, if_neg (show ¬ (0 : Int) ≠ 0 by decide), if_neg (show ¬ u ≠ u from fun h => h rfl)]
          by_cases e2 : u = w
          · subst e2
            have hw := may_w hx
            rw [if_pos rfl, if_neg (show ¬ (0 : Int) ≠ 0 by decide), if_neg (show ¬ u ≠ u from fun h => h rfl), zz]
            refine ⟨_, rfl, ?_⟩
            unfold shunterref02_Meets_k1
            rw [bits_s N u x hN (by omega) (by omega), Option.bind_some, bits_s N u y hN (by omega) (by omega), Option.bind_some, bits_s N u z hN (by omega) (by omega), Option.bind_some]
            exact meets_loop x y z u hx hy u.toNat N 0 (by omega) (by omega) (fun j hj => by omega)
          · rw [if_neg e2, if_pos (by decide), if_pos e2]; exact ⟨_, rfl, rfl⟩
        · rw [if_neg e1, if_pos (by decide), if_pos e1]; exact ⟨_, rfl, rfl⟩
      · rw [if_neg hz, if_neg (show ¬ (mayB u x = true ∧ mayB w z = true) from fun h => hz h.2)]
        refine ⟨false, ?_, rfl⟩
        by_cases e1 : u = v
        · rw [if_pos e1, if_neg (by decide), if_pos (by decide)]
        · rw [if_neg e1, if_pos (by decide)]
    · rw [if_neg (show ¬ (mayB u x = true ∧ mayB v y = true) from fun h => hy h.2), if_pos (by decide), if_pos hx, if_neg hy]; exact ⟨_, rfl, rfl⟩
  · rw [if_neg (show ¬ (mayB u x = true ∧ mayB v y = true) from fun h => hx h.1), if_pos (by decide), if_neg hx]; exact ⟨_, rfl, rfl⟩
theorem lo_one (b : Bool) : (lo (if b = true then 1#128 else 0#128) = 0#64) ↔ b = false := by cases b <;> simp <;> decide
theorem lo_beq (b : Bool) : (lo (if b = true then 1#128 else 0#128) == 0#64) = !b := by cases b <;> rfl
theorem within_eq (N : Nat) (hN : 128 < N) (u : Int) (x : BitVec 128) (v : Int) (y : BitVec 128) (w : Int) (z : BitVec 128) : ∃ A, vec_Within_m N u x v y w z = some A ∧ shunterref02_Within_m N u x v y w z = some A := by
  unfold vec_Within_m shunterref02_Within_m vec_Within_k1 vec_Word_m
  rw [unlike_s, unlike_s, two_s N hN, two_s N hN, tail_less N hN, tail_less N hN]
  simp only [Option.bind_some]
  by_cases h1 : mayB u x = true ∧ mayB v y = true
  · rw [if_pos h1, if_pos h1]
    by_cases e1 : u = v
    · rw [if_pos e1, if_pos e1, if_neg (by decide)]
      by_cases h2 : mayB u x = true ∧ mayB w z = true
      · rw [if_pos h2, if_pos (show mayB w z = true ∧ mayB u x = true from ⟨h2.2, h2.1⟩)]
        by_cases e2 : u = w
        · rw [if_pos e2, if_neg (by decide), if_pos e2.symm]
          simp only [Option.bind_some]
          rw [if_pos trivial, if_pos trivial, cmp_le, lo_beq]
          have hc : ∀ p q : BitVec 128, (cmpI p q ≤ 0) ↔ decide (q < p) = false := fun p q => by
            have := cmp_le p q
            constructor
            · intro h; rw [decide_eq_true h] at this; exact not_t this.symm
            · intro h; rw [h] at this; exact of_decide_eq_true this
          by_cases h : cmpI y x ≤ 0
          · exact ⟨_, by rw [if_pos h], by rw [if_pos ((lo_one _).2 ((hc y x).1 h))]⟩
          · exact ⟨_, by rw [if_neg h], by rw [if_neg (fun h' => h ((hc y x).2 ((lo_one _).1 h')))]⟩
        · rw [if_neg e2, if_pos (by decide), if_neg (show ¬ w = u from fun h => e2 h.symm)]
          simp only [Option.bind_some]
          exact ⟨_, rfl, by rw [if_pos trivial, if_neg (by decide)]⟩
      · rw [if_neg h2, if_pos (by decide), if_neg (show ¬ (mayB w z = true ∧ mayB u x = true) from fun h => h2 ⟨h.2, h.1⟩)]
        simp only [Option.bind_some]
        exact ⟨_, rfl, by rw [if_pos trivial, if_neg (by decide)]⟩
    · rw [if_neg e1, if_neg e1, if_pos (by decide)]
      refine ⟨false, rfl, ?_⟩
      split
      · split <;> (simp only [Option.bind_some]; rw [if_neg (by decide)])
      · simp only [Option.bind_some]; rw [if_neg (by decide)]
  · rw [if_neg h1, if_neg h1, if_pos (by decide)]
    refine ⟨false, rfl, ?_⟩
    split
    · split <;> (simp only [Option.bind_some]; rw [if_neg (by decide)])
    · simp only [Option.bind_some]; rw [if_neg (by decide)]
theorem meets_s (N : Nat) (hN : 128 < N) (u : Int) (x : BitVec 128) (v : Int) (y : BitVec 128) (w : Int) (z : BitVec 128) : shunterlaw02_VecMeets_m N u x v y w z = some true := by
  unfold shunterlaw02_VecMeets_m
  obtain ⟨A, e1, e2⟩ := meets_eq N hN u x v y w z
  obtain ⟨B, e3, e4⟩ := within_eq N hN u x v y w z
  rw [e1, Option.bind_some, e2, Option.bind_some]
  refine ifpos rfl ?_
  rw [e3, Option.bind_some, e4, Option.bind_some]
  refine ifpos rfl ?_
  rw [lives_s]; rfl
end Go.Proofs.YtomcfndpnnjihaaDoor
