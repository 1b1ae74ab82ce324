/- The reference of layer 6: the models' answers. Conditions: none. -/
import Derived.Test.YtmdjifehblijkaaLx
import Derived.Test.YtmdjifehblijkaaRh
import Derived.Test.YtmdjifehblijkaaPaQ
namespace Go.Proofs.Ytmdjifehblijkaa
open Go Go.RowKit Go.Eng
theorem drop_get {s : List UInt8} {i : Nat} (h : i < s.length) : s.drop i = s[i] :: s.drop (i + 1) := List.drop_eq_getElem_cons h
theorem skipR_suf : ∀ (b : Bool) (s : List UInt8), skipR b s = s.drop (s.length - (skipR b s).length)
  | b, [] => by cases b <;> rfl
  | true, c :: r => by
    have h1 := skipR_suf false r; have h2 := skipR_suf true r
    have l1 := skipR_len false r; have l2 := skipR_len true r
    rw [skipR]
    split
    · rw [List.length_cons, show r.length + 1 - (skipR false r).length = (r.length - (skipR false r).length) + 1 by omega, List.drop_succ_cons]; exact h1
    · rw [List.length_cons, show r.length + 1 - (skipR true r).length = (r.length - (skipR true r).length) + 1 by omega, List.drop_succ_cons]; exact h2
  | false, c :: r => by
    have h1 := skipR_suf false r; have h2 := skipR_suf true r
    have l1 := skipR_len false r; have l2 := skipR_len true r
    rw [skipR]
    split
    · rw [List.length_cons, show r.length + 1 - (skipR true r).length = (r.length - (skipR true r).length) + 1 by omega, List.drop_succ_cons]; exact h2
    · split
      · rw [List.length_cons, show r.length + 1 - (skipR false r).length = (r.length - (skipR false r).length) + 1 by omega, List.drop_succ_cons]; exact h1
      · simp
/-- where a remark ends -/
def remE : List UInt8 → List UInt8
  | [] => []
  | c :: r => if c = 10 then c :: r else remE r
theorem remE_len : ∀ s : List UInt8, (remE s).length ≤ s.length
  | [] => Nat.le_refl _
  | c :: r => by
    have := remE_len r
    rw [remE]; split
    · exact Nat.le_refl _
    · rw [List.length_cons]; omega
theorem skip_remE : ∀ s : List UInt8, skipR true s = skipR false (remE s)
  | [] => rfl
  | c :: r => by
    rw [skipR, remE]
    split
    · rename_i h; rw [skipR, if_neg (by rw [h]; decide), if_pos (by rw [h]; decide)]
    · exact skip_remE r
/-- where a text goes on behind blanks and remarks -/
def skipP (b : Bool) (s : List UInt8) (p : Nat) : Nat := s.length - (skipR b (s.drop p)).length
theorem drop_form {s t : List UInt8} {p n : Nat} (h : t = (s.drop p).drop ((s.drop p).length - n)) (hn : n ≤ (s.drop p).length) : s.drop (s.length - n) = t := by
  rw [h, List.drop_drop, List.length_drop]
  rw [List.length_drop] at hn
  by_cases hp : p ≤ s.length
  · congr 1; omega
  · rw [List.drop_of_length_le (by omega), List.drop_of_length_le (by omega)]
theorem skipP_drop (b : Bool) (s : List UInt8) (p : Nat) : s.drop (skipP b s p) = skipR b (s.drop p) :=
  drop_form (skipR_suf b (s.drop p)) (skipR_len b (s.drop p))
theorem skipP_le (b : Bool) (s : List UInt8) (p : Nat) : skipP b s p ≤ s.length := Nat.sub_le _ _
theorem skipP_ge (b : Bool) (s : List UInt8) (p : Nat) (hp : p ≤ s.length) : p ≤ skipP b s p := by
  have hl := skipR_len b (s.drop p)
  rw [List.length_drop] at hl
  unfold skipP; omega
theorem skipP_blank {s : List UInt8} {p : Nat} (h : p < s.length) (h1 : s[p] ≠ 35) (h2 : blankB s[p] = true) : skipP false s p = skipP false s (p + 1) := by
  unfold skipP; rw [drop_get h, skipR, if_neg h1, if_pos h2]
theorem skipP_stop {s : List UInt8} {p : Nat} (h : p < s.length) (h1 : s[p] ≠ 35) (h2 : blankB s[p] = false) : skipP false s p = p := by
  unfold skipP; rw [drop_get h, skipR, if_neg h1, if_neg (by rw [h2]; decide), ← drop_get h, List.length_drop]; omega
theorem byteAt_i (s : List UInt8) (i : Nat) (h : i < s.length) : byteAt s (i : Int) = ((s[i].toNat : Nat) : Int) := byteAt_get h
theorem b_eq {c x : UInt8} {n : Int} (hx : ((x.toNat : Nat) : Int) = n) : (((c.toNat : Nat) : Int) = n) ↔ c = x := by
  constructor
  · intro h; apply UInt8.toNat_inj.mp; omega
  · intro h; rw [h, hx]
theorem skip_inner (s : List UInt8) (hs : s.length ≤ 100000) (rec' : Int → Option Int) : ∀ (k f p : Nat), s.length - p ≤ k → k < f → p ≤ s.length → shunterref06_Skip_l4 s rec' f (p : Int) = rec' ((s.length - (remE (s.drop p)).length : Nat) : Int) := by
  intro k
  induction k with
  | zero =>
    intro f p hk hf hp
    obtain ⟨f, rfl⟩ : ∃ j, f = j + 1 := ⟨f - 1, by omega⟩
    rw [shunterref06_Skip_l4, if_neg (by omega), List.drop_of_length_le (by omega), remE]
    congr 1; simp; omega
  | succ k ih =>
    intro f p hk hf hp
    obtain ⟨f, rfl⟩ : ∃ j, f = j + 1 := ⟨f - 1, by omega⟩
    by_cases h : p < s.length
    · rw [shunterref06_Skip_l4, if_pos (by omega), ck_pos _ (by omega), byteAt_i s p h, drop_get h, remE]
      by_cases hc : s[p] = 10
      · rw [if_neg (fun hh => hh ((b_eq (n := 10) rfl).mpr hc)), if_pos hc, ← drop_get h, List.length_drop]
        congr 2; omega
      · rw [if_pos (fun hh => hc ((b_eq (n := 10) rfl).mp hh)), ck_pos _ (by omega), if_neg hc, show (p : Int) + 1 = ((p + 1 : Nat) : Int) by omega]
        exact ih f (p + 1) (by omega) (by omega) (by omega)
    · rw [shunterref06_Skip_l4, if_neg (by omega), List.drop_of_length_le (by omega), remE]
      congr 1; simp; omega
theorem refskip_loop (N : Nat) (s : List UInt8) (hs : s.length ≤ 100000) (hN : s.length < N) : ∀ (k f p : Nat), s.length - p ≤ k → k < f → p ≤ s.length → shunterref06_Skip_l2 N s f (p : Int) = some (skipP false s p : Int) := by
  intro k
  induction k using Nat.strongRecOn with
  | _ k ih =>
  intro f p hk hf hp
  obtain ⟨f, rfl⟩ : ∃ j, f = j + 1 := ⟨f - 1, by omega⟩
  by_cases h : p < s.length
  · rw [shunterref06_Skip_l2, if_pos (by omega), ck_pos _ (by omega), byteAt_i s p h]
    have next : s[p] ≠ 35 → blankB s[p] = true → shunterref06_Skip_k6 (p : Int) (shunterref06_Skip_l2 N s f) true = some (skipP false s p : Int) := fun h1 h2 => by
      rw [shunterref06_Skip_k6, if_pos rfl, ck_pos _ (by omega), show (p : Int) + 1 = ((p + 1 : Nat) : Int) by omega, skipP_blank h h1 h2]
      exact ih (k - 1) (by omega) f (p + 1) (by omega) (by omega) (by omega)
    by_cases h1 : s[p] = 35
    · rw [if_pos ((b_eq (n := 35) rfl).mpr h1), skip_inner s hs _ s.length N p (by omega) hN hp]
      have hr : remE (s.drop p) = remE (s.drop (p + 1)) := by rw [drop_get h, remE, if_neg (by rw [h1]; decide)]
      have hl := remE_len (s.drop (p + 1))
      rw [List.length_drop] at hl
      have e : skipP false s p = skipP false s (s.length - (remE (s.drop p)).length) := by
        unfold skipP
        have hsuf : ∀ t : List UInt8, remE t = t.drop (t.length - (remE t).length) := by
          intro t
          induction t with
          | nil => rfl
          | cons c r iht =>
            rw [remE]
            split
            · simp
            · have := remE_len r
              rw [List.length_cons, show r.length + 1 - (remE r).length = (r.length - (remE r).length) + 1 by omega, List.drop_succ_cons]; exact iht
        have hd : s.drop (s.length - (remE (s.drop p)).length) = remE (s.drop p) := by
          have hl2 := remE_len (s.drop p)
          rw [List.length_drop] at hl2
          conv => rhs; rw [hsuf (s.drop p)]
          rw [List.drop_drop, List.length_drop]
          congr 1; omega
        rw [hd, drop_get h, skipR, if_pos h1, skip_remE, ← drop_get h, hr]
      rw [e]
      refine ih (remE (s.drop p)).length ?_ f _ ?_ ?_ (Nat.sub_le _ _)
      · rw [hr]; omega
      · omega
      · rw [hr]; omega
    · rw [if_neg (fun hh => h1 ((b_eq (n := 35) rfl).mp hh))]
      by_cases h2 : s[p] = 32
      · rw [if_pos ((b_eq (n := 32) rfl).mpr h2)]; exact next h1 (by rw [h2]; rfl)
      rw [if_neg (fun hh => h2 ((b_eq (n := 32) rfl).mp hh))]
      by_cases h3 : s[p] = 9
      · rw [if_pos ((b_eq (n := 9) rfl).mpr h3)]; exact next h1 (by rw [h3]; rfl)
      rw [if_neg (fun hh => h3 ((b_eq (n := 9) rfl).mp hh))]
      by_cases h4 : s[p] = 10
      · rw [if_pos ((b_eq (n := 10) rfl).mpr h4)]; exact next h1 (by rw [h4]; rfl)
      rw [if_neg (fun hh => h4 ((b_eq (n := 10) rfl).mp hh))]
      by_cases h5 : s[p] = 13
      · rw [show ((((s[p].toNat : Nat) : Int) : Int) == 13) = true from beq_iff_eq.mpr ((b_eq (n := 13) rfl).mpr h5)]; exact next h1 (by rw [h5]; rfl)
      · rw [show ((((s[p].toNat : Nat) : Int) : Int) == 13) = false from beq_eq_false_iff_ne.mpr (fun hh => h5 ((b_eq (n := 13) rfl).mp hh)), shunterref06_Skip_k6, if_neg (by decide), skipP_stop h h1 (by
          unfold blankB; simp only [Bool.or_eq_false_iff, beq_eq_false_iff_ne]; exact ⟨⟨⟨h2, h3⟩, h4⟩, h5⟩)]
  · rw [shunterref06_Skip_l2, if_neg (by omega)]
    have : skipP false s p = p := by
      unfold skipP; rw [List.drop_of_length_le (by omega), skipR, List.length_nil]; omega
    rw [this]
theorem refskip_s (N : Nat) (s : List UInt8) (hs : s.length ≤ 100000) (hN : s.length < N) (p : Nat) (hp : p ≤ s.length) : shunterref06_Skip_m N s (p : Int) = some (skipP false s p : Int) :=
  refskip_loop N s hs hN s.length N p (by omega) hN hp
end Go.Proofs.Ytmdjifehblijkaa
