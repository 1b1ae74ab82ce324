/- Layer 8: the document's answers by definition: names, headers, instances, slots. Conditions: texts of at most 2000 bytes, fuel above 3000. -/
import Derived.Test.YtdmakhnmfnkcmaaRh
namespace Go.Proofs.Ytdmakhnmfnkcmaa
open Go Go.RowKit Go.Eng
/-! ### names -/
def plainL (s : List UInt8) : Bool := decide ((46 : UInt8) ∉ s) && mayL (runesL s)
def alikeL (a b : List UInt8) : Bool := decide (keysL a = keysL b)
theorem ord0 (a b : List Int) : (ordL a b == 0) = decide (a = b) := by
  rw [Bool.eq_iff_iff, beq_iff_eq, decide_eq_true_eq]
  rcases ordL_cases a b with ⟨h, h'⟩ | ⟨h, _⟩ | ⟨h, _⟩
  · exact ⟨fun _ => h', fun _ => h⟩
  · exact ⟨fun h2 => by omega, fun h2 => by subst h2; rw [ordL_same] at h; omega⟩
  · exact ⟨fun h2 => by omega, fun h2 => by subst h2; rw [ordL_same] at h; omega⟩
theorem byteAt_ne (s : List UInt8) (i : Nat) (h : i < s.length) : (byteAt s (i : Int) : Int) = 46 ↔ s[i] = 46 := by
  unfold byteAt
  rw [Int.toNat_natCast, show s.getD i 0 = s[i] from by simp [List.getD_eq_getElem?_getD, List.getElem?_eq_getElem h]]
  constructor
  · intro h1; exact UInt8.toNat_inj.1 (by have : (46 : UInt8).toNat = 46 := rfl; omega)
  · intro h1; rw [h1]; rfl
theorem plain_loop (N : Nat) (s : List UInt8) (hs : s.length ≤ 2000) (hN : 3000 < N) : ∀ (k f i : Nat), i + k = s.length → k < f → shunterref08_Plain_l2 N s f (i : Int) = some (decide ((46 : UInt8) ∉ s.drop i) && mayL (runesL s)) := by
  intro k
  induction k with
  | zero =>
    intro f i hi hf
    obtain ⟨f, rfl⟩ : ∃ n, f = n + 1 := ⟨f - 1, by omega⟩
    rw [shunterref08_Plain_l2, if_neg (by omega), refmay_s N s (by omega) (by omega), List.drop_of_length_le (by omega)]; simp
  | succ k ih =>
    intro f i hi hf
    obtain ⟨f, rfl⟩ : ∃ n, f = n + 1 := ⟨f - 1, by omega⟩
    have e1 : (i : Int) + 1 = ((i + 1 : Nat) : Int) := by omega
    rw [shunterref08_Plain_l2, if_pos (by omega), ck_pos _ (by omega), List.drop_eq_getElem_cons (by omega)]
    by_cases h : s[i]'(by omega) = 46
    · rw [if_pos ((byteAt_ne s i (by omega)).2 h), h]; simp
    · rw [if_neg (fun h2 => h ((byteAt_ne s i (by omega)).1 h2)), ck_pos _ (by omega), e1, ih f (i + 1) (by omega) (by omega)]
      congr 2
      rw [Bool.eq_iff_iff, decide_eq_true_eq, decide_eq_true_eq, List.mem_cons]
      exact ⟨fun h2 h3 => h3.elim (fun e => h e.symm) h2, fun h2 h3 => h2 (.inr h3)⟩
theorem refplain_s (N : Nat) (s : List UInt8) (hs : s.length ≤ 2000) (hN : 3000 < N) : shunterref08_Plain_m N s = some (plainL s) := by
  have := plain_loop N s hs hN s.length N 0 (by omega) (by omega)
  rw [shunterref08_Plain_m, show (0 : Int) = ((0 : Nat) : Int) from rfl, this]; rfl
theorem refalike_s (N : Nat) (a b : List UInt8) (ha : a.length ≤ 2000) (hb : b.length ≤ 2000) (hN : 3000 < N) : shunterref08_Alike_m N a b = some (alikeL a b) := by
  have := keysL_len a
  rw [shunterref08_Alike_m, refkeys_s N a (by omega) (by omega), Option.bind_some, refkeys_s N b (by omega) (by omega), Option.bind_some, reforder_s N _ _ (by omega) (by omega), Option.bind_some, ord0]; rfl
/-! ### headers -/
abbrev Fd := List UInt8 × Int
def sumW (l : List Fd) : Int := (l.map (·.2)).sum
def goF : List Fd → List Fd → Int
  | _, [] => 0
  | pre, f :: r => if plainL f.1 = true then if pre.any (fun x => alikeL x.1 f.1) = true then 6 else if f.2 < 1 ∨ 128 < f.2 then 9 else goF (pre ++ [f]) r else 4
def varB (h1 : List Fd) (h2 h3 h4 h5 : Int) : Bool := if h2 = 0 then decide (h3 = 0 ∧ h4 = 0 ∧ h5 = 0) else decide (1 ≤ h2 ∧ h2 ≤ 64 ∧ 0 ≤ h3 ∧ h3 < (h1.length : Int) ∧ (h1[h3.toNat]!).2 ≤ 16 ∧ 1 ≤ h4 ∧ h4 ≤ 64 ∧ 0 ≤ h5 ∧ h5 ≤ 4096)
def tailF (h1 : List Fd) (h2 h3 h4 h5 : Int) : Int := if sumW h1 % 8 ≠ 0 then 9 else if varB h1 h2 h3 h4 h5 = true then 0 else 7
def finF (h1 : List Fd) (h2 h3 h4 h5 e : Int) : Int := if e = 0 then tailF h1 h2 h3 h4 h5 else e
def mayH (h0 : List UInt8) (h1 : List Fd) (h2 h3 h4 h5 : Int) : Int :=
  if plainL h0 = true then if 16 < h1.length then 2 else if h1.length = 0 then 5 else finF h1 h2 h3 h4 h5 (goF [] h1) else 4
theorem sumW_app (a b : List Fd) : sumW (a ++ b) = sumW a + sumW b := by unfold sumW; rw [List.map_append, List.sum_append]
/-- What is behind the fields whose sum is known to be of widths from 1 to 128. -/
def okW (l : List Fd) : Prop := ∀ x ∈ l, 1 ≤ x.2 ∧ x.2 ≤ 128
theorem okW_sum : ∀ l : List Fd, okW l → 0 ≤ sumW l ∧ sumW l ≤ 128 * (l.length : Int)
  | [], _ => by simp [sumW]
  | x :: l, h => by
    have h1 := h x (by simp)
    have h2 := okW_sum l (fun y hy => h y (by simp [hy]))
    have e : sumW (x :: l) = x.2 + sumW l := by simp [sumW]
    rw [e, List.length_cons]; omega
theorem goF_ok : ∀ (r pre : List Fd), goF pre r = 0 → okW r
  | [], _, _ => fun x hx => by cases hx
  | f :: r, pre, h => by
    rw [goF] at h
    by_cases h1 : plainL f.1 = true
    · rw [if_pos h1] at h
      by_cases h2 : pre.any (fun x => alikeL x.1 f.1) = true
      · rw [if_pos h2] at h; omega
      · rw [if_neg h2] at h
        by_cases h3 : f.2 < 1 ∨ 128 < f.2
        · rw [if_pos h3] at h; omega
        · rw [if_neg h3] at h
          intro x hx
          rcases List.mem_cons.1 hx with rfl | hx
          · omega
          · exact goF_ok r _ h x hx
    · rw [if_neg h1] at h; omega
theorem tail_ref (h1 : List Fd) (h2 h3 h4 h5 : Int) (hl : h1.length ≤ 40) (hs : 0 ≤ sumW h1 ∧ sumW h1 ≤ 9223372036854775807) :
    ck (0 ≤ sumW h1 ∧ sumW h1 ≤ 9223372036854775807) (if (sumW h1 % 8 : Int) ≠ 0 then some 9 else if h2 = 0 then if (h3 : Int) ≠ 0 then some 7 else if (h4 : Int) ≠ 0 then some 7 else if (h5 : Int) ≠ 0 then some 7 else some 0 else if h2 < 1 then some 7 else if h2 > 64 then some 7 else if h3 < 0 then some 7 else if h3 ≥ ((h1).length : Int) then some 7 else ck (0 ≤ h3 ∧ h3 < ((h1).length : Int)) (if (((h1)[(h3).toNat]!).2 : Int) > 16 then some 7 else if h4 < 1 then some 7 else if h4 > 64 then some 7 else if h5 < 0 then some 7 else if h5 > 4096 then some 7 else some 0)) = some (tailF h1 h2 h3 h4 h5) := by
  rw [ck_pos _ hs]
  unfold tailF
  by_cases h8 : sumW h1 % 8 ≠ 0
  · rw [if_pos h8, if_pos h8]
  rw [if_neg h8, if_neg h8]
  unfold varB
  by_cases c2 : h2 = 0
  · rw [if_pos c2, if_pos c2]
    by_cases a : h3 = 0
    · rw [if_neg (by omega)]
      by_cases b : h4 = 0
      · rw [if_neg (by omega)]
        by_cases c : h5 = 0
        · rw [if_neg (by omega), if_pos (decide_eq_true ⟨a, b, c⟩)]
        · rw [if_pos (by omega), if_neg (fun h => c (of_decide_eq_true h).2.2)]
      · rw [if_pos (by omega), if_neg (fun h => b (of_decide_eq_true h).2.1)]
    · rw [if_pos (by omega), if_neg (fun h => a (of_decide_eq_true h).1)]
  rw [if_neg c2, if_neg c2]
  by_cases a1 : h2 < 1
  · rw [if_pos a1, if_neg (fun h => absurd (of_decide_eq_true h) (by omega))]
  rw [if_neg a1]
  by_cases a2 : h2 > 64
  · rw [if_pos a2, if_neg (fun h => absurd (of_decide_eq_true h) (by omega))]
  rw [if_neg a2]
  by_cases a3 : h3 < 0
  · rw [if_pos a3, if_neg (fun h => absurd (of_decide_eq_true h) (by omega))]
  rw [if_neg a3]
  by_cases a4 : h3 ≥ (h1.length : Int)
  · rw [if_pos a4, if_neg (fun h => absurd (of_decide_eq_true h) (by omega))]
  rw [if_neg a4, ck_pos _ (by omega)]
  by_cases a5 : (h1[h3.toNat]!).2 > 16
  · rw [if_pos a5, if_neg (fun h => absurd (of_decide_eq_true h) (by omega))]
  rw [if_neg a5]
  by_cases a6 : h4 < 1
  · rw [if_pos a6, if_neg (fun h => absurd (of_decide_eq_true h) (by omega))]
  rw [if_neg a6]
  by_cases a7 : h4 > 64
  · rw [if_pos a7, if_neg (fun h => absurd (of_decide_eq_true h) (by omega))]
  rw [if_neg a7]
  by_cases a8 : h5 < 0
  · rw [if_pos a8, if_neg (fun h => absurd (of_decide_eq_true h) (by omega))]
  rw [if_neg a8]
  by_cases a9 : h5 > 4096
  · rw [if_pos a9, if_neg (fun h => absurd (of_decide_eq_true h) (by omega))]
  rw [if_neg a9, if_pos (decide_eq_true (by omega))]
theorem consI {α : Type} [Inhabited α] (l : List α) (i : Nat) (h : i < l.length) : l.drop i = l[i]! :: l.drop (i + 1) := by rw [List.drop_eq_getElem_cons h, getElem!_pos l i h]
theorem any_drop {α : Type} [Inhabited α] (l : List α) (i j : Nat) (hj : j < i) (hi : i ≤ l.length) (p : α → Bool) : ((l.take i).drop j).any p = (p (l[j]!) || ((l.take i).drop (j + 1)).any p) := by
  have hl : j < (l.take i).length := by rw [List.length_take]; omega
  rw [List.drop_eq_getElem_cons hl, List.any_cons, List.getElem_take, getElem!_pos l j (by omega)]
theorem takeS {α : Type} [Inhabited α] (l : List α) (i : Nat) (h : i < l.length) : l.take (i + 1) = l.take i ++ [l[i]!] := by rw [List.take_succ_eq_append_getElem h, getElem!_pos l i h]
end Go.Proofs.Ytdmakhnmfnkcmaa
