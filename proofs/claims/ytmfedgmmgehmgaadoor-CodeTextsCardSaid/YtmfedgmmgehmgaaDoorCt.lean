/- Layer 9: the law CodeTexts answers true, if the program's functions have the answers that are told. Conditions: the structure Code9, and what Name and Find answer, proved elsewhere; fuel above 300. -/
import Derived.Test.YtmfedgmmgehmgaaDoorCb
import Derived.Test.YtmfedgmmgehmgaaDoorLCodeTexts
namespace Go.Proofs.YtmfedgmmgehmgaaDoor
open Go Go.RowKit Go.Eng
def atF (s : List UInt8) : Nat → Int
  | 0 => -1
  | k + 1 => if (tab9[k]!).1 = s then (k : Int) else atF s k
theorem find_one : ∀ k : Nat, k < 35 → find9 (tab9[k]!).1 = ((k : Int), true) := by decide +kernel
theorem at_one : ∀ k : Nat, k < 35 → atF (tab9[k]!).1 35 = (k : Int) := by decide +kernel
theorem findF_none (s : List UInt8) : ∀ (l : List R9) (i : Nat), (∀ r ∈ l, r.1 ≠ s) → findF s i l = (0, false)
  | [], _, _ => rfl
  | r :: l, i, h => by rw [findF, if_neg (h r (by simp)), findF_none s l (i + 1) (fun x hx => h x (by simp [hx]))]
theorem atF_none (s : List UInt8) : ∀ k : Nat, (∀ j, j < k → (tab9[j]!).1 ≠ s) → atF s k = -1
  | 0, _ => rfl
  | k + 1, h => by rw [atF, if_neg (h k (by omega)), atF_none s k (fun j hj => h j (by omega))]
theorem find_at (s : List UInt8) : find9 s = (max (atF s 35) 0, decide (atF s 35 ≥ 0)) := by
  by_cases h : ∃ k : Nat, k < 35 ∧ (tab9[k]!).1 = s
  · obtain ⟨k, hk, rfl⟩ := h
    rw [find_one k hk, at_one k hk, decide_eq_true (by omega)]
    congr 1; omega
  · have hn : ∀ k : Nat, k < 35 → (tab9[k]!).1 ≠ s := fun k hk e => h ⟨k, hk, e⟩
    have h1 : find9 s = (0, false) := findF_none s tab9 0 (fun r hr e => by
      obtain ⟨k, hk⟩ := List.getElem?_of_mem hr
      obtain ⟨hk1, hk2⟩ := List.getElem?_eq_some_iff.1 hk
      rw [tab9_len] at hk1
      refine hn k hk1 ?_
      rw [getElem!_pos tab9 k (by rw [tab9_len]; exact hk1), hk2]; exact e)
    rw [h1, atF_none s 35 hn]; rfl
theorem texts_loop {N : Nat} (S : Code9 N) (Name : ∀ o, code_Name_m N o = some (name9 o)) (Find : ∀ s, code_Find_m N s = some (find9 s)) (o a b w : Int) (x : BitVec 128) (ha : I64 a) (hb : I64 b) (s : List UInt8) :
    ∀ (k f i : Nat), i + k = 35 → k < f → shunterlaw09_CodeTexts_l3 N o a b w x s tab9 f (atF s i) (i : Int) = some true := by
  intro k
  induction k with
  | zero =>
    intro f i hi hf
    obtain ⟨f, rfl⟩ : ∃ n, f = n + 1 := ⟨f - 1, by omega⟩
    have hi35 : i = 35 := by omega
    subst hi35
    rw [shunterlaw09_CodeTexts_l3, if_neg (by rw [tab9_len]; decide), Find, Option.bind_some, S.effect, Option.bind_some, find_at, if_pos rfl, if_pos rfl, Name, Option.bind_some, show name9 (-1) = [] from rfl, if_pos rfl, Name, Option.bind_some, tab9_len, show name9 ((35 : Nat) : Int) = [] from rfl, if_pos rfl, show eff9 ((35 : Nat) : Int) = (0, 0) from rfl, ck_pos _ (by decide), if_pos (by decide), S.text _ _ _ _ _ ha hb, Option.bind_some, reftext9_s N _ _ _ _ _ ha hb, Option.bind_some, if_pos rfl]
    exact S.live
  | succ k ih =>
    intro f i hi hf
    obtain ⟨f, rfl⟩ : ∃ n, f = n + 1 := ⟨f - 1, by omega⟩
    have e1 : (i : Int) + 1 = ((i + 1 : Nat) : Int) := by omega
    have hnm : name9 (i : Int) = (tab9[i]!).1 := by unfold name9 row9; rw [if_pos (by omega), Int.toNat_natCast]
    have hrec := ih f (i + 1) (by omega) (by omega)
    rw [atF] at hrec
    rw [shunterlaw09_CodeTexts_l3, if_pos (by rw [tab9_len]; omega), ck_pos _ (by rw [tab9_len]; omega), Int.toNat_natCast, Find, Option.bind_some, find_one i (by omega), Name, Option.bind_some, hnm, ck_pos _ (by rw [tab9_len]; omega), if_neg (fun q => q rfl), if_pos rfl, if_neg (fun q => q rfl), shunterlaw09_CodeTexts_k4, ck_pos _ (by rw [tab9_len]; omega), Int.toNat_natCast]
    by_cases c : (tab9[i]!).1 = s
    · rw [if_pos c] at hrec
      rw [if_pos c, ck_pos _ (by omega), e1]; exact hrec
    · rw [if_neg c] at hrec
      rw [if_neg c, ck_pos _ (by omega), e1]; exact hrec
theorem codeTexts_true {N : Nat} (hN : 300 < N) (S : Code9 N) (Name : ∀ o, code_Name_m N o = some (name9 o)) (Find : ∀ s, code_Find_m N s = some (find9 s)) (o a b w : Int) (x : BitVec 128) (ha : I64 a) (hb : I64 b) (s : List UInt8) : shunterlaw09_CodeTexts_m N o a b w x s = some true := by
  unfold shunterlaw09_CodeTexts_m
  rw [table_s, Option.bind_some]
  exact texts_loop S Name Find o a b w x ha hb s 35 N 0 (by omega) (by omega)
end Go.Proofs.YtmfedgmmgehmgaaDoor
