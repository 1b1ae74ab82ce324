/- The reference of layer 6: its scan is the definition's. Conditions: none. -/
import Derived.Test.YtmdjifehblijkaaLxN
namespace Go.Proofs.Ytmdjifehblijkaa
open Go Go.RowKit Go.Eng
/-- a token and its place, as data -/
def flat6 (d : TokD × Int) : Int × List UInt8 × Int × Int × BitVec 128 × Int := (d.1.1, d.1.2.1, d.1.2.2.1, d.1.2.2.2.1, d.1.2.2.2.2, d.2)
/-- what a scan answers that has read some tokens -/
def out6 (l1 : List (Int × List UInt8 × Int × Int × BitVec 128 × Int)) (r : List (TokD × Int) × Int × Int) : List (Int × List UInt8 × Int × Int × BitVec 128 × Int) × Int × Int :=
  if r.2.2 ≠ 0 then ([], r.2.1, r.2.2) else (l1 ++ r.1.map flat6, 0, 0)
def scanG (n : Nat) (t : List UInt8) : List (TokD × Int) × Int × Int := scanF numS6 n (t.length + 1) t
theorem scanG_bad {n : Nat} {t : List UInt8} (ht : t ≠ []) (h : (tokL numS6 t).2.1 ≠ 0) : scanG n t = ([], (n : Int) - (t.length : Int), (tokL numS6 t).2.1) := by
  unfold scanG; rw [scanF, if_neg ht, if_pos h]
theorem scanG_good {n : Nat} {t : List UInt8} (ht : t ≠ []) (h : (tokL numS6 t).2.1 = 0) (l1 : List (Int × List UInt8 × Int × Int × BitVec 128 × Int)) :
    out6 l1 (scanG n t) = out6 (l1 ++ [flat6 ((tokL numS6 t).1, (n : Int) - (t.length : Int))]) (scanG n (skipR false (t.drop (tokL numS6 t).2.2))) := by
  have hw := tokL_w ht h
  have hl := skipR_len false (t.drop (tokL numS6 t).2.2)
  rw [List.length_drop] at hl
  have e : scanF numS6 n t.length (skipR false (t.drop (tokL numS6 t).2.2)) = scanG n (skipR false (t.drop (tokL numS6 t).2.2)) := by
    unfold scanG; exact scanF_ge n _ _ _ (by omega) (by omega)
  have e2 : scanG n t = if (scanG n (skipR false (t.drop (tokL numS6 t).2.2))).2.2 ≠ 0 then ([], (scanG n (skipR false (t.drop (tokL numS6 t).2.2))).2.1, (scanG n (skipR false (t.drop (tokL numS6 t).2.2))).2.2)
      else (((tokL numS6 t).1, (n : Int) - (t.length : Int)) :: (scanG n (skipR false (t.drop (tokL numS6 t).2.2))).1, 0, 0) := by
    rw [← e]
    conv => lhs; unfold scanG; rw [scanF, if_neg ht, if_neg (by rw [h]; simp)]
  rw [e2]
  by_cases hq : (scanG n (skipR false (t.drop (tokL numS6 t).2.2))).2.2 ≠ 0
  · rw [if_pos hq]
    unfold out6
    rw [if_pos hq, if_pos hq]
  · rw [if_neg hq]
    unfold out6
    rw [if_neg hq, if_neg (by simp), List.map_cons, List.append_assoc]; rfl
section
variable (N : Nat) (s : List UInt8) (hs : s.length ≤ 100000) (hN : s.length < N)
include hs hN
/-- Behind a token. -/
theorem scan_on {f p w : Nat} (hp : p < s.length) (hw : p + w ≤ s.length) (l1 : List (Int × List UInt8 × Int × Int × BitVec 128 × Int)) (d : TokD)
    (htok : tokL numS6 (s.drop p) = (d, 0, w))
    (ih : ∀ (q : Nat) (l : List (Int × List UInt8 × Int × Int × BitVec 128 × Int)), p < q → q ≤ s.length → l.length ≤ q → shunterref06_Scan_l3 N s f l (q : Int) = some (out6 l (scanG s.length (s.drop q)))) (hl1 : l1.length ≤ p) :
    ((shunterref06_Skip_m N s ((p + w : Nat) : Int)).bind fun r => shunterref06_Scan_l3 N s f (l1 ++ [flat6 (d, (p : Int))]) r) = some (out6 l1 (scanG s.length (s.drop p))) := by
  have hne : s.drop p ≠ [] := fun e => by have := congrArg List.length e; rw [List.length_drop, List.length_nil] at this; omega
  have hld := List.length_drop (i := p) (l := s)
  have h0 : (tokL numS6 (s.drop p)).2.1 = 0 := by rw [htok]
  have hww := tokL_w hne h0
  rw [htok] at hww
  have hww' : 1 ≤ w := hww.1
  have hge := skipP_ge false s (p + w) hw
  rw [refskip_s N s hs hN (p + w) hw, Option.bind_some, ih _ _ (by omega) (skipP_le _ _ _) (by rw [List.length_append, List.length_singleton]; omega), skipP_drop, scanG_good hne h0 l1, htok]
  have hat : (s.length : Int) - ((s.drop p).length : Int) = (p : Int) := by rw [hld]; omega
  rw [hat, List.drop_drop]
theorem scan_loop : ∀ (k f p : Nat) (l1 : List (Int × List UInt8 × Int × Int × BitVec 128 × Int)), s.length - p ≤ k → k < f → p ≤ s.length → l1.length ≤ p → shunterref06_Scan_l3 N s f l1 (p : Int) = some (out6 l1 (scanG s.length (s.drop p))) := by
  intro k
  induction k using Nat.strongRecOn with
  | _ k ihk =>
  intro f p l1 hk hf hp hl1
  obtain ⟨f, rfl⟩ : ∃ j, f = j + 1 := ⟨f - 1, by omega⟩
  by_cases h : p < s.length
  · have hne : s.drop p ≠ [] := fun e => by have := congrArg List.length e; rw [List.length_drop, List.length_nil] at this; omega
    have hld := List.length_drop (i := p) (l := s)
    have ih : ∀ (q : Nat) (l : List (Int × List UInt8 × Int × Int × BitVec 128 × Int)), p < q → q ≤ s.length → l.length ≤ q → shunterref06_Scan_l3 N s f l (q : Int) = some (out6 l (scanG s.length (s.drop q))) := fun q l h1 h2 h3 => ihk (s.length - q) (by omega) f q l (Nat.le_refl _) (by omega) h2 h3
    have hat : (s.length : Int) - ((s.drop p).length : Int) = (p : Int) := by rw [hld]; omega
    have bad : ∀ e : Int, e ≠ 0 → (tokL numS6 (s.drop p)).2.1 = e → some (([] : List (Int × List UInt8 × Int × Int × BitVec 128 × Int)), (p : Int), e) = some (out6 l1 (scanG s.length (s.drop p))) := fun e he ht => by
      rw [scanG_bad hne (by rw [ht]; exact he), ht, hat]
      unfold out6; rw [if_pos he]
    have cut : ∀ w : Nat, (s.take (((p + w : Nat) : Int)).toNat).drop ((p : Int)).toNat = (s.drop p).take w := fun w => by
      rw [Int.toNat_natCast, Int.toNat_natCast, List.drop_take]; congr 1; omega
    rw [shunterref06_Scan_l3, if_pos (by omega), ck_pos _ (by omega), Int.toNat_natCast, first_s N _ hne, Option.bind_some]
    refine (mark_chain ((dec (s.drop p)).1 : Int) (fun b => shunterref06_Scan_k5 N s l1 (p : Int) (shunterref06_Scan_l3 N s f) (((dec (s.drop p)).1 : Int), ((dec (s.drop p)).2 : Int)) b)).trans ?_
    unfold shunterref06_Scan_k5
    by_cases hm : markR ((dec (s.drop p)).1 : Int) = true
    · rw [if_pos hm, show (p : Int) + 1 = ((p + 1 : Nat) : Int) by omega, ck_pos _ (by omega), ck_pos _ (by omega), ck_pos _ (by simp only [List.length_singleton]; omega), ck_pos _ (by omega), cut]
      exact scan_on N s hs hN h (by omega) l1 (0, (s.drop p).take 1, 0, 0, 0#128) (by unfold tokL; rw [if_pos hm]) ih hl1
    rw [if_neg hm, refletter_s, Option.bind_some]
    have hrun : ∀ w : Bool, shunterref06_Scan_k6 N s l1 (p : Int) (shunterref06_Scan_l3 N s f) w = shunterref06_Scan_k8 N s l1 (p : Int) (shunterref06_Scan_l3 N s f) w ((p + spanL (runP w) (s.drop p) : Nat) : Int) := fun w => by
      unfold shunterref06_Scan_k6; exact scan_inner N s hs l1 _ _ w s.length N p (by omega) hN hp
    by_cases hl : letR ((dec (s.drop p)).1 : Int) = true
    · have hsp := spanL_le inR (s.drop p)
      rw [if_pos hl, hrun, hl]
      show shunterref06_Scan_k8 N s l1 (p : Int) (shunterref06_Scan_l3 N s f) true ((p + spanL inR (s.drop p) : Nat) : Int) = _
      unfold shunterref06_Scan_k8
      rw [if_pos rfl, ck_pos _ (by omega), cut, refmay_s N _ (by rw [List.length_take, hld]; omega) (by rw [List.length_take, hld]; omega), Option.bind_some]
      by_cases hy : mayL (runesL ((s.drop p).take (spanL inR (s.drop p)))) = true
      · rw [if_pos hy, ck_pos _ (by omega), ck_pos _ (by simp only [List.length_singleton]; omega)]
        exact scan_on N s hs hN h (by omega) l1 (1, (s.drop p).take (spanL inR (s.drop p)), 0, 0, 0#128) (by unfold tokL; rw [if_neg hm, if_pos hl, if_pos hy]) ih hl1
      · rw [if_neg hy]
        exact bad 2 (by decide) (by unfold tokL; rw [if_neg hm, if_pos hl, if_neg hy])
    rw [if_neg hl, refdigit_s, Option.bind_some]
    by_cases hd : digR ((dec (s.drop p)).1 : Int) = true
    · have hsp := spanL_le numR (s.drop p)
      rw [if_pos hd, hrun, show letR ((dec (s.drop p)).1 : Int) = false by simpa using hl]
      show shunterref06_Scan_k8 N s l1 (p : Int) (shunterref06_Scan_l3 N s f) false ((p + spanL numR (s.drop p) : Nat) : Int) = _
      unfold shunterref06_Scan_k8
      rw [if_neg (by decide), ck_pos _ (by omega), cut, refnum_s N _ _ (by rw [List.length_take, hld]; omega) (by rw [List.length_take, hld]; omega), Option.bind_some]
      by_cases hy : (numS6 ((s.drop p).take (spanL numR (s.drop p)))).2 = 0
      · rw [if_neg (fun hh => hh hy), ck_pos _ (by simp only [List.length_singleton]; omega)]
        exact scan_on N s hs hN h (by omega) l1 (numS6 ((s.drop p).take (spanL numR (s.drop p)))).1 (by unfold tokL; rw [if_neg hm, if_neg hl, if_pos hd, if_pos hy]) ih hl1
      · rw [if_pos hy]
        exact bad _ hy (by unfold tokL; rw [if_neg hm, if_neg hl, if_pos hd, if_neg hy])
    · rw [if_neg hd]
      exact bad 4 (by decide) (by unfold tokL; rw [if_neg hm, if_neg hl, if_neg hd])
  · rw [shunterref06_Scan_l3, if_neg (by omega), List.drop_of_length_le (by omega)]
    show some (l1, 0, 0) = some (out6 l1 ([], 0, 0))
    unfold out6; rw [if_neg (by simp), List.map_nil, List.append_nil]
theorem refscan_s : shunterref06_Scan_m N s = some (out6 [] (scanL numS6 s)) := by
  unfold shunterref06_Scan_m scanL
  by_cases h : s.length > 16384
  · rw [if_pos (by omega), if_pos h]; rfl
  · rw [if_neg (by omega), if_neg h]
    have h0 := refskip_s N s hs hN 0 (by omega)
    have h0' : shunterref06_Skip_m N s 0 = some ((skipP false s 0 : Nat) : Int) := h0
    have hl := skipR_len false s
    rw [h0', Option.bind_some, scan_loop N s hs hN s.length N _ [] (by omega) hN (skipP_le _ _ _) (Nat.zero_le _), skipP_drop, List.drop_zero]
    congr 2
    unfold scanG; exact scanF_ge _ _ _ _ (by omega) (by omega)
end
end Go.Proofs.Ytmdjifehblijkaa
