/- Layer 6: the law of what was joined and scanned again. Conditions: none but those written. Program: Tryd. -/
import Derived.Test.YtmdjifehblijkaaDoorPx
import Derived.Test.YtmdjifehblijkaaDoorLLexBack
namespace Go.Proofs.YtmdjifehblijkaaDoor
open Go Go.RowKit Go.Eng
theorem i64_0 : I64 0 := by unfold I64; decide
theorem intS_fair (t : List UInt8) (b : Int) (h : (intS t b).2 = 0) : (intS t b).1.2.1 = [] ∧ I64 (intS t b).1.2.2.1 := by
  obtain ⟨h1, h2⟩ := intS_ok h
  rw [h2]
  refine ⟨rfl, ?_, ?_⟩
  · show (-9223372036854775808 : Int) ≤ (((parseR t b).1.toNat : Nat) : Int); omega
  · show (((parseR t b).1.toNat : Nat) : Int) ≤ 9223372036854775807; omega
theorem numS6_fair (t : List UInt8) (h : (numS6 t).2 = 0) : (numS6 t).1.2.1 = [] ∧ I64 (numS6 t).1.2.2.1 := by
  unfold numS6 at h ⊢
  by_cases h1 : apos t < t.length
  · rw [if_pos h1]; exact ⟨rfl, i64_0⟩
  · rw [if_neg h1] at h ⊢
    split at h
    · rename_i h2; rw [if_pos h2]; exact intS_fair _ _ h
    · rename_i h2; rw [if_neg h2]; exact intS_fair _ _ h
theorem tokL_fair (t : List UInt8) (h : (tokL numS6 t).2.1 = 0) : (tokL numS6 t).1.2.1.length ≤ t.length ∧ I64 (tokL numS6 t).1.2.2.1 := by
  unfold tokL at h ⊢
  split at h
  · rename_i g; rw [if_pos g]
    exact ⟨by show (t.take 1).length ≤ _; rw [List.length_take]; omega, i64_0⟩
  · rename_i g; rw [if_neg g]
    split at h
    · rename_i g2; rw [if_pos g2]
      split at h
      · rename_i g3; rw [if_pos g3]
        exact ⟨by show (t.take _).length ≤ _; rw [List.length_take]; omega, i64_0⟩
      · cases h
    · rename_i g2; rw [if_neg g2]
      split at h
      · rename_i g3; rw [if_pos g3]
        split at h
        · rename_i g4; rw [if_pos g4]
          obtain ⟨h1, h2⟩ := numS6_fair _ g4
          refine ⟨?_, h2⟩
          show (numS6 _).1.2.1.length ≤ _
          rw [h1]; exact Nat.zero_le _
        · rename_i g4; exact absurd h g4
      · cases h
theorem scanF_fair (n : Nat) : ∀ (f : Nat) (t : List UInt8), ∀ d ∈ (scanF numS6 n f t).1, d.1.2.1.length ≤ t.length ∧ I64 d.1.2.2.1
  | 0, _, d, hd => by cases hd
  | f + 1, t, d, hd => by
    rw [scanF] at hd
    by_cases ht : t = []
    · rw [if_pos ht] at hd; cases hd
    rw [if_neg ht] at hd
    by_cases hz : (tokL numS6 t).2.1 ≠ 0
    · rw [if_pos hz] at hd; cases hd
    rw [if_neg hz] at hd
    have hl := skipR_len false (t.drop (tokL numS6 t).2.2)
    rw [List.length_drop] at hl
    split at hd
    · cases hd
    · rcases List.mem_cons.1 hd with rfl | hd
      · exact tokL_fair t (by simpa using hz)
      · obtain ⟨h1, h2⟩ := scanF_fair n f _ d hd
        exact ⟨by omega, h2⟩
theorem scanL_fair (s : List UInt8) : ∀ d ∈ (scanL numS6 s).1, d.1.2.1.length ≤ s.length ∧ I64 d.1.2.2.1 := by
  intro d hd
  unfold scanL at hd
  split at hd
  · cases hd
  · obtain ⟨h1, h2⟩ := scanF_fair _ _ _ d hd
    have := skipR_len false s
    exact ⟨by omega, h2⟩
theorem joinR_flat (l : List (TokD × Int)) : joinR (l.map flat6) = joinL txt6 (l.map (·.1)) := by
  unfold joinR
  rw [List.map_map]; rfl
theorem back_l3 (N : Nat) (hN : 2000 < N) (r9 r29 : R6 × Sum25) (t : List UInt8) (h : r9.1.map dOf = r29.1.map dOf) (hl : r9.1.length ≤ 2000) (hf : ∀ r ∈ r29.1, Fair r) (ht : joinR r29.1 = t) :
    ∀ (m f i : Nat), r9.1.length ≤ i + m → m < f → shunterlaw06_LexBack_l3 N r9 t r29 f (i : Int) = some true := by
  have hlen : r9.1.length = r29.1.length := by have := congrArg List.length h; rwa [List.length_map, List.length_map] at this
  have fin : ((lex_Join_m N r29.1).bind fun r63 => if r63 = t then (shunterlaw06_lives_m N).bind fun r66 => some r66 else some false) = some true := by
    rw [join_s N r29.1 (by omega) (by omega) hf, Option.bind_some, if_pos ht, lives_s N (by omega)]; rfl
  intro m
  induction m with
  | zero =>
    intro f i hm hf
    obtain ⟨f, rfl⟩ : ∃ n, f = n + 1 := ⟨f - 1, by omega⟩
    rw [shunterlaw06_LexBack_l3, if_neg (by omega)]
    exact fin
  | succ m ih =>
    intro f i hm hf
    obtain ⟨f, rfl⟩ : ∃ n, f = n + 1 := ⟨f - 1, by omega⟩
    by_cases hi : i < r9.1.length
    · have hi' : i < r29.1.length := by omega
      have key : dOf r9.1[i] = dOf r29.1[i] := by
        have := List.getElem_of_eq h (i := i) (by rw [List.length_map]; omega)
        rwa [List.getElem_map, List.getElem_map] at this
      unfold dOf at key
      simp only [Prod.mk.injEq] at key
      obtain ⟨k1, k2, k3, k4, k5⟩ := key
      rw [shunterlaw06_LexBack_l3, getI hi, getI hi', k1, k2, k3, k4, k5, if_pos (by omega), ck_pos _ (by omega), ck_pos _ (by omega), if_neg (fun hh => hh rfl), ck_pos _ (by omega), ck_pos _ (by omega), if_neg (fun hh => hh rfl), ck_pos _ (by omega), ck_pos _ (by omega), if_neg (fun hh => hh rfl), ck_pos _ (by omega), ck_pos _ (by omega), if_pos (by simp), ck_pos _ (by omega), show (i : Int) + 1 = ((i + 1 : Nat) : Int) by omega]
      exact ih f (i + 1) (by omega) (by omega)
    · rw [shunterlaw06_LexBack_l3, if_neg (by omega)]
      exact fin
theorem fair_flat (s : List UInt8) (hs : s.length ≤ 1500) : ∀ r ∈ (scanL numS6 s).1.map flat6, Fair r := by
  intro r hr
  obtain ⟨d, hd, rfl⟩ := List.mem_map.1 hr
  obtain ⟨h1, h2⟩ := scanL_fair s d hd
  exact ⟨by show d.1.2.1.length ≤ 2000; omega, h2⟩
theorem back_s (N : Nat) (hN : 30000 < N) (s : List UInt8) : shunterlaw06_LexBack_m N s = some true := by
  unfold shunterlaw06_LexBack_m
  have hlv := lives_s N (by omega)
  by_cases hs : (s.length : Int) > 1500
  · rw [if_pos hs, hlv]; rfl
  rw [if_neg hs, pscan_s N s (by omega) (by omega), Option.bind_some]
  have hl := scanL_len s
  by_cases h : (scanL numS6 s).2.2 = 0
  · rw [out_ok h, onN]
    have hf := fair_flat s (by omega)
    have hll : ((scanL numS6 s).1.map flat6).length ≤ 1500 := by rw [List.length_map]; omega
    dsimp only
    rw [join_s N _ (by omega) (by omega) hf, Option.bind_some]
    by_cases ht : (((joinR ((scanL numS6 s).1.map flat6)).length : Nat) : Int) > 16384
    · rw [if_pos ht, hlv]; rfl
    rw [if_neg ht, pscan_s N _ (by omega) (by omega), Option.bind_some]
    have hj := joinR_flat (scanL numS6 s).1
    obtain ⟨b1, b2⟩ := scan_back numOk6 s h (by rw [← hj]; omega)
    rw [← hj] at b1 b2
    have h2 : (scanL numS6 (joinR ((scanL numS6 s).1.map flat6))).2.2 = 0 := by rw [b1]
    have e1 : ((scanL numS6 (joinR ((scanL numS6 s).1.map flat6))).1.map flat6).map dOf = ((scanL numS6 s).1.map flat6).map dOf := by
      rw [List.map_map, List.map_map]; exact b2
    have e2 : (scanL numS6 (joinR ((scanL numS6 s).1.map flat6))).1.length = (scanL numS6 s).1.length := by have := congrArg List.length b2; rwa [List.length_map, List.length_map] at this
    rw [out_ok h2, onN]
    dsimp only
    rw [if_neg (fun hh => hh (by rw [List.length_map, List.length_map, e2]))]
    unfold shunterlaw06_LexBack_k1
    refine back_l3 N (by omega) _ _ _ e1.symm (by show List.length (List.map _ _) ≤ _; omega) (fun r hr => ?_) ?_ s.length N 0 (by show List.length (List.map _ _) ≤ _; rw [List.length_map]; omega) (by omega)
    · have hr' : dOf r ∈ ((scanL numS6 s).1.map flat6).map dOf := by rw [← e1]; exact List.mem_map_of_mem hr
      obtain ⟨q, hq, e⟩ := List.mem_map.1 hr'
      have hq' := hf q hq
      unfold dOf at e
      simp only [Prod.mk.injEq] at e
      unfold Fair at hq' ⊢
      rw [← e.2.1, ← e.2.2.1]; exact hq'
    · show joinR _ = joinR _
      unfold joinR
      rw [show List.map dOf (List.map flat6 (scanL numS6 (joinL txt6 (List.map dOf (List.map flat6 (scanL numS6 s).1)))).1) = List.map dOf (List.map flat6 (scanL numS6 s).1) from e1]
  · rw [out_bad h, onT]
    dsimp only
    rw [if_pos (by rfl), hlv]; rfl
end Go.Proofs.YtmdjifehblijkaaDoor
