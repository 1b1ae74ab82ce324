/- Layer 19: the law ExactPlays answers true. Conditions: fuel 1000. -/
import Derived.Test.YtnpbpllibmcokaaOd
import Derived.Test.YtnpbpllibmcokaaLExactPlays
namespace Go.Proofs.Ytnpbpllibmcokaa
open Go Go.RowKit Go.Eng
section
variable {most : Nat} {s l : List It}
theorem lives19_s : shunterlaw19_lives_m 1000 = some true := by decide +kernel
theorem newOr_zero {p : Int × List It} (h : p.1 = 0) : newOr p = .t0 p.2 := if_pos h
theorem newOr_ne {p : Int × List It} (h : p.1 ≠ 0) : newOr p = .nil := if_neg h
theorem putL_same {m : Int} {k0 : Int} {k1 : BitVec 128} {n : Int} (h : (putL m l k0 k1 n).1 ≠ 0) : (putL m l k0 k1 n).2 = l := by
  revert h; unfold putL; split
  · split
    · exact fun _ => rfl
    · split
      · exact fun _ => rfl
      · exact fun h => absurd rfl h
  · exact fun _ => rfl
theorem setL_same {k0 : Int} {k1 : BitVec 128} {n : Int} (h : (setL l k0 k1 n).1 ≠ 0) : (setL l k0 k1 n).2 = l := by
  revert h; unfold setL; split
  · split
    · exact fun h => absurd rfl h
    · exact fun _ => rfl
  · exact fun _ => rfl
theorem dropL_same {k0 : Int} {k1 : BitVec 128} (h : (dropL l k0 k1).1 ≠ 0) : (dropL l k0 k1).2 = l := by
  revert h; unfold dropL; split
  · split
    · exact fun h => absurd rfl h
    · exact fun _ => rfl
  · exact fun _ => rfl
/-- The list behind a step: the one ahead, or another one. -/
def SumRow41.list (r : SumRow41) (l : List It) : List It := r.on l (fun x => x)
theorem newOr_list {p : Int × List It} (h : p.1 ≠ 0 → p.2 = l) : (newOr p).list l = p.2 := by
  by_cases hz : p.1 = 0
  · rw [newOr_zero hz]; rfl
  · rw [newOr_ne hz, h hz]; rfl
/-- One step on both. -/
theorem step_s {N : Nat} (hN : 600 ≤ N) (hm : most ≤ 256) (h : Holds most s l) (o0 o1 o2 : Int) (o3 : BitVec 128) :
    ∃ r s', shunterlaw19_step_v1_m N s (l.length : Int) (most : Int) l (most : Int) o0 o1 o2 o3 = some (r, true, s', (((r.list l).length : Nat) : Int), (most : Int)) ∧ Holds most s' (r.list l) := by
  have hl : l.length ≤ 256 := by have := h.le; omega
  have hlen := h.len
  unfold shunterlaw19_step_v1_m
  by_cases h0 : o0 = 0
  · rw [if_pos h0, rput_s hN _ _ _ _ hl, Option.bind_some]
    obtain ⟨s', hp, hh⟩ := put_s hN hm h o2 o3 o1
    have hll := newOr_list (p := putL (most : Int) l o2 o3 o1) (l := l) putL_same
    have hlen' := hh.len
    generalize putL (most : Int) l o2 o3 o1 = p at *
    refine ⟨newOr p, s', ?_, by rw [hll]; exact hh⟩
    rw [hll, hp]
    by_cases hz : p.1 = 0
    · rw [newOr_zero hz]
      show (ck (s'.length = s.length) _) = _
      rw [ck_pos _ (by omega)]; simp
    · rw [newOr_ne hz]
      show (ck (s'.length = s.length) _) = _
      rw [ck_pos _ (by omega)]; simp
  rw [if_neg h0]
  by_cases h1 : o0 = 1
  · rw [if_pos h1, rset_s hN _ _ _ hl, Option.bind_some]
    obtain ⟨s', hp, hh⟩ := set_s hN hm h o2 o3 o1
    have hll := newOr_list (p := setL l o2 o3 o1) (l := l) setL_same
    have hlen' := hh.len
    generalize setL l o2 o3 o1 = p at *
    refine ⟨newOr p, s', ?_, by rw [hll]; exact hh⟩
    rw [hll, hp]
    by_cases hz : p.1 = 0
    · rw [newOr_zero hz]
      show (ck (s'.length = s.length) _) = _
      rw [ck_pos _ (by omega)]; simp
    · rw [newOr_ne hz]
      show (ck (s'.length = s.length) _) = _
      rw [ck_pos _ (by omega)]; simp
  rw [if_neg h1]
  by_cases h2 : o0 = 2
  · rw [if_pos h2, rdrop_s hN _ _ hl, Option.bind_some]
    obtain ⟨s', hp, hh⟩ := drop_s hN hm h o2 o3
    have hll := newOr_list (p := dropL l o2 o3) (l := l) dropL_same
    have hlen' := hh.len
    generalize dropL l o2 o3 = p at *
    refine ⟨newOr p, s', ?_, by rw [hll]; exact hh⟩
    rw [hll, hp]
    by_cases hz : p.1 = 0
    · rw [newOr_zero hz]
      show (ck (s'.length = s.length) _) = _
      rw [ck_pos _ (by omega)]; simp
    · rw [newOr_ne hz]
      show (ck (s'.length = s.length) _) = _
      rw [ck_pos _ (by omega)]; simp
  rw [if_neg h2, get_s hN hm h, Option.bind_some, rmay19_s, Option.bind_some]
  refine ⟨.nil, s, ?_, h⟩
  unfold getL
  cases hk : mayI o2 o3 with
  | false => rfl
  | true =>
    rw [if_pos rfl, if_pos rfl, rfind_s hN _ _ hl, Option.bind_some]
    unfold fiI shunterlaw19_step_v1_k2
    cases hf : fi l o2 o3 with
    | none => rfl
    | some i =>
      obtain ⟨hi, _⟩ := fi_some hf
      simp only []
      rw [if_neg (by omega), ck_pos _ ⟨by omega, by omega⟩, Int.toNat_natCast, if_pos rfl]; rfl
theorem room_s {N : Nat} (hl : l.length ≤ most) (hm : most ≤ 1000) (s : List It) : exact_Map_Room_v1_m N s (l.length : Int) (most : Int) = some ((most : Int) - (l.length : Int)) := by
  unfold exact_Map_Room_v1_m; exact ck_pos _ ⟨by omega, by omega⟩
theorem k8_s (hl : l.length ≤ most) (i : Nat) (rec : List It → Int → List It → Int → Int → Option Bool) (x : SumRow41) (s' : List It) (hi : i ≤ 1000 ∧ most ≤ 1000) :
    ((exact_Map_Len_v1_m 1000 s' (l.length : Int) (most : Int)).bind fun r53 => shunterlaw19_ExactPlays_k8 1000 (most : Int) l (i : Int) rec (x, true, s', (l.length : Int), (most : Int)) (r53 != (l.length : Int))) = rec l ((i + 1 : Nat) : Int) s' (l.length : Int) (most : Int) := by
  unfold exact_Map_Len_v1_m shunterlaw19_ExactPlays_k8
  rw [Option.bind_some, if_neg (by simp)]
  show ((exact_Map_Room_v1_m 1000 s' (l.length : Int) (most : Int)).bind fun r49 => ck ((-9223372036854775808 ≤ ((most : Int) - (l.length : Int)) ∧ ((most : Int) - (l.length : Int)) ≤ 9223372036854775807)) (shunterlaw19_ExactPlays_k9 l (i : Int) rec (x, true, s', (l.length : Int), (most : Int)) ((r49 != ((most : Int) - (l.length : Int)))))) = _
  rw [room_s hl hi.2, Option.bind_some, ck_pos _ ⟨by omega, by omega⟩]
  unfold shunterlaw19_ExactPlays_k9
  rw [if_neg (by simp), ck_pos _ ⟨by omega, by omega⟩]
  rfl
theorem k10_s {x : List It} (hl : x.length ≤ most) (i : Nat) (rec : List It → Int → List It → Int → Int → Option Bool) (s' : List It) (hi : i ≤ 1000 ∧ most ≤ 1000) :
    ((exact_Map_Len_v1_m 1000 s' (x.length : Int) (most : Int)).bind fun r56 => shunterlaw19_ExactPlays_k10 1000 (most : Int) (i : Int) rec (.t0 x, true, s', (x.length : Int), (most : Int)) x (r56 != (x.length : Int))) = rec x ((i + 1 : Nat) : Int) s' (x.length : Int) (most : Int) := by
  unfold exact_Map_Len_v1_m shunterlaw19_ExactPlays_k10
  rw [Option.bind_some, if_neg (by simp)]
  show ((exact_Map_Room_v1_m 1000 s' (x.length : Int) (most : Int)).bind fun r49 => ck ((-9223372036854775808 ≤ ((most : Int) - (x.length : Int)) ∧ ((most : Int) - (x.length : Int)) ≤ 9223372036854775807)) (shunterlaw19_ExactPlays_k11 (i : Int) rec (.t0 x, true, s', (x.length : Int), (most : Int)) x ((r49 != ((most : Int) - (x.length : Int)))))) = _
  rw [room_s hl hi.2, Option.bind_some, ck_pos _ ⟨by omega, by omega⟩]
  unfold shunterlaw19_ExactPlays_k11
  rw [if_neg (by simp), ck_pos _ ⟨by omega, by omega⟩]
  rfl
theorem plays_l (hm : most ≤ 256) (ops : List (Int × Int × Int × BitVec 128)) (hops : ops.length ≤ 600) : ∀ (fuel i : Nat) (s l : List It), i ≤ ops.length → ops.length - i < fuel → Holds most s l →
    shunterlaw19_ExactPlays_l7 1000 (most : Int) ops fuel l (i : Int) s (l.length : Int) (most : Int) = some true := by
  intro fuel
  induction fuel with
  | zero => intro i s l _ h; omega
  | succ n ih =>
    intro i s l hi hfu h
    rw [shunterlaw19_ExactPlays_l7]
    by_cases hc : i < ops.length
    · rw [if_pos (by omega), ck_pos _ ⟨by omega, by omega⟩]
      obtain ⟨r, s', hs, hh⟩ := step_s (N := 1000) (by omega) hm h (ops[(i : Int).toNat]!).1 (ops[(i : Int).toNat]!).2.1 (ops[(i : Int).toNat]!).2.2.1 (ops[(i : Int).toNat]!).2.2.2
      have hlen := h.len
      have hlen' := hh.len
      have hle := hh.le
      rw [hs, Option.bind_some]
      rw [ck_pos _ (by show s'.length = _; omega)]
      have hn := ih (i + 1) s' (r.list l) (by omega) (by omega) hh
      cases r with
      | nil => exact (k8_s hle i _ _ s' (by omega)).trans hn
      | t0 x => exact (k10_s hle i _ s' (by omega)).trans hn
    · rw [if_neg (by omega), lives19_s]; rfl
theorem exactPlays_true (most : Int) (ops : List (Int × Int × Int × BitVec 128)) : shunterlaw19_ExactPlays_m 1000 most ops = some true := by
  unfold shunterlaw19_ExactPlays_m
  rw [new_s, Option.bind_some]
  by_cases h1 : most < 1
  · rw [if_pos (.inl h1)]
    show (if most < 1 then _ else _) = _
    rw [if_pos h1]; unfold shunterlaw19_ExactPlays_k1; rw [if_pos rfl, lives19_s]; rfl
  by_cases h2 : most > 256
  · rw [if_pos (.inr h2)]
    show (if most < 1 then _ else _) = _
    rw [if_neg h1]; unfold shunterlaw19_ExactPlays_k1; rw [if_pos (by simpa using h2), lives19_s]; rfl
  rw [if_neg (by omega)]
  show (if most < 1 then _ else _) = _
  rw [if_neg h1]
  unfold shunterlaw19_ExactPlays_k2
  rw [if_neg (by simpa using h2)]
  obtain ⟨m, rfl⟩ : ∃ m : Nat, most = (m : Int) := ⟨most.toNat, by omega⟩
  by_cases h3 : (ops.length : Int) > 600
  · rw [if_pos h3, lives19_s]; rfl
  · rw [if_neg h3]
    have e : (2 * (m : Int)).toNat = 2 * m := by omega
    rw [e]
    exact plays_l (by omega) ops (by omega) 1000 0 _ [] (by omega) (by omega) (holds_nil (by omega))
end
end Go.Proofs.Ytnpbpllibmcokaa
