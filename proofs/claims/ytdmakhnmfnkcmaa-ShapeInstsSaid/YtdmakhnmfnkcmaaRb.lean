/- The reference of layer 5: the first rune. Conditions: none.  Program: Try. -/
import Derived.Test.YtdmakhnmfnkcmaaRa
import Derived.Test.YtdmakhnmfnkcmaaBc
namespace Go.Proofs.Ytdmakhnmfnkcmaa
open Go Go.RowKit Go.Eng
theorem more_s (N : Nat) (c : UInt8) : shunterref05_more_m N c = some (decide (cont c.toNat)) := by
  unfold shunterref05_more_m cont
  by_cases h : ((c.toNat : Nat) : Int) ≥ 128
  · rw [if_pos h]; refine congrArg some (decide_eq_decide.mpr ?_); omega
  · rw [if_neg h]; exact congrArg some (decide_eq_false (by omega)).symm
section
variable (N : Nat) (s : List UInt8)
def c4 (s : List UInt8) : Int := 262144 * ((((byteN s 0).toNat : Nat) : Int) - 240) + 4096 * ((((byteN s 1).toNat : Nat) : Int) - 128) + 64 * ((((byteN s 2).toNat : Nat) : Int) - 128) + (((byteN s 3).toNat : Nat) : Int) - 128
def c3 (s : List UInt8) : Int := 4096 * ((((byteN s 0).toNat : Nat) : Int) - 224) + 64 * ((((byteN s 1).toNat : Nat) : Int) - 128) + (((byteN s 2).toNat : Nat) : Int) - 128
def c2 (s : List UInt8) : Int := 64 * ((((byteN s 0).toNat : Nat) : Int) - 192) + (((byteN s 1).toNat : Nat) : Int) - 128
def v4 (s : List UInt8) (x : Bool) : Int × Int := if x = true ∧ 65536 ≤ c4 s ∧ c4 s ≤ 1114111 then (c4 s, 4) else (65533, 1)
theorem k5_s (x : Bool) (hx : x = true → 4 ≤ s.length) : shunterref05_First_k5 s x = some (v4 s x) := by
  have h0 := (byteN s 0).toNat_lt; have h1 := (byteN s 1).toNat_lt; have h2 := (byteN s 2).toNat_lt; have h3 := (byteN s 3).toNat_lt
  unfold shunterref05_First_k5 v4 c4
  by_cases h : x = true
  · have := hx h
    rw [if_pos h]
    repeat rw [ck_pos _ (by omega)]
    split
    · split
      · rw [if_pos (by refine ⟨h, ?_, ?_⟩ <;> omega)]
      · rw [if_neg (by intro h'; omega)]
    · rw [if_neg (by intro h'; omega)]
  · rw [if_neg h, if_neg (fun h' => h h'.1)]
def x4 (s : List UInt8) : Bool := decide (240 ≤ (((byteN s 0).toNat : Nat) : Int) ∧ (((byteN s 0).toNat : Nat) : Int) < 245 ∧ 4 ≤ s.length ∧ cont (byteN s 1).toNat ∧ cont (byteN s 2).toNat ∧ cont (byteN s 3).toNat)
theorem k3_s : shunterref05_First_k3 N s = some (v4 s (x4 s)) := by
  have key : ∀ x, (x = true → 4 ≤ s.length) → x = x4 s → shunterref05_First_k5 s x = some (v4 s (x4 s)) := fun x h e => by rw [k5_s s x h, e]
  unfold shunterref05_First_k3
  have no : ¬ (240 ≤ (((byteN s 0).toNat : Nat) : Int) ∧ (((byteN s 0).toNat : Nat) : Int) < 245 ∧ 4 ≤ s.length ∧ cont (byteN s 1).toNat ∧ cont (byteN s 2).toNat ∧ cont (byteN s 3).toNat) → shunterref05_First_k5 s false = some (v4 s (x4 s)) := fun h => key false (fun h => (nomatch h)) (by unfold x4; exact (decide_eq_false h).symm)
  by_cases h0 : (((byteN s 0).toNat : Nat) : Int) ≥ 240
  · rw [if_pos h0]
    by_cases h1 : (((byteN s 0).toNat : Nat) : Int) < 245
    · rw [if_pos h1]
      by_cases h2 : (s.length : Int) ≥ 4
      · rw [if_pos h2, ck_pos _ (by omega), more_s, Option.bind_some]
        by_cases g1 : cont (byteN s 1).toNat
        · rw [decide_eq_true g1, if_pos rfl, ck_pos _ (by omega), more_s, Option.bind_some]
          by_cases g2 : cont (byteN s 2).toNat
          · rw [decide_eq_true g2, if_pos rfl, ck_pos _ (by omega), more_s, Option.bind_some]
            refine key _ (fun _ => by omega) ?_
            unfold x4
            exact decide_eq_decide.mpr ⟨fun h => ⟨by omega, h1, by omega, g1, g2, h⟩, fun h => h.2.2.2.2.2⟩
          · rw [decide_eq_false g2, if_neg (by decide)]; exact no (fun h => g2 h.2.2.2.2.1)
        · rw [decide_eq_false g1, if_neg (by decide)]; exact no (fun h => g1 h.2.2.2.1)
      · rw [if_neg h2]; exact no (fun h => h2 (by omega))
    · rw [if_neg h1]; exact no (fun h => h1 h.2.1)
  · rw [if_neg h0]; exact no (fun h => h0 h.1)
def v3 (s : List UInt8) (x : Bool) : Int × Int := if x = true ∧ 2048 ≤ c3 s ∧ (c3 s < 55296 ∨ 57343 < c3 s) then (c3 s, 3) else v4 s (x4 s)
theorem k7_s (x : Bool) (hx : x = true → 3 ≤ s.length) : shunterref05_First_k7 N s x = some (v3 s x) := by
  have h0 := (byteN s 0).toNat_lt; have h1 := (byteN s 1).toNat_lt; have h2 := (byteN s 2).toNat_lt
  unfold shunterref05_First_k7 v3 c3
  rw [k3_s]
  by_cases h : x = true
  · have := hx h
    rw [if_pos h]
    repeat rw [ck_pos _ (by omega)]
    split
    · split
      · rw [if_pos (by refine ⟨h, ?_, ?_⟩ <;> omega)]
      · split
        · rw [if_pos (by refine ⟨h, ?_, ?_⟩ <;> omega)]
        · rw [if_neg (by intro h'; omega)]
    · rw [if_neg (by intro h'; omega)]
  · rw [if_neg h, if_neg (fun h' => h h'.1)]
def x3 (s : List UInt8) : Bool := decide (224 ≤ (((byteN s 0).toNat : Nat) : Int) ∧ (((byteN s 0).toNat : Nat) : Int) < 240 ∧ 3 ≤ s.length ∧ cont (byteN s 1).toNat ∧ cont (byteN s 2).toNat)
def v2 (s : List UInt8) (x : Bool) : Int × Int := if x = true then (c2 s, 2) else v3 s (x3 s)
theorem k2_s (x : Bool) (hx : x = true → 2 ≤ s.length) : shunterref05_First_k2 N s x = some (v2 s x) := by
  have g0 := (byteN s 0).toNat_lt; have g1 := (byteN s 1).toNat_lt
  unfold shunterref05_First_k2 v2 c2
  by_cases h : x = true
  · have := hx h
    rw [if_pos h, if_pos h]
    repeat rw [ck_pos _ (by omega)]
  · rw [if_neg h, if_neg h]
    have key : ∀ x, (x = true → 3 ≤ s.length) → x = x3 s → shunterref05_First_k7 N s x = some (v3 s (x3 s)) := fun x h e => by rw [k7_s N s x h, e]
    have no : ¬ (224 ≤ (((byteN s 0).toNat : Nat) : Int) ∧ (((byteN s 0).toNat : Nat) : Int) < 240 ∧ 3 ≤ s.length ∧ cont (byteN s 1).toNat ∧ cont (byteN s 2).toNat) → shunterref05_First_k7 N s false = some (v3 s (x3 s)) := fun h => key false (fun h => (nomatch h)) (by unfold x3; exact (decide_eq_false h).symm)
    by_cases h0 : (((byteN s 0).toNat : Nat) : Int) ≥ 224
    · rw [if_pos h0]
      by_cases h1 : (((byteN s 0).toNat : Nat) : Int) < 240
      · rw [if_pos h1]
        by_cases h2 : (s.length : Int) ≥ 3
        · rw [if_pos h2, ck_pos _ (by omega), more_s, Option.bind_some]
          by_cases g1 : cont (byteN s 1).toNat
          · rw [decide_eq_true g1, if_pos rfl, ck_pos _ (by omega), more_s, Option.bind_some]
            refine key _ (fun _ => by omega) ?_
            unfold x3
            exact decide_eq_decide.mpr ⟨fun h => ⟨by omega, h1, by omega, g1, h⟩, fun h => h.2.2.2.2⟩
          · rw [decide_eq_false g1, if_neg (by decide)]; exact no (fun h => g1 h.2.2.2.1)
        · rw [if_neg h2]; exact no (fun h => h2 (by omega))
      · rw [if_neg h1]; exact no (fun h => h1 h.2.1)
    · rw [if_neg h0]; exact no (fun h => h0 h.1)
def x2 (s : List UInt8) : Bool := decide (194 ≤ (((byteN s 0).toNat : Nat) : Int) ∧ (((byteN s 0).toNat : Nat) : Int) < 224 ∧ 2 ≤ s.length ∧ cont (byteN s 1).toNat)
theorem dec_v (h : s ≠ []) : (if (((byteN s 0).toNat : Nat) : Int) < 128 then ((((byteN s 0).toNat : Nat) : Int), 1) else v2 s (x2 s)) = (((dec s).1 : Int), ((dec s).2 : Int)) := by
  have e0 : s.getD 0 0 = byteN s 0 := rfl
  have e1 : s.getD 1 0 = byteN s 1 := rfl
  have e2 : s.getD 2 0 = byteN s 2 := rfl
  have e3 : s.getD 3 0 = byteN s 3 := rfl
  unfold dec decN v2 v3 v4 x2 x3 x4 c2 c3 c4 cont
  rw [e0, e1, e2, e3]
  have h0 := (byteN s 0).toNat_lt; have h1 := (byteN s 1).toNat_lt; have h2 := (byteN s 2).toNat_lt; have h3 := (byteN s 3).toNat_lt
  generalize (byteN s 0).toNat = b0 at *
  generalize (byteN s 1).toNat = b1 at *
  generalize (byteN s 2).toNat = b2 at *
  generalize (byteN s 3).toNat = b3 at *
  simp only [decide_eq_true_eq]
  by_cases g0 : b0 < 128
  · rw [if_pos (by omega), if_pos g0]; rfl
  rw [if_neg (by omega), if_neg g0]
  by_cases g1 : 194 ≤ b0 ∧ b0 < 224 ∧ 2 ≤ s.length ∧ 128 ≤ b1 ∧ b1 < 192
  · rw [if_pos (by omega), if_pos g1]
    exact Prod.ext (by show (64 * ((b0 : Int) - 192) + (b1 : Int) - 128) = ((64 * (b0 - 192) + (b1 - 128) : Nat) : Int); omega) rfl
  rw [if_neg (by omega), if_neg g1]
  by_cases g2 : 224 ≤ b0 ∧ b0 < 240 ∧ 3 ≤ s.length ∧ (128 ≤ b1 ∧ b1 < 192) ∧ (128 ≤ b2 ∧ b2 < 192) ∧ 2048 ≤ 4096 * (b0 - 224) + 64 * (b1 - 128) + (b2 - 128) ∧ (4096 * (b0 - 224) + 64 * (b1 - 128) + (b2 - 128) < 55296 ∨ 57343 < 4096 * (b0 - 224) + 64 * (b1 - 128) + (b2 - 128))
  · rw [if_pos (by omega), if_pos g2]
    exact Prod.ext (by show (4096 * ((b0 : Int) - 224) + 64 * ((b1 : Int) - 128) + (b2 : Int) - 128) = ((4096 * (b0 - 224) + 64 * (b1 - 128) + (b2 - 128) : Nat) : Int); omega) rfl
  rw [if_neg (by omega), if_neg g2]
  by_cases g3 : 240 ≤ b0 ∧ b0 < 245 ∧ 4 ≤ s.length ∧ (128 ≤ b1 ∧ b1 < 192) ∧ (128 ≤ b2 ∧ b2 < 192) ∧ (128 ≤ b3 ∧ b3 < 192) ∧ 65536 ≤ 262144 * (b0 - 240) + 4096 * (b1 - 128) + 64 * (b2 - 128) + (b3 - 128) ∧ 262144 * (b0 - 240) + 4096 * (b1 - 128) + 64 * (b2 - 128) + (b3 - 128) ≤ 1114111
  · rw [if_pos (by omega), if_pos g3]
    exact Prod.ext (by show (262144 * ((b0 : Int) - 240) + 4096 * ((b1 : Int) - 128) + 64 * ((b2 : Int) - 128) + (b3 : Int) - 128) = ((262144 * (b0 - 240) + 4096 * (b1 - 128) + 64 * (b2 - 128) + (b3 - 128) : Nat) : Int); omega) rfl
  rw [if_neg (by omega), if_neg g3]; rfl
theorem first_s (h : s ≠ []) : shunterref05_First_m N s = some (((dec s).1 : Int), ((dec s).2 : Int)) := by
  have hl := List.length_pos_iff.mpr h
  rw [← dec_v s h]
  unfold shunterref05_First_m
  have key : ∀ x, (x = true → 2 ≤ s.length) → x = x2 s → shunterref05_First_k2 N s x = some (v2 s (x2 s)) := fun x h e => by rw [k2_s N s x h, e]
  have no : ¬ (194 ≤ (((byteN s 0).toNat : Nat) : Int) ∧ (((byteN s 0).toNat : Nat) : Int) < 224 ∧ 2 ≤ s.length ∧ cont (byteN s 1).toNat) → shunterref05_First_k2 N s false = some (v2 s (x2 s)) := fun h => key false (fun h => (nomatch h)) (by unfold x2; exact (decide_eq_false h).symm)
  rw [if_neg (by omega), ck_pos _ (by omega)]
  by_cases g : (((byteN s 0).toNat : Nat) : Int) < 128
  · rw [if_pos g, if_pos g]
  rw [if_neg g, if_neg g]
  by_cases h0 : (((byteN s 0).toNat : Nat) : Int) ≥ 194
  · rw [if_pos h0]
    by_cases h1 : (((byteN s 0).toNat : Nat) : Int) < 224
    · rw [if_pos h1]
      by_cases h2 : (s.length : Int) ≥ 2
      · rw [if_pos h2, ck_pos _ (by omega), more_s, Option.bind_some]
        refine key _ (fun _ => by omega) ?_
        unfold x2
        exact decide_eq_decide.mpr ⟨fun h => ⟨by omega, h1, by omega, h⟩, fun h => h.2.2.2⟩
      · rw [if_neg h2]; exact no (fun h => h2 (by omega))
    · rw [if_neg h1]; exact no (fun h => h1 h.2.1)
  · rw [if_neg h0]; exact no (fun h => h0 h.1)
end
end Go.Proofs.Ytdmakhnmfnkcmaa
