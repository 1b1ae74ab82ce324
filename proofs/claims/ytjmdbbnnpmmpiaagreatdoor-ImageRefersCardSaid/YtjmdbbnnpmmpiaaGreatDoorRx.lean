import Derived.Test.YtjmdbbnnpmmpiaaGreatDoorHa
import Derived.Test.YtjmdbbnnpmmpiaaGreatDoorBh
namespace Go.Proofs.YtjmdbbnnpmmpiaaGreatDoor
open Go Go.RowKit Go.Eng
def Qr (p : List UInt8 → Bool) : List (List UInt8) → Nat → Int
 | [], _ => -1
 | x :: r, k => if p x = true then (k : Int) else Qr p r (k + 1)
theorem Ps (n : Int) (h : okR n) : (Jo n).length ≤ 4 := by
 obtain ⟨c, rfl⟩ : ∃ c : Nat, n = (c : Int) := ⟨n.toNat, by unfold okR at h; omega⟩
 rw [KM h]
 split
 ·simp
 ·split
  ·simp
  ·split <;> simp
theorem KH (N : Nat) (c a b : Int) : Bn N c a b = some (decide (a ≤ c ∧ c ≤ b)) := by
 unfold Bn
 by_cases h : c ≥ a
 ·rw [if_pos h]
  by_cases h1 : c ≤ b
  ·rw [decide_eq_true h1, decide_eq_true ⟨h, h1⟩]
  ·rw [decide_eq_false h1, decide_eq_false (fun h2 => h1 h2.2)]
 ·rw [if_neg h, decide_eq_false (fun h2 => h h2.1)]
theorem fq {p : Prop} [Decidable p] (q : Bool) : (if p then some true else some q) = some (decide p || q) := by
 by_cases h : p <;> simp [h]
theorem WQ (N : Nat) (c : Int) (h : c ≠ 215 ∧ c ≠ 247 ∧ c ≠ 930) : CS N c = some (LD c) := by
 unfold CS
 simp only [KH, Option.bind_some, fq, decide_eq_true_eq]
 congr 1
 unfold LD
 rw [Bool.eq_iff_iff]
 simp only [Bool.or_eq_true, decide_eq_true_eq]
 omega
theorem Rn (N : Nat) (c : Int) : EA N c = some (LD c) := by
 unfold EA
 by_cases h1 : c = 215
 ·subst h1; rfl
 by_cases h2 : c = 247
 ·subst h2; rfl
 by_cases h3 : c = 930
 ·subst h3; rfl
 rw [if_neg h1, if_neg h2, if_neg h3]
 exact WQ N c ⟨h1, h2, h3⟩
theorem bM (N : Nat) (c : Int) : Gs N c = some (decide (48 ≤ c ∧ c ≤ 57)) := by
 unfold Gs; rw [KH]; rfl
theorem VK {x : Int} (h : -2147483648 ≤ x ∧ x ≤ 2147483647) : IntKind.i32.wrap x = x := by
 rw [IntKind.wrap_i32]; omega
theorem MI (N : Nat) (c : Int) (h0 : -2147483648 ≤ c) (h1 : c ≤ 2147483647) (x : Bool) (hl : LD c = true) (hx : x = true ↔ ((65 ≤ c ∧ c ≤ 90) ∨ (192 ≤ c ∧ c ≤ 222) ∨ (913 ≤ c ∧ c ≤ 937) ∨ (1040 ≤ c ∧ c ≤ 1071))) : Dm N c x = some (Mg c) := by
 unfold LD at hl
 rw [decide_eq_true_eq] at hl
 unfold Dm Mg
 simp only [KH, Option.bind_some, decide_eq_true_eq]
 by_cases h : x = true
 ·have h2 := hx.mp h
  rw [if_pos h, if_pos (by omega), VK (by omega)]
 ·have h2 : ¬ _ := fun e => h (hx.mpr e)
  rw [if_neg h]
  by_cases h3 : 1024 ≤ c ∧ c ≤ 1039
  ·rw [if_pos h3, if_neg (by omega), if_pos h3, VK (by omega)]
  ·rw [if_neg h3]
   by_cases h4 : c = 962
   ·rw [if_pos h4, if_neg (by omega), if_neg h3, if_pos h4]
   ·rw [if_neg h4, if_neg (by omega), if_neg h3, if_neg h4]
theorem eA (N : Nat) (c : Int) (h0 : -2147483648 ≤ c) (h1 : c ≤ 2147483647) : Gg N c = some (Mg c) := by
 unfold Gg
 rw [Rn, Option.bind_some]
 by_cases hl : LD c = true
 ·rw [if_pos hl]
  simp only [KH, Option.bind_some, decide_eq_true_eq]
  by_cases g1 : 65 ≤ c ∧ c ≤ 90
  ·rw [if_pos g1]; exact MI N c h0 h1 _ hl (by rw [decide_eq_true_eq]; omega)
  rw [if_neg g1]
  by_cases g2 : 192 ≤ c ∧ c ≤ 222
  ·rw [if_pos g2]; exact MI N c h0 h1 _ hl (by rw [decide_eq_true_eq]; omega)
  rw [if_neg g2]
  by_cases g3 : 913 ≤ c ∧ c ≤ 937
  ·rw [if_pos g3]; exact MI N c h0 h1 _ hl (by rw [decide_eq_true_eq]; omega)
  rw [if_neg g3]
  exact MI N c h0 h1 _ hl (by rw [decide_eq_true_eq]; omega)
 ·rw [if_neg hl]
  unfold LD at hl
  rw [decide_eq_true_eq] at hl
  unfold Mg
  rw [if_neg (by omega), if_neg (by omega), if_neg (by omega)]
theorem TU (N : Nat) (c k : Int) : Ep N c k = some (if k > 0 then inR c else LD c) := by
 unfold Ep
 rw [Rn, Option.bind_some, bM]
 by_cases hl : LD c = true
 ·rw [if_pos hl]; split <;> simp [inR, hl]
 ·rw [if_neg hl]
  by_cases hk : k > 0
  ·rw [if_pos hk, if_pos hk, Option.bind_some]
   simp only [decide_eq_true_eq, fq]
   congr 1
   unfold inR
   have hl' : LD c = false := by simpa using hl
   rw [hl', Bool.false_or, Bool.eq_iff_iff]
   simp only [Bool.or_eq_true, decide_eq_true_eq, beq_iff_eq]
  ·rw [if_neg hk, if_neg hk]; simp at hl; rw [hl]
theorem WJ (N : Nat) (s : List UInt8) : ∀ (m f k p : Nat), s.length ≤ p + m → m < f → p ≤ s.length → 1 ≤ k → k ≤ 24 → Eb N s f (k : Int) p = some (decide (k + (EK (s.drop p)).length ≤ 24) && (EK (s.drop p)).all inR) := by
 intro m
 induction m using Nat.strongRecOn with
 | _ m ih =>
 intro f k p hm hf hp hk1 hk
 obtain ⟨f, rfl⟩ : ∃ n, f = n + 1 := ⟨f - 1, by omega⟩
 rw [Eb]
 by_cases h : p < s.length
 ·obtain ⟨n1, n2⟩ := Qg h
  rw [if_pos h, AQ _ h, Lx h]
  by_cases h24 : k = 24
  ·subst h24
   rw [if_pos (show ((24 : Nat) : Int) = 24 from rfl), List.length_cons, decide_eq_false (by omega)]; rfl
  ·rw [if_neg (show ¬ (k : Int) = 24 by omega), TU, Option.bind_some, if_pos (show (k : Int) > 0 by omega)]
   by_cases hi : inR (runeAt s p : Int) = true
   ·have e : (k : Int) + 1 = ((k + 1 : Nat) : Int) := by omega
    rw [if_pos hi, AQ _ (by omega), e, ih (m - 1) (by omega) f (k + 1) (DI s p) (by omega) (by omega) n2 (by omega) (by omega), List.length_cons, List.all_cons, hi, Bool.true_and]
    congr 2
    exact decide_eq_decide.mpr (by omega)
   ·rw [if_neg hi, List.all_cons]
    simp at hi
    rw [hi]; simp
 ·rw [if_neg h, MU h]
  have : decide ((k : Int) > 0) = true := decide_eq_true (by omega)
  rw [this]
  simp [hk]
theorem cN (N : Nat) (s : List UInt8) (hN : s.length + 1 < N) : Ef N s = some (WM (EK s)) := by
 obtain ⟨f, rfl⟩ : ∃ n, N = n + 1 := ⟨N - 1, by omega⟩
 have e0 : s = s.drop 0 := by simp
 rw [Ef, Eb]
 by_cases h : 0 < s.length
 ·obtain ⟨n1, n2⟩ := Qg h
  have er := Lx h
  rw [← e0] at er
  rw [if_pos h, AQ _ h, if_neg (show ¬ (0 : Int) = 24 by omega), TU, Option.bind_some, if_neg (show ¬ (0 : Int) > 0 by omega), er]
  unfold WM
  rw [List.getElem!_cons_zero]
  by_cases hi : LD (runeAt s 0 : Int) = true
  ·have hin : inR (runeAt s 0 : Int) = true := by unfold inR; rw [hi]; rfl
   have := WJ (f + 1) s s.length f 1 (DI s 0) (by omega) (by omega) n2 (by omega) (by omega)
   rw [if_pos hi, AQ _ (by omega), show (0 : Int) + 1 = ((1 : Nat) : Int) from rfl, this, List.length_cons, List.all_cons, hi, hin, Bool.true_and, Bool.and_true]
   congr 2
   exact decide_eq_decide.mpr (by omega)
  ·rw [if_neg hi]
   simp at hi
   rw [hi]; simp
 ·rw [if_neg h]
  have : s = [] := List.eq_nil_of_length_eq_zero (by omega)
  subst this; rfl
theorem fw : ∀ n < 32, (192 : UInt8) ||| UInt8.ofNat n = UInt8.ofNat (192 + n) := by decide
theorem fv : ∀ n < 16, (224 : UInt8) ||| UInt8.ofNat n = UInt8.ofNat (224 + n) := by decide
theorem fu : ∀ n < 8, (240 : UInt8) ||| UInt8.ofNat n = UInt8.ofNat (240 + n) := by decide
theorem fx : ∀ n < 256, (128 : UInt8) ||| (UInt8.ofNat n &&& 63) = UInt8.ofNat (128 + n % 64) := by decide +kernel
theorem FQ (c : Nat) : AV (c : Int) = UInt8.ofNat (c % 256) := by
 unfold AV
 rw [show (c : Int) % 256 = ((c % 256 : Nat) : Int) from by omega, Int.toNat_natCast]
theorem Wc (c : Nat) : BL (c : Int) 6 = ((c / 64 : Nat) : Int) := by
 show Int.fdiv (c : Int) (64 : Int) = _
 rw [Int.fdiv_eq_ediv_of_nonneg _ (by decide)]; omega
theorem Wd (c : Nat) : BL (c : Int) 12 = ((c / 4096 : Nat) : Int) := by
 show Int.fdiv (c : Int) (4096 : Int) = _
 rw [Int.fdiv_eq_ediv_of_nonneg _ (by decide)]; omega
theorem dj (c : Nat) : BL (c : Int) 18 = ((c / 262144 : Nat) : Int) := by
 show Int.fdiv (c : Int) (262144 : Int) = _
 rw [Int.fdiv_eq_ediv_of_nonneg _ (by decide)]; omega
theorem fW (N : Nat) (p : List UInt8) (hp : p.length ≤ 1000000) (c : Nat) (h : okR (c : Int)) : Jh N p (c : Int) = some (p ++ Jo (c : Int)) := by
 have h' := h
 unfold okR at h'
 have hu : (((BQ (c : Int)).toNat : Nat) : Int) = (c : Int) := by
  unfold BQ
  rw [show (c : Int) % 4294967296 = (c : Int) from by omega, Int.toNat_natCast, UInt32.toNat_ofNat']; omega
 have e128 : ∀ n, n < 256 → ∀ m, n % 64 = m % 64 → (128 : UInt8) ||| (UInt8.ofNat n &&& 63) = UInt8.ofNat (128 + m % 64) := fun n hn m hm => by rw [fx n hn, hm]
 unfold Jh uNm
 rw [hu, KM h]
 by_cases h1 : c < 128
 ·rw [if_pos (show (c : Int) ≤ 127 by omega), AQ _ (by simp only [List.length_singleton]; omega), if_pos h1, FQ, show c % 256 = c from by omega]
 rw [if_neg (show ¬ (c : Int) ≤ 127 by omega), if_neg h1]
 by_cases h2 : c < 2048
 ·rw [if_pos (show (c : Int) ≤ 2047 by omega), AQ _ (by decide), AQ _ (by simp only [List.length_cons, List.length_nil]; omega), Option.bind_some, if_pos h2, Wc, FQ, FQ, show c / 64 % 256 = c / 64 from by omega, fw _ (by omega), e128 _ (by omega) c (by omega)]
 rw [if_neg (show ¬ (c : Int) ≤ 2047 by omega), if_neg h2]
 have k2 : c < 65536 → QS p (c : Int) true = some (p ++ [UInt8.ofNat (224 + c / 4096), UInt8.ofNat (128 + c / 64 % 64), UInt8.ofNat (128 + c % 64)]) := fun h3 => by
  unfold QS
  rw [if_pos rfl, AQ _ (by decide), AQ _ (by decide), AQ _ (by simp only [List.length_cons, List.length_nil]; omega), Wc, Wd, FQ, FQ, FQ, show c / 4096 % 256 = c / 4096 from by omega, fv _ (by omega), e128 _ (by omega) (c / 64) (by omega), e128 _ (by omega) c (by omega)]
 by_cases h3 : c < 65536
 ·rw [if_pos h3]
  by_cases h4 : c < 55296
  ·rw [if_pos (show (c : Int) < 55296 by omega), decide_eq_true (show (c : Int) < 55296 by omega), k2 h3]; rfl
  ·rw [if_neg (show ¬ (c : Int) < 55296 by omega), if_pos (show (57343 : Int) < c by omega), decide_eq_true (show (c : Int) ≤ 65535 by omega), k2 h3]; rfl
 ·rw [if_neg h3, if_neg (show ¬ (c : Int) < 55296 by omega), if_pos (show (57343 : Int) < c by omega), decide_eq_false (show ¬ (c : Int) ≤ 65535 by omega)]
  unfold QS VQ
  rw [if_neg (by decide), hu, if_pos (show (c : Int) > 65535 by omega), if_pos (decide_eq_true (show (c : Int) ≤ 1114111 by omega)), AQ _ (by decide), AQ _ (by decide), AQ _ (by decide), AQ _ (by simp only [List.length_cons, List.length_nil]; omega), Wc, Wd, dj, FQ, FQ, FQ, FQ, show c / 262144 % 256 = c / 262144 from by omega, fu _ (by omega), e128 _ (by omega) (c / 4096) (by omega), e128 _ (by omega) (c / 64) (by omega), e128 _ (by omega) c (by omega)]; rfl
theorem aJ (N : Nat) (p : List UInt8) (hp : p.length ≤ 1000000) (c : Int) (h : okR c) : Di N p c = some (((Jo c).length : Int), p ++ Jo c) := by
 have hc := Ps c h
 obtain ⟨n, rfl⟩ : ∃ n : Nat, c = (n : Int) := ⟨c.toNat, by unfold okR at h; omega⟩
 unfold Di Fk DH
 rw [Option.bind_some, AQ _ rfl, fW N p hp n h, Option.bind_some, AQ _ (by rw [List.length_append]; omega)]
 congr 2
 rw [List.length_append]; omega
theorem WT (N : Nat) (s : List UInt8) (hs : s.length ≤ 10000) : ∀ (m f p : Nat) (acc : List UInt8), s.length ≤ p + m → m < f → p ≤ s.length → acc.length ≤ 4 * p → ER N s f acc p = some (acc ++ PY ((EK (s.drop p)).map Mg)) := by
 intro m
 induction m using Nat.strongRecOn with
 | _ m ih =>
 intro f p acc hm hf hp hacc
 obtain ⟨f, rfl⟩ : ∃ n, f = n + 1 := ⟨f - 1, by omega⟩
 rw [ER]
 by_cases h : p < s.length
 ·obtain ⟨n1, n2⟩ := Qg h
  have hok : okR (runeAt s p : Int) := by rw [(QO h).1]; exact Xu _
  have hfo := UA hok
  have hl := Ps _ hfo
  have hb : -2147483648 ≤ (runeAt s p : Int) ∧ (runeAt s p : Int) ≤ 2147483647 := by unfold okR at hok; omega
  rw [if_pos h, AQ _ h, eA N _ hb.1 hb.2, Option.bind_some, aJ N acc (by omega) _ hfo, Option.bind_some, ih (m - 1) (by omega) f (DI s p) _ (by omega) (by omega) n2 (by rw [List.length_append]; omega), Lx h, List.map_cons, PY, List.append_assoc]
 ·rw [if_neg h, MU h]
  unfold Gn GP
  rw [AQ _ (by omega), Option.bind_some]
  simp [PY]
theorem cP (N : Nat) (s : List UInt8) (hs : s.length ≤ 10000) (hN : s.length < N) : GI N s = some (KV s) := by
 have hg : Gf N (s.length : Int) = some [] := by
  unfold Gf Fj Hw Hc
  rw [Option.bind_some, if_neg (by omega), AQ _ (by simp)]
  by_cases h : s = []
  ·subst h; rfl
  ·have := List.length_pos_iff.mpr h
   rw [if_pos (by simp; omega), AQ _ (by omega), AQ _ (by omega)]; rfl
 rw [GI, hg, Option.bind_some, WT N s hs s.length N 0 [] (by omega) hN (by omega) (by simp), List.drop_zero]; rfl
theorem Xa (N : Nat) (l : List (List UInt8)) (s : List UInt8) (hN : 3000 < N) (hl : l.length ≤ 300) (hall : ∀ j, j < l.length → (l[j]!).length ≤ 300) : ∀ (k f i : Nat), i + k = l.length → k < f → QW N l (KV s) f (i : Int) = some (Qr (fun x => KV x == KV s) (l.drop i) i) := by
 intro k
 induction k with
 | zero =>
  intro f i hi hf
  obtain ⟨f, rfl⟩ : ∃ n, f = n + 1 := ⟨f - 1, by omega⟩
  rw [QW, if_neg (by omega), List.drop_of_length_le (by omega)]; rfl
 | succ k ih =>
  intro f i hi hf
  obtain ⟨f, rfl⟩ : ∃ n, f = n + 1 := ⟨f - 1, by omega⟩
  have e1 : (i : Int) + 1 = ((i + 1 : Nat) : Int) := by omega
  have hd : l.drop i = l[i]! :: l.drop (i + 1) := by rw [List.drop_eq_getElem_cons (by omega), getElem!_pos l i (by omega)]
  have hi300 := hall i (by omega)
  rw [QW, if_pos (by omega), AQ _ (by omega), Int.toNat_natCast, Dl, cP N _ (by omega) (by omega), Option.bind_some, Option.bind_some, hd, Qr]
  by_cases h : (KV (l[i]!) == KV s) = true
  ·rw [if_pos h, if_pos h]
  ·rw [if_neg h, if_neg h, AQ _ (by omega), e1]
   exact ih f (i + 1) (by omega) (by omega)
theorem Uy (N : Nat) (l : List (List UInt8)) (s : List UInt8) (hN : 3000 < N) (hl : l.length ≤ 300) (hs : s.length ≤ 300) (hall : ∀ j, j < l.length → (l[j]!).length ≤ 300) : Dk N l s = some (Qr (fun x => KV x == KV s) l 0) := by
 have := Xa N l s hN hl hall l.length N 0 (by omega) (by omega)
 rw [Dk, cP N s (by omega) (by omega), Option.bind_some, sfm, show (0 : Int) = ((0 : Nat) : Int) from rfl, this, List.drop_zero]; rfl
end Go.Proofs.YtjmdbbnnpmmpiaaGreatDoor
