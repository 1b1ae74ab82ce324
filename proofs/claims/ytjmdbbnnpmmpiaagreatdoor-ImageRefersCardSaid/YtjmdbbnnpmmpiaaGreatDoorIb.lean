import Derived.Test.YtjmdbbnnpmmpiaaGreatDoorHq
import Derived.Test.YtjmdbbnnpmmpiaaGreatDoorCp
import Derived.Test.YtjmdbbnnpmmpiaaGreatDoorIa
namespace Go.Proofs.YtjmdbbnnpmmpiaaGreatDoor
open Go Go.RowKit Go.Eng
theorem BS (N : Nat) (n a b : Int) : Az N n a b = some (decide (a ≤ n ∧ n ≤ b)) := by
 unfold Az
 by_cases h : a ≤ n
 ·rw [if_pos h]; congr 1; exact decide_eq_decide.2 ⟨fun h2 => ⟨h, h2⟩, fun h2 => h2.2⟩
 ·rw [if_neg h]; congr 1; exact (decide_eq_false (fun h2 => h h2.1)).symm
theorem VL (N : Nat) (n a b : Int) : BH N n a b = some (decide (a ≤ n ∧ n ≤ b)) := BS N n a b
theorem UO (N : Nat) (n a b : Int) : BG N n a b = some (decide (a ≤ n ∧ n ≤ b)) := BS N n a b
theorem BE (N : Nat) (b : Bool) (e : Int) : Ag N b e = some (if b = true then 0 else e) := by
 unfold Ag; split <;> rfl
def Ans (x : Option Int) (P : Prop) : Prop := ∃ r, x = some r ∧ (r = 0 → P)
theorem Ans.imp {x : Option Int} {P Q : Prop} (h : Ans x P) (f : P → Q) : Ans x Q := by obtain ⟨r, e, p⟩ := h; exact ⟨r, e, fun q => f (p q)⟩
theorem Ans.pure {x : Option Int} {P : Prop} (h : Ans x P) : Ans (x.bind fun r => some r) P := by obtain ⟨r, e, p⟩ := h; exact ⟨r, by rw [e]; rfl, p⟩
theorem Ans.un (N : Nat) (b : Bool) (e : Int) (he : e ≠ 0) : Ans (Ag N b e) (b = true) := by
 refine ⟨_, BE N b e, fun q => ?_⟩
 cases b with
 | true => rfl
 | false => rw [if_neg (by decide)] at q; exact absurd q he
theorem Vm (N : Nat) (s : List Int) (hs : s.length ≤ 1000) : ∀ (k f i : Nat), i + k = s.length → k < f →
  ∃ r, QZ N s f (i : Int) = some r ∧ ((r = -1 ∧ ∀ j, i ≤ j → j < s.length → s[j]! = 0) ∨ (0 ≤ r ∧ r < (s.length : Int) ∧ s[r.toNat]! ≠ 0)) := by
 intro k
 induction k with
 | zero =>
  intro f i hi hf
  obtain ⟨f, rfl⟩ : ∃ n, f = n + 1 := ⟨f - 1, by omega⟩
  rw [QZ, if_neg (by omega)]
  exact ⟨_, rfl, .inl ⟨rfl, fun j h1 h2 => by omega⟩⟩
 | succ k ih =>
  intro f i hi hf
  obtain ⟨f, rfl⟩ : ∃ n, f = n + 1 := ⟨f - 1, by omega⟩
  have e1 : (i : Int) + 1 = ((i + 1 : Nat) : Int) := by omega
  rw [QZ, if_pos (by omega), ckp (by omega), Int.toNat_natCast, Ie, Option.bind_some]
  by_cases h : s[i]! = 0
  ·rw [if_neg (by rw [h]; decide), ckp (by omega), e1]
   obtain ⟨r, h1, h2⟩ := ih f (i + 1) (by omega) (by omega)
   refine ⟨r, h1, h2.elim (fun h3 => .inl ⟨h3.1, fun j h4 h5 => ?_⟩) .inr⟩
   rcases Nat.lt_or_ge i j with h6 | h6
   ·exact h3.2 j h6 h5
   ·obtain rfl : j = i := by omega
    exact h
  ·rw [if_pos (by simpa using h)]
   exact ⟨_, rfl, .inr ⟨by omega, by omega, by rw [Int.toNat_natCast]; exact h⟩⟩
theorem MJ {N : Nat} (hN : 1000 < N) (l : List Int) (hl : l.length ≤ 1000) : Ans (As N l) (∀ j, j < l.length → l[j]! = 0) := by
 obtain ⟨r, h1, h2⟩ := Vm N l hl l.length N 0 (by omega) (by omega)
 unfold Ans As sFm
 rw [show (0 : Int) = ((0 : Nat) : Int) from rfl, h1, Option.bind_some]
 rcases h2 with ⟨h3, h4⟩ | ⟨h3, h4, h5⟩
 ·rw [if_pos (by omega)]; exact ⟨_, rfl, fun _ j hj => h4 j (Nat.zero_le _) hj⟩
 ·rw [if_neg (by omega), ckp (by omega)]; exact ⟨_, rfl, fun e => absurd e h5⟩
theorem Gz {N : Nat} (hN : 1000 < N) (a b : Int) : Ans (As N [a, b]) (a = 0 ∧ b = 0) := (MJ hN [a, b] (by simp)).imp fun h => ⟨h 0 (by simp), h 1 (by simp)⟩
theorem Xi {N : Nat} (hN : 1000 < N) (a b c : Int) : Ans (As N [a, b, c]) (a = 0 ∧ b = 0 ∧ c = 0) := (MJ hN [a, b, c] (by simp)).imp fun h => ⟨h 0 (by simp), h 1 (by simp), h 2 (by simp)⟩
theorem QF {N : Nat} (hN : 1000 < N) (a b c d : Int) : Ans (As N [a, b, c, d]) (a = 0 ∧ b = 0 ∧ c = 0 ∧ d = 0) := (MJ hN [a, b, c, d] (by simp)).imp fun h => ⟨h 0 (by simp), h 1 (by simp), h 2 (by simp), h 3 (by simp)⟩
theorem eI {α : Type} [Inhabited α] (l : List α) (ask : Int → α → Option Int) (P : Nat → Prop) (loop : Nat → Int → Option (Int × Int)) (hl : l.length ≤ 1000)
  (h0 : ∀ (f : Nat) (i : Int), loop (f + 1) i = if i < (l.length : Int) then ck (0 ≤ i ∧ i < (l.length : Int)) ((ask i (l[i.toNat]!)).bind fun r => if (r : Int) ≠ 0 then some (i, r) else ck (-9223372036854775808 ≤ (i + 1) ∧ (i + 1) ≤ 9223372036854775807) (loop f (i + 1))) else some (0, 0))
  (ht : ∀ i : Nat, i < l.length → Ans (ask (i : Int) (l[i]!)) (P i)) : ∀ (k f i : Nat), i + k = l.length → k < f → ∃ r, loop f (i : Int) = some r ∧ (r.2 = 0 → ∀ j, i ≤ j → j < l.length → P j) := by
 intro k
 induction k with
 | zero =>
  intro f i hi hf
  obtain ⟨f, rfl⟩ : ∃ n, f = n + 1 := ⟨f - 1, by omega⟩
  rw [h0, if_neg (by omega)]
  exact ⟨_, rfl, fun _ j h1 h2 => by omega⟩
 | succ k ih =>
  intro f i hi hf
  obtain ⟨f, rfl⟩ : ∃ n, f = n + 1 := ⟨f - 1, by omega⟩
  have e1 : (i : Int) + 1 = ((i + 1 : Nat) : Int) := by omega
  obtain ⟨r, hr, hp⟩ := ht i (by omega)
  rw [h0, if_pos (by omega), ckp (by omega), Int.toNat_natCast, hr, Option.bind_some]
  by_cases h : r = 0
  ·rw [if_neg (fun h2 => h2 h), ckp (by omega), e1]
   obtain ⟨q, h1, h2⟩ := ih f (i + 1) (by omega) (by omega)
   refine ⟨q, h1, fun h3 j h4 h5 => ?_⟩
   rcases Nat.lt_or_ge i j with h6 | h6
   ·exact h2 h3 j h6 h5
   ·obtain rfl : j = i := by omega
    exact hp h
  ·rw [if_pos h]; exact ⟨_, rfl, fun h2 => absurd h2 h⟩
def Ans2 (x : Option (Int × Int)) (P : Prop) : Prop := ∃ r, x = some r ∧ (r.2 = 0 → P)
theorem Ans2.imp {x : Option (Int × Int)} {P Q : Prop} (h : Ans2 x P) (f : P → Q) : Ans2 x Q := by obtain ⟨r, e, p⟩ := h; exact ⟨r, e, fun q => f (p q)⟩
theorem Ans2.pure {x : Option (Int × Int)} {P : Prop} (h : Ans2 x P) : Ans2 (x.bind fun r => some (r.1, r.2)) P := by obtain ⟨r, e, p⟩ := h; exact ⟨r, by rw [e]; rfl, p⟩
theorem Ans2.snd {x : Option (Int × Int)} {P : Prop} (h : Ans2 x P) : Ans (x.bind fun r => some r.2) P := by obtain ⟨r, e, p⟩ := h; exact ⟨r.2, by rw [e]; rfl, p⟩
theorem Ek {α : Type} [Inhabited α] {N : Nat} (hN : 1000 < N) (l : List α) (ask : Int → α → Option Int) (P : Nat → Prop) (loop : Nat → Int → Option (Int × Int)) (most : Int) (hm : most ≤ 1000)
  (h0 : ∀ (f : Nat) (i : Int), loop (f + 1) i = if i < (l.length : Int) then ck (0 ≤ i ∧ i < (l.length : Int)) ((ask i (l[i.toNat]!)).bind fun r => if (r : Int) ≠ 0 then some (i, r) else ck (-9223372036854775808 ≤ (i + 1) ∧ (i + 1) ≤ 9223372036854775807) (loop f (i + 1))) else some (0, 0))
  (ht : (l.length : Int) ≤ most → ∀ i : Nat, i < l.length → Ans (ask (i : Int) (l[i]!)) (P i)) :
  Ans2 (if (((l).length : Int) : Int) > most then some (0, 2) else loop N 0) ((l.length : Int) ≤ most ∧ ∀ i, i < l.length → P i) := by
 by_cases c : (l.length : Int) > most
 ·exact ⟨(0, 2), if_pos c, fun e => absurd e (by decide)⟩
 ·obtain ⟨r, h1, h2⟩ := eI l ask P loop (by omega) h0 (ht (by omega)) l.length N 0 (by omega) (by omega)
  exact ⟨r, (if_neg c).trans h1, fun e => ⟨by omega, fun i hi => h2 e i (Nat.zero_le _) hi⟩⟩
theorem ez {α : Type} [Inhabited α] {N : Nat} (l : List α) (g : α → List UInt8) (loop : Nat → List (List UInt8) → Int → Option (List (List UInt8))) (hl : l.length ≤ 1000)
  (h0 : ∀ (f : Nat) (s : List (List UInt8)) (i : Int), loop (f + 1) s i = if i < (l.length : Int) then ck (0 ≤ i ∧ i < (l.length : Int)) ((some (g (l[i.toNat]!))).bind fun r => ck (0 ≤ i ∧ i < (s.length : Int)) (ck (-9223372036854775808 ≤ (i + 1) ∧ (i + 1) ≤ 9223372036854775807) (loop f (s.set (i.toNat) r) (i + 1)))) else some s) :
  ∀ (k f i : Nat), i + k = l.length → k < f → loop f ((l.take i).map g ++ List.replicate (l.length - i) []) (i : Int) = some (l.map g) := by
 intro k
 induction k with
 | zero =>
  intro f i hi hf
  obtain ⟨f, rfl⟩ : ∃ n, f = n + 1 := ⟨f - 1, by omega⟩
  rw [h0, if_neg (by omega), List.take_of_length_le (by omega), show l.length - i = 0 from by omega]; simp
 | succ k ih =>
  intro f i hi hf
  obtain ⟨f, rfl⟩ : ∃ n, f = n + 1 := ⟨f - 1, by omega⟩
  have e1 : (i : Int) + 1 = ((i + 1 : Nat) : Int) := by omega
  have e2 := NO g l i (by omega)
  rw [h0, if_pos (by omega), ckp (by omega), Option.bind_some, ckp (by rw [e2]; omega), ckp (by omega), Int.toNat_natCast, Jl g l i (by omega), e1]
  exact ih f (i + 1) (by omega) (by omega)
theorem Jx {α : Type} [Inhabited α] {N : Nat} (hN : 1000 < N) (l : List α) (g : α → List UInt8) (loop : Nat → List (List UInt8) → Int → Option (List (List UInt8))) (hl : l.length ≤ 1000)
  (h0 : ∀ (f : Nat) (s : List (List UInt8)) (i : Int), loop (f + 1) s i = if i < (l.length : Int) then ck (0 ≤ i ∧ i < (l.length : Int)) ((some (g (l[i.toNat]!))).bind fun r => ck (0 ≤ i ∧ i < (s.length : Int)) (ck (-9223372036854775808 ≤ (i + 1) ∧ (i + 1) ≤ 9223372036854775807) (loop f (s.set (i.toNat) r) (i + 1)))) else some s) :
  ck (0 ≤ ((l).length : Int) ∧ ((l).length : Int) ≤ 8796093022208) (loop N ((List.replicate (((l).length : Int)).toNat ([]))) 0) = some (l.map g) := by
 rw [ckp (by omega), Int.toNat_natCast]
 have := ez (N := N) l g loop hl h0 l.length N 0 (by omega) (by omega)
 rwa [List.take_zero, List.map_nil, List.nil_append, Nat.sub_zero] at this
theorem MY {N : Nat} (hN : 5000 < N) (l : List (List UInt8)) (h : brf l) (i : Nat) (hi : i < l.length) : Ans (Ay N l (i : Int)) True := by
 unfold Ay
 rw [ckp (by omega), ckp (by omega), Int.toNat_natCast, List.drop_zero, Uy N _ _ (by omega) (by rw [List.length_take]; have := h.2; omega) (by have := h.1 i hi; omega) (fun j hj => by
  rw [List.length_take] at hj
  have := h.1 j (by omega)
  rw [getElem!_pos _ j (by rw [List.length_take]; omega), List.getElem_take]
  rw [getElem!_pos l j (by omega)] at this; omega), Option.bind_some]
 exact ((Ans.un N _ 6 (by decide)).imp fun _ => trivial).pure
theorem WX {N : Nat} (hN : 5000 < N) (s : List UInt8) (hs : s.length ≤ 2000) : Bf N s = some (GH s) := Mz N (by omega) s hs
theorem WH {N : Nat} (hN : 5000 < N) (l : List (List UInt8)) (h : brf l) (i : Nat) (hi : i < l.length) {A : Option Int} {P : Prop} (hA : Ans A P) :
  Ans (ck (0 ≤ (i : Int) ∧ (i : Int) < ((l).length : Int)) ((Bf N ((l)[((i : Int)).toNat]!)).bind fun r5 => (Ag N r5 4).bind fun r7 => (Ay N l (i : Int)).bind fun r9 => A.bind fun r11 => (As N ([r7, r9, r11])).bind fun r16 => some r16)) P := by
 obtain ⟨b, hb, _⟩ := MY hN l h i hi
 obtain ⟨a, ha, hp⟩ := hA
 rw [ckp (by omega), Int.toNat_natCast, WX hN _ (by have := h.1 i hi; omega), Option.bind_some, BE, Option.bind_some, hb, Option.bind_some, ha, Option.bind_some]
 exact ((Xi (by omega) _ b a).imp fun q => hp q.2.2).pure
end Go.Proofs.YtjmdbbnnpmmpiaaGreatDoor
