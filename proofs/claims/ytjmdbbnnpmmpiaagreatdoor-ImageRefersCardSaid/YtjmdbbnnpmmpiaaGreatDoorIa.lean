import Derived.Test.YtjmdbbnnpmmpiaaGreatDoorBh
namespace Go.Proofs.YtjmdbbnnpmmpiaaGreatDoor
open Go Go.RowKit Go.Eng
theorem ckp {α : Type} {p : Prop} [Decidable p] {a : Option α} (h : p) : ck p a = a := AQ _ h
theorem UI (top : Nat) (Q : Nat → Prop) (loop : Nat → Int → Option Bool) (K : Option Bool)
  (step : ∀ f i : Nat, i < top → loop (f + 1) (i : Int) = some false ∨ (Q i ∧ loop (f + 1) (i : Int) = loop f ((i + 1 : Nat) : Int)))
  (stop : ∀ f : Nat, loop (f + 1) (top : Int) = K) :
  ∀ (k f i : Nat), i + k = top → k < f → loop f (i : Int) = some false ∨ ((∀ j, i ≤ j → j < top → Q j) ∧ loop f (i : Int) = K) := by
 intro k
 induction k with
 | zero =>
  intro f i hi hf
  obtain ⟨f, rfl⟩ : ∃ n, f = n + 1 := ⟨f - 1, by omega⟩
  obtain rfl : i = top := by omega
  exact .inr ⟨fun j h1 h2 => by omega, stop f⟩
 | succ k ih =>
  intro f i hi hf
  obtain ⟨f, rfl⟩ : ∃ n, f = n + 1 := ⟨f - 1, by omega⟩
  rcases step f i (by omega) with h | ⟨hq, h⟩
  ·exact .inl h
  ·rcases ih f (i + 1) (by omega) (by omega) with h2 | ⟨h2, h3⟩
   ·exact .inl (h.trans h2)
   ·refine .inr ⟨fun j h4 h5 => ?_, h.trans h3⟩
    rcases Nat.lt_or_ge i j with h6 | h6
    ·exact h2 j h6 h5
    ·obtain rfl : j = i := by omega
     exact hq
theorem Ln (top : Nat) (w : Nat → Nat) (Q : Nat → Prop) (loop : Nat → Int → Int → Option Bool) (K : Int → Option Bool) (R : Prop) (M W : Nat) (hw : ∀ i, i < top → w i ≤ W)
  (hK : ∀ n : Nat, n ≤ M → ∃ b, K (n : Int) = some b ∧ (b = true → n ≤ 900 ∧ R))
  (step : ∀ f n i : Nat, i < top → n ≤ M → loop (f + 1) (n : Int) (i : Int) = some false ∨ (Q i ∧ loop (f + 1) (n : Int) (i : Int) = loop f ((n + w i : Nat) : Int) ((i + 1 : Nat) : Int)))
  (stop : ∀ f n : Nat, n ≤ M → loop (f + 1) (n : Int) (top : Int) = K (n : Int)) :
  ∀ (k f i n : Nat), i + k = top → k < f → n + k * W ≤ M → ∃ b, loop f (n : Int) (i : Int) = some b ∧ (b = true → n ≤ 900 ∧ R ∧ ∀ j, i ≤ j → j < top → Q j ∧ w j ≤ 900) := by
 intro k
 induction k with
 | zero =>
  intro f i n hi hf hn
  obtain ⟨f, rfl⟩ : ∃ n, f = n + 1 := ⟨f - 1, by omega⟩
  obtain rfl : i = top := by omega
  obtain ⟨b, hb, h⟩ := hK n (by omega)
  exact ⟨b, (stop f n (by omega)).trans hb, fun e => ⟨(h e).1, (h e).2, fun j h1 h2 => by omega⟩⟩
 | succ k ih =>
  intro f i n hi hf hn
  obtain ⟨f, rfl⟩ : ∃ n, f = n + 1 := ⟨f - 1, by omega⟩
  have e1 : (k + 1) * W = k * W + W := by rw [Nat.add_mul, Nat.one_mul]
  have hwi := hw i (by omega)
  rcases step f n i (by omega) (by omega) with h | ⟨hq, h⟩
  ·exact ⟨false, h, fun e => nomatch e⟩
  ·obtain ⟨b, hb, h2⟩ := ih f (i + 1) (n + w i) (by omega) (by omega) (by omega)
   refine ⟨b, h.trans hb, fun e => ?_⟩
   obtain ⟨h3, h4, h5⟩ := h2 e
   refine ⟨by omega, h4, fun j h6 h7 => ?_⟩
   rcases Nat.lt_or_ge i j with h8 | h8
   ·exact h5 j h8 h7
   ·obtain rfl : j = i := by omega
    exact ⟨hq, by omega⟩
theorem Bv {α : Type} [Inhabited α] {l : List α} {i : Nat} (h : i < l.length) : l[i]! ∈ l := by rw [getElem!_pos l i h]; exact List.getElem_mem h
theorem WB {α : Type} [Inhabited α] {l : List α} {P : α → Prop} (h : ∀ i, i < l.length → P (l[i]!)) : ∀ x ∈ l, P x := fun x hx => by
 obtain ⟨i, hi, rfl⟩ := List.mem_iff_getElem.1 hx
 have := h i hi
 rwa [getElem!_pos l i hi] at this
theorem HY {α : Type} [Inhabited α] (l : List α) (g : α → List UInt8) (loop : Nat → List (List UInt8) → Int → Option (List (List UInt8))) (K : List (List UInt8) → Option (List (List UInt8)))
  (step : ∀ (f i : Nat) (s : List (List UInt8)), i < l.length → s.length = i → loop (f + 1) s (i : Int) = loop f (s ++ [g (l[i]!)]) ((i + 1 : Nat) : Int))
  (stop : ∀ (f : Nat) (s : List (List UInt8)), loop (f + 1) s (l.length : Int) = K s) :
  ∀ (k f i : Nat), i + k = l.length → k < f → loop f ((l.take i).map g) (i : Int) = K (l.map g) := by
 intro k
 induction k with
 | zero =>
  intro f i hi hf
  obtain ⟨f, rfl⟩ : ∃ n, f = n + 1 := ⟨f - 1, by omega⟩
  obtain rfl : i = l.length := by omega
  rw [stop, List.take_of_length_le (Nat.le_refl _)]
 | succ k ih =>
  intro f i hi hf
  obtain ⟨f, rfl⟩ : ∃ n, f = n + 1 := ⟨f - 1, by omega⟩
  rw [step f i _ (by omega) (by rw [List.length_map, List.length_take]; omega), ← ih f (i + 1) (by omega) (by omega), List.take_add_one, List.getElem?_eq_getElem (by omega : i < l.length), List.map_append, getElem!_pos l i (by omega)]
  rfl
def CD (m : Al) (p : Int) : List (List UInt8) :=
 if p = 1 then m.2.1.map (·.1) else if p = 3 then m.2.2.2.1.map (·.1) else if p = 4 then m.2.2.2.2.1.map (·.1) else if p = 5 then m.2.2.2.2.2.1.map (·.1) else if p = 6 then m.2.2.2.2.2.2.1.map (·.1)
 else if p = 12 then m.2.2.2.2.2.2.2.2.2.2.2.2.1.map (·.1) else if p = 13 then m.2.2.2.2.2.2.2.2.2.2.2.2.2.1.map (·.1) else if p = 14 then m.2.2.2.2.2.2.2.2.2.2.2.2.2.2.1.map (·.1) else []
structure Tit (N : Nat) (m : Al) : Prop where
 h1 : m.2.1.length < N ∧ m.2.1.length ≤ 8796093022208
 h3 : m.2.2.2.1.length < N ∧ m.2.2.2.1.length ≤ 8796093022208
 h4 : m.2.2.2.2.1.length < N ∧ m.2.2.2.2.1.length ≤ 8796093022208
 h5 : m.2.2.2.2.2.1.length < N ∧ m.2.2.2.2.2.1.length ≤ 8796093022208
 h6 : m.2.2.2.2.2.2.1.length < N ∧ m.2.2.2.2.2.2.1.length ≤ 8796093022208
 h12 : m.2.2.2.2.2.2.2.2.2.2.2.2.1.length < N ∧ m.2.2.2.2.2.2.2.2.2.2.2.2.1.length ≤ 8796093022208
 h13 : m.2.2.2.2.2.2.2.2.2.2.2.2.2.1.length < N ∧ m.2.2.2.2.2.2.2.2.2.2.2.2.2.1.length ≤ 8796093022208
 h14 : m.2.2.2.2.2.2.2.2.2.2.2.2.2.2.1.length < N ∧ m.2.2.2.2.2.2.2.2.2.2.2.2.2.2.1.length ≤ 8796093022208
section
variable (N : Nat) (m : Al) (p : Int) (s : List (List UInt8))
theorem QV (hN : 0 < N) (h : p ≠ 14) : Kf N m p s = some s := by
 obtain ⟨f, rfl⟩ : ∃ n, N = n + 1 := ⟨N - 1, by omega⟩
 unfold Kf
 rw [Ke]
 split <;> rfl
theorem Td (hN : 0 < N) (h : p ≠ 13) : Kg N m p s = Kf N m p s := by
 obtain ⟨f, rfl⟩ : ∃ n, N = n + 1 := ⟨N - 1, by omega⟩
 rw [Kg, Kc]
 split <;> rfl
theorem UT (hN : 0 < N) (h : p ≠ 12) : Kh N m p s = Kg N m p s := by
 obtain ⟨f, rfl⟩ : ∃ n, N = n + 1 := ⟨N - 1, by omega⟩
 rw [Kh, Kb]
 split <;> rfl
theorem t6n (hN : 0 < N) (h : p ≠ 6) : OC N m p s = Kh N m p s := by
 obtain ⟨f, rfl⟩ : ∃ n, N = n + 1 := ⟨N - 1, by omega⟩
 rw [OC, Ka]
 split <;> rfl
theorem t5n (hN : 0 < N) (h : p ≠ 5) : OD N m p s = OC N m p s := by
 obtain ⟨f, rfl⟩ : ∃ n, N = n + 1 := ⟨N - 1, by omega⟩
 rw [OD, JZ]
 split <;> rfl
theorem t4n (hN : 0 < N) (h : p ≠ 4) : OE N m p s = OD N m p s := by
 obtain ⟨f, rfl⟩ : ∃ n, N = n + 1 := ⟨N - 1, by omega⟩
 rw [OE, JY]
 split <;> rfl
theorem t3n (hN : 0 < N) (h : p ≠ 3) : OG N m p s = OE N m p s := by
 obtain ⟨f, rfl⟩ : ∃ n, N = n + 1 := ⟨N - 1, by omega⟩
 rw [OG, JX]
 split <;> rfl
theorem t1n (hN : 0 < N) (h : p ≠ 1) : rTm N m p = OG N m p [] := by
 obtain ⟨f, rfl⟩ : ∃ n, N = n + 1 := ⟨N - 1, by omega⟩
 rw [rTm, JW]
 split <;> rfl
end
section
theorem t1y {N : Nat} {m : Al} (h : Tit N m) : rTm N m 1 = OG N m 1 (m.2.1.map (·.1)) := by
 have := HY m.2.1 (·.1) (JW N m 1) (OG N m 1) (fun f i s hi hs => by
  have := h.h1
  rw [JW, if_pos (by omega), if_pos rfl, Uc, ckp (by omega), ckp (by simp only [List.length_singleton]; omega), ckp (by omega), Int.toNat_natCast]; rfl) (fun f s => by rw [JW, if_neg (by omega)]) m.2.1.length N 0 (by omega) h.h1.1
 exact this
theorem t3y {N : Nat} {m : Al} (h : Tit N m) : OG N m 3 [] = OE N m 3 (m.2.2.2.1.map (·.1)) := by
 have := HY m.2.2.2.1 (·.1) (JX N m 3) (OE N m 3) (fun f i s hi hs => by
  have := h.h3
  rw [JX, if_pos (by omega), if_pos rfl, Ud, ckp (by omega), ckp (by simp only [List.length_singleton]; omega), ckp (by omega), Int.toNat_natCast]; rfl) (fun f s => by rw [JX, if_neg (by omega)]) _ N 0 (Nat.zero_add _) h.h3.1
 exact this
theorem t4y {N : Nat} {m : Al} (h : Tit N m) : OE N m 4 [] = OD N m 4 (m.2.2.2.2.1.map (·.1)) := by
 have := HY m.2.2.2.2.1 (·.1) (JY N m 4) (OD N m 4) (fun f i s hi hs => by
  have := h.h4
  rw [JY, if_pos (by omega), if_pos rfl, Ue, ckp (by omega), ckp (by simp only [List.length_singleton]; omega), ckp (by omega), Int.toNat_natCast]; rfl) (fun f s => by rw [JY, if_neg (by omega)]) _ N 0 (Nat.zero_add _) h.h4.1
 exact this
theorem t5y {N : Nat} {m : Al} (h : Tit N m) : OD N m 5 [] = OC N m 5 (m.2.2.2.2.2.1.map (·.1)) := by
 have := HY m.2.2.2.2.2.1 (·.1) (JZ N m 5) (OC N m 5) (fun f i s hi hs => by
  have := h.h5
  rw [JZ, if_pos (by omega), if_pos rfl, Uf, ckp (by omega), ckp (by simp only [List.length_singleton]; omega), ckp (by omega), Int.toNat_natCast]; rfl) (fun f s => by rw [JZ, if_neg (by omega)]) _ N 0 (Nat.zero_add _) h.h5.1
 exact this
theorem t6y {N : Nat} {m : Al} (h : Tit N m) : OC N m 6 [] = Kh N m 6 (m.2.2.2.2.2.2.1.map (·.1)) := by
 have := HY m.2.2.2.2.2.2.1 (·.1) (Ka N m 6) (Kh N m 6) (fun f i s hi hs => by
  have := h.h6
  rw [Ka, if_pos (by omega), if_pos rfl, Ug, ckp (by omega), ckp (by simp only [List.length_singleton]; omega), ckp (by omega), Int.toNat_natCast]; rfl) (fun f s => by rw [Ka, if_neg (by omega)]) _ N 0 (Nat.zero_add _) h.h6.1
 exact this
theorem gc {N : Nat} {m : Al} (h : Tit N m) : Kh N m 12 [] = Kg N m 12 (m.2.2.2.2.2.2.2.2.2.2.2.2.1.map (·.1)) := by
 have := HY m.2.2.2.2.2.2.2.2.2.2.2.2.1 (·.1) (Kb N m 12) (Kg N m 12) (fun f i s hi hs => by
  have := h.h12
  rw [Kb, if_pos (by omega), if_pos rfl, Uh, ckp (by omega), ckp (by simp only [List.length_singleton]; omega), ckp (by omega), Int.toNat_natCast]; rfl) (fun f s => by rw [Kb, if_neg (by omega)]) _ N 0 (Nat.zero_add _) h.h12.1
 exact this
theorem gb {N : Nat} {m : Al} (h : Tit N m) : Kg N m 13 [] = Kf N m 13 (m.2.2.2.2.2.2.2.2.2.2.2.2.2.1.map (·.1)) := by
 have := HY m.2.2.2.2.2.2.2.2.2.2.2.2.2.1 (·.1) (Kc N m 13) (Kf N m 13) (fun f i s hi hs => by
  have := h.h13
  rw [Kc, if_pos (by omega), if_pos rfl, Ui, ckp (by omega), ckp (by simp only [List.length_singleton]; omega), ckp (by omega), Int.toNat_natCast]; rfl) (fun f s => by rw [Kc, if_neg (by omega)]) _ N 0 (Nat.zero_add _) h.h13.1
 exact this
theorem ga {N : Nat} {m : Al} (h : Tit N m) : Kf N m 14 [] = some (m.2.2.2.2.2.2.2.2.2.2.2.2.2.2.1.map (·.1)) := by
 have := HY m.2.2.2.2.2.2.2.2.2.2.2.2.2.2.1 (·.1) (Ke m 14) some (fun f i s hi hs => by
  have := h.h14
  rw [Ke, if_pos (by omega), if_pos rfl, Uj, ckp (by omega), ckp (by simp only [List.length_singleton]; omega), ckp (by omega), Int.toNat_natCast]; rfl) (fun f s => by rw [Ke, if_neg (by omega)]) _ N 0 (Nat.zero_add _) h.h14.1
 exact this
theorem VS {N : Nat} {m : Al} (h : Tit N m) (p : Int) : rTm N m p = some (CD m p) := by
 have hN : 0 < N := Nat.lt_of_le_of_lt (Nat.zero_le _) h.h1.1
 unfold CD
 by_cases c1 : p = 1
 ·subst c1; rw [if_pos rfl, t1y h, t3n N m _ _ hN (by decide), t4n N m _ _ hN (by decide), t5n N m _ _ hN (by decide), t6n N m _ _ hN (by decide), UT N m _ _ hN (by decide), Td N m _ _ hN (by decide), QV N m _ _ hN (by decide)]
 rw [if_neg c1, t1n N m p hN c1]
 by_cases c3 : p = 3
 ·subst c3; rw [if_pos rfl, t3y h, t4n N m _ _ hN (by decide), t5n N m _ _ hN (by decide), t6n N m _ _ hN (by decide), UT N m _ _ hN (by decide), Td N m _ _ hN (by decide), QV N m _ _ hN (by decide)]
 rw [if_neg c3, t3n N m p _ hN c3]
 by_cases c4 : p = 4
 ·subst c4; rw [if_pos rfl, t4y h, t5n N m _ _ hN (by decide), t6n N m _ _ hN (by decide), UT N m _ _ hN (by decide), Td N m _ _ hN (by decide), QV N m _ _ hN (by decide)]
 rw [if_neg c4, t4n N m p _ hN c4]
 by_cases c5 : p = 5
 ·subst c5; rw [if_pos rfl, t5y h, t6n N m _ _ hN (by decide), UT N m _ _ hN (by decide), Td N m _ _ hN (by decide), QV N m _ _ hN (by decide)]
 rw [if_neg c5, t5n N m p _ hN c5]
 by_cases c6 : p = 6
 ·subst c6; rw [if_pos rfl, t6y h, UT N m _ _ hN (by decide), Td N m _ _ hN (by decide), QV N m _ _ hN (by decide)]
 rw [if_neg c6, t6n N m p _ hN c6]
 by_cases c12 : p = 12
 ·subst c12; rw [if_pos rfl, gc h, Td N m _ _ hN (by decide), QV N m _ _ hN (by decide)]
 rw [if_neg c12, UT N m p _ hN c12]
 by_cases c13 : p = 13
 ·subst c13; rw [if_pos rfl, gb h, QV N m _ _ hN (by decide)]
 rw [if_neg c13, Td N m p _ hN c13]
 by_cases c14 : p = 14
 ·subst c14; rw [if_pos rfl, ga h]
 rw [if_neg c14, QV N m p _ hN c14]
end
def brf (l : List (List UInt8)) : Prop := (∀ i, i < l.length → (l[i]!).length ≤ 100) ∧ l.length ≤ 70
theorem cz {N : Nat} (l : List (List UInt8)) (hN : l.length < N) (hl : l.length ≤ 8796093022208) : ∃ b, IC N l = some b ∧ (b = true → brf l) := by
 rcases UI l.length (fun i => (l[i]!).length ≤ 100) (ES l) (some (decide ((((l).length : Int) : Int) ≤ 70))) (fun f i hi => by
  rw [ES, if_pos (by omega), ckp (by omega), Int.toNat_natCast]
  by_cases c : ((l[i]!).length : Int) > 100
  ·exact .inl (if_pos c)
  ·rw [if_neg c, ckp (by omega)]; exact .inr ⟨by omega, rfl⟩) (fun f => by rw [ES, if_neg (by omega)]) l.length N 0 (by omega) hN with h | ⟨h1, h2⟩
 ·exact ⟨false, h, fun e => nomatch e⟩
 ·exact ⟨_, h2, fun e => ⟨fun i hi => h1 i (Nat.zero_le _) hi, by have := of_decide_eq_true e; omega⟩⟩
structure Lit (m : Al) : Prop where
 nm : m.1.length ≤ 200
 ti : ∀ p : Nat, p < 15 → brf (CD m p)
 hd : ∀ i, i < m.2.1.length → ((m.2.1[i]!).2.1.length ≤ 900 ∧ ∀ j, j < (m.2.1[i]!).2.1.length → j < 300 → (((m.2.1[i]!).2.1)[j]!).1.length ≤ 100)
 il : m.2.2.1.length + m.2.2.2.2.2.2.2.1.length + m.2.2.2.2.2.2.2.2.1.length + m.2.2.2.2.2.2.2.2.2.1.length + m.2.2.2.2.2.2.2.2.2.2.1.length + m.2.2.2.2.2.2.2.2.2.2.2.1.length ≤ 900
 ins : ∀ i, i < m.2.2.1.length → i < 300 → (m.2.2.1[i]!).1.length ≤ 100
 st : ∀ i, i < m.2.2.2.2.1.length → (m.2.2.2.2.1[i]!).2.1.length + (m.2.2.2.2.1[i]!).2.2.1.length + (m.2.2.2.2.1[i]!).2.2.2.1.length ≤ 900
 ac : ∀ i, i < m.2.2.2.2.2.1.length → (m.2.2.2.2.2.1[i]!).2.1.length + (m.2.2.2.2.2.1[i]!).2.2.length ≤ 900
 tb : ∀ i, i < m.2.2.2.2.2.2.1.length → (m.2.2.2.2.2.2.1[i]!).2.2.1.length + (m.2.2.2.2.2.2.1[i]!).2.2.2.1.length + (m.2.2.2.2.2.2.1[i]!).2.2.2.2.2.1.length ≤ 900
 ni : ∀ i, i < m.2.2.2.2.2.2.2.1.length → i < 300 → (m.2.2.2.2.2.2.2.1[i]!).2.2.1.length + (m.2.2.2.2.2.2.2.1[i]!).2.2.2.1.length ≤ 900
 ne : ∀ i, i < m.2.2.2.2.2.2.2.2.1.length → i < 300 → (m.2.2.2.2.2.2.2.2.1[i]!).2.2.1.length + (m.2.2.2.2.2.2.2.2.1[i]!).2.2.2.1.length ≤ 900
structure Siz (m : Al) : Prop where
 h2 : m.2.2.1.length ≤ 8796093022208
 h8 : m.2.2.2.2.2.2.2.1.length ≤ 8796093022208
 h9 : m.2.2.2.2.2.2.2.2.1.length ≤ 8796093022208
 h10 : m.2.2.2.2.2.2.2.2.2.1.length ≤ 140737488355328
 h11 : m.2.2.2.2.2.2.2.2.2.2.1.length ≤ 8796093022208
 h12 : m.2.2.2.2.2.2.2.2.2.2.2.1.length ≤ 8796093022208
 hd : ∀ i, i < m.2.1.length → (m.2.1[i]!).2.1.length ≤ 140737488355328
 st : ∀ i, i < m.2.2.2.2.1.length → (m.2.2.2.2.1[i]!).2.1.length ≤ 140737488355328 ∧ (m.2.2.2.2.1[i]!).2.2.1.length ≤ 140737488355328 ∧ (m.2.2.2.2.1[i]!).2.2.2.1.length ≤ 140737488355328
 ac : ∀ i, i < m.2.2.2.2.2.1.length → (m.2.2.2.2.2.1[i]!).2.1.length ≤ 140737488355328 ∧ (m.2.2.2.2.2.1[i]!).2.2.length ≤ 140737488355328
 tb : ∀ i, i < m.2.2.2.2.2.2.1.length → (m.2.2.2.2.2.2.1[i]!).2.2.1.length ≤ 140737488355328 ∧ (m.2.2.2.2.2.2.1[i]!).2.2.2.1.length ≤ 140737488355328 ∧ (m.2.2.2.2.2.2.1[i]!).2.2.2.2.2.1.length ≤ 140737488355328
 ni : ∀ i, i < m.2.2.2.2.2.2.2.1.length → (m.2.2.2.2.2.2.2.1[i]!).2.2.1.length ≤ 140737488355328 ∧ (m.2.2.2.2.2.2.2.1[i]!).2.2.2.1.length ≤ 140737488355328
 ne : ∀ i, i < m.2.2.2.2.2.2.2.2.1.length → (m.2.2.2.2.2.2.2.2.1[i]!).2.2.1.length ≤ 140737488355328 ∧ (m.2.2.2.2.2.2.2.2.1[i]!).2.2.2.1.length ≤ 140737488355328
theorem fG {N : Nat} (hN : 400 < N) {m : Al} (hs : Siz m) (n : Nat) (hn : n ≤ 2000000000000000000) : ∃ b, PC N m (n : Int) = some b ∧ (b = true → n ≤ 900 ∧ (m.1.length ≤ 200) ∧ ∀ i, 0 ≤ i → i < min m.2.2.2.2.2.2.2.2.1.length 300 → True ∧ (m.2.2.2.2.2.2.2.2.1[i]!).2.2.1.length + (m.2.2.2.2.2.2.2.2.1[i]!).2.2.2.1.length ≤ 900) :=
 Ln (min m.2.2.2.2.2.2.2.2.1.length 300) (fun i => (m.2.2.2.2.2.2.2.2.1[i]!).2.2.1.length + (m.2.2.2.2.2.2.2.2.1[i]!).2.2.2.1.length) (fun _ => True) (KU m) (PB m) (m.1.length ≤ 200) 3000000000000000000 281474976710656
  (fun i hi => by have := hs.ne i (by omega); omega)
  (fun n _ => by
   unfold PB
   by_cases c : (n : Int) ≤ 900
   ·exact ⟨_, if_pos c, fun e => ⟨by omega, by have := of_decide_eq_true e; omega⟩⟩
   ·exact ⟨false, if_neg c, fun e => nomatch e⟩)
  (fun f n i hi hn => by
   have := hs.ne i (by omega)
   refine .inr ⟨trivial, ?_⟩
   rw [KU, if_pos (by omega), if_pos (by omega), Uq, ckp (by omega), Int.toNat_natCast, ckp (by omega), ckp (by omega), ckp (by omega), ckp (by omega)]
   congr 1; omega)
  (fun f n _ => by
   rw [KU]
   by_cases c : m.2.2.2.2.2.2.2.2.1.length ≤ 300
   ·rw [if_neg (by omega)]
   ·rw [if_pos (by omega), if_neg (by omega)]) _ N 0 n (Nat.zero_add _) (by omega) (by have : min m.2.2.2.2.2.2.2.2.1.length 300 * 281474976710656 ≤ 300 * 281474976710656 := Nat.mul_le_mul_right _ (Nat.min_le_right _ _); omega)
theorem fF {N : Nat} (hN : 400 < N) {m : Al} (hs : Siz m) (n : Nat) (hn : n ≤ 1800000000000000000) : ∃ b, Jr N m N (n : Int) 0 = some b ∧ (b = true → n ≤ 900 ∧ ((m.1.length ≤ 200) ∧ ∀ i, 0 ≤ i → i < min m.2.2.2.2.2.2.2.2.1.length 300 → True ∧ (m.2.2.2.2.2.2.2.2.1[i]!).2.2.1.length + (m.2.2.2.2.2.2.2.2.1[i]!).2.2.2.1.length ≤ 900)
  ∧ ∀ i, 0 ≤ i → i < min m.2.2.2.2.2.2.2.1.length 300 → True ∧ (m.2.2.2.2.2.2.2.1[i]!).2.2.1.length + (m.2.2.2.2.2.2.2.1[i]!).2.2.2.1.length ≤ 900) :=
 Ln (min m.2.2.2.2.2.2.2.1.length 300) (fun i => (m.2.2.2.2.2.2.2.1[i]!).2.2.1.length + (m.2.2.2.2.2.2.2.1[i]!).2.2.2.1.length) (fun _ => True) (Jr N m) (PC N m) _ 1900000000000000000 281474976710656
  (fun i hi => by have := hs.ni i (by omega); omega)
  (fun n hn => fG hN hs n (by omega))
  (fun f n i hi hn => by
   have := hs.ni i (by omega)
   refine .inr ⟨trivial, ?_⟩
   rw [Jr, if_pos (by omega), if_pos (by omega), Up, ckp (by omega), Int.toNat_natCast, ckp (by omega), ckp (by omega), ckp (by omega), ckp (by omega)]
   congr 1; omega)
  (fun f n _ => by
   rw [Jr]
   by_cases c : m.2.2.2.2.2.2.2.1.length ≤ 300
   ·rw [if_neg (by omega)]
   ·rw [if_pos (by omega), if_neg (by omega)]) _ N 0 n (Nat.zero_add _) (by omega) (by have : min m.2.2.2.2.2.2.2.1.length 300 * 281474976710656 ≤ 300 * 281474976710656 := Nat.mul_le_mul_right _ (Nat.min_le_right _ _); omega)
structure Few (m : Al) : Prop where
 h1 : m.2.1.length ≤ 70
 h4 : m.2.2.2.2.1.length ≤ 70
 h5 : m.2.2.2.2.2.1.length ≤ 70
 h6 : m.2.2.2.2.2.2.1.length ≤ 70
theorem fH {N : Nat} (hN : 400 < N) {m : Al} (hs : Siz m) (hF : Few m) (n : Nat) (hn : n ≤ 1600000000000000000) : ∃ b, Kn N m N (n : Int) 0 = some b ∧ (b = true → n ≤ 900 ∧ (((m.1.length ≤ 200) ∧ ∀ i, 0 ≤ i → i < min m.2.2.2.2.2.2.2.2.1.length 300 → True ∧ (m.2.2.2.2.2.2.2.2.1[i]!).2.2.1.length + (m.2.2.2.2.2.2.2.2.1[i]!).2.2.2.1.length ≤ 900)
  ∧ ∀ i, 0 ≤ i → i < min m.2.2.2.2.2.2.2.1.length 300 → True ∧ (m.2.2.2.2.2.2.2.1[i]!).2.2.1.length + (m.2.2.2.2.2.2.2.1[i]!).2.2.2.1.length ≤ 900)
  ∧ ∀ i, 0 ≤ i → i < m.2.2.2.2.2.2.1.length → True ∧ (m.2.2.2.2.2.2.1[i]!).2.2.1.length + (m.2.2.2.2.2.2.1[i]!).2.2.2.1.length + (m.2.2.2.2.2.2.1[i]!).2.2.2.2.2.1.length ≤ 900) :=
 Ln m.2.2.2.2.2.2.1.length (fun i => (m.2.2.2.2.2.2.1[i]!).2.2.1.length + (m.2.2.2.2.2.2.1[i]!).2.2.2.1.length + (m.2.2.2.2.2.2.1[i]!).2.2.2.2.2.1.length) (fun _ => True) (Kn N m) (fun n => Jr N m N n 0) _ 1700000000000000000 562949953421312
  (fun i hi => by have := hs.tb i (by omega); omega)
  (fun n hn => fF hN hs n (by omega))
  (fun f n i hi hn => by
   have := hF.h6; have := hs.tb i (by omega)
   refine .inr ⟨trivial, ?_⟩
   rw [Kn, if_pos (by omega), ckp (by omega), Int.toNat_natCast, ckp (by omega), ckp (by omega), ckp (by omega), ckp (by omega), ckp (by omega), ckp (by omega)]
   congr 1; omega)
  (fun f n _ => by rw [Kn, if_neg (by omega)]) _ N 0 n (Nat.zero_add _) (by have := hF.h6; omega) (by have := hF.h6; have : m.2.2.2.2.2.2.1.length * 562949953421312 ≤ 70 * 562949953421312 := Nat.mul_le_mul_right _ this; omega)
theorem fI {N : Nat} (hN : 400 < N) {m : Al} (hs : Siz m) (hF : Few m) (n : Nat) (hn : n ≤ 1400000000000000000) : ∃ b, Ko N m N (n : Int) 0 = some b ∧ (b = true → n ≤ 900 ∧ ((((m.1.length ≤ 200) ∧ ∀ i, 0 ≤ i → i < min m.2.2.2.2.2.2.2.2.1.length 300 → True ∧ (m.2.2.2.2.2.2.2.2.1[i]!).2.2.1.length + (m.2.2.2.2.2.2.2.2.1[i]!).2.2.2.1.length ≤ 900)
  ∧ ∀ i, 0 ≤ i → i < min m.2.2.2.2.2.2.2.1.length 300 → True ∧ (m.2.2.2.2.2.2.2.1[i]!).2.2.1.length + (m.2.2.2.2.2.2.2.1[i]!).2.2.2.1.length ≤ 900)
  ∧ ∀ i, 0 ≤ i → i < m.2.2.2.2.2.2.1.length → True ∧ (m.2.2.2.2.2.2.1[i]!).2.2.1.length + (m.2.2.2.2.2.2.1[i]!).2.2.2.1.length + (m.2.2.2.2.2.2.1[i]!).2.2.2.2.2.1.length ≤ 900)
  ∧ ∀ i, 0 ≤ i → i < m.2.2.2.2.2.1.length → True ∧ (m.2.2.2.2.2.1[i]!).2.1.length + (m.2.2.2.2.2.1[i]!).2.2.length ≤ 900) :=
 Ln m.2.2.2.2.2.1.length (fun i => (m.2.2.2.2.2.1[i]!).2.1.length + (m.2.2.2.2.2.1[i]!).2.2.length) (fun _ => True) (Ko N m) (fun n => Kn N m N n 0) _ 1500000000000000000 562949953421312
  (fun i hi => by have := hs.ac i (by omega); omega)
  (fun n hn => fH hN hs hF n (by omega))
  (fun f n i hi hn => by
   have := hF.h5; have := hs.ac i (by omega)
   refine .inr ⟨trivial, ?_⟩
   rw [Ko, if_pos (by omega), ckp (by omega), Int.toNat_natCast, ckp (by omega), ckp (by omega), ckp (by omega), ckp (by omega)]
   congr 1; omega)
  (fun f n _ => by rw [Ko, if_neg (by omega)]) _ N 0 n (Nat.zero_add _) (by have := hF.h5; omega) (by have := hF.h5; have : m.2.2.2.2.2.1.length * 562949953421312 ≤ 70 * 562949953421312 := Nat.mul_le_mul_right _ this; omega)
theorem fJ {N : Nat} (hN : 400 < N) {m : Al} (hs : Siz m) (hF : Few m) (n : Nat) (hn : n ≤ 1200000000000000000) : ∃ b, Tp N m (n : Int) = some b ∧ (b = true → n ≤ 900 ∧ (((((m.1.length ≤ 200) ∧ ∀ i, 0 ≤ i → i < min m.2.2.2.2.2.2.2.2.1.length 300 → True ∧ (m.2.2.2.2.2.2.2.2.1[i]!).2.2.1.length + (m.2.2.2.2.2.2.2.2.1[i]!).2.2.2.1.length ≤ 900)
  ∧ ∀ i, 0 ≤ i → i < min m.2.2.2.2.2.2.2.1.length 300 → True ∧ (m.2.2.2.2.2.2.2.1[i]!).2.2.1.length + (m.2.2.2.2.2.2.2.1[i]!).2.2.2.1.length ≤ 900)
  ∧ ∀ i, 0 ≤ i → i < m.2.2.2.2.2.2.1.length → True ∧ (m.2.2.2.2.2.2.1[i]!).2.2.1.length + (m.2.2.2.2.2.2.1[i]!).2.2.2.1.length + (m.2.2.2.2.2.2.1[i]!).2.2.2.2.2.1.length ≤ 900)
  ∧ ∀ i, 0 ≤ i → i < m.2.2.2.2.2.1.length → True ∧ (m.2.2.2.2.2.1[i]!).2.1.length + (m.2.2.2.2.2.1[i]!).2.2.length ≤ 900)
  ∧ ∀ i, 0 ≤ i → i < m.2.2.2.2.1.length → True ∧ (m.2.2.2.2.1[i]!).2.1.length + (m.2.2.2.2.1[i]!).2.2.1.length + (m.2.2.2.2.1[i]!).2.2.2.1.length ≤ 900) :=
 Ln m.2.2.2.2.1.length (fun i => (m.2.2.2.2.1[i]!).2.1.length + (m.2.2.2.2.1[i]!).2.2.1.length + (m.2.2.2.2.1[i]!).2.2.2.1.length) (fun _ => True) (Ma N m) (fun n => Ko N m N n 0) _ 1300000000000000000 562949953421312
  (fun i hi => by have := hs.st i (by omega); omega)
  (fun n hn => fI hN hs hF n (by omega))
  (fun f n i hi hn => by
   have := hF.h4; have := hs.st i (by omega)
   refine .inr ⟨trivial, ?_⟩
   rw [Ma, if_pos (by omega), ckp (by omega), Int.toNat_natCast, ckp (by omega), ckp (by omega), ckp (by omega), ckp (by omega), ckp (by omega), ckp (by omega)]
   congr 1; omega)
  (fun f n _ => by rw [Ma, if_neg (by omega)]) _ N 0 n (Nat.zero_add _) (by have := hF.h4; omega) (by have := hF.h4; have : m.2.2.2.2.1.length * 562949953421312 ≤ 70 * 562949953421312 := Nat.mul_le_mul_right _ this; omega)
theorem fE {N : Nat} (hN : 400 < N) {m : Al} (hs : Siz m) (n : Int) : Jd N m n N 0 = some false ∨ ((∀ i, 0 ≤ i → i < min m.2.2.1.length 300 → (m.2.2.1[i]!).1.length ≤ 100) ∧ Jd N m n N 0 = Tp N m n) :=
 UI (min m.2.2.1.length 300) (fun i => (m.2.2.1[i]!).1.length ≤ 100) (Jd N m n) (Tp N m n) (fun f i hi => by
  rw [Jd, if_pos (by omega), if_pos (by omega), Uo, ckp (by omega), Int.toNat_natCast]
  by_cases c : (((m.2.2.1[i]!).1.length : Int)) > 100
  ·exact .inl (if_pos c)
  ·rw [if_neg c, ckp (by omega)]; exact .inr ⟨by omega, rfl⟩) (fun f => by
  rw [Jd]
  by_cases c : m.2.2.1.length ≤ 300
  ·rw [if_neg (by omega)]
  ·rw [if_pos (by omega), if_neg (by omega)]) _ N 0 (Nat.zero_add _) (by omega)
theorem gg {N : Nat} (hN : 400 < N) {m : Al} (hs : Siz m) (n : Int) (i : Nat) (hi : i < m.2.1.length) (hi7 : i ≤ 70) (rec : Int → Int → Option Bool) :
  Ni m n (i : Int) rec N 0 = some false ∨ ((∀ j, 0 ≤ j → j < min (m.2.1[i]!).2.1.length 300 → (((m.2.1[i]!).2.1)[j]!).1.length ≤ 100) ∧ Ni m n (i : Int) rec N 0 = rec (n + ((m.2.1[i]!).2.1.length : Int)) ((i : Int) + 1)) :=
 UI (min (m.2.1[i]!).2.1.length 300) (fun j => (((m.2.1[i]!).2.1)[j]!).1.length ≤ 100) (Ni m n (i : Int) rec) _ (fun f j hj => by
  rw [Ni, ckp (by omega), Int.toNat_natCast, if_pos (by omega), if_pos (by omega), bx, ckp (by omega), Int.toNat_natCast, ckp (by omega), Int.toNat_natCast]
  by_cases c : (((((m.2.1[i]!).2.1)[j]!).1.length : Int)) > 100
  ·exact .inl (if_pos c)
  ·rw [if_neg c, ckp (by omega)]; exact .inr ⟨by omega, rfl⟩) (fun f => by
  rw [Ni, ckp (by omega), Int.toNat_natCast]
  by_cases c : (m.2.1[i]!).2.1.length ≤ 300
  ·rw [if_neg (by omega), ckp (by omega)]
  ·rw [if_pos (by omega), if_neg (by omega), ckp (by omega)]) _ N 0 (Nat.zero_add _) (by omega)
theorem gh {N : Nat} (hN : 400 < N) {m : Al} (hs : Siz m) (hF : Few m) (n : Nat) (hn : n ≤ 1000000000000000000) : ∃ b, LE N m N (n : Int) 0 = some b ∧ (b = true → n ≤ 900 ∧ ((∀ i, 0 ≤ i → i < min m.2.2.1.length 300 → (m.2.2.1[i]!).1.length ≤ 100) ∧ (((((m.1.length ≤ 200) ∧ ∀ i, 0 ≤ i → i < min m.2.2.2.2.2.2.2.2.1.length 300 → True ∧ (m.2.2.2.2.2.2.2.2.1[i]!).2.2.1.length + (m.2.2.2.2.2.2.2.2.1[i]!).2.2.2.1.length ≤ 900)
  ∧ ∀ i, 0 ≤ i → i < min m.2.2.2.2.2.2.2.1.length 300 → True ∧ (m.2.2.2.2.2.2.2.1[i]!).2.2.1.length + (m.2.2.2.2.2.2.2.1[i]!).2.2.2.1.length ≤ 900)
  ∧ ∀ i, 0 ≤ i → i < m.2.2.2.2.2.2.1.length → True ∧ (m.2.2.2.2.2.2.1[i]!).2.2.1.length + (m.2.2.2.2.2.2.1[i]!).2.2.2.1.length + (m.2.2.2.2.2.2.1[i]!).2.2.2.2.2.1.length ≤ 900)
  ∧ ∀ i, 0 ≤ i → i < m.2.2.2.2.2.1.length → True ∧ (m.2.2.2.2.2.1[i]!).2.1.length + (m.2.2.2.2.2.1[i]!).2.2.length ≤ 900)
  ∧ ∀ i, 0 ≤ i → i < m.2.2.2.2.1.length → True ∧ (m.2.2.2.2.1[i]!).2.1.length + (m.2.2.2.2.1[i]!).2.2.1.length + (m.2.2.2.2.1[i]!).2.2.2.1.length ≤ 900)
  ∧ ∀ i, 0 ≤ i → i < m.2.1.length → (∀ j, 0 ≤ j → j < min (m.2.1[i]!).2.1.length 300 → (((m.2.1[i]!).2.1)[j]!).1.length ≤ 100) ∧ (m.2.1[i]!).2.1.length ≤ 900) :=
 Ln m.2.1.length (fun i => (m.2.1[i]!).2.1.length) _ (LE N m) (fun n => Jd N m n N 0) _ 1100000000000000000 562949953421312
  (fun i hi => by have := hs.hd i (by omega); omega)
  (fun n hn => by
   rcases fE hN hs (n : Int) with h | ⟨h, h2⟩
   ·exact ⟨false, h, fun e => nomatch e⟩
   ·obtain ⟨b, h3, h4⟩ := fJ hN hs hF n (by omega)
    exact ⟨b, h2.trans h3, fun e => ⟨(h4 e).1, h, (h4 e).2⟩⟩)
  (fun f n i hi hn => by
   have := hs.hd i (by omega); have := hF.h1
   rw [LE, if_pos (by omega), ckp (by omega), Int.toNat_natCast, ckp (by omega)]
   rcases gg hN hs (n : Int) i hi (by omega) (LE N m f) with h | ⟨h, h2⟩
   ·exact .inl h
   ·exact .inr ⟨h, h2.trans (by congr 1)⟩)
  (fun f n _ => by rw [LE, if_neg (by omega)]) _ N 0 n (Nat.zero_add _) (by have := hF.h1; omega) (by have := hF.h1; have : m.2.1.length * 562949953421312 ≤ 70 * 562949953421312 := Nat.mul_le_mul_right _ this; omega)
theorem Tc {N : Nat} {m : Al} (h : Tit N m) (p : Int) : (CD m p).length < N ∧ (CD m p).length ≤ 8796093022208 := by
 unfold CD
 have h1 := h.h1; have h3 := h.h3; have h4 := h.h4; have h5 := h.h5; have h6 := h.h6; have h12 := h.h12; have h13 := h.h13; have h14 := h.h14
 split; · rw [List.length_map]; exact h1
 split; · rw [List.length_map]; exact h3
 split; · rw [List.length_map]; exact h4
 split; · rw [List.length_map]; exact h5
 split; · rw [List.length_map]; exact h6
 split; · rw [List.length_map]; exact h12
 split; · rw [List.length_map]; exact h13
 split; · rw [List.length_map]; exact h14
 exact ⟨by simp only [List.length_nil]; omega, by simp⟩
theorem bu {N : Nat} (hN : 400 < N) {m : Al} (hT : Tit N m) (hs : Siz m) : ∃ b, lLm N m = some b ∧ (b = true → Lit m) := by
 have i2 := hs.h2; have i8 := hs.h8; have i9 := hs.h9; have i10 := hs.h10; have i11 := hs.h11; have i12 := hs.h12
 rcases UI 15 (fun p => brf (CD m (p : Int))) (Rp N m) (LE N m N ((m.2.2.1.length + m.2.2.2.2.2.2.2.1.length + m.2.2.2.2.2.2.2.2.1.length + m.2.2.2.2.2.2.2.2.2.1.length + m.2.2.2.2.2.2.2.2.2.2.1.length + m.2.2.2.2.2.2.2.2.2.2.2.1.length : Nat) : Int) 0)
  (fun f p hp => by
   have hl := Tc hT (p : Int)
   obtain ⟨b, hb, hb2⟩ := cz (CD m (p : Int)) hl.1 hl.2
   rw [Rp, if_pos (by omega), VS hT, Option.bind_some, hb, Option.bind_some]
   cases b with
   | false => exact .inl (if_neg (by decide))
   | true => rw [if_pos rfl, ckp (by omega)]; exact .inr ⟨hb2 rfl, rfl⟩)
  (fun f => by
   rw [Rp, if_neg (by decide), ckp (by omega), ckp (by omega), ckp (by omega), ckp (by omega), ckp (by omega)]
   congr 1) 15 N 0 rfl (by omega) with h | ⟨h, h2⟩
 ·exact ⟨false, h, fun e => nomatch e⟩
 ·have b1 := (h 1 (by omega) (by omega)).2; have b4 := (h 4 (by omega) (by omega)).2; have b5 := (h 5 (by omega) (by omega)).2; have b6 := (h 6 (by omega) (by omega)).2
  have hF : Few m := ⟨by simpa [CD] using b1, by simpa [CD] using b4, by simpa [CD] using b5, by simpa [CD] using b6⟩
  obtain ⟨b, h3, h4⟩ := gh hN hs hF (m.2.2.1.length + m.2.2.2.2.2.2.2.1.length + m.2.2.2.2.2.2.2.2.1.length + m.2.2.2.2.2.2.2.2.2.1.length + m.2.2.2.2.2.2.2.2.2.2.1.length + m.2.2.2.2.2.2.2.2.2.2.2.1.length) (by omega)
  refine ⟨b, h2.trans h3, fun e => ?_⟩
  obtain ⟨g1, ⟨g2, ⟨⟨⟨⟨g3, g4⟩, g5⟩, g6⟩, g7⟩, g8⟩, g9⟩ := h4 e
  exact ⟨g3, fun p hp => h p (Nat.zero_le _) hp, fun i hi => ⟨(g9 i (Nat.zero_le _) hi).2, fun j h5 h6 => (g9 i (Nat.zero_le _) hi).1 j (Nat.zero_le _) (by omega)⟩, g1, fun i h5 h6 => g2 i (Nat.zero_le _) (by omega), fun i hi => (g8 i (Nat.zero_le _) hi).2, fun i hi => (g7 i (Nat.zero_le _) hi).2, fun i hi => (g6 i (Nat.zero_le _) hi).2, fun i h5 h6 => (g5 i (Nat.zero_le _) (by omega)).2, fun i h5 h6 => (g4 i (Nat.zero_le _) (by omega)).2⟩
end Go.Proofs.YtjmdbbnnpmmpiaaGreatDoor
