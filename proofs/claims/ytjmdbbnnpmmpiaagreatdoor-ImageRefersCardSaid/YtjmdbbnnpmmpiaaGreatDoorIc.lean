import Derived.Test.YtjmdbbnnpmmpiaaGreatDoorIb
namespace Go.Proofs.YtjmdbbnnpmmpiaaGreatDoor
open Go Go.RowKit Go.Eng
abbrev Stt := List UInt8 × List (Int × Int) × List (Int × Int × Int) × List (Int × BitVec 128 × Int × BitVec 128 × Int) × Int
abbrev Act := List UInt8 × List Int × List I9
abbrev Tab := List UInt8 × Int × List (Int × Int × Int) × List Int × Int × List (Int × BitVec 128) × Int
abbrev Nod := Int × Int × List I9 × List (Int × BitVec 128) × Int × Int
def Top (n : Int) : Prop := n ≤ 9223372036854775807
structure Ctx (N : Nat) (m : Al) : Prop where
 hN : 5000 < N
 hL : Lit m
 hs : m.2.1.length ≤ 16
 hh : ∀ h ∈ m.2.1, Lt h.1 h.2.1 ∧ Rj h.1 h.2.1 h.2.2.1 h.2.2.2.1 h.2.2.2.2.1 h.2.2.2.2.2 = 0
 il : m.2.2.1.length ≤ 16
theorem Ctx.ft {N : Nat} {m : Al} (h : Ctx N m) : Ft m.2.1.length m.2.2.1 := ⟨by have := h.hs; omega, by have := h.il; omega, fun j hj => by have := h.il; have := h.hL.ins j hj (by omega); omega⟩
theorem Ctx.cls {N : Nat} {m : Al} (h : Ctx N m) : Cls N m.2.1 := fun x hx => by
 have h1 := (h.hh x hx).1
 refine ⟨by have := h1.2.1; omega, ⟨by have := h1.1; omega, fun y hy => ?_⟩, by have := h1.1; have := h.hN; omega⟩
 exact WB (P := fun y : Fd => y.1.length ≤ 140737488355328) (fun i hi => by have := h1.2.2 i hi; omega) y hy
theorem Xf (hs : List Hd) (l : List Ins) (k : Int) : (∃ h ∈ hs, hdL hs l k = (h.1, h.2.1, h.2.2.1, h.2.2.2.1, h.2.2.2.2.1, h.2.2.2.2.2, true)) ∨ hdL hs l k = ([], [], 0, 0, 0, 0, false) := by
 unfold hdL
 split
 ·rename_i c
  exact .inl ⟨_, Bv (i := ((l[(ofL l k).1.toNat]!).2.1).toNat) (by omega), rfl⟩
 ·exact .inr rfl
section
variable {N : Nat} {m : Al}
theorem Wb (h : Ctx N m) (k : Int) (hk : Top k) : Ec N m k = some (hdL m.2.1 m.2.2.1 k) := by
 rw [Ec, Xe N (by have := h.hN; omega) m.2.1 h.cls m.2.2.1 k h.ft hk, Option.bind_some]
theorem GQ (N : Nat) (n : Nat) (hn : n ≤ 1000000000000000000) (i : Int) : ck ((-9223372036854775808 ≤ ((n : Int) - 1) ∧ ((n : Int) - 1) ≤ 9223372036854775807)) ((Az N i 0 ((n : Int) - 1)).bind fun r4 => some r4) = some (decide (0 ≤ i ∧ i < (n : Int))) := by
 rw [ckp (by omega), BS, Option.bind_some]; congr 1; exact decide_eq_decide.2 (by omega)
theorem MK (h : Ctx N m) (s f : Int) (hs : Top s) : ∃ r, Bu N m s f = some r := by
 rw [Bu, Wb h s hs, Option.bind_some]
 rcases Xf m.2.1 m.2.2.1 s with ⟨x, hx, e⟩ | e
 ·have hl := (h.hh x hx).1.1
  rw [e, if_pos rfl, show EW N x.2.1 f = _ from GQ N x.2.1.length (by omega) f, Option.bind_some]
  by_cases c : 0 ≤ f ∧ f < (x.2.1.length : Int)
  ·rw [decide_eq_true c, if_pos rfl, GR, ckp c]; exact ⟨_, rfl⟩
  ·rw [decide_eq_false c, if_neg (by decide)]; exact ⟨_, rfl⟩
 ·rw [e, if_neg (by decide)]; exact ⟨_, rfl⟩
theorem Tk (hm : m.2.2.2.1.length ≤ 1000) (i : Int) : ∃ r, BU N m i = some r := by
 rw [BU, BS, Option.bind_some]
 by_cases c : 0 ≤ i ∧ i ≤ 7
 ·rw [decide_eq_true c, if_pos rfl, ckp (by omega)]; exact ⟨_, rfl⟩
 ·rw [decide_eq_false c, if_neg (by decide), ckp (by omega), ckp (by omega), BS, Option.bind_some]
  by_cases d : 8 ≤ i ∧ i ≤ 8 + (m.2.2.2.1.length : Int) - 1
  ·rw [decide_eq_true d, if_pos rfl, ckp (by omega), ckp (by omega)]; exact ⟨_, rfl⟩
  ·rw [decide_eq_false d, if_neg (by decide)]; exact ⟨_, rfl⟩
theorem Pj (h : Ctx N m) (i : Int) : ∃ r, Cp N m i = some r := by
 rw [Cp, Wq N (by have := h.hN; omega) m.2.2.1 i h.ft.2.1, Option.bind_some]
 unfold Tx
 by_cases c : 0 ≤ i ∧ i < (m.2.2.1.length : Int) ∧ dep (m.2.2.1[i.toNat]!).2.2 ≠ 0
 ·rw [if_pos c, if_pos rfl, ckp (by omega)]
  split
  ·exact ⟨_, rfl⟩
  ·rw [FU, ckp (by omega)]; exact ⟨_, rfl⟩
 ·rw [if_neg c, if_neg (by decide)]; exact ⟨_, rfl⟩
theorem Nr (h : Ctx N m) (k : Int) (hk : Top k) : ∃ r, Bz N m k = some r := by
 rw [Bz, ec N (by have := h.hN; omega) m.2.2.1 k h.ft.2.1 hk, Option.bind_some]; exact ⟨_, rfl⟩
theorem Ctx.me (h : Ctx N m) : m.2.2.2.1.length ≤ 70 := by have := (h.hL.ti 3 (by omega)).2; simpa [CD] using this
theorem Ctx.st (h : Ctx N m) : m.2.2.2.2.1.length ≤ 70 := by have := (h.hL.ti 4 (by omega)).2; simpa [CD] using this
theorem Ctx.ac (h : Ctx N m) : m.2.2.2.2.2.1.length ≤ 70 := by have := (h.hL.ti 5 (by omega)).2; simpa [CD] using this
theorem Ctx.tb (h : Ctx N m) : m.2.2.2.2.2.2.1.length ≤ 70 := by have := (h.hL.ti 6 (by omega)).2; simpa [CD] using this
theorem Ctx.rg (h : Ctx N m) : m.2.2.2.2.2.2.2.2.2.2.2.2.1.length ≤ 70 := by have := (h.hL.ti 12 (by omega)).2; simpa [CD] using this
theorem Ctx.co (h : Ctx N m) : m.2.2.2.2.2.2.2.2.2.2.2.2.2.1.length ≤ 70 := by have := (h.hL.ti 13 (by omega)).2; simpa [CD] using this
theorem Ctx.mt (h : Ctx N m) : m.2.2.2.2.2.2.2.2.2.2.2.2.2.2.1.length ≤ 70 := by have := (h.hL.ti 14 (by omega)).2; simpa [CD] using this
theorem Wr (h : Ctx N m) (k a b : Int) (ha : Top a) : ∃ r, BT N m k a b = some r := by
 rw [BT]
 split
 ·obtain ⟨r, e⟩ := MK h a b ha; rw [e]; exact ⟨_, rfl⟩
 split
 ·obtain ⟨r, e⟩ := Tk (N := N) (m := m) (by have := h.me; omega) a; rw [e]; exact ⟨_, rfl⟩
 split <;> exact ⟨_, rfl⟩
theorem Tq (h : Ctx N m) (l : List (Int × Int × Int)) (hl : l.length ≤ 1000) (hr : ∀ i, i < l.length → Top (l[i]!).2.1) : ∀ (k f i : Nat) (t : Int), i + k = l.length → k < f → 0 ≤ t → t ≤ 128 → ∃ r, Ed N m l f t (i : Int) = some r := by
 intro k
 induction k with
 | zero =>
  intro f i t hi hf h0 h1
  obtain ⟨f, rfl⟩ : ∃ n, f = n + 1 := ⟨f - 1, by omega⟩
  rw [Ed, if_neg (by omega)]; exact ⟨_, rfl⟩
 | succ k ih =>
  intro f i t hi hf h0 h1
  obtain ⟨f, rfl⟩ : ∃ n, f = n + 1 := ⟨f - 1, by omega⟩
  obtain ⟨r, e⟩ := Wr h (l[i]!).1 (l[i]!).2.1 (l[i]!).2.2 (hr i (by omega))
  rw [Ed, if_pos (by omega), ckp (by omega), Int.toNat_natCast, e, Option.bind_some]
  split
  ·rw [ckp (by omega), BS, Option.bind_some]
   by_cases c : 1 ≤ r.1 ∧ r.1 ≤ 128 - t
   ·rw [decide_eq_true c, if_pos rfl, ckp (by omega), ckp (by omega), show (i : Int) + 1 = ((i + 1 : Nat) : Int) from by omega]
    exact ih f (i + 1) _ (by omega) (by omega) (by omega) (by omega)
   ·rw [decide_eq_false c, if_neg (by decide)]; exact ⟨_, rfl⟩
  ·exact ⟨_, rfl⟩
theorem cO (h : Ctx N m) (l : List (Int × Int × Int)) (hl : l.length ≤ 1000) (hr : ∀ i, i < l.length → Top (l[i]!).2.1) : ∃ r, Gb N m l = some r := Tq h l hl hr l.length N 0 0 (by omega) (by have := h.hN; omega) (by omega) (by omega)
theorem Ky (N : Nat) (w : Int) : Ans (CE N w) True := by
 rw [CE, BS, Option.bind_some]; exact ((Ans.un N _ 9 (by decide)).imp fun _ => trivial).pure
theorem Nb (N : Nat) (w : Int) : Ans (CT N w) True := by
 rw [CT, BS, Option.bind_some]; exact ((Ans.un N _ 7 (by decide)).imp fun _ => trivial).pure
theorem Vj (h : Ctx N m) (k a b : Int) (ha : Top a) : Ans (BZ N m k a b) True := by
 obtain ⟨r, e⟩ := Wr h k a b ha
 have k2 : ∀ q : Bool, Ans (Cc N r q) True := fun q => by
  rw [Cc, BE, Option.bind_some, BE, Option.bind_some]
  exact ((Gz (by have := h.hN; omega) _ _).imp fun _ => trivial).pure
 rw [BZ, e, Option.bind_some]
 split
 ·exact k2 _
 split
 ·rw [BS, Option.bind_some]
  split
  ·rw [BS, Option.bind_some]; exact k2 _
  ·exact k2 _
 ·exact k2 _
theorem ek (h : Ctx N m) (i k a b n : Int) (ha : Top a) (hn : 0 ≤ n ∧ n ≤ 10) : Ans (Ei N i k a b n m) True := by
 obtain ⟨q, e, _⟩ := Vj h k a b ha
 rw [Ei, ckp (by omega), VL, Option.bind_some, BE, Option.bind_some, e, Option.bind_some]
 exact ((Gz (by have := h.hN; omega) _ _).imp fun _ => trivial).pure
theorem XC (h : Ctx N m) (l : List (Int × Int × Int)) (hl : l.length ≤ 1000) (hr : ∀ i, i < l.length → Top (l[i]!).2.1) (n : Int) (hn : 0 ≤ n ∧ n ≤ 10) : Ans (BY N m l n) True := by
 have hN := h.hN
 have he1 : Ans2 (Hp N l 4 n m) _ := Ek (by omega : 1000 < N) l (fun i x => Ei N i x.1 x.2.1 x.2.2 n m) (fun _ => True) (Fw N l n m) 4 (by decide) (fun _ _ => rfl) (fun _ i hi => ek h _ _ _ _ n (hr i hi) hn)
 obtain ⟨r, e, _⟩ := he1
 obtain ⟨q, e2⟩ := cO h l hl hr
 rw [BY, e, Option.bind_some, e2, Option.bind_some, BE, Option.bind_some]
 exact ((Gz (by omega) _ _).imp fun _ => trivial).pure
theorem fS (h : Ctx N m) (i k n : Int) (hn : Top n) : Ans (Gd N m i k n) True := by
 rw [Gd]
 split
 ·rw [ec N (by have := h.hN; omega) m.2.2.1 n h.ft.2.1 hn, Option.bind_some]
  split
  ·rename_i _ a
   have hr : 0 ≤ (ofL m.2.2.1 n).1 ∧ (ofL m.2.2.1 n).1 < (m.2.2.1.length : Int) := by
    unfold ofL at a ⊢
    by_cases b : n < 0
    ·rw [if_pos b] at a; cases a
    ·rw [if_neg b] at a ⊢; have := Qe m.2.2.1 0 n a; omega
   rw [ckp hr]; exact ((Ans.un N _ 5 (by decide)).imp fun _ => trivial).pure
  ·exact ((Ans.un N _ 5 (by decide)).imp fun _ => trivial).pure
 split
 ·obtain ⟨r, e⟩ := Pj h n
  rw [e, Option.bind_some]; exact ((Ans.un N _ 5 (by decide)).imp fun _ => trivial).pure
 split
 ·rw [BS, Option.bind_some]; exact ((Ans.un N _ 7 (by decide)).imp fun _ => trivial).pure
 ·exact ⟨10, rfl, fun e => absurd e (by decide)⟩
theorem Qp (N : Nat) (w : Int) (x : BitVec 128) (n : Int) : ∃ r, Bh N w x n = some r := by
 rw [Bh]
 split
 ·rw [VM]; exact ⟨_, rfl⟩
 ·exact ⟨_, rfl⟩
theorem WF (h : Ctx N m) (n : Int) : Ans (Bg N m n) (-2 ≤ n ∧ n < (m.2.2.2.2.1.length : Int)) := by
 rw [Bg, show EU N m.2.2.2.2.1 n = _ from GQ N m.2.2.2.2.1.length (by have := h.st; omega) n, Option.bind_some]
 by_cases c : 0 ≤ n ∧ n < (m.2.2.2.2.1.length : Int)
 ·rw [decide_eq_true c, if_pos rfl]; exact ((Ans.un N _ 5 (by decide)).imp fun _ => by omega).pure
 rw [decide_eq_false c, if_neg (by decide)]
 by_cases d : n = -1
 ·rw [if_pos d]; exact ((Ans.un N _ 5 (by decide)).imp fun _ => by omega).pure
 ·rw [if_neg d]; exact ((Ans.un N _ 5 (by decide)).imp fun e => by have := eq_of_beq e; omega).pure
theorem eN (h : Ctx N m) (i w : Int) (x : BitVec 128) (w2 : Int) (x2 : BitVec 128) (n : Int) (l : List (Int × Int × Int)) (q : Int) : Ans (CA N i w x w2 x2 n l q m) (-2 ≤ n ∧ n < (m.2.2.2.2.1.length : Int)) := by
 have hN := h.hN
 obtain ⟨b1, e1⟩ := Qp N w x q
 obtain ⟨b2, e2⟩ := Qp N w2 x2 q
 obtain ⟨b3, e3, p3⟩ := WF h n
 rw [CA, EM, Option.bind_some, EM, Option.bind_some, IM, Option.bind_some, IN, Option.bind_some, BE, Option.bind_some, e1, Option.bind_some]
 split
 ·rw [e2, Option.bind_some, BE, Option.bind_some, BE, Option.bind_some, e3, Option.bind_some]
  exact ((QF (by omega) _ _ _ _).imp fun z => p3 z.2.2.2).pure
 ·rw [BE, Option.bind_some, BE, Option.bind_some, e3, Option.bind_some]
  exact ((QF (by omega) _ _ _ _).imp fun z => p3 z.2.2.2).pure
def StOk (m : Al) (s : Stt) : Prop := ∀ k, k < s.2.2.2.1.length → -2 ≤ (s.2.2.2.1[k]!).2.2.2.2 ∧ (s.2.2.2.1[k]!).2.2.2.2 < (m.2.2.2.2.1.length : Int)
def StR (s : Stt) : Prop := (∀ i, i < s.2.1.length → Top (s.2.1[i]!).2) ∧ ∀ i, i < s.2.2.1.length → Top (s.2.2.1[i]!).2.1
theorem aN (h : Ctx N m) (s : Stt) (hl : s.2.2.1.length ≤ 900) (hr : StR s) : Ans (CH N m s.1 s.2.1 s.2.2.1 s.2.2.2.1 s.2.2.2.2) (StOk m s) := by
 have hN := h.hN
 have he2 : Ans2 (Hq N s.2.1 4 m) _ := Ek (by omega : 1000 < N) s.2.1 (fun i x => Gd N m i x.1 x.2) (fun _ => True) (Fy N s.2.1 m) 4 (by decide) (fun _ _ => rfl) (fun _ i hi => fS h _ _ _ (hr.1 i hi))
 obtain ⟨r1, e1, _⟩ := he2
 obtain ⟨r2, e2⟩ := cO h s.2.2.1 (by omega) hr.2
 have he3 : Ans2 (Gy N s.2.2.2.1 8 s.2.2.1 r2.1 m) _ := Ek (by omega : 1000 < N) s.2.2.2.1 (fun i x => CA N i x.1 x.2.1 x.2.2.1 x.2.2.2.1 x.2.2.2.2 s.2.2.1 r2.1 m) _ (EC N s.2.2.2.1 s.2.2.1 r2.1 m) 8 (by decide) (fun _ _ => rfl) (fun _ i hi => eN h _ _ _ _ _ _ _ _)
 obtain ⟨r3, e3, p3⟩ := he3
 obtain ⟨r4, e4, _⟩ := XC h s.2.2.1 (by omega) hr.2 3 (by decide)
 obtain ⟨r5, e5, _⟩ := WF h s.2.2.2.2
 rw [CH, e1, Option.bind_some, DB, e2, Option.bind_some, Option.bind_some, e3, Option.bind_some, e4, Option.bind_some, e5, Option.bind_some]
 exact ((QF (by omega) _ _ _ _).imp fun z k hk => (p3 z.2.2.1).2 k hk).pure
def UL (N : Nat) (m : Al) (pl : List Int) (n i : Nat) (x : I9) : Prop :=
 ((x.1 = 1 ∨ x.1 = 22) → ∀ r, Bu N m x.2.1 x.2.2.1 = some r → r.2 = true) ∧ ((x.1 = 2 ∨ x.1 = 23) → ∀ r, BU N m x.2.1 = some r → r.2 = true) ∧
 (x.1 = 3 → 0 ≤ x.2.1 ∧ x.2.1 < (pl.length : Int)) ∧ ((x.1 = 5 ∨ x.1 = 24) → 0 ≤ x.2.1 ∧ x.2.1 < (m.2.2.2.2.2.2.2.2.2.2.2.2.1.length : Int)) ∧ ((x.1 = 31 ∨ x.1 = 32) → (i : Int) < x.2.1 ∧ x.2.1 ≤ (n : Int))
theorem aK (h : Ctx N m) (pl : List Int) (hp : pl.length ≤ 1000) (x : I9) (hx : Top x.2.1) : ∃ b, IX N m pl x.1 x.2.1 x.2.2.1 x.2.2.2.1 x.2.2.2.2 = some b ∧ (b = true →
  ((x.1 = 1 ∨ x.1 = 22) → ∀ r, Bu N m x.2.1 x.2.2.1 = some r → r.2 = true) ∧ ((x.1 = 2 ∨ x.1 = 23) → ∀ r, BU N m x.2.1 = some r → r.2 = true) ∧
  (x.1 = 3 → 0 ≤ x.2.1 ∧ x.2.1 < (pl.length : Int)) ∧ ((x.1 = 5 ∨ x.1 = 24) → 0 ≤ x.2.1 ∧ x.2.1 < (m.2.2.2.2.2.2.2.2.2.2.2.2.1.length : Int))) := by
 obtain ⟨o, a, b, w, v⟩ := x
 unfold IX
 have f1 : (if o = 1 then Ii N m pl o a b (o == 1) else Ii N m pl o a b (o == 22)) = Ii N m pl o a b (decide (o = 1 ∨ o = 22)) := by
  by_cases c : o = 1
  ·subst c; rfl
  ·rw [if_neg c]; congr 1; rw [Bool.eq_iff_iff, beq_iff_eq, decide_eq_true_eq]; omega
 show ∃ b', (if o = 1 then _ else _) = some b' ∧ _
 rw [f1]
 unfold Ii
 by_cases c1 : o = 1 ∨ o = 22
 ·rw [decide_eq_true c1, if_pos rfl]
  obtain ⟨r, e⟩ := MK h a b hx
  rw [e, Option.bind_some]
  exact ⟨_, rfl, fun hr => ⟨fun _ r2 e2 => by rw [← Option.some.inj e2]; exact hr, fun d => by rcases c1 with rfl | rfl <;> simp at d, fun d => by rcases c1 with rfl | rfl <;> simp at d, fun d => by rcases c1 with rfl | rfl <;> simp at d⟩⟩
 rw [decide_eq_false c1, if_neg (by decide)]
 have f2 : (if o = 2 then Ih N m pl o a (o == 2) else Ih N m pl o a (o == 23)) = Ih N m pl o a (decide (o = 2 ∨ o = 23)) := by
  by_cases c : o = 2
  ·subst c; rfl
  ·rw [if_neg c]; congr 1; rw [Bool.eq_iff_iff, beq_iff_eq, decide_eq_true_eq]; omega
 rw [f2]
 unfold Ih
 by_cases c2 : o = 2 ∨ o = 23
 ·rw [decide_eq_true c2, if_pos rfl]
  obtain ⟨r, e⟩ := Tk (N := N) (m := m) (by have := h.me; omega) a
  rw [e, Option.bind_some]
  exact ⟨_, rfl, fun hr => ⟨fun d => absurd d c1, fun _ r2 e2 => by rw [← Option.some.inj e2]; exact hr, fun d => by rcases c2 with rfl | rfl <;> simp at d, fun d => by rcases c2 with rfl | rfl <;> simp at d⟩⟩
 rw [decide_eq_false c2, if_neg (by decide)]
 by_cases c3 : o = 3
 ·rw [if_pos c3, show Ju N pl a = _ from GQ N pl.length (by omega) a, Option.bind_some]
  exact ⟨_, rfl, fun hr => ⟨fun d => absurd d c1, fun d => absurd d c2, fun _ => of_decide_eq_true hr, fun d => by subst c3; simp at d⟩⟩
 rw [if_neg c3]
 have f3 : (if o = 5 then Ig N m o a (o == 5) else Ig N m o a (o == 24)) = Ig N m o a (decide (o = 5 ∨ o = 24)) := by
  by_cases c : o = 5
  ·subst c; rfl
  ·rw [if_neg c]; congr 1; rw [Bool.eq_iff_iff, beq_iff_eq, decide_eq_true_eq]; omega
 rw [f3]
 unfold Ig
 by_cases c4 : o = 5 ∨ o = 24
 ·rw [decide_eq_true c4, if_pos rfl, show Gu N m.2.2.2.2.2.2.2.2.2.2.2.2.1 a = _ from GQ N m.2.2.2.2.2.2.2.2.2.2.2.2.1.length (by have := h.rg; omega) a, Option.bind_some]
  exact ⟨_, rfl, fun hr => ⟨fun d => absurd d c1, fun d => absurd d c2, fun d => absurd d c3, fun _ => of_decide_eq_true hr⟩⟩
 rw [decide_eq_false c4, if_neg (by decide)]
 have fin : ∀ y : Option Bool, (∃ r, y = some r) → ∃ b', y = some b' ∧ (b' = true → ((o = 1 ∨ o = 22) → ∀ r, Bu N m a b = some r → r.2 = true) ∧ ((o = 2 ∨ o = 23) → ∀ r, BU N m a = some r → r.2 = true) ∧ (o = 3 → 0 ≤ a ∧ a < (pl.length : Int)) ∧ ((o = 5 ∨ o = 24) → 0 ≤ a ∧ a < (m.2.2.2.2.2.2.2.2.2.2.2.2.1.length : Int))) :=
  fun y ⟨r, e⟩ => ⟨r, e, fun _ => ⟨fun d => absurd d c1, fun d => absurd d c2, fun d => absurd d c3, fun d => absurd d c4⟩⟩
 refine fin _ ?_
 have k10 : ∀ q : Bool, ∃ r, IH N m a q = some r := fun q => by
  unfold IH
  split
  ·obtain ⟨r, e⟩ := Pj h a; rw [e]; exact ⟨_, rfl⟩
  ·exact ⟨_, rfl⟩
 have k8 : ∀ q : Bool, ∃ r, If N m o a q = some r := fun q => by
  unfold If
  split
  ·obtain ⟨r, e⟩ := Nr h a hx; rw [e]; exact ⟨_, rfl⟩
  split <;> exact k10 _
 split
 ·rw [show DJ N m.2.2.2.2.2.2.2.2.2.2.2.2.2.1 a = _ from GQ N m.2.2.2.2.2.2.2.2.2.2.2.2.2.1.length (by have := h.co; omega) a]; exact ⟨_, rfl⟩
 split
 ·rw [show EV N m.2.2.2.2.2.2.2.2.2.2.2.2.2.2.1 a = _ from GQ N m.2.2.2.2.2.2.2.2.2.2.2.2.2.2.1.length (by have := h.mt; omega) a]; exact ⟨_, rfl⟩
 split
 ·exact k8 _
 split
 ·exact k8 _
 split <;> exact k8 _
end
end Go.Proofs.YtjmdbbnnpmmpiaaGreatDoor
