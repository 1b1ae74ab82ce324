import Derived.Test.YtjmdbbnnpmmpiaaGreatDoorId
import Derived.Test.YtjmdbbnnpmmpiaaGreatDoorLImageRefers
namespace Go.Proofs.YtjmdbbnnpmmpiaaGreatDoor
open Go Go.RowKit Go.Eng
def prt (N : Nat) (m : Al) : Nat → Option (Int × Int)
 | 0 => Dt N m
 | 1 => Cr N m
 | 2 => Ds N m
 | 3 => Eh N m
 | 4 => CK N m
 | 5 => CW N m
 | 6 => Dy N m
 | 7 => DU N m
 | 8 => EF N m
 | 9 => Cs N m
 | 10 => EG N m
 | 11 => DT N m
 | 12 => Fa N m
 | 13 => Cz N m
 | 14 => Dz N m
 | _ => none
theorem fp (N : Nat) (m : Al) (f : Nat) : Am N m (f + 1) 0 = (Dt N m).bind fun r => if (r.2 : Int) ≠ 0 then some (.t85 0 r.1 r.2) else Am N m f 1 := by
 rw [Am, if_pos (by decide), ckp (by decide), if_pos rfl]
 congr 1
theorem fo (N : Nat) (m : Al) (f : Nat) : Am N m (f + 1) 1 = (Cr N m).bind fun r => if (r.2 : Int) ≠ 0 then some (.t85 1 r.1 r.2) else Am N m f 2 := by
 rw [Am, if_pos (by decide), ckp (by decide), if_neg (by decide), if_pos rfl]
 congr 1
theorem fm (N : Nat) (m : Al) (f : Nat) : Am N m (f + 1) 2 = (Ds N m).bind fun r => if (r.2 : Int) ≠ 0 then some (.t85 2 r.1 r.2) else Am N m f 3 := by
 rw [Am, if_pos (by decide), ckp (by decide), if_neg (by decide), if_neg (by decide), if_pos rfl]
 congr 1
theorem fl (N : Nat) (m : Al) (f : Nat) : Am N m (f + 1) 3 = (Eh N m).bind fun r => if (r.2 : Int) ≠ 0 then some (.t85 3 r.1 r.2) else Am N m f 4 := by
 rw [Am, if_pos (by decide), ckp (by decide), if_neg (by decide), if_neg (by decide), if_neg (by decide), if_pos rfl]
 congr 1
theorem fk (N : Nat) (m : Al) (f : Nat) : Am N m (f + 1) 4 = (CK N m).bind fun r => if (r.2 : Int) ≠ 0 then some (.t85 4 r.1 r.2) else Am N m f 5 := by
 rw [Am, if_pos (by decide), ckp (by decide), if_neg (by decide), if_neg (by decide), if_neg (by decide), if_neg (by decide), if_pos rfl]
 congr 1
theorem fj (N : Nat) (m : Al) (f : Nat) : Am N m (f + 1) 5 = (CW N m).bind fun r => if (r.2 : Int) ≠ 0 then some (.t85 5 r.1 r.2) else Am N m f 6 := by
 rw [Am, if_pos (by decide), ckp (by decide), if_neg (by decide), if_neg (by decide), if_neg (by decide), if_neg (by decide), if_neg (by decide), if_pos rfl]
 congr 1
theorem fh (N : Nat) (m : Al) (f : Nat) : Am N m (f + 1) 6 = (Dy N m).bind fun r => if (r.2 : Int) ≠ 0 then some (.t85 6 r.1 r.2) else Am N m f 7 := by
 rw [Am, if_pos (by decide), ckp (by decide), if_neg (by decide), if_neg (by decide), if_neg (by decide), if_neg (by decide), if_neg (by decide), if_neg (by decide), if_pos rfl]
 congr 1
theorem ff (N : Nat) (m : Al) (f : Nat) : Am N m (f + 1) 7 = (DU N m).bind fun r => if (r.2 : Int) ≠ 0 then some (.t85 7 r.1 r.2) else Am N m f 8 := by
 rw [Am, if_pos (by decide), ckp (by decide), if_neg (by decide), if_neg (by decide), if_neg (by decide), if_neg (by decide), if_neg (by decide), if_neg (by decide), if_neg (by decide), if_pos rfl]
 congr 1
theorem fe (N : Nat) (m : Al) (f : Nat) : Am N m (f + 1) 8 = (EF N m).bind fun r => if (r.2 : Int) ≠ 0 then some (.t85 8 r.1 r.2) else Am N m f 9 := by
 rw [Am, if_pos (by decide), ckp (by decide), if_neg (by decide), if_neg (by decide), if_neg (by decide), if_neg (by decide), if_neg (by decide), if_neg (by decide), if_neg (by decide), if_neg (by decide), if_pos rfl]
 congr 1
theorem fd (N : Nat) (m : Al) (f : Nat) : Am N m (f + 1) 9 = (Cs N m).bind fun r => if (r.2 : Int) ≠ 0 then some (.t85 9 r.1 r.2) else Am N m f 10 := by
 rw [Am, if_pos (by decide), ckp (by decide), if_neg (by decide), if_neg (by decide), if_neg (by decide), if_neg (by decide), if_neg (by decide), if_neg (by decide), if_neg (by decide), if_neg (by decide), if_neg (by decide), if_pos rfl]
 congr 1
theorem dA (N : Nat) (m : Al) (f : Nat) : Am N m (f + 1) 10 = (EG N m).bind fun r => if (r.2 : Int) ≠ 0 then some (.t85 10 r.1 r.2) else Am N m f 11 := by
 rw [Am, if_pos (by decide), ckp (by decide), if_neg (by decide), if_neg (by decide), if_neg (by decide), if_neg (by decide), if_neg (by decide), if_neg (by decide), if_neg (by decide), if_neg (by decide), if_neg (by decide), if_neg (by decide), if_pos rfl]
 congr 1
theorem dz (N : Nat) (m : Al) (f : Nat) : Am N m (f + 1) 11 = (DT N m).bind fun r => if (r.2 : Int) ≠ 0 then some (.t85 11 r.1 r.2) else Am N m f 12 := by
 rw [Am, if_pos (by decide), ckp (by decide), if_neg (by decide), if_neg (by decide), if_neg (by decide), if_neg (by decide), if_neg (by decide), if_neg (by decide), if_neg (by decide), if_neg (by decide), if_neg (by decide), if_neg (by decide), if_neg (by decide), if_pos rfl]
 congr 1
theorem dy (N : Nat) (m : Al) (f : Nat) : Am N m (f + 1) 12 = (Fa N m).bind fun r => if (r.2 : Int) ≠ 0 then some (.t85 12 r.1 r.2) else Am N m f 13 := by
 rw [Am, if_pos (by decide), ckp (by decide), if_neg (by decide), if_neg (by decide), if_neg (by decide), if_neg (by decide), if_neg (by decide), if_neg (by decide), if_neg (by decide), if_neg (by decide), if_neg (by decide), if_neg (by decide), if_neg (by decide), if_neg (by decide), if_pos rfl]
 congr 1
theorem dw (N : Nat) (m : Al) (f : Nat) : Am N m (f + 1) 13 = (Cz N m).bind fun r => if (r.2 : Int) ≠ 0 then some (.t85 13 r.1 r.2) else Am N m f 14 := by
 rw [Am, if_pos (by decide), ckp (by decide), if_neg (by decide), if_neg (by decide), if_neg (by decide), if_neg (by decide), if_neg (by decide), if_neg (by decide), if_neg (by decide), if_neg (by decide), if_neg (by decide), if_neg (by decide), if_neg (by decide), if_neg (by decide), if_neg (by decide), if_pos rfl]
 congr 1
theorem dv (N : Nat) (m : Al) (f : Nat) : Am N m (f + 1) 14 = (Dz N m).bind fun r => if (r.2 : Int) ≠ 0 then some (.t85 14 r.1 r.2) else Am N m f 15 := by
 rw [Am, if_pos (by decide), ckp (by decide), if_neg (by decide), if_neg (by decide), if_neg (by decide), if_neg (by decide), if_neg (by decide), if_neg (by decide), if_neg (by decide), if_neg (by decide), if_neg (by decide), if_neg (by decide), if_neg (by decide), if_neg (by decide), if_neg (by decide), if_neg (by decide)]
 congr 1
theorem fc (N : Nat) (m : Al) (f : Nat) : ∀ i : Nat, i < 15 → Am N m (f + 1) (i : Int) = (prt N m i).bind fun r => if (r.2 : Int) ≠ 0 then some (.t85 (i : Int) r.1 r.2) else Am N m f ((i + 1 : Nat) : Int)
 | 0, _ => fp N m f
 | 1, _ => fo N m f
 | 2, _ => fm N m f
 | 3, _ => fl N m f
 | 4, _ => fk N m f
 | 5, _ => fj N m f
 | 6, _ => fh N m f
 | 7, _ => ff N m f
 | 8, _ => fe N m f
 | 9, _ => fd N m f
 | 10, _ => dA N m f
 | 11, _ => dz N m f
 | 12, _ => dy N m f
 | 13, _ => dw N m f
 | 14, _ => dv N m f
 | i + 15, h => absurd h (by omega)
theorem Ga {N : Nat} {m : Al} {P G : Prop} (i : Nat) (hi : i < 15) (f : Nat) (h : Ans2 (prt N m i) P) (k : P → ∃ s, Am N m f ((i + 1 : Nat) : Int) = some s ∧ (s = .nil → G)) :
  ∃ s, Am N m (f + 1) (i : Int) = some s ∧ (s = .nil → G) := by
 obtain ⟨r, e, p⟩ := h
 rw [fc N m f i hi, e, Option.bind_some]
 by_cases c : r.2 = 0
 ·rw [if_neg (fun q => q c)]; exact k (p c)
 ·rw [if_pos c]; exact ⟨_, rfl, fun q => by cases q⟩
structure Rg (m : Al) : Prop where
 st : ∀ s ∈ m.2.2.2.2.1, StR s
 ac : ∀ s ∈ m.2.2.2.2.2.1, CoR s.2.2
 tb : ∀ s ∈ m.2.2.2.2.2.2.1, TbR s
 ni : ∀ i, i < m.2.2.2.2.2.2.2.1.length → NdR (m.2.2.2.2.2.2.2.1[i]!)
 ne : ∀ i, i < m.2.2.2.2.2.2.2.2.1.length → NdR (m.2.2.2.2.2.2.2.2.1[i]!)
 dp : ∀ i, i < m.2.2.2.2.2.2.2.2.2.1.length → Top (m.2.2.2.2.2.2.2.2.2.1[i]!)
 ch : ∀ i, i < m.2.2.2.2.2.2.2.2.2.2.1.length → Top (m.2.2.2.2.2.2.2.2.2.2.1[i]!).1
 up : ∀ i, i < m.2.2.2.2.2.2.2.2.2.2.2.1.length → Top (m.2.2.2.2.2.2.2.2.2.2.2.1[i]!).1
structure aG (N : Nat) (m : Al) : Prop where
 cx : Ctx N m
 nm : 0 < m.1.length ∧ 1 ≤ m.2.2.2.2.2.2.2.2.2.2.2.2.2.2.2.1
 st : ∀ i, i < m.2.2.2.2.1.length → StOk m (m.2.2.2.2.1[i]!)
 ac : ∀ i, i < m.2.2.2.2.2.1.length → cJ N m (m.2.2.2.2.2.1[i]!)
 ni : ∀ i, i < m.2.2.2.2.2.2.2.1.length → eQ m m.2.2.2.2.2.2.2.1.length i (m.2.2.2.2.2.2.2.1[i]!)
theorem bU {N : Nat} {m : Al} (hN : 5000 < N) (hL : Lit m) (hR : Rg m) : ∃ s, CF N m = some s ∧ (s = .nil → aG N m) := by
 have hil := hL.il
 obtain ⟨n, e⟩ : ∃ n, N = n + 16 := ⟨N - 16, by omega⟩
 rw [CF, Hz, Option.bind_some, congrArg (fun x => Am N m x 0) e]
 refine Ga 0 (by decide) _ (imt hN hL) fun p0 => Ga 1 (by decide) _ (Vn hN hL) fun p1 => Ga 2 (by decide) _ (bD hN hL p1.1) fun p2 => ?_
 have hC : Ctx N m := ⟨hN, hL, p1.1, p1.2, p2⟩
 refine Ga 3 (by decide) _ (bm hN hL) fun _ => Ga 4 (by decide) _ (Wa hC hR.st) fun p4 => Ga 5 (by decide) _ (VI hC hR.ac) fun p5 => Ga 6 (by decide) _ (VV hC hR.tb) fun _ => ?_
 refine Ga 7 (by decide) _ (Ul hC m.2.2.2.2.2.2.2.1 (by omega) (fun i h1 h2 => by have := hL.ni i h1 h2; omega) hR.ni).pure fun p7 => ?_
 refine Ga 8 (by decide) _ (Ul hC m.2.2.2.2.2.2.2.2.1 (by omega) (fun i h1 h2 => by have := hL.ne i h1 h2; omega) hR.ne).pure fun _ => ?_
 refine Ga 9 (by decide) _ (Vt hC (by omega) hR.dp) fun _ => Ga 10 (by decide) _ (VW hC _ (by omega) hR.ch).pure fun _ => Ga 11 (by decide) _ (VW hC _ (by omega) hR.up).pure fun _ => ?_
 refine Ga 12 (by decide) _ (dm hN hL) fun _ => Ga 13 (by decide) _ (TF hN hL) fun _ => Ga 14 (by decide) _ (WI hN hL) fun _ => ?_
 exact ⟨.nil, by rw [Am, if_neg (by decide)], fun _ => ⟨hC, p0, p4, p5, p7⟩⟩
theorem Xg (top : Nat) (loop : Nat → Int → Option Bool) (K : Option Bool) (step : ∀ f i : Nat, i < top → loop (f + 1) (i : Int) = loop f ((i + 1 : Nat) : Int)) (stop : ∀ f : Nat, loop (f + 1) (top : Int) = K) :
  ∀ (k f i : Nat), i + k = top → k < f → loop f (i : Int) = K := by
 intro k
 induction k with
 | zero =>
  intro f i hi hf
  obtain ⟨f, rfl⟩ : ∃ n, f = n + 1 := ⟨f - 1, by omega⟩
  obtain rfl : i = top := by omega
  exact stop f
 | succ k ih =>
  intro f i hi hf
  obtain ⟨f, rfl⟩ : ∃ n, f = n + 1 := ⟨f - 1, by omega⟩
  exact (step f i (by omega)).trans (ih f (i + 1) (by omega) (by omega))
section
variable {N : Nat} {m : Al}
theorem r19 (hG : aG N m) (lives : Db N = some true) : Kl N m N 0 = some true := by
 have hN := hG.cx.hN; have hil := hG.cx.hL.il
 refine Xg m.2.2.2.2.2.2.2.1.length (Kl N m) (some true) (fun f i hi => ?_) (fun f => ?_) m.2.2.2.2.2.2.2.1.length N 0 (Nat.zero_add _) (by omega)
 ·obtain ⟨h1, h2⟩ := hG.ni i hi
  rw [Kl, if_pos (by omega), ckp (by omega), Int.toNat_natCast, if_neg (by omega), if_neg (by omega)]
  by_cases c : (m.2.2.2.2.2.2.2.1[i]!).1 = 0
  ·have := h2 c
   rw [if_pos c, if_neg (by omega), if_neg (by omega), ckp (by omega)]; rfl
  ·rw [if_neg c, ckp (by omega)]; rfl
 ·rw [Kl, if_neg (by omega), if_pos (by have := hG.nm.1; omega), if_pos hG.nm.2, lives]; rfl
theorem r17 (hG : aG N m) (i : Nat) (hi : i < m.2.2.2.2.1.length) (rec : Int → Option Bool) : KT m (i : Int) rec N 0 = rec ((i : Int) + 1) := by
 have hN := hG.cx.hN; have h70 := hG.cx.st; have h9 := hG.cx.hL.st i hi
 refine Xg (m.2.2.2.2.1[i]!).2.2.2.1.length (KT m (i : Int) rec) _ (fun f k hk => ?_) (fun f => ?_) _ N 0 (Nat.zero_add _) (by omega)
 ·have hs := hG.st i hi k hk
  rw [KT, ckp (by omega), Int.toNat_natCast, if_pos (by omega), ckp (by omega), ckp (by omega), Int.toNat_natCast, if_neg (by omega), ckp (by omega), ckp (by omega), if_neg (by omega), ckp (by omega)]; rfl
 ·rw [KT, ckp (by omega), Int.toNat_natCast, if_neg (by omega), ckp (by omega)]
theorem r15 (hG : aG N m) (lives : Db N = some true) : Km N m N 0 = some true := by
 have hN := hG.cx.hN; have h70 := hG.cx.st
 refine Xg m.2.2.2.2.1.length (Km N m) (some true) (fun f i hi => ?_) (fun f => ?_) _ N 0 (Nat.zero_add _) (by omega)
 ·rw [Km, if_pos (by omega), r17 hG i hi]; rfl
 ·rw [Km, if_neg (by omega), r19 hG lives]
theorem PV {α : Type} {p q : Prop} [Decidable p] [Decidable q] {a b : Bool} {F : Bool → α} (ha : p → a = true) (hb : b = decide q) : (if p then F a else F b) = F (decide (p ∨ q)) := by
 by_cases c : p
 ·rw [if_pos c, ha c, decide_eq_true (Or.inl c)]
 ·rw [if_neg c, hb]; congr 1; exact decide_eq_decide.2 ⟨.inr, fun h => h.resolve_left c⟩
theorem r5 (hG : aG N m) (hR : Rg m) (i : Nat) (hi : i < m.2.2.2.2.2.1.length) (rec : Int → Option Bool) : Kz N m (i : Int) rec N 0 = rec ((i : Int) + 1) := by
 have hN := hG.cx.hN; have h70 := hG.cx.ac; have h9 := hG.cx.hL.ac i hi
 refine Xg (m.2.2.2.2.2.1[i]!).2.2.length (Kz N m (i : Int) rec) _ (fun f k hk => ?_) (fun f => ?_) _ N 0 (Nat.zero_add _) (by omega)
 ·obtain ⟨g1, g2, g3, g4, g5⟩ := hG.ac i hi k hk
  have hx : Top ((m.2.2.2.2.2.1[i]!).2.2[k]!).2.1 := hR.ac _ (Bv hi) k hk
  rw [Kz, ckp (by omega), Int.toNat_natCast, if_pos (by omega), ckp (by omega), ckp (by omega), Int.toNat_natCast]
  have e1 : (k : Int) + 1 = ((k + 1 : Nat) : Int) := by omega
  generalize hL5 : Kz N m (i : Int) rec f = L5
  rw [PV (p := ((m.2.2.2.2.2.1[i]!).2.2[k]!).1 = 1) (q := ((m.2.2.2.2.2.1[i]!).2.2[k]!).1 = 22) (a := ((m.2.2.2.2.2.1[i]!).2.2[k]!).1 == 1) (b := ((m.2.2.2.2.2.1[i]!).2.2[k]!).1 == 22) (F := fun q => Vi N m (i : Int) (k : Int) L5 q) (fun c => by rw [c]; rfl) rfl, Vi]
  simp only [Int.toNat_natCast]
  by_cases c1 : ((m.2.2.2.2.2.1[i]!).2.2[k]!).1 = 1 ∨ ((m.2.2.2.2.2.1[i]!).2.2[k]!).1 = 22
  ·obtain ⟨r, e⟩ := MK hG.cx ((m.2.2.2.2.2.1[i]!).2.2[k]!).2.1 ((m.2.2.2.2.2.1[i]!).2.2[k]!).2.2.1 hx
   rw [decide_eq_true c1, if_pos rfl, e, Option.bind_some, if_pos (g1 c1 r e), ckp (by omega), e1]
  rw [decide_eq_false c1, if_neg (by decide), PV (p := ((m.2.2.2.2.2.1[i]!).2.2[k]!).1 = 2) (q := ((m.2.2.2.2.2.1[i]!).2.2[k]!).1 = 23) (a := ((m.2.2.2.2.2.1[i]!).2.2[k]!).1 == 2) (b := ((m.2.2.2.2.2.1[i]!).2.2[k]!).1 == 23) (F := fun q => Vh N m (i : Int) (k : Int) L5 q) (fun c => by rw [c]; rfl) rfl, Vh]
  simp only [Int.toNat_natCast]
  by_cases c2 : ((m.2.2.2.2.2.1[i]!).2.2[k]!).1 = 2 ∨ ((m.2.2.2.2.2.1[i]!).2.2[k]!).1 = 23
  ·obtain ⟨r, e⟩ := Tk (N := N) (m := m) (by have := hG.cx.me; omega) ((m.2.2.2.2.2.1[i]!).2.2[k]!).2.1
   rw [decide_eq_true c2, if_pos rfl, e, Option.bind_some, if_pos (g2 c2 r e), ckp (by omega), e1]
  rw [decide_eq_false c2, if_neg (by decide)]
  by_cases c3 : ((m.2.2.2.2.2.1[i]!).2.2[k]!).1 = 3
  ·have := g3 c3
   rw [if_pos c3, if_pos (by omega), ckp (by omega), if_pos (by omega), ckp (by omega), e1]
  rw [if_neg c3, PV (p := ((m.2.2.2.2.2.1[i]!).2.2[k]!).1 = 5) (q := ((m.2.2.2.2.2.1[i]!).2.2[k]!).1 = 24) (a := ((m.2.2.2.2.2.1[i]!).2.2[k]!).1 == 5) (b := ((m.2.2.2.2.2.1[i]!).2.2[k]!).1 == 24) (F := fun q => PA m (i : Int) (k : Int) L5 q) (fun c => by rw [c]; rfl) rfl, PA]
  simp only [Int.toNat_natCast]
  by_cases c4 : ((m.2.2.2.2.2.1[i]!).2.2[k]!).1 = 5 ∨ ((m.2.2.2.2.2.1[i]!).2.2[k]!).1 = 24
  ·have := g4 c4
   rw [decide_eq_true c4, if_pos rfl, if_pos (by omega), if_pos (by omega), ckp (by omega), e1]
  rw [decide_eq_false c4, if_neg (by decide), PV (p := ((m.2.2.2.2.2.1[i]!).2.2[k]!).1 = 31) (q := ((m.2.2.2.2.2.1[i]!).2.2[k]!).1 = 32) (a := ((m.2.2.2.2.2.1[i]!).2.2[k]!).1 == 31) (b := ((m.2.2.2.2.2.1[i]!).2.2[k]!).1 == 32) (F := fun q => Pz m (i : Int) (k : Int) L5 q) (fun c => by rw [c]; rfl) rfl, Pz]
  simp only [Int.toNat_natCast]
  by_cases c5 : ((m.2.2.2.2.2.1[i]!).2.2[k]!).1 = 31 ∨ ((m.2.2.2.2.2.1[i]!).2.2[k]!).1 = 32
  ·have := g5 c5
   rw [decide_eq_true c5, if_pos rfl, if_pos (by omega), ckp (by omega), if_pos (by omega), ckp (by omega), e1]
  ·rw [decide_eq_false c5, if_neg (by decide), ckp (by omega), e1]
 ·rw [Kz, ckp (by omega), Int.toNat_natCast, if_neg (by omega), ckp (by omega)]
theorem Wk (hN : 5000 < N) (hT : Tit N m) (hS : Siz m) (hR : Rg m) (lives : Db N = some true) : lRm N m = some true := by
 obtain ⟨b, e, p⟩ := bu (by omega : 400 < N) hT hS
 rw [lRm, e, Option.bind_some]
 cases b with
 | false => rw [if_neg (by decide), lives]; rfl
 | true =>
  rw [if_pos rfl]
  obtain ⟨s, e2, p2⟩ := bU hN (p rfl) hR
  rw [e2, Option.bind_some]
  cases s with
  | nil =>
   have hG := p2 rfl
   have h70 := hG.cx.ac
   show KS N m N 0 = some true
   refine Xg m.2.2.2.2.2.1.length (KS N m) (some true) (fun f i hi => ?_) (fun f => ?_) _ N 0 (Nat.zero_add _) (by omega)
   ·rw [KS, if_pos (by omega), r5 hG hR i hi]; rfl
   ·rw [KS, if_neg (by omega), r15 hG lives]
  | t85 a b c => rw [Sum42.at_t85, lives]; rfl
end
end Go.Proofs.YtjmdbbnnpmmpiaaGreatDoor
