import Derived.Test.YtjmdbbnnpmmpiaaGreatDoorIc
namespace Go.Proofs.YtjmdbbnnpmmpiaaGreatDoor
open Go Go.RowKit Go.Eng
section
variable {N : Nat} {m : Al}
theorem cD {l : List I9} (h : (SR l).2.2 = 0) : (SR l).1 = l.map FZ ∧ l.length ≤ 64 ∧ ∀ x ∈ l, Kk x = 0 := by
 have hb : (Om l).2 = 0 := h
 refine ⟨by show (if (Om l).2 = 0 then _ else _) = _; rw [if_pos hb], ?_⟩
 have key : ∀ (r : List I9) (i : Nat) (d : Int × Int), (Ph i r d).2 = 0 → d.2 = 0 ∧ ∀ x ∈ r, Kk x = 0 := by
  intro r
  induction r with
  | nil => exact fun i d q => ⟨q, fun x hx => by cases hx⟩
  | cons y r ih =>
   intro i d q
   rw [Ph] at q
   by_cases c : Kk y ≠ 0
   ·rw [if_pos c] at q; exact absurd q c
   ·rw [if_neg c] at q
    obtain ⟨h1, h2⟩ := ih (i + 1) d q
    exact ⟨h1, fun x hx => by rcases List.mem_cons.1 hx with rfl | hx; exact Decidable.not_not.1 c; exact h2 x hx⟩
 obtain ⟨h1, h2⟩ := key _ _ _ hb
 have h3 : l.length ≤ 64 := by
  by_cases c : l.length > 64
  ·rw [if_pos c] at h1; exact absurd (show (2 : Int) = 0 from h1) (by decide)
  ·omega
 exact ⟨h3, by rw [List.take_of_length_le h3] at h2; exact h2⟩
theorem LW (a b w : Int) (v : BitVec 128) : JE (MO 31 a b w v) = (a, true) ∧ JE (MO 32 a b w v) = (a, true) := ⟨rfl, rfl⟩
def CoR (l : List I9) : Prop := ∀ i, i < l.length → Top (l[i]!).2.1
theorem bR (h : Ctx N m) (pl : List Int) (hp : pl.length ≤ 1000) (l : List I9) (hl : l.length ≤ 1000) (hr : CoR l) (i : Nat) (hi : i < l.length) : Ans (Dx N (i : Int) (FZ (l[i]!)) m pl l) (UL N m pl l.length i (l[i]!)) := by
 have hN := h.hN
 obtain ⟨b, e, p⟩ := aK h pl hp (l[i]!) (hr i hi)
 have lead : ∃ q, CU N (FZ (l[i]!)) (i : Int) ((l.length : Nat) : Int) = some q ∧ (q = true → ∀ t, JE (FZ (l[i]!)) = (t, true) → (i : Int) + 1 ≤ t ∧ t ≤ (l.length : Int)) := by
  rw [CU, VT, Option.bind_some]
  by_cases c : (JE (FZ (l[i]!))).2 = true
  ·rw [if_pos c, ckp (by omega), BS, Option.bind_some]
   exact ⟨_, rfl, fun q t ht => by rw [ht] at q; exact of_decide_eq_true q⟩
  ·rw [if_neg c]; exact ⟨_, rfl, fun _ t ht => absurd (by rw [ht]) c⟩
 obtain ⟨q, e2, p2⟩ := lead
 rw [Dx, ckp (by omega), Int.toNat_natCast, e, Option.bind_some, e2]
 obtain ⟨r1, u1, v1⟩ := Ans.un N b 5 (by decide)
 obtain ⟨r2, u2, v2⟩ := Ans.un N q 12 (by decide)
 rw [u1, Option.bind_some, Option.bind_some, u2, Option.bind_some]
 refine ((Gz (by omega) r1 r2).imp fun z => ?_).pure
 obtain ⟨g1, g2, g3, g4⟩ := p (v1 z.1)
 refine ⟨g1, g2, g3, g4, fun d => ?_⟩
 have t : JE (FZ (l[i]!)) = ((l[i]!).2.1, true) := by
  generalize l[i]! = x at d
  obtain ⟨o, a, b', w, v⟩ := x
  rcases d with d | d <;> (have d' : o = _ := d; subst d')
  ·exact (LW a b' w v).1
  ·exact (LW a b' w v).2
 have := p2 (v2 z.2) _ t
 omega
theorem cot (h : Ctx N m) (pl : List Int) (hp : pl.length ≤ 1000) (l : List I9) (hl : l.length ≤ 1000) (hr : CoR l) : Ans (Cq N m pl l) (∀ i, i < l.length → UL N m pl l.length i (l[i]!)) := by
 have hN := h.hN
 rw [Cq]
 split
 ·exact ⟨2, rfl, fun e => absurd e (by decide)⟩
 rw [fX (by omega : 300 < N) l (by omega), Option.bind_some]
 by_cases c : (SR l).2.2 = 0
 ·obtain ⟨h1, h2, h3⟩ := cD c
  rw [if_neg (fun q => q c), h1]
  refine ((Ek (by omega : 1000 < N) (l.map FZ) (fun i x => Dx N i x m pl l) (fun i => UL N m pl l.length i (l[i]!)) (Ce N (l.map FZ) m pl l) 64 (by decide) (fun _ _ => rfl) (fun _ i hi => ?_) : Ans2 (Dp N (l.map FZ) 64 m pl l) _).imp fun z i hi => z.2 i (by rw [List.length_map]; exact hi)).snd
  rw [List.length_map] at hi
  have := bR h pl hp l hl hr i hi
  rwa [show (l.map FZ)[i]! = FZ (l[i]!) from by rw [getElem!_pos _ i (by rw [List.length_map]; exact hi), getElem!_pos l i hi, List.getElem_map]]
 ·rw [if_pos c]; exact ⟨_, rfl, fun q => absurd q c⟩
def cJ (N : Nat) (m : Al) (x : Act) : Prop := ∀ i, i < x.2.2.length → UL N m x.2.1 x.2.2.length i (x.2.2[i]!)
theorem aC (h : Ctx N m) (x : Act) (hl : x.2.1.length ≤ 900 ∧ x.2.2.length ≤ 900) (hr : CoR x.2.2) : Ans (Cj N m x.1 x.2.1 x.2.2) (cJ N m x) := by
 have hN := h.hN
 have he1 : Ans2 (Hl N x.2.1 8) _ := Ek (by omega : 1000 < N) x.2.1 (fun i x => HA N i x) (fun _ => True) (Fp N x.2.1) 8 (by decide) (fun _ _ => rfl) (fun _ i hi => (Ky N _).pure)
 obtain ⟨r1, e1, _⟩ := he1
 obtain ⟨r2, e2, p2⟩ := cot h x.2.1 (by omega) x.2.2 (by omega) hr
 rw [Cj, e1, Option.bind_some, e2, Option.bind_some]
 exact ((Gz (by omega) _ _).imp fun z => p2 z.2).pure
theorem TH {N : Nat} (hN : 1000 < N) (l : List Int) (hl : l.length ≤ 1000) (v : Int) : ∃ b, AG N l v = some b := by
 have : ∀ (k f i : Nat), i + k = l.length → k < f → ∃ r, Bp l v f (i : Int) = some r := by
  intro k
  induction k with
  | zero =>
   intro f i hi hf
   obtain ⟨f, rfl⟩ : ∃ n, f = n + 1 := ⟨f - 1, by omega⟩
   rw [Bp, if_neg (by omega)]; exact ⟨_, rfl⟩
  | succ k ih =>
   intro f i hi hf
   obtain ⟨f, rfl⟩ : ∃ n, f = n + 1 := ⟨f - 1, by omega⟩
   rw [Bp, if_pos (by omega), ckp (by omega)]
   split
   ·exact ⟨_, rfl⟩
   ·rw [ckp (by omega), show (i : Int) + 1 = ((i + 1 : Nat) : Int) from by omega]; exact ih f (i + 1) (by omega) (by omega)
 obtain ⟨r, e⟩ := this l.length N 0 (by omega) (by omega)
 rw [AG, Cm, show (0 : Int) = ((0 : Nat) : Int) from rfl, e]; exact ⟨_, rfl⟩
theorem XD (h : Ctx N m) (l : List Int) (hl : l.length ≤ 900) : Ans (Ci N m l) True := by
 have hN := h.hN
 have he2 : Ans2 (Hk N l 8 m) _ := Ek (by omega : 1000 < N) l (fun i x => Dh N i x m) (fun _ => True) (Fo N l m) 8 (by decide) (fun _ _ => rfl) (fun _ i hi => by
  rw [Dh, show By N m.2.2.2.2.2.1 (l[i]!) = _ from GQ N m.2.2.2.2.2.1.length (by have := h.ac; omega) (l[i]!), Option.bind_some]
  exact ((Ans.un N _ 5 (by decide)).imp fun _ => trivial).pure)
 obtain ⟨r1, e1, _⟩ := he2
 have he3 : Ans2 (Hj N l 8 l) _ := Ek (by omega : 1000 < N) l (fun i x => Dg N i x l) (fun _ => True) (Fm N l l) 8 (by decide) (fun _ _ => rfl) (fun _ i hi => by
  obtain ⟨b, e⟩ := TH (N := N) (by omega) ((l.take ((i : Int)).toNat).drop 0) (by rw [List.length_drop, List.length_take]; omega) (l[i]!)
  rw [Dg, ckp (by omega), e, Option.bind_some]
  exact ((Ans.un N _ 6 (by decide)).imp fun _ => trivial).pure)
 obtain ⟨r2, e2, _⟩ := he3
 rw [Ci, e1, Option.bind_some, e2, Option.bind_some, BE, Option.bind_some]
 exact ((Xi (by omega) _ _ _).imp fun _ => trivial).pure
theorem aA (h : Ctx N m) (a : Int) (l : List (Int × BitVec 128)) (hl : l.length ≤ 900) : Ans (Ct N m a l) True := by
 have hN := h.hN
 rw [Ct, show By N m.2.2.2.2.2.1 a = _ from GQ N m.2.2.2.2.2.1.length (by have := h.ac; omega) a, Option.bind_some]
 by_cases c : 0 ≤ a ∧ a < (m.2.2.2.2.2.1.length : Int)
 ·rw [decide_eq_true c, if_pos rfl, ckp c]
  by_cases d : (l.length : Int) = ((m.2.2.2.2.2.1[a.toNat]!).2.1.length : Int)
  ·rw [if_neg (fun q => q d)]
   exact ((Ek (by omega : 1000 < N) l (fun i x => EH N i x.1 x.2 (m.2.2.2.2.2.1[a.toNat]!).2.1) (fun _ => True) (Fr N l (m.2.2.2.2.2.1[a.toNat]!).2.1) (l.length : Int) (by omega) (fun _ _ => rfl) (fun _ i hi => by
    obtain ⟨b, e⟩ := Qp N (l[i]!).1 (l[i]!).2 ((m.2.2.2.2.2.1[a.toNat]!).2.1[((i : Int)).toNat]!)
    rw [EH, ckp (by omega), e, Option.bind_some]
    exact ((Ans.un N _ 9 (by decide)).imp fun _ => trivial).pure) : Ans2 (Hm N l (l.length : Int) (m.2.2.2.2.2.1[a.toNat]!).2.1) _).imp fun _ => trivial).snd
  ·rw [if_pos d]; exact ⟨2, rfl, fun q => absurd q (by decide)⟩
 ·rw [decide_eq_false c, if_neg (by decide)]; exact ⟨5, rfl, fun q => absurd q (by decide)⟩
def TbR (x : Tab) : Prop := ∀ i, i < x.2.2.1.length → Top (x.2.2.1[i]!).2.1
theorem aL (h : Ctx N m) (x : Tab) (hl : x.2.2.1.length ≤ 900 ∧ x.2.2.2.1.length ≤ 900 ∧ x.2.2.2.2.2.1.length ≤ 900) (hr : TbR x) : Ans (CG N m x.1 x.2.1 x.2.2.1 x.2.2.2.1 x.2.2.2.2.1 x.2.2.2.2.2.1 x.2.2.2.2.2.2) True := by
 have hN := h.hN
 obtain ⟨r1, e1, _⟩ := XC h x.2.2.1 (by omega) hr 2 (by decide)
 obtain ⟨r2, e2, _⟩ := XD h x.2.2.2.1 (by omega)
 obtain ⟨r3, e3⟩ := TH (N := N) (by omega) x.2.2.2.1 (by omega) x.2.2.2.2.1
 obtain ⟨r4, e4, _⟩ := aA h x.2.2.2.2.1 x.2.2.2.2.2.1 (by omega)
 rw [CG, UO, Option.bind_some, BE, Option.bind_some, BE, Option.bind_some, e1, Option.bind_some, e2, Option.bind_some, e3, Option.bind_some, BE, Option.bind_some, e4, Option.bind_some, BS, Option.bind_some, BE, Option.bind_some]
 exact ((MJ (by omega) _ (by simp)).imp fun _ => trivial).pure
def eQ (m : Al) (n i : Nat) (x : Nod) : Prop := ((i : Int) < x.2.2.2.2.1 ∧ x.2.2.2.2.1 ≤ (n : Int)) ∧ (x.1 = 0 → 0 ≤ x.2.1 ∧ x.2.1 < (m.2.2.2.2.2.2.1.length : Int))
theorem Rf (h : Ctx N m) (x : Nod) (hx : Top x.2.1) : Ans (BJ N m x.1 x.2.1 x.2.2.1 x.2.2.2.1 x.2.2.2.2.1 x.2.2.2.2.2) (x.1 = 0 → 0 ≤ x.2.1 ∧ x.2.1 < (m.2.2.2.2.2.2.1.length : Int)) := by
 rw [BJ]
 by_cases c0 : x.1 = 0
 ·rw [if_pos c0, show ET N m.2.2.2.2.2.2.1 x.2.1 = _ from GQ N m.2.2.2.2.2.2.1.length (by have := h.tb; omega) x.2.1, Option.bind_some]
  exact ((Ans.un N _ 5 (by decide)).imp fun q _ => of_decide_eq_true q).pure
 rw [if_neg c0]
 by_cases c1 : x.1 = 1
 ·rw [if_pos c1]; exact ((Ans.un N _ 5 (by decide)).imp fun _ q => absurd q c0).pure
 rw [if_neg c1]
 by_cases c2 : x.1 = 2
 ·rw [if_pos c2, show By N m.2.2.2.2.2.1 x.2.1 = _ from GQ N m.2.2.2.2.2.1.length (by have := h.ac; omega) x.2.1, Option.bind_some]
  exact ((Ans.un N _ 5 (by decide)).imp fun _ q => absurd q c0).pure
 rw [if_neg c2]
 by_cases c3 : x.1 = 3
 ·obtain ⟨b, e⟩ := Nr h x.2.1 hx
  rw [if_pos c3, e, Option.bind_some]; exact ((Ans.un N _ 5 (by decide)).imp fun _ q => absurd q c0).pure
 ·rw [if_neg c3]; exact ⟨10, rfl, fun q => absurd q (by decide)⟩
theorem Rh (h : Ctx N m) (x : Nod) (i n : Nat) (hi : i ≤ 1000) : Ans (BI N x.1 x.2.1 x.2.2.1 x.2.2.2.1 x.2.2.2.2.1 x.2.2.2.2.2 (i : Int) (n : Int)) ((i : Int) < x.2.2.2.2.1 ∧ x.2.2.2.2.1 ≤ (n : Int)) := by
 have hN := h.hN
 obtain ⟨r1, u1, v1⟩ := Ans.un N (decide ((i : Int) + 1 ≤ x.2.2.2.2.1 ∧ x.2.2.2.2.1 ≤ (n : Int))) 12 (by decide)
 rw [BI, ckp (by omega), BS, Option.bind_some, u1, Option.bind_some]
 split
 ·rw [BE, Option.bind_some]
  exact ((Gz (by omega) _ _).imp fun z => by have := of_decide_eq_true (v1 z.2); omega).pure
 ·rw [ckp (by omega), BS, Option.bind_some, BE, Option.bind_some]
  exact ((Gz (by omega) _ _).imp fun z => by have := of_decide_eq_true (v1 z.1); omega).pure
def NdR (x : Nod) : Prop := Top x.2.1 ∧ CoR x.2.2.1
theorem ed (h : Ctx N m) (l : List Nod) (i : Nat) (hi : i < l.length) (hl : l.length ≤ 1000) (hx : (l[i]!).2.2.1.length ≤ 900 ∧ (l[i]!).2.2.2.1.length ≤ 900) (hr : NdR (l[i]!)) :
  Ans (CV N (i : Int) (l[i]!).1 (l[i]!).2.1 (l[i]!).2.2.1 (l[i]!).2.2.2.1 (l[i]!).2.2.2.2.1 (l[i]!).2.2.2.2.2 m l) (eQ m l.length i (l[i]!)) := by
 have hN := h.hN
 obtain ⟨r1, e1, p1⟩ := Rf h (l[i]!) hr.1
 have c : Ans (BN N m (l[i]!).1 (l[i]!).2.1 (l[i]!).2.2.1 (l[i]!).2.2.2.1 (l[i]!).2.2.2.2.1 (l[i]!).2.2.2.2.2) True := by
  rw [BN]
  split
  ·exact ((cot h [] (by decide) _ (by omega) hr.2).imp fun _ => trivial).pure
  ·exact ((Ans.un N _ 4 (by decide)).imp fun _ => trivial).pure
 have a : Ans (BO N m (l[i]!).1 (l[i]!).2.1 (l[i]!).2.2.1 (l[i]!).2.2.2.1 (l[i]!).2.2.2.2.1 (l[i]!).2.2.2.2.2) True := by
  rw [BO]
  split
  ·exact (aA h _ _ (by omega)).pure
  ·exact ((Ans.un N _ 4 (by decide)).imp fun _ => trivial).pure
 obtain ⟨r2, e2, _⟩ := c
 obtain ⟨r3, e3, _⟩ := a
 obtain ⟨r4, e4, p4⟩ := Rh h (l[i]!) i l.length (by omega)
 rw [CV, e1, Option.bind_some, e2, Option.bind_some, e3, Option.bind_some, e4, Option.bind_some]
 exact ((QF (by omega) _ _ _ _).imp fun z => ⟨p4 z.2.2.2, p1 z.1⟩).pure
theorem Ul (h : Ctx N m) (l : List Nod) (hl : l.length ≤ 900) (hx : ∀ i, i < l.length → i < 300 → (l[i]!).2.2.1.length ≤ 900 ∧ (l[i]!).2.2.2.1.length ≤ 900) (hr : ∀ i, i < l.length → NdR (l[i]!)) :
  Ans2 (Dr N m l) (∀ i, i < l.length → eQ m l.length i (l[i]!)) := by
 have hN := h.hN
 rw [Dr]
 exact ((Ek (by omega : 1000 < N) l (fun i x => CV N i x.1 x.2.1 x.2.2.1 x.2.2.2.1 x.2.2.2.2.1 x.2.2.2.2.2 m l) _ (EB N l m l) 32 (by decide) (fun _ _ => rfl) (fun hm i hi => ed h l i hi (by omega) (hx i hi (by omega)) (hr i hi)) : Ans2 (Gx N l 32 m l) _).imp fun z => z.2).pure
theorem Vt (h : Ctx N m) (hl : m.2.2.2.2.2.2.2.2.2.1.length ≤ 900) (hr : ∀ i, i < m.2.2.2.2.2.2.2.2.2.1.length → Top (m.2.2.2.2.2.2.2.2.2.1[i]!)) : Ans2 (Cs N m) True := by
 have hN := h.hN
 rw [Cs]
 exact ((Ek (by omega : 1000 < N) m.2.2.2.2.2.2.2.2.2.1 (fun i x => CN N i x m) (fun _ => True) (Fl N m.2.2.2.2.2.2.2.2.2.1 m) 32 (by decide) (fun _ _ => rfl) (fun _ i hi => by
  obtain ⟨b, e⟩ := Nr h (m.2.2.2.2.2.2.2.2.2.1[i]!) (hr i hi)
  obtain ⟨b2, e2⟩ := TH (N := N) (by omega) ((m.2.2.2.2.2.2.2.2.2.1.take ((i : Int)).toNat).drop 0) (by rw [List.length_drop, List.length_take]; omega) (m.2.2.2.2.2.2.2.2.2.1[i]!)
  rw [CN, e, Option.bind_some, BE, Option.bind_some, ckp (by omega), e2, Option.bind_some, BE, Option.bind_some]
  exact ((Gz (by omega) _ _).imp fun _ => trivial).pure) : Ans2 (Hi N m.2.2.2.2.2.2.2.2.2.1 32 m) _).imp fun _ => trivial).pure
theorem fy (h : Ctx N m) (k f : Int) : ∃ r, Dw N (hdL m.2.1 m.2.2.1 k).1 (hdL m.2.1 m.2.2.1 k).2.1 (hdL m.2.1 m.2.2.1 k).2.2.1 (hdL m.2.1 m.2.2.1 k).2.2.2.1 (hdL m.2.1 m.2.2.1 k).2.2.2.2.1 (hdL m.2.1 m.2.2.1 k).2.2.2.2.2.1 f = some r ∧ 0 ≤ r.1 ∧ r.1 ≤ 9223372036854775807 := by
 have hN := h.hN
 have key : ∀ l : List Fd, okW l → l.length ≤ 40 → ∀ (a : List UInt8) (b c d e : Int), ∃ r, Dw N a l b c d e f = some r ∧ 0 ≤ r.1 ∧ r.1 ≤ 9223372036854775807 := by
  intro l hw hl a b c d e
  rw [Dw, ckp (by omega), DD, Option.bind_some]
  by_cases q : 0 ≤ f ∧ f ≤ (l.length : Int) - 1
  ·have hw2 : okW (l.take f.toNat) := fun x hx => hw x (List.mem_of_mem_take hx)
   have h40 : (l.take f.toNat).length ≤ 40 := by rw [List.length_take]; omega
   have := MA _ hw2
   rw [decide_eq_true q, if_pos rfl, ckp (by omega), List.drop_zero, TS N (by omega) _ hw2 h40, Option.bind_some]
   exact ⟨_, rfl, this.1, by show In _ ≤ _; omega⟩
  ·rw [decide_eq_false q, if_neg (by decide)]; exact ⟨_, rfl, by decide, by decide⟩
 rcases Xf m.2.1 m.2.2.1 k with ⟨x, hx, e⟩ | e
 ·have hl := (h.hh x hx)
  rw [e]; exact key x.2.1 (bo hl.2).1 (by have := hl.1.1; omega) _ _ _ _ _
 ·rw [e]; exact key [] (fun x hx => by cases hx) (by decide) _ _ _ _ _
theorem VW (h : Ctx N m) (l : List (Int × Int)) (hl : l.length ≤ 900) (hr : ∀ i, i < l.length → Top (l[i]!).1) : Ans2 (Ee N m l) True := by
 have hN := h.hN
 rw [Ee]
 exact ((Ek (by omega : 1000 < N) l (fun i x => ED N i x.1 x.2 m) (fun _ => True) (Fs N l m) 4 (by decide) (fun _ _ => rfl) (fun _ i hi => by
  obtain ⟨r, e, o1, o2⟩ := fy h (l[i]!).1 (l[i]!).2
  obtain ⟨q, e2⟩ := MK h (l[i]!).1 (l[i]!).2 (hr i hi)
  rw [ED, Wb h _ (hr i hi), Option.bind_some, e, Option.bind_some, e2, Option.bind_some, BE, Option.bind_some]
  split
  ·rw [ckp ⟨o1, o2⟩, BE, Option.bind_some]; exact ((Gz (by omega) _ _).imp fun _ => trivial).pure
  ·rw [BE, Option.bind_some]; exact ((Gz (by omega) _ _).imp fun _ => trivial).pure) : Ans2 (Hn N l 4 m) _).imp fun _ => trivial).pure
end
abbrev Mtr := List UInt8 × Int × Int × Int
theorem IT {α : Type} [Inhabited α] {N : Nat} (hN : 5000 < N) (l : List α) (g : α → List UInt8) (hb : brf (l.map g)) (gat : Option (List (List UInt8))) (hg : gat = some (l.map g)) (eac : List (List UInt8) → Option (Int × Int)) (P : Prop)
  (he : Ans2 (eac (l.map g)) P) : Ans2 ((gat.bind fun r4 => (eac r4).bind fun r11 => some (r11.1, r11.2)).bind fun r4 => some (r4.1, r4.2)) P := by
 obtain ⟨r, e, p⟩ := he
 exact ⟨r, by rw [hg, Option.bind_some, e]; rfl, p⟩
section
variable {N : Nat} {m : Al}
theorem nm1 {α : Type} [Inhabited α] {N : Nat} (hN : 5000 < N) (l : List α) (g : α → List UInt8) (hb : brf (l.map g)) {A : Option Int} {P : Prop} (i : Nat) (hi : i < l.length) (hA : Ans A P) :
  Ans (ck (0 ≤ (i : Int) ∧ (i : Int) < (((l.map g)).length : Int)) ((Bf N ((l.map g)[((i : Int)).toNat]!)).bind fun r5 => (Ag N r5 4).bind fun r7 => (Ay N (l.map g) (i : Int)).bind fun r9 => A.bind fun r11 => (As N ([r7, r9, r11])).bind fun r16 => some r16)) P :=
 WH hN (l.map g) hb i (by rw [List.length_map]; exact hi) hA
theorem bm (hN : 5000 < N) (hL : Lit m) : Ans2 (Eh N m) True := by
 have hb : brf (m.2.2.2.1.map (fun x : Fd => x.1)) := hL.ti 3 (by omega)
 have hl : m.2.2.2.1.length ≤ 70 := by have := hb.2; rwa [List.length_map] at this
 exact IT hN m.2.2.2.1 (fun x : Fd => x.1) hb _ (Jx (N := N) (by omega) m.2.2.2.1 (fun x : Fd => x.1) (DO N m.2.2.2.1) (by omega) (fun _ _ _ => rfl)) (FK N m.2.2.2.1 16) True
  ((Ek (by omega : 1000 < N) m.2.2.2.1 (fun (i : Int) (x : Fd) => Ev N i x.1 x.2 (m.2.2.2.1.map (fun x : Fd => x.1))) (fun _ => True) (DS N m.2.2.2.1 (m.2.2.2.1.map (fun x : Fd => x.1))) 16 (by decide) (fun _ _ => rfl)
   (fun _ i hi => nm1 hN m.2.2.2.1 (fun x : Fd => x.1) hb i hi (Ky N _).pure)).imp fun _ => trivial)
theorem dm (hN : 5000 < N) (hL : Lit m) : Ans2 (Fa N m) True := by
 have hb : brf (m.2.2.2.2.2.2.2.2.2.2.2.2.1.map (fun x : Ins => x.1)) := hL.ti 12 (by omega)
 have hl : m.2.2.2.2.2.2.2.2.2.2.2.2.1.length ≤ 70 := by have := hb.2; rwa [List.length_map] at this
 exact IT hN m.2.2.2.2.2.2.2.2.2.2.2.2.1 (fun x : Ins => x.1) hb _ (Jx (N := N) (by omega) m.2.2.2.2.2.2.2.2.2.2.2.2.1 (fun x : Ins => x.1) (Fq N m.2.2.2.2.2.2.2.2.2.2.2.2.1) (by omega) (fun _ _ _ => rfl)) (Ho N m.2.2.2.2.2.2.2.2.2.2.2.2.1 8) True
  ((Ek (by omega : 1000 < N) m.2.2.2.2.2.2.2.2.2.2.2.2.1 (fun (i : Int) (x : Ins) => FG N i x.1 x.2.1 x.2.2 (m.2.2.2.2.2.2.2.2.2.2.2.2.1.map (fun x : Ins => x.1))) (fun _ => True) (Fu N m.2.2.2.2.2.2.2.2.2.2.2.2.1 (m.2.2.2.2.2.2.2.2.2.2.2.2.1.map (fun x : Ins => x.1))) 8 (by decide) (fun _ _ => rfl)
   (fun _ i hi => nm1 hN m.2.2.2.2.2.2.2.2.2.2.2.2.1 (fun x : Ins => x.1) hb i hi (by
    obtain ⟨a, e1, _⟩ := Ky N (m.2.2.2.2.2.2.2.2.2.2.2.2.1[i]!).2.1
    obtain ⟨b, e2, _⟩ := Nb N (m.2.2.2.2.2.2.2.2.2.2.2.2.1[i]!).2.2
    show Ans (Gc N _ _ _) True
    rw [Gc, e1, Option.bind_some, e2, Option.bind_some]
    exact ((Gz (by omega) _ _).imp fun _ => trivial).pure))).imp fun _ => trivial)
theorem TF (hN : 5000 < N) (hL : Lit m) : Ans2 (Cz N m) True := by
 have hb : brf (m.2.2.2.2.2.2.2.2.2.2.2.2.2.1.map (fun x : Fd => x.1)) := hL.ti 13 (by omega)
 have hl : m.2.2.2.2.2.2.2.2.2.2.2.2.2.1.length ≤ 70 := by have := hb.2; rwa [List.length_map] at this
 exact IT hN m.2.2.2.2.2.2.2.2.2.2.2.2.2.1 (fun x : Fd => x.1) hb _ (Jx (N := N) (by omega) m.2.2.2.2.2.2.2.2.2.2.2.2.2.1 (fun x : Fd => x.1) (CL N m.2.2.2.2.2.2.2.2.2.2.2.2.2.1) (by omega) (fun _ _ _ => rfl)) (Ew N m.2.2.2.2.2.2.2.2.2.2.2.2.2.1 8) True
  ((Ek (by omega : 1000 < N) m.2.2.2.2.2.2.2.2.2.2.2.2.2.1 (fun (i : Int) (x : Fd) => Dq N i x.1 x.2 (m.2.2.2.2.2.2.2.2.2.2.2.2.2.1.map (fun x : Fd => x.1))) (fun _ => True) (CM N m.2.2.2.2.2.2.2.2.2.2.2.2.2.1 (m.2.2.2.2.2.2.2.2.2.2.2.2.2.1.map (fun x : Fd => x.1))) 8 (by decide) (fun _ _ => rfl)
   (fun _ i hi => nm1 hN m.2.2.2.2.2.2.2.2.2.2.2.2.2.1 (fun x : Fd => x.1) hb i hi (Nb N _).pure)).imp fun _ => trivial)
theorem WI (hN : 5000 < N) (hL : Lit m) : Ans2 (Dz N m) True := by
 have hb : brf (m.2.2.2.2.2.2.2.2.2.2.2.2.2.2.1.map (fun x : Mtr => x.1)) := hL.ti 14 (by omega)
 have hl : m.2.2.2.2.2.2.2.2.2.2.2.2.2.2.1.length ≤ 70 := by have := hb.2; rwa [List.length_map] at this
 exact IT hN m.2.2.2.2.2.2.2.2.2.2.2.2.2.2.1 (fun x : Mtr => x.1) hb _ (Jx (N := N) (by omega) m.2.2.2.2.2.2.2.2.2.2.2.2.2.2.1 (fun x : Mtr => x.1) (DN N m.2.2.2.2.2.2.2.2.2.2.2.2.2.2.1) (by omega) (fun _ _ _ => rfl)) (FJ N m.2.2.2.2.2.2.2.2.2.2.2.2.2.2.1 8) True
  ((Ek (by omega : 1000 < N) m.2.2.2.2.2.2.2.2.2.2.2.2.2.2.1 (fun (i : Int) (x : Mtr) => Eu N i x.1 x.2.1 x.2.2.1 x.2.2.2 (m.2.2.2.2.2.2.2.2.2.2.2.2.2.2.1.map (fun x : Mtr => x.1))) (fun _ => True) (DR N m.2.2.2.2.2.2.2.2.2.2.2.2.2.2.1 (m.2.2.2.2.2.2.2.2.2.2.2.2.2.2.1.map (fun x : Mtr => x.1))) 8 (by decide) (fun _ _ => rfl)
   (fun _ i hi => nm1 hN m.2.2.2.2.2.2.2.2.2.2.2.2.2.2.1 (fun x : Mtr => x.1) hb i hi (by
    obtain ⟨a, e1, _⟩ := Nb N (m.2.2.2.2.2.2.2.2.2.2.2.2.2.2.1[i]!).2.1
    have k2 : ∀ b : Bool, Ans (EE N (m.2.2.2.2.2.2.2.2.2.2.2.2.2.2.1[i]!).2.1 b) True := fun b => by
     rw [EE, e1, Option.bind_some, BE, Option.bind_some]
     exact ((Gz (by omega) _ _).imp fun _ => trivial).pure
    show Ans (Eg N _ _ _ _) True
    rw [Eg, BS, Option.bind_some]
    split
    ·rw [BS, Option.bind_some]; exact k2 _
    ·exact k2 _))).imp fun _ => trivial)
theorem Wa (h : Ctx N m) (hr : ∀ s ∈ m.2.2.2.2.1, StR s) : Ans2 (CK N m) (∀ i, i < m.2.2.2.2.1.length → StOk m (m.2.2.2.2.1[i]!)) := by
 have hN := h.hN
 have hb : brf (m.2.2.2.2.1.map (fun x : Stt => x.1)) := h.hL.ti 4 (by omega)
 have hl := h.st
 rw [CK]
 split
 ·exact ⟨(0, 5), rfl, fun q => absurd q (by decide)⟩
 exact IT hN m.2.2.2.2.1 (fun x : Stt => x.1) hb _ (Jx (N := N) (by omega) m.2.2.2.2.1 (fun x : Stt => x.1) (DM N m.2.2.2.2.1) (by omega) (fun _ _ _ => rfl)) (fun r => FI N m.2.2.2.2.1 16 r m) _
  ((Ek (by omega : 1000 < N) m.2.2.2.2.1 (fun (i : Int) (x : Stt) => Et N i x.1 x.2.1 x.2.2.1 x.2.2.2.1 x.2.2.2.2 (m.2.2.2.2.1.map (fun x : Stt => x.1)) m) (fun i => StOk m (m.2.2.2.2.1[i]!)) (DQ N m.2.2.2.2.1 (m.2.2.2.2.1.map (fun x : Stt => x.1)) m) 16 (by decide) (fun _ _ => rfl)
   (fun _ i hi => nm1 hN m.2.2.2.2.1 (fun x : Stt => x.1) hb i hi (aN h _ (by have := h.hL.st i hi; omega) (hr _ (Bv hi))))).imp fun z => z.2)
theorem VI (h : Ctx N m) (hr : ∀ s ∈ m.2.2.2.2.2.1, CoR s.2.2) : Ans2 (CW N m) (∀ i, i < m.2.2.2.2.2.1.length → cJ N m (m.2.2.2.2.2.1[i]!)) := by
 have hN := h.hN
 have hb : brf (m.2.2.2.2.2.1.map (fun x : Act => x.1)) := h.hL.ti 5 (by omega)
 have hl := h.ac
 exact IT hN m.2.2.2.2.2.1 (fun x : Act => x.1) hb _ (Jx (N := N) (by omega) m.2.2.2.2.2.1 (fun x : Act => x.1) (Dd N m.2.2.2.2.2.1) (by omega) (fun _ _ _ => rfl)) (fun r => EZ N m.2.2.2.2.2.1 32 r m) _
  ((Ek (by omega : 1000 < N) m.2.2.2.2.2.1 (fun (i : Int) (x : Act) => DK N i x.1 x.2.1 x.2.2 (m.2.2.2.2.2.1.map (fun x : Act => x.1)) m) (fun i => cJ N m (m.2.2.2.2.2.1[i]!)) (Df N m.2.2.2.2.2.1 (m.2.2.2.2.2.1.map (fun x : Act => x.1)) m) 32 (by decide) (fun _ _ => rfl)
   (fun _ i hi => nm1 hN m.2.2.2.2.2.1 (fun x : Act => x.1) hb i hi (aC h _ (by have := h.hL.ac i hi; omega) (hr _ (Bv hi))))).imp fun z => z.2)
theorem VV (h : Ctx N m) (hr : ∀ s ∈ m.2.2.2.2.2.2.1, TbR s) : Ans2 (Dy N m) True := by
 have hN := h.hN
 have hb : brf (m.2.2.2.2.2.2.1.map (fun x : Tab => x.1)) := h.hL.ti 6 (by omega)
 have hl := h.tb
 exact IT hN m.2.2.2.2.2.2.1 (fun x : Tab => x.1) hb _ (Jx (N := N) (by omega) m.2.2.2.2.2.2.1 (fun x : Tab => x.1) (DL N m.2.2.2.2.2.2.1) (by omega) (fun _ _ _ => rfl)) (fun r => FH N m.2.2.2.2.2.2.1 8 r m) _
  ((Ek (by omega : 1000 < N) m.2.2.2.2.2.2.1 (fun (i : Int) (x : Tab) => Es N i x.1 x.2.1 x.2.2.1 x.2.2.2.1 x.2.2.2.2.1 x.2.2.2.2.2.1 x.2.2.2.2.2.2 (m.2.2.2.2.2.2.1.map (fun x : Tab => x.1)) m) (fun _ => True) (DP N m.2.2.2.2.2.2.1 (m.2.2.2.2.2.2.1.map (fun x : Tab => x.1)) m) 8 (by decide) (fun _ _ => rfl)
   (fun _ i hi => nm1 hN m.2.2.2.2.2.2.1 (fun x : Tab => x.1) hb i hi (aL h _ (by have := h.hL.tb i hi; omega) (hr _ (Bv hi))))).imp fun _ => trivial)
theorem imt (hN : 5000 < N) (hL : Lit m) : Ans2 (Dt N m) (0 < m.1.length ∧ 1 ≤ m.2.2.2.2.2.2.2.2.2.2.2.2.2.2.2.1) := by
 have h1 := hL.nm
 have k2 : ∀ b : Bool, ∃ r, DA N m b = some r ∧ (r.2 = 0 → 0 < m.1.length ∧ b = true) := fun b => by
  obtain ⟨r1, u1, v1⟩ := Ans.un N (WM (EK m.1)) 4 (by decide)
  obtain ⟨r2, u2, v2⟩ := Ans.un N b 7 (by decide)
  obtain ⟨r3, u3, v3⟩ := Gz (N := N) (by omega) r1 r2
  rw [DA, cN N m.1 (by omega), Option.bind_some, u1, Option.bind_some, u2, Option.bind_some, u3, Option.bind_some]
  refine ⟨_, rfl, fun q => ⟨?_, v2 (v3 q).2⟩⟩
  have := v1 (v3 q).1
  rcases Nat.eq_zero_or_pos m.1.length with c | c
  ·rw [List.length_eq_zero_iff.1 c] at this; exact absurd this (by decide +kernel)
  ·exact c
 rw [Dt, BS, Option.bind_some]
 by_cases c : 1 ≤ m.2.2.2.2.2.2.2.2.2.2.2.2.2.2.2.1 ∧ m.2.2.2.2.2.2.2.2.2.2.2.2.2.2.2.1 ≤ 64
 ·rw [decide_eq_true c, if_pos rfl, BS, Option.bind_some]
  split
  ·rw [BS, Option.bind_some]
   obtain ⟨r, e, p⟩ := k2 (decide (0 ≤ m.2.2.2.2.2.2.2.2.2.2.2.2.2.2.2.2.2 ∧ m.2.2.2.2.2.2.2.2.2.2.2.2.2.2.2.2.2 ≤ 4))
   exact ⟨r, e, fun q => ⟨(p q).1, c.1⟩⟩
  ·obtain ⟨r, e, p⟩ := k2 false
   exact ⟨r, e, fun q => ⟨(p q).1, c.1⟩⟩
 ·rw [decide_eq_false c, if_neg (by decide)]
  obtain ⟨r, e, p⟩ := k2 false
  exact ⟨r, e, fun q => absurd (p q).2 (by decide)⟩
theorem aO (hN : 5000 < N) (x : Hd) (h0 : x.1.length ≤ 100) (h1 : x.2.1.length ≤ 900) (h2 : ∀ j, j < x.2.1.length → j < 300 → (x.2.1[j]!).1.length ≤ 100) : Ans (CP N x.1 x.2.1 x.2.2.1 x.2.2.2.1 x.2.2.2.2.1 x.2.2.2.2.2) (Lt x.1 x.2.1 ∧ Rj x.1 x.2.1 x.2.2.1 x.2.2.2.1 x.2.2.2.2.1 x.2.2.2.2.2 = 0) := by
 by_cases c : x.2.1.length ≤ 40
 ·have hl : Lt x.1 x.2.1 := ⟨c, by omega, fun j hj => by have := h2 j hj (by omega); omega⟩
  exact ⟨_, dB N (by omega) _ _ _ _ _ _ hl, fun q => ⟨hl, q⟩⟩
 ·rw [CP, Mz N (by omega) x.1 (by omega), Option.bind_some]
  split
  ·rw [if_pos (by omega)]; exact ⟨2, rfl, fun q => absurd q (by decide)⟩
  ·exact ⟨4, rfl, fun q => absurd q (by decide)⟩
theorem Vn (hN : 5000 < N) (hL : Lit m) : Ans2 (Cr N m) (m.2.1.length ≤ 16 ∧ ∀ x ∈ m.2.1, Lt x.1 x.2.1 ∧ Rj x.1 x.2.1 x.2.2.1 x.2.2.2.1 x.2.2.2.2.1 x.2.2.2.2.2 = 0) := by
 have hb : brf (m.2.1.map (fun x : Hd => x.1)) := hL.ti 1 (by omega)
 have hl : m.2.1.length ≤ 70 := by have := hb.2; rwa [List.length_map] at this
 have he : Ans2 (EY N m.2.1 16 (m.2.1.map (fun x : Hd => x.1))) _ := Ek (by omega : 1000 < N) m.2.1 (fun (i : Int) (x : Hd) => Cf N i x.1 x.2.1 x.2.2.1 x.2.2.2.1 x.2.2.2.2.1 x.2.2.2.2.2 (m.2.1.map (fun x : Hd => x.1))) (fun i => Lt (m.2.1[i]!).1 (m.2.1[i]!).2.1 ∧ Rj (m.2.1[i]!).1 (m.2.1[i]!).2.1 (m.2.1[i]!).2.2.1 (m.2.1[i]!).2.2.2.1 (m.2.1[i]!).2.2.2.2.1 (m.2.1[i]!).2.2.2.2.2 = 0)
  (De N m.2.1 (m.2.1.map (fun x : Hd => x.1))) 16 (by decide) (fun _ _ => rfl) (fun _ i hi => by
   have hn : (m.2.1[i]!).1.length ≤ 100 := by have := hb.1 i (by rw [List.length_map]; exact hi); rwa [IB (fun x : Hd => x.1) m.2.1 i hi] at this
   obtain ⟨r1, e1, p1⟩ := aO hN (m.2.1[i]!) hn (hL.hd i hi).1 (hL.hd i hi).2
   obtain ⟨r2, e2, _⟩ := MY hN (m.2.1.map (fun x : Hd => x.1)) hb i (by rw [List.length_map]; exact hi)
   show Ans (Cf N (i : Int) _ _ _ _ _ _ _) _
   rw [Cf, e1, Option.bind_some, e2, Option.bind_some]
   exact ((Gz (by omega) _ _).imp fun z => p1 z.1).pure)
 obtain ⟨r, e, p⟩ := he
 rw [Cr, show EX N m.2.1 = _ from Jx (N := N) (by omega) m.2.1 (fun x : Hd => x.1) (Dc N m.2.1) (by omega) (fun _ _ _ => rfl), Option.bind_some, e]
 exact ⟨_, rfl, fun q => ⟨by have := (p q).1; omega, WB (p q).2⟩⟩
theorem bD (hN : 5000 < N) (hL : Lit m) (hs : m.2.1.length ≤ 16) : Ans2 (Ds N m) (m.2.2.1.length ≤ 16) := by
 rw [Ds]
 by_cases c : m.2.2.1.length ≤ 16
 ·rw [Wo N (by omega) m.2.1 m.2.2.1 ⟨by omega, by omega, fun j hj => by have := hL.ins j hj (by omega); omega⟩]; exact ⟨_, rfl, fun _ => c⟩
 ·rw [GF, if_pos (by omega)]; exact ⟨_, rfl, fun q => absurd q (by decide)⟩
end
end Go.Proofs.YtjmdbbnnpmmpiaaGreatDoor
