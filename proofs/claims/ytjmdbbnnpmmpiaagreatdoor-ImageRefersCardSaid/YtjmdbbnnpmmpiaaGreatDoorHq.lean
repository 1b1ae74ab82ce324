import Derived.Test.YtjmdbbnnpmmpiaaGreatDoorHp
namespace Go.Proofs.YtjmdbbnnpmmpiaaGreatDoor
open Go Go.RowKit Go.Eng
theorem US (a b : List Ins) : total (a ++ b) = total a + total b := by unfold total; rw [List.map_append, List.sum_append]
theorem Tb (x : Ins) (b : List Ins) : total (x :: b) = dep x.2.2 + total b := by simp [total]
theorem Ta (l : List Ins) (j : Nat) (h : j < l.length) : total (l.take (j + 1)) = total (l.take j) + dep (l[j]!).2.2 := by rw [QU l j h, US, Tb]; rfl
theorem Lp (N : Nat) (x0 : List UInt8) (x1 x2 : Int) : EO N x0 x1 x2 = some (dep x2 : Int) := by
 unfold EO dep Ff
 rw [DD, Option.bind_some, Option.bind_some]
 by_cases h : 0 ≤ x2 ∧ x2 ≤ 4
 ·rw [decide_eq_true h, if_pos rfl, if_pos h]; congr 1; omega
 ·rw [decide_eq_false h, if_neg (by decide), if_neg h]; rfl
theorem Te (N : Nat) (l : List Ins) (hl : l.length ≤ 40) : ∀ (k f i : Nat), i + k = l.length → k < f → EP N l f (total (l.take i) : Int) (i : Int) = some (total l : Int) := by
 intro k
 induction k with
 | zero =>
  intro f i hi hf
  obtain ⟨f, rfl⟩ : ∃ n, f = n + 1 := ⟨f - 1, by omega⟩
  rw [EP, if_neg (by omega), List.take_of_length_le (by omega)]
 | succ k ih =>
  intro f i hi hf
  obtain ⟨f, rfl⟩ : ∃ n, f = n + 1 := ⟨f - 1, by omega⟩
  have e1 : (i : Int) + 1 = ((i + 1 : Nat) : Int) := by omega
  have ht := Ta l i (by omega)
  have h4 := QT (l.take (i + 1))
  have hlt : (l.take (i + 1)).length ≤ 40 := by rw [List.length_take]; omega
  rw [EP, if_pos (by omega), AQ _ (by omega), Lp, Option.bind_some, Int.toNat_natCast, show (total (l.take i) : Int) + (dep (l[i]!).2.2 : Int) = ((total (l.take (i + 1)) : Nat) : Int) from by omega, AQ _ (by omega), AQ _ (by omega), e1]
  exact ih f (i + 1) (by omega) (by omega)
theorem TW (N : Nat) (hN : 3000 < N) (l : List Ins) (hl : l.length ≤ 40) : GE N l = some (total l : Int) := Te N l hl l.length N 0 (by omega) (by omega)
theorem Wq (N : Nat) (hN : 3000 < N) (l : List Ins) (i : Int) (hl : l.length ≤ 40) : HE N l i = some (Tx l i) := by
 unfold HE Tx
 rw [AQ _ (by omega), DD, Option.bind_some]
 by_cases a : 0 ≤ i ∧ i ≤ (l.length : Int) - 1
 rotate_left
 ·rw [decide_eq_false a, if_neg (by decide), if_neg (by omega)]
 rw [decide_eq_true a, if_pos rfl, AQ _ (by omega), Lp, Option.bind_some]
 by_cases c : dep (l[i.toNat]!).2.2 = 0
 ·rw [if_pos (by omega), if_neg (fun h => h.2.2 c)]
 rw [if_neg (by omega), if_pos ⟨by omega, by omega, c⟩, IP, AQ _ (by omega), List.drop_zero, TW N hN _ (by rw [List.length_take]; omega), Option.bind_some]
theorem bg (N : Nat) (l : List Ins) (hl : l.length ≤ 40) : ∀ (k f i : Nat) (s : Int), i + k = l.length → k < f → 0 ≤ s → s ≤ 9223372036854775807 → HZ N l f s (i : Int) = some (ofF i (l.drop i) s) := by
 intro k
 induction k with
 | zero =>
  intro f i s hi hf h0 h1
  obtain ⟨f, rfl⟩ : ∃ n, f = n + 1 := ⟨f - 1, by omega⟩
  rw [HZ, if_neg (by omega), List.drop_of_length_le (by omega)]; rfl
 | succ k ih =>
  intro f i s hi hf h0 h1
  obtain ⟨f, rfl⟩ : ∃ n, f = n + 1 := ⟨f - 1, by omega⟩
  have e1 : (i : Int) + 1 = ((i + 1 : Nat) : Int) := by omega
  rw [HZ, if_pos (by omega), AQ _ (by omega), Lp, Option.bind_some, Int.toNat_natCast, Xx l i (by omega), ofF]
  by_cases a : s < (dep (l[i]!).2.2 : Int)
  ·rw [if_pos a, if_pos a]
  ·rw [if_neg a, if_neg a, AQ _ (by omega), AQ _ (by omega), e1]
   exact ih f (i + 1) _ (by omega) (by omega) (by omega) (by omega)
theorem ec (N : Nat) (hN : 3000 < N) (l : List Ins) (k : Int) (hl : l.length ≤ 40) (h1 : k ≤ 9223372036854775807) : Ip N l k = some (ofL l k) := by
 unfold Ip ofL
 by_cases a : k < 0
 ·rw [if_pos a, if_pos a]
 rw [if_neg a, if_neg a]
 exact bg N l hl l.length N 0 k (by omega) (by omega) (by omega) h1
theorem Qe : ∀ (l : List Ins) (i : Nat) (k : Int), (ofF i l k).2.2 = true → (i : Int) ≤ (ofF i l k).1 ∧ (ofF i l k).1 < ((i + l.length : Nat) : Int)
 | [], _, _, h => by cases h
 | x :: r, i, k, h => by
  rw [ofF] at h ⊢
  by_cases a : k < (dep x.2.2 : Int)
  ·rw [if_pos a]; rw [List.length_cons]; exact ⟨Int.le_refl _, by show (i : Int) < _; omega⟩
  ·rw [if_neg a] at h ⊢
   have := Qe r (i + 1) _ h
   rw [List.length_cons]; omega
theorem UH (N : Nat) (s : List UInt8) (hs : s.length ≤ 140737488355328) : HF N s = some s := by
 rw [HF, JL]
 by_cases c : s.length = 0
 ·rw [if_pos (by omega), List.length_eq_zero_iff.1 c]; rfl
 have e : s.take (List.replicate ((s.length : Int)).toNat (0 : UInt8)).length ++ (List.replicate ((s.length : Int)).toNat (0 : UInt8)).drop s.length = s := by
  rw [Int.toNat_natCast, List.length_replicate, List.take_length, List.drop_of_length_le (by rw [List.length_replicate]; exact Nat.le_refl _), List.append_nil]
 rw [if_neg (by omega), AQ _ (by omega), e, AQ _ (by omega), AQ _ hs]; rfl
def Cl (h1 : List Fd) : Prop := h1.length ≤ 5864062014805 ∧ ∀ x ∈ h1, x.1.length ≤ 140737488355328
theorem Tv (N : Nat) (h0 : List UInt8) (h1 : List Fd) (h2 h3 h4 h5 : Int) (hc : Cl h1) :
  ∀ (k f i : Nat), i + k = h1.length → k < f → CI N h2 h3 h4 h5 h0 h1 f (i : Int) h1 = some (h0, h1, h2, h3, h4, h5) := by
 have hl := hc.1
 intro k
 induction k with
 | zero =>
  intro f i hi hf
  obtain ⟨f, rfl⟩ : ∃ n, f = n + 1 := ⟨f - 1, by omega⟩
  rw [CI, if_neg (by omega)]
 | succ k ih =>
  intro f i hi hf
  obtain ⟨f, rfl⟩ : ∃ n, f = n + 1 := ⟨f - 1, by omega⟩
  have e1 : (i : Int) + 1 = ((i + 1 : Nat) : Int) := by omega
  have hx := hc.2 (h1[i]!) (by rw [getElem!_pos h1 i (by omega)]; exact List.getElem_mem _)
  have es : h1.set i ((h1[i]!).1, (h1[i]!).2) = h1 := by
   rw [getElem!_pos h1 i (by omega)]
   exact List.set_getElem_self (by omega)
  rw [CI, if_pos (by omega), AQ _ (by omega), Int.toNat_natCast, UH N _ hx, Option.bind_some, AQ _ (by omega), AQ _ (by omega), e1, es]
  exact ih f (i + 1) (by omega) (by omega)
theorem bF (N : Nat) (h0 : List UInt8) (h1 : List Fd) (h2 h3 h4 h5 : Int) (h0l : h0.length ≤ 140737488355328) (hc : Cl h1) (hN : h1.length < N) : Fh N h0 h1 h2 h3 h4 h5 = some (h0, h1, h2, h3, h4, h5) := by
 have hl := hc.1
 rw [Fh, UH N _ h0l, Option.bind_some, Bj, List.nil_append, AQ _ (by rw [List.length_nil]; omega), Option.bind_some]
 exact Tv N h0 h1 h2 h3 h4 h5 hc h1.length N 0 (by omega) hN
def Cls (N : Nat) (hs : List Hd) : Prop := ∀ h ∈ hs, h.1.length ≤ 140737488355328 ∧ Cl h.2.1 ∧ h.2.1.length < N
theorem Xe (N : Nat) (hN : 3000 < N) (hs : List Hd) (hC : Cls N hs) (l : List Ins) (k : Int) (hl : Ft hs.length l) (h1 : k ≤ 9223372036854775807) : GG N hs l k = some (hdL hs l k) := by
 have h30 := hl.1
 unfold GG hdL
 rw [ec N hN l k hl.2.1 h1, Option.bind_some]
 by_cases a : (ofL l k).2.2 = true
 rotate_left
 ·rw [if_neg a, if_neg (fun h => a h.1)]
 have hr : 0 ≤ (ofL l k).1 ∧ (ofL l k).1 < (l.length : Int) := by
  unfold ofL at a ⊢
  by_cases b : k < 0
  ·rw [if_pos b] at a; cases a
  ·rw [if_neg b] at a ⊢; have := Qe l 0 k a; omega
 rw [if_pos a, AQ _ hr, AQ _ (by omega), DD, Option.bind_some]
 by_cases b : 0 ≤ (l[(ofL l k).1.toNat]!).2.1 ∧ (l[(ofL l k).1.toNat]!).2.1 ≤ (hs.length : Int) - 1
 ·have hm := hC (hs[((l[(ofL l k).1.toNat]!).2.1).toNat]!) (by rw [getElem!_pos hs _ (by omega)]; exact List.getElem_mem _)
  rw [decide_eq_true b, if_pos rfl, if_pos ⟨a, by omega, by omega⟩, Ia, AQ _ hr, AQ _ (by omega), bF N _ _ _ _ _ _ hm.1 hm.2.1 hm.2.2, Option.bind_some]
 ·rw [decide_eq_false b, if_neg (by decide), if_neg (fun h => b (by omega))]
theorem fQ (N : Nat) (l : List Ins) (hl : l.length ≤ 1000) : ∀ (k f i : Nat), i + k = l.length → k < f →
  BW N (l.length : Int) l f ((l.take i).map (·.1) ++ List.replicate (l.length - i) []) (i : Int) = some (l.map (·.1)) := by
 intro k
 induction k with
 | zero =>
  intro f i hi hf
  obtain ⟨f, rfl⟩ : ∃ n, f = n + 1 := ⟨f - 1, by omega⟩
  rw [BW, if_neg (by omega), List.take_of_length_le (by omega), show l.length - i = 0 from by omega, List.replicate_zero, List.append_nil]
 | succ k ih =>
  intro f i hi hf
  obtain ⟨f, rfl⟩ : ∃ n, f = n + 1 := ⟨f - 1, by omega⟩
  have e1 : (i : Int) + 1 = ((i + 1 : Nat) : Int) := by omega
  rw [BW, if_pos (by omega), CO, AQ _ (by omega), Option.bind_some, AQ _ (by rw [NO _ _ _ (by omega)]; omega), AQ _ (by omega), e1, Int.toNat_natCast, Jl _ l i (by omega)]
  exact ih f (i + 1) (by omega) (by omega)
theorem Rr (N : Nat) (l : List Ins) (hl : l.length ≤ 1000) (hN : l.length < N) : Ez N l = some (l.map (·.1)) := by
 have := fQ N l hl l.length N 0 (by omega) hN
 rw [Ez, FD, AQ _ (by omega), Int.toNat_natCast]
 have e : BW N (l.length : Int) l N (List.replicate l.length []) 0 = some (l.map (·.1)) := this
 rw [e]; rfl
theorem Re (N : Nat) (hN : 3000 < N) (hs : List Hd) (l : List Ins) (hl : Ft hs.length l) :
  ∀ (k f i : Nat), i + k = l.length → k < f → EQ N hs l (l.map (·.1)) f (i : Int) = some (eB l (goI hs.length (l.take i) (l.drop i))) := by
 have h40 := hl.2.1
 have h30 := hl.1
 intro k
 induction k with
 | zero =>
  intro f i hi hf
  obtain ⟨f, rfl⟩ : ∃ n, f = n + 1 := ⟨f - 1, by omega⟩
  rw [EQ, if_neg (by omega), List.drop_of_length_le (by omega), goI, eB, if_pos rfl, TW N hN l h40, Option.bind_some]
  by_cases c : 32 < total l
  ·rw [if_pos c, if_pos (by omega)]
  ·rw [if_neg c, if_neg (by omega)]
 | succ k ih =>
  intro f i hi hf
  obtain ⟨f, rfl⟩ : ∃ n, f = n + 1 := ⟨f - 1, by omega⟩
  have e1 : (i : Int) + 1 = ((i + 1 : Nat) : Int) := by omega
  have en := IB (fun x : Ins => x.1) l i (by omega)
  rw [EQ, if_pos (by omega), AQ _ (by omega), Int.toNat_natCast, Pv N hN _ i (by rw [List.length_map]; omega) (by rw [List.length_map]; omega) (fun j hj => by
    rw [List.length_map] at hj
    have := hl.2.2 j hj
    rw [IB (fun x : Ins => x.1) l j hj]; omega), Option.bind_some, en, PS, Xx l i (by omega), goI]
  by_cases c1 : GH (l[i]!).1 = true
  rotate_left
  ·rw [if_neg c1, if_neg c1]; rfl
  rw [if_pos c1, if_pos c1]
  by_cases c2 : (l.take i).any (fun x => HX x.1 (l[i]!).1) = true
  ·rw [if_pos c2, if_pos c2]; rfl
  rw [if_neg c2, if_neg c2, if_neg (fun h => h rfl), AQ _ (by omega), DD, Option.bind_some]
  by_cases c3 : (l[i]!).2.1 < 0 ∨ (hs.length : Int) ≤ (l[i]!).2.1
  ·rw [decide_eq_false (by omega), if_neg (by decide), if_pos c3]; rfl
  rw [decide_eq_true (by omega), if_pos rfl, if_neg c3, Ff, DD, Option.bind_some, Option.bind_some]
  by_cases c4 : (l[i]!).2.2 < 0 ∨ 4 < (l[i]!).2.2
  ·rw [decide_eq_false (by omega), if_neg (by decide), if_pos c4]; rfl
  rw [decide_eq_true (by omega), if_pos rfl, if_neg c4, AQ _ (by omega), e1, ih f (i + 1) (by omega) (by omega), QU l i (by omega)]
theorem Wo (N : Nat) (hN : 3000 < N) (hs : List Hd) (l : List Ins) (hl : Ft hs.length l) : GF N hs l = some (WY hs.length l) := by
 have := Re N hN hs l hl l.length N 0 (by omega) (by have := hl.2.1; omega)
 have h40 := hl.2.1
 unfold GF WY
 by_cases c : 16 < l.length
 ·rw [if_pos c, if_pos (by omega)]
 ·rw [if_neg c, if_neg (by omega), Rr N l (by omega) (by omega), Option.bind_some]
  exact this
end Go.Proofs.YtjmdbbnnpmmpiaaGreatDoor
