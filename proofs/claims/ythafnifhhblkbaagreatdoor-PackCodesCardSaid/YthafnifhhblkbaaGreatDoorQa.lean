import Derived.Test.YthafnifhhblkbaaGreatDoorWp
import Derived.Test.YthafnifhhblkbaaGreatDoorCp
set_option linter.unusedSimpArgs false
set_option linter.unusedVariables false
namespace Go.Proofs.YthafnifhhblkbaaGreatDoor
open Go Go.RowKit Go.Eng
theorem Xe (ls : List (List UInt8)) (i : Nat) (h : i < ls.length) : ((ls.drop i).flatten).length = (ls[i]!).length + ((ls.drop (i + 1)).flatten).length := by
 rw [LN ls i h, List.flatten_cons, List.length_append]
theorem ma (ls : List (List UInt8)) (hl : ls.length ≤ 1000000) : ∀ (k f i : Nat) (acc : List UInt8), i + k = ls.length → k < f → acc.length + ((ls.drop i).flatten).length ≤ 1000000000 →
  BB ls f acc (i : Int) = some (acc ++ (ls.drop i).flatten) := by
 intro k
 induction k with
 | zero =>
  intro f i acc hi hf _
  obtain ⟨f, rfl⟩ : ∃ n, f = n + 1 := ⟨f - 1, by omega⟩
  rw [BB, if_neg (by omega), List.drop_of_length_le (by omega), List.flatten_nil, List.append_nil]
 | succ k ih =>
  intro f i acc hi hf ha
  obtain ⟨f, rfl⟩ : ∃ n, f = n + 1 := ⟨f - 1, by omega⟩
  have e := Xe ls i (by omega)
  rw [BB, if_pos (by omega), AR _ (by omega), Int.toNat_natCast, AR _ (by omega), AR _ (by omega), show (i : Int) + 1 = ((i + 1 : Nat) : Int) from by omega,
   ih f (i + 1) _ (by omega) (by omega) (by rw [List.length_append]; omega), LN ls i (by omega), List.flatten_cons, List.append_assoc]
theorem jd (N n : Nat) (h : n ≤ 1000000000) : Ce N (n : Int) = some [] := by
 unfold Ce Dm
 rw [if_neg (by omega), AR _ (by simp), AR _ (by simp; omega)]
 by_cases h0 : ((n : Int) - (0 - ((([] : List UInt8)).length : Int))) > 0
 ·rw [if_pos h0, AR _ (by simp; omega), AR _ (by simp)]; simp
 ·rw [if_neg h0]
theorem mb (N : Nat) (ls : List (List UInt8)) (hl : ls.length ≤ 1000000) (hN : ls.length < N) (ht : (ls.flatten).length ≤ 1000000000) : ∀ (k f i n : Nat), i + k = ls.length → k < f → n + ((ls.drop i).flatten).length = (ls.flatten).length →
  BC N ls f (n : Int) (i : Int) = some ls.flatten := by
 intro k
 induction k with
 | zero =>
  intro f i n hi hf hn
  obtain ⟨f, rfl⟩ : ∃ n, f = n + 1 := ⟨f - 1, by omega⟩
  have := ma ls hl ls.length N 0 [] (by omega) hN (by simpa using ht)
  rw [BC, if_neg (by omega), jd N n (by omega), Option.bind_some, show (0 : Int) = ((0 : Nat) : Int) from rfl, this]; rfl
 | succ k ih =>
  intro f i n hi hf hn
  obtain ⟨f, rfl⟩ : ∃ n, f = n + 1 := ⟨f - 1, by omega⟩
  have e := Xe ls i (by omega)
  rw [BC, if_pos (by omega), AR _ (by omega), Int.toNat_natCast, AR _ (by omega), if_neg (by omega), AR _ (by omega), show (i : Int) + 1 = ((i + 1 : Nat) : Int) from by omega,
   show (n : Int) + ((ls[i]!).length : Int) = ((n + (ls[i]!).length : Nat) : Int) from by omega, ih f (i + 1) _ (by omega) (by omega) (by omega)]
theorem cA (N : Nat) (ls : List (List UInt8)) (hl : ls.length ≤ 1000000) (hN : ls.length < N) (ht : (ls.flatten).length ≤ 1000000000) : AF N ls = some ls.flatten :=
 mb N ls hl hN ht ls.length N 0 0 (by omega) hN (by simp)
theorem ad (N : Nat) (hN : 400 < N) (l : List Int) (hl : l.length ≤ 300) : ∀ (k f i : Nat) (acc : List UInt8), i + k = l.length → k < f → acc.length ≤ 1000 + i → Dh N l f acc (i : Int) = some (acc ++ (l.drop i).map byteI) := by
 intro k
 induction k with
 | zero =>
  intro f i acc hi hf _
  obtain ⟨f, rfl⟩ : ∃ n, f = n + 1 := ⟨f - 1, by omega⟩
  rw [Dh, if_neg (by omega), List.drop_of_length_le (by omega), List.map_nil, List.append_nil]
 | succ k ih =>
  intro f i acc hi hf ha
  obtain ⟨f, rfl⟩ : ∃ n, f = n + 1 := ⟨f - 1, by omega⟩
  rw [Dh, if_pos (by omega), AR _ (by omega), Int.toNat_natCast, il N hN acc (by omega), Option.bind_some, AR _ (by omega), show (i : Int) + 1 = ((i + 1 : Nat) : Int) from by omega,
   ih f (i + 1) _ (by omega) (by omega) (by rw [List.length_append, WD _ _ (.inl rfl)]; omega), LN l i (by omega), List.map_cons, List.append_assoc]; rfl
theorem UP {N : Nat} (hN : 400 < N) (l : List Int) (hl : l.length ≤ 300) : Ae N l = some (l.map byteI) := by
 unfold Ae
 have := ad N hN l hl l.length N 0 [] (by omega) (by omega) (by simp)
 rw [show (0 : Int) = ((0 : Nat) : Int) from rfl, this]; rfl
theorem iR {N : Nat} (hN : 400 < N) (n : Int) : BE N n = some [byteI n] := by
 unfold BE
 rw [show Cj N n 1 = some (TF n 1) from ZY N (by omega) n 1 (.inl rfl)]; rfl
def QB (x : I9) : List UInt8 := byteI x.1 :: ((if x.1 = 0 then YA (x.2.2.2.1, x.2.2.2.2) else []) ++ ((if (Fi x.1).2.2.2.1 ≥ 1 then [byteI x.2.1] else []) ++ (if (Fi x.1).2.2.2.1 = 2 then [byteI x.2.2.1] else [])))
theorem RS (x : I9) : (QB x).length ≤ 20 := by
 have := Wt (x.2.2.2.1, x.2.2.2.2)
 unfold QB
 rw [List.length_cons, List.length_append, List.length_append]
 split <;> split <;> split <;> simp only [List.length_nil, List.length_cons] <;> omega
theorem Zn {N : Nat} (hN : 400 < N) (l : List I9) (i : Nat) (hi : i < l.length) (hl : l.length ≤ 300) (b : List UInt8) (hb : b.length ≤ 1000000000) (rec : List UInt8 → Int → Option (List UInt8)) :
  CT N l (i : Int) rec tab9 b = rec (b ++ ((if (Fi (l[i]!).1).2.2.2.1 ≥ 1 then [byteI (l[i]!).2.1] else []) ++ (if (Fi (l[i]!).1).2.2.2.1 = 2 then [byteI (l[i]!).2.2.1] else []))) ((i : Int) + 1) := by
 have h7 : ∀ b : List UInt8, b.length ≤ 1000000001 → CS N l (i : Int) rec tab9 b = rec (b ++ (if (Fi (l[i]!).1).2.2.2.1 = 2 then [byteI (l[i]!).2.2.1] else [])) ((i : Int) + 1) := by
  intro b hb
  unfold CS
  rw [Int.toNat_natCast]
  by_cases h : (Fi (l[i]!).1).2.2.2.1 = 2
  ·rw [if_pos (show ((tab9[((l[i]!).1).toNat]!).2.2.2.1 : Int) = 2 from h), if_pos h, AR _ (by omega), iR hN, Option.bind_some, AR _ (by simp; omega), AR _ (by omega)]
  ·rw [if_neg (show ¬ ((tab9[((l[i]!).1).toNat]!).2.2.2.1 : Int) = 2 from h), if_neg h, AR _ (by omega), List.append_nil]
 unfold CT
 rw [Int.toNat_natCast]
 by_cases h : (Fi (l[i]!).1).2.2.2.1 ≥ 1
 ·rw [if_pos (show ((tab9[((l[i]!).1).toNat]!).2.2.2.1 : Int) ≥ 1 from h), if_pos h, AR _ (by omega), iR hN, Option.bind_some, AR _ (by simp; omega), h7 _ (by simp; omega), List.append_assoc]
 ·rw [if_neg (show ¬ ((tab9[((l[i]!).1).toNat]!).2.2.2.1 : Int) ≥ 1 from h), if_neg h, h7 _ (by omega), List.nil_append]
theorem UW {N : Nat} (hN : 400 < N) (l : List I9) (hl : l.length ≤ 300) (hm : ∀ x ∈ l, Hv x = 0) : ∀ (k f i : Nat) (acc : List UInt8), i + k = l.length → k < f → acc.length ≤ 900000 + 20 * i →
  Bn N l f acc (i : Int) = some (acc ++ (l.drop i).flatMap QB) := by
 intro k
 induction k with
 | zero =>
  intro f i acc hi hf _
  obtain ⟨f, rfl⟩ : ∃ n, f = n + 1 := ⟨f - 1, by omega⟩
  rw [Bn, if_neg (by omega), List.drop_of_length_le (by omega), List.flatMap_nil, List.append_nil]
 | succ k ih =>
  intro f i acc hi hf ha
  obtain ⟨f, rfl⟩ : ∃ n, f = n + 1 := ⟨f - 1, by omega⟩
  have hx : Hv (l[i]!) = 0 := hm _ (by rw [get!_of_lt _ _ (by omega)]; exact List.getElem_mem _)
  obtain ⟨h0, h1⟩ := Vm hx
  have hlen := RS (l[i]!)
  have fin : ∀ b : List UInt8, b = acc ++ QB (l[i]!) → Bn N l f b ((i : Int) + 1) = some (acc ++ (l.drop i).flatMap QB) := by
   intro b hb
   rw [show (i : Int) + 1 = ((i + 1 : Nat) : Int) from by omega, ih f (i + 1) _ (by omega) (by omega) (by rw [hb, List.length_append]; omega), LN l i (by omega), List.flatMap_cons, hb, List.append_assoc]
  rw [Bn, if_pos (by omega), Zh, Option.bind_some, AR _ (by omega), Int.toNat_natCast, AR _ ⟨h0, by rw [Wm]; omega⟩, AR _ (by omega), iR hN, Option.bind_some, AR _ (by simp; omega)]
  by_cases hp : (l[i]!).1 = 0
  ·have hr := Wt ((l[i]!).2.2.2.1, (l[i]!).2.2.2.2)
   rw [if_pos (show (tab9[((l[i]!).1).toNat]!).1 = [112, 117, 115, 104] from (Rp h0 h1).2 hp), AR _ (by omega), show CO N (l[i]!).2.2.2.1 (l[i]!).2.2.2.2 = some (YA ((l[i]!).2.2.2.1, (l[i]!).2.2.2.2)) from ko N (by omega) _ _, Option.bind_some,
    AR _ (by rw [List.length_append, List.length_singleton]; omega), Zn hN l i (by omega) hl _ (by simp only [List.length_append, List.length_singleton]; omega)]
   refine fin _ ?_
   unfold QB
   rw [if_pos hp]; simp only [List.append_assoc, List.singleton_append, List.cons_append, List.nil_append]
  ·rw [if_neg (show ¬ (tab9[((l[i]!).1).toNat]!).1 = [112, 117, 115, 104] from fun e => hp ((Rp h0 h1).1 e)), Zn hN l i (by omega) hl _ (by simp only [List.length_append, List.length_singleton]; omega)]
   refine fin _ ?_
   unfold QB
   rw [if_neg hp]; simp only [List.append_assoc, List.singleton_append, List.nil_append, List.cons_append]
def codeB (l : List I9) : List UInt8 := byteI (l.length : Int) :: l.flatMap QB
theorem al {N : Nat} (hN : 400 < N) (l : List I9) (hl : l.length ≤ 300) (hm : ∀ x ∈ l, Hv x = 0) : CA N l = some (codeB l) := by
 unfold CA codeB
 have := UW hN l hl hm l.length N 0 [byteI (l.length : Int)] (by omega) (by omega) (by simp)
 rw [iR hN, Option.bind_some, show (0 : Int) = ((0 : Nat) : Int) from rfl, this]; rfl
def bj (N : Nat) (o : Int) (ns : List Int) : Option (List UInt8) := (Ae N [o]).bind fun r30 => (Ae N ns).bind fun r45 => ck (r30.length + r45.length ≤ 140737488355328) (some (r30 ++ r45))
theorem UL {N : Nat} (hN : 400 < N) (o : Int) (ns : List Int) (h : ns.length ≤ 300) : bj N o ns = some (byteI o :: ns.map byteI) := by
 unfold bj
 rw [UP hN _ (by simp), Option.bind_some, UP hN _ h, Option.bind_some, AR _ (by simp; omega)]; rfl
def jQ (k : Nat) (a b : Int) : List Int := if (tab9[k]!).2.2.2.1 ≥ 1 then (if (tab9[k]!).2.2.2.1 = 2 then [a, b] else [a]) else []
theorem ce (N : Nat) (a b w : Int) (x : BitVec 128) : ∀ k : Nat, k < 35 → 0 < k → Ca N (Ri (k : Int) a b w x) = bj N (k : Int) (jQ k a b)
 | 0, _, h => absurd h (by omega)
 | 1, _, _ => rfl
 | 2, _, _ => rfl
 | 3, _, _ => rfl
 | 4, _, _ => rfl
 | 5, _, _ => rfl
 | 6, _, _ => rfl
 | 7, _, _ => rfl
 | 8, _, _ => rfl
 | 9, _, _ => rfl
 | 10, _, _ => rfl
 | 11, _, _ => rfl
 | 12, _, _ => rfl
 | 13, _, _ => rfl
 | 14, _, _ => rfl
 | 15, _, _ => rfl
 | 16, _, _ => rfl
 | 17, _, _ => rfl
 | 18, _, _ => rfl
 | 19, _, _ => rfl
 | 20, _, _ => rfl
 | 21, _, _ => rfl
 | 22, _, _ => rfl
 | 23, _, _ => rfl
 | 24, _, _ => rfl
 | 25, _, _ => rfl
 | 26, _, _ => rfl
 | 27, _, _ => rfl
 | 28, _, _ => rfl
 | 29, _, _ => rfl
 | 30, _, _ => rfl
 | 31, _, _ => rfl
 | 32, _, _ => rfl
 | 33, _, _ => rfl
 | 34, _, _ => rfl
 | k + 35, h, _ => absurd h (by omega)
theorem iU : ∀ k : Nat, k < 35 → (tab9[k]!).2.2.2.1 ≤ 2 ∧ (k = 0 → (tab9[k]!).2.2.2.1 = 0) := by decide +kernel
theorem ZF {N : Nat} (hN : 400 < N) (x : I9) (hx : Hv x = 0) : Ca N (Iv x) = some (QB x) := by
 obtain ⟨h0, h1⟩ := Vm hx
 obtain ⟨o, a, b, w, v⟩ := x
 obtain ⟨k, hk, rfl⟩ := YE ⟨h0, h1⟩
 have hm := iU k hk
 show Ca N (Ri (k : Int) a b w v) = _
 unfold QB
 simp only [Wu]
 by_cases hk0 : k = 0
 ·subst hk0
  rw [if_pos (show (((0 : Nat) : Int)) = 0 from rfl), if_neg (by rw [hm.2 rfl]; decide), if_neg (by rw [hm.2 rfl]; decide)]
  show (Ae N [0]).bind (fun r30 => (Dx N r30 w v).bind fun r40 => some r40) = _
  rw [UP hN _ (by simp), Option.bind_some, kp N hN _ (by simp), Option.bind_some]
  simp
 ·rw [ce N a b w v k hk (by omega), if_neg (show ¬ ((k : Nat) : Int) = 0 by omega)]
  unfold jQ
  by_cases h1 : (tab9[k]!).2.2.2.1 ≥ 1
  ·by_cases h2 : (tab9[k]!).2.2.2.1 = 2
   ·simp only [if_pos h1, if_pos h2]; rw [UL hN _ _ (by simp)]; rfl
   ·simp only [if_pos h1, if_neg h2]; rw [UL hN _ _ (by simp)]; rfl
  ·have h2 : ¬ (tab9[k]!).2.2.2.1 = 2 := by omega
   simp only [if_neg h1, if_neg h2]; rw [UL hN _ _ (by simp)]; rfl
theorem ar {α : Type} [Inhabited α] (one : α → Option (List UInt8)) (g : α → List UInt8) (B : Nat) (l : List α) (hl : l.length ≤ 10000) (hB : B ≤ 50000) (ho : ∀ x ∈ l, one x = some (g x)) (hg : ∀ x ∈ l, (g x).length ≤ B) (L : Nat → List UInt8 → Int → Option (List UInt8))
  (hL : ∀ n acc i, L (n + 1) acc i = if i < (l.length : Int) then ck (0 ≤ i ∧ i < (l.length : Int)) ((one (l[i.toNat]!)).bind fun r => ck (acc.length + r.length ≤ 140737488355328) (ck (-9223372036854775808 ≤ (i + 1) ∧ (i + 1) ≤ 9223372036854775807) (L n (acc ++ r) (i + 1)))) else some acc) :
  ∀ (k f i : Nat) (acc : List UInt8), i + k = l.length → k < f → acc.length ≤ 1000 + B * i → L f acc (i : Int) = some (acc ++ (l.drop i).flatMap g) := by
 intro k
 induction k with
 | zero =>
  intro f i acc hi hf _
  obtain ⟨f, rfl⟩ : ∃ n, f = n + 1 := ⟨f - 1, by omega⟩
  rw [hL, if_neg (by omega), List.drop_of_length_le (by omega), List.flatMap_nil, List.append_nil]
 | succ k ih =>
  intro f i acc hi hf ha
  obtain ⟨f, rfl⟩ : ∃ n, f = n + 1 := ⟨f - 1, by omega⟩
  have hmem : l[i]! ∈ l := by rw [get!_of_lt _ _ (by omega)]; exact List.getElem_mem _
  have h1 := hg _ hmem
  have hBi : B * i ≤ 500000000 := Nat.le_trans (Nat.mul_le_mul hB (show i ≤ 10000 by omega)) (by decide)
  have hs : B * (i + 1) = B * i + B := Nat.mul_succ B i
  rw [hL, if_pos (by omega), AR _ (by omega), Int.toNat_natCast, ho _ hmem, Option.bind_some, AR _ (by omega), AR _ (by omega), show (i : Int) + 1 = ((i + 1 : Nat) : Int) from by omega,
   ih f (i + 1) _ (by omega) (by omega) (by rw [List.length_append]; omega), LN l i (by omega), List.flatMap_cons, List.append_assoc]
def bm (N : Nat) (s : Sum214) : List UInt8 := (Ca N s).getD []
theorem VJ {α β γ : Type} (f : α → β) (g : β → List γ) (l : List α) : (l.map f).flatMap g = l.flatMap fun x => g (f x) := by induction l with | nil => rfl | cons a l ih => rw [List.map_cons, List.flatMap_cons, List.flatMap_cons, ih]
theorem Xf {α β : Type} {f g : α → List β} {l : List α} (h : ∀ x ∈ l, f x = g x) : l.flatMap f = l.flatMap g := by
 induction l with
 | nil => rfl
 | cons a l ih => rw [List.flatMap_cons, List.flatMap_cons, h a (List.mem_cons_self ..), ih fun x hx => h x (List.mem_cons_of_mem _ hx)]
theorem UO {N : Nat} (hN : 400 < N) (x : I9) (hx : Hv x = 0) : bm N (Iv x) = QB x := by unfold bm; rw [ZF hN x hx]; rfl
theorem Zi {N : Nat} (hN : 400 < N) (l : List I9) (hl : l.length ≤ 64) (hm : ∀ x ∈ l, Hv x = 0) : BJ N (l.map Iv) = some (codeB l) := by
 unfold BJ codeB
 have := ar (Ca N) (bm N) 20 (l.map Iv) (by rw [List.length_map]; omega) (by decide) (fun s hs => by obtain ⟨x, hx, rfl⟩ := List.mem_map.1 hs; rw [UO hN x (hm x hx), ZF hN x (hm x hx)])
  (fun s hs => by obtain ⟨x, hx, rfl⟩ := List.mem_map.1 hs; rw [UO hN x (hm x hx)]; exact RS x) (Bu N (l.map Iv)) (fun n acc i => by rw [Bu]) (l.map Iv).length N 0 [byteI (l.length : Int)] (by omega) (by rw [List.length_map]; omega) (by simp)
 rw [UP hN _ (by simp), Option.bind_some, List.length_map, show (0 : Int) = ((0 : Nat) : Int) from rfl]
 show Bu N (l.map Iv) N [byteI (l.length : Int)] ((0 : Nat) : Int) = _
 rw [this, List.drop_zero, VJ, Xf fun x hx => UO hN x (hm x hx)]; rfl
def okB (l : List I9) : Bool := decide (l.length ≤ 64) && l.all fun x => decide (Hv x = 0)
theorem ZT : ∀ (l : List I9) (i : Nat) (d : Int × Int), (¬ ∀ x ∈ l, Hv x = 0) → (Uh i l d).2 ≠ 0
 | [], _, _, h => absurd (fun x hx => absurd hx (by simp)) h
 | x :: r, i, d, h => by
  rw [Uh]
  by_cases hx : Hv x = 0
  ·rw [if_neg (by rw [hx]; decide)]
   exact ZT r (i + 1) d fun hr => h fun y hy => by
    rcases List.mem_cons.1 hy with rfl | hy
    ·exact hx
    ·exact hr y hy
  ·rw [if_pos hx]; exact hx
theorem OJ (l : List I9) : okB l = true ↔ l.length ≤ 64 ∧ ∀ x ∈ l, Hv x = 0 := by
 unfold okB; rw [Bool.and_eq_true, List.all_eq_true]; simp only [decide_eq_true_eq]
theorem lk {l : List I9} (h : okB l = true) : (Wc l).1 = l.map Iv := by
 obtain ⟨h1, h2⟩ := (OJ l).1 h
 unfold Wc QS
 rw [List.take_of_length_le h1, Po _ _ _ h2]
 show (if (if l.length > 64 then (2 : Int) else 0) = 0 then l.map Iv else []) = _
 rw [if_neg (show ¬ l.length > 64 by omega), if_pos rfl]
theorem jI {l : List I9} (h : okB l = false) : (Wc l).1 = [] := by
 have h' : ¬ (l.length ≤ 64 ∧ ∀ x ∈ l, Hv x = 0) := fun e => by rw [(OJ l).2 e] at h; cases h
 have h2 : (QS l).2 ≠ 0 := by
  unfold QS
  by_cases ht : ∀ x ∈ l.take 64, Hv x = 0
  ·rw [Po _ _ _ ht]
   show (if l.length > 64 then (2 : Int) else 0) ≠ 0
   have : l.length > 64 := by
    rcases Nat.lt_or_ge 64 l.length with hl | hl
    ·exact hl
    ·exact absurd ⟨hl, by rw [List.take_of_length_le hl] at ht; exact ht⟩ h'
   rw [if_pos this]; decide
  ·exact ZT _ _ _ ht
 unfold Wc; rw [if_neg h2]
def NR (l : List I9) : List UInt8 := if okB l = true then codeB l else [0]
theorem cd {N : Nat} (hN : 400 < N) (l : List I9) (hl : l.length ≤ 1000) : Bm N l = some (NR l) := by
 unfold Bm NR
 rw [mh (by omega) l hl, Option.bind_some]
 cases h : okB l
 ·rw [jI h]
  have : BJ N [] = some [0] := Zi hN [] (by decide) (fun x hx => by simp at hx)
  rw [this]; rfl
 ·obtain ⟨h1, h2⟩ := (OJ l).1 h
  rw [lk h, Zi hN l h1 h2]; rfl
theorem UE (l : List I9) : (NR l).length ≤ 1300 := by
 unfold NR
 split
 ·rename_i h
  obtain ⟨h1, _⟩ := (OJ l).1 h
  have : ∀ l : List I9, (l.flatMap QB).length ≤ 20 * l.length := by
   intro l
   induction l with
   | nil => simp
   | cons x l ih => have := RS x; rw [List.flatMap_cons, List.length_append, List.length_cons]; omega
  have := this l
  unfold codeB; rw [List.length_cons]; omega
 ·simp
theorem iI {N : Nat} (hN : 400 < N) (b : List UInt8) (hb : b.length ≤ 100000) (l : List I9) (hl : l.length ≤ 1000) : Hu N b l = some (b ++ NR l) := by
 unfold Hu
 have := UE l
 rw [cd hN l hl, Option.bind_some, cA N [b, NR l] (by simp) (by simp; omega) (by simp; omega), Option.bind_some]
 simp
end Go.Proofs.YthafnifhhblkbaaGreatDoor
