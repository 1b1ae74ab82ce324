import Derived.Test.YthafnifhhblkbaaGreatDoorWa
import Derived.Test.YthafnifhhblkbaaGreatDoorBj
namespace Go.Proofs.YthafnifhhblkbaaGreatDoor
open Go Go.RowKit Go.Eng
theorem WD (n : Int) (size : Nat) (hs : size = 1 ∨ size = 2 ∨ size = 4) : (TF n size).length = size := by rcases hs with rfl | rfl | rfl <;> rfl
def bE (w : Int) (x : BitVec 128) : List Bool := List.replicate ((8 - w.toNat % 8) % 8) false ++ OZ w x
theorem Wz (w : Int) (x : BitVec 128) : (bE w x).length = 8 * ((w.toNat + 7) / 8) := by
 unfold bE
 rw [List.length_append, List.length_replicate, Nz]; omega
theorem ba (w : Int) (x : BitVec 128) : (bc w x).length = 1 + (w.toNat + 7) / 8 := by
 show (byteI w :: Iq (bE w x)).length = _
 rw [List.length_cons, Ho, Wz]; omega
end Go.Proofs.YthafnifhhblkbaaGreatDoor
namespace Go.Proofs.YthafnifhhblkbaaGreatDoor
open Go Go.RowKit Go.Eng
theorem ip (x : BitVec 128) (n j : Nat) : (Eg x (-(n : Int))).getLsbD j = x.getLsbD (n + j) := by
 rw [← Qc (by omega), Int.toNat_natCast, BitVec.getLsbD_ushiftRight]
theorem jF (z : BitVec 64) (t : Nat) (ht : t < 8) : (LS z).toNat.testBit t = z.getLsbD t := by
 unfold LS
 rw [UInt8.toNat_ofNat', Nat.testBit_mod_two_pow, decide_eq_true ht, Bool.true_and]; rfl
theorem ja (x : BitVec 128) (t : Nat) (ht : t < 64) : (lo x).getLsbD t = x.getLsbD t := by
 unfold lo; rw [BitVec.getLsbD_extractLsb', decide_eq_true ht, Nat.zero_add, Bool.true_and]
def NJ (x : BitVec 128) (c : Nat) : List UInt8 := (List.range c).map fun i => LS (lo (Eg x (-((8 * (c - 1 - i) : Nat) : Int))))
theorem Jm (x : BitVec 128) (c : Nat) : (NJ x c).length = c := by simp [NJ]
theorem WG (x : BitVec 128) (c i : Nat) (h : i < (NJ x c).length) : (NJ x c)[i] = LS (lo (Eg x (-((8 * (c - 1 - i) : Nat) : Int)))) := by simp [NJ]
theorem WH (x : BitVec 128) (c k : Nat) (h : k < 8 * c) : Pn (NJ x c) k = x.getLsbD (8 * c - 1 - k) := by
 unfold Pn
 have hk : k / 8 < (NJ x c).length := by rw [Jm]; omega
 rw [get!_of_lt _ _ hk, WG x c (k / 8) hk, jF _ _ (by omega), ja _ _ (by omega), ip]
 congr 1; omega
theorem bV (x : BitVec 128) (c : Nat) (hc : c ≤ 16) (b : List UInt8) (hb : b.length ≤ 2000000000) : ∀ (k f i : Nat), i + k = c → k < f → CB x (c : Int) f (b ++ (NJ x c).take i) (i : Int) = some (b ++ NJ x c) := by
 intro k
 induction k with
 | zero =>
  intro f i hi hf
  obtain ⟨f, rfl⟩ : ∃ n, f = n + 1 := ⟨f - 1, by omega⟩
  rw [CB, if_neg (by omega), List.take_of_length_le (by rw [Jm]; omega)]
 | succ k ih =>
  intro f i hi hf
  obtain ⟨f, rfl⟩ : ∃ n, f = n + 1 := ⟨f - 1, by omega⟩
  have e : (8 * (((c : Int) - 1) - (i : Int))) = ((8 * (c - 1 - i) : Nat) : Int) := by omega
  have hk : i < (NJ x c).length := by rw [Jm]; omega
  have et : (NJ x c).take i ++ [LS (lo (Eg x (-((8 * (c - 1 - i) : Nat) : Int))))] = (NJ x c).take (i + 1) := by
   rw [List.take_add_one, List.getElem?_eq_getElem hk, WG x c i hk]; rfl
  have hl : ((NJ x c).take i).length ≤ 16 := by rw [List.length_take, Jm]; omega
  rw [CB, if_pos (by omega), AR _ (by omega), AR _ (by omega), AR _ (by omega), AR _ (by omega), AR _ (by simp only [List.length_append, List.length_singleton]; omega), AR _ (by omega), e, List.append_assoc, et, show (i : Int) + 1 = ((i + 1 : Nat) : Int) from by omega]
  exact ih f (i + 1) (by omega) (by omega)
theorem jR (N : Nat) (hN : 16 < N) (b : List UInt8) (hb : b.length ≤ 2000000000) (x : BitVec 128) (c : Nat) (hc : c ≤ 16) : CR N b x (c : Int) = some (b ++ NJ x c) := by
 unfold CR
 have := bV x c hc b hb c N 0 (by omega) (by omega)
 rw [List.take_zero, List.append_nil] at this
 exact this
theorem bN (n : Int) (size : Nat) (hs : size = 1 ∨ size = 2 ∨ size = 4) (k : Nat) (hk : k < 8 * size) : Pn (TF n size) k = ((0#64) ++ (BitVec.ofInt 64 n)).getLsbD (8 * size - 1 - k) := by
 have hlt : ((GC 64 ((0#64) ++ (BitVec.ofInt 64 n))).take (8 * size)).length = 8 * size := by rw [List.length_take, DP]; omega
 have hl : (((GC 64 ((0#64) ++ (BitVec.ofInt 64 n))).take (8 * size)).reverse).length = 8 * size := by rw [List.length_reverse, hlt]
 rw [← Ut n size hs, Oo _ _ (by rw [Ho, hl]; omega)]
 rw [UT _ _ (by rw [hlt]; exact hk), hlt, get!_of_lt _ _ (by rw [hlt]; omega), List.getElem_take]
 have h2 := PU 64 ((0#64) ++ (BitVec.ofInt 64 n)) (8 * size - 1 - k)
 rw [get!_of_lt _ _ (by rw [DP]; omega)] at h2
 rw [h2, decide_eq_true (by omega), Bool.true_and]
theorem iZ (n : Int) (size : Nat) (hs : size = 1 ∨ size = 2 ∨ size = 4) : NJ ((0#64) ++ (BitVec.ofInt 64 n)) size = TF n size :=
 PT (by rw [Jm, WD n size hs]) (fun k hk => by rw [Jm] at hk; rw [WH _ _ _ hk, bN n size hs k hk])
theorem WC (N : Nat) (hN : 16 < N) (b : List UInt8) (hb : b.length ≤ 2000000000) (n : Int) (c : Nat) (hc : c = 1 ∨ c = 2 ∨ c = 4) : Ax N b n (c : Int) = some (b ++ TF n c) := by
 unfold Ax
 rw [jR N hN b hb _ c (by omega), Option.bind_some, iZ n c hc]
theorem Us (N : Nat) (hN : 16 < N) (b : List UInt8) (hb : b.length ≤ 2000000000) (n : Int) : Ax N b n 1 = some (b ++ [byteI n]) := WC N hN b hb n 1 (.inl rfl)
theorem lX (N : Nat) (b : List UInt8) (hb : b.length ≤ 2000000000) : Av N b = some b := by
 unfold Av
 rw [AR _ (by simp only [List.length_nil]; omega), List.nil_append]
theorem iY {w : Int} {x : BitVec 128} (h : MU w x = true) : NJ x ((w.toNat + 7) / 8) = Iq (bE w x) := by
 obtain ⟨h1, h2, _⟩ := WF h
 have hl := Wz w x
 refine PT (by rw [Jm, Ho, hl]; omega) (fun k hk => ?_)
 rw [Jm] at hk
 rw [WH _ _ _ hk, Oo _ _ (by rw [Ho, hl]; omega)]
 unfold bE
 by_cases hp : k < (8 - w.toNat % 8) % 8
 ·rw [get!_of_lt _ _ (by rw [List.length_append, List.length_replicate]; omega), List.getElem_append_left (by rw [List.length_replicate]; exact hp), List.getElem_replicate]
  exact iT h _ (by omega)
 ·rw [get!_of_lt _ _ (by rw [List.length_append, List.length_replicate, Nz]; omega), List.getElem_append_right (by rw [List.length_replicate]; omega)]
  have := ay w x (k - (8 - w.toNat % 8) % 8) (by omega)
  rw [get!_of_lt _ _ (by rw [Nz]; omega)] at this
  simp only [List.length_replicate]
  rw [this]; congr 1; omega
def YA (p : Int × BitVec 128) : List UInt8 := if MU p.1 p.2 = true then bc p.1 p.2 else [0]
theorem Wt (p : Int × BitVec 128) : (YA p).length ≤ 17 := by
 unfold YA
 split
 ·rename_i h
  obtain ⟨h1, h2, _⟩ := WF h
  rw [ba]; omega
 ·decide
theorem lc (N w : Nat) (h : w ≤ 300) : EB N (w : Int) = some (((w + 7) / 8 : Nat) : Int) := by
 unfold EB
 rw [AR _ (by omega), AR _ (by omega), AR _ (by omega)]; congr 1; omega
theorem ly (N : Nat) (hN : 16 < N) (b : List UInt8) (hb : b.length ≤ 1000000000) (w : Int) (x : BitVec 128) : DW N b w x = some (b ++ YA (w, x)) := by
 unfold DW YA
 rw [aZ, Option.bind_some]
 by_cases h : MU w x = true
 ·obtain ⟨h1, h2, _⟩ := WF h
  obtain ⟨n, rfl⟩ : ∃ n : Nat, w = (n : Int) := ⟨w.toNat, by omega⟩
  have e2 : ES N (n : Int) x = some x := rfl
  have e3 := iY h
  rw [Int.toNat_natCast] at e3
  rw [if_pos h, if_pos h, Us N hN b (by omega), Option.bind_some, e2, Option.bind_some, lc N n (by omega), Option.bind_some, jR N hN _ (by rw [List.length_append, List.length_singleton]; omega) x ((n + 7) / 8) (by omega), Option.bind_some, List.append_assoc, e3]; rfl
 ·rw [if_neg h, if_neg h, Us N hN b (by omega)]; rfl
theorem LN {α : Type} [Inhabited α] (l : List α) (i : Nat) (h : i < l.length) : l.drop i = l[i]! :: l.drop (i + 1) := by
 rw [List.drop_eq_getElem_cons h, get!_of_lt _ _ h]
section
variable (N : Nat) (hN : 400 < N) (b : List UInt8) (hb : b.length ≤ 100000000)
include hN hb
theorem il (n : Int) : Hp N b n = some (b ++ TF n 1) := by
 unfold Hp
 rw [lX N b (by omega), Option.bind_some, show Ax N b n 1 = some (b ++ TF n 1) from WC N (by omega) b (by omega) n 1 (.inl rfl)]; rfl
theorem kp (w : Int) (x : BitVec 128) : Dx N b w x = some (b ++ YA (w, x)) := by
 unfold Dx
 rw [lX N b (by omega), Option.bind_some, ly N (by omega) b (by omega)]; rfl
end
end Go.Proofs.YthafnifhhblkbaaGreatDoor
