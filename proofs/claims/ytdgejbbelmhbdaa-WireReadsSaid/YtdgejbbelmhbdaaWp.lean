/- Layer 7: what the program's writers answer. Conditions: those written (lengths, fuel). -/
import Derived.Test.YtdgejbbelmhbdaaWb
import Derived.Test.YtdgejbbelmhbdaaRn
import Derived.Test.YtdgejbbelmhbdaaBf
namespace Go.Proofs.Ytdgejbbelmhbdaa
open Go Go.RowKit Go.Eng
theorem shd_bit (x : BitVec 128) (n j : Nat) : (shiftI x (-(n : Int))).getLsbD j = x.getLsbD (n + j) := by
  rw [← shiftI_down (by omega), Int.toNat_natCast, BitVec.getLsbD_ushiftRight]
theorem byU_bit (z : BitVec 64) (t : Nat) (ht : t < 8) : (byteU z).toNat.testBit t = z.getLsbD t := by
  unfold byteU
  rw [UInt8.toNat_ofNat', Nat.testBit_mod_two_pow, decide_eq_true ht, Bool.true_and]; rfl
theorem loX_bit (x : BitVec 128) (t : Nat) (ht : t < 64) : (lo x).getLsbD t = x.getLsbD t := by
  unfold lo; rw [BitVec.getLsbD_extractLsb', decide_eq_true ht, Nat.zero_add, Bool.true_and]
/-- the lowest bytes of a word, the highest first -/
def lowB (x : BitVec 128) (c : Nat) : List UInt8 := (List.range c).map fun i => byteU (lo (shiftI x (-((8 * (c - 1 - i) : Nat) : Int))))
theorem lowB_len (x : BitVec 128) (c : Nat) : (lowB x c).length = c := by simp [lowB]
theorem lowB_get (x : BitVec 128) (c i : Nat) (h : i < (lowB x c).length) : (lowB x c)[i] = byteU (lo (shiftI x (-((8 * (c - 1 - i) : Nat) : Int)))) := by simp [lowB]
theorem lowB_bit (x : BitVec 128) (c k : Nat) (h : k < 8 * c) : bitAt (lowB x c) k = x.getLsbD (8 * c - 1 - k) := by
  unfold bitAt
  have hk : k / 8 < (lowB x c).length := by rw [lowB_len]; omega
  rw [get!_of_lt _ _ hk, lowB_get x c (k / 8) hk, byU_bit _ _ (by omega), loX_bit _ _ (by omega), shd_bit]
  congr 1; omega
theorem low_loop (x : BitVec 128) (c : Nat) (hc : c ≤ 16) (b : List UInt8) (hb : b.length ≤ 2000000000) : ∀ (k f i : Nat), i + k = c → k < f → wire_lowest_v1_l3 x (c : Int) f (b ++ (lowB x c).take i) (i : Int) = some (b ++ lowB x c) := by
  intro k
  induction k with
  | zero =>
    intro f i hi hf
    obtain ⟨f, rfl⟩ : ∃ n, f = n + 1 := ⟨f - 1, by omega⟩
    rw [wire_lowest_v1_l3, if_neg (by omega), List.take_of_length_le (by rw [lowB_len]; omega)]
  | succ k ih =>
    intro f i hi hf
    obtain ⟨f, rfl⟩ : ∃ n, f = n + 1 := ⟨f - 1, by omega⟩
    have e : (8 * (((c : Int) - 1) - (i : Int))) = ((8 * (c - 1 - i) : Nat) : Int) := by omega
    have hk : i < (lowB x c).length := by rw [lowB_len]; omega
    have et : (lowB x c).take i ++ [byteU (lo (shiftI x (-((8 * (c - 1 - i) : Nat) : Int))))] = (lowB x c).take (i + 1) := by
      rw [List.take_add_one, List.getElem?_eq_getElem hk, lowB_get x c i hk]; rfl
    have hl : ((lowB x c).take i).length ≤ 16 := by rw [List.length_take, lowB_len]; omega
    rw [wire_lowest_v1_l3, if_pos (by omega), ck_pos _ (by omega), ck_pos _ (by omega), ck_pos _ (by omega), ck_pos _ (by omega), ck_pos _ (by simp only [List.length_append, List.length_singleton]; omega), ck_pos _ (by omega), e, List.append_assoc, et, show (i : Int) + 1 = ((i + 1 : Nat) : Int) from by omega]
    exact ih f (i + 1) (by omega) (by omega)
theorem low_s (N : Nat) (hN : 16 < N) (b : List UInt8) (hb : b.length ≤ 2000000000) (x : BitVec 128) (c : Nat) (hc : c ≤ 16) : wire_lowest_v1_m N b x (c : Int) = some (b ++ lowB x c) := by
  unfold wire_lowest_v1_m
  have := low_loop x c hc b hb c N 0 (by omega) (by omega)
  rw [List.take_zero, List.append_nil] at this
  exact this
theorem numB_bit (n : Int) (size : Nat) (hs : size = 1 ∨ size = 2 ∨ size = 4) (k : Nat) (hk : k < 8 * size) : bitAt (numB n size) k = ((0#64) ++ (BitVec.ofInt 64 n)).getLsbD (8 * size - 1 - k) := by
  have hlt : ((bitsL 64 ((0#64) ++ (BitVec.ofInt 64 n))).take (8 * size)).length = 8 * size := by rw [List.length_take, bitsL_len]; omega
  have hl : (((bitsL 64 ((0#64) ++ (BitVec.ofInt 64 n))).take (8 * size)).reverse).length = 8 * size := by rw [List.length_reverse, hlt]
  rw [← num_bytes n size hs, bytesL_bit _ _ (by rw [bytesL_len, hl]; omega)]
  rw [rev_get _ _ (by rw [hlt]; exact hk), hlt, get!_of_lt _ _ (by rw [hlt]; omega), List.getElem_take]
  have h2 := bitsL_get 64 ((0#64) ++ (BitVec.ofInt 64 n)) (8 * size - 1 - k)
  rw [get!_of_lt _ _ (by rw [bitsL_len]; omega)] at h2
  rw [h2, decide_eq_true (by omega), Bool.true_and]
theorem low_num (n : Int) (size : Nat) (hs : size = 1 ∨ size = 2 ∨ size = 4) : lowB ((0#64) ++ (BitVec.ofInt 64 n)) size = numB n size :=
  bytes_ext (by rw [lowB_len, numB_len n size hs]) (fun k hk => by rw [lowB_len] at hk; rw [lowB_bit _ _ _ hk, numB_bit n size hs k hk])
theorem number_s (N : Nat) (hN : 16 < N) (b : List UInt8) (hb : b.length ≤ 2000000000) (n : Int) (c : Nat) (hc : c = 1 ∨ c = 2 ∨ c = 4) : wire_number_v1_m N b n (c : Int) = some (b ++ numB n c) := by
  unfold wire_number_v1_m
  rw [low_s N hN b hb _ c (by omega), Option.bind_some, low_num n c hc]
theorem number1_s (N : Nat) (hN : 16 < N) (b : List UInt8) (hb : b.length ≤ 2000000000) (n : Int) : wire_number_v1_m N b n 1 = some (b ++ [byteI n]) := number_s N hN b hb n 1 (.inl rfl)
theorem cl_s (N : Nat) (b : List UInt8) (hb : b.length ≤ 2000000000) : slices_Clone___byte_byte__m N b = some b := by
  unfold slices_Clone___byte_byte__m
  rw [ck_pos _ (by simp only [List.length_nil]; omega), List.nil_append]
theorem new_s (N : Nat) (w : Int) (a b : BitVec 64) : vec_New_m N w a b = some (if 1 ≤ w ∧ w ≤ 128 then (if mayB w (a ++ b) = true then (w, a ++ b, 0) else (0, 0#128, 7)) else (0, 0#128, 9)) := by
  unfold vec_New_m
  rw [width_s, Option.bind_some]
  by_cases h : 1 ≤ w ∧ w ≤ 128
  · rw [decide_eq_true h, if_pos rfl, if_pos h, vmay_s, Option.bind_some]
    by_cases h2 : mayB w (a ++ b) = true
    · rw [if_pos h2, if_pos h2]
    · rw [if_neg h2, if_neg h2]; rfl
  · rw [decide_eq_false h, if_neg (by decide), if_neg h]; rfl
theorem low_row {w : Int} {x : BitVec 128} (h : mayB w x = true) : lowB x ((w.toNat + 7) / 8) = bytesL (padB w x) := by
  obtain ⟨h1, h2, _⟩ := may_w h
  have hl := padB_len w x
  refine bytes_ext (by rw [lowB_len, bytesL_len, hl]; omega) (fun k hk => ?_)
  rw [lowB_len] at hk
  rw [lowB_bit _ _ _ hk, bytesL_bit _ _ (by rw [bytesL_len, hl]; omega)]
  unfold padB
  by_cases hp : k < (8 - w.toNat % 8) % 8
  · rw [get!_of_lt _ _ (by rw [List.length_append, List.length_replicate]; omega), List.getElem_append_left (by rw [List.length_replicate]; exact hp), List.getElem_replicate]
    exact may_bit h _ (by omega)
  · rw [get!_of_lt _ _ (by rw [List.length_append, List.length_replicate, highB_len]; omega), List.getElem_append_right (by rw [List.length_replicate]; omega)]
    have := highB_get w x (k - (8 - w.toNat % 8) % 8) (by omega)
    rw [get!_of_lt _ _ (by rw [highB_len]; omega)] at this
    simp only [List.length_replicate]
    rw [this]; congr 1; omega
def rowB (p : Int × BitVec 128) : List UInt8 := if mayB p.1 p.2 = true then vecB p.1 p.2 else [0]
theorem hold_s (N w : Nat) (h : w ≤ 300) : wire_holding_m N (w : Int) = some (((w + 7) / 8 : Nat) : Int) := by
  unfold wire_holding_m
  rw [ck_pos _ (by omega), ck_pos _ (by omega), ck_pos _ (by omega)]; congr 1; omega
theorem row_s (N : Nat) (hN : 16 < N) (b : List UInt8) (hb : b.length ≤ 1000000000) (w : Int) (x : BitVec 128) : wire_row_v1_m N b w x = some (b ++ rowB (w, x)) := by
  unfold wire_row_v1_m rowB
  rw [vmay_s, Option.bind_some]
  by_cases h : mayB w x = true
  · obtain ⟨h1, h2, _⟩ := may_w h
    obtain ⟨n, rfl⟩ : ∃ n : Nat, w = (n : Int) := ⟨w.toNat, by omega⟩
    have e2 : vec_Word_m N (n : Int) x = some x := rfl
    have e3 := low_row h
    rw [Int.toNat_natCast] at e3
    rw [if_pos h, if_pos h, number1_s N hN b (by omega), Option.bind_some, e2, Option.bind_some, hold_s N n (by omega), Option.bind_some, low_s N hN _ (by rw [List.length_append, List.length_singleton]; omega) x ((n + 7) / 8) (by omega), Option.bind_some, List.append_assoc, e3]; rfl
  · rw [if_neg h, if_neg h, number1_s N hN b (by omega)]; rfl
theorem drop_get {α : Type} [Inhabited α] (l : List α) (i : Nat) (h : i < l.length) : l.drop i = l[i]! :: l.drop (i + 1) := by
  rw [List.drop_eq_getElem_cons h, get!_of_lt _ _ h]
section
variable (N : Nat) (hN : 400 < N) (b : List UInt8) (hb : b.length ≤ 100000000)
include hN hb
theorem wVec_s (w : Int) (x : BitVec 128) : wire_Vec_m N b w x = some (b ++ rowB (w, x)) := by
  unfold wire_Vec_m
  rw [cl_s N b (by omega), Option.bind_some, row_s N (by omega) b (by omega)]; rfl
end
theorem lives_s (N : Nat) (hN : 400 < N) : shunterlaw07_lives_m N = some true := by
  unfold shunterlaw07_lives_m
  rw [wVec_s N hN [] (by decide) 12 _, Option.bind_some, List.nil_append]
  have : rowB (12, (0#64) ++ (2748#64)) = [12, 10, 188] := by decide +kernel
  rw [this]; rfl
end Go.Proofs.Ytdgejbbelmhbdaa
