/- Rows of 64 truths (sets) as arrays: what the walks need. Conditions: none. -/
import Derived.Test.YtnpbpllibmcokaaRm
import Derived.Test.YtnpbpllibmcokaaSl
namespace Go.Eng
open Go Go.RowKit
def setRL (x : BitVec 64) : List Value := [.bool (x.getLsbD 0), .bool (x.getLsbD 1), .bool (x.getLsbD 2), .bool (x.getLsbD 3), .bool (x.getLsbD 4), .bool (x.getLsbD 5), .bool (x.getLsbD 6), .bool (x.getLsbD 7), .bool (x.getLsbD 8), .bool (x.getLsbD 9), .bool (x.getLsbD 10), .bool (x.getLsbD 11), .bool (x.getLsbD 12), .bool (x.getLsbD 13), .bool (x.getLsbD 14), .bool (x.getLsbD 15), .bool (x.getLsbD 16), .bool (x.getLsbD 17), .bool (x.getLsbD 18), .bool (x.getLsbD 19), .bool (x.getLsbD 20), .bool (x.getLsbD 21), .bool (x.getLsbD 22), .bool (x.getLsbD 23), .bool (x.getLsbD 24), .bool (x.getLsbD 25), .bool (x.getLsbD 26), .bool (x.getLsbD 27), .bool (x.getLsbD 28), .bool (x.getLsbD 29), .bool (x.getLsbD 30), .bool (x.getLsbD 31), .bool (x.getLsbD 32), .bool (x.getLsbD 33), .bool (x.getLsbD 34), .bool (x.getLsbD 35), .bool (x.getLsbD 36), .bool (x.getLsbD 37), .bool (x.getLsbD 38), .bool (x.getLsbD 39), .bool (x.getLsbD 40), .bool (x.getLsbD 41), .bool (x.getLsbD 42), .bool (x.getLsbD 43), .bool (x.getLsbD 44), .bool (x.getLsbD 45), .bool (x.getLsbD 46), .bool (x.getLsbD 47), .bool (x.getLsbD 48), .bool (x.getLsbD 49), .bool (x.getLsbD 50), .bool (x.getLsbD 51), .bool (x.getLsbD 52), .bool (x.getLsbD 53), .bool (x.getLsbD 54), .bool (x.getLsbD 55), .bool (x.getLsbD 56), .bool (x.getLsbD 57), .bool (x.getLsbD 58), .bool (x.getLsbD 59), .bool (x.getLsbD 60), .bool (x.getLsbD 61), .bool (x.getLsbD 62), .bool (x.getLsbD 63)]
abbrev setR (x : BitVec 64) : Array Value := ⟨setRL x⟩
theorem setRL_eq (x : BitVec 64) : setRL x = (List.range 64).map fun i => .bool (x.getLsbD i) := by kernel_rfl
theorem setRL_len (x : BitVec 64) : (setRL x).length = 64 := by rw [setRL_eq]; simp
theorem setRL_get (x : BitVec 64) {k : Nat} (h : k < 64) : (setRL x)[k]? = some (.bool (x.getLsbD k)) := by
  rw [setRL_eq]; simp [h]
theorem setRL_one (x : BitVec 64) : ∀ v ∈ setRL x, v.oneCell' = true := by
  rw [setRL_eq]; intro v h
  obtain ⟨i, _, rfl⟩ := List.mem_map.1 h
  rfl
def put64 (x : BitVec 64) (k : Nat) (b : Bool) : BitVec 64 := if b then x ||| BitVec.twoPow 64 k else x &&& ~~~(BitVec.twoPow 64 k)
theorem put64_get (x : BitVec 64) (k : Nat) (b : Bool) (j : Nat) (hk : k < 64) : (put64 x k b).getLsbD j = if j = k then b else x.getLsbD j := by
  unfold put64
  cases b
  · simp only [Bool.false_eq_true, if_false, BitVec.getLsbD_and, BitVec.getLsbD_not, BitVec.getLsbD_twoPow]
    by_cases hj : j = k
    · subst hj; simp [hk]
    · rw [if_neg hj]
      by_cases h6 : j < 64
      · simp [h6, show ¬ k = j from fun h => hj h.symm]
      · simp [h6, BitVec.getLsbD_of_ge x j (by omega)]
  · simp only [if_true, BitVec.getLsbD_or, BitVec.getLsbD_twoPow]
    by_cases hj : j = k
    · subst hj; simp [hk]
    · rw [if_neg hj]
      have : decide (k = j) = false := by simp; exact fun h => hj h.symm
      simp [this]
theorem splice_set (x : BitVec 64) (k : Nat) (b : Bool) (hk : k < 64) : splice (setR x) k #[.bool b] = setR (put64 x k b) := by
  unfold splice
  have hz : (setR x).size = 64 := setRL_len x
  rw [if_neg (by rw [hz]; simp), if_pos (by simp)]
  show (setR x).setIfInBounds k (.bool b) = _
  apply Array.ext'
  show ((setR x).setIfInBounds k (.bool b)).toList = setRL (put64 x k b)
  rw [Array.toList_setIfInBounds]
  show (setRL x).set k (.bool b) = _
  apply List.ext_getElem?
  intro j
  rw [List.getElem?_set, setRL_len]
  by_cases h6 : j < 64
  · rw [setRL_get _ h6, setRL_get _ h6, put64_get x k b j hk]
    by_cases hj : k = j
    · subst hj; rw [if_pos rfl, if_pos h6, if_pos rfl]
    · rw [if_neg hj, if_neg (fun h => hj h.symm)]
  · rw [List.getElem?_eq_none (by rw [setRL_len]; omega), List.getElem?_eq_none (by rw [setRL_len]; omega), if_neg (by omega)]
theorem stok_set {P : Program} {e : TypeId} {i : TypeInfo} (hi : P.info? e = some i) (hs : i.size = 1) (x : BitVec 64) {k : Nat} (b : Bool) (hk : k < 64) : StOk P e (setR x) k #[.bool b] :=
  ⟨⟨i, hi, by rw [hs]; rfl⟩, by show k + 1 ≤ (setRL x).length; rw [setRL_len]; exact hk, fun x hx => by simp at hx; subst hx; rfl⟩
theorem ld_set {P : Program} {e : TypeId} (hu : P.underlying e = some .bool) (x : BitVec 64) {k : Nat} (hk : k < 64) : ldCells P e (setR x) k = some (.bool (x.getLsbD k)) := by
  unfold ldCells; rw [hu]; exact (show (setR x)[k]? = some (.bool (x.getLsbD k)) by rw [← Array.getElem?_toList]; exact setRL_get x hk)
def encBS : Enc (BitVec 64) := ⟨setRL, 64, by decide, setRL_len, fun x v h => setRL_one x v h, True⟩
theorem ld_setp {P : Program} {e n el : TypeId} {i : TypeInfo} (pre post : List Value) (x : BitVec 64) {off : Nat} (hu : P.underlying e = some (.array n el)) (hi : P.info? e = some i) (hs : i.size = 64) (ho : pre.length = off) (hp : post = [] → pre ≠ []) : ldCells P e ⟨pre ++ (setRL x ++ post)⟩ off = some (.agg (setR x)) := by
  unfold ldCells; rw [hu, hi]
  have hz : (⟨pre ++ (setRL x ++ post)⟩ : Array Value).size = off + (64 + post.length) := by
    show (pre ++ (setRL x ++ post)).length = _
    simp only [List.length_append, setRL_len, ho]
  simp only [hs, hz]
  rw [if_neg (fun h => by
    obtain ⟨h1, h2⟩ := h
    cases post with
    | nil => exact hp rfl (List.eq_nil_of_length_eq_zero (by omega))
    | cons a l => simp only [List.length_cons] at h2; omega), if_pos (by omega)]
  congr 2
  apply Array.ext'
  rw [Array.toList_extract]
  show List.extract (pre ++ (setRL x ++ post)) off (off + 64) = setRL x
  rw [List.extract_eq_take_drop, Nat.add_sub_cancel_left, ← ho, List.drop_left]
  rw [← setRL_len x, List.take_left]
theorem ld_setp0 {P : Program} {e n el : TypeId} {i : TypeInfo} (pre : List Value) (x : BitVec 64) {off : Nat} (hu : P.underlying e = some (.array n el)) (hi : P.info? e = some i) (hs : i.size = 64) (ho : pre.length = off) (hp : pre ≠ []) : ldCells P e ⟨pre ++ setRL x⟩ off = some (.agg (setR x)) := by
  have h := ld_setp (P := P) (off := off) pre [] x hu hi hs ho (fun _ => hp)
  rwa [List.append_nil] at h
theorem put64_same (x : BitVec 64) (k : Nat) (b : Bool) (hk : k < 64) : (put64 x k b).getLsbD k = b := by rw [put64_get x k b k hk, if_pos rfl]
end Go.Eng
