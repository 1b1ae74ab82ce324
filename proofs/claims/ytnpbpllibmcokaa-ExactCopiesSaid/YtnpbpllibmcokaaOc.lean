/- Package exact and its reference: what their models answer. Conditions: at most 512 slots; fuel 1000. -/
import Derived.Test.YtnpbpllibmcokaaOb
import Derived.Test.YtnpbpllibmcokaaBb
namespace Go.Proofs.Ytnpbpllibmcokaa
open Go Go.RowKit Go.Eng
def mayI (k0 : Int) (k1 : BitVec 128) : Bool := decide (1 ≤ k0) && (decide (k0 ≤ 128) && decide (((len128 k1 : Nat) : Int) ≤ k0))
def mixU (x p : BitVec 64) : BitVec 64 := ((x ^^^ p) * 11400714819323198485#64) ^^^ (((x ^^^ p) * 11400714819323198485#64) >>> 32)
def homeN (L : Nat) (k0 : Int) (k1 : BitVec 128) : Nat := (mixU (mixU (BitVec.ofInt 64 k0) (hi k1)) (lo k1)).toNat % L
theorem homeN_lt {L : Nat} (h : 0 < L) (a : Int) (b : BitVec 128) : homeN L a b < L := Nat.mod_lt _ h
theorem z128 : ((0#64) ++ (0#64) : BitVec (64 + 64)) = (0 : BitVec 128) := rfl
theorem may19_s (N : Nat) (k0 : Int) (k1 : BitVec 128) : vec_May_m N k0 k1 = some (mayI k0 k1) := by
  unfold vec_May_m vec_mayWidth_m vec_Word_m mayI
  by_cases h1 : (1 : Int) ≤ k0
  · rw [if_pos h1]
    by_cases h2 : k0 ≤ 128 <;> simp [h1, h2]
  · rw [if_neg h1]; simp [h1]
theorem rmay19_s (N : Nat) (k0 : Int) (k1 : BitVec 128) : shunterref02_May_m N k0 k1 = some (mayI k0 k1) := by
  unfold shunterref02_May_m mayI
  rw [hi_lo]
  by_cases h1 : (1 : Int) ≤ k0
  · rw [if_pos h1]
    by_cases h2 : k0 ≤ 128 <;> simp [h1, h2]
  · rw [if_neg h1]; simp [h1]
theorem takes_s (N : Nat) (s : List It) (a b k0 : Int) (k1 : BitVec 128) : exact_Map_takes_v1_m N s a b k0 k1 = some (mayI k0 k1) := by
  unfold exact_Map_takes_v1_m; rw [may19_s]; rfl
theorem mayI_ne {k0 : Int} {k1 : BitVec 128} (h : mayI k0 k1 = true) : kb 0 0 (k0, k1, 0) = false := by
  simp only [mayI, Bool.and_eq_true, decide_eq_true_eq] at h
  simp only [kb, Bool.and_eq_false_iff, beq_eq_false_iff_ne]
  exact .inl (by show k0 ≠ 0; omega)
section
variable {L : Nat} {s l : List It}
theorem home_s {N : Nat} (hN : 3 ≤ N) (hL : s.length = L) (h1 : 0 < L) (h2 : L ≤ 512) (a b k0 : Int) (k1 : BitVec 128) : exact_Map_home_v1_m N s a b k0 k1 = some ((homeN L k0 k1 : Nat) : Int) := by
  obtain ⟨n, rfl⟩ : ∃ n, N = n + 3 := ⟨N - 3, by omega⟩
  have hb : (BitVec.ofInt 64 ((s.length : Nat) : Int) : BitVec 64).toNat = L := by
    rw [BitVec.ofInt_natCast, BitVec.toNat_ofNat, hL]; exact Nat.mod_eq_of_lt (by omega)
  have hz : (BitVec.ofInt 64 ((s.length : Nat) : Int) : BitVec 64) ≠ 0#64 := by
    intro e; rw [e] at hb; simp at hb; omega
  have hr : ∀ x : BitVec 64, (x % BitVec.ofInt 64 ((s.length : Nat) : Int)).toNat = x.toNat % L := by
    intro x; rw [BitVec.toNat_umod, hb]
  unfold exact_Map_home_v1_m
  rw [exact_Map_home_v1_l3, if_pos (by decide), ck_pos _ (by decide), ck_pos _ (by decide), exact_Map_home_v1_l3, if_pos (by decide), ck_pos _ (by decide), ck_pos _ (by decide), exact_Map_home_v1_l3, if_neg (by decide), ck_pos _ hz, hr, ck_pos _ (by have := Nat.mod_lt (mixU (mixU (BitVec.ofInt 64 k0) (hi k1)) (lo k1)).toNat h1; show ((homeN L k0 k1 : Nat) : Int) ≤ _; unfold homeN; omega)]
  rfl
theorem free_s {p : Nat} (hp : p < s.length) (N : Nat) (a b : Int) : exact_Map_free_v1_m N s a b (p : Int) = some (!(occ s[p]!)) := by
  unfold exact_Map_free_v1_m
  rw [ck_pos _ ⟨by omega, by omega⟩, Int.toNat_natCast, z128, occ, Bool.not_not]; rfl
theorem next_s {p : Nat} (hL : s.length = L) (hp : p < L) (h2 : L ≤ 512) (N : Nat) (a b : Int) : exact_Map_next_v1_m N s a b (p : Int) = some ((nxt L p : Nat) : Int) := by
  unfold exact_Map_next_v1_m
  rw [ck_pos _ ⟨by omega, by omega⟩, ck_pos _ ⟨⟨by omega, by omega⟩, by omega⟩, hL]
  congr 1
  have : ((p : Int) + 1) = ((p + 1 : Nat) : Int) := by omega
  rw [this, ← Int.natCast_emod]; congr 1
  unfold nxt; split
  · rename_i h; rw [h, Nat.mod_self]
  · exact Nat.mod_eq_of_lt (by omega)
theorem ahead_s {f t : Nat} (hL : s.length = L) (hf : f < L) (ht : t < L) (h2 : L ≤ 512) (N : Nat) (a b : Int) : exact_Map_ahead_v1_m N s a b (f : Int) (t : Int) = some ((roff L f t : Nat) : Int) := by
  unfold exact_Map_ahead_v1_m
  rw [ck_pos _ ⟨by omega, by omega⟩, hL, ck_pos _ ⟨by omega, by omega⟩, ck_pos _ ⟨⟨by omega, by omega⟩, by omega⟩]
  congr 1
  unfold roff; split
  · rename_i h
    have : (t : Int) - (f : Int) + (L : Int) = (((t - f) + L : Nat) : Int) := by omega
    rw [this, ← Int.natCast_emod, Nat.add_mod_right, Nat.mod_eq_of_lt (by omega)]
  · rename_i h
    have : (t : Int) - (f : Int) + (L : Int) = ((t + L - f : Nat) : Int) := by omega
    rw [this, ← Int.natCast_emod, Nat.mod_eq_of_lt (by omega)]
theorem find1_s {p : Nat} (hp : p < s.length) (N : Nat) (a b k0 : Int) (k1 : BitVec 128) : exact_Map_find_1_v1_m N (p : Int) s a b k0 k1 = some (kb k0 k1 s[p]! || !(occ s[p]!)) := by
  unfold exact_Map_find_1_v1_m
  rw [ck_pos _ ⟨by omega, by omega⟩, Int.toNat_natCast, free_s hp]
  show (if kb k0 k1 s[p]! = true then _ else _) = _
  cases kb k0 k1 s[p]! <;> rfl
theorem round1_s {N : Nat} {k0 : Int} {k1 : BitVec 128} {q : Nat} (hL : s.length = L) (h2 : L ≤ 512) (hh : homeN L k0 k1 < L) (hq : Find (homeN L) L s l k0 k1 q) (a b : Int) :
    ∀ (fuel p : Nat), p < L → roff L (homeN L k0 k1) p ≤ roff L (homeN L k0 k1) q → roff L (homeN L k0 k1) q - roff L (homeN L k0 k1) p < fuel → exact_Map_round_v1_l2 N s a b k0 k1 fuel (p : Int) = some (q : Int) := by
  intro fuel
  induction fuel with
  | zero => intro p _ _ h; omega
  | succ n ih =>
    intro p hp hle hfu
    rw [exact_Map_round_v1_l2, find1_s (by omega), Option.bind_some]
    by_cases he : roff L (homeN L k0 k1) p = roff L (homeN L k0 k1) q
    · have := roff_inj hh hp hq.lt he; subst this
      rw [if_pos (by rcases hq.ends with h | h <;> rw [h] <;> simp)]
    · have hlt : roff L (homeN L k0 k1) p < roff L (homeN L k0 k1) q := by omega
      obtain ⟨h3, h4⟩ := hq.road p hp hlt
      rw [if_neg (by rw [h3, h4]; simp), next_s hL hp h2, Option.bind_some]
      have hn := roff_nxt hh hp hq.lt hlt
      exact ih _ (nxt_lt hp) (by omega) (by omega)
theorem find_s {N : Nat} (hN : 600 ≤ N) {k0 : Int} {k1 : BitVec 128} {q : Nat} (hL : s.length = L) (h2 : L ≤ 512) (hq : Find (homeN L) L s l k0 k1 q) (a b : Int) :
    exact_Map_find_v1_m N s a b k0 k1 = some ((q : Int), kb k0 k1 s[q]!) := by
  have hlt := hq.lt
  have h1 : 0 < L := by omega
  have hh := homeN_lt h1 k0 k1
  have hr := roff_lt hh hlt
  unfold exact_Map_find_v1_m exact_Map_round_v1_m
  rw [home_s (by omega) hL h1 h2, Option.bind_some, round1_s hL h2 hh hq a b N _ hh (by rw [roff_self]; omega) (by rw [roff_self]; omega), Option.bind_some, ck_pos _ ⟨by omega, by omega⟩, Int.toNat_natCast]
  rfl
def putL (most : Int) (l : List It) (k0 : Int) (k1 : BitVec 128) (n : Int) : Int × List It :=
  if mayI k0 k1 then match fi l k0 k1 with
    | some _ => (6, l)
    | none => if most ≤ (l.length : Int) then (8, l) else (0, l ++ [(k0, k1, n)])
  else (1, l)
def setL (l : List It) (k0 : Int) (k1 : BitVec 128) (n : Int) : Int × List It :=
  if mayI k0 k1 then match fi l k0 k1 with
    | some i => (0, l.set i (k0, k1, n))
    | none => (5, l)
  else (1, l)
def dropL (l : List It) (k0 : Int) (k1 : BitVec 128) : Int × List It :=
  if mayI k0 k1 then match fi l k0 k1 with
    | some i => (0, l.take i ++ l.drop (i + 1))
    | none => (5, l)
  else (1, l)
def getL (l : List It) (k0 : Int) (k1 : BitVec 128) : Int × Bool :=
  if mayI k0 k1 then match fi l k0 k1 with
    | some i => ((l[i]!).2.2, true)
    | none => (0, false)
  else (0, false)
/-- A map as it is in memory, and its things. -/
def Holds (most : Nat) (s l : List It) : Prop := Ok (homeN (2 * most)) (2 * most) most s l
variable {most : Nat}
theorem put_s {N : Nat} (hN : 600 ≤ N) (hm : most ≤ 256) (h : Holds most s l) (k0 : Int) (k1 : BitVec 128) (n : Int) :
    ∃ s', exact_Map_Put_v1_m N s (l.length : Int) (most : Int) k0 k1 n = some ((putL most l k0 k1 n).1, s', (((putL most l k0 k1 n).2.length : Nat) : Int), (most : Int)) ∧ Holds most s' (putL most l k0 k1 n).2 := by
  have hle := h.le
  unfold exact_Map_Put_v1_m exact_Map_Room_v1_m putL
  rw [takes_s, Option.bind_some]
  cases hk : mayI k0 k1 with
  | false => exact ⟨s, by simp, h⟩
  | true =>
    have h1 : 0 < 2 * most := by have := h.two; omega
    obtain ⟨q, hq⟩ := h.find (homeN_lt h1) (mayI_ne hk)
    rw [if_pos rfl, if_pos rfl, find_s hN h.len (by omega) hq, Option.bind_some]
    cases hb : kb k0 k1 s[q]! with
    | true =>
      obtain ⟨_, i, hi, _, _⟩ := hq.yes hb
      simp only [hi]
      exact ⟨s, by simp, h⟩
    | false =>
      obtain ⟨ho, hf⟩ := hq.no hb
      simp only [hf]
      rw [if_neg (by simp), ck_pos _ ⟨by omega, by omega⟩, Option.bind_some]
      by_cases hc : (most : Int) ≤ (l.length : Int)
      · rw [if_pos (by omega), if_pos hc]; exact ⟨s, rfl, h⟩
      · rw [if_neg (by omega), if_neg hc]
        have hlt := hq.lt
        have hlen := h.len
        rw [ck_pos _ ⟨by omega, by show (q : Int) < _; omega⟩, ck_pos _ ⟨by omega, by omega⟩, Int.toNat_natCast]
        refine ⟨_, ?_, h.put (mayI_ne hk) hq hb (by omega) n⟩
        simp
theorem there_s {N : Nat} (hN : 600 ≤ N) (hm : most ≤ 256) (h : Holds most s l) (a b k0 : Int) (k1 : BitVec 128) :
    (mayI k0 k1 = false ∧ exact_Map_there_v1_m N s a b k0 k1 = some (0, 1)) ∨
    (mayI k0 k1 = true ∧ fi l k0 k1 = none ∧ exact_Map_there_v1_m N s a b k0 k1 = some (0, 5)) ∨
    ∃ q i, mayI k0 k1 = true ∧ fi l k0 k1 = some i ∧ q < 2 * most ∧ occ s[q]! = true ∧ keyI s[q]! = (k0, k1) ∧ i < l.length ∧ l[i]! = s[q]! ∧ exact_Map_there_v1_m N s a b k0 k1 = some ((q : Int), 0) := by
  unfold exact_Map_there_v1_m
  rw [takes_s, Option.bind_some]
  cases hk : mayI k0 k1 with
  | false => exact .inl ⟨rfl, by simp⟩
  | true =>
    have h1 : 0 < 2 * most := by have := h.two; omega
    obtain ⟨q, hq⟩ := h.find (homeN_lt h1) (mayI_ne hk)
    rw [if_pos rfl, find_s hN h.len (by omega) hq, Option.bind_some]
    cases hb : kb k0 k1 s[q]! with
    | true =>
      obtain ⟨ho, i, hi, hil, hli⟩ := hq.yes hb
      exact .inr (.inr ⟨q, i, rfl, hi, hq.lt, ho, kb_key.1 hb, hil, hli, by simp⟩)
    | false => exact .inr (.inl ⟨rfl, (hq.no hb).2, by simp⟩)
theorem set_s {N : Nat} (hN : 600 ≤ N) (hm : most ≤ 256) (h : Holds most s l) (k0 : Int) (k1 : BitVec 128) (n : Int) :
    ∃ s', exact_Map_Set_v1_m N s (l.length : Int) (most : Int) k0 k1 n = some ((setL l k0 k1 n).1, s', (((setL l k0 k1 n).2.length : Nat) : Int), (most : Int)) ∧ Holds most s' (setL l k0 k1 n).2 := by
  unfold exact_Map_Set_v1_m setL
  rcases there_s hN hm h (l.length : Int) (most : Int) k0 k1 with ⟨hk, ht⟩ | ⟨hk, hf, ht⟩ | ⟨q, i, hk, hf, hq, ho, hkq, hi, hli, ht⟩
  · rw [ht, Option.bind_some, hk]; exact ⟨s, by simp, h⟩
  · rw [ht, Option.bind_some, hk, hf]; exact ⟨s, by simp, h⟩
  · rw [ht, Option.bind_some, hk, hf]
    have hlen := h.len
    simp only [ne_eq, not_true_eq_false, if_false, if_true]
    rw [ck_pos _ ⟨by omega, by omega⟩, Int.toNat_natCast]
    have hk2 := hkq
    simp only [keyI, Prod.mk.injEq] at hk2
    rw [hk2.1, hk2.2]
    exact ⟨_, by simp, h.set hq ho hkq hi hli n⟩
theorem get_s {N : Nat} (hN : 600 ≤ N) (hm : most ≤ 256) (h : Holds most s l) (a b k0 : Int) (k1 : BitVec 128) :
    exact_Map_Get_v1_m N s a b k0 k1 = some (getL l k0 k1) := by
  unfold exact_Map_Get_v1_m getL
  rcases there_s hN hm h a b k0 k1 with ⟨hk, ht⟩ | ⟨hk, hf, ht⟩ | ⟨q, i, hk, hf, hq, ho, hkq, hi, hli, ht⟩
  · rw [ht, Option.bind_some, hk]; simp
  · rw [ht, Option.bind_some, hk, hf]; simp
  · rw [ht, Option.bind_some, hk, hf]
    have hlen := h.len
    simp only [ne_eq, not_true_eq_false, if_false, if_true]
    rw [ck_pos _ ⟨by omega, by omega⟩, Int.toNat_natCast, hli]
end
end Go.Proofs.Ytnpbpllibmcokaa
