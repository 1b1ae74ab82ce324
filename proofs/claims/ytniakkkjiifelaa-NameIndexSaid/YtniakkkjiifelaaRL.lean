/- Layer 5: the laws' models answer true, if the program's functions have the answers that are told. Conditions: the structure Names, proved elsewhere. -/
import Derived.Test.YtniakkkjiifelaaRh
import Derived.Test.YtniakkkjiifelaaLNameRunes
import Derived.Test.YtniakkkjiifelaaLNameNames
import Derived.Test.YtniakkkjiifelaaLNameKeys
import Derived.Test.YtniakkkjiifelaaLNameOrders
import Derived.Test.YtniakkkjiifelaaLNamePlaces
import Derived.Test.YtniakkkjiifelaaLNameIndex
namespace Go.Proofs.Ytniakkkjiifelaa
open Go Go.RowKit Go.Eng
def idxF (p : List UInt8 → Bool) : List (List UInt8) → Nat → Int
  | [], _ => -1
  | x :: r, k => if p x = true then (k : Int) else idxF p r (k + 1)
structure Names (N : Nat) : Prop where
  len : ∀ s, s.length ≤ 2000 → name_Len_m N s = some ((runesL s).length : Int)
  runes : ∀ s, s.length ≤ 2000 → name_Runes_m N s = some (runesL s)
  clip : ∀ s (n : Int), s.length ≤ 2000 → -9223372036854775808 ≤ n → n ≤ 9223372036854775807 → name_Clip_m N s n = some (s.take (posR s n.toNat))
  letter : ∀ c : Int, -2147483648 ≤ c → c ≤ 2147483647 → name_Letter_m N c = some (letR c)
  digit : ∀ c : Int, -2147483648 ≤ c → c ≤ 2147483647 → name_Digit_m N c = some (decide (48 ≤ c ∧ c ≤ 57))
  fold : ∀ c : Int, -2147483648 ≤ c → c ≤ 2147483647 → name_Fold_m N c = some (foldR c)
  may : ∀ s, s.length ≤ 2000 → name_May_m N s = some (mayL (runesL s))
  key : ∀ s, s.length ≤ 2000 → name_Key_m N s = some (keyB s)
  alike : ∀ a b, a.length ≤ 2000 → b.length ≤ 2000 → name_Alike_m N a b = some (keyB a == keyB b)
  less : ∀ a b, a.length ≤ 2000 → b.length ≤ 2000 → name_Less_m N a b = some (lessL a b)
  place : ∀ s (at' : Int), s.length ≤ 2000 → -9223372036854775808 ≤ at' → at' ≤ 9223372036854775807 → name_Place_m N s at' = some (placeL s at')
  index : ∀ (l : List (List UInt8)) s, l.length ≤ 30 → s.length ≤ 300 → (∀ j, j < l.length → (l[j]!).length ≤ 300) → name_Index_m N l s = some (idxF (fun x => keyB x == keyB s) l 0)
  lives : shunterlaw05_lives_m N = some true
theorem runeB_len (n : Int) (h : okR n) : (runeB n).length ≤ 4 := by
  obtain ⟨c, rfl⟩ : ∃ c : Nat, n = (c : Int) := ⟨n.toNat, by unfold okR at h; omega⟩
  rw [runeB_of h]
  split
  · simp
  · split
    · simp
    · split <;> simp
theorem rstr_len : ∀ l : List Int, (∀ n ∈ l, okR n) → (rstr l).length ≤ 4 * l.length
  | [], _ => by simp [rstr]
  | n :: l, h => by
    have h1 := runeB_len n (h n (by simp))
    have h2 := rstr_len l (fun m hm => h m (by simp [hm]))
    rw [rstr, List.length_append, List.length_cons]; omega
theorem keyB_len (s : List UInt8) : (keyB s).length ≤ 4 * s.length := by
  have h1 := rstr_len (keysL s) (keys_ok s)
  have h2 := keysL_len s
  show (rstr (keysL s)).length ≤ _
  omega
theorem names_runes (N : Nat) (hN : 3000 < N) (I : Names N) (s : List UInt8) (n : Int) (hn : -9223372036854775808 ≤ n ∧ n ≤ 9223372036854775807) : shunterlaw05_NameRunes_m N s n = some true := by
  unfold shunterlaw05_NameRunes_m
  by_cases h : (s.length : Int) > 500
  · rw [if_pos h, I.lives]; rfl
  have hl := runesL_len s
  rw [if_neg h, refrunes_s N s (by omega) (by omega), Option.bind_some, I.runes s (by omega), Option.bind_some, if_neg (by simp), I.len s (by omega), Option.bind_some, if_neg (by simp), I.clip s n (by omega) hn.1 hn.2, Option.bind_some, refclip_s N s (by omega) (by omega) n hn, Option.bind_some, if_neg (by simp)]
  have hok := runesL_ok s
  have loop : ∀ (k f i : Nat), i + k = (runesL s).length → k < f → shunterlaw05_NameRunes_l3 N (runesL s) (runesL s) f (i : Int) = some true := by
    intro k
    induction k with
    | zero =>
      intro f i hi hf
      obtain ⟨f, rfl⟩ : ∃ n, f = n + 1 := ⟨f - 1, by omega⟩
      rw [shunterlaw05_NameRunes_l3, if_neg (by omega), I.lives]; rfl
    | succ k ih =>
      intro f i hi hf
      obtain ⟨f, rfl⟩ : ∃ n, f = n + 1 := ⟨f - 1, by omega⟩
      have e1 : (i : Int) + 1 = ((i + 1 : Nat) : Int) := by omega
      have hv := hok ((runesL s)[i]!) (by rw [getElem!_pos _ i (by omega)]; exact List.getElem_mem _)
      unfold okR at hv
      rw [shunterlaw05_NameRunes_l3, if_pos (by omega), ck_pos _ (by omega), Int.toNat_natCast, ck_pos _ (by omega), ck_pos _ (by omega), if_neg (by simp), ck_pos _ (by omega), e1]
      exact ih f (i + 1) (by omega) (by omega)
  exact loop (runesL s).length N 0 (by omega) (by omega)
theorem names_names (N : Nat) (hN : 3000 < N) (I : Names N) (s : List UInt8) (c : Int) (hc : -2147483648 ≤ c ∧ c ≤ 2147483647) : shunterlaw05_NameNames_m N s c = some true := by
  unfold shunterlaw05_NameNames_m
  by_cases h : (s.length : Int) > 500
  · rw [if_pos h, I.lives]; rfl
  have hf : -9223372036854775808 ≤ foldR c ∧ foldR c ≤ 9223372036854775807 := by
    unfold foldR; split
    · omega
    · split
      · omega
      · split <;> omega
  rw [if_neg h, I.may s (by omega), Option.bind_some, refmay_s N s (by omega) (by omega), Option.bind_some, if_pos rfl, I.letter c hc.1 hc.2, Option.bind_some, ck_pos _ (by omega), refletter_s, Option.bind_some, if_pos rfl, I.digit c hc.1 hc.2, Option.bind_some, I.fold c hc.1 hc.2]
  by_cases h1 : c ≥ 48
  · rw [if_pos h1, if_pos (decide_eq_decide.mpr ⟨fun h => h.2, fun h => ⟨h1, h⟩⟩), Option.bind_some, ck_pos _ hf, ck_pos _ (by omega), reffold_s, Option.bind_some, if_pos rfl, I.lives]; rfl
  · rw [if_neg h1, if_pos (decide_eq_false (fun h => h1 h.1)), Option.bind_some, ck_pos _ hf, ck_pos _ (by omega), reffold_s, Option.bind_some, if_pos rfl, I.lives]; rfl
theorem keyB_beq (a b : List UInt8) : (keyB a == keyB b) = (ordL (keysL a) (keysL b) == 0) := by
  rcases ordL_cases (keysL a) (keysL b) with ⟨h1, h2⟩ | ⟨h1, h2⟩ | ⟨h1, h2⟩
  · rw [h1, key_inj.mpr h2]; simp
  · have : keyB a ≠ keyB b := fun h => by rw [key_inj.mp h, ordL_same] at h1; exact absurd h1 (by decide)
    rw [h1]; simpa using this
  · have : keyB a ≠ keyB b := fun h => by rw [key_inj.mp h, ordL_same] at h1; exact absurd h1 (by decide)
    rw [h1]; simpa using this
theorem names_keys (N : Nat) (hN : 3000 < N) (I : Names N) (a b : List UInt8) : shunterlaw05_NameKeys_m N a b = some true := by
  unfold shunterlaw05_NameKeys_m
  by_cases ha : (a.length : Int) > 500
  · rw [if_pos ha, I.lives]; rfl
  rw [if_neg ha]
  by_cases hb : (b.length : Int) > 500
  · rw [if_pos hb, I.lives]; rfl
  have hk := keyB_len a
  have hl := keysL_len a
  have hl' := keysL_len b
  rw [if_neg hb, shunterlaw05_NameKeys_k1, refkeys_s N a (by omega) (by omega), Option.bind_some, I.key a (by omega), Option.bind_some, refrunes_s N _ (by omega) (by omega), Option.bind_some, runes_key, if_neg (by simp)]
  have loop : ∀ (k f i : Nat), i + k = (keysL a).length → k < f → shunterlaw05_NameKeys_l3 N a b (keysL a) (keysL a) f (i : Int) = some true := by
    intro k
    induction k with
    | zero =>
      intro f i hi hf
      obtain ⟨f, rfl⟩ : ∃ n, f = n + 1 := ⟨f - 1, by omega⟩
      rw [shunterlaw05_NameKeys_l3, if_neg (by omega), refkeys_s N a (by omega) (by omega), Option.bind_some, refkeys_s N b (by omega) (by omega), Option.bind_some, reforder_s N _ _ (by omega) (by omega), Option.bind_some, I.alike a b (by omega) (by omega), Option.bind_some, if_pos (keyB_beq a b), I.less a b (by omega) (by omega), Option.bind_some, refless_s N a b (by omega) (by omega) (by omega) (by omega), Option.bind_some, if_pos rfl, I.lives]; rfl
    | succ k ih =>
      intro f i hi hf
      obtain ⟨f, rfl⟩ : ∃ n, f = n + 1 := ⟨f - 1, by omega⟩
      have e1 : (i : Int) + 1 = ((i + 1 : Nat) : Int) := by omega
      rw [shunterlaw05_NameKeys_l3, if_pos (by omega), ck_pos _ (by omega), Int.toNat_natCast, ck_pos _ (by omega), if_neg (by simp), ck_pos _ (by omega), e1]
      exact ih f (i + 1) (by omega) (by omega)
  exact loop (keysL a).length N 0 (by omega) (by omega)
theorem names_places (N : Nat) (hN : 3000 < N) (I : Names N) (s : List UInt8) (at' : Int) (h63 : -9223372036854775808 ≤ at' ∧ at' ≤ 9223372036854775807) : shunterlaw05_NamePlaces_m N s at' = some true := by
  unfold shunterlaw05_NamePlaces_m
  by_cases h : (s.length : Int) > 500
  · rw [if_pos h, I.lives]; rfl
  rw [if_neg h, I.place s at' (by omega) h63.1 h63.2, Option.bind_some, refplace_s N s (by omega) (by omega), Option.bind_some, if_pos rfl, if_pos rfl, I.lives]; rfl
theorem names_orders (N : Nat) (I : Names N) (a b c : List UInt8) : shunterlaw05_NameOrders_m N a b c = some true := by
  unfold shunterlaw05_NameOrders_m
  by_cases ha : (a.length : Int) > 300
  · rw [if_pos ha, I.lives]; rfl
  rw [if_neg ha]
  by_cases hb : (b.length : Int) > 300
  · rw [if_pos hb, I.lives]; rfl
  rw [if_neg hb]
  by_cases hc : (c.length : Int) > 300
  · rw [if_pos hc, I.lives]; rfl
  rw [if_neg hc]
  have hk := keyB_len a
  have k4 : shunterlaw05_NameOrders_k4 N a b = some true := by
    have e1 : (keyB a == keyB b) = (keyB b == keyB a) := Bool.eq_iff_iff.mpr (by simp only [beq_iff_eq]; exact eq_comm)
    have e2 : mayL (runesL (keyB a)) = mayL (runesL a) := by rw [runes_key]; exact may_fold _
    have hr := runesL_len a
    rw [shunterlaw05_NameOrders_k4, I.alike a b (by omega) (by omega), Option.bind_some, I.alike b a (by omega) (by omega), Option.bind_some, if_pos e1, I.key a (by omega), Option.bind_some, I.alike a _ (by omega) (by omega), Option.bind_some, key_key, if_pos (by simp), Option.bind_some, I.key _ (by omega), Option.bind_some, Option.bind_some, key_key, if_pos rfl, Option.bind_some, I.may _ (by omega), Option.bind_some, I.may a (by omega), Option.bind_some, if_pos e2, I.len a (by omega), Option.bind_some, I.clip a _ (by omega) (by omega) (by omega), Option.bind_some, Int.toNat_natCast, posR_all, List.take_length, if_pos rfl, I.lives]; rfl
  have k3 : shunterlaw05_NameOrders_k3 N a b c = some true := by
    rw [shunterlaw05_NameOrders_k3, I.alike a c (by omega) (by omega), Option.bind_some, I.less a b (by omega) (by omega), I.less b c (by omega) (by omega), I.alike a b (by omega) (by omega)]
    split
    · rename_i h1
      rw [Option.bind_some]
      split
      · rename_i h2
        rw [Option.bind_some]
        split
        · rename_i h3
          have := lessL_between h2 h3 (key_inj.mp (by simpa using h1))
          rw [Option.bind_some, if_pos (by simpa using key_inj.mpr this)]; exact k4
        · exact k4
      · exact k4
    · exact k4
  have k2 : shunterlaw05_NameOrders_k2 N a b c = some true := by
    rw [shunterlaw05_NameOrders_k2, I.less a b (by omega) (by omega), Option.bind_some, I.less b c (by omega) (by omega), I.less a c (by omega) (by omega)]
    split
    · rename_i h1
      rw [Option.bind_some]
      split
      · rename_i h2
        rw [Option.bind_some, if_pos (lessL_trans h1 h2)]; exact k3
      · exact k3
    · exact k3
  rw [shunterlaw05_NameOrders_k1, I.less a b (by omega) (by omega), I.less b a (by omega) (by omega), Option.bind_some]
  rcases lessL_tri a b with ⟨h1, h2, h3⟩ | ⟨h1, h2, h3⟩ | ⟨h1, h2, h3⟩
  · rw [h1, h2, if_neg (by decide), Option.bind_some, if_neg (by decide), Option.bind_some, if_neg (by simpa using h3)]; exact k2
  · have e : (a == b) = false := by simpa using h3
    rw [h1, h2, if_pos rfl, Option.bind_some, if_neg (by decide), Option.bind_some, if_pos rfl, e, if_neg (by decide)]; exact k2
  · have e : (a == b) = false := by simpa using h3
    rw [h1, h2, if_neg (by decide), Option.bind_some, if_neg (by decide), Option.bind_some, e, if_neg (by decide)]; exact k2
theorem names_index (N : Nat) (hN : 3000 < N) (I : Names N) (l : List (List UInt8)) (s : List UInt8) : shunterlaw05_NameIndex_m N l s = some true := by
  unfold shunterlaw05_NameIndex_m
  by_cases h : (l.length : Int) > 30
  · rw [if_pos h, I.lives]; rfl
  rw [if_neg h]
  by_cases h1 : (s.length : Int) > 300
  · rw [if_pos h1, I.lives]; rfl
  rw [if_neg h1, shunterlaw05_NameIndex_k1, ck_pos _ (by omega)]
  have loop : ∀ (i f : Nat), i ≤ l.length → i < f → (∀ j, i ≤ j → j < l.length → (l[j]!).length ≤ 300) → shunterlaw05_NameIndex_l4 N l s f (idxF (fun x => keyB x == keyB s) (l.drop i) i) ((i : Int) - 1) = some true := by
    intro i
    induction i with
    | zero =>
      intro f hi hf hall
      obtain ⟨f, rfl⟩ : ∃ n, f = n + 1 := ⟨f - 1, by omega⟩
      rw [shunterlaw05_NameIndex_l4, if_neg (by omega), I.index l s (by omega) (by omega) (fun j hj => hall j (Nat.zero_le _) hj), Option.bind_some, List.drop_zero, if_pos rfl, I.lives]; rfl
    | succ i ih =>
      intro f hi hf hall
      obtain ⟨f, rfl⟩ : ∃ n, f = n + 1 := ⟨f - 1, by omega⟩
      have e : ((i + 1 : Nat) : Int) - 1 = (i : Int) := by omega
      rw [e, shunterlaw05_NameIndex_l4, if_pos (by omega), ck_pos _ (by omega), Int.toNat_natCast]
      by_cases hg : ((l[i]!).length : Int) > 300
      · rw [if_pos hg, I.lives]; rfl
      · have hd : l.drop i = l[i]! :: l.drop (i + 1) := by rw [List.drop_eq_getElem_cons (by omega), getElem!_pos l i (by omega)]
        have hall' : ∀ j, i ≤ j → j < l.length → (l[j]!).length ≤ 300 := fun j h1 h2 => by
          by_cases hj : j = i
          · subst hj; omega
          · exact hall j (by omega) h2
        have go := ih f (by omega) (by omega) hall'
        rw [hd, idxF] at go
        rw [if_neg hg, ck_pos _ (by omega), I.alike _ s (by omega) (by omega), Option.bind_some, ck_pos _ (by omega)]
        by_cases hm : (keyB (l[i]!) == keyB s) = true
        · rw [if_pos hm] at go ⊢; exact go
        · rw [if_neg hm] at go ⊢; rw [ck_pos _ (by omega)]; exact go
  have := loop l.length N (Nat.le_refl _) (by omega) (fun j h1 h2 => absurd h2 (by omega))
  rw [List.drop_of_length_le (Nat.le_refl _)] at this
  exact this
end Go.Proofs.Ytniakkkjiifelaa
