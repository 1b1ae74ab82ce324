import Derived.Test.YtjmdbbnnpmmpiaaGreatDoorIt
namespace Go.Proofs.YtjmdbbnnpmmpiaaGreatDoor
open Go Go.RowKit Go.Eng
def Jf (n : Nat) : Prop := 128 ≤ n ∧ n < 192
instance (n : Nat) : Decidable (Jf n) := inferInstanceAs (Decidable (_ ∧ _))
def LS (b0 b1 b2 b3 n : Nat) : Nat × Nat :=
  if b0 < 128 then (b0, 1)
  else if 194 ≤ b0 ∧ b0 < 224 ∧ 2 ≤ n ∧ Jf b1 then (64 * (b0 - 192) + (b1 - 128), 2)
  else if 224 ≤ b0 ∧ b0 < 240 ∧ 3 ≤ n ∧ Jf b1 ∧ Jf b2 ∧ 2048 ≤ 4096 * (b0 - 224) + 64 * (b1 - 128) + (b2 - 128) ∧ (4096 * (b0 - 224) + 64 * (b1 - 128) + (b2 - 128) < 55296 ∨ 57343 < 4096 * (b0 - 224) + 64 * (b1 - 128) + (b2 - 128)) then (4096 * (b0 - 224) + 64 * (b1 - 128) + (b2 - 128), 3)
  else if 240 ≤ b0 ∧ b0 < 245 ∧ 4 ≤ n ∧ Jf b1 ∧ Jf b2 ∧ Jf b3 ∧ 65536 ≤ 262144 * (b0 - 240) + 4096 * (b1 - 128) + 64 * (b2 - 128) + (b3 - 128) ∧ 262144 * (b0 - 240) + 4096 * (b1 - 128) + 64 * (b2 - 128) + (b3 - 128) ≤ 1114111 then (262144 * (b0 - 240) + 4096 * (b1 - 128) + 64 * (b2 - 128) + (b3 - 128), 4)
  else (65533, 1)
def eK (b0 b1 b2 b3 n : Nat) : Nat × Nat :=
  if b0 < 0x80 then (b0, 1)
  else if b0 / 32 == 6 && (decide (1 < n) && b1 / 64 == 2) then
    if b0 % 32 * 64 + b1 % 64 ≥ 0x80 then (b0 % 32 * 64 + b1 % 64, 2) else (65533, 1)
  else if b0 / 16 == 14 && (decide (1 < n) && b1 / 64 == 2) && (decide (2 < n) && b2 / 64 == 2) then
    if b0 % 16 * 4096 + b1 % 64 * 64 + b2 % 64 ≥ 0x800 && Utf8.valid ((b0 % 16 * 4096 + b1 % 64 * 64 + b2 % 64 : Nat) : Int) then (b0 % 16 * 4096 + b1 % 64 * 64 + b2 % 64, 3) else (65533, 1)
  else if b0 / 8 == 30 && (decide (1 < n) && b1 / 64 == 2) && (decide (2 < n) && b2 / 64 == 2) && (decide (3 < n) && b3 / 64 == 2) then
    if b0 % 8 * 262144 + b1 % 64 * 4096 + b2 % 64 * 64 + b3 % 64 ≥ 0x10000 && Utf8.valid ((b0 % 8 * 262144 + b1 % 64 * 4096 + b2 % 64 * 64 + b3 % 64 : Nat) : Int) then (b0 % 8 * 262144 + b1 % 64 * 4096 + b2 % 64 * 64 + b3 % 64, 4) else (65533, 1)
  else (65533, 1)
theorem bO (b0 b1 b2 b3 n : Nat) (h0 : b0 < 256) (h1 : b1 < 256) (h2 : b2 < 256) (h3 : b3 < 256) : eK b0 b1 b2 b3 n = LS b0 b1 b2 b3 n := by
  unfold eK LS Jf Utf8.valid
  simp only [Bool.and_eq_true, beq_iff_eq, decide_eq_true_eq, Bool.or_eq_true, ge_iff_le]
  by_cases g0 : b0 < 128
  · rw [if_pos g0, if_pos g0]
  rw [if_neg g0, if_neg g0]
  split
  · rename_i h
    split
    · rw [if_pos (by omega)]; exact Prod.ext (by show b0 % 32 * 64 + b1 % 64 = 64 * (b0 - 192) + (b1 - 128); omega) rfl
    · rw [if_neg (by omega), if_neg (by omega), if_neg (by omega)]
  · rename_i h
    split
    · rename_i h2
      have e : b0 % 16 * 4096 + b1 % 64 * 64 + b2 % 64 = 4096 * (b0 - 224) + 64 * (b1 - 128) + (b2 - 128) := by omega
      rw [e]
      split
      · rw [if_neg (by omega), if_pos (by omega)]
      · rw [if_neg (by omega), if_neg (by omega), if_neg (by omega)]
    · rename_i h2
      split
      · rename_i h3
        have e : b0 % 8 * 262144 + b1 % 64 * 4096 + b2 % 64 * 64 + b3 % 64 = 262144 * (b0 - 240) + 4096 * (b1 - 128) + 64 * (b2 - 128) + (b3 - 128) := by omega
        rw [e]
        split
        · rw [if_neg (by omega), if_neg (by omega), if_pos (by omega)]
        · rw [if_neg (by omega), if_neg (by omega), if_neg (by omega)]
      · rw [if_neg (by omega), if_neg (by omega), if_neg (by omega)]
theorem fP (s : List UInt8) (i : Nat) : (⟨s.toArray⟩ : ByteArray).get! i = s.getD i 0 := by
  show s.toArray[i]! = _
  rw [List.getElem!_toArray, List.getElem!_eq_getElem?_getD, List.getD_eq_getElem?_getD]; rfl
theorem Vp (s : List UInt8) (p k : Nat) : (s.drop p).getD k 0 = s.getD (p + k) 0 := by
  rw [List.getD_eq_getElem?_getD, List.getD_eq_getElem?_getD, List.getElem?_drop]
def dec (s : List UInt8) : Nat × Nat := LS (s.getD 0 0).toNat (s.getD 1 0).toNat (s.getD 2 0).toNat (s.getD 3 0).toNat s.length
theorem TE (s : List UInt8) (p : Nat) (h : p < s.length) : Utf8.decode ⟨s.toArray⟩ p = dec (s.drop p) := by
  unfold dec
  rw [← bO _ _ _ _ _ (UInt8.toNat_lt _) (UInt8.toNat_lt _) (UInt8.toNat_lt _) (UInt8.toNat_lt _)]
  unfold Utf8.decode eK
  have hs : (⟨s.toArray⟩ : ByteArray).size = s.length := rfl
  simp only [fP, Vp, List.length_drop, hs, Nat.add_zero, Utf8.runeError]
  have e : ∀ k, (p + k < s.length) = (k < s.length - p) := fun k => propext (by omega)
  simp only [e]
end Go.Proofs.YtjmdbbnnpmmpiaaGreatDoor
namespace Go.Proofs.YtjmdbbnnpmmpiaaGreatDoor
open Go Go.RowKit Go.Eng
theorem eL (b0 b1 b2 b3 n : Nat) (h : 1 ≤ n) : 1 ≤ (LS b0 b1 b2 b3 n).2 ∧ (LS b0 b1 b2 b3 n).2 ≤ n ∧ (LS b0 b1 b2 b3 n).2 ≤ 4 := by
  unfold LS
  split
  · show 1 ≤ 1 ∧ 1 ≤ n ∧ 1 ≤ 4; omega
  · split
    · show 1 ≤ 2 ∧ 2 ≤ n ∧ 2 ≤ 4; omega
    · split
      · show 1 ≤ 3 ∧ 3 ≤ n ∧ 3 ≤ 4; omega
      · split
        · show 1 ≤ 4 ∧ 4 ≤ n ∧ 4 ≤ 4; omega
        · show 1 ≤ 1 ∧ 1 ≤ n ∧ 1 ≤ 4; omega
def okR (n : Int) : Prop := (0 ≤ n ∧ n < 55296) ∨ (57344 ≤ n ∧ n ≤ 1114111)
theorem bP (b0 b1 b2 b3 n : Nat) : okR ((LS b0 b1 b2 b3 n).1 : Int) := by
  unfold LS okR Jf
  split
  · left; show (0 : Int) ≤ (b0 : Int) ∧ (b0 : Int) < 55296; omega
  · split
    · rename_i h1; left; show (0 : Int) ≤ ((64 * (b0 - 192) + (b1 - 128) : Nat) : Int) ∧ ((64 * (b0 - 192) + (b1 - 128) : Nat) : Int) < 55296; omega
    · split
      · rename_i h1
        show ((0 : Int) ≤ ((4096 * (b0 - 224) + 64 * (b1 - 128) + (b2 - 128) : Nat) : Int) ∧ ((4096 * (b0 - 224) + 64 * (b1 - 128) + (b2 - 128) : Nat) : Int) < 55296) ∨ (57344 ≤ ((4096 * (b0 - 224) + 64 * (b1 - 128) + (b2 - 128) : Nat) : Int) ∧ ((4096 * (b0 - 224) + 64 * (b1 - 128) + (b2 - 128) : Nat) : Int) ≤ 1114111)
        omega
      · split
        · rename_i h1; right
          show (57344 : Int) ≤ ((262144 * (b0 - 240) + 4096 * (b1 - 128) + 64 * (b2 - 128) + (b3 - 128) : Nat) : Int) ∧ ((262144 * (b0 - 240) + 4096 * (b1 - 128) + 64 * (b2 - 128) + (b3 - 128) : Nat) : Int) ≤ 1114111
          omega
        · right; exact ⟨by decide, by decide⟩
theorem UG (s : List UInt8) (h : s ≠ []) : 1 ≤ (dec s).2 ∧ (dec s).2 ≤ s.length ∧ (dec s).2 ≤ 4 := eL _ _ _ _ _ (List.length_pos_iff.mpr h)
theorem Xu (s : List UInt8) : okR ((dec s).1 : Int) := bP _ _ _ _ _
def HI : Nat → List UInt8 → List Int
  | 0, _ => []
  | f + 1, s => if s = [] then [] else ((dec s).1 : Int) :: HI f (s.drop (dec s).2)
theorem Pr : ∀ (f g : Nat) (s : List UInt8), s.length ≤ f → s.length ≤ g → HI f s = HI g s
  | 0, 0, _, _, _ => rfl
  | 0, g + 1, s, h, _ => by
    have : s = [] := List.eq_nil_of_length_eq_zero (by omega)
    rw [HI, HI, if_pos this]
  | f + 1, 0, s, _, h => by
    have : s = [] := List.eq_nil_of_length_eq_zero (by omega)
    rw [HI, HI, if_pos this]
  | f + 1, g + 1, s, h, h' => by
    rw [HI, HI]
    by_cases hs : s = []
    · rw [if_pos hs, if_pos hs]
    · have := UG s hs
      rw [if_neg hs, if_neg hs, Pr f g _ (by rw [List.length_drop]; omega) (by rw [List.length_drop]; omega)]
def EK (s : List UInt8) : List Int := HI s.length s
theorem Jn {s : List UInt8} (h : s ≠ []) : EK s = ((dec s).1 : Int) :: EK (s.drop (dec s).2) := by
  have hw := UG s h
  unfold EK
  obtain ⟨k, hk⟩ : ∃ k, s.length = k + 1 := ⟨s.length - 1, by omega⟩
  rw [hk, HI, if_neg h, Pr k _ _ (by rw [List.length_drop]; omega) (Nat.le_refl _)]
theorem UX {p : List UInt8 → Prop} (h0 : p []) (h1 : ∀ s, s ≠ [] → p (s.drop (dec s).2) → p s) : ∀ s, p s := by
  have : ∀ n s, s.length ≤ n → p s := by
    intro n
    induction n with
    | zero => intro s h; rw [List.eq_nil_of_length_eq_zero (by omega : s.length = 0)]; exact h0
    | succ n ih =>
      intro s h
      by_cases hs : s = []
      · rw [hs]; exact h0
      · have := UG s hs
        exact h1 s hs (ih _ (by rw [List.length_drop]; omega))
  exact fun s => this s.length s (Nat.le_refl _)
theorem UY (s : List UInt8) : ∀ n ∈ EK s, okR n := by
  refine UX (p := fun s => ∀ n ∈ EK s, okR n) (fun _ h => (nomatch h)) (fun s hs ih => ?_) s
  rw [Jn hs]
  intro n hn
  rcases List.mem_cons.mp hn with rfl | hn
  · exact Xu s
  · exact ih n hn
theorem QO {s : List UInt8} {p : Nat} (h : p < s.length) : runeAt s p = (dec (s.drop p)).1 ∧ DI s p = p + (dec (s.drop p)).2 := by
  unfold runeAt DI runeW
  rw [if_pos h, TE s p h]; exact ⟨rfl, rfl⟩
theorem UF {s : List UInt8} {p : Nat} (h : p < s.length) : s.drop p ≠ [] := fun e => by
  have := congrArg List.length e
  rw [List.length_drop, List.length_nil] at this; omega
theorem Qg {s : List UInt8} {p : Nat} (h : p < s.length) : p < DI s p ∧ DI s p ≤ s.length := by
  have := UG _ (UF h)
  rw [List.length_drop] at this
  rw [(QO h).2]; omega
theorem Lx {s : List UInt8} {p : Nat} (h : p < s.length) : EK (s.drop p) = (runeAt s p : Int) :: EK (s.drop (DI s p)) := by
  rw [Jn (UF h), (QO h).1, (QO h).2, List.drop_drop]
theorem MU {s : List UInt8} {p : Nat} (h : ¬ p < s.length) : EK (s.drop p) = [] := by
  rw [List.drop_of_length_le (by omega)]; rfl
theorem VO {n : Int} (h : okR n) : Utf8.valid n = true := by
  unfold okR at h; unfold Utf8.valid
  simp only [Bool.or_eq_true, Bool.and_eq_true, decide_eq_true_eq]; omega
theorem Iu {n : Nat} (h : n < 256) : (UInt8.ofNat n).toNat = n := by rw [UInt8.toNat_ofNat']; omega
theorem LH {p : Prop} [Decidable p] (a b : ByteArray) (x y : List UInt8) (ha : a.data.toList = x) (hb : b.data.toList = y) : (if p then a else b).data.toList = if p then x else y := by
  split <;> assumption
theorem Xp (n : Int) (c : Nat) (h : (if Utf8.valid n then n.toNat else Utf8.runeError) = c) : (Utf8.encode n).data.toList = if c < 128 then [UInt8.ofNat c] else if c < 2048 then [UInt8.ofNat (192 + c / 64), UInt8.ofNat (128 + c % 64)]
    else if c < 65536 then [UInt8.ofNat (224 + c / 4096), UInt8.ofNat (128 + c / 64 % 64), UInt8.ofNat (128 + c % 64)]
    else [UInt8.ofNat (240 + c / 262144), UInt8.ofNat (128 + c / 4096 % 64), UInt8.ofNat (128 + c / 64 % 64), UInt8.ofNat (128 + c % 64)] := by
  subst h
  exact LH _ _ _ _ rfl (LH _ _ _ _ rfl (LH _ _ _ _ rfl rfl))
theorem UZ (n : Int) : Jo n = (Utf8.encode n).data.toList := rfl
theorem eU {c : Nat} (h : okR (c : Int)) : (if Utf8.valid (c : Int) = true then (c : Int).toNat else Utf8.runeError) = c := by
  have h1 := VO h
  exact (if_pos h1).trans (Int.toNat_natCast c)
theorem KM {c : Nat} (h : okR (c : Int)) : Jo (c : Int) = if c < 128 then [UInt8.ofNat c] else if c < 2048 then [UInt8.ofNat (192 + c / 64), UInt8.ofNat (128 + c % 64)]
    else if c < 65536 then [UInt8.ofNat (224 + c / 4096), UInt8.ofNat (128 + c / 64 % 64), UInt8.ofNat (128 + c % 64)]
    else [UInt8.ofNat (240 + c / 262144), UInt8.ofNat (128 + c / 4096 % 64), UInt8.ofNat (128 + c / 64 % 64), UInt8.ofNat (128 + c % 64)] := 
 (UZ _).trans (Xp _ c (eU h))
theorem Xt {c : Nat} (h : okR (c : Int)) (r : List UInt8) : dec (Jo (c : Int) ++ r) = (c, (Jo (c : Int)).length) := by
  rw [KM h]
  unfold okR at h
  split
  · rename_i h1
    unfold dec
    simp only [List.cons_append, List.nil_append, List.getD_cons_zero, Iu (show c < 256 by omega)]
    unfold LS; rw [if_pos h1]; rfl
  · split
    · rename_i h0 h1
      unfold dec
      simp only [List.cons_append, List.nil_append, List.getD_cons_zero, List.getD_cons_succ, Iu (show 192 + c / 64 < 256 by omega), Iu (show 128 + c % 64 < 256 by omega), List.length_cons]
      unfold LS Jf
      rw [if_neg (by omega), if_pos (by omega)]
      exact Prod.ext (by show 64 * (192 + c / 64 - 192) + (128 + c % 64 - 128) = c; omega) rfl
    · split
      · rename_i h0 h1 h2
        have e : 4096 * (224 + c / 4096 - 224) + 64 * (128 + c / 64 % 64 - 128) + (128 + c % 64 - 128) = c := by omega
        unfold dec
        simp only [List.cons_append, List.nil_append, List.getD_cons_zero, List.getD_cons_succ, Iu (show 224 + c / 4096 < 256 by omega), Iu (show 128 + c / 64 % 64 < 256 by omega), Iu (show 128 + c % 64 < 256 by omega), List.length_cons]
        unfold LS Jf
        rw [if_neg (by omega), if_neg (by omega), e, if_pos (by omega)]; rfl
      · rename_i h0 h1 h2
        have e : 262144 * (240 + c / 262144 - 240) + 4096 * (128 + c / 4096 % 64 - 128) + 64 * (128 + c / 64 % 64 - 128) + (128 + c % 64 - 128) = c := by omega
        unfold dec
        simp only [List.cons_append, List.nil_append, List.getD_cons_zero, List.getD_cons_succ, Iu (show 240 + c / 262144 < 256 by omega), Iu (show 128 + c / 4096 % 64 < 256 by omega), Iu (show 128 + c / 64 % 64 < 256 by omega), Iu (show 128 + c % 64 < 256 by omega), List.length_cons]
        unfold LS Jf
        rw [if_neg (by omega), if_neg (by omega), if_neg (by omega), e, if_pos (by omega)]; rfl
theorem Wg {c : Nat} (h : okR (c : Int)) : Jo (c : Int) ≠ [] := by
  rw [KM h]
  split
  · exact List.cons_ne_nil _ _
  · split
    · exact List.cons_ne_nil _ _
    · split <;> exact List.cons_ne_nil _ _
theorem MT : ∀ (l : List Int), (∀ n ∈ l, okR n) → EK (PY l) = l
  | [], _ => rfl
  | n :: l, h => by
    have hn := h n (by simp)
    obtain ⟨c, rfl⟩ : ∃ c : Nat, n = (c : Int) := ⟨n.toNat, by unfold okR at hn; omega⟩
    have e := Xt hn (PY l)
    have hne : Jo (c : Int) ++ PY l ≠ [] := fun h' => Wg hn (List.append_eq_nil_iff.mp h').1
    rw [PY, Jn hne, e]
    dsimp only
    rw [List.drop_left, MT l (fun n hn => h n (by simp [hn]))]
end Go.Proofs.YtjmdbbnnpmmpiaaGreatDoor
namespace Go.Proofs.YtjmdbbnnpmmpiaaGreatDoor
open Go Go.RowKit Go.Eng
def LD (c : Int) : Bool := decide (((65 ≤ c ∧ c ≤ 90) ∨ (97 ≤ c ∧ c ≤ 122) ∨ c = 95 ∨ (192 ≤ c ∧ c ≤ 591) ∨ (913 ≤ c ∧ c ≤ 969) ∨ (1024 ≤ c ∧ c ≤ 1279)) ∧ c ≠ 215 ∧ c ≠ 247 ∧ c ≠ 930)
def inR (c : Int) : Bool := LD c || decide ((48 ≤ c ∧ c ≤ 57) ∨ c = 45 ∨ c = 46)
def WM (l : List Int) : Bool := decide (1 ≤ l.length ∧ l.length ≤ 24) && LD (l[0]!) && l.all inR
end Go.Proofs.YtjmdbbnnpmmpiaaGreatDoor
