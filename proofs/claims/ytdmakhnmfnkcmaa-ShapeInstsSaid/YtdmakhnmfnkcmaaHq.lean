/- Layer 8: what the program's functions answer (sums, slots, instances), and so the laws. Conditions: fuel above 3000. -/
import Derived.Test.YtdmakhnmfnkcmaaHp
import Derived.Test.YtdmakhnmfnkcmaaHf
import Derived.Test.YtdmakhnmfnkcmaaHg
import Derived.Test.YtdmakhnmfnkcmaaHi
namespace Go.Proofs.Ytdmakhnmfnkcmaa
open Go Go.RowKit Go.Eng
theorem bits_s (N : Nat) (hN : 3000 < N) (h0 : List UInt8) (h1 : List Fd) (h2 h3 h4 h5 : Int) (hl : Lt h0 h1) : shape_Bits_v1_m N h0 h1 h2 h3 h4 h5 = some (bitsH h0 h1 h2 h3 h4 h5) := by
  unfold shape_Bits_v1_m bitsH
  rw [pmay_s N hN _ _ _ _ _ _ hl, Option.bind_some]
  by_cases h : mayH h0 h1 h2 h3 h4 h5 = 0
  · rw [if_neg (fun h2 => h2 h), if_pos h, width_s N hN h1 (mayH_ok h).1 hl.1]; rfl
  · rw [if_pos h, if_neg h]
theorem bitsH_ge (h0 : List UInt8) (h1 : List Fd) (h2 h3 h4 h5 : Int) (hl : Lt h0 h1) : 0 ≤ bitsH h0 h1 h2 h3 h4 h5 ∧ bitsH h0 h1 h2 h3 h4 h5 ≤ 5120 := by
  have := hl.1
  unfold bitsH
  by_cases h : mayH h0 h1 h2 h3 h4 h5 = 0
  · rw [if_pos h]; have := okW_sum _ (mayH_ok h).1; omega
  · rw [if_neg h]; omega
theorem bytes_s (N : Nat) (hN : 3000 < N) (h0 : List UInt8) (h1 : List Fd) (h2 h3 h4 h5 : Int) (hl : Lt h0 h1) : shape_Bytes_v1_m N h0 h1 h2 h3 h4 h5 = some (bitsH h0 h1 h2 h3 h4 h5 / 8) := by
  have := bitsH_ge h0 h1 h2 h3 h4 h5 hl
  rw [shape_Bytes_v1_m, bits_s N hN _ _ _ _ _ _ hl, Option.bind_some, ck_pos _ (by omega)]
theorem most_s (N : Nat) (hN : 3000 < N) (h0 : List UInt8) (h1 : List Fd) (h2 h3 h4 h5 : Int) (hl : Lt h0 h1) : shape_Most_v1_m N h0 h1 h2 h3 h4 h5 = some (mostH h0 h1 h2 h3 h4 h5) := by
  unfold shape_Most_v1_m mostH
  rw [pmay_s N hN _ _ _ _ _ _ hl, Option.bind_some]
  by_cases h : mayH h0 h1 h2 h3 h4 h5 = 0
  · have hv := varB_var (mayH_ok h).2.2.2.2
    have hs := okW_sum _ (mayH_ok h).1
    have hlen := hl.1
    rw [if_neg (fun h2 => h2 h), if_pos h, width_s N hN _ (mayH_ok h).1 hlen, Option.bind_some, ck_pos _ (by omega), ck_pos _ (by omega)]
  · rw [if_pos h, if_neg h]
theorem offset_s (N : Nat) (hN : 3000 < N) (h0 : List UInt8) (h1 : List Fd) (h2 h3 h4 h5 f : Int) (hl : Lt h0 h1) (hm : mayH h0 h1 h2 h3 h4 h5 = 0) : shape_Offset_v1_m N h0 h1 h2 h3 h4 h5 f = some (offH h0 h1 h2 h3 h4 h5 f) := by
  have hlen := hl.1
  unfold shape_Offset_v1_m offH
  rw [ck_pos _ (by omega), within8_s, Option.bind_some]
  by_cases a : 0 ≤ f ∧ f ≤ (h1.length : Int) - 1
  rotate_left
  · rw [decide_eq_false a, if_neg (by decide), if_neg (by omega)]
  rw [decide_eq_true a, if_pos rfl, if_pos ⟨hm, by omega, by omega⟩, ck_pos _ (by omega), List.drop_zero, width_s N hN _ (okW_take (mayH_ok hm).1 _) (by rw [List.length_take]; omega), Option.bind_some]
theorem shapesH (N : Nat) (hN : 3000 < N) : ShapesH N where
  may := fun _ _ _ _ _ _ hl => pmay_s N hN _ _ _ _ _ _ hl
  bits := fun _ _ _ _ _ _ hl => bits_s N hN _ _ _ _ _ _ hl
  bytes := fun _ _ _ _ _ _ hl => bytes_s N hN _ _ _ _ _ _ hl
  offset := fun _ _ _ _ _ _ _ hl hm => offset_s N hN _ _ _ _ _ _ _ hl hm
theorem slotsOf_s (N : Nat) (x0 : List UInt8) (x1 x2 : Int) : shape_slotsOf_m N x0 x1 x2 = some (dep x2 : Int) := by
  unfold shape_slotsOf_m dep shape_mayDepth_m
  rw [within8_s, Option.bind_some, Option.bind_some]
  by_cases h : 0 ≤ x2 ∧ x2 ≤ 4
  · rw [decide_eq_true h, if_pos rfl, if_pos h]; congr 1; omega
  · rw [decide_eq_false h, if_neg (by decide), if_neg h]; rfl
theorem slots_loop (N : Nat) (l : List Ins) (hl : l.length ≤ 40) : ∀ (k f i : Nat), i + k = l.length → k < f → shape_Slots_l3 N l f (total (l.take i) : Int) (i : Int) = some (total l : Int) := by
  intro k
  induction k with
  | zero =>
    intro f i hi hf
    obtain ⟨f, rfl⟩ : ∃ n, f = n + 1 := ⟨f - 1, by omega⟩
    rw [shape_Slots_l3, if_neg (by omega), List.take_of_length_le (by omega)]
  | succ k ih =>
    intro f i hi hf
    obtain ⟨f, rfl⟩ : ∃ n, f = n + 1 := ⟨f - 1, by omega⟩
    have e1 : (i : Int) + 1 = ((i + 1 : Nat) : Int) := by omega
    have ht := total_take l i (by omega)
    have h4 := total_le (l.take (i + 1))
    have hlt : (l.take (i + 1)).length ≤ 40 := by rw [List.length_take]; omega
    rw [shape_Slots_l3, if_pos (by omega), ck_pos _ (by omega), slotsOf_s, Option.bind_some, Int.toNat_natCast, show (total (l.take i) : Int) + (dep (l[i]!).2.2 : Int) = ((total (l.take (i + 1)) : Nat) : Int) from by omega, ck_pos _ (by omega), ck_pos _ (by omega), e1]
    exact ih f (i + 1) (by omega) (by omega)
theorem slots_s (N : Nat) (hN : 3000 < N) (l : List Ins) (hl : l.length ≤ 40) : shape_Slots_m N l = some (total l : Int) := slots_loop N l hl l.length N 0 (by omega) (by omega)
theorem pfirst_s (N : Nat) (hN : 3000 < N) (l : List Ins) (i : Int) (hl : l.length ≤ 40) : shape_First_m N l i = some (firstL l i) := by
  unfold shape_First_m firstL
  rw [ck_pos _ (by omega), within8_s, Option.bind_some]
  by_cases a : 0 ≤ i ∧ i ≤ (l.length : Int) - 1
  rotate_left
  · rw [decide_eq_false a, if_neg (by decide), if_neg (by omega)]
  rw [decide_eq_true a, if_pos rfl, ck_pos _ (by omega), slotsOf_s, Option.bind_some]
  by_cases c : dep (l[i.toNat]!).2.2 = 0
  · rw [if_pos (by omega), if_neg (fun h => h.2.2 c)]
  rw [if_neg (by omega), if_pos ⟨by omega, by omega, c⟩, shape_First_k1, ck_pos _ (by omega), List.drop_zero, slots_s N hN _ (by rw [List.length_take]; omega), Option.bind_some]
theorem of_loop (N : Nat) (l : List Ins) (hl : l.length ≤ 40) : ∀ (k f i : Nat) (s : Int), i + k = l.length → k < f → 0 ≤ s → s ≤ 1000 → shape_Of_l3 N l f s (i : Int) = some (ofF i (l.drop i) s) := by
  intro k
  induction k with
  | zero =>
    intro f i s hi hf h0 h1
    obtain ⟨f, rfl⟩ : ∃ n, f = n + 1 := ⟨f - 1, by omega⟩
    rw [shape_Of_l3, if_neg (by omega), List.drop_of_length_le (by omega)]; rfl
  | succ k ih =>
    intro f i s hi hf h0 h1
    obtain ⟨f, rfl⟩ : ∃ n, f = n + 1 := ⟨f - 1, by omega⟩
    have e1 : (i : Int) + 1 = ((i + 1 : Nat) : Int) := by omega
    rw [shape_Of_l3, if_pos (by omega), ck_pos _ (by omega), slotsOf_s, Option.bind_some, Int.toNat_natCast, consI l i (by omega), ofF]
    by_cases a : s < (dep (l[i]!).2.2 : Int)
    · rw [if_pos a, if_pos a]
    · rw [if_neg a, if_neg a, ck_pos _ (by omega), ck_pos _ (by omega), e1]
      exact ih f (i + 1) _ (by omega) (by omega) (by omega) (by omega)
theorem of_s (N : Nat) (hN : 3000 < N) (l : List Ins) (k : Int) (hl : l.length ≤ 40) (h0 : -1 ≤ k) (h1 : k ≤ 1000) : shape_Of_m N l k = some (ofL l k) := by
  unfold shape_Of_m ofL
  by_cases a : k < 0
  · rw [if_pos a, if_pos a]
  rw [if_neg a, if_neg a]
  exact of_loop N l hl l.length N 0 k (by omega) (by omega) (by omega) h1
theorem shapesI (N : Nat) (hN : 3000 < N) : ShapesI N where
  slots := fun l hl => slots_s N hN l hl
  first := fun l i hl => pfirst_s N hN l i hl
  of := fun l k hl h0 h1 => of_s N hN l k hl h0 h1
theorem ofF_fst : ∀ (l : List Ins) (i : Nat) (k : Int), (ofF i l k).2.2 = true → (i : Int) ≤ (ofF i l k).1 ∧ (ofF i l k).1 < ((i + l.length : Nat) : Int)
  | [], _, _, h => by cases h
  | x :: r, i, k, h => by
    rw [ofF] at h ⊢
    by_cases a : k < (dep x.2.2 : Int)
    · rw [if_pos a]; rw [List.length_cons]; exact ⟨Int.le_refl _, by show (i : Int) < _; omega⟩
    · rw [if_neg a] at h ⊢
      have := ofF_fst r (i + 1) _ h
      rw [List.length_cons]; omega
theorem clone_s (N : Nat) (s : List UInt8) (hs : s.length ≤ 140737488355328) : strings_Clone_m N s = some s := by
  rw [strings_Clone_m, internal_stringslite_Clone_m]
  by_cases c : s.length = 0
  · rw [if_pos (by omega), List.length_eq_zero_iff.1 c]; rfl
  have e : s.take (List.replicate ((s.length : Int)).toNat (0 : UInt8)).length ++ (List.replicate ((s.length : Int)).toNat (0 : UInt8)).drop s.length = s := by
    rw [Int.toNat_natCast, List.length_replicate, List.take_length, List.drop_of_length_le (by rw [List.length_replicate]; exact Nat.le_refl _), List.append_nil]
  rw [if_neg (by omega), ck_pos _ (by omega), e, ck_pos _ (by omega), ck_pos _ hs]; rfl
/-- Headers that are short enough to be laid anew. -/
def Cl (h1 : List Fd) : Prop := h1.length ≤ 5864062014805 ∧ ∀ x ∈ h1, x.1.length ≤ 140737488355328
theorem fresh_loop (N : Nat) (h0 : List UInt8) (h1 : List Fd) (h2 h3 h4 h5 : Int) (hc : Cl h1) :
    ∀ (k f i : Nat), i + k = h1.length → k < f → shape_fresh_v1_l3 N h2 h3 h4 h5 h0 h1 f (i : Int) h1 = some (h0, h1, h2, h3, h4, h5) := by
  have hl := hc.1
  intro k
  induction k with
  | zero =>
    intro f i hi hf
    obtain ⟨f, rfl⟩ : ∃ n, f = n + 1 := ⟨f - 1, by omega⟩
    rw [shape_fresh_v1_l3, if_neg (by omega)]
  | succ k ih =>
    intro f i hi hf
    obtain ⟨f, rfl⟩ : ∃ n, f = n + 1 := ⟨f - 1, by omega⟩
    have e1 : (i : Int) + 1 = ((i + 1 : Nat) : Int) := by omega
    have hx := hc.2 (h1[i]!) (by rw [getElem!_pos h1 i (by omega)]; exact List.getElem_mem _)
    have es : h1.set i ((h1[i]!).1, (h1[i]!).2) = h1 := by
      rw [getElem!_pos h1 i (by omega)]
      exact List.set_getElem_self (by omega)
    rw [shape_fresh_v1_l3, if_pos (by omega), ck_pos _ (by omega), Int.toNat_natCast, clone_s N _ hx, Option.bind_some, ck_pos _ (by omega), ck_pos _ (by omega), e1, es]
    exact ih f (i + 1) (by omega) (by omega)
theorem fresh_s (N : Nat) (h0 : List UInt8) (h1 : List Fd) (h2 h3 h4 h5 : Int) (h0l : h0.length ≤ 140737488355328) (hc : Cl h1) (hN : h1.length < N) : shape_fresh_v1_m N h0 h1 h2 h3 h4 h5 = some (h0, h1, h2, h3, h4, h5) := by
  have hl := hc.1
  rw [shape_fresh_v1_m, clone_s N _ h0l, Option.bind_some, slices_Clone___api_Field_api_Field__m, List.nil_append, ck_pos _ (by rw [List.length_nil]; omega), Option.bind_some]
  exact fresh_loop N h0 h1 h2 h3 h4 h5 hc h1.length N 0 (by omega) hN
/-- All of the headers are short enough, and the fuel is more than each of them has fields. -/
def Cls (N : Nat) (hs : List Hd) : Prop := ∀ h ∈ hs, h.1.length ≤ 140737488355328 ∧ Cl h.2.1 ∧ h.2.1.length < N
theorem header_s (N : Nat) (hN : 3000 < N) (hs : List Hd) (hC : Cls N hs) (l : List Ins) (k : Int) (hl : Ft hs.length l) (h0 : -1 ≤ k) (h1 : k ≤ 1000) : shape_Header_m N hs l k = some (hdL hs l k) := by
  have h30 := hl.1
  unfold shape_Header_m hdL
  rw [of_s N hN l k hl.2.1 h0 h1, Option.bind_some]
  by_cases a : (ofL l k).2.2 = true
  rotate_left
  · rw [if_neg a, if_neg (fun h => a h.1)]
  have hr : 0 ≤ (ofL l k).1 ∧ (ofL l k).1 < (l.length : Int) := by
    unfold ofL at a ⊢
    by_cases b : k < 0
    · rw [if_pos b] at a; cases a
    · rw [if_neg b] at a ⊢; have := ofF_fst l 0 k a; omega
  rw [if_pos a, ck_pos _ hr, ck_pos _ (by omega), within8_s, Option.bind_some]
  by_cases b : 0 ≤ (l[(ofL l k).1.toNat]!).2.1 ∧ (l[(ofL l k).1.toNat]!).2.1 ≤ (hs.length : Int) - 1
  · have hm := hC (hs[((l[(ofL l k).1.toNat]!).2.1).toNat]!) (by rw [getElem!_pos hs _ (by omega)]; exact List.getElem_mem _)
    rw [decide_eq_true b, if_pos rfl, if_pos ⟨a, by omega, by omega⟩, shape_Header_k1, ck_pos _ hr, ck_pos _ (by omega), fresh_s N _ _ _ _ _ _ hm.1 hm.2.1 hm.2.2, Option.bind_some]
  · rw [decide_eq_false b, if_neg (by decide), if_neg (fun h => b (by omega))]
theorem gathI (N : Nat) (l : List Ins) (hl : l.length ≤ 1000) : ∀ (k f i : Nat), i + k = l.length → k < f →
    shape_gather_v2_l3 N (l.length : Int) l f ((l.take i).map (·.1) ++ List.replicate (l.length - i) []) (i : Int) = some (l.map (·.1)) := by
  intro k
  induction k with
  | zero =>
    intro f i hi hf
    obtain ⟨f, rfl⟩ : ∃ n, f = n + 1 := ⟨f - 1, by omega⟩
    rw [shape_gather_v2_l3, if_neg (by omega), List.take_of_length_le (by omega), show l.length - i = 0 from by omega, List.replicate_zero, List.append_nil]
  | succ k ih =>
    intro f i hi hf
    obtain ⟨f, rfl⟩ : ∃ n, f = n + 1 := ⟨f - 1, by omega⟩
    have e1 : (i : Int) + 1 = ((i + 1 : Nat) : Int) := by omega
    rw [shape_gather_v2_l3, if_pos (by omega), shape_instNames_1_v1_m, ck_pos _ (by omega), Option.bind_some, ck_pos _ (by rw [gath_len _ _ _ (by omega)]; omega), ck_pos _ (by omega), e1, Int.toNat_natCast, set_gatherG _ l i (by omega)]
    exact ih f (i + 1) (by omega) (by omega)
theorem instNames_s (N : Nat) (l : List Ins) (hl : l.length ≤ 1000) (hN : l.length < N) : shape_instNames_m N l = some (l.map (·.1)) := by
  have := gathI N l hl l.length N 0 (by omega) hN
  rw [shape_instNames_m, shape_gather_v2_m, ck_pos _ (by omega), Int.toNat_natCast]
  have e : shape_gather_v2_l3 N (l.length : Int) l N (List.replicate l.length []) 0 = some (l.map (·.1)) := this
  rw [e]; rfl
theorem find_s (N : Nat) (hN : 3000 < N) (l : List Ins) (hl : l.length ≤ 40) (s : List UInt8) (hs : s.length ≤ 300) (hall : ∀ j, j < l.length → ((l[j]!).1).length ≤ 300) : shape_Find_m N l s = some (idxL (l.map (·.1)) s) := by
  rw [shape_Find_m, instNames_s N l (by omega) (by omega), Option.bind_some, index_s N _ s hN (by rw [List.length_map]; omega) hs (fun j hj => by
      rw [List.length_map] at hj
      have := hall j hj
      rw [names_get (fun x : Ins => x.1) l j hj]; exact this), Option.bind_some, idxF_key]
  rfl
theorem pinsts_loop (N : Nat) (hN : 3000 < N) (hs : List Hd) (l : List Ins) (hl : Ft hs.length l) :
    ∀ (k f i : Nat), i + k = l.length → k < f → shape_Insts_l2 N hs l (l.map (·.1)) f (i : Int) = some (finI l (goI hs.length (l.take i) (l.drop i))) := by
  have h40 := hl.2.1
  have h30 := hl.1
  intro k
  induction k with
  | zero =>
    intro f i hi hf
    obtain ⟨f, rfl⟩ : ∃ n, f = n + 1 := ⟨f - 1, by omega⟩
    rw [shape_Insts_l2, if_neg (by omega), List.drop_of_length_le (by omega), goI, finI, if_pos rfl, slots_s N hN l h40, Option.bind_some]
    by_cases c : 32 < total l
    · rw [if_pos c, if_pos (by omega)]
    · rw [if_neg c, if_neg (by omega)]
  | succ k ih =>
    intro f i hi hf
    obtain ⟨f, rfl⟩ : ∃ n, f = n + 1 := ⟨f - 1, by omega⟩
    have e1 : (i : Int) + 1 = ((i + 1 : Nat) : Int) := by omega
    have en := names_get (fun x : Ins => x.1) l i (by omega)
    rw [shape_Insts_l2, if_pos (by omega), ck_pos _ (by omega), Int.toNat_natCast, mayName_s N hN _ i (by rw [List.length_map]; omega) (by rw [List.length_map]; omega) (fun j hj => by
        rw [List.length_map] at hj
        have := hl.2.2 j hj
        rw [names_get (fun x : Ins => x.1) l j hj]; omega), Option.bind_some, en, any_names, consI l i (by omega), goI]
    by_cases c1 : plainL (l[i]!).1 = true
    rotate_left
    · rw [if_neg c1, if_neg c1]; rfl
    rw [if_pos c1, if_pos c1]
    by_cases c2 : (l.take i).any (fun x => alikeL x.1 (l[i]!).1) = true
    · rw [if_pos c2, if_pos c2]; rfl
    rw [if_neg c2, if_neg c2, if_neg (fun h => h rfl), ck_pos _ (by omega), within8_s, Option.bind_some]
    by_cases c3 : (l[i]!).2.1 < 0 ∨ (hs.length : Int) ≤ (l[i]!).2.1
    · rw [decide_eq_false (by omega), if_neg (by decide), if_pos c3]; rfl
    rw [decide_eq_true (by omega), if_pos rfl, if_neg c3, shape_mayDepth_m, within8_s, Option.bind_some, Option.bind_some]
    by_cases c4 : (l[i]!).2.2 < 0 ∨ 4 < (l[i]!).2.2
    · rw [decide_eq_false (by omega), if_neg (by decide), if_pos c4]; rfl
    rw [decide_eq_true (by omega), if_pos rfl, if_neg c4, ck_pos _ (by omega), e1, ih f (i + 1) (by omega) (by omega), takeS l i (by omega)]
theorem pinsts_s (N : Nat) (hN : 3000 < N) (hs : List Hd) (l : List Ins) (hl : Ft hs.length l) : shape_Insts_m N hs l = some (instsL hs.length l) := by
  have := pinsts_loop N hN hs l hl l.length N 0 (by omega) (by have := hl.2.1; omega)
  have h40 := hl.2.1
  unfold shape_Insts_m instsL
  by_cases c : 16 < l.length
  · rw [if_pos c, if_pos (by omega)]
  · rw [if_neg c, if_neg (by omega), instNames_s N l (by omega) (by omega), Option.bind_some]
    exact this
/-! ### the laws -/
theorem offsets_s (N : Nat) (hN : 3000 < N) (h0 : List UInt8) (h1 : List Fd) (h2 h3 h4 h5 : Int) : shunterlaw08_ShapeOffsets_v1_m N h0 h1 h2 h3 h4 h5 = some true :=
  shapeOffsets_true N hN (shapesH N hN) (fun _ _ _ _ _ _ hl => most_s N hN _ _ _ _ _ _ hl) h0 h1 h2 h3 h4 h5
theorem insts_s (N : Nat) (hN : 3000 < N) (hs : List Hd) (hC : Cls N hs) (l : List Ins) (s : List UInt8) : shunterlaw08_ShapeInsts_m N hs l s = some true :=
  shapeInsts_true N hN (shapesI N hN) (shapesH N hN).lives (fun hs l hl => pinsts_s N hN hs l hl) (fun l s hl hs => find_s N hN l hl.2.1 s (by omega) (fun j hj => by have := hl.2.2 j hj; omega)) hs (fun l k hl h0 h1 => header_s N hN hs hC l k hl h0 h1) l s
/-- Fuel for all of the headers. -/
def fuelH (hs : List Hd) : Nat := 4000 + (hs.map (fun h => h.2.1.length)).sum
theorem sum_ge : ∀ (l : List Nat) (x : Nat), x ∈ l → x ≤ l.sum
  | y :: l, x, h => by
    rw [List.sum_cons]
    rcases List.mem_cons.1 h with h | h
    · omega
    · have := sum_ge l x h; omega
theorem cls_of {hs : List Hd} (h : ∀ h ∈ hs, h.1.length ≤ reachBytes ∧ (h.2.1.length * 24 ≤ reachBytes ∧ ∀ x ∈ h.2.1, x.1.length ≤ reachBytes)) : Cls (fuelH hs) hs := fun x hx => by
  have hr : reachBytes = 140737488351232 := rfl
  obtain ⟨a, b, c⟩ := h x hx
  refine ⟨by omega, ⟨by omega, fun y hy => by have := c y hy; omega⟩, ?_⟩
  have := sum_ge _ _ (List.mem_map.2 ⟨x, hx, rfl⟩ : x.2.1.length ∈ hs.map (fun h => h.2.1.length))
  unfold fuelH; omega
theorem insts_ss (hs : List Hd) (h : ∀ h ∈ hs, h.1.length ≤ reachBytes ∧ (h.2.1.length * 24 ≤ reachBytes ∧ ∀ x ∈ h.2.1, x.1.length ≤ reachBytes)) (l : List Ins) (s : List UInt8) : shunterlaw08_ShapeInsts_m (fuelH hs) hs l s = some true :=
  insts_s (fuelH hs) (by unfold fuelH; omega) hs (cls_of h) l s
theorem fits_s (N : Nat) (hN : 3000 < N) (l : List Ins) : shunterlaw08_ShapeFits_m N l = some true := shapeFits_true N hN (shapesI N hN) (shapesH N hN).lives l
end Go.Proofs.Ytdmakhnmfnkcmaa
