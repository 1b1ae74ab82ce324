/- What is proved: the statement WireReads: for every input the law returns true, and each argument reads afterwards as before. Conditions: none. -/
import Derived.Test.YtdgejbbelmhbdaaWd
import Derived.Test.YtdgejbbelmhbdaaLr
import Derived.LaidMore
namespace Go.Proofs.Ytdgejbbelmhbdaa
open Go Go.RowKit Go.Eng Go.ChangeShapes Go.WideShapes Go.ChangeAt Go.Joins Go.Deep
theorem own : ownKnob Try.prog.godebug = none := by kernel_rfl
theorem laidOut : laidOutB Try.prog = true := by kernel_rfl
theorem cells_25 : Try.prog.cellsOf 25 = 1 := by kernel_rfl
theorem cells_5 : Try.prog.cellsOf 5 = 1 := by kernel_rfl
set_option maxRecDepth 100000 in
theorem op_5 {H : Type} {enc : TypeId × Value → H} {W : World} {fuel : Nat} {cs : List Value} {y : DataW H × List MemPlace} (h : DataW.trod enc Try.prog W 0 (fun _ => true) true fuel 5 cs = some y) : ∃ x : UInt8, cs = encY.f x := by
  obtain ⟨n, rfl, _, hw⟩ := DataW.trod_int (k := .u8) rfl h
  obtain ⟨x, rfl⟩ := u8_of_wf hw; exact ⟨x, rfl⟩
set_option maxRecDepth 100000 in
theorem op_25 {H : Type} {enc : TypeId × Value → H} {W : World} {fuel : Nat} {cs : List Value} {y : DataW H × List MemPlace} (h : DataW.trod enc Try.prog W 0 (fun _ => true) true fuel 25 cs = some y) : ∃ (s : Value) (xs : List UInt8), cs = [s] ∧ Rd encY (fun a => W.cell? a) s xs :=
  rd_of_trod encY rfl cells_5 (fun _ _ _ hy => op_5 hy) h
theorem cells_22 : Try.prog.cellsOf 22 = 1 := by kernel_rfl
theorem cells_34 : Try.prog.cellsOf 34 = 10 := by kernel_rfl
theorem cells_3 : Try.prog.cellsOf 3 = 1 := by kernel_rfl
set_option maxRecDepth 100000 in
theorem op_3 {H : Type} {enc : TypeId × Value → H} {W : World} {fuel : Nat} {cs : List Value} {y : DataW H × List MemPlace} (h : DataW.trod enc Try.prog W 0 (fun _ => true) true fuel 3 cs = some y) : ∃ x : Int, cs = [.int .i64 x] := by
  obtain ⟨n, rfl, _, _⟩ := DataW.trod_int (k := .i64) rfl h; exact ⟨n, rfl⟩
theorem cells_30 : Try.prog.cellsOf 30 = 3 := by kernel_rfl
theorem cells_28 : Try.prog.cellsOf 28 = 1 := by kernel_rfl
set_option maxRecDepth 100000 in
theorem op_28 {H : Type} {enc : TypeId × Value → H} {W : World} {fuel : Nat} {cs : List Value} {y : DataW H × List MemPlace} (h : DataW.trod enc Try.prog W 0 (fun _ => true) true fuel 28 cs = some y) : ∃ x : BitVec 64, cs = [U x] := by
  obtain ⟨n, rfl, _, hw⟩ := DataW.trod_int (k := .u64) rfl h
  obtain ⟨x, rfl⟩ := u64_of_wf hw; exact ⟨x, rfl⟩
set_option maxRecDepth 100000 in
theorem op_30 {H : Type} {enc : TypeId × Value → H} {W : World} {fuel : Nat} {cs : List Value} {y : DataW H × List MemPlace} (h : DataW.trod enc Try.prog W 0 (fun _ => true) true fuel 30 cs = some y) : ∃ x : (Int × BitVec 128), cs = enc_30.f x := by
  obtain ⟨xs, n, _, _, hl, hlen, hf⟩ := DataW.trod_struct rfl h
  have hl2 : cs.length = 3 := hl.trans cells_30
  obtain ⟨c0, c1, c2, rfl⟩ : ∃ c0 c1 c2, cs = [c0, c1, c2] := by
    match cs, hl2 with
    | [c0, c1, c2], _ => exact ⟨c0, c1, c2, rfl⟩
  obtain ⟨y0, hy0⟩ : ∃ y, xs[0]? = some y := ⟨_, List.getElem?_eq_getElem (by rw [hlen]; decide)⟩
  have g0 : DataW.trod enc Try.prog W 0 (fun _ => true) true n 3 ((([c0, c1, c2] : List Value).drop 0).take (Try.prog.cellsOf 3)) = some y0 := (hf 0 _ rfl).trans hy0
  rw [cells_3] at g0
  have k0 : DataW.trod enc Try.prog W 0 (fun _ => true) true n 3 [c0] = some y0 := g0
  obtain ⟨y1, hy1⟩ : ∃ y, xs[1]? = some y := ⟨_, List.getElem?_eq_getElem (by rw [hlen]; decide)⟩
  have g1 : DataW.trod enc Try.prog W 0 (fun _ => true) true n 28 ((([c0, c1, c2] : List Value).drop 1).take (Try.prog.cellsOf 28)) = some y1 := (hf 1 _ rfl).trans hy1
  rw [cells_28] at g1
  have k1 : DataW.trod enc Try.prog W 0 (fun _ => true) true n 28 [c1] = some y1 := g1
  obtain ⟨y2, hy2⟩ : ∃ y, xs[2]? = some y := ⟨_, List.getElem?_eq_getElem (by rw [hlen]; decide)⟩
  have g2 : DataW.trod enc Try.prog W 0 (fun _ => true) true n 28 ((([c0, c1, c2] : List Value).drop 2).take (Try.prog.cellsOf 28)) = some y2 := (hf 2 _ rfl).trans hy2
  rw [cells_28] at g2
  have k2 : DataW.trod enc Try.prog W 0 (fun _ => true) true n 28 [c2] = some y2 := g2
  obtain ⟨x0, e0⟩ := op_3 k0
  obtain rfl := (List.cons.inj e0).1
  obtain ⟨x1, e1⟩ := op_28 k1
  obtain rfl := (List.cons.inj e1).1
  obtain ⟨x2, e2⟩ := op_28 k2
  obtain rfl := (List.cons.inj e2).1
  exact ⟨(x0, x1 ++ x2), by simp only [enc_30, hi_app, lo_app]⟩
theorem cells_9 : Try.prog.cellsOf 9 = 1 := by kernel_rfl
set_option maxRecDepth 100000 in
theorem op_9 {H : Type} {enc : TypeId × Value → H} {W : World} {fuel : Nat} {cs : List Value} {y : DataW H × List MemPlace} (h : DataW.trod enc Try.prog W 0 (fun _ => true) true fuel 9 cs = some y) : ∃ x : List UInt8, cs = encS.f x := by
  obtain ⟨s, rfl, _, _⟩ := DataW.trod_string rfl h; exact ⟨s.data.toList, rfl⟩
theorem cells_31 : Try.prog.cellsOf 31 = 1 := by kernel_rfl
set_option maxRecDepth 100000 in
theorem op_31 {H : Type} {enc : TypeId × Value → H} {W : World} {fuel : Nat} {cs : List Value} {y : DataW H × List MemPlace} (h : DataW.trod enc Try.prog W 0 (fun _ => true) true fuel 31 cs = some y) : ∃ (s : Value) (xs : List (Int × BitVec 128)), cs = [s] ∧ Rd enc_30 (fun a => W.cell? a) s xs :=
  rd_of_trod enc_30 rfl cells_30 (fun _ _ _ hy => op_30 hy) h
theorem cells_32 : Try.prog.cellsOf 32 = 1 := by kernel_rfl
set_option maxRecDepth 100000 in
theorem op_32 {H : Type} {enc : TypeId × Value → H} {W : World} {fuel : Nat} {cs : List Value} {y : DataW H × List MemPlace} (h : DataW.trod enc Try.prog W 0 (fun _ => true) true fuel 32 cs = some y) : ∃ (s : Value) (xs : List Int), cs = [s] ∧ Rd encI (fun a => W.cell? a) s xs :=
  rd_of_trod encI rfl cells_3 (fun _ _ _ hy => op_3 hy) h
set_option maxRecDepth 100000 in
theorem op_34 {H : Type} {enc : TypeId × Value → H} {W : World} {fuel : Nat} {cs : List Value} {y : DataW H × List MemPlace} (h : DataW.trod enc Try.prog W 0 (fun _ => true) true fuel 34 cs = some y) : ∃ x : (Int × Int × Int × Int × Int × (BitVec 128) × (List UInt8) × (List (Int × BitVec 128)) × (List Int)), encr_34.R (fun a => W.cell? a) x cs := by
  obtain ⟨xs, n, _, _, hl, hlen, hf⟩ := DataW.trod_struct rfl h
  have hl2 : cs.length = 10 := hl.trans cells_34
  obtain ⟨c0, c1, c2, c3, c4, c5, c6, c7, c8, c9, rfl⟩ : ∃ c0 c1 c2 c3 c4 c5 c6 c7 c8 c9, cs = [c0, c1, c2, c3, c4, c5, c6, c7, c8, c9] := by
    match cs, hl2 with
    | [c0, c1, c2, c3, c4, c5, c6, c7, c8, c9], _ => exact ⟨c0, c1, c2, c3, c4, c5, c6, c7, c8, c9, rfl⟩
  obtain ⟨y0, hy0⟩ : ∃ y, xs[0]? = some y := ⟨_, List.getElem?_eq_getElem (by rw [hlen]; decide)⟩
  have g0 : DataW.trod enc Try.prog W 0 (fun _ => true) true n 3 ((([c0, c1, c2, c3, c4, c5, c6, c7, c8, c9] : List Value).drop 0).take (Try.prog.cellsOf 3)) = some y0 := (hf 0 _ rfl).trans hy0
  rw [cells_3] at g0
  have k0 : DataW.trod enc Try.prog W 0 (fun _ => true) true n 3 [c0] = some y0 := g0
  obtain ⟨y1, hy1⟩ : ∃ y, xs[1]? = some y := ⟨_, List.getElem?_eq_getElem (by rw [hlen]; decide)⟩
  have g1 : DataW.trod enc Try.prog W 0 (fun _ => true) true n 3 ((([c0, c1, c2, c3, c4, c5, c6, c7, c8, c9] : List Value).drop 1).take (Try.prog.cellsOf 3)) = some y1 := (hf 1 _ rfl).trans hy1
  rw [cells_3] at g1
  have k1 : DataW.trod enc Try.prog W 0 (fun _ => true) true n 3 [c1] = some y1 := g1
  obtain ⟨y2, hy2⟩ : ∃ y, xs[2]? = some y := ⟨_, List.getElem?_eq_getElem (by rw [hlen]; decide)⟩
  have g2 : DataW.trod enc Try.prog W 0 (fun _ => true) true n 3 ((([c0, c1, c2, c3, c4, c5, c6, c7, c8, c9] : List Value).drop 2).take (Try.prog.cellsOf 3)) = some y2 := (hf 2 _ rfl).trans hy2
  rw [cells_3] at g2
  have k2 : DataW.trod enc Try.prog W 0 (fun _ => true) true n 3 [c2] = some y2 := g2
  obtain ⟨y3, hy3⟩ : ∃ y, xs[3]? = some y := ⟨_, List.getElem?_eq_getElem (by rw [hlen]; decide)⟩
  have g3 : DataW.trod enc Try.prog W 0 (fun _ => true) true n 3 ((([c0, c1, c2, c3, c4, c5, c6, c7, c8, c9] : List Value).drop 3).take (Try.prog.cellsOf 3)) = some y3 := (hf 3 _ rfl).trans hy3
  rw [cells_3] at g3
  have k3 : DataW.trod enc Try.prog W 0 (fun _ => true) true n 3 [c3] = some y3 := g3
  obtain ⟨y4, hy4⟩ : ∃ y, xs[4]? = some y := ⟨_, List.getElem?_eq_getElem (by rw [hlen]; decide)⟩
  have g4 : DataW.trod enc Try.prog W 0 (fun _ => true) true n 30 ((([c0, c1, c2, c3, c4, c5, c6, c7, c8, c9] : List Value).drop 4).take (Try.prog.cellsOf 30)) = some y4 := (hf 4 _ rfl).trans hy4
  rw [cells_30] at g4
  have k4 : DataW.trod enc Try.prog W 0 (fun _ => true) true n 30 [c4, c5, c6] = some y4 := g4
  obtain ⟨y5, hy5⟩ : ∃ y, xs[5]? = some y := ⟨_, List.getElem?_eq_getElem (by rw [hlen]; decide)⟩
  have g5 : DataW.trod enc Try.prog W 0 (fun _ => true) true n 9 ((([c0, c1, c2, c3, c4, c5, c6, c7, c8, c9] : List Value).drop 7).take (Try.prog.cellsOf 9)) = some y5 := (hf 5 _ rfl).trans hy5
  rw [cells_9] at g5
  have k5 : DataW.trod enc Try.prog W 0 (fun _ => true) true n 9 [c7] = some y5 := g5
  obtain ⟨y6, hy6⟩ : ∃ y, xs[6]? = some y := ⟨_, List.getElem?_eq_getElem (by rw [hlen]; decide)⟩
  have g6 : DataW.trod enc Try.prog W 0 (fun _ => true) true n 31 ((([c0, c1, c2, c3, c4, c5, c6, c7, c8, c9] : List Value).drop 8).take (Try.prog.cellsOf 31)) = some y6 := (hf 6 _ rfl).trans hy6
  rw [cells_31] at g6
  have k6 : DataW.trod enc Try.prog W 0 (fun _ => true) true n 31 [c8] = some y6 := g6
  obtain ⟨y7, hy7⟩ : ∃ y, xs[7]? = some y := ⟨_, List.getElem?_eq_getElem (by rw [hlen]; decide)⟩
  have g7 : DataW.trod enc Try.prog W 0 (fun _ => true) true n 32 ((([c0, c1, c2, c3, c4, c5, c6, c7, c8, c9] : List Value).drop 9).take (Try.prog.cellsOf 32)) = some y7 := (hf 7 _ rfl).trans hy7
  rw [cells_32] at g7
  have k7 : DataW.trod enc Try.prog W 0 (fun _ => true) true n 32 [c9] = some y7 := g7
  obtain ⟨x0, e0⟩ := op_3 k0
  obtain rfl := (List.cons.inj e0).1
  obtain ⟨x1, e1⟩ := op_3 k1
  obtain rfl := (List.cons.inj e1).1
  obtain ⟨x2, e2⟩ := op_3 k2
  obtain rfl := (List.cons.inj e2).1
  obtain ⟨x3, e3⟩ := op_3 k3
  obtain rfl := (List.cons.inj e3).1
  obtain ⟨x4, e4⟩ := op_30 k4
  simp only [enc_30, List.cons.injEq, and_true] at e4
  obtain ⟨rfl, rfl, rfl⟩ := e4
  obtain ⟨x5, e5⟩ := op_9 k5
  obtain rfl := (List.cons.inj (show [c7] = [Value.string (⟨x5.toArray⟩)] from e5)).1
  obtain ⟨s6, x6, e6, r6⟩ := op_31 k6
  obtain rfl := (List.cons.inj e6).1
  obtain ⟨s7, x7, e7, r7⟩ := op_32 k7
  obtain rfl := (List.cons.inj e7).1
  exact ⟨(x0, x1, x2, x3, x4.1, x4.2, x5, x6, x7), _, _, r6, r7, rfl⟩
set_option maxRecDepth 100000 in
theorem op_22 {H : Type} {enc : TypeId × Value → H} {W : World} {fuel : Nat} {cs : List Value} {y : DataW H × List MemPlace} (h : DataW.trod enc Try.prog W 0 (fun _ => true) true fuel 22 cs = some y) : ∃ (s : Value) (xs : List (Int × Int × Int × Int × Int × (BitVec 128) × (List UInt8) × (List (Int × BitVec 128)) × (List Int))), cs = [s] ∧ RdN encr_34 (fun a => W.cell? a) s xs :=
  rdn_of_trod encr_34 rfl cells_34 (fun _ _ _ hy => op_34 hy) h
set_option maxRecDepth 100000 in
theorem wireReads_lifted (os : Os) (started : os.Started) (H : Type) (enc : TypeId × Value → H) :
    ReturnsInHanded {} Try.checked os 4 .any (Rows.wireReadsSpec.pre6 enc Try.prog Try.f4 Rows.wireReadsRow.domain false) (Rows.wireReadsSpec.post enc Try.prog Try.f4 false true false false) := by
  refine returnsInHanded_of_change (C := Try.checked) own started (by kernel_rfl) Try.func4
    (ChangeSpec.witness6 (enc := enc) (C := Try.checked) false ⟨#[], #[.slice none 0 0, .slice none 0 0], []⟩ 8 (by kernel_rfl) (by kernel_rfl) (by kernel_rfl) (by kernel_rfl)) ?_
  intro W base args ds gs before hval0 hW _ _
  have hval : ∀ (j : Nat) t v, Try.f4.params[j]? = some t → args[j]? = some v → Value.okWide Try.prog W .any base t v := hval0
  have hW' := hW
  obtain ⟨p, q, hA0, hV, rfl, _, _⟩ := hW
  have hA : DataW.TrodAll enc Try.prog W 0 (fun _ => true) true Try.f4.params.toList args.toList ds p := hA0
  rw [Try.params4] at hA hval
  obtain ⟨v0, v1, d0, d1, p0, p1, rfl, rfl, rfl, h0, h1⟩ := trodAll_two hA
  obtain ⟨rfl, rfl⟩ := trodVars_none hV
  obtain ⟨x0, r0⟩ : ∃ xs : List UInt8, Rd encY (fun a => W.cell? a) v0 xs := arg_slice (Q := fun v => ∃ xs : List UInt8, Rd encY (fun a => W.cell? a) v xs) (P := Try.prog) (t := 25) rfl (hval 0 25 v0 rfl rfl) h0 (fun _ _ _ hh => by obtain ⟨s, xs, h1, h2⟩ := op_25 hh; exact ⟨s, h1, xs, h2⟩)
  obtain ⟨x1, r1⟩ : ∃ xs : List (Int × Int × Int × Int × Int × (BitVec 128) × (List UInt8) × (List (Int × BitVec 128)) × (List Int)), RdN encr_34 (fun a => W.cell? a) v1 xs := arg_slice (Q := fun v => ∃ xs : List (Int × Int × Int × Int × Int × (BitVec 128) × (List UInt8) × (List (Int × BitVec 128)) × (List Int)), RdN encr_34 (fun a => W.cell? a) v xs) (P := Try.prog) (t := 22) rfl (hval 1 22 v1 rfl rfl) h1 (fun _ _ _ hh => by obtain ⟨s, xs, h1, h2⟩ := op_22 hh; exact ⟨s, h1, xs, h2⟩)
  refine (does_run (shunterlaw07_WireReads_g 4000 x0 x1 true (readss_s 4000 (by decide) x0 x1) (fun a => W.cell? a) v0 r0 v1 r1)).mono fun e W' ⟨he, hb⟩ => ?_
  subst he
  exact ⟨_, rfl, law_post (f := Try.f4) laidOut (by kernel_rfl) rfl (by rfl) rfl hW' rfl hb⟩
theorem wireReads_holds : Rows.WireReadsSaid :=
  OpenClaim.holds_of_wide 4 Try.f4 rfl rfl rfl rfl rfl rfl rfl ⟨rfl, rfl, rfl, rfl, rfl⟩ rfl rfl rfl rfl rfl (by kernel_rfl) Try.func4 (by kernel_rfl)
    (of_decide_eq_true (by kernel_rfl)) (by unfold Func.isWrapper; first | (rw [if_pos (by decide +kernel)]; kernel_rfl) | (rw [if_neg (by decide +kernel)]; exact ⟨rfl, rfl⟩))
    (fun os started H enc _ => wireReads_lifted os started H enc)
end Go.Proofs.Ytdgejbbelmhbdaa
