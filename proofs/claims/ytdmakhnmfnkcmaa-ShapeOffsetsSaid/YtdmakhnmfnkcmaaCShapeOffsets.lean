/- What is proved: the statement ShapeOffsets: for every input the law returns true, and each argument reads afterwards as before. Conditions: none. -/
import Derived.Test.YtdmakhnmfnkcmaaHq
import Derived.Test.YtdmakhnmfnkcmaaLr
import Derived.LaidMore
namespace Go.Proofs.Ytdmakhnmfnkcmaa
open Go Go.RowKit Go.Eng Go.ChangeShapes Go.WideShapes Go.ChangeAt Go.Joins Go.Deep
theorem own : ownKnob Try.prog.godebug = none := by kernel_rfl
theorem laidOut : laidOutB Try.prog = true := by kernel_rfl
theorem cells_24 : Try.prog.cellsOf 24 = 6 := by kernel_rfl
theorem cells_9 : Try.prog.cellsOf 9 = 1 := by kernel_rfl
set_option maxRecDepth 100000 in
theorem op_9 {H : Type} {enc : TypeId × Value → H} {W : World} {fuel : Nat} {cs : List Value} {y : DataW H × List MemPlace} (h : DataW.trod enc Try.prog W 0 (fun _ => true) true fuel 9 cs = some y) : ∃ x : List UInt8, cs = encS.f x := by
  obtain ⟨s, rfl, _, _⟩ := DataW.trod_string rfl h; exact ⟨s.data.toList, rfl⟩
theorem cells_22 : Try.prog.cellsOf 22 = 1 := by kernel_rfl
theorem cells_52 : Try.prog.cellsOf 52 = 2 := by kernel_rfl
theorem cells_3 : Try.prog.cellsOf 3 = 1 := by kernel_rfl
set_option maxRecDepth 100000 in
theorem op_3 {H : Type} {enc : TypeId × Value → H} {W : World} {fuel : Nat} {cs : List Value} {y : DataW H × List MemPlace} (h : DataW.trod enc Try.prog W 0 (fun _ => true) true fuel 3 cs = some y) : ∃ x : Int, cs = [.int .i64 x] := by
  obtain ⟨n, rfl, _, _⟩ := DataW.trod_int (k := .i64) rfl h; exact ⟨n, rfl⟩
set_option maxRecDepth 100000 in
theorem op_52 {H : Type} {enc : TypeId × Value → H} {W : World} {fuel : Nat} {cs : List Value} {y : DataW H × List MemPlace} (h : DataW.trod enc Try.prog W 0 (fun _ => true) true fuel 52 cs = some y) : ∃ x : (List UInt8 × Int), cs = enc_52.f x := by
  obtain ⟨xs, n, _, _, hl, hlen, hf⟩ := DataW.trod_struct rfl h
  have hl2 : cs.length = 2 := hl.trans cells_52
  obtain ⟨c0, c1, rfl⟩ : ∃ c0 c1, cs = [c0, c1] := by
    match cs, hl2 with
    | [c0, c1], _ => exact ⟨c0, c1, rfl⟩
  obtain ⟨y0, hy0⟩ : ∃ y, xs[0]? = some y := ⟨_, List.getElem?_eq_getElem (by rw [hlen]; decide)⟩
  have g0 : DataW.trod enc Try.prog W 0 (fun _ => true) true n 9 ((([c0, c1] : List Value).drop 0).take (Try.prog.cellsOf 9)) = some y0 := (hf 0 _ rfl).trans hy0
  rw [cells_9] at g0
  have k0 : DataW.trod enc Try.prog W 0 (fun _ => true) true n 9 [c0] = some y0 := g0
  obtain ⟨y1, hy1⟩ : ∃ y, xs[1]? = some y := ⟨_, List.getElem?_eq_getElem (by rw [hlen]; decide)⟩
  have g1 : DataW.trod enc Try.prog W 0 (fun _ => true) true n 3 ((([c0, c1] : List Value).drop 1).take (Try.prog.cellsOf 3)) = some y1 := (hf 1 _ rfl).trans hy1
  rw [cells_3] at g1
  have k1 : DataW.trod enc Try.prog W 0 (fun _ => true) true n 3 [c1] = some y1 := g1
  obtain ⟨x0, e0⟩ := op_9 k0
  obtain rfl := (List.cons.inj (show [c0] = [Value.string (⟨x0.toArray⟩)] from e0)).1
  obtain ⟨x1, e1⟩ := op_3 k1
  obtain rfl := (List.cons.inj e1).1
  exact ⟨(x0, x1), by rfl⟩
set_option maxRecDepth 100000 in
theorem op_22 {H : Type} {enc : TypeId × Value → H} {W : World} {fuel : Nat} {cs : List Value} {y : DataW H × List MemPlace} (h : DataW.trod enc Try.prog W 0 (fun _ => true) true fuel 22 cs = some y) : ∃ (s : Value) (xs : List (List UInt8 × Int)), cs = [s] ∧ Rd enc_52 (fun a => W.cell? a) s xs :=
  rd_of_trod enc_52 rfl cells_52 (fun _ _ _ hy => op_52 hy) h
set_option maxRecDepth 100000 in
theorem op_24 {H : Type} {enc : TypeId × Value → H} {W : World} {fuel : Nat} {cs : List Value} {y : DataW H × List MemPlace} (h : DataW.trod enc Try.prog W 0 (fun _ => true) true fuel 24 cs = some y) : ∃ x : ((List UInt8) × (List (List UInt8 × Int)) × Int × Int × Int × Int), encr_24.R (fun a => W.cell? a) x cs := by
  obtain ⟨xs, n, _, _, hl, hlen, hf⟩ := DataW.trod_struct rfl h
  have hl2 : cs.length = 6 := hl.trans cells_24
  obtain ⟨c0, c1, c2, c3, c4, c5, rfl⟩ : ∃ c0 c1 c2 c3 c4 c5, cs = [c0, c1, c2, c3, c4, c5] := by
    match cs, hl2 with
    | [c0, c1, c2, c3, c4, c5], _ => exact ⟨c0, c1, c2, c3, c4, c5, rfl⟩
  obtain ⟨y0, hy0⟩ : ∃ y, xs[0]? = some y := ⟨_, List.getElem?_eq_getElem (by rw [hlen]; decide)⟩
  have g0 : DataW.trod enc Try.prog W 0 (fun _ => true) true n 9 ((([c0, c1, c2, c3, c4, c5] : List Value).drop 0).take (Try.prog.cellsOf 9)) = some y0 := (hf 0 _ rfl).trans hy0
  rw [cells_9] at g0
  have k0 : DataW.trod enc Try.prog W 0 (fun _ => true) true n 9 [c0] = some y0 := g0
  obtain ⟨y1, hy1⟩ : ∃ y, xs[1]? = some y := ⟨_, List.getElem?_eq_getElem (by rw [hlen]; decide)⟩
  have g1 : DataW.trod enc Try.prog W 0 (fun _ => true) true n 22 ((([c0, c1, c2, c3, c4, c5] : List Value).drop 1).take (Try.prog.cellsOf 22)) = some y1 := (hf 1 _ rfl).trans hy1
  rw [cells_22] at g1
  have k1 : DataW.trod enc Try.prog W 0 (fun _ => true) true n 22 [c1] = some y1 := g1
  obtain ⟨y2, hy2⟩ : ∃ y, xs[2]? = some y := ⟨_, List.getElem?_eq_getElem (by rw [hlen]; decide)⟩
  have g2 : DataW.trod enc Try.prog W 0 (fun _ => true) true n 3 ((([c0, c1, c2, c3, c4, c5] : List Value).drop 2).take (Try.prog.cellsOf 3)) = some y2 := (hf 2 _ rfl).trans hy2
  rw [cells_3] at g2
  have k2 : DataW.trod enc Try.prog W 0 (fun _ => true) true n 3 [c2] = some y2 := g2
  obtain ⟨y3, hy3⟩ : ∃ y, xs[3]? = some y := ⟨_, List.getElem?_eq_getElem (by rw [hlen]; decide)⟩
  have g3 : DataW.trod enc Try.prog W 0 (fun _ => true) true n 3 ((([c0, c1, c2, c3, c4, c5] : List Value).drop 3).take (Try.prog.cellsOf 3)) = some y3 := (hf 3 _ rfl).trans hy3
  rw [cells_3] at g3
  have k3 : DataW.trod enc Try.prog W 0 (fun _ => true) true n 3 [c3] = some y3 := g3
  obtain ⟨y4, hy4⟩ : ∃ y, xs[4]? = some y := ⟨_, List.getElem?_eq_getElem (by rw [hlen]; decide)⟩
  have g4 : DataW.trod enc Try.prog W 0 (fun _ => true) true n 3 ((([c0, c1, c2, c3, c4, c5] : List Value).drop 4).take (Try.prog.cellsOf 3)) = some y4 := (hf 4 _ rfl).trans hy4
  rw [cells_3] at g4
  have k4 : DataW.trod enc Try.prog W 0 (fun _ => true) true n 3 [c4] = some y4 := g4
  obtain ⟨y5, hy5⟩ : ∃ y, xs[5]? = some y := ⟨_, List.getElem?_eq_getElem (by rw [hlen]; decide)⟩
  have g5 : DataW.trod enc Try.prog W 0 (fun _ => true) true n 3 ((([c0, c1, c2, c3, c4, c5] : List Value).drop 5).take (Try.prog.cellsOf 3)) = some y5 := (hf 5 _ rfl).trans hy5
  rw [cells_3] at g5
  have k5 : DataW.trod enc Try.prog W 0 (fun _ => true) true n 3 [c5] = some y5 := g5
  obtain ⟨x0, e0⟩ := op_9 k0
  obtain rfl := (List.cons.inj (show [c0] = [Value.string (⟨x0.toArray⟩)] from e0)).1
  obtain ⟨s1, x1, e1, r1⟩ := op_22 k1
  obtain rfl := (List.cons.inj e1).1
  obtain ⟨x2, e2⟩ := op_3 k2
  obtain rfl := (List.cons.inj e2).1
  obtain ⟨x3, e3⟩ := op_3 k3
  obtain rfl := (List.cons.inj e3).1
  obtain ⟨x4, e4⟩ := op_3 k4
  obtain rfl := (List.cons.inj e4).1
  obtain ⟨x5, e5⟩ := op_3 k5
  obtain rfl := (List.cons.inj e5).1
  exact ⟨(x0, x1, x2, x3, x4, x5), _, r1, rfl⟩
set_option maxRecDepth 100000 in
theorem shapeOffsets_lifted (os : Os) (started : os.Started) (H : Type) (enc : TypeId × Value → H) :
    ReturnsInHanded {} Try.checked os 6 .any (Rows.shapeOffsetsSpec.pre6 enc Try.prog Try.f6 Rows.shapeOffsetsRow.domain false) (Rows.shapeOffsetsSpec.post enc Try.prog Try.f6 false true false false) := by
  refine returnsInHanded_of_change (C := Try.checked) own started (by kernel_rfl) Try.func6
    (ChangeSpec.witness6 (enc := enc) (C := Try.checked) false ⟨#[], #[.agg #[.string ⟨#[]⟩, .slice none 0 0, .int .i64 0, .int .i64 0, .int .i64 0, .int .i64 0]], []⟩ 8 (by kernel_rfl) (by kernel_rfl) (by kernel_rfl) (by kernel_rfl)) ?_
  intro W base args ds gs before hval0 hW _ _
  have hval : ∀ (j : Nat) t v, Try.f6.params[j]? = some t → args[j]? = some v → Value.okWide Try.prog W .any base t v := hval0
  have hW' := hW
  obtain ⟨p, q, hA0, hV, rfl, _, _⟩ := hW
  have hA : DataW.TrodAll enc Try.prog W 0 (fun _ => true) true Try.f6.params.toList args.toList ds p := hA0
  rw [Try.params6] at hA hval
  obtain ⟨v0, d0, rfl, rfl, h0⟩ := trodAll_one hA
  obtain ⟨rfl, rfl⟩ := trodVars_none hV
  obtain ⟨c0, rfl, x0, s0_0, r0_0, rfl⟩ := arg_struct (Q := fun cs => ∃ x : ((List UInt8) × (List (List UInt8 × Int)) × Int × Int × Int × Int), encr_24.R (fun a => W.cell? a) x cs) (P := Try.prog) (t := 24) rfl (hval 0 24 v0 rfl rfl) h0 (fun _ _ _ hh => op_24 hh)
  refine (does_run (shunterlaw08_ShapeOffsets_v1_g 4000 x0.1 x0.2.1 x0.2.2.1 x0.2.2.2.1 x0.2.2.2.2.1 x0.2.2.2.2.2 true (offsets_s 4000 (by decide) x0.1 x0.2.1 x0.2.2.1 x0.2.2.2.1 x0.2.2.2.2.1 x0.2.2.2.2.2) (fun a => W.cell? a) s0_0 r0_0)).mono fun e W' ⟨he, hb⟩ => ?_
  subst he
  exact ⟨_, rfl, law_post (f := Try.f6) laidOut (by kernel_rfl) rfl (by rfl) rfl hW' rfl hb⟩

theorem shapeOffsets_holds : Rows.ShapeOffsetsSaid :=
  OpenClaim.holds_of_wide 6 Try.f6 rfl rfl rfl rfl rfl rfl rfl ⟨rfl, rfl, rfl, rfl, rfl⟩ rfl rfl rfl rfl rfl (by kernel_rfl) Try.func6 (by kernel_rfl)
    (of_decide_eq_true (by kernel_rfl)) (by unfold Func.isWrapper; first | (rw [if_pos (by decide +kernel)]; kernel_rfl) | (rw [if_neg (by decide +kernel)]; exact ⟨rfl, rfl⟩))
    (fun os started H enc _ => shapeOffsets_lifted os started H enc)

end Go.Proofs.Ytdmakhnmfnkcmaa
