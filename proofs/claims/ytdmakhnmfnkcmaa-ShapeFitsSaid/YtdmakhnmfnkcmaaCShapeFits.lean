/- What is proved: the statement ShapeFits: for every input the law returns true, and each argument reads afterwards as before. Conditions: none. -/
import Derived.Test.YtdmakhnmfnkcmaaHq
import Derived.Test.YtdmakhnmfnkcmaaLr
import Derived.LaidMore
namespace Go.Proofs.Ytdmakhnmfnkcmaa
open Go Go.RowKit Go.Eng Go.ChangeShapes Go.WideShapes Go.ChangeAt Go.Joins Go.Deep
theorem own : ownKnob Try.prog.godebug = none := by kernel_rfl
theorem laidOut : laidOutB Try.prog = true := by kernel_rfl
theorem cells_33 : Try.prog.cellsOf 33 = 1 := by kernel_rfl
theorem cells_44 : Try.prog.cellsOf 44 = 3 := by kernel_rfl
theorem cells_9 : Try.prog.cellsOf 9 = 1 := by kernel_rfl
set_option maxRecDepth 100000 in
theorem op_9 {H : Type} {enc : TypeId × Value → H} {W : World} {fuel : Nat} {cs : List Value} {y : DataW H × List MemPlace} (h : DataW.trod enc Try.prog W 0 (fun _ => true) true fuel 9 cs = some y) : ∃ x : List UInt8, cs = encS.f x := by
  obtain ⟨s, rfl, _, _⟩ := DataW.trod_string rfl h; exact ⟨s.data.toList, rfl⟩
theorem cells_3 : Try.prog.cellsOf 3 = 1 := by kernel_rfl
set_option maxRecDepth 100000 in
theorem op_3 {H : Type} {enc : TypeId × Value → H} {W : World} {fuel : Nat} {cs : List Value} {y : DataW H × List MemPlace} (h : DataW.trod enc Try.prog W 0 (fun _ => true) true fuel 3 cs = some y) : ∃ x : Int, cs = [.int .i64 x] := by
  obtain ⟨n, rfl, _, _⟩ := DataW.trod_int (k := .i64) rfl h; exact ⟨n, rfl⟩
set_option maxRecDepth 100000 in
theorem op_44 {H : Type} {enc : TypeId × Value → H} {W : World} {fuel : Nat} {cs : List Value} {y : DataW H × List MemPlace} (h : DataW.trod enc Try.prog W 0 (fun _ => true) true fuel 44 cs = some y) : ∃ x : (List UInt8 × Int × Int), cs = enc_44.f x := by
  obtain ⟨xs, n, _, _, hl, hlen, hf⟩ := DataW.trod_struct rfl h
  have hl2 : cs.length = 3 := hl.trans cells_44
  obtain ⟨c0, c1, c2, rfl⟩ : ∃ c0 c1 c2, cs = [c0, c1, c2] := by
    match cs, hl2 with
    | [c0, c1, c2], _ => exact ⟨c0, c1, c2, rfl⟩
  obtain ⟨y0, hy0⟩ : ∃ y, xs[0]? = some y := ⟨_, List.getElem?_eq_getElem (by rw [hlen]; decide)⟩
  have g0 : DataW.trod enc Try.prog W 0 (fun _ => true) true n 9 ((([c0, c1, c2] : List Value).drop 0).take (Try.prog.cellsOf 9)) = some y0 := (hf 0 _ rfl).trans hy0
  rw [cells_9] at g0
  have k0 : DataW.trod enc Try.prog W 0 (fun _ => true) true n 9 [c0] = some y0 := g0
  obtain ⟨y1, hy1⟩ : ∃ y, xs[1]? = some y := ⟨_, List.getElem?_eq_getElem (by rw [hlen]; decide)⟩
  have g1 : DataW.trod enc Try.prog W 0 (fun _ => true) true n 3 ((([c0, c1, c2] : List Value).drop 1).take (Try.prog.cellsOf 3)) = some y1 := (hf 1 _ rfl).trans hy1
  rw [cells_3] at g1
  have k1 : DataW.trod enc Try.prog W 0 (fun _ => true) true n 3 [c1] = some y1 := g1
  obtain ⟨y2, hy2⟩ : ∃ y, xs[2]? = some y := ⟨_, List.getElem?_eq_getElem (by rw [hlen]; decide)⟩
  have g2 : DataW.trod enc Try.prog W 0 (fun _ => true) true n 3 ((([c0, c1, c2] : List Value).drop 2).take (Try.prog.cellsOf 3)) = some y2 := (hf 2 _ rfl).trans hy2
  rw [cells_3] at g2
  have k2 : DataW.trod enc Try.prog W 0 (fun _ => true) true n 3 [c2] = some y2 := g2
  obtain ⟨x0, e0⟩ := op_9 k0
  obtain rfl := (List.cons.inj (show [c0] = [Value.string (⟨x0.toArray⟩)] from e0)).1
  obtain ⟨x1, e1⟩ := op_3 k1
  obtain rfl := (List.cons.inj e1).1
  obtain ⟨x2, e2⟩ := op_3 k2
  obtain rfl := (List.cons.inj e2).1
  exact ⟨(x0, x1, x2), by rfl⟩
set_option maxRecDepth 100000 in
theorem op_33 {H : Type} {enc : TypeId × Value → H} {W : World} {fuel : Nat} {cs : List Value} {y : DataW H × List MemPlace} (h : DataW.trod enc Try.prog W 0 (fun _ => true) true fuel 33 cs = some y) : ∃ (s : Value) (xs : List (List UInt8 × Int × Int)), cs = [s] ∧ Rd enc_44 (fun a => W.cell? a) s xs :=
  rd_of_trod enc_44 rfl cells_44 (fun _ _ _ hy => op_44 hy) h
set_option maxRecDepth 100000 in
theorem shapeFits_lifted (os : Os) (started : os.Started) (H : Type) (enc : TypeId × Value → H) :
    ReturnsInHanded {} Try.checked os 5 .any (Rows.shapeFitsSpec.pre6 enc Try.prog Try.f5 Rows.shapeFitsRow.domain false) (Rows.shapeFitsSpec.post enc Try.prog Try.f5 false true false false) := by
  refine returnsInHanded_of_change (C := Try.checked) own started (by kernel_rfl) Try.func5
    (ChangeSpec.witness6 (enc := enc) (C := Try.checked) false ⟨#[], #[.slice none 0 0], []⟩ 8 (by kernel_rfl) (by kernel_rfl) (by kernel_rfl) (by kernel_rfl)) ?_
  intro W base args ds gs before hval0 hW _ _
  have hval : ∀ (j : Nat) t v, Try.f5.params[j]? = some t → args[j]? = some v → Value.okWide Try.prog W .any base t v := hval0
  have hW' := hW
  obtain ⟨p, q, hA0, hV, rfl, _, _⟩ := hW
  have hA : DataW.TrodAll enc Try.prog W 0 (fun _ => true) true Try.f5.params.toList args.toList ds p := hA0
  rw [Try.params5] at hA hval
  obtain ⟨v0, d0, rfl, rfl, h0⟩ := trodAll_one hA
  obtain ⟨rfl, rfl⟩ := trodVars_none hV
  obtain ⟨x0, r0⟩ : ∃ xs : List (List UInt8 × Int × Int), Rd enc_44 (fun a => W.cell? a) v0 xs := arg_slice (Q := fun v => ∃ xs : List (List UInt8 × Int × Int), Rd enc_44 (fun a => W.cell? a) v xs) (P := Try.prog) (t := 33) rfl (hval 0 33 v0 rfl rfl) h0 (fun _ _ _ hh => by obtain ⟨s, xs, h1, h2⟩ := op_33 hh; exact ⟨s, h1, xs, h2⟩)
  refine (does_run (shunterlaw08_ShapeFits_g 4000 x0 true (fits_s 4000 (by decide) x0) (fun a => W.cell? a) v0 r0)).mono fun e W' ⟨he, hb⟩ => ?_
  subst he
  exact ⟨_, rfl, law_post (f := Try.f5) laidOut (by kernel_rfl) rfl (by rfl) rfl hW' rfl hb⟩

theorem shapeFits_holds : Rows.ShapeFitsSaid :=
  OpenClaim.holds_of_wide 5 Try.f5 rfl rfl rfl rfl rfl rfl rfl ⟨rfl, rfl, rfl, rfl, rfl⟩ rfl rfl rfl rfl rfl (by kernel_rfl) Try.func5 (by kernel_rfl)
    (of_decide_eq_true (by kernel_rfl)) (by unfold Func.isWrapper; first | (rw [if_pos (by decide +kernel)]; kernel_rfl) | (rw [if_neg (by decide +kernel)]; exact ⟨rfl, rfl⟩))
    (fun os started H enc _ => shapeFits_lifted os started H enc)

end Go.Proofs.Ytdmakhnmfnkcmaa
