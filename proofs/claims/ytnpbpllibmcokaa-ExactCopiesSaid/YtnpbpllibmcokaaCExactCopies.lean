/- What is proved: the statement ExactCopies: for every input the law returns true, and each argument reads afterwards as before. Conditions: none. -/
import Derived.Test.YtnpbpllibmcokaaOi
import Derived.Test.YtnpbpllibmcokaaLr
import Derived.LaidMore
namespace Go.Proofs.Ytnpbpllibmcokaa
open Go Go.RowKit Go.Eng Go.ChangeShapes Go.WideShapes Go.ChangeAt Go.Joins Go.Deep
theorem own : ownKnob Try.prog.godebug = none := by kernel_rfl
theorem laidOut : laidOutB Try.prog = true := by kernel_rfl
theorem cells_22 : Try.prog.cellsOf 22 = 1 := by kernel_rfl
theorem cells_33 : Try.prog.cellsOf 33 = 5 := by kernel_rfl
theorem cells_3 : Try.prog.cellsOf 3 = 1 := by kernel_rfl
set_option maxRecDepth 100000 in
theorem op_3 {H : Type} {enc : TypeId × Value → H} {W : World} {fuel : Nat} {cs : List Value} {y : DataW H × List MemPlace} (h : DataW.trod enc Try.prog W 0 (fun _ => true) true fuel 3 cs = some y) : ∃ x : Int, cs = [.int .i64 x] := by
  obtain ⟨n, rfl, _, _⟩ := DataW.trod_int (k := .i64) rfl h; exact ⟨n, rfl⟩
theorem cells_31 : Try.prog.cellsOf 31 = 3 := by kernel_rfl
theorem cells_29 : Try.prog.cellsOf 29 = 1 := by kernel_rfl
set_option maxRecDepth 100000 in
theorem op_29 {H : Type} {enc : TypeId × Value → H} {W : World} {fuel : Nat} {cs : List Value} {y : DataW H × List MemPlace} (h : DataW.trod enc Try.prog W 0 (fun _ => true) true fuel 29 cs = some y) : ∃ x : BitVec 64, cs = [U x] := by
  obtain ⟨n, rfl, _, hw⟩ := DataW.trod_int (k := .u64) rfl h
  obtain ⟨x, rfl⟩ := u64_of_wf hw; exact ⟨x, rfl⟩
def enc_31 : Enc (Int × BitVec 128) := ⟨fun x => [Value.int .i64 (x.1), U (hi (x.2)), U (lo (x.2))], 3, by decide, fun _ => rfl, fun x v h => by simp only [List.mem_cons, List.not_mem_nil, or_false] at h; rcases h with rfl | rfl | rfl <;> rfl, True⟩
set_option maxRecDepth 100000 in
theorem op_31 {H : Type} {enc : TypeId × Value → H} {W : World} {fuel : Nat} {cs : List Value} {y : DataW H × List MemPlace} (h : DataW.trod enc Try.prog W 0 (fun _ => true) true fuel 31 cs = some y) : ∃ x : (Int × BitVec 128), cs = enc_31.f x := by
  obtain ⟨xs, n, _, _, hl, hlen, hf⟩ := DataW.trod_struct rfl h
  have hl2 : cs.length = 3 := hl.trans cells_31
  obtain ⟨c0, c1, c2, rfl⟩ : ∃ c0 c1 c2, cs = [c0, c1, c2] := by
    match cs, hl2 with
    | [c0, c1, c2], _ => exact ⟨c0, c1, c2, rfl⟩
  obtain ⟨y0, hy0⟩ : ∃ y, xs[0]? = some y := ⟨_, List.getElem?_eq_getElem (by rw [hlen]; decide)⟩
  have g0 : DataW.trod enc Try.prog W 0 (fun _ => true) true n 3 ((([c0, c1, c2] : List Value).drop 0).take (Try.prog.cellsOf 3)) = some y0 := (hf 0 _ rfl).trans hy0
  rw [cells_3] at g0
  have k0 : DataW.trod enc Try.prog W 0 (fun _ => true) true n 3 [c0] = some y0 := g0
  obtain ⟨y1, hy1⟩ : ∃ y, xs[1]? = some y := ⟨_, List.getElem?_eq_getElem (by rw [hlen]; decide)⟩
  have g1 : DataW.trod enc Try.prog W 0 (fun _ => true) true n 29 ((([c0, c1, c2] : List Value).drop 1).take (Try.prog.cellsOf 29)) = some y1 := (hf 1 _ rfl).trans hy1
  rw [cells_29] at g1
  have k1 : DataW.trod enc Try.prog W 0 (fun _ => true) true n 29 [c1] = some y1 := g1
  obtain ⟨y2, hy2⟩ : ∃ y, xs[2]? = some y := ⟨_, List.getElem?_eq_getElem (by rw [hlen]; decide)⟩
  have g2 : DataW.trod enc Try.prog W 0 (fun _ => true) true n 29 ((([c0, c1, c2] : List Value).drop 2).take (Try.prog.cellsOf 29)) = some y2 := (hf 2 _ rfl).trans hy2
  rw [cells_29] at g2
  have k2 : DataW.trod enc Try.prog W 0 (fun _ => true) true n 29 [c2] = some y2 := g2
  obtain ⟨x0, e0⟩ := op_3 k0
  obtain rfl := (List.cons.inj e0).1
  obtain ⟨x1, e1⟩ := op_29 k1
  obtain rfl := (List.cons.inj e1).1
  obtain ⟨x2, e2⟩ := op_29 k2
  obtain rfl := (List.cons.inj e2).1
  exact ⟨(x0, x1 ++ x2), by simp only [enc_31, hi_app, lo_app]⟩
set_option maxRecDepth 100000 in
theorem op_33 {H : Type} {enc : TypeId × Value → H} {W : World} {fuel : Nat} {cs : List Value} {y : DataW H × List MemPlace} (h : DataW.trod enc Try.prog W 0 (fun _ => true) true fuel 33 cs = some y) : ∃ x : (Int × Int × Int × BitVec 128), cs = enc_33.f x := by
  obtain ⟨xs, n, _, _, hl, hlen, hf⟩ := DataW.trod_struct rfl h
  have hl2 : cs.length = 5 := hl.trans cells_33
  obtain ⟨c0, c1, c2, c3, c4, rfl⟩ : ∃ c0 c1 c2 c3 c4, cs = [c0, c1, c2, c3, c4] := by
    match cs, hl2 with
    | [c0, c1, c2, c3, c4], _ => exact ⟨c0, c1, c2, c3, c4, rfl⟩
  obtain ⟨y0, hy0⟩ : ∃ y, xs[0]? = some y := ⟨_, List.getElem?_eq_getElem (by rw [hlen]; decide)⟩
  have g0 : DataW.trod enc Try.prog W 0 (fun _ => true) true n 3 ((([c0, c1, c2, c3, c4] : List Value).drop 0).take (Try.prog.cellsOf 3)) = some y0 := (hf 0 _ rfl).trans hy0
  rw [cells_3] at g0
  have k0 : DataW.trod enc Try.prog W 0 (fun _ => true) true n 3 [c0] = some y0 := g0
  obtain ⟨y1, hy1⟩ : ∃ y, xs[1]? = some y := ⟨_, List.getElem?_eq_getElem (by rw [hlen]; decide)⟩
  have g1 : DataW.trod enc Try.prog W 0 (fun _ => true) true n 3 ((([c0, c1, c2, c3, c4] : List Value).drop 1).take (Try.prog.cellsOf 3)) = some y1 := (hf 1 _ rfl).trans hy1
  rw [cells_3] at g1
  have k1 : DataW.trod enc Try.prog W 0 (fun _ => true) true n 3 [c1] = some y1 := g1
  obtain ⟨y2, hy2⟩ : ∃ y, xs[2]? = some y := ⟨_, List.getElem?_eq_getElem (by rw [hlen]; decide)⟩
  have g2 : DataW.trod enc Try.prog W 0 (fun _ => true) true n 31 ((([c0, c1, c2, c3, c4] : List Value).drop 2).take (Try.prog.cellsOf 31)) = some y2 := (hf 2 _ rfl).trans hy2
  rw [cells_31] at g2
  have k2 : DataW.trod enc Try.prog W 0 (fun _ => true) true n 31 [c2, c3, c4] = some y2 := g2
  obtain ⟨x0, e0⟩ := op_3 k0
  obtain rfl := (List.cons.inj e0).1
  obtain ⟨x1, e1⟩ := op_3 k1
  obtain rfl := (List.cons.inj e1).1
  obtain ⟨x2, e2⟩ := op_31 k2
  simp only [enc_31, List.cons.injEq, and_true] at e2
  obtain ⟨rfl, rfl, rfl⟩ := e2
  exact ⟨(x0, x1, x2.1, x2.2), by rfl⟩
set_option maxRecDepth 100000 in
theorem op_22 {H : Type} {enc : TypeId × Value → H} {W : World} {fuel : Nat} {cs : List Value} {y : DataW H × List MemPlace} (h : DataW.trod enc Try.prog W 0 (fun _ => true) true fuel 22 cs = some y) : ∃ (s : Value) (xs : List (Int × Int × Int × BitVec 128)), cs = [s] ∧ Rd enc_33 (fun a => W.cell? a) s xs :=
  rd_of_trod enc_33 rfl cells_33 (fun _ _ _ hy => op_33 hy) h
set_option maxRecDepth 100000 in
theorem exactCopies_lifted (os : Os) (started : os.Started) (H : Type) (enc : TypeId × Value → H) :
    ReturnsInHanded {} Try.checked os 6 .any (Rows.exactCopiesSpec.pre6 enc Try.prog Try.f6 Rows.exactCopiesRow.domain false) (Rows.exactCopiesSpec.post enc Try.prog Try.f6 false true false false) := by
  refine returnsInHanded_of_change (C := Try.checked) own started (by kernel_rfl) Try.func6
    (ChangeSpec.witness6 (enc := enc) (C := Try.checked) false ⟨#[], #[.slice none 0 0, .slice none 0 0], []⟩ 8 (by kernel_rfl) (by kernel_rfl) (by kernel_rfl) (by kernel_rfl)) ?_
  intro W base args ds gs before hval0 hW _ _
  have hval : ∀ (j : Nat) t v, Try.f6.params[j]? = some t → args[j]? = some v → Value.okWide Try.prog W .any base t v := hval0
  have hW' := hW
  obtain ⟨p, q, hA0, hV, rfl, _, _⟩ := hW
  have hA : DataW.TrodAll enc Try.prog W 0 (fun _ => true) true Try.f6.params.toList args.toList ds p := hA0
  rw [Try.params6] at hA hval
  obtain ⟨v0, v1, d0, d1, p0, p1, rfl, rfl, rfl, h0, h1⟩ := trodAll_two hA
  obtain ⟨rfl, rfl⟩ := trodVars_none hV
  obtain ⟨x0, r0⟩ : ∃ xs : List (Int × Int × Int × BitVec 128), Rd enc_33 (fun a => W.cell? a) v0 xs := arg_slice (Q := fun v => ∃ xs : List (Int × Int × Int × BitVec 128), Rd enc_33 (fun a => W.cell? a) v xs) (P := Try.prog) (t := 22) rfl (hval 0 22 v0 rfl rfl) h0 (fun _ _ _ hh => by obtain ⟨s, xs, h1, h2⟩ := op_22 hh; exact ⟨s, h1, xs, h2⟩)
  obtain ⟨x1, r1⟩ : ∃ xs : List (Int × Int × Int × BitVec 128), Rd enc_33 (fun a => W.cell? a) v1 xs := arg_slice (Q := fun v => ∃ xs : List (Int × Int × Int × BitVec 128), Rd enc_33 (fun a => W.cell? a) v xs) (P := Try.prog) (t := 22) rfl (hval 1 22 v1 rfl rfl) h1 (fun _ _ _ hh => by obtain ⟨s, xs, h1, h2⟩ := op_22 hh; exact ⟨s, h1, xs, h2⟩)
  refine (does_run (shunterlaw19_ExactCopies_g 1000 x0 x1 true (exactCopies_true x0 x1) (fun a => W.cell? a) v0 r0 v1 r1)).mono fun e W' ⟨he, hb⟩ => ?_
  subst he
  exact ⟨_, rfl, law_post (f := Try.f6) laidOut (by kernel_rfl) rfl (by rfl) rfl hW' rfl hb⟩

theorem exactCopies_holds : Rows.ExactCopiesSaid :=
  OpenClaim.holds_of_wide 6 Try.f6 rfl rfl rfl rfl rfl rfl rfl ⟨rfl, rfl, rfl, rfl, rfl⟩ rfl rfl rfl rfl rfl (by kernel_rfl) Try.func6 (by kernel_rfl)
    (of_decide_eq_true (by kernel_rfl)) (by unfold Func.isWrapper; first | (rw [if_pos (by decide +kernel)]; kernel_rfl) | (rw [if_neg (by decide +kernel)]; exact ⟨rfl, rfl⟩))
    (fun os started H enc _ => exactCopies_lifted os started H enc)

end Go.Proofs.Ytnpbpllibmcokaa
