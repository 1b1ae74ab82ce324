/- What is proved: the statement ShapeInsts: for every input the law returns true, and each argument reads afterwards as before. Conditions: none. -/
import Derived.Test.YtdmakhnmfnkcmaaHq
import Derived.Test.YtdmakhnmfnkcmaaLz
import Derived.LaidMore
namespace Go.Proofs.Ytdmakhnmfnkcmaa
open Go Go.RowKit Go.Eng Go.ChangeShapes Go.WideShapes Go.ChangeAt Go.Joins Go.Deep
theorem own : ownKnob Try.prog.godebug = none := by kernel_rfl
theorem laidOut : laidOutB Try.prog = true := by kernel_rfl
theorem cells_32 : Try.prog.cellsOf 32 = 1 := by kernel_rfl
theorem cells_24 : Try.prog.cellsOf 24 = 6 := by kernel_rfl
theorem cells_9 : Try.prog.cellsOf 9 = 1 := by kernel_rfl
set_option maxRecDepth 100000 in
theorem opz_9 {H : Type} {enc : TypeId × Value → H} {W : World} {fuel : Nat} {cs : List Value} {y : DataW H × List MemPlace} (h : DataW.trod enc Try.prog W 0 (fun _ => true) true fuel 9 cs = some y) (hz : Sd Try.prog 9 y.1) : ∃ x : List UInt8, (x).length ≤ reachBytes ∧ cs = encS.f x := by
  obtain ⟨s, rfl, rfl, _⟩ := DataW.trod_string rfl h; exact ⟨s.data.toList, sd_str hz, rfl⟩
theorem cells_22 : Try.prog.cellsOf 22 = 1 := by kernel_rfl
theorem cells_52 : Try.prog.cellsOf 52 = 2 := by kernel_rfl
theorem cells_3 : Try.prog.cellsOf 3 = 1 := by kernel_rfl
set_option maxRecDepth 100000 in
theorem opz_3 {H : Type} {enc : TypeId × Value → H} {W : World} {fuel : Nat} {cs : List Value} {y : DataW H × List MemPlace} (h : DataW.trod enc Try.prog W 0 (fun _ => true) true fuel 3 cs = some y) (_ : Sd Try.prog 3 y.1) : ∃ x : Int, (-9223372036854775808 ≤ (x : Int) ∧ (x : Int) ≤ 9223372036854775807) ∧ cs = [.int .i64 x] := by
  obtain ⟨n, rfl, _, hw⟩ := DataW.trod_int (k := .i64) rfl h; exact ⟨n, i64_of_wf hw, rfl⟩
set_option maxRecDepth 100000 in
theorem opz_52 {H : Type} {enc : TypeId × Value → H} {W : World} {fuel : Nat} {cs : List Value} {y : DataW H × List MemPlace} (h : DataW.trod enc Try.prog W 0 (fun _ => true) true fuel 52 cs = some y) (hz : Sd Try.prog 52 y.1) : ∃ x : (List UInt8 × Int), ((x.1).length ≤ reachBytes ∧ (-9223372036854775808 ≤ (x.2 : Int) ∧ (x.2 : Int) ≤ 9223372036854775807)) ∧ cs = enc_52.f x := by
  obtain ⟨xs, n, _, hxx, hl, hlen, hf⟩ := DataW.trod_struct rfl h
  have hz2 := hz
  rw [hxx] at hz2
  have hl2 : cs.length = 2 := hl.trans cells_52
  obtain ⟨c0, c1, rfl⟩ : ∃ c0 c1, cs = [c0, c1] := by
    match cs, hl2 with
    | [c0, c1], _ => exact ⟨c0, c1, rfl⟩
  obtain ⟨y0, hy0⟩ : ∃ y, xs[0]? = some y := ⟨_, List.getElem?_eq_getElem (by rw [hlen]; decide)⟩
  have w0 := sd_field (d := y0.1) (i := 0) (ft := 9) rfl hz2 rfl (by rw [List.getElem?_map, hy0]; rfl)
  have g0 : DataW.trod enc Try.prog W 0 (fun _ => true) true n 9 ((([c0, c1] : List Value).drop 0).take (Try.prog.cellsOf 9)) = some y0 := (hf 0 _ rfl).trans hy0
  rw [cells_9] at g0
  have k0 : DataW.trod enc Try.prog W 0 (fun _ => true) true n 9 [c0] = some y0 := g0
  obtain ⟨y1, hy1⟩ : ∃ y, xs[1]? = some y := ⟨_, List.getElem?_eq_getElem (by rw [hlen]; decide)⟩
  have w1 := sd_field (d := y1.1) (i := 1) (ft := 3) rfl hz2 rfl (by rw [List.getElem?_map, hy1]; rfl)
  have g1 : DataW.trod enc Try.prog W 0 (fun _ => true) true n 3 ((([c0, c1] : List Value).drop 1).take (Try.prog.cellsOf 3)) = some y1 := (hf 1 _ rfl).trans hy1
  rw [cells_3] at g1
  have k1 : DataW.trod enc Try.prog W 0 (fun _ => true) true n 3 [c1] = some y1 := g1
  obtain ⟨x0, z0, e0⟩ := opz_9 k0 w0
  obtain rfl := (List.cons.inj (show [c0] = [Value.string (⟨x0.toArray⟩)] from e0)).1
  obtain ⟨x1, z1, e1⟩ := opz_3 k1 w1
  obtain rfl := (List.cons.inj e1).1
  exact ⟨(x0, x1), ⟨z0, z1⟩, by rfl⟩
theorem bytes_52 : Try.prog.bytesOf 52 = 24 := by kernel_rfl
set_option maxRecDepth 100000 in
theorem opz_22 {H : Type} {enc : TypeId × Value → H} {W : World} {fuel : Nat} {cs : List Value} {y : DataW H × List MemPlace} (h : DataW.trod enc Try.prog W 0 (fun _ => true) true fuel 22 cs = some y) (hz : Sd Try.prog 22 y.1) : ∃ (s : Value) (x : List ((List UInt8 × Int))), cs = [s] ∧ ((x).length * 24 ≤ reachBytes ∧ ∀ z1_ ∈ (x), ((z1_.1).length ≤ reachBytes ∧ (-9223372036854775808 ≤ (z1_.2 : Int) ∧ (z1_.2 : Int) ≤ 9223372036854775807))) ∧ Rd enc_52 (fun a => W.cell? a) s x :=
  rd_of_trodZ enc_52 (fun x => ((x.1).length ≤ reachBytes ∧ (-9223372036854775808 ≤ (x.2 : Int) ∧ (x.2 : Int) ≤ 9223372036854775807))) rfl cells_52 bytes_52 (fun _ _ _ hy hz => opz_52 hy hz) h hz
set_option maxRecDepth 100000 in
theorem opz_24 {H : Type} {enc : TypeId × Value → H} {W : World} {fuel : Nat} {cs : List Value} {y : DataW H × List MemPlace} (h : DataW.trod enc Try.prog W 0 (fun _ => true) true fuel 24 cs = some y) (hz : Sd Try.prog 24 y.1) : ∃ x : ((List UInt8) × (List (List UInt8 × Int)) × Int × Int × Int × Int), ((x.1).length ≤ reachBytes ∧ ((x.2.1).length * 24 ≤ reachBytes ∧ ∀ z5_ ∈ (x.2.1), ((z5_.1).length ≤ reachBytes ∧ (-9223372036854775808 ≤ (z5_.2 : Int) ∧ (z5_.2 : Int) ≤ 9223372036854775807))) ∧ (-9223372036854775808 ≤ (x.2.2.1 : Int) ∧ (x.2.2.1 : Int) ≤ 9223372036854775807) ∧ (-9223372036854775808 ≤ (x.2.2.2.1 : Int) ∧ (x.2.2.2.1 : Int) ≤ 9223372036854775807) ∧ (-9223372036854775808 ≤ (x.2.2.2.2.1 : Int) ∧ (x.2.2.2.2.1 : Int) ≤ 9223372036854775807) ∧ (-9223372036854775808 ≤ (x.2.2.2.2.2 : Int) ∧ (x.2.2.2.2.2 : Int) ≤ 9223372036854775807)) ∧ encr_24.R (fun a => W.cell? a) x cs := by
  obtain ⟨xs, n, _, hxx, hl, hlen, hf⟩ := DataW.trod_struct rfl h
  have hz2 := hz
  rw [hxx] at hz2
  have hl2 : cs.length = 6 := hl.trans cells_24
  obtain ⟨c0, c1, c2, c3, c4, c5, rfl⟩ : ∃ c0 c1 c2 c3 c4 c5, cs = [c0, c1, c2, c3, c4, c5] := by
    match cs, hl2 with
    | [c0, c1, c2, c3, c4, c5], _ => exact ⟨c0, c1, c2, c3, c4, c5, rfl⟩
  obtain ⟨y0, hy0⟩ : ∃ y, xs[0]? = some y := ⟨_, List.getElem?_eq_getElem (by rw [hlen]; decide)⟩
  have w0 := sd_field (d := y0.1) (i := 0) (ft := 9) rfl hz2 rfl (by rw [List.getElem?_map, hy0]; rfl)
  have g0 : DataW.trod enc Try.prog W 0 (fun _ => true) true n 9 ((([c0, c1, c2, c3, c4, c5] : List Value).drop 0).take (Try.prog.cellsOf 9)) = some y0 := (hf 0 _ rfl).trans hy0
  rw [cells_9] at g0
  have k0 : DataW.trod enc Try.prog W 0 (fun _ => true) true n 9 [c0] = some y0 := g0
  obtain ⟨y1, hy1⟩ : ∃ y, xs[1]? = some y := ⟨_, List.getElem?_eq_getElem (by rw [hlen]; decide)⟩
  have w1 := sd_field (d := y1.1) (i := 1) (ft := 22) rfl hz2 rfl (by rw [List.getElem?_map, hy1]; rfl)
  have g1 : DataW.trod enc Try.prog W 0 (fun _ => true) true n 22 ((([c0, c1, c2, c3, c4, c5] : List Value).drop 1).take (Try.prog.cellsOf 22)) = some y1 := (hf 1 _ rfl).trans hy1
  rw [cells_22] at g1
  have k1 : DataW.trod enc Try.prog W 0 (fun _ => true) true n 22 [c1] = some y1 := g1
  obtain ⟨y2, hy2⟩ : ∃ y, xs[2]? = some y := ⟨_, List.getElem?_eq_getElem (by rw [hlen]; decide)⟩
  have w2 := sd_field (d := y2.1) (i := 2) (ft := 3) rfl hz2 rfl (by rw [List.getElem?_map, hy2]; rfl)
  have g2 : DataW.trod enc Try.prog W 0 (fun _ => true) true n 3 ((([c0, c1, c2, c3, c4, c5] : List Value).drop 2).take (Try.prog.cellsOf 3)) = some y2 := (hf 2 _ rfl).trans hy2
  rw [cells_3] at g2
  have k2 : DataW.trod enc Try.prog W 0 (fun _ => true) true n 3 [c2] = some y2 := g2
  obtain ⟨y3, hy3⟩ : ∃ y, xs[3]? = some y := ⟨_, List.getElem?_eq_getElem (by rw [hlen]; decide)⟩
  have w3 := sd_field (d := y3.1) (i := 3) (ft := 3) rfl hz2 rfl (by rw [List.getElem?_map, hy3]; rfl)
  have g3 : DataW.trod enc Try.prog W 0 (fun _ => true) true n 3 ((([c0, c1, c2, c3, c4, c5] : List Value).drop 3).take (Try.prog.cellsOf 3)) = some y3 := (hf 3 _ rfl).trans hy3
  rw [cells_3] at g3
  have k3 : DataW.trod enc Try.prog W 0 (fun _ => true) true n 3 [c3] = some y3 := g3
  obtain ⟨y4, hy4⟩ : ∃ y, xs[4]? = some y := ⟨_, List.getElem?_eq_getElem (by rw [hlen]; decide)⟩
  have w4 := sd_field (d := y4.1) (i := 4) (ft := 3) rfl hz2 rfl (by rw [List.getElem?_map, hy4]; rfl)
  have g4 : DataW.trod enc Try.prog W 0 (fun _ => true) true n 3 ((([c0, c1, c2, c3, c4, c5] : List Value).drop 4).take (Try.prog.cellsOf 3)) = some y4 := (hf 4 _ rfl).trans hy4
  rw [cells_3] at g4
  have k4 : DataW.trod enc Try.prog W 0 (fun _ => true) true n 3 [c4] = some y4 := g4
  obtain ⟨y5, hy5⟩ : ∃ y, xs[5]? = some y := ⟨_, List.getElem?_eq_getElem (by rw [hlen]; decide)⟩
  have w5 := sd_field (d := y5.1) (i := 5) (ft := 3) rfl hz2 rfl (by rw [List.getElem?_map, hy5]; rfl)
  have g5 : DataW.trod enc Try.prog W 0 (fun _ => true) true n 3 ((([c0, c1, c2, c3, c4, c5] : List Value).drop 5).take (Try.prog.cellsOf 3)) = some y5 := (hf 5 _ rfl).trans hy5
  rw [cells_3] at g5
  have k5 : DataW.trod enc Try.prog W 0 (fun _ => true) true n 3 [c5] = some y5 := g5
  obtain ⟨x0, z0, e0⟩ := opz_9 k0 w0
  obtain rfl := (List.cons.inj (show [c0] = [Value.string (⟨x0.toArray⟩)] from e0)).1
  obtain ⟨s1, x1, e1, z1, r1⟩ := opz_22 k1 w1
  obtain rfl := (List.cons.inj e1).1
  obtain ⟨x2, z2, e2⟩ := opz_3 k2 w2
  obtain rfl := (List.cons.inj e2).1
  obtain ⟨x3, z3, e3⟩ := opz_3 k3 w3
  obtain rfl := (List.cons.inj e3).1
  obtain ⟨x4, z4, e4⟩ := opz_3 k4 w4
  obtain rfl := (List.cons.inj e4).1
  obtain ⟨x5, z5, e5⟩ := opz_3 k5 w5
  obtain rfl := (List.cons.inj e5).1
  exact ⟨(x0, x1, x2, x3, x4, x5), ⟨z0, z1, z2, z3, z4, z5⟩, _, r1, rfl⟩
theorem bytes_24 : Try.prog.bytesOf 24 = 72 := by kernel_rfl
set_option maxRecDepth 100000 in
theorem opz_32 {H : Type} {enc : TypeId × Value → H} {W : World} {fuel : Nat} {cs : List Value} {y : DataW H × List MemPlace} (h : DataW.trod enc Try.prog W 0 (fun _ => true) true fuel 32 cs = some y) (hz : Sd Try.prog 32 y.1) : ∃ (s : Value) (x : List (((List UInt8) × (List (List UInt8 × Int)) × Int × Int × Int × Int))), cs = [s] ∧ ((x).length * 72 ≤ reachBytes ∧ ∀ z1_ ∈ (x), ((z1_.1).length ≤ reachBytes ∧ ((z1_.2.1).length * 24 ≤ reachBytes ∧ ∀ z0_ ∈ (z1_.2.1), ((z0_.1).length ≤ reachBytes ∧ (-9223372036854775808 ≤ (z0_.2 : Int) ∧ (z0_.2 : Int) ≤ 9223372036854775807))) ∧ (-9223372036854775808 ≤ (z1_.2.2.1 : Int) ∧ (z1_.2.2.1 : Int) ≤ 9223372036854775807) ∧ (-9223372036854775808 ≤ (z1_.2.2.2.1 : Int) ∧ (z1_.2.2.2.1 : Int) ≤ 9223372036854775807) ∧ (-9223372036854775808 ≤ (z1_.2.2.2.2.1 : Int) ∧ (z1_.2.2.2.2.1 : Int) ≤ 9223372036854775807) ∧ (-9223372036854775808 ≤ (z1_.2.2.2.2.2 : Int) ∧ (z1_.2.2.2.2.2 : Int) ≤ 9223372036854775807))) ∧ RdN encr_24 (fun a => W.cell? a) s x :=
  rdn_of_trodZ encr_24 (fun x => ((x.1).length ≤ reachBytes ∧ ((x.2.1).length * 24 ≤ reachBytes ∧ ∀ z5_ ∈ (x.2.1), ((z5_.1).length ≤ reachBytes ∧ (-9223372036854775808 ≤ (z5_.2 : Int) ∧ (z5_.2 : Int) ≤ 9223372036854775807))) ∧ (-9223372036854775808 ≤ (x.2.2.1 : Int) ∧ (x.2.2.1 : Int) ≤ 9223372036854775807) ∧ (-9223372036854775808 ≤ (x.2.2.2.1 : Int) ∧ (x.2.2.2.1 : Int) ≤ 9223372036854775807) ∧ (-9223372036854775808 ≤ (x.2.2.2.2.1 : Int) ∧ (x.2.2.2.2.1 : Int) ≤ 9223372036854775807) ∧ (-9223372036854775808 ≤ (x.2.2.2.2.2 : Int) ∧ (x.2.2.2.2.2 : Int) ≤ 9223372036854775807))) rfl cells_24 bytes_24 (fun _ _ _ hy hz => opz_24 hy hz) h hz
theorem cells_33 : Try.prog.cellsOf 33 = 1 := by kernel_rfl
theorem cells_44 : Try.prog.cellsOf 44 = 3 := by kernel_rfl
set_option maxRecDepth 100000 in
theorem opz_44 {H : Type} {enc : TypeId × Value → H} {W : World} {fuel : Nat} {cs : List Value} {y : DataW H × List MemPlace} (h : DataW.trod enc Try.prog W 0 (fun _ => true) true fuel 44 cs = some y) (hz : Sd Try.prog 44 y.1) : ∃ x : (List UInt8 × Int × Int), ((x.1).length ≤ reachBytes ∧ (-9223372036854775808 ≤ (x.2.1 : Int) ∧ (x.2.1 : Int) ≤ 9223372036854775807) ∧ (-9223372036854775808 ≤ (x.2.2 : Int) ∧ (x.2.2 : Int) ≤ 9223372036854775807)) ∧ cs = enc_44.f x := by
  obtain ⟨xs, n, _, hxx, hl, hlen, hf⟩ := DataW.trod_struct rfl h
  have hz2 := hz
  rw [hxx] at hz2
  have hl2 : cs.length = 3 := hl.trans cells_44
  obtain ⟨c0, c1, c2, rfl⟩ : ∃ c0 c1 c2, cs = [c0, c1, c2] := by
    match cs, hl2 with
    | [c0, c1, c2], _ => exact ⟨c0, c1, c2, rfl⟩
  obtain ⟨y0, hy0⟩ : ∃ y, xs[0]? = some y := ⟨_, List.getElem?_eq_getElem (by rw [hlen]; decide)⟩
  have w0 := sd_field (d := y0.1) (i := 0) (ft := 9) rfl hz2 rfl (by rw [List.getElem?_map, hy0]; rfl)
  have g0 : DataW.trod enc Try.prog W 0 (fun _ => true) true n 9 ((([c0, c1, c2] : List Value).drop 0).take (Try.prog.cellsOf 9)) = some y0 := (hf 0 _ rfl).trans hy0
  rw [cells_9] at g0
  have k0 : DataW.trod enc Try.prog W 0 (fun _ => true) true n 9 [c0] = some y0 := g0
  obtain ⟨y1, hy1⟩ : ∃ y, xs[1]? = some y := ⟨_, List.getElem?_eq_getElem (by rw [hlen]; decide)⟩
  have w1 := sd_field (d := y1.1) (i := 1) (ft := 3) rfl hz2 rfl (by rw [List.getElem?_map, hy1]; rfl)
  have g1 : DataW.trod enc Try.prog W 0 (fun _ => true) true n 3 ((([c0, c1, c2] : List Value).drop 1).take (Try.prog.cellsOf 3)) = some y1 := (hf 1 _ rfl).trans hy1
  rw [cells_3] at g1
  have k1 : DataW.trod enc Try.prog W 0 (fun _ => true) true n 3 [c1] = some y1 := g1
  obtain ⟨y2, hy2⟩ : ∃ y, xs[2]? = some y := ⟨_, List.getElem?_eq_getElem (by rw [hlen]; decide)⟩
  have w2 := sd_field (d := y2.1) (i := 2) (ft := 3) rfl hz2 rfl (by rw [List.getElem?_map, hy2]; rfl)
  have g2 : DataW.trod enc Try.prog W 0 (fun _ => true) true n 3 ((([c0, c1, c2] : List Value).drop 2).take (Try.prog.cellsOf 3)) = some y2 := (hf 2 _ rfl).trans hy2
  rw [cells_3] at g2
  have k2 : DataW.trod enc Try.prog W 0 (fun _ => true) true n 3 [c2] = some y2 := g2
  obtain ⟨x0, z0, e0⟩ := opz_9 k0 w0
  obtain rfl := (List.cons.inj (show [c0] = [Value.string (⟨x0.toArray⟩)] from e0)).1
  obtain ⟨x1, z1, e1⟩ := opz_3 k1 w1
  obtain rfl := (List.cons.inj e1).1
  obtain ⟨x2, z2, e2⟩ := opz_3 k2 w2
  obtain rfl := (List.cons.inj e2).1
  exact ⟨(x0, x1, x2), ⟨z0, z1, z2⟩, by rfl⟩
theorem bytes_44 : Try.prog.bytesOf 44 = 32 := by kernel_rfl
set_option maxRecDepth 100000 in
theorem opz_33 {H : Type} {enc : TypeId × Value → H} {W : World} {fuel : Nat} {cs : List Value} {y : DataW H × List MemPlace} (h : DataW.trod enc Try.prog W 0 (fun _ => true) true fuel 33 cs = some y) (hz : Sd Try.prog 33 y.1) : ∃ (s : Value) (x : List ((List UInt8 × Int × Int))), cs = [s] ∧ ((x).length * 32 ≤ reachBytes ∧ ∀ z1_ ∈ (x), ((z1_.1).length ≤ reachBytes ∧ (-9223372036854775808 ≤ (z1_.2.1 : Int) ∧ (z1_.2.1 : Int) ≤ 9223372036854775807) ∧ (-9223372036854775808 ≤ (z1_.2.2 : Int) ∧ (z1_.2.2 : Int) ≤ 9223372036854775807))) ∧ Rd enc_44 (fun a => W.cell? a) s x :=
  rd_of_trodZ enc_44 (fun x => ((x.1).length ≤ reachBytes ∧ (-9223372036854775808 ≤ (x.2.1 : Int) ∧ (x.2.1 : Int) ≤ 9223372036854775807) ∧ (-9223372036854775808 ≤ (x.2.2 : Int) ∧ (x.2.2 : Int) ≤ 9223372036854775807))) rfl cells_44 bytes_44 (fun _ _ _ hy hz => opz_44 hy hz) h hz
set_option maxRecDepth 100000 in
theorem shapeInsts_lifted (os : Os) (started : os.Started) (H : Type) (enc : TypeId × Value → H) :
    ReturnsInHanded {} Try.checked os 4 .any (Rows.shapeInstsSpec.pre6 enc Try.prog Try.f4 Rows.shapeInstsRow.domain false) (Rows.shapeInstsSpec.post enc Try.prog Try.f4 false true false false) := by
  refine returnsInHanded_of_change_sized (C := Try.checked) own started (by kernel_rfl) Try.func4
    (ChangeSpec.witness6 (enc := enc) (C := Try.checked) false ⟨#[], #[.slice none 0 0, .slice none 0 0, .string ⟨#[]⟩], []⟩ 8 (by kernel_rfl) (by kernel_rfl) (by kernel_rfl) (by kernel_rfl)) ?_
  intro W base args ds gs before hval0 hW _ hsz0 _
  have hsz : (DataW.weightsEach Try.prog (Try.f4.params.toList ++ Rows.shapeInstsSpec.plain.varTypes Try.prog) (ds ++ gs)).all (· ≤ reachBytes) = true := hsz0
  have hval : ∀ (j : Nat) t v, Try.f4.params[j]? = some t → args[j]? = some v → Value.okWide Try.prog W .any base t v := hval0
  have hW' := hW
  obtain ⟨p, q, hA0, hV, rfl, _, _⟩ := hW
  have hA : DataW.TrodAll enc Try.prog W 0 (fun _ => true) true Try.f4.params.toList args.toList ds p := hA0
  rw [Try.params4] at hA hval hsz
  obtain ⟨v0, v1, v2, d0, d1, d2, p0, p1, p2, rfl, rfl, rfl, h0, h1, h2⟩ := trodAll_three hA
  obtain ⟨rfl, rfl⟩ := trodVars_none hV
  obtain ⟨x0, z0, r0⟩ : ∃ xs : List (((List UInt8) × (List (List UInt8 × Int)) × Int × Int × Int × Int)), ((xs).length * 72 ≤ reachBytes ∧ ∀ z2_ ∈ (xs), ((z2_.1).length ≤ reachBytes ∧ ((z2_.2.1).length * 24 ≤ reachBytes ∧ ∀ z0_ ∈ (z2_.2.1), ((z0_.1).length ≤ reachBytes ∧ (-9223372036854775808 ≤ (z0_.2 : Int) ∧ (z0_.2 : Int) ≤ 9223372036854775807))) ∧ (-9223372036854775808 ≤ (z2_.2.2.1 : Int) ∧ (z2_.2.2.1 : Int) ≤ 9223372036854775807) ∧ (-9223372036854775808 ≤ (z2_.2.2.2.1 : Int) ∧ (z2_.2.2.2.1 : Int) ≤ 9223372036854775807) ∧ (-9223372036854775808 ≤ (z2_.2.2.2.2.1 : Int) ∧ (z2_.2.2.2.2.1 : Int) ≤ 9223372036854775807) ∧ (-9223372036854775808 ≤ (z2_.2.2.2.2.2 : Int) ∧ (z2_.2.2.2.2.2 : Int) ≤ 9223372036854775807))) ∧ RdN encr_24 (fun a => W.cell? a) v0 xs := arg_sliceZ (Q := fun v => ∃ xs : List (((List UInt8) × (List (List UInt8 × Int)) × Int × Int × Int × Int)), ((xs).length * 72 ≤ reachBytes ∧ ∀ z2_ ∈ (xs), ((z2_.1).length ≤ reachBytes ∧ ((z2_.2.1).length * 24 ≤ reachBytes ∧ ∀ z0_ ∈ (z2_.2.1), ((z0_.1).length ≤ reachBytes ∧ (-9223372036854775808 ≤ (z0_.2 : Int) ∧ (z0_.2 : Int) ≤ 9223372036854775807))) ∧ (-9223372036854775808 ≤ (z2_.2.2.1 : Int) ∧ (z2_.2.2.1 : Int) ≤ 9223372036854775807) ∧ (-9223372036854775808 ≤ (z2_.2.2.2.1 : Int) ∧ (z2_.2.2.2.1 : Int) ≤ 9223372036854775807) ∧ (-9223372036854775808 ≤ (z2_.2.2.2.2.1 : Int) ∧ (z2_.2.2.2.2.1 : Int) ≤ 9223372036854775807) ∧ (-9223372036854775808 ≤ (z2_.2.2.2.2.2 : Int) ∧ (z2_.2.2.2.2.2 : Int) ≤ 9223372036854775807))) ∧ RdN encr_24 (fun a => W.cell? a) v xs) (P := Try.prog) (t := 32) rfl (hval 0 32 v0 rfl rfl) h0 (sd_arg hsz (j := 0) (t := 32) rfl rfl) (fun _ _ _ hh hz => by obtain ⟨s, xs, h1, h2, h3⟩ := opz_32 hh hz; exact ⟨s, h1, xs, h2, h3⟩)
  obtain ⟨x1, z1, r1⟩ : ∃ xs : List ((List UInt8 × Int × Int)), ((xs).length * 32 ≤ reachBytes ∧ ∀ z2_ ∈ (xs), ((z2_.1).length ≤ reachBytes ∧ (-9223372036854775808 ≤ (z2_.2.1 : Int) ∧ (z2_.2.1 : Int) ≤ 9223372036854775807) ∧ (-9223372036854775808 ≤ (z2_.2.2 : Int) ∧ (z2_.2.2 : Int) ≤ 9223372036854775807))) ∧ Rd enc_44 (fun a => W.cell? a) v1 xs := arg_sliceZ (Q := fun v => ∃ xs : List ((List UInt8 × Int × Int)), ((xs).length * 32 ≤ reachBytes ∧ ∀ z2_ ∈ (xs), ((z2_.1).length ≤ reachBytes ∧ (-9223372036854775808 ≤ (z2_.2.1 : Int) ∧ (z2_.2.1 : Int) ≤ 9223372036854775807) ∧ (-9223372036854775808 ≤ (z2_.2.2 : Int) ∧ (z2_.2.2 : Int) ≤ 9223372036854775807))) ∧ Rd enc_44 (fun a => W.cell? a) v xs) (P := Try.prog) (t := 33) rfl (hval 1 33 v1 rfl rfl) h1 (sd_arg hsz (j := 1) (t := 33) rfl rfl) (fun _ _ _ hh hz => by obtain ⟨s, xs, h1, h2, h3⟩ := opz_33 hh hz; exact ⟨s, h1, xs, h2, h3⟩)
  obtain ⟨x2, rfl, rfl, rfl, ws2⟩ := Go.ChangeMaps.open_string (P := Try.prog) (t := 9) rfl (hval 2 9 v2 rfl rfl) h2
  have z2 := sized_string hsz (j := 2) (t := 9) rfl rfl
  refine (does_run (shunterlaw08_ShapeInsts_g (fuelH x0) x0 x1 x2.data.toList true (insts_ss x0 (fun h hh => ⟨(z0.2 h hh).1, (z0.2 h hh).2.1.1, fun x hx => ((z0.2 h hh).2.1.2 x hx).1⟩) x1 x2.data.toList) (fun a => W.cell? a) v0 r0 v1 r1)).mono fun e W' ⟨he, hb⟩ => ?_
  subst he
  exact ⟨_, rfl, law_post (f := Try.f4) laidOut (by kernel_rfl) rfl (by rfl) rfl hW' rfl hb⟩

theorem shapeInsts_holds : Rows.ShapeInstsSaid :=
  OpenClaim.holds_of_wide 4 Try.f4 rfl rfl rfl rfl rfl rfl rfl ⟨rfl, rfl, rfl, rfl, rfl⟩ rfl rfl rfl rfl rfl (by kernel_rfl) Try.func4 (by kernel_rfl)
    (of_decide_eq_true (by kernel_rfl)) (by unfold Func.isWrapper; first | (rw [if_pos (by decide +kernel)]; kernel_rfl) | (rw [if_neg (by decide +kernel)]; exact ⟨rfl, rfl⟩))
    (fun os started H enc _ => shapeInsts_lifted os started H enc)

end Go.Proofs.Ytdmakhnmfnkcmaa
