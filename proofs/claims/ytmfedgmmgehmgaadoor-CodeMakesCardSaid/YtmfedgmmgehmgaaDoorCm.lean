/- Layer 9: the law CodeMakes answers true, if the program's functions have the answers that are told. Conditions: the structure Code9, proved elsewhere. -/
import Derived.Test.YtmfedgmmgehmgaaDoorCb
import Derived.Test.YtmfedgmmgehmgaaDoorLCodeMakes
namespace Go.Proofs.YtmfedgmmgehmgaaDoor
open Go Go.RowKit Go.Eng
theorem mk_in {N : Nat} (S : Code9 N) {o : Int} (h0 : 0 ≤ o) (h1 : o ≤ 34) (s : Sum31) (ht : typ9 s = (row9 o).2.2.2.2.2.2.2.2) (f : Option Int) (hf : f = some o) :
    ((shunterlaw09_typeOf_m N s).bind fun r60 => (shunterref09_Table_m N).bind fun r62 => ck (0 ≤ o ∧ o < (r62.length : Int)) (if r60 = (r62[o.toNat]!).2.2.2.2.2.2.2.2 then f.bind fun r69 => if r69 = o then (shunterlaw09_lives_m N).bind fun r72 => some r72 else some false else some false)) = some true := by
  unfold row9 at ht
  rw [typeOf_s, Option.bind_some, table_s, Option.bind_some, ck_pos _ (by rw [tab9_len]; omega), if_pos ht, hf, Option.bind_some, if_pos rfl]
  exact S.live
/-- Each step's operation. -/
structure Ops9 (N : Nat) : Prop where
  push : ∀ w x, code_Push_Op_m N w x = some 0
  place : ∀ o a b, code_Place_Op_m N o a b = some o
  cell : ∀ o a, code_Cell_Op_m N o a = some o
  slot : ∀ o a, code_Slot_Op_m N o a = some o
  one : ∀ o a, code_One_Op_m N o a = some o
  part : ∀ a b, code_Part_Op_m N a b = some 10
  heads : ∀ o a b, code_Heads_Op_m N o a b = some o
  jump : ∀ o a, code_Jump_Op_m N o a = some o
  gone : ∀ a b, code_Gone_Op_m N a b = some 33
  stop : code_Stop_Op_m N = some 34
  two : ∀ o, code_Two_Op_m N o = some o
theorem makes_k1 {N : Nat} (S : Code9 N) (O : Ops9 N) (o e : Int) (s : Sum31) (h1 : e ≠ 0 → s = .nil) (h2 : e = 0 → 0 ≤ o ∧ o ≤ 34 ∧ typ9 s = (row9 o).2.2.2.2.2.2.2.2 ∧ (ins9 s).1 = o) (e' : Int) : shunterlaw09_CodeMakes_k1 N o e (s, e') = some true := by
  unfold shunterlaw09_CodeMakes_k1
  by_cases c : e = 0
  rotate_left
  · rw [if_pos c, h1 c]; exact S.live
  rw [if_neg (fun h => h c)]
  obtain ⟨a0, a1, ht, ho⟩ := h2 c
  cases s
  case nil => exact absurd ht.symm (row_typ a0 a1)
  all_goals first
    | exact mk_in S a0 a1 (.t47 _ _) ht _ ((O.push _ _).trans (congrArg some ho))
    | exact mk_in S a0 a1 (.t49 _ _ _) ht _ ((O.place _ _ _).trans (congrArg some ho))
    | exact mk_in S a0 a1 (.t51 _ _) ht _ ((O.cell _ _).trans (congrArg some ho))
    | exact mk_in S a0 a1 (.t86 _ _) ht _ ((O.slot _ _).trans (congrArg some ho))
    | exact mk_in S a0 a1 (.t52 _ _) ht _ ((O.one _ _).trans (congrArg some ho))
    | exact mk_in S a0 a1 (.t54 _ _) ht _ ((O.part _ _).trans (congrArg some ho))
    | exact mk_in S a0 a1 (.t56 _ _ _) ht _ ((O.heads _ _ _).trans (congrArg some ho))
    | exact mk_in S a0 a1 (.t88 _ _) ht _ ((O.jump _ _).trans (congrArg some ho))
    | exact mk_in S a0 a1 (.t58 _ _) ht _ ((O.gone _ _).trans (congrArg some ho))
    | exact mk_in S a0 a1 .t90 ht _ (O.stop.trans (congrArg some ho))
    | exact mk_in S a0 a1 (.t60 _) ht _ ((O.two _).trans (congrArg some ho))
theorem codeMakes_true {N : Nat} (S : Code9 N) (O : Ops9 N) (o a b w : Int) (x : BitVec 128) : shunterlaw09_CodeMakes_m N o a b w x = some true := by
  unfold shunterlaw09_CodeMakes_m
  rw [refmay9_s, Option.bind_some, S.make, Option.bind_some, S.may, Option.bind_some, if_neg (fun h => h rfl), if_neg (fun h => h rfl)]
  refine makes_k1 S O o _ _ (fun h => if_neg h) (fun h => ?_) _
  obtain ⟨h0, h1⟩ := may9_op h
  obtain ⟨t, i⟩ := step9_ok h
  rw [if_pos h]
  exact ⟨h0, h1, t, by rw [i]⟩
end Go.Proofs.YtmfedgmmgehmgaaDoor
