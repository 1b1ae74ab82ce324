/- models of functions and their walks -/
import Derived.Test.YtmfedgmmgehmgaaDoorIt
import Derived.Test.YtmfedgmmgehmgaaDoorYt
import Derived.Test.YtmfedgmmgehmgaaDoorAs
import Derived.Test.YtmfedgmmgehmgaaDoorBu
import Derived.Test.YtmfedgmmgehmgaaDoorMove
import Derived.Test.YtmfedgmmgehmgaaDoorReft
import Derived.Test.YtmfedgmmgehmgaaDoorTeP
import Derived.Test.YtmfedgmmgehmgaaDoorIo
namespace Go.Proofs.YtmfedgmmgehmgaaDoor
open Go Go.RowKit Go.Eng
abbrev kBa27_0 (b : Nat) (x0 : Int) (x1 : Int) (x2 : Int) (x3 : Int) (x4 : BitVec 64) (x5 : BitVec 64) : List Bl := [(b, 27, #[vI x0, vI x1, vI x2, vI x3, U x4, U x5])]
abbrev kBa38_1 (b : Nat) (x0 : List UInt8) (x1 : Int) (x2 : Int) (x3 : Int) (x4 : Int) (x5 : Int) (x6 : Int) (x7 : Int) (x8 : List UInt8) : List Bl := [(b, 38, #[vS x0, vI x1, vI x2, vI x3, vI x4, vI x5, vI x6, vI x7, vS x8])]
abbrev kBa81_2 (b : Nat) (x0 : Int) (x1 : Int) : List Bl := [(b, 81, #[vI x0, vI x1])]
def enc_38 : Enc (List UInt8 × Int × Int × Int × Int × Int × Int × Int × List UInt8) := ⟨fun x => [vS x.1, vI x.2.1, vI x.2.2.1, vI x.2.2.2.1, vI x.2.2.2.2.1, vI x.2.2.2.2.2.1, vI x.2.2.2.2.2.2.1, vI x.2.2.2.2.2.2.2.1, vS x.2.2.2.2.2.2.2.2], 9, by decide, fun _ => rfl, fun x v h => by simp only [List.mem_cons, List.not_mem_nil, or_false] at h; rcases h with rfl | rfl | rfl | rfl | rfl | rfl | rfl | rfl | rfl <;> rfl, True⟩
def enc_27 : Enc (Int × Int × Int × Int × BitVec 128) := ⟨fun x => [vI x.1, vI x.2.1, vI x.2.2.1, vI x.2.2.2.1, U (hi x.2.2.2.2), U (lo x.2.2.2.2)], 6, by decide, fun _ => rfl, fun x v h => by simp only [List.mem_cons, List.not_mem_nil, or_false] at h; rcases h with rfl | rfl | rfl | rfl | rfl | rfl <;> rfl, True⟩
def shunterref09_Table_m (_ : Nat) : Option (List (List UInt8 × Int × Int × Int × Int × Int × Int × Int × List UInt8)) := some ([(([112, 117, 115, 104] : List UInt8), 0, 1, 0, 0, 0, 0, 0, ([80, 117, 115, 104] : List UInt8)), (([102, 105, 101, 108, 100] : List UInt8), 0, 1, 2, 0, 31, 0, 15, ([80, 108, 97, 99, 101] : List UInt8)), (([109, 101, 116, 97] : List UInt8), 0, 1, 1, 0, 23, 0, 0, ([67, 101, 108, 108] : List UInt8)), (([112, 97, 114, 97, 109] : List UInt8), 0, 1, 1, 0, 7, 0, 0, ([67, 101, 108, 108] : List UInt8)), (([118, 97, 108, 105, 100] : List UInt8), 0, 1, 1, 0, 31, 0, 0, ([83, 108, 111, 116] : List UInt8)), (([114, 101, 103] : List UInt8), 1, 1, 1, 0, 7, 0, 0, ([67, 101, 108, 108] : List UInt8)), (([110, 111, 116] : List UInt8), 1, 1, 0, 0, 0, 0, 0, ([79, 110, 101] : List UInt8)), (([110, 101, 103] : List UInt8), 1, 1, 0, 0, 0, 0, 0, ([79, 110, 101] : List UInt8)), (([115, 104, 108] : List UInt8), 1, 1, 1, 0, 128, 0, 0, ([79, 110, 101] : List UInt8)), (([115, 104, 114] : List UInt8), 1, 1, 1, 0, 128, 0, 0, ([79, 110, 101] : List UInt8)), (([115, 108, 105, 99, 101] : List UInt8), 1, 1, 2, 0, 127, 0, 127, ([80, 97, 114, 116] : List UInt8)), (([99, 97, 115, 116] : List UInt8), 1, 1, 1, 1, 128, 0, 0, ([79, 110, 101] : List UInt8)), (([97, 100, 100] : List UInt8), 2, 1, 0, 0, 0, 0, 0, ([84, 119, 111] : List UInt8)), (([115, 117, 98] : List UInt8), 2, 1, 0, 0, 0, 0, 0, ([84, 119, 111] : List UInt8)), (([97, 100, 100, 45, 115, 97, 116] : List UInt8), 2, 1, 0, 0, 0, 0, 0, ([84, 119, 111] : List UInt8)), (([115, 117, 98, 45, 115, 97, 116] : List UInt8), 2, 1, 0, 0, 0, 0, 0, ([84, 119, 111] : List UInt8)), (([97, 110, 100] : List UInt8), 2, 1, 0, 0, 0, 0, 0, ([84, 119, 111] : List UInt8)), (([111, 114] : List UInt8), 2, 1, 0, 0, 0, 0, 0, ([84, 119, 111] : List UInt8)), (([120, 111, 114] : List UInt8), 2, 1, 0, 0, 0, 0, 0, ([84, 119, 111] : List UInt8)), (([99, 97, 116] : List UInt8), 2, 1, 0, 0, 0, 0, 0, ([84, 119, 111] : List UInt8)), (([101, 113] : List UInt8), 2, 1, 0, 0, 0, 0, 0, ([84, 119, 111] : List UInt8)), (([108, 101, 115, 115] : List UInt8), 2, 1, 0, 0, 0, 0, 0, ([84, 119, 111] : List UInt8)), (([112, 117, 116, 45, 102, 105, 101, 108, 100] : List UInt8), 1, 0, 2, 0, 31, 0, 15, ([80, 108, 97, 99, 101] : List UInt8)), (([112, 117, 116, 45, 109, 101, 116, 97] : List UInt8), 1, 0, 1, 0, 23, 0, 0, ([67, 101, 108, 108] : List UInt8)), (([112, 117, 116, 45, 114, 101, 103] : List UInt8), 2, 0, 1, 0, 7, 0, 0, ([67, 101, 108, 108] : List UInt8)), (([115, 104, 111, 119] : List UInt8), 0, 0, 1, 0, 31, 0, 0, ([83, 108, 111, 116] : List UInt8)), (([104, 105, 100, 101] : List UInt8), 0, 0, 1, 0, 31, 0, 0, ([83, 108, 111, 116] : List UInt8)), (([112, 117, 115, 104, 45, 104, 101, 97, 100] : List UInt8), 0, 0, 2, 0, 15, 1, 4, ([72, 101, 97, 100, 115] : List UInt8)), (([112, 111, 112, 45, 104, 101, 97, 100] : List UInt8), 0, 0, 2, 0, 15, 1, 4, ([72, 101, 97, 100, 115] : List UInt8)), (([99, 111, 117, 110, 116] : List UInt8), 1, 0, 1, 0, 7, 0, 0, ([67, 101, 108, 108] : List UInt8)), (([109, 101, 116, 101, 114] : List UInt8), 1, 1, 1, 0, 7, 0, 0, ([67, 101, 108, 108] : List UInt8)), (([106, 117, 109, 112] : List UInt8), 0, 0, 1, 0, 64, 0, 0, ([74, 117, 109, 112] : List UInt8)), (([106, 117, 109, 112, 45, 122, 101, 114, 111] : List UInt8), 1, 0, 1, 0, 64, 0, 0, ([74, 117, 109, 112] : List UInt8)), (([106, 117, 109, 112, 45, 103, 111, 110, 101] : List UInt8), 0, 0, 2, 0, 31, 0, 64, ([71, 111, 110, 101] : List UInt8)), (([115, 116, 111, 112] : List UInt8), 0, 0, 0, 0, 0, 0, 0, ([83, 116, 111, 112] : List UInt8))])
set_option maxRecDepth 100000 in
set_option maxHeartbeats 8000000 in
theorem shunterref09_Table_g (N : Nat) (r) (hM : shunterref09_Table_m N = some r) (ro : Addr → Option Value) : Does Tryd.prog 13 #[] ro [] (p1 (fun s_ => s_) 38 enc_38 r) := by
 unfold shunterref09_Table_m at hM
 refine does_of_A follows Tryd.func13 rfl 79 rfl (fun _ => undef) (by funext k; rfl) (fun base0_ => ?_)
 refine A_sr <| r_V nS rfl <| lx_nil <| A_sc [(some 78, false)] (conG Tryd.prog []) <| r_W (vA #[Value.string (⟨#[112, 117, 115, 104]⟩), vI 0, vI 1, vI 0, vI 0, vI 0, vI 0, vI 0, Value.string (⟨#[80, 117, 115, 104]⟩)]) rfl (ev_buildS rfl rfl rfl rfl) <| r_W (vA #[vI 0, vI 31]) rfl (ev_buildA rfl rfl rfl rfl) <| r_W (vA #[vI 0, vI 15]) rfl (ev_buildA rfl rfl rfl rfl) <| r_W (vA #[Value.string (⟨#[102, 105, 101, 108, 100]⟩), vI 0, vI 1, vI 2, vI 0, vI 31, vI 0, vI 15, Value.string (⟨#[80, 108, 97, 99, 101]⟩)]) rfl (ev_buildS rfl rfl rfl (by kernel_rfl)) <| r_W (vA #[vI 0, vI 23]) rfl (ev_buildA rfl rfl rfl rfl) <| r_W (vA #[vI 0, vI 0]) rfl (ev_buildA rfl rfl rfl rfl) ?_
 refine r_W (vA #[Value.string (⟨#[109, 101, 116, 97]⟩), vI 0, vI 1, vI 1, vI 0, vI 23, vI 0, vI 0, Value.string (⟨#[67, 101, 108, 108]⟩)]) rfl (ev_buildS rfl rfl rfl (by kernel_rfl)) <| r_W (vA #[vI 0, vI 7]) rfl (ev_buildA rfl rfl rfl rfl) <| r_W (vA #[vI 0, vI 0]) rfl (ev_buildA rfl rfl rfl rfl) <| r_W (vA #[Value.string (⟨#[112, 97, 114, 97, 109]⟩), vI 0, vI 1, vI 1, vI 0, vI 7, vI 0, vI 0, Value.string (⟨#[67, 101, 108, 108]⟩)]) rfl (ev_buildS rfl rfl rfl (by kernel_rfl)) <| r_W (vA #[vI 0, vI 31]) rfl (ev_buildA rfl rfl rfl rfl) <| r_W (vA #[vI 0, vI 0]) rfl (ev_buildA rfl rfl rfl rfl) ?_
 refine r_W (vA #[Value.string (⟨#[118, 97, 108, 105, 100]⟩), vI 0, vI 1, vI 1, vI 0, vI 31, vI 0, vI 0, Value.string (⟨#[83, 108, 111, 116]⟩)]) rfl (ev_buildS rfl rfl rfl (by kernel_rfl)) <| r_W (vA #[vI 0, vI 7]) rfl (ev_buildA rfl rfl rfl rfl) <| r_W (vA #[vI 0, vI 0]) rfl (ev_buildA rfl rfl rfl rfl) <| r_W (vA #[Value.string (⟨#[114, 101, 103]⟩), vI 1, vI 1, vI 1, vI 0, vI 7, vI 0, vI 0, Value.string (⟨#[67, 101, 108, 108]⟩)]) rfl (ev_buildS rfl rfl rfl (by kernel_rfl)) <| r_W (vA #[Value.string (⟨#[110, 111, 116]⟩), vI 1, vI 1, vI 0, vI 0, vI 0, vI 0, vI 0, Value.string (⟨#[79, 110, 101]⟩)]) rfl (ev_buildS rfl rfl rfl rfl) ?_
 refine r_W (vA #[Value.string (⟨#[110, 101, 103]⟩), vI 1, vI 1, vI 0, vI 0, vI 0, vI 0, vI 0, Value.string (⟨#[79, 110, 101]⟩)]) rfl (ev_buildS rfl rfl rfl rfl) <| r_W (vA #[vI 0, vI 128]) rfl (ev_buildA rfl rfl rfl rfl) <| r_W (vA #[vI 0, vI 0]) rfl (ev_buildA rfl rfl rfl rfl) <| r_W (vA #[Value.string (⟨#[115, 104, 108]⟩), vI 1, vI 1, vI 1, vI 0, vI 128, vI 0, vI 0, Value.string (⟨#[79, 110, 101]⟩)]) rfl (ev_buildS rfl rfl rfl (by kernel_rfl)) <| r_W (vA #[vI 0, vI 128]) rfl (ev_buildA rfl rfl rfl rfl) <| r_W (vA #[vI 0, vI 0]) rfl (ev_buildA rfl rfl rfl rfl) ?_
 refine r_W (vA #[Value.string (⟨#[115, 104, 114]⟩), vI 1, vI 1, vI 1, vI 0, vI 128, vI 0, vI 0, Value.string (⟨#[79, 110, 101]⟩)]) rfl (ev_buildS rfl rfl rfl (by kernel_rfl)) <| r_W (vA #[vI 0, vI 127]) rfl (ev_buildA rfl rfl rfl rfl) <| r_W (vA #[vI 0, vI 127]) rfl (ev_buildA rfl rfl rfl rfl) <| r_W (vA #[Value.string (⟨#[115, 108, 105, 99, 101]⟩), vI 1, vI 1, vI 2, vI 0, vI 127, vI 0, vI 127, Value.string (⟨#[80, 97, 114, 116]⟩)]) rfl (ev_buildS rfl rfl rfl (by kernel_rfl)) <| r_W (vA #[vI 1, vI 128]) rfl (ev_buildA rfl rfl rfl rfl) <| r_W (vA #[vI 0, vI 0]) rfl (ev_buildA rfl rfl rfl rfl) ?_
 refine r_W (vA #[Value.string (⟨#[99, 97, 115, 116]⟩), vI 1, vI 1, vI 1, vI 1, vI 128, vI 0, vI 0, Value.string (⟨#[79, 110, 101]⟩)]) rfl (ev_buildS rfl rfl rfl (by kernel_rfl)) <| r_W (vA #[Value.string (⟨#[97, 100, 100]⟩), vI 2, vI 1, vI 0, vI 0, vI 0, vI 0, vI 0, Value.string (⟨#[84, 119, 111]⟩)]) rfl (ev_buildS rfl rfl rfl rfl) <| r_W (vA #[Value.string (⟨#[115, 117, 98]⟩), vI 2, vI 1, vI 0, vI 0, vI 0, vI 0, vI 0, Value.string (⟨#[84, 119, 111]⟩)]) rfl (ev_buildS rfl rfl rfl rfl) <| r_W (vA #[Value.string (⟨#[97, 100, 100, 45, 115, 97, 116]⟩), vI 2, vI 1, vI 0, vI 0, vI 0, vI 0, vI 0, Value.string (⟨#[84, 119, 111]⟩)]) rfl (ev_buildS rfl rfl rfl rfl) ?_
 refine r_W (vA #[Value.string (⟨#[115, 117, 98, 45, 115, 97, 116]⟩), vI 2, vI 1, vI 0, vI 0, vI 0, vI 0, vI 0, Value.string (⟨#[84, 119, 111]⟩)]) rfl (ev_buildS rfl rfl rfl rfl) <| r_W (vA #[Value.string (⟨#[97, 110, 100]⟩), vI 2, vI 1, vI 0, vI 0, vI 0, vI 0, vI 0, Value.string (⟨#[84, 119, 111]⟩)]) rfl (ev_buildS rfl rfl rfl rfl) <| r_W (vA #[Value.string (⟨#[111, 114]⟩), vI 2, vI 1, vI 0, vI 0, vI 0, vI 0, vI 0, Value.string (⟨#[84, 119, 111]⟩)]) rfl (ev_buildS rfl rfl rfl rfl) <| r_W (vA #[Value.string (⟨#[120, 111, 114]⟩), vI 2, vI 1, vI 0, vI 0, vI 0, vI 0, vI 0, Value.string (⟨#[84, 119, 111]⟩)]) rfl (ev_buildS rfl rfl rfl rfl) ?_
 refine r_W (vA #[Value.string (⟨#[99, 97, 116]⟩), vI 2, vI 1, vI 0, vI 0, vI 0, vI 0, vI 0, Value.string (⟨#[84, 119, 111]⟩)]) rfl (ev_buildS rfl rfl rfl rfl) <| r_W (vA #[Value.string (⟨#[101, 113]⟩), vI 2, vI 1, vI 0, vI 0, vI 0, vI 0, vI 0, Value.string (⟨#[84, 119, 111]⟩)]) rfl (ev_buildS rfl rfl rfl rfl) <| r_W (vA #[Value.string (⟨#[108, 101, 115, 115]⟩), vI 2, vI 1, vI 0, vI 0, vI 0, vI 0, vI 0, Value.string (⟨#[84, 119, 111]⟩)]) rfl (ev_buildS rfl rfl rfl rfl) <| r_W (vA #[vI 0, vI 31]) rfl (ev_buildA rfl rfl rfl rfl) <| r_W (vA #[vI 0, vI 15]) rfl (ev_buildA rfl rfl rfl rfl) ?_
 refine r_W (vA #[Value.string (⟨#[112, 117, 116, 45, 102, 105, 101, 108, 100]⟩), vI 1, vI 0, vI 2, vI 0, vI 31, vI 0, vI 15, Value.string (⟨#[80, 108, 97, 99, 101]⟩)]) rfl (ev_buildS rfl rfl rfl (by kernel_rfl)) <| r_W (vA #[vI 0, vI 23]) rfl (ev_buildA rfl rfl rfl rfl) <| r_W (vA #[vI 0, vI 0]) rfl (ev_buildA rfl rfl rfl rfl) <| r_W (vA #[Value.string (⟨#[112, 117, 116, 45, 109, 101, 116, 97]⟩), vI 1, vI 0, vI 1, vI 0, vI 23, vI 0, vI 0, Value.string (⟨#[67, 101, 108, 108]⟩)]) rfl (ev_buildS rfl rfl rfl (by kernel_rfl)) <| r_W (vA #[vI 0, vI 7]) rfl (ev_buildA rfl rfl rfl rfl) <| r_W (vA #[vI 0, vI 0]) rfl (ev_buildA rfl rfl rfl rfl) ?_
 refine r_W (vA #[Value.string (⟨#[112, 117, 116, 45, 114, 101, 103]⟩), vI 2, vI 0, vI 1, vI 0, vI 7, vI 0, vI 0, Value.string (⟨#[67, 101, 108, 108]⟩)]) rfl (ev_buildS rfl rfl rfl (by kernel_rfl)) <| r_W (vA #[vI 0, vI 31]) rfl (ev_buildA rfl rfl rfl rfl) <| r_W (vA #[vI 0, vI 0]) rfl (ev_buildA rfl rfl rfl rfl) <| r_W (vA #[Value.string (⟨#[115, 104, 111, 119]⟩), vI 0, vI 0, vI 1, vI 0, vI 31, vI 0, vI 0, Value.string (⟨#[83, 108, 111, 116]⟩)]) rfl (ev_buildS rfl rfl rfl (by kernel_rfl)) <| r_W (vA #[vI 0, vI 31]) rfl (ev_buildA rfl rfl rfl rfl) <| r_W (vA #[vI 0, vI 0]) rfl (ev_buildA rfl rfl rfl rfl) ?_
 refine r_W (vA #[Value.string (⟨#[104, 105, 100, 101]⟩), vI 0, vI 0, vI 1, vI 0, vI 31, vI 0, vI 0, Value.string (⟨#[83, 108, 111, 116]⟩)]) rfl (ev_buildS rfl rfl rfl (by kernel_rfl)) <| r_W (vA #[vI 0, vI 15]) rfl (ev_buildA rfl rfl rfl rfl) <| r_W (vA #[vI 1, vI 4]) rfl (ev_buildA rfl rfl rfl rfl) <| r_W (vA #[Value.string (⟨#[112, 117, 115, 104, 45, 104, 101, 97, 100]⟩), vI 0, vI 0, vI 2, vI 0, vI 15, vI 1, vI 4, Value.string (⟨#[72, 101, 97, 100, 115]⟩)]) rfl (ev_buildS rfl rfl rfl (by kernel_rfl)) <| r_W (vA #[vI 0, vI 15]) rfl (ev_buildA rfl rfl rfl rfl) <| r_W (vA #[vI 1, vI 4]) rfl (ev_buildA rfl rfl rfl rfl) ?_
 refine r_W (vA #[Value.string (⟨#[112, 111, 112, 45, 104, 101, 97, 100]⟩), vI 0, vI 0, vI 2, vI 0, vI 15, vI 1, vI 4, Value.string (⟨#[72, 101, 97, 100, 115]⟩)]) rfl (ev_buildS rfl rfl rfl (by kernel_rfl)) <| r_W (vA #[vI 0, vI 7]) rfl (ev_buildA rfl rfl rfl rfl) <| r_W (vA #[vI 0, vI 0]) rfl (ev_buildA rfl rfl rfl rfl) <| r_W (vA #[Value.string (⟨#[99, 111, 117, 110, 116]⟩), vI 1, vI 0, vI 1, vI 0, vI 7, vI 0, vI 0, Value.string (⟨#[67, 101, 108, 108]⟩)]) rfl (ev_buildS rfl rfl rfl (by kernel_rfl)) <| r_W (vA #[vI 0, vI 7]) rfl (ev_buildA rfl rfl rfl rfl) <| r_W (vA #[vI 0, vI 0]) rfl (ev_buildA rfl rfl rfl rfl) ?_
 refine r_W (vA #[Value.string (⟨#[109, 101, 116, 101, 114]⟩), vI 1, vI 1, vI 1, vI 0, vI 7, vI 0, vI 0, Value.string (⟨#[67, 101, 108, 108]⟩)]) rfl (ev_buildS rfl rfl rfl (by kernel_rfl)) <| r_W (vA #[vI 0, vI 64]) rfl (ev_buildA rfl rfl rfl rfl) <| r_W (vA #[vI 0, vI 0]) rfl (ev_buildA rfl rfl rfl rfl) <| r_W (vA #[Value.string (⟨#[106, 117, 109, 112]⟩), vI 0, vI 0, vI 1, vI 0, vI 64, vI 0, vI 0, Value.string (⟨#[74, 117, 109, 112]⟩)]) rfl (ev_buildS rfl rfl rfl (by kernel_rfl)) <| r_W (vA #[vI 0, vI 64]) rfl (ev_buildA rfl rfl rfl rfl) <| r_W (vA #[vI 0, vI 0]) rfl (ev_buildA rfl rfl rfl rfl) ?_
 refine r_W (vA #[Value.string (⟨#[106, 117, 109, 112, 45, 122, 101, 114, 111]⟩), vI 1, vI 0, vI 1, vI 0, vI 64, vI 0, vI 0, Value.string (⟨#[74, 117, 109, 112]⟩)]) rfl (ev_buildS rfl rfl rfl (by kernel_rfl)) <| r_W (vA #[vI 0, vI 31]) rfl (ev_buildA rfl rfl rfl rfl) <| r_W (vA #[vI 0, vI 64]) rfl (ev_buildA rfl rfl rfl rfl) <| r_W (vA #[Value.string (⟨#[106, 117, 109, 112, 45, 103, 111, 110, 101]⟩), vI 0, vI 0, vI 2, vI 0, vI 31, vI 0, vI 64, Value.string (⟨#[71, 111, 110, 101]⟩)]) rfl (ev_buildS rfl rfl rfl (by kernel_rfl)) ?_
 refine r_W (vA #[Value.string (⟨#[115, 116, 111, 112]⟩), vI 0, vI 0, vI 0, vI 0, vI 0, vI 0, vI 0, Value.string (⟨#[83, 116, 111, 112]⟩)]) rfl (ev_buildS rfl rfl rfl rfl) ?_
 refine r_bs (cs0 := []) (Ls := []) 38 enc_38 [(([112, 117, 115, 104] : List UInt8), 0, 1, 0, 0, 0, 0, 0, ([80, 117, 115, 104] : List UInt8)), (([102, 105, 101, 108, 100] : List UInt8), 0, 1, 2, 0, 31, 0, 15, ([80, 108, 97, 99, 101] : List UInt8)), (([109, 101, 116, 97] : List UInt8), 0, 1, 1, 0, 23, 0, 0, ([67, 101, 108, 108] : List UInt8)), (([112, 97, 114, 97, 109] : List UInt8), 0, 1, 1, 0, 7, 0, 0, ([67, 101, 108, 108] : List UInt8)), (([118, 97, 108, 105, 100] : List UInt8), 0, 1, 1, 0, 31, 0, 0, ([83, 108, 111, 116] : List UInt8)), (([114, 101, 103] : List UInt8), 1, 1, 1, 0, 7, 0, 0, ([67, 101, 108, 108] : List UInt8)), (([110, 111, 116] : List UInt8), 1, 1, 0, 0, 0, 0, 0, ([79, 110, 101] : List UInt8)), (([110, 101, 103] : List UInt8), 1, 1, 0, 0, 0, 0, 0, ([79, 110, 101] : List UInt8)), (([115, 104, 108] : List UInt8), 1, 1, 1, 0, 128, 0, 0, ([79, 110, 101] : List UInt8)), (([115, 104, 114] : List UInt8), 1, 1, 1, 0, 128, 0, 0, ([79, 110, 101] : List UInt8)), (([115, 108, 105, 99, 101] : List UInt8), 1, 1, 2, 0, 127, 0, 127, ([80, 97, 114, 116] : List UInt8)), (([99, 97, 115, 116] : List UInt8), 1, 1, 1, 1, 128, 0, 0, ([79, 110, 101] : List UInt8)), (([97, 100, 100] : List UInt8), 2, 1, 0, 0, 0, 0, 0, ([84, 119, 111] : List UInt8)), (([115, 117, 98] : List UInt8), 2, 1, 0, 0, 0, 0, 0, ([84, 119, 111] : List UInt8)), (([97, 100, 100, 45, 115, 97, 116] : List UInt8), 2, 1, 0, 0, 0, 0, 0, ([84, 119, 111] : List UInt8)), (([115, 117, 98, 45, 115, 97, 116] : List UInt8), 2, 1, 0, 0, 0, 0, 0, ([84, 119, 111] : List UInt8)), (([97, 110, 100] : List UInt8), 2, 1, 0, 0, 0, 0, 0, ([84, 119, 111] : List UInt8)), (([111, 114] : List UInt8), 2, 1, 0, 0, 0, 0, 0, ([84, 119, 111] : List UInt8)), (([120, 111, 114] : List UInt8), 2, 1, 0, 0, 0, 0, 0, ([84, 119, 111] : List UInt8)), (([99, 97, 116] : List UInt8), 2, 1, 0, 0, 0, 0, 0, ([84, 119, 111] : List UInt8)), (([101, 113] : List UInt8), 2, 1, 0, 0, 0, 0, 0, ([84, 119, 111] : List UInt8)), (([108, 101, 115, 115] : List UInt8), 2, 1, 0, 0, 0, 0, 0, ([84, 119, 111] : List UInt8)), (([112, 117, 116, 45, 102, 105, 101, 108, 100] : List UInt8), 1, 0, 2, 0, 31, 0, 15, ([80, 108, 97, 99, 101] : List UInt8)), (([112, 117, 116, 45, 109, 101, 116, 97] : List UInt8), 1, 0, 1, 0, 23, 0, 0, ([67, 101, 108, 108] : List UInt8)), (([112, 117, 116, 45, 114, 101, 103] : List UInt8), 2, 0, 1, 0, 7, 0, 0, ([67, 101, 108, 108] : List UInt8)), (([115, 104, 111, 119] : List UInt8), 0, 0, 1, 0, 31, 0, 0, ([83, 108, 111, 116] : List UInt8)), (([104, 105, 100, 101] : List UInt8), 0, 0, 1, 0, 31, 0, 0, ([83, 108, 111, 116] : List UInt8)), (([112, 117, 115, 104, 45, 104, 101, 97, 100] : List UInt8), 0, 0, 2, 0, 15, 1, 4, ([72, 101, 97, 100, 115] : List UInt8)), (([112, 111, 112, 45, 104, 101, 97, 100] : List UInt8), 0, 0, 2, 0, 15, 1, 4, ([72, 101, 97, 100, 115] : List UInt8)), (([99, 111, 117, 110, 116] : List UInt8), 1, 0, 1, 0, 7, 0, 0, ([67, 101, 108, 108] : List UInt8)), (([109, 101, 116, 101, 114] : List UInt8), 1, 1, 1, 0, 7, 0, 0, ([67, 101, 108, 108] : List UInt8)), (([106, 117, 109, 112] : List UInt8), 0, 0, 1, 0, 64, 0, 0, ([74, 117, 109, 112] : List UInt8)), (([106, 117, 109, 112, 45, 122, 101, 114, 111] : List UInt8), 1, 0, 1, 0, 64, 0, 0, ([74, 117, 109, 112] : List UInt8)), (([106, 117, 109, 112, 45, 103, 111, 110, 101] : List UInt8), 0, 0, 2, 0, 31, 0, 64, ([71, 111, 110, 101] : List UInt8)), (([115, 116, 111, 112] : List UInt8), 0, 0, 0, 0, 0, 0, 0, ([83, 116, 111, 112] : List UInt8))] [Value.string (⟨#[112, 117, 115, 104]⟩), vI 0, vI 1, vI 0, vI 0, vI 0, vI 0, vI 0, Value.string (⟨#[80, 117, 115, 104]⟩), Value.string (⟨#[102, 105, 101, 108, 100]⟩), vI 0, vI 1, vI 2, vI 0, vI 31, vI 0, vI 15, Value.string (⟨#[80, 108, 97, 99, 101]⟩), Value.string (⟨#[109, 101, 116, 97]⟩), vI 0, vI 1, vI 1, vI 0, vI 23, vI 0, vI 0, Value.string (⟨#[67, 101, 108, 108]⟩), Value.string (⟨#[112, 97, 114, 97, 109]⟩), vI 0, vI 1, vI 1, vI 0, vI 7, vI 0, vI 0, Value.string (⟨#[67, 101, 108, 108]⟩), Value.string (⟨#[118, 97, 108, 105, 100]⟩), vI 0, vI 1, vI 1, vI 0, vI 31, vI 0, vI 0, Value.string (⟨#[83, 108, 111, 116]⟩), Value.string (⟨#[114, 101, 103]⟩), vI 1, vI 1, vI 1, vI 0, vI 7, vI 0, vI 0, Value.string (⟨#[67, 101, 108, 108]⟩), Value.string (⟨#[110, 111, 116]⟩), vI 1, vI 1, vI 0, vI 0, vI 0, vI 0, vI 0, Value.string (⟨#[79, 110, 101]⟩), Value.string (⟨#[110, 101, 103]⟩), vI 1, vI 1, vI 0, vI 0, vI 0, vI 0, vI 0, Value.string (⟨#[79, 110, 101]⟩), Value.string (⟨#[115, 104, 108]⟩), vI 1, vI 1, vI 1, vI 0, vI 128, vI 0, vI 0, Value.string (⟨#[79, 110, 101]⟩), Value.string (⟨#[115, 104, 114]⟩), vI 1, vI 1, vI 1, vI 0, vI 128, vI 0, vI 0, Value.string (⟨#[79, 110, 101]⟩), Value.string (⟨#[115, 108, 105, 99, 101]⟩), vI 1, vI 1, vI 2, vI 0, vI 127, vI 0, vI 127, Value.string (⟨#[80, 97, 114, 116]⟩), Value.string (⟨#[99, 97, 115, 116]⟩), vI 1, vI 1, vI 1, vI 1, vI 128, vI 0, vI 0, Value.string (⟨#[79, 110, 101]⟩), Value.string (⟨#[97, 100, 100]⟩), vI 2, vI 1, vI 0, vI 0, vI 0, vI 0, vI 0, Value.string (⟨#[84, 119, 111]⟩), Value.string (⟨#[115, 117, 98]⟩), vI 2, vI 1, vI 0, vI 0, vI 0, vI 0, vI 0, Value.string (⟨#[84, 119, 111]⟩), Value.string (⟨#[97, 100, 100, 45, 115, 97, 116]⟩), vI 2, vI 1, vI 0, vI 0, vI 0, vI 0, vI 0, Value.string (⟨#[84, 119, 111]⟩), Value.string (⟨#[115, 117, 98, 45, 115, 97, 116]⟩), vI 2, vI 1, vI 0, vI 0, vI 0, vI 0, vI 0, Value.string (⟨#[84, 119, 111]⟩), Value.string (⟨#[97, 110, 100]⟩), vI 2, vI 1, vI 0, vI 0, vI 0, vI 0, vI 0, Value.string (⟨#[84, 119, 111]⟩), Value.string (⟨#[111, 114]⟩), vI 2, vI 1, vI 0, vI 0, vI 0, vI 0, vI 0, Value.string (⟨#[84, 119, 111]⟩), Value.string (⟨#[120, 111, 114]⟩), vI 2, vI 1, vI 0, vI 0, vI 0, vI 0, vI 0, Value.string (⟨#[84, 119, 111]⟩), Value.string (⟨#[99, 97, 116]⟩), vI 2, vI 1, vI 0, vI 0, vI 0, vI 0, vI 0, Value.string (⟨#[84, 119, 111]⟩), Value.string (⟨#[101, 113]⟩), vI 2, vI 1, vI 0, vI 0, vI 0, vI 0, vI 0, Value.string (⟨#[84, 119, 111]⟩), Value.string (⟨#[108, 101, 115, 115]⟩), vI 2, vI 1, vI 0, vI 0, vI 0, vI 0, vI 0, Value.string (⟨#[84, 119, 111]⟩), Value.string (⟨#[112, 117, 116, 45, 102, 105, 101, 108, 100]⟩), vI 1, vI 0, vI 2, vI 0, vI 31, vI 0, vI 15, Value.string (⟨#[80, 108, 97, 99, 101]⟩), Value.string (⟨#[112, 117, 116, 45, 109, 101, 116, 97]⟩), vI 1, vI 0, vI 1, vI 0, vI 23, vI 0, vI 0, Value.string (⟨#[67, 101, 108, 108]⟩), Value.string (⟨#[112, 117, 116, 45, 114, 101, 103]⟩), vI 2, vI 0, vI 1, vI 0, vI 7, vI 0, vI 0, Value.string (⟨#[67, 101, 108, 108]⟩), Value.string (⟨#[115, 104, 111, 119]⟩), vI 0, vI 0, vI 1, vI 0, vI 31, vI 0, vI 0, Value.string (⟨#[83, 108, 111, 116]⟩), Value.string (⟨#[104, 105, 100, 101]⟩), vI 0, vI 0, vI 1, vI 0, vI 31, vI 0, vI 0, Value.string (⟨#[83, 108, 111, 116]⟩), Value.string (⟨#[112, 117, 115, 104, 45, 104, 101, 97, 100]⟩), vI 0, vI 0, vI 2, vI 0, vI 15, vI 1, vI 4, Value.string (⟨#[72, 101, 97, 100, 115]⟩), Value.string (⟨#[112, 111, 112, 45, 104, 101, 97, 100]⟩), vI 0, vI 0, vI 2, vI 0, vI 15, vI 1, vI 4, Value.string (⟨#[72, 101, 97, 100, 115]⟩), Value.string (⟨#[99, 111, 117, 110, 116]⟩), vI 1, vI 0, vI 1, vI 0, vI 7, vI 0, vI 0, Value.string (⟨#[67, 101, 108, 108]⟩), Value.string (⟨#[109, 101, 116, 101, 114]⟩), vI 1, vI 1, vI 1, vI 0, vI 7, vI 0, vI 0, Value.string (⟨#[67, 101, 108, 108]⟩), Value.string (⟨#[106, 117, 109, 112]⟩), vI 0, vI 0, vI 1, vI 0, vI 64, vI 0, vI 0, Value.string (⟨#[74, 117, 109, 112]⟩), Value.string (⟨#[106, 117, 109, 112, 45, 122, 101, 114, 111]⟩), vI 1, vI 0, vI 1, vI 0, vI 64, vI 0, vI 0, Value.string (⟨#[74, 117, 109, 112]⟩), Value.string (⟨#[106, 117, 109, 112, 45, 103, 111, 110, 101]⟩), vI 0, vI 0, vI 2, vI 0, vI 31, vI 0, vI 64, Value.string (⟨#[71, 111, 110, 101]⟩), Value.string (⟨#[115, 116, 111, 112]⟩), vI 0, vI 0, vI 0, vI 0, vI 0, vI 0, vI 0, Value.string (⟨#[83, 116, 111, 112]⟩)] [Value.string (⟨#[]⟩), vI 0, vI 0, vI 0, vI 0, vI 0, vI 0, vI 0, Value.string (⟨#[]⟩), Value.string (⟨#[]⟩), vI 0, vI 0, vI 0, vI 0, vI 0, vI 0, vI 0, Value.string (⟨#[]⟩), Value.string (⟨#[]⟩), vI 0, vI 0, vI 0, vI 0, vI 0, vI 0, vI 0, Value.string (⟨#[]⟩), Value.string (⟨#[]⟩), vI 0, vI 0, vI 0, vI 0, vI 0, vI 0, vI 0, Value.string (⟨#[]⟩), Value.string (⟨#[]⟩), vI 0, vI 0, vI 0, vI 0, vI 0, vI 0, vI 0, Value.string (⟨#[]⟩), Value.string (⟨#[]⟩), vI 0, vI 0, vI 0, vI 0, vI 0, vI 0, vI 0, Value.string (⟨#[]⟩), Value.string (⟨#[]⟩), vI 0, vI 0, vI 0, vI 0, vI 0, vI 0, vI 0, Value.string (⟨#[]⟩), Value.string (⟨#[]⟩), vI 0, vI 0, vI 0, vI 0, vI 0, vI 0, vI 0, Value.string (⟨#[]⟩), Value.string (⟨#[]⟩), vI 0, vI 0, vI 0, vI 0, vI 0, vI 0, vI 0, Value.string (⟨#[]⟩), Value.string (⟨#[]⟩), vI 0, vI 0, vI 0, vI 0, vI 0, vI 0, vI 0, Value.string (⟨#[]⟩), Value.string (⟨#[]⟩), vI 0, vI 0, vI 0, vI 0, vI 0, vI 0, vI 0, Value.string (⟨#[]⟩), Value.string (⟨#[]⟩), vI 0, vI 0, vI 0, vI 0, vI 0, vI 0, vI 0, Value.string (⟨#[]⟩), Value.string (⟨#[]⟩), vI 0, vI 0, vI 0, vI 0, vI 0, vI 0, vI 0, Value.string (⟨#[]⟩), Value.string (⟨#[]⟩), vI 0, vI 0, vI 0, vI 0, vI 0, vI 0, vI 0, Value.string (⟨#[]⟩), Value.string (⟨#[]⟩), vI 0, vI 0, vI 0, vI 0, vI 0, vI 0, vI 0, Value.string (⟨#[]⟩), Value.string (⟨#[]⟩), vI 0, vI 0, vI 0, vI 0, vI 0, vI 0, vI 0, Value.string (⟨#[]⟩), Value.string (⟨#[]⟩), vI 0, vI 0, vI 0, vI 0, vI 0, vI 0, vI 0, Value.string (⟨#[]⟩), Value.string (⟨#[]⟩), vI 0, vI 0, vI 0, vI 0, vI 0, vI 0, vI 0, Value.string (⟨#[]⟩), Value.string (⟨#[]⟩), vI 0, vI 0, vI 0, vI 0, vI 0, vI 0, vI 0, Value.string (⟨#[]⟩), Value.string (⟨#[]⟩), vI 0, vI 0, vI 0, vI 0, vI 0, vI 0, vI 0, Value.string (⟨#[]⟩), Value.string (⟨#[]⟩), vI 0, vI 0, vI 0, vI 0, vI 0, vI 0, vI 0, Value.string (⟨#[]⟩), Value.string (⟨#[]⟩), vI 0, vI 0, vI 0, vI 0, vI 0, vI 0, vI 0, Value.string (⟨#[]⟩), Value.string (⟨#[]⟩), vI 0, vI 0, vI 0, vI 0, vI 0, vI 0, vI 0, Value.string (⟨#[]⟩), Value.string (⟨#[]⟩), vI 0, vI 0, vI 0, vI 0, vI 0, vI 0, vI 0, Value.string (⟨#[]⟩), Value.string (⟨#[]⟩), vI 0, vI 0, vI 0, vI 0, vI 0, vI 0, vI 0, Value.string (⟨#[]⟩), Value.string (⟨#[]⟩), vI 0, vI 0, vI 0, vI 0, vI 0, vI 0, vI 0, Value.string (⟨#[]⟩), Value.string (⟨#[]⟩), vI 0, vI 0, vI 0, vI 0, vI 0, vI 0, vI 0, Value.string (⟨#[]⟩), Value.string (⟨#[]⟩), vI 0, vI 0, vI 0, vI 0, vI 0, vI 0, vI 0, Value.string (⟨#[]⟩), Value.string (⟨#[]⟩), vI 0, vI 0, vI 0, vI 0, vI 0, vI 0, vI 0, Value.string (⟨#[]⟩), Value.string (⟨#[]⟩), vI 0, vI 0, vI 0, vI 0, vI 0, vI 0, vI 0, Value.string (⟨#[]⟩), Value.string (⟨#[]⟩), vI 0, vI 0, vI 0, vI 0, vI 0, vI 0, vI 0, Value.string (⟨#[]⟩), Value.string (⟨#[]⟩), vI 0, vI 0, vI 0, vI 0, vI 0, vI 0, vI 0, Value.string (⟨#[]⟩), Value.string (⟨#[]⟩), vI 0, vI 0, vI 0, vI 0, vI 0, vI 0, vI 0, Value.string (⟨#[]⟩), Value.string (⟨#[]⟩), vI 0, vI 0, vI 0, vI 0, vI 0, vI 0, vI 0, Value.string (⟨#[]⟩), Value.string (⟨#[]⟩), vI 0, vI 0, vI 0, vI 0, vI 0, vI 0, vI 0, Value.string (⟨#[]⟩)] rfl rfl rfl rfl rfl rfl rfl (by kernel_rfl) (by kernel_rfl) rfl rfl rfl (fun s3 S4 H5 => ?_)
 refine r_V s3 rfl <| lx_nil <| A_gen [(0, s3)] rfl (fun T => ?_)
 obtain rfl := Option.some.inj hM
 refine A_ret (fun hn => ends1 (v0 := s3) H5 (sub_one (Sub.pick [S4] [0] rfl)) rfl (res1 rfl))
def shunterref02_May_m (_ : Nat) (v_0 : Int) (v_1 : BitVec 128) : Option Bool := if v_0 ≥ 1 then if v_0 ≤ 128 then some (decide ((((len128 ((hi v_1) ++ (lo v_1)) : Nat) : Int) : Int) ≤ v_0)) else some false else some false
set_option maxRecDepth 100000 in
set_option maxHeartbeats 8000000 in
theorem shunterref02_May_g (N : Nat) (v_0 : Int) (v_1 : BitVec 128) (r) (hM : shunterref02_May_m N v_0 v_1 = some r) : Gives Tryd.prog 23 #[vA #[vI v_0, U (hi v_1), U (lo v_1)]] (vB r) := by
 unfold shunterref02_May_m at hM
 refine gives_of_A follows Tryd.func23 rfl 22 rfl (upd (fun _ => undef) 0 (vA #[vI v_0, U (hi v_1), U (lo v_1)])) (by funext k; match k with | 0 => rfl | k + 1 => rfl) (fun base0_ => ?_)
 refine A_sr <| r_a (25, #[vI v_0, U (hi v_1), U (lo v_1)]) rfl rfl rfl (fun b2 => ?_) (.inr rfl)
 refine r_V (vB false) rfl <| lx_nil <| A_seq fun K3 hK3 => A_draw [] (by decide +kernel) (fun hn => sep_nil) <| r_V (vP b2 0) rfl <| r_l (vI v_0) 0 _ _ _ _ rfl rfl rfl rfl rfl <| r_R [vB (decide (v_0 ≥ 1)), vB (decide (v_0 ≥ 1))] rfl ?_
 rcases hg4 : (decide (v_0 ≥ 1)) with _ | _
 ·replace hM := ifn (of_decide_eq_false hg4) hM
  refine r_R [none, none, none, vB false, vB false, none, none, none, none, none, none, none, none, none, vB false, vB false] rfl <| lx_nil <| hK3 _ _ ?_; try clear hK3 K3
  obtain rfl := Option.some.inj hM
  refine A_ret (fun hn => ends_eq (v0 := vB false) rfl (res1 rfl))
 replace hM := ifp (of_decide_eq_true hg4) hM
 refine r_R [vP b2 0] rfl <| r_y rfl <| r_l (vI v_0) 0 _ _ _ _ rfl rfl rfl rfl rfl <| r_R [vB (decide (v_0 ≤ 128)), vB (decide (v_0 ≤ 128)), vB (decide (v_0 ≤ 128))] rfl ?_
 rcases hg5 : (decide (v_0 ≤ 128)) with _ | _
 ·replace hM := ifn (of_decide_eq_false hg5) hM
  refine r_R [none, none, none, none, none, none, none, none, none, vB false, vB false] rfl <| lx_nil <| hK3 _ _ ?_; try clear hK3 K3
  obtain rfl := Option.some.inj hM
  refine A_ret (fun hn => ends_eq (v0 := vB false) rfl (res1 rfl))
 replace hM := ifp (of_decide_eq_true hg5) hM
 refine r_R [vP b2 1] rfl <| r_y rfl <| r_l (U (hi v_1)) 0 _ _ _ _ rfl rfl rfl rfl rfl <| r_R [vP b2 2] rfl <| r_y rfl <| r_l (U (lo v_1)) 0 _ _ _ _ rfl rfl rfl rfl rfl <| r_y rfl <| r_c (Value.agg (rowF (BitVec.getLsbD ((hi v_1) ++ (lo v_1))))) rfl _ _ (ev_callF rfl call_37 rfl) (of_g (hi v_1) (lo v_1)) <| r_y rfl <| r_c (vI (((len128 ((hi v_1) ++ (lo v_1)) : Nat) : Int))) rfl _ _ (ev_callF rfl call_36 rfl) (rlen_g ((hi v_1) ++ (lo v_1))) <| r_R [vP b2 0] rfl <| r_y rfl <| r_l (vI v_0) 0 _ _ _ _ rfl rfl rfl rfl rfl ?_
 refine r_R [vB (decide ((((len128 ((hi v_1) ++ (lo v_1)) : Nat) : Int) : Int) ≤ v_0)), vB (decide ((((len128 ((hi v_1) ++ (lo v_1)) : Nat) : Int) : Int) ≤ v_0)), vB (decide ((((len128 ((hi v_1) ++ (lo v_1)) : Nat) : Int) : Int) ≤ v_0))] rfl <| lx_nil <| hK3 _ _ ?_; try clear hK3 K3
 obtain rfl := Option.some.inj hM
 refine A_ret (fun hn => ends_eq (v0 := vB (decide ((((len128 ((hi v_1) ++ (lo v_1)) : Nat) : Int) : Int) ≤ v_0))) rfl (res1 rfl))
theorem eg_25  : Tryd.prog.eqGuardType Tryd.prog.depth 25 = false := by kernel_rfl
theorem si_25  : Tryd.prog.stoodInHeld 25 = false := by kernel_rfl
set_option maxRecDepth 100000 in
theorem eqst_25  {c : Addr → Option Value} (x0 y0 : Int) (x1 y1 : BitVec 128) : ev Tryd.prog c (Op.equal 25 (.agg #[vI x0, U (hi x1), U (lo x1)]) (.agg #[vI y0, U (hi y1), U (lo y1)])) = some ((x0 == y0) && (x1 == y1)) := by
 have h := ev_eqStruct (P := Tryd.prog) (c := c) 9999 (t := 25) #[vI x0, U (hi x1), U (lo x1)] #[vI y0, U (hi y1), U (lo y1)] rfl si_25 (fun f => if f.offset = 0 then (x0 == y0) else if f.offset = 1 then (((hi x1).toNat : Int) == ((hi y1).toNat : Int)) else (((lo x1).toNat : Int) == ((lo y1).toNat : Int)))
   (fun f hf => by
     simp only [List.mem_cons, List.not_mem_nil, or_false] at hf
     rcases hf with rfl | rfl | rfl
     · exact ⟨by decide, _, _, ev_partS (P := Tryd.prog) (t := 3) rfl (by intro fs h; cases h) (by intro n e h; cases h) _ _ rfl, ev_partS (P := Tryd.prog) (t := 3) rfl (by intro fs h; cases h) (by intro n e h; cases h) _ _ rfl, ev_eqInt _ _ _ rfl⟩
     · exact ⟨by decide, _, _, ev_partS (P := Tryd.prog) (t := 23) rfl (by intro fs h; cases h) (by intro n e h; cases h) _ _ rfl, ev_partS (P := Tryd.prog) (t := 23) rfl (by intro fs h; cases h) (by intro n e h; cases h) _ _ rfl, ev_eqInt _ _ _ rfl⟩
     · exact ⟨by decide, _, _, ev_partS (P := Tryd.prog) (t := 23) rfl (by intro fs h; cases h) (by intro n e h; cases h) _ _ rfl, ev_partS (P := Tryd.prog) (t := 23) rfl (by intro fs h; cases h) (by intro n e h; cases h) _ _ rfl, ev_eqInt _ _ _ rfl⟩)
 rw [← word_beq x1 y1]; rw [show Op.equal 25 (.agg #[vI x0, U (hi x1), U (lo x1)]) (.agg #[vI y0, U (hi y1), U (lo y1)]) = Op.equalIn (9999 + 1) 25 (.agg #[vI x0, U (hi x1), U (lo x1)]) (.agg #[vI y0, U (hi y1), U (lo y1)]) from rfl, h]
 first | (simp; done) | simp [Bool.and_assoc]
def shunterref09_May_k2 (N : Nat) (x_0 : Int) (x_3 : Int) (x_4 : BitVec 128) (r4 : List (List UInt8 × Int × Int × Int × Int × Int × Int × Int × List UInt8)) : Option Int := if (((r4)[(x_0).toNat]!).1) = ([112, 117, 115, 104] : List UInt8) then (shunterref02_May_m N x_3 x_4).bind fun r16 => if r16 = true then some 0 else some 1 else if ((x_3 == 0) && (x_4 == ((0#64) ++ (0#64)))) = true then some 0 else some 1
def shunterref09_May_k1 (N : Nat) (x_0 : Int) (x_1 : Int) (x_2 : Int) (x_3 : Int) (x_4 : BitVec 128) : Option Int := (shunterref09_Table_m N ).bind fun r4 => ck (0 ≤ x_0 ∧ x_0 < ((r4).length : Int)) (if x_1 < ((r4)[(x_0).toNat]!).2.2.2.2.1 then some 7 else if x_1 > ((r4)[(x_0).toNat]!).2.2.2.2.2.1 then some 7 else if x_2 < ((r4)[(x_0).toNat]!).2.2.2.2.2.2.1 then some 7 else if x_2 > ((r4)[(x_0).toNat]!).2.2.2.2.2.2.2.1 then some 7 else if (((r4)[(x_0).toNat]!).1) = ([115, 108, 105, 99, 101] : List UInt8) then if x_1 < x_2 then some 7 else shunterref09_May_k2 N x_0 x_3 x_4 r4  else shunterref09_May_k2 N x_0 x_3 x_4 r4 )
def shunterref09_May_m (N : Nat) (x_0 : Int) (x_1 : Int) (x_2 : Int) (x_3 : Int) (x_4 : BitVec 128) : Option Int := if x_0 < 0 then some 10 else if x_0 > 34 then some 10 else shunterref09_May_k1 N x_0 x_1 x_2 x_3 x_4 
set_option maxRecDepth 100000 in
set_option maxHeartbeats 8000000 in
theorem shunterref09_May_g (N : Nat) (x_0 x_1 x_2 x_3 : Int) (x_4 : BitVec 128) (r) (hM : shunterref09_May_m N x_0 x_1 x_2 x_3 x_4 = some r) : Gives Tryd.prog 8 #[vA #[vI x_0, vI x_1, vI x_2, vI x_3, U (hi x_4), U (lo x_4)]] (vI r) := by
 unfold shunterref09_May_m at hM
 refine gives_of_A follows Tryd.func8 rfl 70 rfl (upd (fun _ => undef) 0 (vA #[vI x_0, vI x_1, vI x_2, vI x_3, U (hi x_4), U (lo x_4)])) (by funext k; match k with | 0 => rfl | k + 1 => rfl) (fun base0_ => ?_)
 refine A_sr <| r_a (27, #[vI x_0, vI x_1, vI x_2, vI x_3, U (hi x_4), U (lo x_4)]) rfl rfl rfl (fun b2 => ?_) (.inr rfl)
 refine r_V (vI 0) rfl <| lx_nil <| A_cut (fun tt ll => (shunterref09_May_k1 N x_0 x_1 x_2 x_3 x_4  = some r) ∧ Is [(1, vP b2 0)] (kBa27_0 b2 x_0 x_1 x_2 x_3 (hi x_4) (lo x_4)) tt ll) ?_ ?_
 ·refine A_seq fun K38 hK38 => A_reg <| r_V (vP b2 0) rfl <| r_l (vI x_0) 0 _ _ _ _ rfl rfl rfl rfl rfl <| r_R [vB (decide (x_0 < 0)), vB (decide (x_0 < 0))] rfl ?_
  rcases hg39 : (decide (x_0 < 0)) with _ | _
  ·replace hM := ifn (of_decide_eq_false hg39) hM
   refine r_R [vP b2 0] rfl <| r_y rfl <| r_l (vI x_0) 0 _ _ _ _ rfl rfl rfl rfl rfl <| r_R [vB (decide (x_0 > 34)), vB (decide (x_0 > 34))] rfl <| lx_nil <| hK38 _ _ ?_; try clear hK38 K38
   refine A_cond (decide (x_0 > 34)) rfl (fun hc40 => ?_) (fun hc40 => ?_)
   ·replace hM := ifp (of_decide_eq_true hc40) hM
    refine A_sr <| r_V (vI 10) rfl <| lx_nil ?_
    obtain rfl := Option.some.inj hM
    refine A_ret (fun hn => ends_eq (v0 := vI 10) rfl (res1 rfl))
   replace hM := ifn (of_decide_eq_false hc40) hM
   refine A_skip <| fg _ (Sub.of (List.Sublist.cons_cons _ List.Sublist.slnil)) ?_
   exact ⟨hM, is_mk rfl rfl⟩
  replace hM := ifp (of_decide_eq_true hg39) hM
  refine r_R [none, none, none, vB true] rfl <| lx_nil <| hK38 _ _ ?_; try clear hK38 K38
  refine A_cond true rfl (fun _ => ?_) (fun h_ => nomatch h_)
  refine A_sr <| r_V (vI 10) rfl <| lx_nil ?_
  obtain rfl := Option.some.inj hM
  refine A_ret (fun hn => ends_eq (v0 := vI 10) rfl (res1 rfl))
 clear hM; rintro t l ⟨hM, ⟨T, rfl⟩, rfl⟩
 unfold shunterref09_May_k1 at hM
 refine A_seq fun K3 hK3 => A_drawR [(some 12, false)] (conG Tryd.prog [(12, fun _ _ v_ L_ U_ => ∀ u0_, shunterref09_Table_m N  = some u0_ → (p1 (fun s_ => s_) 38 enc_38 u0_) v_ L_ U_)]) [] (by decide +kernel) (fun hn => sep_nil) ?_
 obtain ⟨r4, hr5, hM⟩ := bind_sm hM
 refine r_g1 (Ls := [(kBa27_0 b2 x_0 x_1 x_2 x_3 (hi x_4) (lo x_4))]) (fun s6 => s6) 38 enc_38 r4 13 _ rfl rfl rfl (ev_callF rfl call_13 rfl) (fun own_ nw_ hs_ => shunterref09_Table_g N  _ hr5 hs_.view ) (conE hr5) (fun s6 S7 H8 => ?_)
 refine r_V (vP b2 0) rfl <| r_l (vI x_0) 0 _ _ _ _ rfl rfl rfl rfl rfl ?_
 obtain ⟨ck9, hM⟩ := ck_some hM
 refine r_W (elA s6 ((x_0).toNat * 9)) rfl (ev_v (ev_idxSl rfl rfl rfl (Sl.shp H8) ck9)) <| r_le (vA #[vS (((r4)[(x_0).toNat]!).1), vI (((r4)[(x_0).toNat]!).2.1), vI (((r4)[(x_0).toNat]!).2.2.1), vI (((r4)[(x_0).toNat]!).2.2.2.1), vI (((r4)[(x_0).toNat]!).2.2.2.2.1), vI (((r4)[(x_0).toNat]!).2.2.2.2.2.1), vI (((r4)[(x_0).toNat]!).2.2.2.2.2.2.1), vI (((r4)[(x_0).toNat]!).2.2.2.2.2.2.2.1), vS (((r4)[(x_0).toNat]!).2.2.2.2.2.2.2.2)]) (En := enc_38) ((r4)[(x_0).toNat]!) ((x_0).toNat) 0 rfl rfl (rd_own H8 (mem_chunk (Ls := [(kBa27_0 b2 x_0 x_1 x_2 x_3 (hi x_4) (lo x_4)), S7]) (k := 1) rfl rfl)) (get_of ck9) rfl ?_
 refine r_a (38, #[Value.string (⟨#[]⟩), vI 0, vI 0, vI 0, vI 0, vI 0, vI 0, vI 0, Value.string (⟨#[]⟩)]) rfl rfl rfl (fun b10 => ?_) (.inl rfl)
 refine r_sn (List.flatten [(kBa38_1 b10 (((r4)[(x_0).toNat]!).1) (((r4)[(x_0).toNat]!).2.1) (((r4)[(x_0).toNat]!).2.2.1) (((r4)[(x_0).toNat]!).2.2.2.1) (((r4)[(x_0).toNat]!).2.2.2.2.1) (((r4)[(x_0).toNat]!).2.2.2.2.2.1) (((r4)[(x_0).toNat]!).2.2.2.2.2.2.1) (((r4)[(x_0).toNat]!).2.2.2.2.2.2.2.1) (((r4)[(x_0).toNat]!).2.2.2.2.2.2.2.2)), (kBa27_0 b2 x_0 x_1 x_2 x_3 (hi x_4) (lo x_4)), S7]) 0 _ _ _ (#[Value.string (⟨#[]⟩), vI 0, vI 0, vI 0, vI 0, vI 0, vI 0, vI 0, Value.string (⟨#[]⟩)]) (#[vS (((r4)[(x_0).toNat]!).1), vI (((r4)[(x_0).toNat]!).2.1), vI (((r4)[(x_0).toNat]!).2.2.1), vI (((r4)[(x_0).toNat]!).2.2.2.1), vI (((r4)[(x_0).toNat]!).2.2.2.2.1), vI (((r4)[(x_0).toNat]!).2.2.2.2.2.1), vI (((r4)[(x_0).toNat]!).2.2.2.2.2.2.1), vI (((r4)[(x_0).toNat]!).2.2.2.2.2.2.2.1), vS (((r4)[(x_0).toNat]!).2.2.2.2.2.2.2.2)]) (#[vS (((r4)[(x_0).toNat]!).1), vI (((r4)[(x_0).toNat]!).2.1), vI (((r4)[(x_0).toNat]!).2.2.1), vI (((r4)[(x_0).toNat]!).2.2.2.1), vI (((r4)[(x_0).toNat]!).2.2.2.2.1), vI (((r4)[(x_0).toNat]!).2.2.2.2.2.1), vI (((r4)[(x_0).toNat]!).2.2.2.2.2.2.1), vI (((r4)[(x_0).toNat]!).2.2.2.2.2.2.2.1), vS (((r4)[(x_0).toNat]!).2.2.2.2.2.2.2.2)]) rfl rfl rfl rfl rfl (.of rfl rfl) rfl rfl ?_
 refine lx_nil <| hK3 _ _ ?_; try clear hK3 K3
 refine A_cut (fun tt ll => (shunterref09_May_k2 N x_0 x_3 x_4 r4  = some r) ∧ Is [(1, vP b2 0), (3, vP b10 0)] [(b10, 38, #[vS (((r4)[(x_0).toNat]!).1), vI (((r4)[(x_0).toNat]!).2.1), vI (((r4)[(x_0).toNat]!).2.2.1), vI (((r4)[(x_0).toNat]!).2.2.2.1), vI (((r4)[(x_0).toNat]!).2.2.2.2.1), vI (((r4)[(x_0).toNat]!).2.2.2.2.2.1), vI (((r4)[(x_0).toNat]!).2.2.2.2.2.2.1), vI (((r4)[(x_0).toNat]!).2.2.2.2.2.2.2.1), vS (((r4)[(x_0).toNat]!).2.2.2.2.2.2.2.2)]), (b2, 27, #[vI x_0, vI x_1, vI x_2, vI x_3, U (hi x_4), U (lo x_4)])] tt ll) ?_ ?_
 ·refine A_seq fun K26 hK26 => A_reg <| r_V (vP b2 1) rfl <| r_l (vI x_1) 1 _ _ _ _ rfl rfl rfl rfl rfl <| r_R [vP b10 4, vP b10 4] rfl <| r_l (vI (((r4)[(x_0).toNat]!).2.2.2.2.1)) 0 _ _ _ _ rfl rfl rfl rfl rfl <| r_R [vB (decide (x_1 < ((r4)[(x_0).toNat]!).2.2.2.2.1)), vB (decide (x_1 < ((r4)[(x_0).toNat]!).2.2.2.2.1))] rfl ?_
  rcases hg27 : (decide (x_1 < ((r4)[(x_0).toNat]!).2.2.2.2.1)) with _ | _
  ·replace hM := ifn (of_decide_eq_false hg27) hM
   refine r_R [vP b2 1] rfl <| r_y rfl <| r_l (vI x_1) 1 _ _ _ _ rfl rfl rfl rfl rfl <| r_R [vP b10 4, vP b10 5] rfl <| r_y rfl <| r_l (vI (((r4)[(x_0).toNat]!).2.2.2.2.2.1)) 0 _ _ _ _ rfl rfl rfl rfl rfl <| r_R [vB (decide (x_1 > ((r4)[(x_0).toNat]!).2.2.2.2.2.1)), vB (decide (x_1 > ((r4)[(x_0).toNat]!).2.2.2.2.2.1)), vB (decide (x_1 > ((r4)[(x_0).toNat]!).2.2.2.2.2.1))] rfl ?_
   rcases hg28 : (decide (x_1 > ((r4)[(x_0).toNat]!).2.2.2.2.2.1)) with _ | _
   ·replace hM := ifn (of_decide_eq_false hg28) hM
    refine r_R [vP b2 2] rfl <| r_y rfl <| r_l (vI x_2) 1 _ _ _ _ rfl rfl rfl rfl rfl <| r_R [vP b10 6, vP b10 6] rfl <| r_y rfl <| r_l (vI (((r4)[(x_0).toNat]!).2.2.2.2.2.2.1)) 0 _ _ _ _ rfl rfl rfl rfl rfl <| r_R [vB (decide (x_2 < ((r4)[(x_0).toNat]!).2.2.2.2.2.2.1)), vB (decide (x_2 < ((r4)[(x_0).toNat]!).2.2.2.2.2.2.1)), vB (decide (x_2 < ((r4)[(x_0).toNat]!).2.2.2.2.2.2.1))] rfl ?_
    rcases hg29 : (decide (x_2 < ((r4)[(x_0).toNat]!).2.2.2.2.2.2.1)) with _ | _
    ·replace hM := ifn (of_decide_eq_false hg29) hM
     refine r_R [vP b2 2] rfl <| r_y rfl <| r_l (vI x_2) 1 _ _ _ _ rfl rfl rfl rfl rfl <| r_R [vP b10 6, vP b10 7] rfl <| r_y rfl <| r_l (vI (((r4)[(x_0).toNat]!).2.2.2.2.2.2.2.1)) 0 _ _ _ _ rfl rfl rfl rfl rfl <| r_R [vB (decide (x_2 > ((r4)[(x_0).toNat]!).2.2.2.2.2.2.2.1)), vB (decide (x_2 > ((r4)[(x_0).toNat]!).2.2.2.2.2.2.2.1)), vB (decide (x_2 > ((r4)[(x_0).toNat]!).2.2.2.2.2.2.2.1))] rfl ?_
     rcases hg30 : (decide (x_2 > ((r4)[(x_0).toNat]!).2.2.2.2.2.2.2.1)) with _ | _
     ·replace hM := ifn (of_decide_eq_false hg30) hM
      refine r_R [vP b10 0] rfl <| r_y rfl <| r_l (vS (((r4)[(x_0).toNat]!).1)) 0 _ _ _ _ rfl rfl rfl rfl rfl <| r_y rfl <| r_W (vB ((((r4)[(x_0).toNat]!).1) == ([115, 108, 105, 99, 101] : List UInt8))) rfl (ev_eqS rfl rfl) <| r_R [vB ((((r4)[(x_0).toNat]!).1) == ([115, 108, 105, 99, 101] : List UInt8))] rfl ?_
      rcases hg31 : ((((r4)[(x_0).toNat]!).1) == ([115, 108, 105, 99, 101] : List UInt8)) with _ | _
      ·replace hM := ifn (ne_of_beq_false hg31) hM
       refine r_R [none, none, none, none, none, vB false, vB false] rfl <| lx_nil <| hK26 _ _ ?_; try clear hK26 K26
       refine A_gen [(1, vP b2 0), (3, vP b10 0), (58, vB false)] rfl (fun T => ?_)
       refine A_cond false rfl (fun h_ => nomatch h_) (fun _ => ?_)
       refine A_skip <| fg _ (Sub.pick [(kBa38_1 b10 (((r4)[(x_0).toNat]!).1) (((r4)[(x_0).toNat]!).2.1) (((r4)[(x_0).toNat]!).2.2.1) (((r4)[(x_0).toNat]!).2.2.2.1) (((r4)[(x_0).toNat]!).2.2.2.2.1) (((r4)[(x_0).toNat]!).2.2.2.2.2.1) (((r4)[(x_0).toNat]!).2.2.2.2.2.2.1) (((r4)[(x_0).toNat]!).2.2.2.2.2.2.2.1) (((r4)[(x_0).toNat]!).2.2.2.2.2.2.2.2)), (kBa27_0 b2 x_0 x_1 x_2 x_3 (hi x_4) (lo x_4)), S7] [0, 1] rfl) ?_
       exact ⟨hM, is_mk rfl rfl⟩
      replace hM := ifp (eq_of_beq hg31) hM
      refine r_R [vP b2 1] rfl <| r_y rfl <| r_l (vI x_1) 1 _ _ _ _ rfl rfl rfl rfl rfl <| r_R [vP b2 2] rfl <| r_y rfl <| r_l (vI x_2) 1 _ _ _ _ rfl rfl rfl rfl rfl <| r_R [vB (decide (x_1 < x_2)), vB (decide (x_1 < x_2)), vB (decide (x_1 < x_2))] rfl <| lx_nil <| hK26 _ _ ?_; try clear hK26 K26
      refine A_gen [(1, vP b2 0), (3, vP b10 0), (58, vB (decide (x_1 < x_2)))] rfl (fun T => ?_)
      refine A_cond (decide (x_1 < x_2)) rfl (fun hc32 => ?_) (fun hc32 => ?_)
      ·replace hM := ifp (of_decide_eq_true hc32) hM
       refine A_sr <| r_V (vI 7) rfl <| lx_nil ?_
       obtain rfl := Option.some.inj hM
       refine A_ret (fun hn => ends_eq (v0 := vI 7) rfl (res1 rfl))
      replace hM := ifn (of_decide_eq_false hc32) hM
      refine A_skip <| fg _ (Sub.pick [(kBa38_1 b10 (((r4)[(x_0).toNat]!).1) (((r4)[(x_0).toNat]!).2.1) (((r4)[(x_0).toNat]!).2.2.1) (((r4)[(x_0).toNat]!).2.2.2.1) (((r4)[(x_0).toNat]!).2.2.2.2.1) (((r4)[(x_0).toNat]!).2.2.2.2.2.1) (((r4)[(x_0).toNat]!).2.2.2.2.2.2.1) (((r4)[(x_0).toNat]!).2.2.2.2.2.2.2.1) (((r4)[(x_0).toNat]!).2.2.2.2.2.2.2.2)), (kBa27_0 b2 x_0 x_1 x_2 x_3 (hi x_4) (lo x_4)), S7] [0, 1] rfl) ?_
      exact ⟨hM, is_mk rfl rfl⟩
     replace hM := ifp (of_decide_eq_true hg30) hM
     refine r_R [none, none, none, none] rfl <| r_nu rfl rfl <| r_nu rfl rfl <| r_nu rfl rfl <| r_nu rfl rfl <| r_nu rfl rfl <| r_R [none, vB true] rfl <| lx_nil <| hK26 _ _ ?_; try clear hK26 K26
     refine A_gen [(1, vP b2 0), (3, vP b10 0), (58, vB true)] rfl (fun T => ?_)
     refine A_cond true rfl (fun _ => ?_) (fun h_ => nomatch h_)
     refine A_sr <| r_V (vI 7) rfl <| lx_nil ?_
     obtain rfl := Option.some.inj hM
     refine A_ret (fun hn => ends_eq (v0 := vI 7) rfl (res1 rfl))
    replace hM := ifp (of_decide_eq_true hg29) hM
    refine r_R [none, none, none, none, none, none, vB true, vB true, none, none, none, none] rfl <| r_nu rfl rfl <| r_nu rfl rfl <| r_nu rfl rfl <| r_nu rfl rfl <| r_nu rfl rfl <| r_R [none, vB true] rfl <| lx_nil <| hK26 _ _ ?_; try clear hK26 K26
    refine A_gen [(1, vP b2 0), (3, vP b10 0), (58, vB true)] rfl (fun T => ?_)
    refine A_cond true rfl (fun _ => ?_) (fun h_ => nomatch h_)
    refine A_sr <| r_V (vI 7) rfl <| lx_nil ?_
    obtain rfl := Option.some.inj hM
    refine A_ret (fun hn => ends_eq (v0 := vI 7) rfl (res1 rfl))
   replace hM := ifp (of_decide_eq_true hg28) hM
   refine r_R [none, none, none, none, none, none, vB true, vB true, none, none, none, none, none, none, vB true, vB true, none, none, none, none] rfl <| r_nu rfl rfl <| r_nu rfl rfl <| r_nu rfl rfl <| r_nu rfl rfl <| r_nu rfl rfl <| r_R [none, vB true] rfl <| lx_nil <| hK26 _ _ ?_; try clear hK26 K26
   refine A_gen [(1, vP b2 0), (3, vP b10 0), (58, vB true)] rfl (fun T => ?_)
   refine A_cond true rfl (fun _ => ?_) (fun h_ => nomatch h_)
   refine A_sr <| r_V (vI 7) rfl <| lx_nil ?_
   obtain rfl := Option.some.inj hM
   refine A_ret (fun hn => ends_eq (v0 := vI 7) rfl (res1 rfl))
  replace hM := ifp (of_decide_eq_true hg27) hM
  refine r_R [none, none, none, none, none, none, vB true, vB true, none, none, none, none, none, none, vB true, vB true, none, none, none, none, none, none, vB true, vB true] rfl <| r_R [none, none, none, none] rfl <| r_nu rfl rfl <| r_nu rfl rfl <| r_nu rfl rfl <| r_nu rfl rfl <| r_nu rfl rfl <| r_R [none, vB true] rfl <| lx_nil <| hK26 _ _ ?_; try clear hK26 K26
  refine A_gen [(1, vP b2 0), (3, vP b10 0), (58, vB true)] rfl (fun T => ?_)
  refine A_cond true rfl (fun _ => ?_) (fun h_ => nomatch h_)
  refine A_sr <| r_V (vI 7) rfl <| lx_nil ?_
  obtain rfl := Option.some.inj hM
  refine A_ret (fun hn => ends_eq (v0 := vI 7) rfl (res1 rfl))
 clear hM; rintro t l ⟨hM, ⟨T, rfl⟩, rfl⟩
 unfold shunterref09_May_k2 at hM
 refine A_seq fun K11 hK11 => A_sr <| r_V (vP b10 0) rfl <| r_l (vS (((r4)[(x_0).toNat]!).1)) 0 _ _ _ _ rfl rfl rfl rfl rfl <| r_W (vB ((((r4)[(x_0).toNat]!).1) == ([112, 117, 115, 104] : List UInt8))) rfl (ev_eqS rfl rfl) <| lx_nil <| A_cond ((((r4)[(x_0).toNat]!).1) == ([112, 117, 115, 104] : List UInt8)) rfl (fun hc13 => ?_) (fun hc13 => ?_)
 ·replace hM := ifp (eq_of_beq hc13) hM
  refine A_seq fun K14 hK14 => A_sr <| r_V (vP b2 3) rfl <| r_l (vA #[vI x_3, U (hi x_4), U (lo x_4)]) 1 _ _ _ _ rfl rfl rfl rfl rfl ?_
  obtain ⟨r16, hr17, hM⟩ := bind_sm hM
  refine r_c (vB r16) rfl _ _ (ev_callF rfl call_23 rfl) (shunterref02_May_g N x_3 x_4 _ hr17) <| r_V (vB (!(r16))) rfl <| lx_nil <| A_cond (!(r16)) rfl (fun hc18 => ?_) (fun hc18 => ?_)
  ·replace hM := ifn (Bool.eq_false_iff.1 (not_t hc18)) hM
   refine A_sr <| r_V (vI 1) rfl <| lx_nil ?_
   obtain rfl := Option.some.inj hM
   refine A_ret (fun hn => ends_eq (v0 := vI 1) rfl (res1 rfl))
  replace hM := ifp (not_f hc18) hM
  refine A_skip <| hK14 _ _ ?_; try clear hK14 K14
  refine A_sr <| r_V (vI 0) rfl <| lx_nil ?_
  obtain rfl := Option.some.inj hM
  refine A_ret (fun hn => ends_eq (v0 := vI 0) rfl (res1 rfl))
 replace hM := ifn (ne_of_beq_false hc13) hM
 refine A_skip <| hK11 _ _ ?_; try clear hK11 K11
 refine A_seq fun K21 hK21 => A_sr <| r_V (vP b2 3) rfl <| r_l (vA #[vI x_3, U (hi x_4), U (lo x_4)]) 1 _ _ _ _ rfl rfl rfl rfl rfl <| r_W (vA #[vI 0, U (0#64), U (0#64)]) rfl (ev_buildS rfl rfl rfl rfl) <| r_W (vB (!((x_3 == 0) && (x_4 == ((0#64) ++ (0#64)))))) rfl (ev_binNe rfl rfl eg_25 (by have h_ := fun c => eqst_25 (c := c) x_3 0 x_4 ((0#64) ++ (0#64)); simp only [app_hl] at h_; exact h_ _)) ?_
 refine lx_nil <| A_cond (!((x_3 == 0) && (x_4 == ((0#64) ++ (0#64))))) rfl (fun hc23 => ?_) (fun hc23 => ?_)
 ·replace hM := ifn (Bool.eq_false_iff.1 (not_t hc23)) hM
  refine A_sr <| r_V (vI 1) rfl <| lx_nil ?_
  obtain rfl := Option.some.inj hM
  refine A_ret (fun hn => ends_eq (v0 := vI 1) rfl (res1 rfl))
 replace hM := ifp (not_f hc23) hM
 refine A_skip <| hK21 _ _ ?_; try clear hK21 K21
 refine A_sr <| r_V (vI 0) rfl <| lx_nil ?_
 obtain rfl := Option.some.inj hM
 refine A_ret (fun hn => ends_eq (v0 := vI 0) rfl (res1 rfl))
def code_below_m (_ : Nat) (n : Int) : Option (Int × Int) := ck (-9223372036854775808 ≤ (n - 1) ∧ (n - 1) ≤ 9223372036854775807) (some (0, (n - 1)))
set_option maxRecDepth 100000 in
set_option maxHeartbeats 8000000 in
theorem code_below_g (N : Nat) (n : Int) (r) (hM : code_below_m N n = some r) : Gives Tryd.prog 38 #[vI n] (vA #[vI r.1, vI r.2]) := by
 unfold code_below_m at hM
 refine gives_of_A follows Tryd.func38 rfl 6 rfl (upd (fun _ => undef) 0 (vI n)) (by funext k; match k with | 0 => rfl | k + 1 => rfl) (fun base0_ => ?_)
 refine A_sr <| r_a (81, #[vI 0, vI 0]) rfl rfl rfl (fun b2 => ?_) (.inr rfl)
 refine lx_nil <| A_sr <| r_V (vI n) rfl ?_
 obtain ⟨ck4, hM⟩ := ck_some hM
 refine r_X (vI (n - 1)) rfl (wi64 rfl ck4.1 ck4.2) rfl <| r_W (vA #[vI 0, vI (n - 1)]) rfl (ev_buildS rfl rfl rfl rfl) <| r_s (kBa81_2 b2 0 (n - 1)) 0 _ _ _ _ _ (#[vI 0, vI (n - 1)]) rfl rfl rfl rfl (.of rfl rfl) rfl rfl <| lx_nil ?_
 obtain rfl := Option.some.inj hM
 refine A_ret (fun hn => ends_eq (v0 := vA #[vI 0, vI (n - 1)]) rfl (res1 (res_cell hn 0 rfl rfl rfl)))
def code_asks_k14 (N : Nat) (x_0 : Int) (x13_ : Bool) : Option (Int × Int × Int × Int) := if x13_ = true then some (0, 64, 0, 0) else if x_0 = 33 then (code_below_m N 32).bind fun r49 => some (r49.1, r49.2, 0, 64) else some (0, 0, 0, 0)
def code_asks_k12 (N : Nat) (x_0 : Int) (x11_ : Bool) : Option (Int × Int × Int × Int) := if x11_ = true then (code_below_m N 16).bind fun r42 => some (r42.1, r42.2, 1, 4) else if x_0 = 31 then code_asks_k14 N x_0 (x_0 == 31) else code_asks_k14 N x_0 (x_0 == 32)
def code_asks_k10 (N : Nat) (x_0 : Int) (x_1 : Int) (x9_ : Bool) : Option (Int × Int × Int × Int) := if x9_ = true then some (0, 128, 0, 0) else if x_0 = 10 then (code_below_m N 128).bind fun r35 => some (r35.1, r35.2, 0, x_1) else if x_0 = 11 then some (1, 128, 0, 0) else if x_0 = 27 then code_asks_k12 N x_0 (x_0 == 27) else code_asks_k12 N x_0 (x_0 == 28)
def code_asks_k8 (N : Nat) (x_0 : Int) (x_1 : Int) (x7_ : Bool) : Option (Int × Int × Int × Int) := if x7_ = true then (code_below_m N 8).bind fun r28 => some (r28.1, r28.2, 0, 0) else if x_0 = 8 then code_asks_k10 N x_0 x_1 (x_0 == 8) else code_asks_k10 N x_0 x_1 (x_0 == 9)
def code_asks_k6 (N : Nat) (x_0 : Int) (x_1 : Int) (x5_ : Bool) : Option (Int × Int × Int × Int) := if x5_ = true then (code_below_m N 32).bind fun r24 => some (r24.1, r24.2, 0, 0) else if x_0 = 5 then code_asks_k8 N x_0 x_1 (x_0 == 5) else if x_0 = 24 then code_asks_k8 N x_0 x_1 (x_0 == 24) else if x_0 = 29 then code_asks_k8 N x_0 x_1 (x_0 == 29) else code_asks_k8 N x_0 x_1 (x_0 == 30)
def code_asks_k4 (N : Nat) (x_0 : Int) (x_1 : Int) (x3_ : Bool) : Option (Int × Int × Int × Int) := if x3_ = true then (code_below_m N 24).bind fun r15 => some (r15.1, r15.2, 0, 0) else if x_0 = 3 then (code_below_m N 8).bind fun r20 => some (r20.1, r20.2, 0, 0) else if x_0 = 4 then code_asks_k6 N x_0 x_1 (x_0 == 4) else if x_0 = 25 then code_asks_k6 N x_0 x_1 (x_0 == 25) else code_asks_k6 N x_0 x_1 (x_0 == 26)
def code_asks_k2 (N : Nat) (x_0 : Int) (x_1 : Int) (x1_ : Bool) : Option (Int × Int × Int × Int) := if x1_ = true then (code_below_m N 32).bind fun r9 => (code_below_m N 16).bind fun r11 => some (r9.1, r9.2, r11.1, r11.2) else if x_0 = 2 then code_asks_k4 N x_0 x_1 (x_0 == 2) else code_asks_k4 N x_0 x_1 (x_0 == 23)
def code_asks_m (N : Nat) (x_0 : Int) (x_1 : Int) (_ : Int) (_ : Int) (_ : BitVec 128) : Option (Int × Int × Int × Int) := if x_0 = 1 then code_asks_k2 N x_0 x_1 (x_0 == 1) else code_asks_k2 N x_0 x_1 (x_0 == 22)
set_option maxRecDepth 100000 in
set_option maxHeartbeats 8000000 in
theorem code_asks_g (N : Nat) (x_0 x_1 x_2 x_3 : Int) (x_4 : BitVec 128) (r) (hM : code_asks_m N x_0 x_1 x_2 x_3 x_4 = some r) : Gives Tryd.prog 25 #[vA #[vI x_0, vI x_1, vI x_2, vI x_3, U (hi x_4), U (lo x_4)]] (vT #[vA #[vI r.1, vI r.2.1], vA #[vI r.2.2.1, vI r.2.2.2]]) := by
 unfold code_asks_m at hM
 refine gives_of_A follows Tryd.func25 rfl 64 rfl (upd (fun _ => undef) 0 (vA #[vI x_0, vI x_1, vI x_2, vI x_3, U (hi x_4), U (lo x_4)])) (by funext k; match k with | 0 => rfl | k + 1 => rfl) (fun base0_ => ?_)
 refine A_sr <| r_a (27, #[vI x_0, vI x_1, vI x_2, vI x_3, U (hi x_4), U (lo x_4)]) rfl rfl rfl (fun b2 => ?_) (.inr rfl)
 refine r_a (81, #[vI 0, vI 0]) rfl rfl rfl (fun b3 => ?_) (.inr rfl)
 refine r_a (81, #[vI 0, vI 0]) rfl rfl rfl (fun b4 => ?_) (.inr rfl)
 refine lx_nil <| A_seq fun K5 hK5 => A_sr <| r_V (vP b2 0) rfl <| r_l (vI x_0) 2 _ _ _ _ rfl rfl rfl rfl rfl <| lx_nil <| A_block <| A_cut (fun tt ll => ∃ (x1_ : Bool), (code_asks_k2 N x_0 x_1 x1_ = some r) ∧ Is [(1, vP b2 0), (2, vP b3 0), (3, vP b4 0), (5, vI x_0), (6, vB x1_)] [(b4, 81, #[vI 0, vI 0]), (b3, 81, #[vI 0, vI 0]), (b2, 27, #[vI x_0, vI x_1, vI x_2, vI x_3, U (hi x_4), U (lo x_4)])] tt ll) ?_ ?_
 ·refine A_sr <| r_R [vB (x_0 == 1), vB (x_0 == 1)] rfl <| lx_nil <| A_cond (x_0 == 1) rfl (fun hc71 => ?_) (fun hc71 => ?_)
  ·replace hM := ifp (eq_of_beq hc71) hM
   refine A_skip <| fg _ (Sub.of (List.Sublist.cons_cons _ (List.Sublist.cons_cons _ (List.Sublist.cons_cons _ List.Sublist.slnil)))) ?_
   exact ⟨(x_0 == 1), hM, is_mk rfl rfl⟩
  replace hM := ifn (ne_of_beq_false hc71) hM
  refine A_reg <| r_R [vB (x_0 == 22), vB (x_0 == 22)] rfl <| lx_nil <| fg _ (Sub.of (List.Sublist.cons_cons _ (List.Sublist.cons_cons _ (List.Sublist.cons_cons _ List.Sublist.slnil)))) ?_
  exact ⟨(x_0 == 22), hM, is_mk rfl rfl⟩
 clear hM; rintro t l ⟨x1_, hM, ⟨T, rfl⟩, rfl⟩
 unfold code_asks_k2 at hM
 refine A_cond x1_ rfl (fun hc7 => ?_) (fun hc7 => ?_)
 ·replace hM := ifp hc7 hM
  refine A_sr ?_
  obtain ⟨r9, hr10, hM⟩ := bind_sm hM
  refine r_c (vA #[vI r9.1, vI r9.2]) rfl _ _ (ev_callF rfl call_38 rfl) (code_below_g N 32 _ hr10) ?_
  obtain ⟨r11, hr12, hM⟩ := bind_sm hM
  refine r_c (vA #[vI r11.1, vI r11.2]) rfl _ _ (ev_callF rfl call_38 rfl) (code_below_g N 16 _ hr12) <| r_s [(b4, 81, #[vI 0, vI 0]), (b3, 81, #[vI r9.1, vI r9.2]), (b2, 27, #[vI x_0, vI x_1, vI x_2, vI x_3, U (hi x_4), U (lo x_4)])] 1 _ _ _ _ _ (#[vI r9.1, vI r9.2]) rfl rfl rfl rfl (.of rfl rfl) rfl rfl <| r_s [(b4, 81, #[vI r11.1, vI r11.2]), (b3, 81, #[vI r9.1, vI r9.2]), (b2, 27, #[vI x_0, vI x_1, vI x_2, vI x_3, U (hi x_4), U (lo x_4)])] 0 _ _ _ _ _ (#[vI r11.1, vI r11.2]) rfl rfl rfl rfl (.of rfl rfl) rfl rfl <| lx_nil ?_
  obtain rfl := Option.some.inj hM
  refine A_ret (fun hn => ends_eq (v0 := vT #[vA #[vI r9.1, vI r9.2], vA #[vI r11.1, vI r11.2]]) rfl (res2 (res_cell hn 1 rfl rfl rfl) (res_cell hn 0 rfl rfl rfl)))
 replace hM := ifn (Bool.eq_false_iff.1 hc7) hM
 refine A_cut (fun tt ll => ∃ (x3_ : Bool), (code_asks_k4 N x_0 x_1 x3_ = some r) ∧ Is [(1, vP b2 0), (2, vP b3 0), (3, vP b4 0), (5, vI x_0), (11, vB x3_)] [(b4, 81, #[vI 0, vI 0]), (b3, 81, #[vI 0, vI 0]), (b2, 27, #[vI x_0, vI x_1, vI x_2, vI x_3, U (hi x_4), U (lo x_4)])] tt ll) ?_ ?_
 ·refine A_sr <| r_R [vB (x_0 == 2), vB (x_0 == 2)] rfl <| lx_nil <| A_cond (x_0 == 2) rfl (fun hc69 => ?_) (fun hc69 => ?_)
  ·replace hM := ifp (eq_of_beq hc69) hM
   refine A_skip <| fg _ (Sub.of (List.Sublist.cons_cons _ (List.Sublist.cons_cons _ (List.Sublist.cons_cons _ List.Sublist.slnil)))) ?_
   exact ⟨(x_0 == 2), hM, is_mk rfl rfl⟩
  replace hM := ifn (ne_of_beq_false hc69) hM
  refine A_reg <| r_R [vB (x_0 == 23), vB (x_0 == 23)] rfl <| lx_nil <| fg _ (Sub.of (List.Sublist.cons_cons _ (List.Sublist.cons_cons _ (List.Sublist.cons_cons _ List.Sublist.slnil)))) ?_
  exact ⟨(x_0 == 23), hM, is_mk rfl rfl⟩
 clear hM; rintro t l ⟨x3_, hM, ⟨T, rfl⟩, rfl⟩
 unfold code_asks_k4 at hM
 refine A_cond x3_ rfl (fun hc13 => ?_) (fun hc13 => ?_)
 ·replace hM := ifp hc13 hM
  refine A_sr ?_
  obtain ⟨r15, hr16, hM⟩ := bind_sm hM
  refine r_c (vA #[vI r15.1, vI r15.2]) rfl _ _ (ev_callF rfl call_38 rfl) (code_below_g N 24 _ hr16) <| r_W (vA #[vI 0, vI 0]) rfl (ev_buildS rfl rfl rfl rfl) <| r_s [(b4, 81, #[vI 0, vI 0]), (b3, 81, #[vI r15.1, vI r15.2]), (b2, 27, #[vI x_0, vI x_1, vI x_2, vI x_3, U (hi x_4), U (lo x_4)])] 1 _ _ _ _ _ (#[vI r15.1, vI r15.2]) rfl rfl rfl rfl (.of rfl rfl) rfl rfl <| r_s [(b4, 81, #[vI 0, vI 0]), (b3, 81, #[vI r15.1, vI r15.2]), (b2, 27, #[vI x_0, vI x_1, vI x_2, vI x_3, U (hi x_4), U (lo x_4)])] 0 _ _ _ _ _ (#[vI 0, vI 0]) rfl rfl rfl rfl (.of rfl rfl) rfl rfl <| lx_nil ?_
  obtain rfl := Option.some.inj hM
  refine A_ret (fun hn => ends_eq (v0 := vT #[vA #[vI r15.1, vI r15.2], vA #[vI 0, vI 0]]) rfl (res2 (res_cell hn 1 rfl rfl rfl) (res_cell hn 0 rfl rfl rfl)))
 replace hM := ifn (Bool.eq_false_iff.1 hc13) hM
 refine A_sr <| r_R [vB (x_0 == 3), vB (x_0 == 3)] rfl <| lx_nil <| A_cond (x_0 == 3) rfl (fun hc18 => ?_) (fun hc18 => ?_)
 ·replace hM := ifp (eq_of_beq hc18) hM
  refine A_sr ?_
  obtain ⟨r20, hr21, hM⟩ := bind_sm hM
  refine r_c (vA #[vI r20.1, vI r20.2]) rfl _ _ (ev_callF rfl call_38 rfl) (code_below_g N 8 _ hr21) <| r_W (vA #[vI 0, vI 0]) rfl (ev_buildS rfl rfl rfl rfl) <| r_s [(b4, 81, #[vI 0, vI 0]), (b3, 81, #[vI r20.1, vI r20.2]), (b2, 27, #[vI x_0, vI x_1, vI x_2, vI x_3, U (hi x_4), U (lo x_4)])] 1 _ _ _ _ _ (#[vI r20.1, vI r20.2]) rfl rfl rfl rfl (.of rfl rfl) rfl rfl <| r_s [(b4, 81, #[vI 0, vI 0]), (b3, 81, #[vI r20.1, vI r20.2]), (b2, 27, #[vI x_0, vI x_1, vI x_2, vI x_3, U (hi x_4), U (lo x_4)])] 0 _ _ _ _ _ (#[vI 0, vI 0]) rfl rfl rfl rfl (.of rfl rfl) rfl rfl <| lx_nil ?_
  obtain rfl := Option.some.inj hM
  refine A_ret (fun hn => ends_eq (v0 := vT #[vA #[vI r20.1, vI r20.2], vA #[vI 0, vI 0]]) rfl (res2 (res_cell hn 1 rfl rfl rfl) (res_cell hn 0 rfl rfl rfl)))
 replace hM := ifn (ne_of_beq_false hc18) hM
 refine A_cut (fun tt ll => ∃ (x5_ : Bool), (code_asks_k6 N x_0 x_1 x5_ = some r) ∧ Is [(1, vP b2 0), (2, vP b3 0), (3, vP b4 0), (5, vI x_0), (20, vB x5_)] [(b4, 81, #[vI 0, vI 0]), (b3, 81, #[vI 0, vI 0]), (b2, 27, #[vI x_0, vI x_1, vI x_2, vI x_3, U (hi x_4), U (lo x_4)])] tt ll) ?_ ?_
 ·refine A_sr <| r_R [vB (x_0 == 4), vB (x_0 == 4)] rfl <| lx_nil <| A_cond (x_0 == 4) rfl (fun hc65 => ?_) (fun hc65 => ?_)
  ·replace hM := ifp (eq_of_beq hc65) hM
   refine A_skip <| fg _ (Sub.of (List.Sublist.cons_cons _ (List.Sublist.cons_cons _ (List.Sublist.cons_cons _ List.Sublist.slnil)))) ?_
   exact ⟨(x_0 == 4), hM, is_mk rfl rfl⟩
  replace hM := ifn (ne_of_beq_false hc65) hM
  refine A_sr <| r_R [vB (x_0 == 25), vB (x_0 == 25)] rfl <| lx_nil <| A_cond (x_0 == 25) rfl (fun hc67 => ?_) (fun hc67 => ?_)
  ·replace hM := ifp (eq_of_beq hc67) hM
   refine A_skip <| fg _ (Sub.of (List.Sublist.cons_cons _ (List.Sublist.cons_cons _ (List.Sublist.cons_cons _ List.Sublist.slnil)))) ?_
   exact ⟨(x_0 == 25), hM, is_mk rfl rfl⟩
  replace hM := ifn (ne_of_beq_false hc67) hM
  refine A_reg <| r_R [vB (x_0 == 26), vB (x_0 == 26)] rfl <| lx_nil <| fg _ (Sub.of (List.Sublist.cons_cons _ (List.Sublist.cons_cons _ (List.Sublist.cons_cons _ List.Sublist.slnil)))) ?_
  exact ⟨(x_0 == 26), hM, is_mk rfl rfl⟩
 clear hM; rintro t l ⟨x5_, hM, ⟨T, rfl⟩, rfl⟩
 unfold code_asks_k6 at hM
 refine A_cond x5_ rfl (fun hc22 => ?_) (fun hc22 => ?_)
 ·replace hM := ifp hc22 hM
  refine A_sr ?_
  obtain ⟨r24, hr25, hM⟩ := bind_sm hM
  refine r_c (vA #[vI r24.1, vI r24.2]) rfl _ _ (ev_callF rfl call_38 rfl) (code_below_g N 32 _ hr25) <| r_W (vA #[vI 0, vI 0]) rfl (ev_buildS rfl rfl rfl rfl) <| r_s [(b4, 81, #[vI 0, vI 0]), (b3, 81, #[vI r24.1, vI r24.2]), (b2, 27, #[vI x_0, vI x_1, vI x_2, vI x_3, U (hi x_4), U (lo x_4)])] 1 _ _ _ _ _ (#[vI r24.1, vI r24.2]) rfl rfl rfl rfl (.of rfl rfl) rfl rfl <| r_s [(b4, 81, #[vI 0, vI 0]), (b3, 81, #[vI r24.1, vI r24.2]), (b2, 27, #[vI x_0, vI x_1, vI x_2, vI x_3, U (hi x_4), U (lo x_4)])] 0 _ _ _ _ _ (#[vI 0, vI 0]) rfl rfl rfl rfl (.of rfl rfl) rfl rfl <| lx_nil ?_
  obtain rfl := Option.some.inj hM
  refine A_ret (fun hn => ends_eq (v0 := vT #[vA #[vI r24.1, vI r24.2], vA #[vI 0, vI 0]]) rfl (res2 (res_cell hn 1 rfl rfl rfl) (res_cell hn 0 rfl rfl rfl)))
 replace hM := ifn (Bool.eq_false_iff.1 hc22) hM
 refine A_cut (fun tt ll => ∃ (x7_ : Bool), (code_asks_k8 N x_0 x_1 x7_ = some r) ∧ Is [(1, vP b2 0), (2, vP b3 0), (3, vP b4 0), (5, vI x_0), (26, vB x7_)] [(b4, 81, #[vI 0, vI 0]), (b3, 81, #[vI 0, vI 0]), (b2, 27, #[vI x_0, vI x_1, vI x_2, vI x_3, U (hi x_4), U (lo x_4)])] tt ll) ?_ ?_
 ·refine A_sr <| r_R [vB (x_0 == 5), vB (x_0 == 5)] rfl <| lx_nil <| A_cond (x_0 == 5) rfl (fun hc59 => ?_) (fun hc59 => ?_)
  ·replace hM := ifp (eq_of_beq hc59) hM
   refine A_skip <| fg _ (Sub.of (List.Sublist.cons_cons _ (List.Sublist.cons_cons _ (List.Sublist.cons_cons _ List.Sublist.slnil)))) ?_
   exact ⟨(x_0 == 5), hM, is_mk rfl rfl⟩
  replace hM := ifn (ne_of_beq_false hc59) hM
  refine A_sr <| r_R [vB (x_0 == 24), vB (x_0 == 24)] rfl <| lx_nil <| A_cond (x_0 == 24) rfl (fun hc61 => ?_) (fun hc61 => ?_)
  ·replace hM := ifp (eq_of_beq hc61) hM
   refine A_skip <| fg _ (Sub.of (List.Sublist.cons_cons _ (List.Sublist.cons_cons _ (List.Sublist.cons_cons _ List.Sublist.slnil)))) ?_
   exact ⟨(x_0 == 24), hM, is_mk rfl rfl⟩
  replace hM := ifn (ne_of_beq_false hc61) hM
  refine A_sr <| r_R [vB (x_0 == 29), vB (x_0 == 29)] rfl <| lx_nil <| A_cond (x_0 == 29) rfl (fun hc63 => ?_) (fun hc63 => ?_)
  ·replace hM := ifp (eq_of_beq hc63) hM
   refine A_skip <| fg _ (Sub.of (List.Sublist.cons_cons _ (List.Sublist.cons_cons _ (List.Sublist.cons_cons _ List.Sublist.slnil)))) ?_
   exact ⟨(x_0 == 29), hM, is_mk rfl rfl⟩
  replace hM := ifn (ne_of_beq_false hc63) hM
  refine A_reg <| r_R [vB (x_0 == 30), vB (x_0 == 30)] rfl <| lx_nil <| fg _ (Sub.of (List.Sublist.cons_cons _ (List.Sublist.cons_cons _ (List.Sublist.cons_cons _ List.Sublist.slnil)))) ?_
  exact ⟨(x_0 == 30), hM, is_mk rfl rfl⟩
 clear hM; rintro t l ⟨x7_, hM, ⟨T, rfl⟩, rfl⟩
 unfold code_asks_k8 at hM
 refine A_cond x7_ rfl (fun hc26 => ?_) (fun hc26 => ?_)
 ·replace hM := ifp hc26 hM
  refine A_sr ?_
  obtain ⟨r28, hr29, hM⟩ := bind_sm hM
  refine r_c (vA #[vI r28.1, vI r28.2]) rfl _ _ (ev_callF rfl call_38 rfl) (code_below_g N 8 _ hr29) <| r_W (vA #[vI 0, vI 0]) rfl (ev_buildS rfl rfl rfl rfl) <| r_s [(b4, 81, #[vI 0, vI 0]), (b3, 81, #[vI r28.1, vI r28.2]), (b2, 27, #[vI x_0, vI x_1, vI x_2, vI x_3, U (hi x_4), U (lo x_4)])] 1 _ _ _ _ _ (#[vI r28.1, vI r28.2]) rfl rfl rfl rfl (.of rfl rfl) rfl rfl <| r_s [(b4, 81, #[vI 0, vI 0]), (b3, 81, #[vI r28.1, vI r28.2]), (b2, 27, #[vI x_0, vI x_1, vI x_2, vI x_3, U (hi x_4), U (lo x_4)])] 0 _ _ _ _ _ (#[vI 0, vI 0]) rfl rfl rfl rfl (.of rfl rfl) rfl rfl <| lx_nil ?_
  obtain rfl := Option.some.inj hM
  refine A_ret (fun hn => ends_eq (v0 := vT #[vA #[vI r28.1, vI r28.2], vA #[vI 0, vI 0]]) rfl (res2 (res_cell hn 1 rfl rfl rfl) (res_cell hn 0 rfl rfl rfl)))
 replace hM := ifn (Bool.eq_false_iff.1 hc26) hM
 refine A_cut (fun tt ll => ∃ (x9_ : Bool), (code_asks_k10 N x_0 x_1 x9_ = some r) ∧ Is [(1, vP b2 0), (2, vP b3 0), (3, vP b4 0), (5, vI x_0), (33, vB x9_)] [(b4, 81, #[vI 0, vI 0]), (b3, 81, #[vI 0, vI 0]), (b2, 27, #[vI x_0, vI x_1, vI x_2, vI x_3, U (hi x_4), U (lo x_4)])] tt ll) ?_ ?_
 ·refine A_sr <| r_R [vB (x_0 == 8), vB (x_0 == 8)] rfl <| lx_nil <| A_cond (x_0 == 8) rfl (fun hc57 => ?_) (fun hc57 => ?_)
  ·replace hM := ifp (eq_of_beq hc57) hM
   refine A_skip <| fg _ (Sub.of (List.Sublist.cons_cons _ (List.Sublist.cons_cons _ (List.Sublist.cons_cons _ List.Sublist.slnil)))) ?_
   exact ⟨(x_0 == 8), hM, is_mk rfl rfl⟩
  replace hM := ifn (ne_of_beq_false hc57) hM
  refine A_reg <| r_R [vB (x_0 == 9), vB (x_0 == 9)] rfl <| lx_nil <| fg _ (Sub.of (List.Sublist.cons_cons _ (List.Sublist.cons_cons _ (List.Sublist.cons_cons _ List.Sublist.slnil)))) ?_
  exact ⟨(x_0 == 9), hM, is_mk rfl rfl⟩
 clear hM; rintro t l ⟨x9_, hM, ⟨T, rfl⟩, rfl⟩
 unfold code_asks_k10 at hM
 refine A_cond x9_ rfl (fun hc30 => ?_) (fun hc30 => ?_)
 ·replace hM := ifp hc30 hM
  refine A_sr <| r_W (vA #[vI 0, vI 128]) rfl (ev_buildS rfl rfl rfl rfl) <| r_W (vA #[vI 0, vI 0]) rfl (ev_buildS rfl rfl rfl rfl) <| r_s [(b4, 81, #[vI 0, vI 0]), (b3, 81, #[vI 0, vI 128]), (b2, 27, #[vI x_0, vI x_1, vI x_2, vI x_3, U (hi x_4), U (lo x_4)])] 1 _ _ _ _ _ (#[vI 0, vI 128]) rfl rfl rfl rfl (.of rfl rfl) rfl rfl <| r_s [(b4, 81, #[vI 0, vI 0]), (b3, 81, #[vI 0, vI 128]), (b2, 27, #[vI x_0, vI x_1, vI x_2, vI x_3, U (hi x_4), U (lo x_4)])] 0 _ _ _ _ _ (#[vI 0, vI 0]) rfl rfl rfl rfl (.of rfl rfl) rfl rfl <| lx_nil ?_
  obtain rfl := Option.some.inj hM
  refine A_ret (fun hn => ends_eq (v0 := vT #[vA #[vI 0, vI 128], vA #[vI 0, vI 0]]) rfl (res2 (res_cell hn 1 rfl rfl rfl) (res_cell hn 0 rfl rfl rfl)))
 replace hM := ifn (Bool.eq_false_iff.1 hc30) hM
 refine A_sr <| r_R [vB (x_0 == 10), vB (x_0 == 10)] rfl <| lx_nil <| A_cond (x_0 == 10) rfl (fun hc33 => ?_) (fun hc33 => ?_)
 ·replace hM := ifp (eq_of_beq hc33) hM
  refine A_seq fun K34 hK34 => A_drawH (Ls := [(kBa81_2 b4 0 0), (kBa81_2 b3 0 0), (kBa27_0 b2 x_0 x_1 x_2 x_3 (hi x_4) (lo x_4))]) [(some 1000000000, true)] [] [1, 0] [2] [] (by decide +kernel) (fun hn => sep_nil) (by decide +kernel) rfl trivial (fun hnb_ => ?_)
  obtain ⟨r35, hr36, hM⟩ := bind_sm hM
  refine r_c (vA #[vI r35.1, vI r35.2]) rfl _ _ (ev_callF rfl call_38 rfl) (code_below_g N 128 _ hr36) <| r_V (vP b2 1) rfl <| r_lH (vI x_1) 2 _ _ _ _ rfl rfl rfl rfl rfl (hnb_ b2 (List.mem_of_getElem? (i := 0) rfl)) <| r_W (vA #[vI 0, vI x_1]) rfl (ev_buildS rfl rfl rfl rfl) <| r_sH [(b4, 81, #[vI 0, vI 0]), (b3, 81, #[vI r35.1, vI r35.2]), (b2, 27, #[vI x_0, vI x_1, vI x_2, vI x_3, U (hi x_4), U (lo x_4)])] 1 _ _ _ (#[vI 0, vI 0]) (#[vI r35.1, vI r35.2]) (#[vI r35.1, vI r35.2]) rfl rfl rfl rfl (.of rfl rfl) rfl rfl (List.mem_of_getElem? (i := 0) rfl) ?_
  refine r_sH [(b4, 81, #[vI 0, vI x_1]), (b3, 81, #[vI r35.1, vI r35.2]), (b2, 27, #[vI x_0, vI x_1, vI x_2, vI x_3, U (hi x_4), U (lo x_4)])] 0 _ _ _ (#[vI 0, vI 0]) (#[vI 0, vI x_1]) (#[vI 0, vI x_1]) rfl rfl rfl rfl (.of rfl rfl) rfl rfl (List.mem_of_getElem? (i := 1) rfl) <| lx_nil <| hK34 _ _ ?_; try clear hK34 K34
  obtain rfl := Option.some.inj hM
  refine A_ret (fun hn => ends_eq (v0 := vT #[vA #[vI r35.1, vI r35.2], vA #[vI 0, vI x_1]]) rfl (res2 (res_cell hn 1 rfl rfl rfl) (res_cell hn 0 rfl rfl rfl)))
 replace hM := ifn (ne_of_beq_false hc33) hM
 refine A_sr <| r_R [vB (x_0 == 11), vB (x_0 == 11)] rfl <| lx_nil <| A_cond (x_0 == 11) rfl (fun hc38 => ?_) (fun hc38 => ?_)
 ·replace hM := ifp (eq_of_beq hc38) hM
  refine A_sr <| r_W (vA #[vI 1, vI 128]) rfl (ev_buildS rfl rfl rfl rfl) <| r_W (vA #[vI 0, vI 0]) rfl (ev_buildS rfl rfl rfl rfl) <| r_s [(b4, 81, #[vI 0, vI 0]), (b3, 81, #[vI 1, vI 128]), (b2, 27, #[vI x_0, vI x_1, vI x_2, vI x_3, U (hi x_4), U (lo x_4)])] 1 _ _ _ _ _ (#[vI 1, vI 128]) rfl rfl rfl rfl (.of rfl rfl) rfl rfl <| r_s [(b4, 81, #[vI 0, vI 0]), (b3, 81, #[vI 1, vI 128]), (b2, 27, #[vI x_0, vI x_1, vI x_2, vI x_3, U (hi x_4), U (lo x_4)])] 0 _ _ _ _ _ (#[vI 0, vI 0]) rfl rfl rfl rfl (.of rfl rfl) rfl rfl <| lx_nil ?_
  obtain rfl := Option.some.inj hM
  refine A_ret (fun hn => ends_eq (v0 := vT #[vA #[vI 1, vI 128], vA #[vI 0, vI 0]]) rfl (res2 (res_cell hn 1 rfl rfl rfl) (res_cell hn 0 rfl rfl rfl)))
 replace hM := ifn (ne_of_beq_false hc38) hM
 refine A_cut (fun tt ll => ∃ (x11_ : Bool), (code_asks_k12 N x_0 x11_ = some r) ∧ Is [(2, vP b3 0), (3, vP b4 0), (5, vI x_0), (48, vB x11_)] [(b4, 81, #[vI 0, vI 0]), (b3, 81, #[vI 0, vI 0])] tt ll) ?_ ?_
 ·refine A_sr <| r_R [vB (x_0 == 27), vB (x_0 == 27)] rfl <| lx_nil <| A_cond (x_0 == 27) rfl (fun hc55 => ?_) (fun hc55 => ?_)
  ·replace hM := ifp (eq_of_beq hc55) hM
   refine A_skip <| fg _ (Sub.of (List.Sublist.cons_cons _ (List.Sublist.cons_cons _ (List.Sublist.cons _ List.Sublist.slnil)))) ?_
   exact ⟨(x_0 == 27), hM, is_mk rfl rfl⟩
  replace hM := ifn (ne_of_beq_false hc55) hM
  refine A_reg <| r_R [vB (x_0 == 28), vB (x_0 == 28)] rfl <| lx_nil <| fg _ (Sub.of (List.Sublist.cons_cons _ (List.Sublist.cons_cons _ (List.Sublist.cons _ List.Sublist.slnil)))) ?_
  exact ⟨(x_0 == 28), hM, is_mk rfl rfl⟩
 clear hM; rintro t l ⟨x11_, hM, ⟨T, rfl⟩, rfl⟩
 unfold code_asks_k12 at hM
 refine A_cond x11_ rfl (fun hc40 => ?_) (fun hc40 => ?_)
 ·replace hM := ifp hc40 hM
  refine A_sr ?_
  obtain ⟨r42, hr43, hM⟩ := bind_sm hM
  refine r_c (vA #[vI r42.1, vI r42.2]) rfl _ _ (ev_callF rfl call_38 rfl) (code_below_g N 16 _ hr43) <| r_W (vA #[vI 1, vI 4]) rfl (ev_buildS rfl rfl rfl rfl) <| r_s [(b4, 81, #[vI 0, vI 0]), (b3, 81, #[vI r42.1, vI r42.2])] 1 _ _ _ _ _ (#[vI r42.1, vI r42.2]) rfl rfl rfl rfl (.of rfl rfl) rfl rfl <| r_s [(b4, 81, #[vI 1, vI 4]), (b3, 81, #[vI r42.1, vI r42.2])] 0 _ _ _ _ _ (#[vI 1, vI 4]) rfl rfl rfl rfl (.of rfl rfl) rfl rfl <| lx_nil ?_
  obtain rfl := Option.some.inj hM
  refine A_ret (fun hn => ends_eq (v0 := vT #[vA #[vI r42.1, vI r42.2], vA #[vI 1, vI 4]]) rfl (res2 (res_cell hn 1 rfl rfl rfl) (res_cell hn 0 rfl rfl rfl)))
 replace hM := ifn (Bool.eq_false_iff.1 hc40) hM
 refine A_cut (fun tt ll => ∃ (x13_ : Bool), (code_asks_k14 N x_0 x13_ = some r) ∧ Is [(2, vP b3 0), (3, vP b4 0), (5, vI x_0), (53, vB x13_)] [(b4, 81, #[vI 0, vI 0]), (b3, 81, #[vI 0, vI 0])] tt ll) ?_ ?_
 ·refine A_sr <| r_R [vB (x_0 == 31), vB (x_0 == 31)] rfl <| lx_nil <| A_cond (x_0 == 31) rfl (fun hc53 => ?_) (fun hc53 => ?_)
  ·replace hM := ifp (eq_of_beq hc53) hM
   refine A_skip <| fg _ (Sub.of (List.Sublist.cons_cons _ (List.Sublist.cons_cons _ List.Sublist.slnil))) ?_
   exact ⟨(x_0 == 31), hM, is_mk rfl rfl⟩
  replace hM := ifn (ne_of_beq_false hc53) hM
  refine A_reg <| r_R [vB (x_0 == 32), vB (x_0 == 32)] rfl <| lx_nil <| fg _ (Sub.of (List.Sublist.cons_cons _ (List.Sublist.cons_cons _ List.Sublist.slnil))) ?_
  exact ⟨(x_0 == 32), hM, is_mk rfl rfl⟩
 clear hM; rintro t l ⟨x13_, hM, ⟨T, rfl⟩, rfl⟩
 unfold code_asks_k14 at hM
 refine A_cond x13_ rfl (fun hc44 => ?_) (fun hc44 => ?_)
 ·replace hM := ifp hc44 hM
  refine A_sr <| r_W (vA #[vI 0, vI 64]) rfl (ev_buildS rfl rfl rfl rfl) <| r_W (vA #[vI 0, vI 0]) rfl (ev_buildS rfl rfl rfl rfl) <| r_s [(b4, 81, #[vI 0, vI 0]), (b3, 81, #[vI 0, vI 64])] 1 _ _ _ _ _ (#[vI 0, vI 64]) rfl rfl rfl rfl (.of rfl rfl) rfl rfl <| r_s [(b4, 81, #[vI 0, vI 0]), (b3, 81, #[vI 0, vI 64])] 0 _ _ _ _ _ (#[vI 0, vI 0]) rfl rfl rfl rfl (.of rfl rfl) rfl rfl <| lx_nil ?_
  obtain rfl := Option.some.inj hM
  refine A_ret (fun hn => ends_eq (v0 := vT #[vA #[vI 0, vI 64], vA #[vI 0, vI 0]]) rfl (res2 (res_cell hn 1 rfl rfl rfl) (res_cell hn 0 rfl rfl rfl)))
 replace hM := ifn (Bool.eq_false_iff.1 hc44) hM
 refine A_sr <| r_R [vB (x_0 == 33), vB (x_0 == 33)] rfl <| lx_nil <| A_cond (x_0 == 33) rfl (fun hc47 => ?_) (fun hc47 => ?_)
 ·replace hM := ifp (eq_of_beq hc47) hM
  refine A_sr ?_
  obtain ⟨r49, hr50, hM⟩ := bind_sm hM
  refine r_c (vA #[vI r49.1, vI r49.2]) rfl _ _ (ev_callF rfl call_38 rfl) (code_below_g N 32 _ hr50) <| r_W (vA #[vI 0, vI 64]) rfl (ev_buildS rfl rfl rfl rfl) <| r_s [(b4, 81, #[vI 0, vI 0]), (b3, 81, #[vI r49.1, vI r49.2])] 1 _ _ _ _ _ (#[vI r49.1, vI r49.2]) rfl rfl rfl rfl (.of rfl rfl) rfl rfl <| r_s [(b4, 81, #[vI 0, vI 64]), (b3, 81, #[vI r49.1, vI r49.2])] 0 _ _ _ _ _ (#[vI 0, vI 64]) rfl rfl rfl rfl (.of rfl rfl) rfl rfl <| lx_nil ?_
  obtain rfl := Option.some.inj hM
  refine A_ret (fun hn => ends_eq (v0 := vT #[vA #[vI r49.1, vI r49.2], vA #[vI 0, vI 64]]) rfl (res2 (res_cell hn 1 rfl rfl rfl) (res_cell hn 0 rfl rfl rfl)))
 replace hM := ifn (ne_of_beq_false hc47) hM
 refine A_skip <| hK5 _ _ ?_; try clear hK5 K5
 refine A_sr <| r_W (vA #[vI 0, vI 0]) rfl (ev_buildS rfl rfl rfl rfl) <| r_W (vA #[vI 0, vI 0]) rfl (ev_buildS rfl rfl rfl rfl) <| r_s [(b4, 81, #[vI 0, vI 0]), (b3, 81, #[vI 0, vI 0])] 1 _ _ _ _ _ (#[vI 0, vI 0]) rfl rfl rfl rfl (.of rfl rfl) rfl rfl <| r_s [(b4, 81, #[vI 0, vI 0]), (b3, 81, #[vI 0, vI 0])] 0 _ _ _ _ _ (#[vI 0, vI 0]) rfl rfl rfl rfl (.of rfl rfl) rfl rfl <| lx_nil ?_
 obtain rfl := Option.some.inj hM
 refine A_ret (fun hn => ends_eq (v0 := vT #[vA #[vI 0, vI 0], vA #[vI 0, vI 0]]) rfl (res2 (res_cell hn 1 rfl rfl rfl) (res_cell hn 0 rfl rfl rfl)))
def code_isOp_m (_ : Nat) (o : Int) : Option Bool := if o ≥ 0 then some (decide (o < 35)) else some false
set_option maxRecDepth 100000 in
set_option maxHeartbeats 8000000 in
theorem code_isOp_g (N : Nat) (o : Int) (r) (hM : code_isOp_m N o = some r) : Gives Tryd.prog 26 #[vI o] (vB r) := by
 unfold code_isOp_m at hM
 refine gives_of_A follows Tryd.func26 rfl 9 rfl (upd (fun _ => undef) 0 (vI o)) (by funext k; match k with | 0 => rfl | k + 1 => rfl) (fun base0_ => ?_)
 refine A_sr <| r_V (vB false) rfl <| lx_nil <| A_seq fun K2 hK2 => A_reg <| r_R [vI o, vB (decide (o ≥ 0)), vB (decide (o ≥ 0))] rfl ?_
 rcases hg3 : (decide (o ≥ 0)) with _ | _
 ·replace hM := ifn (of_decide_eq_false hg3) hM
  refine r_R [none, none, vB false, vB false] rfl <| lx_nil <| hK2 _ _ ?_; try clear hK2 K2
  obtain rfl := Option.some.inj hM
  refine A_ret (fun hn => ends_eq (v0 := vB false) rfl (res1 rfl))
 replace hM := ifp (of_decide_eq_true hg3) hM
 refine r_R [vI o, vB (decide (o < 35)), vB (decide (o < 35)), vB (decide (o < 35))] rfl <| lx_nil <| hK2 _ _ ?_; try clear hK2 K2
 obtain rfl := Option.some.inj hM
 refine A_ret (fun hn => ends_eq (v0 := vB (decide (o < 35))) rfl (res1 rfl))
def code_span_has_m (_ : Nat) (s_0 : Int) (s_1 : Int) (n : Int) : Option Bool := if n ≥ s_0 then some (decide (n ≤ s_1)) else some false
set_option maxRecDepth 100000 in
set_option maxHeartbeats 8000000 in
theorem code_span_has_g (N : Nat) (s_0 s_1 n : Int) (r) (hM : code_span_has_m N s_0 s_1 n = some r) : Gives Tryd.prog 27 #[vA #[vI s_0, vI s_1], vI n] (vB r) := by
 unfold code_span_has_m at hM
 refine gives_of_A follows Tryd.func27 rfl 15 rfl (upd (upd (fun _ => undef) 1 (vI n)) 0 (vA #[vI s_0, vI s_1])) (by funext k; match k with | 0 => rfl | 1 => rfl | k + 2 => rfl) (fun base0_ => ?_)
 refine A_sr <| r_a (81, #[vI s_0, vI s_1]) rfl rfl rfl (fun b2 => ?_) (.inr rfl)
 refine r_V (vB false) rfl <| lx_nil <| A_seq fun K3 hK3 => A_reg <| r_R [vI n, vP b2 0] rfl <| r_l (vI s_0) 0 _ _ _ _ rfl rfl rfl rfl rfl <| r_R [vB (decide (n ≥ s_0)), vB (decide (n ≥ s_0))] rfl ?_
 rcases hg4 : (decide (n ≥ s_0)) with _ | _
 ·replace hM := ifn (of_decide_eq_false hg4) hM
  refine r_R [none, none, none, none, vB false, vB false] rfl <| lx_nil <| hK3 _ _ ?_; try clear hK3 K3
  obtain rfl := Option.some.inj hM
  refine A_ret (fun hn => ends_eq (v0 := vB false) rfl (res1 rfl))
 replace hM := ifp (of_decide_eq_true hg4) hM
 refine r_R [vI n, vP b2 1] rfl <| r_y rfl <| r_l (vI s_1) 0 _ _ _ _ rfl rfl rfl rfl rfl <| r_R [vB (decide (n ≤ s_1)), vB (decide (n ≤ s_1)), vB (decide (n ≤ s_1))] rfl <| lx_nil <| hK3 _ _ ?_; try clear hK3 K3
 obtain rfl := Option.some.inj hM
 refine A_ret (fun hn => ends_eq (v0 := vB (decide (n ≤ s_1))) rfl (res1 rfl))
def vec_mayWidth_m (_ : Nat) (w : Int) : Option Bool := if w ≥ 1 then some (decide (w ≤ 128)) else some false
set_option maxRecDepth 100000 in
set_option maxHeartbeats 8000000 in
theorem vec_mayWidth_g (N : Nat) (w : Int) (r) (hM : vec_mayWidth_m N w = some r) : Gives Tryd.prog 46 #[vI w] (vB r) := by
 unfold vec_mayWidth_m at hM
 refine gives_of_A follows Tryd.func46 rfl 9 rfl (upd (fun _ => undef) 0 (vI w)) (by funext k; match k with | 0 => rfl | k + 1 => rfl) (fun base0_ => ?_)
 refine A_sr <| r_V (vB false) rfl <| lx_nil <| A_seq fun K2 hK2 => A_reg <| r_R [vI w, vB (decide (w ≥ 1)), vB (decide (w ≥ 1))] rfl ?_
 rcases hg3 : (decide (w ≥ 1)) with _ | _
 ·replace hM := ifn (of_decide_eq_false hg3) hM
  refine r_R [none, none, vB false, vB false] rfl <| lx_nil <| hK2 _ _ ?_; try clear hK2 K2
  obtain rfl := Option.some.inj hM
  refine A_ret (fun hn => ends_eq (v0 := vB false) rfl (res1 rfl))
 replace hM := ifp (of_decide_eq_true hg3) hM
 refine r_R [vI w, vB (decide (w ≤ 128)), vB (decide (w ≤ 128)), vB (decide (w ≤ 128))] rfl <| lx_nil <| hK2 _ _ ?_; try clear hK2 K2
 obtain rfl := Option.some.inj hM
 refine A_ret (fun hn => ends_eq (v0 := vB (decide (w ≤ 128))) rfl (res1 rfl))
def vec_Word_m (_ : Nat) (_ : Int) (v_1 : BitVec 128) : Option (BitVec 128) := some v_1
set_option maxRecDepth 100000 in
set_option maxHeartbeats 8000000 in
theorem vec_Word_g (N : Nat) (v_0 : Int) (v_1 r : BitVec 128) (hM : vec_Word_m N v_0 v_1 = some r) : Gives Tryd.prog 48 #[vA #[vI v_0, U (hi v_1), U (lo v_1)]] (vA #[U (hi r), U (lo r)]) := by
 unfold vec_Word_m at hM
 refine gives_of_A follows Tryd.func48 rfl 8 rfl (upd (fun _ => undef) 0 (vA #[vI v_0, U (hi v_1), U (lo v_1)])) (by funext k; match k with | 0 => rfl | k + 1 => rfl) (fun base0_ => ?_)
 refine A_sr <| r_a (25, #[vI v_0, U (hi v_1), U (lo v_1)]) rfl rfl rfl (fun b2 => ?_) (.inr rfl)
 refine r_a (118, #[U (0#64), U (0#64)]) rfl rfl rfl (fun b3 => ?_) (.inr rfl)
 refine lx_nil <| A_sr <| r_V (vP b2 1) rfl <| r_l (U (hi v_1)) 1 _ _ _ _ rfl rfl rfl rfl rfl <| r_V (vP b2 2) rfl <| r_l (U (lo v_1)) 1 _ _ _ _ rfl rfl rfl rfl rfl <| r_W (vA #[U (hi v_1), U (lo v_1)]) rfl (ev_buildS rfl rfl rfl rfl) <| r_s [(b3, 118, #[U (hi v_1), U (lo v_1)]), (b2, 25, #[vI v_0, U (hi v_1), U (lo v_1)])] 0 _ _ _ _ _ (#[U (hi v_1), U (lo v_1)]) rfl rfl rfl rfl (.of rfl rfl) rfl rfl <| lx_nil ?_
 obtain rfl := Option.some.inj hM
 refine A_ret (fun hn => ends_eq (v0 := vA #[U (hi v_1), U (lo v_1)]) rfl (res1 (res_cell hn 0 rfl rfl rfl)))
def vec_May_m (N : Nat) (v_0 : Int) (v_1 : BitVec 128) : Option Bool := (vec_mayWidth_m N v_0).bind fun r4 => if r4 = true then (vec_Word_m N v_0 v_1).bind fun r7 => some (decide ((((len128 r7 : Nat) : Int) : Int) ≤ v_0)) else some false
set_option maxRecDepth 100000 in
set_option maxHeartbeats 8000000 in
theorem vec_May_g (N : Nat) (v_0 : Int) (v_1 : BitVec 128) (r) (hM : vec_May_m N v_0 v_1 = some r) : Gives Tryd.prog 39 #[vA #[vI v_0, U (hi v_1), U (lo v_1)]] (vB r) := by
 unfold vec_May_m at hM
 refine gives_of_A follows Tryd.func39 rfl 14 rfl (upd (fun _ => undef) 0 (vA #[vI v_0, U (hi v_1), U (lo v_1)])) (by funext k; match k with | 0 => rfl | k + 1 => rfl) (fun base0_ => ?_)
 refine A_sr <| r_a (25, #[vI v_0, U (hi v_1), U (lo v_1)]) rfl rfl rfl (fun b2 => ?_) (.inr rfl)
 refine r_V (vB false) rfl <| lx_nil <| A_seq fun K3 hK3 => A_draw [] (by decide +kernel) (fun hn => sep_nil) <| r_V (vP b2 0) rfl <| r_l (vI v_0) 0 _ _ _ _ rfl rfl rfl rfl rfl ?_
 obtain ⟨r4, hr5, hM⟩ := bind_sm hM
 refine r_c (vB r4) rfl _ _ (ev_callF rfl call_46 rfl) (vec_mayWidth_g N v_0 _ hr5) <| r_V (vB r4) rfl ?_
 rcases hg6 : r4 with _ | _
 ·replace hM := ifn (Bool.eq_false_iff.1 hg6) hM
  refine r_R [none, none, none, none, none, none, vB false, vB false] rfl <| lx_nil <| hK3 _ _ ?_; try clear hK3 K3
  obtain rfl := Option.some.inj hM
  refine A_ret (fun hn => ends_eq (v0 := vB false) rfl (res1 rfl))
 replace hM := ifp hg6 hM
 refine r_y rfl <| r_l (vA #[vI v_0, U (hi v_1), U (lo v_1)]) 0 _ _ _ _ rfl rfl rfl rfl rfl <| r_y rfl ?_
 obtain ⟨r7, hr8, hM⟩ := bind_sm hM
 refine r_c (vA #[U (hi r7), U (lo r7)]) rfl _ _ (ev_callF rfl call_48 rfl) (vec_Word_g N v_0 v_1 _ hr8) <| r_y rfl <| r_c (vI ((len128 r7 : Nat) : Int)) rfl _ _ (ev_callF rfl call_47 rfl) (len_g r7) <| r_R [vP b2 0] rfl <| r_y rfl <| r_l (vI v_0) 0 _ _ _ _ rfl rfl rfl rfl rfl <| r_R [vB (decide ((((len128 r7 : Nat) : Int) : Int) ≤ v_0)), vB (decide ((((len128 r7 : Nat) : Int) : Int) ≤ v_0)), vB (decide ((((len128 r7 : Nat) : Int) : Int) ≤ v_0))] rfl <| lx_nil <| hK3 _ _ ?_; try clear hK3 K3
 obtain rfl := Option.some.inj hM
 refine A_ret (fun hn => ends_eq (v0 := vB (decide ((((len128 r7 : Nat) : Int) : Int) ≤ v_0))) rfl (res1 rfl))
def code_mayRow_m (N : Nat) (x_0 : Int) (_ : Int) (_ : Int) (x_3 : Int) (x_4 : BitVec 128) : Option Bool := if x_0 = 0 then (vec_May_m N x_3 x_4).bind fun r7 => some r7 else some ((x_3 == 0) && (x_4 == ((0#64) ++ (0#64))))
set_option maxRecDepth 100000 in
set_option maxHeartbeats 8000000 in
theorem code_mayRow_g (N : Nat) (x_0 x_1 x_2 x_3 : Int) (x_4 : BitVec 128) (r) (hM : code_mayRow_m N x_0 x_1 x_2 x_3 x_4 = some r) : Gives Tryd.prog 28 #[vA #[vI x_0, vI x_1, vI x_2, vI x_3, U (hi x_4), U (lo x_4)]] (vB r) := by
 unfold code_mayRow_m at hM
 refine gives_of_A follows Tryd.func28 rfl 13 rfl (upd (fun _ => undef) 0 (vA #[vI x_0, vI x_1, vI x_2, vI x_3, U (hi x_4), U (lo x_4)])) (by funext k; match k with | 0 => rfl | k + 1 => rfl) (fun base0_ => ?_)
 refine A_sr <| r_a (27, #[vI x_0, vI x_1, vI x_2, vI x_3, U (hi x_4), U (lo x_4)]) rfl rfl rfl (fun b2 => ?_) (.inr rfl)
 refine r_V (vB false) rfl <| lx_nil <| A_seq fun K3 hK3 => A_sr <| r_V (vP b2 0) rfl <| r_l (vI x_0) 0 _ _ _ _ rfl rfl rfl rfl rfl <| r_V (vB (x_0 == 0)) rfl <| lx_nil <| A_cond (x_0 == 0) rfl (fun hc5 => ?_) (fun hc5 => ?_)
 ·replace hM := ifp (eq_of_beq hc5) hM
  refine A_sr <| r_V (vP b2 3) rfl <| r_l (vA #[vI x_3, U (hi x_4), U (lo x_4)]) 0 _ _ _ _ rfl rfl rfl rfl rfl ?_
  obtain ⟨r7, hr8, hM⟩ := bind_sm hM
  refine r_c (vB r7) rfl _ _ (ev_callF rfl call_39 rfl) (vec_May_g N x_3 x_4 _ hr8) <| r_V (vB r7) rfl <| lx_nil ?_
  obtain rfl := Option.some.inj hM
  refine A_ret (fun hn => ends_eq (v0 := vB r7) rfl (res1 rfl))
 replace hM := ifn (ne_of_beq_false hc5) hM
 refine A_skip <| hK3 _ _ ?_; try clear hK3 K3
 refine A_sr <| r_V (vP b2 3) rfl <| r_l (vA #[vI x_3, U (hi x_4), U (lo x_4)]) 0 _ _ _ _ rfl rfl rfl rfl rfl <| r_W (vA #[vI 0, U (0#64), U (0#64)]) rfl (ev_buildS rfl rfl rfl rfl) <| r_W (vB ((x_3 == 0) && (x_4 == ((0#64) ++ (0#64))))) rfl (ev_binEq rfl rfl eg_25 (by have h_ := fun c => eqst_25 (c := c) x_3 0 x_4 ((0#64) ++ (0#64)); simp only [app_hl] at h_; exact h_ _)) ?_
 refine r_V (vB ((x_3 == 0) && (x_4 == ((0#64) ++ (0#64))))) rfl <| lx_nil ?_
 obtain rfl := Option.some.inj hM
 refine A_ret (fun hn => ends_eq (v0 := vB ((x_3 == 0) && (x_4 == ((0#64) ++ (0#64))))) rfl (res1 rfl))
def code_May_k2 (N : Nat) (x_0 : Int) (x_1 : Int) (x_2 : Int) (x_3 : Int) (x_4 : BitVec 128) (x1_ : Bool) : Option Int := if x1_ = true then some 7 else (code_mayRow_m N x_0 x_1 x_2 x_3 x_4).bind fun r17 => if r17 = true then some 0 else some 1
def code_May_m (N : Nat) (x_0 : Int) (x_1 : Int) (x_2 : Int) (x_3 : Int) (x_4 : BitVec 128) : Option Int := (code_asks_m N x_0 x_1 x_2 x_3 x_4).bind fun r4 => (code_isOp_m N x_0).bind fun r10 => if r10 = true then (code_span_has_m N r4.1 r4.2.1 x_1).bind fun r22 => if r22 = true then (code_span_has_m N r4.2.2.1 r4.2.2.2 x_2).bind fun r25 => code_May_k2 N x_0 x_1 x_2 x_3 x_4 (!(r25)) else code_May_k2 N x_0 x_1 x_2 x_3 x_4 true else some 10
set_option maxRecDepth 100000 in
set_option maxHeartbeats 8000000 in
theorem code_May_g (N : Nat) (x_0 x_1 x_2 x_3 : Int) (x_4 : BitVec 128) (r) (hM : code_May_m N x_0 x_1 x_2 x_3 x_4 = some r) : Gives Tryd.prog 10 #[vA #[vI x_0, vI x_1, vI x_2, vI x_3, U (hi x_4), U (lo x_4)]] (vI r) := by
 unfold code_May_m at hM
 refine gives_of_A follows Tryd.func10 rfl 32 rfl (upd (fun _ => undef) 0 (vA #[vI x_0, vI x_1, vI x_2, vI x_3, U (hi x_4), U (lo x_4)])) (by funext k; match k with | 0 => rfl | k + 1 => rfl) (fun base0_ => ?_)
 refine A_sr <| r_a (27, #[vI x_0, vI x_1, vI x_2, vI x_3, U (hi x_4), U (lo x_4)]) rfl rfl rfl (fun b2 => ?_) (.inr rfl)
 refine r_V (vI 0) rfl <| lx_nil <| A_sr <| r_l (vA #[vI x_0, vI x_1, vI x_2, vI x_3, U (hi x_4), U (lo x_4)]) 0 _ _ _ _ rfl rfl rfl rfl rfl ?_
 obtain ⟨r4, hr5, hM⟩ := bind_sm hM
 refine r_c (vT #[vA #[vI r4.1, vI r4.2.1], vA #[vI r4.2.2.1, vI r4.2.2.2]]) rfl _ _ (ev_callF rfl call_25 rfl) (code_asks_g N x_0 x_1 x_2 x_3 x_4 _ hr5) <| r_R [vT #[vA #[vI r4.1, vI r4.2.1], vA #[vI r4.2.2.1, vI r4.2.2.2]], vA #[vI r4.1, vI r4.2.1], vA #[vI r4.2.2.1, vI r4.2.2.2]] rfl <| r_a (81, #[vI 0, vI 0]) rfl rfl rfl (fun b6 => ?_) (.inr rfl)
 refine r_a (81, #[vI 0, vI 0]) rfl rfl rfl (fun b7 => ?_) (.inr rfl)
 refine r_s [(b7, 81, #[vI 0, vI 0]), (b6, 81, #[vI r4.1, vI r4.2.1]), (b2, 27, #[vI x_0, vI x_1, vI x_2, vI x_3, U (hi x_4), U (lo x_4)])] 1 _ _ _ _ _ (#[vI r4.1, vI r4.2.1]) rfl rfl rfl rfl (.of rfl rfl) rfl rfl <| r_s [(b7, 81, #[vI r4.2.2.1, vI r4.2.2.2]), (b6, 81, #[vI r4.1, vI r4.2.1]), (b2, 27, #[vI x_0, vI x_1, vI x_2, vI x_3, U (hi x_4), U (lo x_4)])] 0 _ _ _ _ _ (#[vI r4.2.2.1, vI r4.2.2.2]) rfl rfl rfl rfl (.of rfl rfl) rfl rfl <| lx_nil <| A_seq fun K8 hK8 => A_block <| A_sr <| r_V (vP b2 0) rfl <| r_l (vI x_0) 2 _ _ _ _ rfl rfl rfl rfl rfl ?_
 obtain ⟨r10, hr11, hM⟩ := bind_sm hM
 refine r_c (vB r10) rfl _ _ (ev_callF rfl call_26 rfl) (code_isOp_g N x_0 _ hr11) <| r_R [vB (!(r10)), vB (!(r10))] rfl <| lx_nil <| A_cond (!(r10)) rfl (fun hc12 => ?_) (fun hc12 => ?_)
 ·replace hM := ifn (Bool.eq_false_iff.1 (not_t hc12)) hM
  refine A_sr <| r_V (vI 10) rfl <| lx_nil ?_
  obtain rfl := Option.some.inj hM
  refine A_ret (fun hn => ends_eq (v0 := vI 10) rfl (res1 rfl))
 replace hM := ifp (not_f hc12) hM
 refine A_cut (fun tt ll => ∃ (x1_ : Bool), (code_May_k2 N x_0 x_1 x_2 x_3 x_4 x1_ = some r) ∧ Is [(1, vP b2 0), (15, vB x1_)] (kBa27_0 b2 x_0 x_1 x_2 x_3 (hi x_4) (lo x_4)) tt ll) ?_ ?_
 ·refine A_reg <| r_l (vA #[vI r4.1, vI r4.2.1]) 1 _ _ _ _ rfl rfl rfl rfl rfl <| r_V (vP b2 1) rfl <| r_l (vI x_1) 2 _ _ _ _ rfl rfl rfl rfl rfl ?_
  obtain ⟨r22, hr23, hM⟩ := bind_sm hM
  refine r_c (vB r22) rfl _ _ (ev_callF rfl call_27 rfl) (code_span_has_g N r4.1 r4.2.1 x_1 _ hr23) <| r_R [vB (!(r22)), vB (!(r22))] rfl ?_
  rcases hg24 : (!(r22)) with _ | _
  ·replace hM := ifp (not_f hg24) hM
   refine r_y rfl <| r_l (vA #[vI r4.2.2.1, vI r4.2.2.2]) 0 _ _ _ _ rfl rfl rfl rfl rfl <| r_R [vP b2 2] rfl <| r_y rfl <| r_l (vI x_2) 2 _ _ _ _ rfl rfl rfl rfl rfl <| r_y rfl ?_
   obtain ⟨r25, hr26, hM⟩ := bind_sm hM
   refine r_c (vB r25) rfl _ _ (ev_callF rfl call_27 rfl) (code_span_has_g N r4.2.2.1 r4.2.2.2 x_2 _ hr26) <| r_R [vB (!(r25)), vB (!(r25)), vB (!(r25))] rfl <| lx_nil <| fg _ (Sub.of (List.Sublist.cons _ (List.Sublist.cons _ (List.Sublist.cons_cons _ List.Sublist.slnil)))) ?_
   exact ⟨!(r25), hM, is_mk (by first | rfl | (simp only [hg24]; done) | (simp only [hg24]; rfl) | (simp only [app_hl]; rfl)) rfl⟩
  replace hM := ifn (Bool.eq_false_iff.1 (not_t hg24)) hM
  refine r_R [none, none, none, none, none, vB true, vB true] rfl <| lx_nil <| fg _ (Sub.of (List.Sublist.cons _ (List.Sublist.cons _ (List.Sublist.cons_cons _ List.Sublist.slnil)))) ?_
  exact ⟨true, hM, is_mk (by first | rfl | (simp only [hg24]; done) | (simp only [hg24]; rfl) | (simp only [app_hl]; rfl)) rfl⟩
 clear hM; rintro t l ⟨x1_, hM, ⟨T, rfl⟩, rfl⟩
 unfold code_May_k2 at hM
 refine A_cond x1_ rfl (fun hc14 => ?_) (fun hc14 => ?_)
 ·replace hM := ifp hc14 hM
  refine A_sr <| r_V (vI 7) rfl <| lx_nil ?_
  obtain rfl := Option.some.inj hM
  refine A_ret (fun hn => ends_eq (v0 := vI 7) rfl (res1 rfl))
 replace hM := ifn (Bool.eq_false_iff.1 hc14) hM
 refine A_sr <| r_l (vA #[vI x_0, vI x_1, vI x_2, vI x_3, U (hi x_4), U (lo x_4)]) 0 _ _ _ _ rfl rfl rfl rfl rfl ?_
 obtain ⟨r17, hr18, hM⟩ := bind_sm hM
 refine r_c (vB r17) rfl _ _ (ev_callF rfl call_28 rfl) (code_mayRow_g N x_0 x_1 x_2 x_3 x_4 _ hr18) <| r_R [vB (!(r17)), vB (!(r17))] rfl <| lx_nil <| A_cond (!(r17)) rfl (fun hc19 => ?_) (fun hc19 => ?_)
 ·replace hM := ifn (Bool.eq_false_iff.1 (not_t hc19)) hM
  refine A_sr <| r_V (vI 1) rfl <| lx_nil ?_
  obtain rfl := Option.some.inj hM
  refine A_ret (fun hn => ends_eq (v0 := vI 1) rfl (res1 rfl))
 replace hM := ifp (not_f hc19) hM
 refine A_skip <| hK8 _ _ ?_; try clear hK8 K8
 refine A_sr <| r_V (vI 0) rfl <| lx_nil ?_
 obtain rfl := Option.some.inj hM
 refine A_ret (fun hn => ends_eq (v0 := vI 0) rfl (res1 rfl))
inductive Sum31 where
  | nil
  | t47 (x0 : Int) (x1 : BitVec 128)
  | t49 (x0 : Int) (x1 : Int) (x2 : Int)
  | t51 (x0 : Int) (x1 : Int)
  | t52 (x0 : Int) (x1 : Int)
  | t54 (x0 : Int) (x1 : Int)
  | t56 (x0 : Int) (x1 : Int) (x2 : Int)
  | t58 (x0 : Int) (x1 : Int)
  | t60 (x0 : Int)
  | t86 (x0 : Int) (x1 : Int)
  | t88 (x0 : Int) (x1 : Int)
  | t90 
  deriving Inhabited
def Sum31.on {β : Type} (x : Sum31) (a : β) (f47 : Int → (BitVec 128) → β) (f49 : Int → Int → Int → β) (f51 : Int → Int → β) (f52 : Int → Int → β) (f54 : Int → Int → β) (f56 : Int → Int → Int → β) (f58 : Int → Int → β) (f60 : Int → β) (f86 : Int → Int → β) (f88 : Int → Int → β) (f90 : β) : β := match x with | .nil => a | .t47 x0 x1 => f47 x0 x1 | .t49 x0 x1 x2 => f49 x0 x1 x2 | .t51 x0 x1 => f51 x0 x1 | .t52 x0 x1 => f52 x0 x1 | .t54 x0 x1 => f54 x0 x1 | .t56 x0 x1 x2 => f56 x0 x1 x2 | .t58 x0 x1 => f58 x0 x1 | .t60 x0 => f60 x0 | .t86 x0 x1 => f86 x0 x1 | .t88 x0 x1 => f88 x0 x1 | .t90  => f90 
theorem Sum31.on_nil  {β : Type} {x : Sum31} {a r : β} {f47 : Int → (BitVec 128) → β} {f49 : Int → Int → Int → β} {f51 : Int → Int → β} {f52 : Int → Int → β} {f54 : Int → Int → β} {f56 : Int → Int → Int → β} {f58 : Int → Int → β} {f60 : Int → β} {f86 : Int → Int → β} {f88 : Int → Int → β} {f90 : β} (h : x = .nil) (e : Sum31.on x a f47 f49 f51 f52 f54 f56 f58 f60 f86 f88 f90 = r) : a = r := by subst h; exact e
theorem Sum31.at_nil  {β : Type} {a : β} {f47 : Int → (BitVec 128) → β} {f49 : Int → Int → Int → β} {f51 : Int → Int → β} {f52 : Int → Int → β} {f54 : Int → Int → β} {f56 : Int → Int → Int → β} {f58 : Int → Int → β} {f60 : Int → β} {f86 : Int → Int → β} {f88 : Int → Int → β} {f90 : β} : Sum31.on .nil a f47 f49 f51 f52 f54 f56 f58 f60 f86 f88 f90 = a := rfl
theorem Sum31.at_t47  {β : Type} {a : β} {f47 : Int → (BitVec 128) → β} {f49 : Int → Int → Int → β} {f51 : Int → Int → β} {f52 : Int → Int → β} {f54 : Int → Int → β} {f56 : Int → Int → Int → β} {f58 : Int → Int → β} {f60 : Int → β} {f86 : Int → Int → β} {f88 : Int → Int → β} {f90 : β} {x0 : Int} {x1 : BitVec 128} : Sum31.on (.t47 x0 x1) a f47 f49 f51 f52 f54 f56 f58 f60 f86 f88 f90 = f47 x0 x1 := rfl
theorem Sum31.at_t49  {β : Type} {a : β} {f47 : Int → (BitVec 128) → β} {f49 : Int → Int → Int → β} {f51 : Int → Int → β} {f52 : Int → Int → β} {f54 : Int → Int → β} {f56 : Int → Int → Int → β} {f58 : Int → Int → β} {f60 : Int → β} {f86 : Int → Int → β} {f88 : Int → Int → β} {f90 : β} {x0 : Int} {x1 : Int} {x2 : Int} : Sum31.on (.t49 x0 x1 x2) a f47 f49 f51 f52 f54 f56 f58 f60 f86 f88 f90 = f49 x0 x1 x2 := rfl
theorem Sum31.at_t51  {β : Type} {a : β} {f47 : Int → (BitVec 128) → β} {f49 : Int → Int → Int → β} {f51 : Int → Int → β} {f52 : Int → Int → β} {f54 : Int → Int → β} {f56 : Int → Int → Int → β} {f58 : Int → Int → β} {f60 : Int → β} {f86 : Int → Int → β} {f88 : Int → Int → β} {f90 : β} {x0 : Int} {x1 : Int} : Sum31.on (.t51 x0 x1) a f47 f49 f51 f52 f54 f56 f58 f60 f86 f88 f90 = f51 x0 x1 := rfl
theorem Sum31.at_t52  {β : Type} {a : β} {f47 : Int → (BitVec 128) → β} {f49 : Int → Int → Int → β} {f51 : Int → Int → β} {f52 : Int → Int → β} {f54 : Int → Int → β} {f56 : Int → Int → Int → β} {f58 : Int → Int → β} {f60 : Int → β} {f86 : Int → Int → β} {f88 : Int → Int → β} {f90 : β} {x0 : Int} {x1 : Int} : Sum31.on (.t52 x0 x1) a f47 f49 f51 f52 f54 f56 f58 f60 f86 f88 f90 = f52 x0 x1 := rfl
theorem Sum31.at_t54  {β : Type} {a : β} {f47 : Int → (BitVec 128) → β} {f49 : Int → Int → Int → β} {f51 : Int → Int → β} {f52 : Int → Int → β} {f54 : Int → Int → β} {f56 : Int → Int → Int → β} {f58 : Int → Int → β} {f60 : Int → β} {f86 : Int → Int → β} {f88 : Int → Int → β} {f90 : β} {x0 : Int} {x1 : Int} : Sum31.on (.t54 x0 x1) a f47 f49 f51 f52 f54 f56 f58 f60 f86 f88 f90 = f54 x0 x1 := rfl
theorem Sum31.at_t56  {β : Type} {a : β} {f47 : Int → (BitVec 128) → β} {f49 : Int → Int → Int → β} {f51 : Int → Int → β} {f52 : Int → Int → β} {f54 : Int → Int → β} {f56 : Int → Int → Int → β} {f58 : Int → Int → β} {f60 : Int → β} {f86 : Int → Int → β} {f88 : Int → Int → β} {f90 : β} {x0 : Int} {x1 : Int} {x2 : Int} : Sum31.on (.t56 x0 x1 x2) a f47 f49 f51 f52 f54 f56 f58 f60 f86 f88 f90 = f56 x0 x1 x2 := rfl
theorem Sum31.at_t58  {β : Type} {a : β} {f47 : Int → (BitVec 128) → β} {f49 : Int → Int → Int → β} {f51 : Int → Int → β} {f52 : Int → Int → β} {f54 : Int → Int → β} {f56 : Int → Int → Int → β} {f58 : Int → Int → β} {f60 : Int → β} {f86 : Int → Int → β} {f88 : Int → Int → β} {f90 : β} {x0 : Int} {x1 : Int} : Sum31.on (.t58 x0 x1) a f47 f49 f51 f52 f54 f56 f58 f60 f86 f88 f90 = f58 x0 x1 := rfl
theorem Sum31.at_t60  {β : Type} {a : β} {f47 : Int → (BitVec 128) → β} {f49 : Int → Int → Int → β} {f51 : Int → Int → β} {f52 : Int → Int → β} {f54 : Int → Int → β} {f56 : Int → Int → Int → β} {f58 : Int → Int → β} {f60 : Int → β} {f86 : Int → Int → β} {f88 : Int → Int → β} {f90 : β} {x0 : Int} : Sum31.on (.t60 x0) a f47 f49 f51 f52 f54 f56 f58 f60 f86 f88 f90 = f60 x0 := rfl
theorem Sum31.at_t86  {β : Type} {a : β} {f47 : Int → (BitVec 128) → β} {f49 : Int → Int → Int → β} {f51 : Int → Int → β} {f52 : Int → Int → β} {f54 : Int → Int → β} {f56 : Int → Int → Int → β} {f58 : Int → Int → β} {f60 : Int → β} {f86 : Int → Int → β} {f88 : Int → Int → β} {f90 : β} {x0 : Int} {x1 : Int} : Sum31.on (.t86 x0 x1) a f47 f49 f51 f52 f54 f56 f58 f60 f86 f88 f90 = f86 x0 x1 := rfl
theorem Sum31.at_t88  {β : Type} {a : β} {f47 : Int → (BitVec 128) → β} {f49 : Int → Int → Int → β} {f51 : Int → Int → β} {f52 : Int → Int → β} {f54 : Int → Int → β} {f56 : Int → Int → Int → β} {f58 : Int → Int → β} {f60 : Int → β} {f86 : Int → Int → β} {f88 : Int → Int → β} {f90 : β} {x0 : Int} {x1 : Int} : Sum31.on (.t88 x0 x1) a f47 f49 f51 f52 f54 f56 f58 f60 f86 f88 f90 = f88 x0 x1 := rfl
theorem Sum31.at_t90  {β : Type} {a : β} {f47 : Int → (BitVec 128) → β} {f49 : Int → Int → Int → β} {f51 : Int → Int → β} {f52 : Int → Int → β} {f54 : Int → Int → β} {f56 : Int → Int → Int → β} {f58 : Int → Int → β} {f60 : Int → β} {f86 : Int → Int → β} {f88 : Int → Int → β} {f90 : β} : Sum31.on (.t90 ) a f47 f49 f51 f52 f54 f56 f58 f60 f86 f88 f90 = f90  := rfl
theorem Sum31.on_t47  {β : Type} {x : Sum31} {a r : β} {f47 : Int → (BitVec 128) → β} {f49 : Int → Int → Int → β} {f51 : Int → Int → β} {f52 : Int → Int → β} {f54 : Int → Int → β} {f56 : Int → Int → Int → β} {f58 : Int → Int → β} {f60 : Int → β} {f86 : Int → Int → β} {f88 : Int → Int → β} {f90 : β} {x0 : Int} {x1 : BitVec 128} (h : x = .t47 x0 x1) (e : Sum31.on x a f47 f49 f51 f52 f54 f56 f58 f60 f86 f88 f90 = r) : f47 x0 x1 = r := by subst h; exact e
theorem Sum31.on_t49  {β : Type} {x : Sum31} {a r : β} {f47 : Int → (BitVec 128) → β} {f49 : Int → Int → Int → β} {f51 : Int → Int → β} {f52 : Int → Int → β} {f54 : Int → Int → β} {f56 : Int → Int → Int → β} {f58 : Int → Int → β} {f60 : Int → β} {f86 : Int → Int → β} {f88 : Int → Int → β} {f90 : β} {x0 : Int} {x1 : Int} {x2 : Int} (h : x = .t49 x0 x1 x2) (e : Sum31.on x a f47 f49 f51 f52 f54 f56 f58 f60 f86 f88 f90 = r) : f49 x0 x1 x2 = r := by subst h; exact e
theorem Sum31.on_t51  {β : Type} {x : Sum31} {a r : β} {f47 : Int → (BitVec 128) → β} {f49 : Int → Int → Int → β} {f51 : Int → Int → β} {f52 : Int → Int → β} {f54 : Int → Int → β} {f56 : Int → Int → Int → β} {f58 : Int → Int → β} {f60 : Int → β} {f86 : Int → Int → β} {f88 : Int → Int → β} {f90 : β} {x0 : Int} {x1 : Int} (h : x = .t51 x0 x1) (e : Sum31.on x a f47 f49 f51 f52 f54 f56 f58 f60 f86 f88 f90 = r) : f51 x0 x1 = r := by subst h; exact e
theorem Sum31.on_t52  {β : Type} {x : Sum31} {a r : β} {f47 : Int → (BitVec 128) → β} {f49 : Int → Int → Int → β} {f51 : Int → Int → β} {f52 : Int → Int → β} {f54 : Int → Int → β} {f56 : Int → Int → Int → β} {f58 : Int → Int → β} {f60 : Int → β} {f86 : Int → Int → β} {f88 : Int → Int → β} {f90 : β} {x0 : Int} {x1 : Int} (h : x = .t52 x0 x1) (e : Sum31.on x a f47 f49 f51 f52 f54 f56 f58 f60 f86 f88 f90 = r) : f52 x0 x1 = r := by subst h; exact e
theorem Sum31.on_t54  {β : Type} {x : Sum31} {a r : β} {f47 : Int → (BitVec 128) → β} {f49 : Int → Int → Int → β} {f51 : Int → Int → β} {f52 : Int → Int → β} {f54 : Int → Int → β} {f56 : Int → Int → Int → β} {f58 : Int → Int → β} {f60 : Int → β} {f86 : Int → Int → β} {f88 : Int → Int → β} {f90 : β} {x0 : Int} {x1 : Int} (h : x = .t54 x0 x1) (e : Sum31.on x a f47 f49 f51 f52 f54 f56 f58 f60 f86 f88 f90 = r) : f54 x0 x1 = r := by subst h; exact e
theorem Sum31.on_t56  {β : Type} {x : Sum31} {a r : β} {f47 : Int → (BitVec 128) → β} {f49 : Int → Int → Int → β} {f51 : Int → Int → β} {f52 : Int → Int → β} {f54 : Int → Int → β} {f56 : Int → Int → Int → β} {f58 : Int → Int → β} {f60 : Int → β} {f86 : Int → Int → β} {f88 : Int → Int → β} {f90 : β} {x0 : Int} {x1 : Int} {x2 : Int} (h : x = .t56 x0 x1 x2) (e : Sum31.on x a f47 f49 f51 f52 f54 f56 f58 f60 f86 f88 f90 = r) : f56 x0 x1 x2 = r := by subst h; exact e
theorem Sum31.on_t58  {β : Type} {x : Sum31} {a r : β} {f47 : Int → (BitVec 128) → β} {f49 : Int → Int → Int → β} {f51 : Int → Int → β} {f52 : Int → Int → β} {f54 : Int → Int → β} {f56 : Int → Int → Int → β} {f58 : Int → Int → β} {f60 : Int → β} {f86 : Int → Int → β} {f88 : Int → Int → β} {f90 : β} {x0 : Int} {x1 : Int} (h : x = .t58 x0 x1) (e : Sum31.on x a f47 f49 f51 f52 f54 f56 f58 f60 f86 f88 f90 = r) : f58 x0 x1 = r := by subst h; exact e
theorem Sum31.on_t60  {β : Type} {x : Sum31} {a r : β} {f47 : Int → (BitVec 128) → β} {f49 : Int → Int → Int → β} {f51 : Int → Int → β} {f52 : Int → Int → β} {f54 : Int → Int → β} {f56 : Int → Int → Int → β} {f58 : Int → Int → β} {f60 : Int → β} {f86 : Int → Int → β} {f88 : Int → Int → β} {f90 : β} {x0 : Int} (h : x = .t60 x0) (e : Sum31.on x a f47 f49 f51 f52 f54 f56 f58 f60 f86 f88 f90 = r) : f60 x0 = r := by subst h; exact e
theorem Sum31.on_t86  {β : Type} {x : Sum31} {a r : β} {f47 : Int → (BitVec 128) → β} {f49 : Int → Int → Int → β} {f51 : Int → Int → β} {f52 : Int → Int → β} {f54 : Int → Int → β} {f56 : Int → Int → Int → β} {f58 : Int → Int → β} {f60 : Int → β} {f86 : Int → Int → β} {f88 : Int → Int → β} {f90 : β} {x0 : Int} {x1 : Int} (h : x = .t86 x0 x1) (e : Sum31.on x a f47 f49 f51 f52 f54 f56 f58 f60 f86 f88 f90 = r) : f86 x0 x1 = r := by subst h; exact e
theorem Sum31.on_t88  {β : Type} {x : Sum31} {a r : β} {f47 : Int → (BitVec 128) → β} {f49 : Int → Int → Int → β} {f51 : Int → Int → β} {f52 : Int → Int → β} {f54 : Int → Int → β} {f56 : Int → Int → Int → β} {f58 : Int → Int → β} {f60 : Int → β} {f86 : Int → Int → β} {f88 : Int → Int → β} {f90 : β} {x0 : Int} {x1 : Int} (h : x = .t88 x0 x1) (e : Sum31.on x a f47 f49 f51 f52 f54 f56 f58 f60 f86 f88 f90 = r) : f88 x0 x1 = r := by subst h; exact e
theorem Sum31.on_t90  {β : Type} {x : Sum31} {a r : β} {f47 : Int → (BitVec 128) → β} {f49 : Int → Int → Int → β} {f51 : Int → Int → β} {f52 : Int → Int → β} {f54 : Int → Int → β} {f56 : Int → Int → Int → β} {f58 : Int → Int → β} {f60 : Int → β} {f86 : Int → Int → β} {f88 : Int → Int → β} {f90 : β} (h : x = .t90 ) (e : Sum31.on x a f47 f49 f51 f52 f54 f56 f58 f60 f86 f88 f90 = r) : f90  = r := by subst h; exact e
def Sum31.onP (x : Sum31) (a : PO) (f47 : Int → (BitVec 128) → PO) (f49 : Int → Int → Int → PO) (f51 : Int → Int → PO) (f52 : Int → Int → PO) (f54 : Int → Int → PO) (f56 : Int → Int → Int → PO) (f58 : Int → Int → PO) (f60 : Int → PO) (f86 : Int → Int → PO) (f88 : Int → Int → PO) (f90 : PO) : PO := match x with | .nil => a | .t47 x0 x1 => f47 x0 x1 | .t49 x0 x1 x2 => f49 x0 x1 x2 | .t51 x0 x1 => f51 x0 x1 | .t52 x0 x1 => f52 x0 x1 | .t54 x0 x1 => f54 x0 x1 | .t56 x0 x1 x2 => f56 x0 x1 x2 | .t58 x0 x1 => f58 x0 x1 | .t60 x0 => f60 x0 | .t86 x0 x1 => f86 x0 x1 | .t88 x0 x1 => f88 x0 x1 | .t90  => f90 
theorem Sum31.onP_nil  {x : Sum31} {a : PO} {f47 : Int → (BitVec 128) → PO} {f49 : Int → Int → Int → PO} {f51 : Int → Int → PO} {f52 : Int → Int → PO} {f54 : Int → Int → PO} {f56 : Int → Int → Int → PO} {f58 : Int → Int → PO} {f60 : Int → PO} {f86 : Int → Int → PO} {f88 : Int → Int → PO} {f90 : PO} {v : Value} {O : List (List Bl)} (h : x = .nil) (e : Sum31.onP x a f47 f49 f51 f52 f54 f56 f58 f60 f86 f88 f90 v O) : a v O := by subst h; exact e
theorem Sum31.onP_t47  {x : Sum31} {a : PO} {f47 : Int → (BitVec 128) → PO} {f49 : Int → Int → Int → PO} {f51 : Int → Int → PO} {f52 : Int → Int → PO} {f54 : Int → Int → PO} {f56 : Int → Int → Int → PO} {f58 : Int → Int → PO} {f60 : Int → PO} {f86 : Int → Int → PO} {f88 : Int → Int → PO} {f90 : PO} {x0 : Int} {x1 : BitVec 128} {v : Value} {O : List (List Bl)} (h : x = .t47 x0 x1) (e : Sum31.onP x a f47 f49 f51 f52 f54 f56 f58 f60 f86 f88 f90 v O) : f47 x0 x1 v O := by subst h; exact e
theorem Sum31.onP_t49  {x : Sum31} {a : PO} {f47 : Int → (BitVec 128) → PO} {f49 : Int → Int → Int → PO} {f51 : Int → Int → PO} {f52 : Int → Int → PO} {f54 : Int → Int → PO} {f56 : Int → Int → Int → PO} {f58 : Int → Int → PO} {f60 : Int → PO} {f86 : Int → Int → PO} {f88 : Int → Int → PO} {f90 : PO} {x0 : Int} {x1 : Int} {x2 : Int} {v : Value} {O : List (List Bl)} (h : x = .t49 x0 x1 x2) (e : Sum31.onP x a f47 f49 f51 f52 f54 f56 f58 f60 f86 f88 f90 v O) : f49 x0 x1 x2 v O := by subst h; exact e
theorem Sum31.onP_t51  {x : Sum31} {a : PO} {f47 : Int → (BitVec 128) → PO} {f49 : Int → Int → Int → PO} {f51 : Int → Int → PO} {f52 : Int → Int → PO} {f54 : Int → Int → PO} {f56 : Int → Int → Int → PO} {f58 : Int → Int → PO} {f60 : Int → PO} {f86 : Int → Int → PO} {f88 : Int → Int → PO} {f90 : PO} {x0 : Int} {x1 : Int} {v : Value} {O : List (List Bl)} (h : x = .t51 x0 x1) (e : Sum31.onP x a f47 f49 f51 f52 f54 f56 f58 f60 f86 f88 f90 v O) : f51 x0 x1 v O := by subst h; exact e
theorem Sum31.onP_t52  {x : Sum31} {a : PO} {f47 : Int → (BitVec 128) → PO} {f49 : Int → Int → Int → PO} {f51 : Int → Int → PO} {f52 : Int → Int → PO} {f54 : Int → Int → PO} {f56 : Int → Int → Int → PO} {f58 : Int → Int → PO} {f60 : Int → PO} {f86 : Int → Int → PO} {f88 : Int → Int → PO} {f90 : PO} {x0 : Int} {x1 : Int} {v : Value} {O : List (List Bl)} (h : x = .t52 x0 x1) (e : Sum31.onP x a f47 f49 f51 f52 f54 f56 f58 f60 f86 f88 f90 v O) : f52 x0 x1 v O := by subst h; exact e
theorem Sum31.onP_t54  {x : Sum31} {a : PO} {f47 : Int → (BitVec 128) → PO} {f49 : Int → Int → Int → PO} {f51 : Int → Int → PO} {f52 : Int → Int → PO} {f54 : Int → Int → PO} {f56 : Int → Int → Int → PO} {f58 : Int → Int → PO} {f60 : Int → PO} {f86 : Int → Int → PO} {f88 : Int → Int → PO} {f90 : PO} {x0 : Int} {x1 : Int} {v : Value} {O : List (List Bl)} (h : x = .t54 x0 x1) (e : Sum31.onP x a f47 f49 f51 f52 f54 f56 f58 f60 f86 f88 f90 v O) : f54 x0 x1 v O := by subst h; exact e
theorem Sum31.onP_t56  {x : Sum31} {a : PO} {f47 : Int → (BitVec 128) → PO} {f49 : Int → Int → Int → PO} {f51 : Int → Int → PO} {f52 : Int → Int → PO} {f54 : Int → Int → PO} {f56 : Int → Int → Int → PO} {f58 : Int → Int → PO} {f60 : Int → PO} {f86 : Int → Int → PO} {f88 : Int → Int → PO} {f90 : PO} {x0 : Int} {x1 : Int} {x2 : Int} {v : Value} {O : List (List Bl)} (h : x = .t56 x0 x1 x2) (e : Sum31.onP x a f47 f49 f51 f52 f54 f56 f58 f60 f86 f88 f90 v O) : f56 x0 x1 x2 v O := by subst h; exact e
theorem Sum31.onP_t58  {x : Sum31} {a : PO} {f47 : Int → (BitVec 128) → PO} {f49 : Int → Int → Int → PO} {f51 : Int → Int → PO} {f52 : Int → Int → PO} {f54 : Int → Int → PO} {f56 : Int → Int → Int → PO} {f58 : Int → Int → PO} {f60 : Int → PO} {f86 : Int → Int → PO} {f88 : Int → Int → PO} {f90 : PO} {x0 : Int} {x1 : Int} {v : Value} {O : List (List Bl)} (h : x = .t58 x0 x1) (e : Sum31.onP x a f47 f49 f51 f52 f54 f56 f58 f60 f86 f88 f90 v O) : f58 x0 x1 v O := by subst h; exact e
theorem Sum31.onP_t60  {x : Sum31} {a : PO} {f47 : Int → (BitVec 128) → PO} {f49 : Int → Int → Int → PO} {f51 : Int → Int → PO} {f52 : Int → Int → PO} {f54 : Int → Int → PO} {f56 : Int → Int → Int → PO} {f58 : Int → Int → PO} {f60 : Int → PO} {f86 : Int → Int → PO} {f88 : Int → Int → PO} {f90 : PO} {x0 : Int} {v : Value} {O : List (List Bl)} (h : x = .t60 x0) (e : Sum31.onP x a f47 f49 f51 f52 f54 f56 f58 f60 f86 f88 f90 v O) : f60 x0 v O := by subst h; exact e
theorem Sum31.onP_t86  {x : Sum31} {a : PO} {f47 : Int → (BitVec 128) → PO} {f49 : Int → Int → Int → PO} {f51 : Int → Int → PO} {f52 : Int → Int → PO} {f54 : Int → Int → PO} {f56 : Int → Int → Int → PO} {f58 : Int → Int → PO} {f60 : Int → PO} {f86 : Int → Int → PO} {f88 : Int → Int → PO} {f90 : PO} {x0 : Int} {x1 : Int} {v : Value} {O : List (List Bl)} (h : x = .t86 x0 x1) (e : Sum31.onP x a f47 f49 f51 f52 f54 f56 f58 f60 f86 f88 f90 v O) : f86 x0 x1 v O := by subst h; exact e
theorem Sum31.onP_t88  {x : Sum31} {a : PO} {f47 : Int → (BitVec 128) → PO} {f49 : Int → Int → Int → PO} {f51 : Int → Int → PO} {f52 : Int → Int → PO} {f54 : Int → Int → PO} {f56 : Int → Int → Int → PO} {f58 : Int → Int → PO} {f60 : Int → PO} {f86 : Int → Int → PO} {f88 : Int → Int → PO} {f90 : PO} {x0 : Int} {x1 : Int} {v : Value} {O : List (List Bl)} (h : x = .t88 x0 x1) (e : Sum31.onP x a f47 f49 f51 f52 f54 f56 f58 f60 f86 f88 f90 v O) : f88 x0 x1 v O := by subst h; exact e
theorem Sum31.onP_t90  {x : Sum31} {a : PO} {f47 : Int → (BitVec 128) → PO} {f49 : Int → Int → Int → PO} {f51 : Int → Int → PO} {f52 : Int → Int → PO} {f54 : Int → Int → PO} {f56 : Int → Int → Int → PO} {f58 : Int → Int → PO} {f60 : Int → PO} {f86 : Int → Int → PO} {f88 : Int → Int → PO} {f90 : PO} {v : Value} {O : List (List Bl)} (h : x = .t90 ) (e : Sum31.onP x a f47 f49 f51 f52 f54 f56 f58 f60 f86 f88 f90 v O) : f90  v O := by subst h; exact e
theorem Sum31.niceP  {x : Sum31} {a : PO} {f47 : Int → (BitVec 128) → PO} {f49 : Int → Int → Int → PO} {f51 : Int → Int → PO} {f52 : Int → Int → PO} {f54 : Int → Int → PO} {f56 : Int → Int → Int → PO} {f58 : Int → Int → PO} {f60 : Int → PO} {f86 : Int → Int → PO} {f88 : Int → Int → PO} {f90 : PO} {R : List Bl} (h : NiceO a R) (h47 : ∀ x0 x1, NiceO (f47 x0 x1) R) (h49 : ∀ x0 x1 x2, NiceO (f49 x0 x1 x2) R) (h51 : ∀ x0 x1, NiceO (f51 x0 x1) R) (h52 : ∀ x0 x1, NiceO (f52 x0 x1) R) (h54 : ∀ x0 x1, NiceO (f54 x0 x1) R) (h56 : ∀ x0 x1 x2, NiceO (f56 x0 x1 x2) R) (h58 : ∀ x0 x1, NiceO (f58 x0 x1) R) (h60 : ∀ x0, NiceO (f60 x0) R) (h86 : ∀ x0 x1, NiceO (f86 x0 x1) R) (h88 : ∀ x0 x1, NiceO (f88 x0 x1) R) (h90 : NiceO (f90 ) R) : NiceO (Sum31.onP x a f47 f49 f51 f52 f54 f56 f58 f60 f86 f88 f90) R := by cases x with | nil => exact h | t47 => exact h47 _ _ | t49 => exact h49 _ _ _ | t51 => exact h51 _ _ | t52 => exact h52 _ _ | t54 => exact h54 _ _ | t56 => exact h56 _ _ _ | t58 => exact h58 _ _ | t60 => exact h60 _ | t86 => exact h86 _ _ | t88 => exact h88 _ _ | t90 => exact h90 
theorem Sum31.cases (x : Sum31) : x = .nil ∨ (∃ x0 x1, x = .t47 x0 x1) ∨ (∃ x0 x1 x2, x = .t49 x0 x1 x2) ∨ (∃ x0 x1, x = .t51 x0 x1) ∨ (∃ x0 x1, x = .t52 x0 x1) ∨ (∃ x0 x1, x = .t54 x0 x1) ∨ (∃ x0 x1 x2, x = .t56 x0 x1 x2) ∨ (∃ x0 x1, x = .t58 x0 x1) ∨ (∃ x0, x = .t60 x0) ∨ (∃ x0 x1, x = .t86 x0 x1) ∨ (∃ x0 x1, x = .t88 x0 x1) ∨ (x = .t90 ) := by cases x <;> simp
def Sum31.v : Sum31 → Value
  | .nil => Value.nilIface
  | .t47 x0 x1 => Value.iface 47 (vA #[vI x0, U (hi x1), U (lo x1)])
  | .t49 x0 x1 x2 => Value.iface 49 (vA #[vI x0, vI x1, vI x2])
  | .t51 x0 x1 => Value.iface 51 (vA #[vI x0, vI x1])
  | .t52 x0 x1 => Value.iface 52 (vA #[vI x0, vI x1])
  | .t54 x0 x1 => Value.iface 54 (vA #[vI x0, vI x1])
  | .t56 x0 x1 x2 => Value.iface 56 (vA #[vI x0, vI x1, vI x2])
  | .t58 x0 x1 => Value.iface 58 (vA #[vI x0, vI x1])
  | .t60 x0 => Value.iface 60 (vA #[vI x0])
  | .t86 x0 x1 => Value.iface 86 (vA #[vI x0, vI x1])
  | .t88 x0 x1 => Value.iface 88 (vA #[vI x0, vI x1])
  | .t90  => Value.iface 90 (vA #[])
theorem Sum31.cells (x : Sum31) : (Sum31.v x).cells = #[Sum31.v x] := by cases x <;> rfl
theorem Sum31.one (x : Sum31) : (Sum31.v x).oneCell' = true := by cases x <;> rfl
def encSum31 : Enc Sum31 := ⟨fun x => [Sum31.v x], 1, Nat.one_pos, fun _ => rfl, fun x v h => by rw [List.mem_singleton] at h; rw [h]; exact Sum31.one x, True⟩
def code_step_k12 (x_0 : Int) (x_1 : Int) (x_2 : Int) (x11_ : Bool) : Option Sum31 := if x11_ = true then some (Sum31.t88 x_0 x_1) else if x_0 = 33 then some (Sum31.t58 x_1 x_2) else if x_0 = 34 then some Sum31.t90 else some (Sum31.t60 x_0)
def code_step_k10 (x_0 : Int) (x_1 : Int) (x_2 : Int) (x9_ : Bool) : Option Sum31 := if x9_ = true then some (Sum31.t56 x_0 x_1 x_2) else if x_0 = 31 then code_step_k12 x_0 x_1 x_2 (x_0 == 31) else code_step_k12 x_0 x_1 x_2 (x_0 == 32)
def code_step_k8 (x_0 : Int) (x_1 : Int) (x_2 : Int) (x7_ : Bool) : Option Sum31 := if x7_ = true then some (Sum31.t52 x_0 x_1) else if x_0 = 10 then some (Sum31.t54 x_1 x_2) else if x_0 = 27 then code_step_k10 x_0 x_1 x_2 (x_0 == 27) else code_step_k10 x_0 x_1 x_2 (x_0 == 28)
def code_step_k6 (x_0 : Int) (x_1 : Int) (x_2 : Int) (x5_ : Bool) : Option Sum31 := if x5_ = true then some (Sum31.t86 x_0 x_1) else if x_0 = 6 then code_step_k8 x_0 x_1 x_2 (x_0 == 6) else if x_0 = 7 then code_step_k8 x_0 x_1 x_2 (x_0 == 7) else if x_0 = 8 then code_step_k8 x_0 x_1 x_2 (x_0 == 8) else if x_0 = 9 then code_step_k8 x_0 x_1 x_2 (x_0 == 9) else code_step_k8 x_0 x_1 x_2 (x_0 == 11)
def code_step_k4 (x_0 : Int) (x_1 : Int) (x_2 : Int) (x3_ : Bool) : Option Sum31 := if x3_ = true then some (Sum31.t51 x_0 x_1) else if x_0 = 4 then code_step_k6 x_0 x_1 x_2 (x_0 == 4) else if x_0 = 25 then code_step_k6 x_0 x_1 x_2 (x_0 == 25) else code_step_k6 x_0 x_1 x_2 (x_0 == 26)
def code_step_k2 (x_0 : Int) (x_1 : Int) (x_2 : Int) (x1_ : Bool) : Option Sum31 := if x1_ = true then some (Sum31.t49 x_0 x_1 x_2) else if x_0 = 2 then code_step_k4 x_0 x_1 x_2 (x_0 == 2) else if x_0 = 23 then code_step_k4 x_0 x_1 x_2 (x_0 == 23) else if x_0 = 3 then code_step_k4 x_0 x_1 x_2 (x_0 == 3) else if x_0 = 5 then code_step_k4 x_0 x_1 x_2 (x_0 == 5) else if x_0 = 24 then code_step_k4 x_0 x_1 x_2 (x_0 == 24) else if x_0 = 29 then code_step_k4 x_0 x_1 x_2 (x_0 == 29) else code_step_k4 x_0 x_1 x_2 (x_0 == 30)
def code_step_m (_ : Nat) (x_0 : Int) (x_1 : Int) (x_2 : Int) (x_3 : Int) (x_4 : BitVec 128) : Option Sum31 := if x_0 = 0 then some (Sum31.t47 x_3 x_4) else if x_0 = 1 then code_step_k2 x_0 x_1 x_2 (x_0 == 1) else code_step_k2 x_0 x_1 x_2 (x_0 == 22)
set_option maxRecDepth 100000 in
set_option maxHeartbeats 8000000 in
theorem code_step_g (N : Nat) (x_0 x_1 x_2 x_3 : Int) (x_4 : BitVec 128) (r) (hM : code_step_m N x_0 x_1 x_2 x_3 x_4 = some r) : Gives Tryd.prog 24 #[vA #[vI x_0, vI x_1, vI x_2, vI x_3, U (hi x_4), U (lo x_4)]] (Sum31.v r) := by
 unfold code_step_m at hM
 refine gives_of_A follows Tryd.func24 rfl 102 rfl (upd (fun _ => undef) 0 (vA #[vI x_0, vI x_1, vI x_2, vI x_3, U (hi x_4), U (lo x_4)])) (by funext k; match k with | 0 => rfl | k + 1 => rfl) (fun base0_ => ?_)
 refine A_sr <| r_a (27, #[vI x_0, vI x_1, vI x_2, vI x_3, U (hi x_4), U (lo x_4)]) rfl rfl rfl (fun b2 => ?_) (.inr rfl)
 refine r_V Value.nilIface rfl <| lx_nil <| A_seq fun K3 hK3 => A_sr <| r_V (vP b2 0) rfl <| r_l (vI x_0) 0 _ _ _ _ rfl rfl rfl rfl rfl <| lx_nil <| A_block <| A_sr <| r_R [vB (x_0 == 0), vB (x_0 == 0)] rfl <| lx_nil <| A_cond (x_0 == 0) rfl (fun hc6 => ?_) (fun hc6 => ?_)
 ·replace hM := ifp (eq_of_beq hc6) hM
  refine A_sr <| r_V (vP b2 3) rfl <| r_l (vA #[vI x_3, U (hi x_4), U (lo x_4)]) 0 _ _ _ _ rfl rfl rfl rfl rfl <| r_W (vA #[vI x_3, U (hi x_4), U (lo x_4)]) rfl (ev_buildS rfl rfl rfl rfl) <| r_R [Value.iface 47 (vA #[vI x_3, U (hi x_4), U (lo x_4)]), Value.iface 47 (vA #[vI x_3, U (hi x_4), U (lo x_4)])] rfl <| lx_nil ?_
  obtain rfl := Option.some.inj hM
  refine A_ret (fun hn => ends_eq (v0 := Value.iface 47 (vA #[vI x_3, U (hi x_4), U (lo x_4)])) rfl (res1 rfl))
 replace hM := ifn (ne_of_beq_false hc6) hM
 refine A_cut (fun tt ll => ∃ (x1_ : Bool), (code_step_k2 x_0 x_1 x_2 x1_ = some r) ∧ Is [(1, vP b2 0), (4, vI x_0), (11, vB x1_)] (kBa27_0 b2 x_0 x_1 x_2 x_3 (hi x_4) (lo x_4)) tt ll) ?_ ?_
 ·refine A_sr <| r_R [vB (x_0 == 1), vB (x_0 == 1)] rfl <| lx_nil <| A_cond (x_0 == 1) rfl (fun hc59 => ?_) (fun hc59 => ?_)
  ·replace hM := ifp (eq_of_beq hc59) hM
   refine A_skip <| fg _ (Sub.of (List.Sublist.cons_cons _ List.Sublist.slnil)) ?_
   exact ⟨(x_0 == 1), hM, is_mk rfl rfl⟩
  replace hM := ifn (ne_of_beq_false hc59) hM
  refine A_reg <| r_R [vB (x_0 == 22), vB (x_0 == 22)] rfl <| lx_nil <| fg _ (Sub.of (List.Sublist.cons_cons _ List.Sublist.slnil)) ?_
  exact ⟨(x_0 == 22), hM, is_mk rfl rfl⟩
 clear hM; rintro t l ⟨x1_, hM, ⟨T, rfl⟩, rfl⟩
 unfold code_step_k2 at hM
 refine A_cond x1_ rfl (fun hc8 => ?_) (fun hc8 => ?_)
 ·replace hM := ifp hc8 hM
  refine A_sr <| r_V (vP b2 0) rfl <| r_l (vI x_0) 0 _ _ _ _ rfl rfl rfl rfl rfl <| r_V (vP b2 1) rfl <| r_l (vI x_1) 0 _ _ _ _ rfl rfl rfl rfl rfl <| r_V (vP b2 2) rfl <| r_l (vI x_2) 0 _ _ _ _ rfl rfl rfl rfl rfl <| r_W (vA #[vI x_0, vI x_1, vI x_2]) rfl (ev_buildS rfl rfl rfl rfl) <| r_R [Value.iface 49 (vA #[vI x_0, vI x_1, vI x_2]), Value.iface 49 (vA #[vI x_0, vI x_1, vI x_2])] rfl <| lx_nil ?_
  obtain rfl := Option.some.inj hM
  refine A_ret (fun hn => ends_eq (v0 := Value.iface 49 (vA #[vI x_0, vI x_1, vI x_2])) rfl (res1 rfl))
 replace hM := ifn (Bool.eq_false_iff.1 hc8) hM
 refine A_cut (fun tt ll => ∃ (x3_ : Bool), (code_step_k4 x_0 x_1 x_2 x3_ = some r) ∧ Is [(1, vP b2 0), (4, vI x_0), (22, vB x3_)] (kBa27_0 b2 x_0 x_1 x_2 x_3 (hi x_4) (lo x_4)) tt ll) ?_ ?_
 ·refine A_sr <| r_R [vB (x_0 == 2), vB (x_0 == 2)] rfl <| lx_nil <| A_cond (x_0 == 2) rfl (fun hc47 => ?_) (fun hc47 => ?_)
  ·replace hM := ifp (eq_of_beq hc47) hM
   refine A_skip <| fg _ (Sub.of (List.Sublist.cons_cons _ List.Sublist.slnil)) ?_
   exact ⟨(x_0 == 2), hM, is_mk rfl rfl⟩
  replace hM := ifn (ne_of_beq_false hc47) hM
  refine A_sr <| r_R [vB (x_0 == 23), vB (x_0 == 23)] rfl <| lx_nil <| A_cond (x_0 == 23) rfl (fun hc49 => ?_) (fun hc49 => ?_)
  ·replace hM := ifp (eq_of_beq hc49) hM
   refine A_skip <| fg _ (Sub.of (List.Sublist.cons_cons _ List.Sublist.slnil)) ?_
   exact ⟨(x_0 == 23), hM, is_mk rfl rfl⟩
  replace hM := ifn (ne_of_beq_false hc49) hM
  refine A_sr <| r_R [vB (x_0 == 3), vB (x_0 == 3)] rfl <| lx_nil <| A_cond (x_0 == 3) rfl (fun hc51 => ?_) (fun hc51 => ?_)
  ·replace hM := ifp (eq_of_beq hc51) hM
   refine A_skip <| fg _ (Sub.of (List.Sublist.cons_cons _ List.Sublist.slnil)) ?_
   exact ⟨(x_0 == 3), hM, is_mk rfl rfl⟩
  replace hM := ifn (ne_of_beq_false hc51) hM
  refine A_sr <| r_R [vB (x_0 == 5), vB (x_0 == 5)] rfl <| lx_nil <| A_cond (x_0 == 5) rfl (fun hc53 => ?_) (fun hc53 => ?_)
  ·replace hM := ifp (eq_of_beq hc53) hM
   refine A_skip <| fg _ (Sub.of (List.Sublist.cons_cons _ List.Sublist.slnil)) ?_
   exact ⟨(x_0 == 5), hM, is_mk rfl rfl⟩
  replace hM := ifn (ne_of_beq_false hc53) hM
  refine A_sr <| r_R [vB (x_0 == 24), vB (x_0 == 24)] rfl <| lx_nil <| A_cond (x_0 == 24) rfl (fun hc55 => ?_) (fun hc55 => ?_)
  ·replace hM := ifp (eq_of_beq hc55) hM
   refine A_skip <| fg _ (Sub.of (List.Sublist.cons_cons _ List.Sublist.slnil)) ?_
   exact ⟨(x_0 == 24), hM, is_mk rfl rfl⟩
  replace hM := ifn (ne_of_beq_false hc55) hM
  refine A_sr <| r_R [vB (x_0 == 29), vB (x_0 == 29)] rfl <| lx_nil <| A_cond (x_0 == 29) rfl (fun hc57 => ?_) (fun hc57 => ?_)
  ·replace hM := ifp (eq_of_beq hc57) hM
   refine A_skip <| fg _ (Sub.of (List.Sublist.cons_cons _ List.Sublist.slnil)) ?_
   exact ⟨(x_0 == 29), hM, is_mk rfl rfl⟩
  replace hM := ifn (ne_of_beq_false hc57) hM
  refine A_reg <| r_R [vB (x_0 == 30), vB (x_0 == 30)] rfl <| lx_nil <| fg _ (Sub.of (List.Sublist.cons_cons _ List.Sublist.slnil)) ?_
  exact ⟨(x_0 == 30), hM, is_mk rfl rfl⟩
 clear hM; rintro t l ⟨x3_, hM, ⟨T, rfl⟩, rfl⟩
 unfold code_step_k4 at hM
 refine A_cond x3_ rfl (fun hc10 => ?_) (fun hc10 => ?_)
 ·replace hM := ifp hc10 hM
  refine A_sr <| r_V (vP b2 0) rfl <| r_l (vI x_0) 0 _ _ _ _ rfl rfl rfl rfl rfl <| r_V (vP b2 1) rfl <| r_l (vI x_1) 0 _ _ _ _ rfl rfl rfl rfl rfl <| r_W (vA #[vI x_0, vI x_1]) rfl (ev_buildS rfl rfl rfl rfl) <| r_R [Value.iface 51 (vA #[vI x_0, vI x_1]), Value.iface 51 (vA #[vI x_0, vI x_1])] rfl <| lx_nil ?_
  obtain rfl := Option.some.inj hM
  refine A_ret (fun hn => ends_eq (v0 := Value.iface 51 (vA #[vI x_0, vI x_1])) rfl (res1 rfl))
 replace hM := ifn (Bool.eq_false_iff.1 hc10) hM
 refine A_cut (fun tt ll => ∃ (x5_ : Bool), (code_step_k6 x_0 x_1 x_2 x5_ = some r) ∧ Is [(1, vP b2 0), (4, vI x_0), (36, vB x5_)] (kBa27_0 b2 x_0 x_1 x_2 x_3 (hi x_4) (lo x_4)) tt ll) ?_ ?_
 ·refine A_sr <| r_R [vB (x_0 == 4), vB (x_0 == 4)] rfl <| lx_nil <| A_cond (x_0 == 4) rfl (fun hc43 => ?_) (fun hc43 => ?_)
  ·replace hM := ifp (eq_of_beq hc43) hM
   refine A_skip <| fg _ (Sub.of (List.Sublist.cons_cons _ List.Sublist.slnil)) ?_
   exact ⟨(x_0 == 4), hM, is_mk rfl rfl⟩
  replace hM := ifn (ne_of_beq_false hc43) hM
  refine A_sr <| r_R [vB (x_0 == 25), vB (x_0 == 25)] rfl <| lx_nil <| A_cond (x_0 == 25) rfl (fun hc45 => ?_) (fun hc45 => ?_)
  ·replace hM := ifp (eq_of_beq hc45) hM
   refine A_skip <| fg _ (Sub.of (List.Sublist.cons_cons _ List.Sublist.slnil)) ?_
   exact ⟨(x_0 == 25), hM, is_mk rfl rfl⟩
  replace hM := ifn (ne_of_beq_false hc45) hM
  refine A_reg <| r_R [vB (x_0 == 26), vB (x_0 == 26)] rfl <| lx_nil <| fg _ (Sub.of (List.Sublist.cons_cons _ List.Sublist.slnil)) ?_
  exact ⟨(x_0 == 26), hM, is_mk rfl rfl⟩
 clear hM; rintro t l ⟨x5_, hM, ⟨T, rfl⟩, rfl⟩
 unfold code_step_k6 at hM
 refine A_cond x5_ rfl (fun hc12 => ?_) (fun hc12 => ?_)
 ·replace hM := ifp hc12 hM
  refine A_sr <| r_V (vP b2 0) rfl <| r_l (vI x_0) 0 _ _ _ _ rfl rfl rfl rfl rfl <| r_V (vP b2 1) rfl <| r_l (vI x_1) 0 _ _ _ _ rfl rfl rfl rfl rfl <| r_W (vA #[vI x_0, vI x_1]) rfl (ev_buildS rfl rfl rfl rfl) <| r_R [Value.iface 86 (vA #[vI x_0, vI x_1]), Value.iface 86 (vA #[vI x_0, vI x_1])] rfl <| lx_nil ?_
  obtain rfl := Option.some.inj hM
  refine A_ret (fun hn => ends_eq (v0 := Value.iface 86 (vA #[vI x_0, vI x_1])) rfl (res1 rfl))
 replace hM := ifn (Bool.eq_false_iff.1 hc12) hM
 refine A_cut (fun tt ll => ∃ (x7_ : Bool), (code_step_k8 x_0 x_1 x_2 x7_ = some r) ∧ Is [(1, vP b2 0), (4, vI x_0), (46, vB x7_)] (kBa27_0 b2 x_0 x_1 x_2 x_3 (hi x_4) (lo x_4)) tt ll) ?_ ?_
 ·refine A_sr <| r_R [vB (x_0 == 6), vB (x_0 == 6)] rfl <| lx_nil <| A_cond (x_0 == 6) rfl (fun hc35 => ?_) (fun hc35 => ?_)
  ·replace hM := ifp (eq_of_beq hc35) hM
   refine A_skip <| fg _ (Sub.of (List.Sublist.cons_cons _ List.Sublist.slnil)) ?_
   exact ⟨(x_0 == 6), hM, is_mk rfl rfl⟩
  replace hM := ifn (ne_of_beq_false hc35) hM
  refine A_sr <| r_R [vB (x_0 == 7), vB (x_0 == 7)] rfl <| lx_nil <| A_cond (x_0 == 7) rfl (fun hc37 => ?_) (fun hc37 => ?_)
  ·replace hM := ifp (eq_of_beq hc37) hM
   refine A_skip <| fg _ (Sub.of (List.Sublist.cons_cons _ List.Sublist.slnil)) ?_
   exact ⟨(x_0 == 7), hM, is_mk rfl rfl⟩
  replace hM := ifn (ne_of_beq_false hc37) hM
  refine A_sr <| r_R [vB (x_0 == 8), vB (x_0 == 8)] rfl <| lx_nil <| A_cond (x_0 == 8) rfl (fun hc39 => ?_) (fun hc39 => ?_)
  ·replace hM := ifp (eq_of_beq hc39) hM
   refine A_skip <| fg _ (Sub.of (List.Sublist.cons_cons _ List.Sublist.slnil)) ?_
   exact ⟨(x_0 == 8), hM, is_mk rfl rfl⟩
  replace hM := ifn (ne_of_beq_false hc39) hM
  refine A_sr <| r_R [vB (x_0 == 9), vB (x_0 == 9)] rfl <| lx_nil <| A_cond (x_0 == 9) rfl (fun hc41 => ?_) (fun hc41 => ?_)
  ·replace hM := ifp (eq_of_beq hc41) hM
   refine A_skip <| fg _ (Sub.of (List.Sublist.cons_cons _ List.Sublist.slnil)) ?_
   exact ⟨(x_0 == 9), hM, is_mk rfl rfl⟩
  replace hM := ifn (ne_of_beq_false hc41) hM
  refine A_reg <| r_R [vB (x_0 == 11), vB (x_0 == 11)] rfl <| lx_nil <| fg _ (Sub.of (List.Sublist.cons_cons _ List.Sublist.slnil)) ?_
  exact ⟨(x_0 == 11), hM, is_mk rfl rfl⟩
 clear hM; rintro t l ⟨x7_, hM, ⟨T, rfl⟩, rfl⟩
 unfold code_step_k8 at hM
 refine A_cond x7_ rfl (fun hc14 => ?_) (fun hc14 => ?_)
 ·replace hM := ifp hc14 hM
  refine A_sr <| r_V (vP b2 0) rfl <| r_l (vI x_0) 0 _ _ _ _ rfl rfl rfl rfl rfl <| r_V (vP b2 1) rfl <| r_l (vI x_1) 0 _ _ _ _ rfl rfl rfl rfl rfl <| r_W (vA #[vI x_0, vI x_1]) rfl (ev_buildS rfl rfl rfl rfl) <| r_R [Value.iface 52 (vA #[vI x_0, vI x_1]), Value.iface 52 (vA #[vI x_0, vI x_1])] rfl <| lx_nil ?_
  obtain rfl := Option.some.inj hM
  refine A_ret (fun hn => ends_eq (v0 := Value.iface 52 (vA #[vI x_0, vI x_1])) rfl (res1 rfl))
 replace hM := ifn (Bool.eq_false_iff.1 hc14) hM
 refine A_sr <| r_R [vB (x_0 == 10), vB (x_0 == 10)] rfl <| lx_nil <| A_cond (x_0 == 10) rfl (fun hc17 => ?_) (fun hc17 => ?_)
 ·replace hM := ifp (eq_of_beq hc17) hM
  refine A_sr <| r_V (vP b2 1) rfl <| r_l (vI x_1) 0 _ _ _ _ rfl rfl rfl rfl rfl <| r_V (vP b2 2) rfl <| r_l (vI x_2) 0 _ _ _ _ rfl rfl rfl rfl rfl <| r_W (vA #[vI x_1, vI x_2]) rfl (ev_buildS rfl rfl rfl rfl) <| r_R [Value.iface 54 (vA #[vI x_1, vI x_2]), Value.iface 54 (vA #[vI x_1, vI x_2])] rfl <| lx_nil ?_
  obtain rfl := Option.some.inj hM
  refine A_ret (fun hn => ends_eq (v0 := Value.iface 54 (vA #[vI x_1, vI x_2])) rfl (res1 rfl))
 replace hM := ifn (ne_of_beq_false hc17) hM
 refine A_cut (fun tt ll => ∃ (x9_ : Bool), (code_step_k10 x_0 x_1 x_2 x9_ = some r) ∧ Is [(1, vP b2 0), (4, vI x_0), (66, vB x9_)] (kBa27_0 b2 x_0 x_1 x_2 x_3 (hi x_4) (lo x_4)) tt ll) ?_ ?_
 ·refine A_sr <| r_R [vB (x_0 == 27), vB (x_0 == 27)] rfl <| lx_nil <| A_cond (x_0 == 27) rfl (fun hc33 => ?_) (fun hc33 => ?_)
  ·replace hM := ifp (eq_of_beq hc33) hM
   refine A_skip <| fg _ (Sub.of (List.Sublist.cons_cons _ List.Sublist.slnil)) ?_
   exact ⟨(x_0 == 27), hM, is_mk rfl rfl⟩
  replace hM := ifn (ne_of_beq_false hc33) hM
  refine A_reg <| r_R [vB (x_0 == 28), vB (x_0 == 28)] rfl <| lx_nil <| fg _ (Sub.of (List.Sublist.cons_cons _ List.Sublist.slnil)) ?_
  exact ⟨(x_0 == 28), hM, is_mk rfl rfl⟩
 clear hM; rintro t l ⟨x9_, hM, ⟨T, rfl⟩, rfl⟩
 unfold code_step_k10 at hM
 refine A_cond x9_ rfl (fun hc19 => ?_) (fun hc19 => ?_)
 ·replace hM := ifp hc19 hM
  refine A_sr <| r_V (vP b2 0) rfl <| r_l (vI x_0) 0 _ _ _ _ rfl rfl rfl rfl rfl <| r_V (vP b2 1) rfl <| r_l (vI x_1) 0 _ _ _ _ rfl rfl rfl rfl rfl <| r_V (vP b2 2) rfl <| r_l (vI x_2) 0 _ _ _ _ rfl rfl rfl rfl rfl <| r_W (vA #[vI x_0, vI x_1, vI x_2]) rfl (ev_buildS rfl rfl rfl rfl) <| r_R [Value.iface 56 (vA #[vI x_0, vI x_1, vI x_2]), Value.iface 56 (vA #[vI x_0, vI x_1, vI x_2])] rfl <| lx_nil ?_
  obtain rfl := Option.some.inj hM
  refine A_ret (fun hn => ends_eq (v0 := Value.iface 56 (vA #[vI x_0, vI x_1, vI x_2])) rfl (res1 rfl))
 replace hM := ifn (Bool.eq_false_iff.1 hc19) hM
 refine A_cut (fun tt ll => ∃ (x11_ : Bool), (code_step_k12 x_0 x_1 x_2 x11_ = some r) ∧ Is [(1, vP b2 0), (4, vI x_0), (77, vB x11_)] (kBa27_0 b2 x_0 x_1 x_2 x_3 (hi x_4) (lo x_4)) tt ll) ?_ ?_
 ·refine A_sr <| r_R [vB (x_0 == 31), vB (x_0 == 31)] rfl <| lx_nil <| A_cond (x_0 == 31) rfl (fun hc31 => ?_) (fun hc31 => ?_)
  ·replace hM := ifp (eq_of_beq hc31) hM
   refine A_skip <| fg _ (Sub.of (List.Sublist.cons_cons _ List.Sublist.slnil)) ?_
   exact ⟨(x_0 == 31), hM, is_mk rfl rfl⟩
  replace hM := ifn (ne_of_beq_false hc31) hM
  refine A_reg <| r_R [vB (x_0 == 32), vB (x_0 == 32)] rfl <| lx_nil <| fg _ (Sub.of (List.Sublist.cons_cons _ List.Sublist.slnil)) ?_
  exact ⟨(x_0 == 32), hM, is_mk rfl rfl⟩
 clear hM; rintro t l ⟨x11_, hM, ⟨T, rfl⟩, rfl⟩
 unfold code_step_k12 at hM
 refine A_cond x11_ rfl (fun hc21 => ?_) (fun hc21 => ?_)
 ·replace hM := ifp hc21 hM
  refine A_sr <| r_V (vP b2 0) rfl <| r_l (vI x_0) 0 _ _ _ _ rfl rfl rfl rfl rfl <| r_V (vP b2 1) rfl <| r_l (vI x_1) 0 _ _ _ _ rfl rfl rfl rfl rfl <| r_W (vA #[vI x_0, vI x_1]) rfl (ev_buildS rfl rfl rfl rfl) <| r_R [Value.iface 88 (vA #[vI x_0, vI x_1]), Value.iface 88 (vA #[vI x_0, vI x_1])] rfl <| lx_nil ?_
  obtain rfl := Option.some.inj hM
  refine A_ret (fun hn => ends_eq (v0 := Value.iface 88 (vA #[vI x_0, vI x_1])) rfl (res1 rfl))
 replace hM := ifn (Bool.eq_false_iff.1 hc21) hM
 refine A_sr <| r_R [vB (x_0 == 33), vB (x_0 == 33)] rfl <| lx_nil <| A_cond (x_0 == 33) rfl (fun hc24 => ?_) (fun hc24 => ?_)
 ·replace hM := ifp (eq_of_beq hc24) hM
  refine A_sr <| r_V (vP b2 1) rfl <| r_l (vI x_1) 0 _ _ _ _ rfl rfl rfl rfl rfl <| r_V (vP b2 2) rfl <| r_l (vI x_2) 0 _ _ _ _ rfl rfl rfl rfl rfl <| r_W (vA #[vI x_1, vI x_2]) rfl (ev_buildS rfl rfl rfl rfl) <| r_R [Value.iface 58 (vA #[vI x_1, vI x_2]), Value.iface 58 (vA #[vI x_1, vI x_2])] rfl <| lx_nil ?_
  obtain rfl := Option.some.inj hM
  refine A_ret (fun hn => ends_eq (v0 := Value.iface 58 (vA #[vI x_1, vI x_2])) rfl (res1 rfl))
 replace hM := ifn (ne_of_beq_false hc24) hM
 refine A_sr <| r_R [vB (x_0 == 34), vB (x_0 == 34)] rfl <| lx_nil <| A_cond (x_0 == 34) rfl (fun hc27 => ?_) (fun hc27 => ?_)
 ·replace hM := ifp (eq_of_beq hc27) hM
  refine A_sr <| r_W (vA #[]) rfl (ev_buildS rfl rfl rfl rfl) <| r_R [Value.iface 90 (vA #[]), Value.iface 90 (vA #[])] rfl <| lx_nil ?_
  obtain rfl := Option.some.inj hM
  refine A_ret (fun hn => ends_eq (v0 := Value.iface 90 (vA #[])) rfl (res1 rfl))
 replace hM := ifn (ne_of_beq_false hc27) hM
 refine A_skip <| hK3 _ _ ?_; try clear hK3 K3
 refine A_sr <| r_V (vP b2 0) rfl <| r_l (vI x_0) 0 _ _ _ _ rfl rfl rfl rfl rfl <| r_W (vA #[vI x_0]) rfl (ev_buildS rfl rfl rfl rfl) <| r_R [Value.iface 60 (vA #[vI x_0]), Value.iface 60 (vA #[vI x_0])] rfl <| lx_nil ?_
 obtain rfl := Option.some.inj hM
 refine A_ret (fun hn => ends_eq (v0 := Value.iface 60 (vA #[vI x_0])) rfl (res1 rfl))
def code_Make_m (N : Nat) (x_0 : Int) (x_1 : Int) (x_2 : Int) (x_3 : Int) (x_4 : BitVec 128) : Option (Sum31 × Int) := (code_May_m N x_0 x_1 x_2 x_3 x_4).bind fun r5 => if (r5 : Int) ≠ 0 then some (Sum31.nil, r5) else (code_step_m N x_0 x_1 x_2 x_3 x_4).bind fun r11 => some (r11, 0)
set_option maxRecDepth 100000 in
set_option maxHeartbeats 8000000 in
theorem code_Make_g (N : Nat) (x_0 x_1 x_2 x_3 : Int) (x_4 : BitVec 128) (r) (hM : code_Make_m N x_0 x_1 x_2 x_3 x_4 = some r) : Gives Tryd.prog 9 #[vA #[vI x_0, vI x_1, vI x_2, vI x_3, U (hi x_4), U (lo x_4)]] (vT #[Sum31.v r.1, vI r.2]) := by
 unfold code_Make_m at hM
 refine gives_of_A follows Tryd.func9 rfl 12 rfl (upd (fun _ => undef) 0 (vA #[vI x_0, vI x_1, vI x_2, vI x_3, U (hi x_4), U (lo x_4)])) (by funext k; match k with | 0 => rfl | k + 1 => rfl) (fun base0_ => ?_)
 refine A_sr <| r_a (27, #[vI x_0, vI x_1, vI x_2, vI x_3, U (hi x_4), U (lo x_4)]) rfl rfl rfl (fun b2 => ?_) (.inr rfl)
 refine r_R [Value.nilIface, vI 0] rfl <| lx_nil <| A_seq fun K3 hK3 => A_sr <| r_l (vA #[vI x_0, vI x_1, vI x_2, vI x_3, U (hi x_4), U (lo x_4)]) 0 _ _ _ _ rfl rfl rfl rfl rfl ?_
 obtain ⟨r5, hr6, hM⟩ := bind_sm hM
 refine r_c (vI r5) rfl _ _ (ev_callF rfl call_10 rfl) (code_May_g N x_0 x_1 x_2 x_3 x_4 _ hr6) <| r_V (vI r5) rfl <| lx_nil <| A_sr <| r_R [vI r5, vB (r5 != 0)] rfl <| lx_nil <| A_cond (r5 != 0) rfl (fun hc8 => ?_) (fun hc8 => ?_)
 ·replace hM := ifp (bne_iff_ne.1 hc8) hM
  refine A_sr <| r_R [vI r5, Value.nilIface, vI r5] rfl <| lx_nil ?_
  obtain rfl := Option.some.inj hM
  refine A_ret (fun hn => ends_eq (v0 := vT #[Value.nilIface, vI r5]) rfl (res2 rfl rfl))
 replace hM := ifn (bne_f hc8) hM
 refine A_skip <| hK3 _ _ ?_; try clear hK3 K3
 refine A_sr <| r_l (vA #[vI x_0, vI x_1, vI x_2, vI x_3, U (hi x_4), U (lo x_4)]) 0 _ _ _ _ rfl rfl rfl rfl rfl ?_
 obtain ⟨r11, hr12, hM⟩ := bind_sm hM
 refine r_c (Sum31.v r11) rfl _ _ (ev_callF rfl call_24 rfl) (code_step_g N x_0 x_1 x_2 x_3 x_4 _ hr12) <| r_R [Sum31.v r11, vI 0] rfl <| lx_nil ?_
 obtain rfl := Option.some.inj hM
 refine A_ret (fun hn => ends_eq (v0 := vT #[Sum31.v r11, vI 0]) rfl (res2 rfl rfl))
def code_Effect_k8 (o : Int) (x7_ : Bool) : Option (Int × Int) := if x7_ = true then some (1, 0) else if o = 24 then some (2, 0) else some (0, 0)
def code_Effect_k6 (o : Int) (x5_ : Bool) : Option (Int × Int) := if x5_ = true then some (2, 1) else if o = 22 then code_Effect_k8 o (o == 22) else if o = 23 then code_Effect_k8 o (o == 23) else if o = 29 then code_Effect_k8 o (o == 29) else code_Effect_k8 o (o == 32)
def code_Effect_k4 (o : Int) (x3_ : Bool) : Option (Int × Int) := if x3_ = true then some (1, 1) else if o = 12 then code_Effect_k6 o (o == 12) else if o = 13 then code_Effect_k6 o (o == 13) else if o = 14 then code_Effect_k6 o (o == 14) else if o = 15 then code_Effect_k6 o (o == 15) else if o = 16 then code_Effect_k6 o (o == 16) else if o = 17 then code_Effect_k6 o (o == 17) else if o = 18 then code_Effect_k6 o (o == 18) else if o = 19 then code_Effect_k6 o (o == 19) else if o = 20 then code_Effect_k6 o (o == 20) else code_Effect_k6 o (o == 21)
def code_Effect_k2 (o : Int) (x1_ : Bool) : Option (Int × Int) := if x1_ = true then some (0, 1) else if o = 5 then code_Effect_k4 o (o == 5) else if o = 6 then code_Effect_k4 o (o == 6) else if o = 7 then code_Effect_k4 o (o == 7) else if o = 8 then code_Effect_k4 o (o == 8) else if o = 9 then code_Effect_k4 o (o == 9) else if o = 10 then code_Effect_k4 o (o == 10) else if o = 11 then code_Effect_k4 o (o == 11) else code_Effect_k4 o (o == 30)
def code_Effect_m (_ : Nat) (o : Int) : Option (Int × Int) := if o = 0 then code_Effect_k2 o (o == 0) else if o = 1 then code_Effect_k2 o (o == 1) else if o = 2 then code_Effect_k2 o (o == 2) else if o = 3 then code_Effect_k2 o (o == 3) else code_Effect_k2 o (o == 4)
set_option maxRecDepth 100000 in
set_option maxHeartbeats 8000000 in
theorem code_Effect_g (N : Nat) (o : Int) (r) (hM : code_Effect_m N o = some r) : Gives Tryd.prog 17 #[vI o] (vT #[vI r.1, vI r.2]) := by
 unfold code_Effect_m at hM
 refine gives_of_A follows Tryd.func17 rfl 38 rfl (upd (fun _ => undef) 0 (vI o)) (by funext k; match k with | 0 => rfl | k + 1 => rfl) (fun base0_ => ?_)
 refine A_sr <| r_R [vI 0, vI 0] rfl <| lx_nil <| A_seq fun K2 hK2 => A_sr <| r_V (vI o) rfl <| lx_nil <| A_block <| A_cut (fun tt ll => ∃ (x1_ : Bool), (code_Effect_k2 o x1_ = some r) ∧ Is [(4, vI o), (5, vB x1_)] [] tt ll) ?_ ?_
 ·refine A_sr <| r_R [vB (o == 0), vB (o == 0)] rfl <| lx_nil <| A_cond (o == 0) rfl (fun hc55 => ?_) (fun hc55 => ?_)
  ·replace hM := ifp (eq_of_beq hc55) hM
   refine A_skip <| fg _ (Sub.of List.Sublist.slnil) ?_
   exact ⟨(o == 0), hM, is_mk rfl rfl⟩
  replace hM := ifn (ne_of_beq_false hc55) hM
  refine A_sr <| r_R [vB (o == 1), vB (o == 1)] rfl <| lx_nil <| A_cond (o == 1) rfl (fun hc57 => ?_) (fun hc57 => ?_)
  ·replace hM := ifp (eq_of_beq hc57) hM
   refine A_skip <| fg _ (Sub.of List.Sublist.slnil) ?_
   exact ⟨(o == 1), hM, is_mk rfl rfl⟩
  replace hM := ifn (ne_of_beq_false hc57) hM
  refine A_sr <| r_R [vB (o == 2), vB (o == 2)] rfl <| lx_nil <| A_cond (o == 2) rfl (fun hc59 => ?_) (fun hc59 => ?_)
  ·replace hM := ifp (eq_of_beq hc59) hM
   refine A_skip <| fg _ (Sub.of List.Sublist.slnil) ?_
   exact ⟨(o == 2), hM, is_mk rfl rfl⟩
  replace hM := ifn (ne_of_beq_false hc59) hM
  refine A_sr <| r_R [vB (o == 3), vB (o == 3)] rfl <| lx_nil <| A_cond (o == 3) rfl (fun hc61 => ?_) (fun hc61 => ?_)
  ·replace hM := ifp (eq_of_beq hc61) hM
   refine A_skip <| fg _ (Sub.of List.Sublist.slnil) ?_
   exact ⟨(o == 3), hM, is_mk rfl rfl⟩
  replace hM := ifn (ne_of_beq_false hc61) hM
  refine A_reg <| r_R [vB (o == 4), vB (o == 4)] rfl <| lx_nil <| fg _ (Sub.of List.Sublist.slnil) ?_
  exact ⟨(o == 4), hM, is_mk rfl rfl⟩
 clear hM; rintro t l ⟨x1_, hM, ⟨T, rfl⟩, rfl⟩
 unfold code_Effect_k2 at hM
 refine A_cond x1_ rfl (fun hc4 => ?_) (fun hc4 => ?_)
 ·replace hM := ifp hc4 hM
  refine A_sr <| r_R [vI 0, vI 1] rfl <| lx_nil ?_
  obtain rfl := Option.some.inj hM
  refine A_ret (fun hn => ends_eq (v0 := vT #[vI 0, vI 1]) rfl (res2 rfl rfl))
 replace hM := ifn (Bool.eq_false_iff.1 hc4) hM
 refine A_cut (fun tt ll => ∃ (x3_ : Bool), (code_Effect_k4 o x3_ = some r) ∧ Is [(4, vI o), (11, vB x3_)] [] tt ll) ?_ ?_
 ·refine A_sr <| r_R [vB (o == 5), vB (o == 5)] rfl <| lx_nil <| A_cond (o == 5) rfl (fun hc41 => ?_) (fun hc41 => ?_)
  ·replace hM := ifp (eq_of_beq hc41) hM
   refine A_skip <| fg _ (Sub.of List.Sublist.slnil) ?_
   exact ⟨(o == 5), hM, is_mk rfl rfl⟩
  replace hM := ifn (ne_of_beq_false hc41) hM
  refine A_sr <| r_R [vB (o == 6), vB (o == 6)] rfl <| lx_nil <| A_cond (o == 6) rfl (fun hc43 => ?_) (fun hc43 => ?_)
  ·replace hM := ifp (eq_of_beq hc43) hM
   refine A_skip <| fg _ (Sub.of List.Sublist.slnil) ?_
   exact ⟨(o == 6), hM, is_mk rfl rfl⟩
  replace hM := ifn (ne_of_beq_false hc43) hM
  refine A_sr <| r_R [vB (o == 7), vB (o == 7)] rfl <| lx_nil <| A_cond (o == 7) rfl (fun hc45 => ?_) (fun hc45 => ?_)
  ·replace hM := ifp (eq_of_beq hc45) hM
   refine A_skip <| fg _ (Sub.of List.Sublist.slnil) ?_
   exact ⟨(o == 7), hM, is_mk rfl rfl⟩
  replace hM := ifn (ne_of_beq_false hc45) hM
  refine A_sr <| r_R [vB (o == 8), vB (o == 8)] rfl <| lx_nil <| A_cond (o == 8) rfl (fun hc47 => ?_) (fun hc47 => ?_)
  ·replace hM := ifp (eq_of_beq hc47) hM
   refine A_skip <| fg _ (Sub.of List.Sublist.slnil) ?_
   exact ⟨(o == 8), hM, is_mk rfl rfl⟩
  replace hM := ifn (ne_of_beq_false hc47) hM
  refine A_sr <| r_R [vB (o == 9), vB (o == 9)] rfl <| lx_nil <| A_cond (o == 9) rfl (fun hc49 => ?_) (fun hc49 => ?_)
  ·replace hM := ifp (eq_of_beq hc49) hM
   refine A_skip <| fg _ (Sub.of List.Sublist.slnil) ?_
   exact ⟨(o == 9), hM, is_mk rfl rfl⟩
  replace hM := ifn (ne_of_beq_false hc49) hM
  refine A_sr <| r_R [vB (o == 10), vB (o == 10)] rfl <| lx_nil <| A_cond (o == 10) rfl (fun hc51 => ?_) (fun hc51 => ?_)
  ·replace hM := ifp (eq_of_beq hc51) hM
   refine A_skip <| fg _ (Sub.of List.Sublist.slnil) ?_
   exact ⟨(o == 10), hM, is_mk rfl rfl⟩
  replace hM := ifn (ne_of_beq_false hc51) hM
  refine A_sr <| r_R [vB (o == 11), vB (o == 11)] rfl <| lx_nil <| A_cond (o == 11) rfl (fun hc53 => ?_) (fun hc53 => ?_)
  ·replace hM := ifp (eq_of_beq hc53) hM
   refine A_skip <| fg _ (Sub.of List.Sublist.slnil) ?_
   exact ⟨(o == 11), hM, is_mk rfl rfl⟩
  replace hM := ifn (ne_of_beq_false hc53) hM
  refine A_reg <| r_R [vB (o == 30), vB (o == 30)] rfl <| lx_nil <| fg _ (Sub.of List.Sublist.slnil) ?_
  exact ⟨(o == 30), hM, is_mk rfl rfl⟩
 clear hM; rintro t l ⟨x3_, hM, ⟨T, rfl⟩, rfl⟩
 unfold code_Effect_k4 at hM
 refine A_cond x3_ rfl (fun hc6 => ?_) (fun hc6 => ?_)
 ·replace hM := ifp hc6 hM
  refine A_sr <| r_R [vI 1, vI 1] rfl <| lx_nil ?_
  obtain rfl := Option.some.inj hM
  refine A_ret (fun hn => ends_eq (v0 := vT #[vI 1, vI 1]) rfl (res2 rfl rfl))
 replace hM := ifn (Bool.eq_false_iff.1 hc6) hM
 refine A_cut (fun tt ll => ∃ (x5_ : Bool), (code_Effect_k6 o x5_ = some r) ∧ Is [(4, vI o), (20, vB x5_)] [] tt ll) ?_ ?_
 ·refine A_sr <| r_R [vB (o == 12), vB (o == 12)] rfl <| lx_nil <| A_cond (o == 12) rfl (fun hc23 => ?_) (fun hc23 => ?_)
  ·replace hM := ifp (eq_of_beq hc23) hM
   refine A_skip <| fg _ (Sub.of List.Sublist.slnil) ?_
   exact ⟨(o == 12), hM, is_mk rfl rfl⟩
  replace hM := ifn (ne_of_beq_false hc23) hM
  refine A_sr <| r_R [vB (o == 13), vB (o == 13)] rfl <| lx_nil <| A_cond (o == 13) rfl (fun hc25 => ?_) (fun hc25 => ?_)
  ·replace hM := ifp (eq_of_beq hc25) hM
   refine A_skip <| fg _ (Sub.of List.Sublist.slnil) ?_
   exact ⟨(o == 13), hM, is_mk rfl rfl⟩
  replace hM := ifn (ne_of_beq_false hc25) hM
  refine A_sr <| r_R [vB (o == 14), vB (o == 14)] rfl <| lx_nil <| A_cond (o == 14) rfl (fun hc27 => ?_) (fun hc27 => ?_)
  ·replace hM := ifp (eq_of_beq hc27) hM
   refine A_skip <| fg _ (Sub.of List.Sublist.slnil) ?_
   exact ⟨(o == 14), hM, is_mk rfl rfl⟩
  replace hM := ifn (ne_of_beq_false hc27) hM
  refine A_sr <| r_R [vB (o == 15), vB (o == 15)] rfl <| lx_nil <| A_cond (o == 15) rfl (fun hc29 => ?_) (fun hc29 => ?_)
  ·replace hM := ifp (eq_of_beq hc29) hM
   refine A_skip <| fg _ (Sub.of List.Sublist.slnil) ?_
   exact ⟨(o == 15), hM, is_mk rfl rfl⟩
  replace hM := ifn (ne_of_beq_false hc29) hM
  refine A_sr <| r_R [vB (o == 16), vB (o == 16)] rfl <| lx_nil <| A_cond (o == 16) rfl (fun hc31 => ?_) (fun hc31 => ?_)
  ·replace hM := ifp (eq_of_beq hc31) hM
   refine A_skip <| fg _ (Sub.of List.Sublist.slnil) ?_
   exact ⟨(o == 16), hM, is_mk rfl rfl⟩
  replace hM := ifn (ne_of_beq_false hc31) hM
  refine A_sr <| r_R [vB (o == 17), vB (o == 17)] rfl <| lx_nil <| A_cond (o == 17) rfl (fun hc33 => ?_) (fun hc33 => ?_)
  ·replace hM := ifp (eq_of_beq hc33) hM
   refine A_skip <| fg _ (Sub.of List.Sublist.slnil) ?_
   exact ⟨(o == 17), hM, is_mk rfl rfl⟩
  replace hM := ifn (ne_of_beq_false hc33) hM
  refine A_sr <| r_R [vB (o == 18), vB (o == 18)] rfl <| lx_nil <| A_cond (o == 18) rfl (fun hc35 => ?_) (fun hc35 => ?_)
  ·replace hM := ifp (eq_of_beq hc35) hM
   refine A_skip <| fg _ (Sub.of List.Sublist.slnil) ?_
   exact ⟨(o == 18), hM, is_mk rfl rfl⟩
  replace hM := ifn (ne_of_beq_false hc35) hM
  refine A_sr <| r_R [vB (o == 19), vB (o == 19)] rfl <| lx_nil <| A_cond (o == 19) rfl (fun hc37 => ?_) (fun hc37 => ?_)
  ·replace hM := ifp (eq_of_beq hc37) hM
   refine A_skip <| fg _ (Sub.of List.Sublist.slnil) ?_
   exact ⟨(o == 19), hM, is_mk rfl rfl⟩
  replace hM := ifn (ne_of_beq_false hc37) hM
  refine A_sr <| r_R [vB (o == 20), vB (o == 20)] rfl <| lx_nil <| A_cond (o == 20) rfl (fun hc39 => ?_) (fun hc39 => ?_)
  ·replace hM := ifp (eq_of_beq hc39) hM
   refine A_skip <| fg _ (Sub.of List.Sublist.slnil) ?_
   exact ⟨(o == 20), hM, is_mk rfl rfl⟩
  replace hM := ifn (ne_of_beq_false hc39) hM
  refine A_reg <| r_R [vB (o == 21), vB (o == 21)] rfl <| lx_nil <| fg _ (Sub.of List.Sublist.slnil) ?_
  exact ⟨(o == 21), hM, is_mk rfl rfl⟩
 clear hM; rintro t l ⟨x5_, hM, ⟨T, rfl⟩, rfl⟩
 unfold code_Effect_k6 at hM
 refine A_cond x5_ rfl (fun hc8 => ?_) (fun hc8 => ?_)
 ·replace hM := ifp hc8 hM
  refine A_sr <| r_R [vI 2, vI 1] rfl <| lx_nil ?_
  obtain rfl := Option.some.inj hM
  refine A_ret (fun hn => ends_eq (v0 := vT #[vI 2, vI 1]) rfl (res2 rfl rfl))
 replace hM := ifn (Bool.eq_false_iff.1 hc8) hM
 refine A_cut (fun tt ll => ∃ (x7_ : Bool), (code_Effect_k8 o x7_ = some r) ∧ Is [(4, vI o), (31, vB x7_)] [] tt ll) ?_ ?_
 ·refine A_sr <| r_R [vB (o == 22), vB (o == 22)] rfl <| lx_nil <| A_cond (o == 22) rfl (fun hc17 => ?_) (fun hc17 => ?_)
  ·replace hM := ifp (eq_of_beq hc17) hM
   refine A_skip <| fg _ (Sub.of List.Sublist.slnil) ?_
   exact ⟨(o == 22), hM, is_mk rfl rfl⟩
  replace hM := ifn (ne_of_beq_false hc17) hM
  refine A_sr <| r_R [vB (o == 23), vB (o == 23)] rfl <| lx_nil <| A_cond (o == 23) rfl (fun hc19 => ?_) (fun hc19 => ?_)
  ·replace hM := ifp (eq_of_beq hc19) hM
   refine A_skip <| fg _ (Sub.of List.Sublist.slnil) ?_
   exact ⟨(o == 23), hM, is_mk rfl rfl⟩
  replace hM := ifn (ne_of_beq_false hc19) hM
  refine A_sr <| r_R [vB (o == 29), vB (o == 29)] rfl <| lx_nil <| A_cond (o == 29) rfl (fun hc21 => ?_) (fun hc21 => ?_)
  ·replace hM := ifp (eq_of_beq hc21) hM
   refine A_skip <| fg _ (Sub.of List.Sublist.slnil) ?_
   exact ⟨(o == 29), hM, is_mk rfl rfl⟩
  replace hM := ifn (ne_of_beq_false hc21) hM
  refine A_reg <| r_R [vB (o == 32), vB (o == 32)] rfl <| lx_nil <| fg _ (Sub.of List.Sublist.slnil) ?_
  exact ⟨(o == 32), hM, is_mk rfl rfl⟩
 clear hM; rintro t l ⟨x7_, hM, ⟨T, rfl⟩, rfl⟩
 unfold code_Effect_k8 at hM
 refine A_cond x7_ rfl (fun hc10 => ?_) (fun hc10 => ?_)
 ·replace hM := ifp hc10 hM
  refine A_sr <| r_R [vI 1, vI 0] rfl <| lx_nil ?_
  obtain rfl := Option.some.inj hM
  refine A_ret (fun hn => ends_eq (v0 := vT #[vI 1, vI 0]) rfl (res2 rfl rfl))
 replace hM := ifn (Bool.eq_false_iff.1 hc10) hM
 refine A_sr <| r_R [vB (o == 24), vB (o == 24)] rfl <| lx_nil <| A_cond (o == 24) rfl (fun hc13 => ?_) (fun hc13 => ?_)
 ·replace hM := ifp (eq_of_beq hc13) hM
  refine A_sr <| r_R [vI 2, vI 0] rfl <| lx_nil ?_
  obtain rfl := Option.some.inj hM
  refine A_ret (fun hn => ends_eq (v0 := vT #[vI 2, vI 0]) rfl (res2 rfl rfl))
 replace hM := ifn (ne_of_beq_false hc13) hM
 refine A_skip <| hK2 _ _ ?_; try clear hK2 K2
 refine A_sr <| r_R [vI 0, vI 0] rfl <| lx_nil ?_
 obtain rfl := Option.some.inj hM
 refine A_ret (fun hn => ends_eq (v0 := vT #[vI 0, vI 0]) rfl (res2 rfl rfl))
def code_Name_m (N : Nat) (o : Int) : Option (List UInt8) := (code_isOp_m N o).bind fun r4 => if r4 = true then ck (0 ≤ o ∧ o < 35) (some (gtab_code_names[(o).toNat]!)) else some ([])
set_option maxRecDepth 100000 in
set_option maxHeartbeats 8000000 in
theorem code_Name_g (N : Nat) (o : Int) (r) (hM : code_Name_m N o = some r) (ro : Addr → Option Value) : DoesI Tryd.prog 20 #[vI o] MemI ro [] (pV (vS r)) := by
 unfold code_Name_m at hM
 refine doesI_of_A follows Tryd.func20 rfl 9 rfl (upd (fun _ => undef) 0 (vI o)) (by funext k; match k with | 0 => rfl | k + 1 => rfl) memI_kept (fun base0_ => ?_)
 refine A_sr <| r_V (Value.string (⟨#[]⟩)) rfl <| lx_nil <| A_seq fun K2 hK2 => A_sr <| r_V (vI o) rfl ?_
 obtain ⟨r4, hr5, hM⟩ := bind_sm hM
 refine r_c (vB r4) rfl _ _ (ev_callF rfl call_26 rfl) (code_isOp_g N o _ hr5) <| r_V (vB (!(r4))) rfl <| lx_nil <| A_cond (!(r4)) rfl (fun hc6 => ?_) (fun hc6 => ?_)
 ·replace hM := ifn (Bool.eq_false_iff.1 (not_t hc6)) hM
  refine A_sr <| r_V (Value.string (⟨#[]⟩)) rfl <| lx_nil ?_
  obtain rfl := Option.some.inj hM
  refine A_ret (fun hn => endsV (v0 := Value.string (⟨#[]⟩)) rfl (res1 rfl))
 replace hM := ifp (not_f hc6) hM
 refine A_skip <| hK2 _ _ ?_; try clear hK2 K2
 refine A_sc [(some 8, false)] (conG Tryd.prog [(8, fun _ _ v_ L_ U_ => (pV (vS (gtab_code_names[(o).toNat]!))) v_ L_ U_)]) <| r_V (vI o) rfl ?_
 obtain ⟨ck9, hM⟩ := ck_some hM
 have hx10 := fun c => ev_v (ev_idxI (P := Tryd.prog) (c := c) (t := 92) (b := 0) (off := 0) (k := .i64) rfl rfl rfl ck9)
 simp only [Nat.zero_add] at hx10
 have ck9n : (o).toNat < 35 := by omega
 refine r_W (Value.pointer (some ⟨0, (o).toNat, none⟩)) rfl (hx10 _) <| r_gld (vS (gtab_code_names[(o).toNat]!)) rfl rfl rfl rfl rfl (fun _ h_ => gt_code_names h_ _ ck9n) (fun _ _ _ _ _ => Iff.rfl) <| r_V (vS (gtab_code_names[(o).toNat]!)) rfl <| lx_nil ?_
 obtain rfl := Option.some.inj hM
 refine A_ret (fun hn => endsV (v0 := vS (gtab_code_names[(o).toNat]!)) rfl (res1 rfl))
def vec_Text_m (N : Nat) (a_0 : Int) (a_1 : BitVec 128) : Option (List UInt8) := (vec_May_m N a_0 a_1).bind fun r5 => if r5 = true then ck (-9223372036854775808 ≤ (a_0 : Int) ∧ a_0 ≤ 9223372036854775807) (ck (((Lib.itoa a_0).length : Int) + ((([39] : List UInt8)).length : Int) ≤ 9223372036854775807) ((vec_Word_m N a_0 a_1).bind fun r12 => ck ((((Lib.itoa a_0) ++ ([39] : List UInt8)).length : Int) + ((textI 16 r12).length : Int) ≤ 9223372036854775807) (some (((Lib.itoa a_0) ++ ([39] : List UInt8)) ++ (textI 16 r12))))) else some ([])
set_option maxRecDepth 100000 in
set_option maxHeartbeats 8000000 in
theorem vec_Text_g (N : Nat) (a_0 : Int) (a_1 : BitVec 128) (r) (hM : vec_Text_m N a_0 a_1 = some r) (ro : Addr → Option Value) : DoesI Tryd.prog 43 #[vA #[vI a_0, U (hi a_1), U (lo a_1)]] MemI ro [] (pV (vS r)) := by
 unfold vec_Text_m at hM
 refine doesI_of_A follows Tryd.func43 rfl 14 rfl (upd (fun _ => undef) 0 (vA #[vI a_0, U (hi a_1), U (lo a_1)])) (by funext k; match k with | 0 => rfl | k + 1 => rfl) memI_kept (fun base0_ => ?_)
 refine A_sr <| r_a (25, #[vI a_0, U (hi a_1), U (lo a_1)]) rfl rfl rfl (fun b2 => ?_) (.inr rfl)
 refine r_V (Value.string (⟨#[]⟩)) rfl <| lx_nil <| A_seq fun K3 hK3 => A_sr <| r_l (vA #[vI a_0, U (hi a_1), U (lo a_1)]) 0 _ _ _ _ rfl rfl rfl rfl rfl ?_
 obtain ⟨r5, hr6, hM⟩ := bind_sm hM
 refine r_c (vB r5) rfl _ _ (ev_callF rfl call_39 rfl) (vec_May_g N a_0 a_1 _ hr6) <| r_V (vB (!(r5))) rfl <| lx_nil <| A_cond (!(r5)) rfl (fun hc7 => ?_) (fun hc7 => ?_)
 ·replace hM := ifn (Bool.eq_false_iff.1 (not_t hc7)) hM
  refine A_sr <| r_V (Value.string (⟨#[]⟩)) rfl <| lx_nil ?_
  obtain rfl := Option.some.inj hM
  refine A_ret (fun hn => endsV (v0 := Value.string (⟨#[]⟩)) rfl (res1 rfl))
 replace hM := ifp (not_f hc7) hM
 refine A_skip <| hK3 _ _ ?_; try clear hK3 K3
 refine A_seq fun K9 hK9 => A_drawR [(some 8, false)] (conG Tryd.prog [(8, fun _ _ v_ L_ U_ => (pV (vS (Lib.itoa a_0))) v_ L_ U_)]) [] (by decide +kernel) (fun hn => sep_nil) <| r_V (vP b2 0) rfl <| r_l (vI a_0) 0 _ _ _ _ rfl rfl rfl rfl rfl ?_
 obtain ⟨ck10, hM⟩ := ck_some hM
 refine r_gv (vS (Lib.itoa a_0)) 44 _ rfl rfl rfl (ev_callF rfl call_44 rfl) (fun own_ nw_ hs_ => itoa_i a_0 ck10 _) (fun _ _ _ _ _ => Iff.rfl) ?_
 obtain ⟨ck11, hM⟩ := ck_some hM
 refine r_W (vS ((Lib.itoa a_0) ++ ([39] : List UInt8))) rfl (ev_addS ck11 rfl rfl) <| r_l (vA #[vI a_0, U (hi a_1), U (lo a_1)]) 0 _ _ _ _ rfl rfl rfl rfl rfl ?_
 obtain ⟨r12, hr13, hM⟩ := bind_sm hM
 refine r_c (vA #[U (hi r12), U (lo r12)]) rfl _ _ (ev_callF rfl call_48 rfl) (vec_Word_g N a_0 a_1 _ hr13) <| r_c (vS (textI 16 r12)) rfl _ _ (ev_callF rfl call_51 rfl) (text_t r12 16) ?_
 obtain ⟨ck14, hM⟩ := ck_some hM
 refine r_W (vS (((Lib.itoa a_0) ++ ([39] : List UInt8)) ++ (textI 16 r12))) rfl (ev_addS ck14 rfl rfl) <| r_V (vS (((Lib.itoa a_0) ++ ([39] : List UInt8)) ++ (textI 16 r12))) rfl <| lx_nil <| hK9 _ _ ?_; try clear hK9 K9
 obtain rfl := Option.some.inj hM
 refine A_ret (fun hn => endsV (v0 := vS (((Lib.itoa a_0) ++ ([39] : List UInt8)) ++ (textI 16 r12))) rfl (res1 rfl))
def code_words_k2 (x_1 : Int) (x1_ : Bool) : Option (List (List UInt8)) := if x1_ = true then ck (-9223372036854775808 ≤ (x_1 : Int) ∧ x_1 ≤ 9223372036854775807) (some ([Lib.itoa x_1])) else some ([])
def code_words_m (N : Nat) (x_0 : Int) (x_1 : Int) (x_2 : Int) (x_3 : Int) (x_4 : BitVec 128) : Option (List (List UInt8)) := (code_step_m N x_0 x_1 x_2 x_3 x_4).bind fun r5 => Sum31.on r5 (some ([])) (fun _ _ => (vec_Text_m N x_3 x_4).bind fun r31 => some ([r31])) (fun _ _ _ => ck (-9223372036854775808 ≤ (x_1 : Int) ∧ x_1 ≤ 9223372036854775807) (ck (-9223372036854775808 ≤ (x_2 : Int) ∧ x_2 ≤ 9223372036854775807) (some ([Lib.itoa x_1, Lib.itoa x_2])))) (fun _ _ => ck (-9223372036854775808 ≤ (x_1 : Int) ∧ x_1 ≤ 9223372036854775807) (some ([Lib.itoa x_1]))) (fun _ _ => if (x_0 : Int) ≠ 6 then code_words_k2 x_1 (x_0 != 7) else code_words_k2 x_1 false) (fun _ _ => ck (-9223372036854775808 ≤ (x_1 : Int) ∧ x_1 ≤ 9223372036854775807) (ck (-9223372036854775808 ≤ (x_2 : Int) ∧ x_2 ≤ 9223372036854775807) (some ([Lib.itoa x_1, Lib.itoa x_2])))) (fun _ _ _ => ck (-9223372036854775808 ≤ (x_1 : Int) ∧ x_1 ≤ 9223372036854775807) (ck (-9223372036854775808 ≤ (x_2 : Int) ∧ x_2 ≤ 9223372036854775807) (some ([Lib.itoa x_1, Lib.itoa x_2])))) (fun _ _ => ck (-9223372036854775808 ≤ (x_1 : Int) ∧ x_1 ≤ 9223372036854775807) (ck (-9223372036854775808 ≤ (x_2 : Int) ∧ x_2 ≤ 9223372036854775807) (some ([Lib.itoa x_1, Lib.itoa x_2])))) (fun _ => some ([])) (fun _ _ => ck (-9223372036854775808 ≤ (x_1 : Int) ∧ x_1 ≤ 9223372036854775807) (some ([Lib.itoa x_1]))) (fun _ _ => ck (-9223372036854775808 ≤ (x_1 : Int) ∧ x_1 ≤ 9223372036854775807) (some ([Lib.itoa x_1]))) (some ([]))
set_option maxRecDepth 100000 in
set_option maxHeartbeats 8000000 in
theorem code_words_g (N : Nat) (x_0 x_1 x_2 x_3 : Int) (x_4 : BitVec 128) (r) (hM : code_words_m N x_0 x_1 x_2 x_3 x_4 = some r) (ro : Addr → Option Value) : DoesI Tryd.prog 33 #[vA #[vI x_0, vI x_1, vI x_2, vI x_3, U (hi x_4), U (lo x_4)]] MemI ro [] (p1 (fun s_ => s_) 9 encS r) := by
 unfold code_words_m at hM
 refine doesI_of_A follows Tryd.func33 rfl 64 rfl (upd (fun _ => undef) 0 (vA #[vI x_0, vI x_1, vI x_2, vI x_3, U (hi x_4), U (lo x_4)])) (by funext k; match k with | 0 => rfl | k + 1 => rfl) memI_kept (fun base0_ => ?_)
 refine A_sr <| r_a (27, #[vI x_0, vI x_1, vI x_2, vI x_3, U (hi x_4), U (lo x_4)]) rfl rfl rfl (fun b2 => ?_) (.inr rfl)
 refine r_V nS rfl <| lx_nil <| A_seq fun K3 hK3 => A_sr <| r_l (vA #[vI x_0, vI x_1, vI x_2, vI x_3, U (hi x_4), U (lo x_4)]) 0 _ _ _ _ rfl rfl rfl rfl rfl ?_
 obtain ⟨r5, hr6, hM⟩ := bind_sm hM
 refine r_c (Sum31.v r5) rfl _ _ (ev_callF rfl call_24 rfl) (code_step_g N x_0 x_1 x_2 x_3 x_4 _ hr6) <| lx_nil <| A_block <| A_seq fun K7 hK7 => A_reg ?_
 rcases Sum31.cases r5 with hx8 | ⟨x9_0, x10_1, hx8⟩ | ⟨x11_0, x12_1, x13_2, hx8⟩ | ⟨x14_0, x15_1, hx8⟩ | ⟨x16_0, x17_1, hx8⟩ | ⟨x18_0, x19_1, hx8⟩ | ⟨x20_0, x21_1, x22_2, hx8⟩ | ⟨x23_0, x24_1, hx8⟩ | ⟨x25_0, hx8⟩ | ⟨x26_0, x27_1, hx8⟩ | ⟨x28_0, x29_1, hx8⟩ | hx8
 ·replace hM := Sum31.on_nil hx8 hM
  refine r_W (vT #[vA #[vI 0, U (0#64), U (0#64)], vB false]) rfl (ev_taC ((rfl : _ = Sum31.v r5).trans (show Sum31.v r5 = Value.nilIface from by rw [hx8]; rfl)) rfl) ?_
  refine r_R [vB false, vA #[vI 0, U (0#64), U (0#64)]] rfl <| lx_nil <| hK7 _ _ ?_; try clear hK7 K7
  refine A_cond false rfl (fun h_ => nomatch h_) (fun _ => ?_)
  refine A_sr <| r_W (vT #[vA #[vI 0, vI 0, vI 0], vB false]) rfl (ev_taC ((rfl : _ = Sum31.v r5).trans (show Sum31.v r5 = Value.nilIface from by rw [hx8]; rfl)) rfl) ?_
  refine r_R [vB false, vA #[vI 0, vI 0, vI 0]] rfl <| r_W (vT #[vA #[vI 0, vI 0], vB false]) rfl (ev_taC ((rfl : _ = Sum31.v r5).trans (show Sum31.v r5 = Value.nilIface from by rw [hx8]; rfl)) rfl) ?_
  refine r_R [vB false, vA #[vI 0, vI 0]] rfl <| r_W (vT #[vA #[vI 0, vI 0, vI 0], vB false]) rfl (ev_taC ((rfl : _ = Sum31.v r5).trans (show Sum31.v r5 = Value.nilIface from by rw [hx8]; rfl)) rfl) ?_
  refine r_R [vB false, vA #[vI 0, vI 0, vI 0]] rfl <| r_W (vT #[vA #[vI 0, vI 0], vB false]) rfl (ev_taC ((rfl : _ = Sum31.v r5).trans (show Sum31.v r5 = Value.nilIface from by rw [hx8]; rfl)) rfl) ?_
  refine r_R [vB false, vA #[vI 0, vI 0], vB false, vB false, vB false] rfl <| lx_nil <| A_cond false rfl (fun h_ => nomatch h_) (fun _ => ?_)
  refine A_sr <| r_W (vT #[vA #[vI 0, vI 0], vB false]) rfl (ev_taC ((rfl : _ = Sum31.v r5).trans (show Sum31.v r5 = Value.nilIface from by rw [hx8]; rfl)) rfl) ?_
  refine r_R [vB false, vA #[vI 0, vI 0]] rfl <| r_W (vT #[vA #[vI 0, vI 0], vB false]) rfl (ev_taC ((rfl : _ = Sum31.v r5).trans (show Sum31.v r5 = Value.nilIface from by rw [hx8]; rfl)) rfl) ?_
  refine r_R [vB false, vA #[vI 0, vI 0]] rfl <| r_W (vT #[vA #[vI 0, vI 0], vB false]) rfl (ev_taC ((rfl : _ = Sum31.v r5).trans (show Sum31.v r5 = Value.nilIface from by rw [hx8]; rfl)) rfl) ?_
  refine r_R [vB false, vA #[vI 0, vI 0], vB false, vB false] rfl <| lx_nil <| A_gen [(1, vP b2 0), (4, Sum31.v r5), (44, vB false)] rfl (fun T => ?_)
  refine A_cond false rfl (fun h_ => nomatch h_) (fun _ => ?_)
  refine A_sr <| r_W (vT #[vA #[vI 0, vI 0], vB false]) rfl (ev_taC ((rfl : _ = Sum31.v r5).trans (show Sum31.v r5 = Value.nilIface from by rw [hx8]; rfl)) rfl) ?_
  refine r_R [vB false, vA #[vI 0, vI 0]] rfl <| lx_nil <| A_cond false rfl (fun h_ => nomatch h_) (fun _ => ?_)
  refine A_skip <| hK3 _ _ ?_; try clear hK3 K3
  refine A_sr <| r_V nS rfl <| lx_nil ?_
  obtain rfl := Option.some.inj hM
  refine A_ret (fun hn => ends1 (v0 := nS) Sl.nil (Sub.nil _) rfl (res1 rfl))
 ·replace hM := Sum31.on_t47 hx8 hM
  refine r_W (vT #[vA #[vI x9_0, U (hi x10_1), U (lo x10_1)], vB true]) rfl (ev_taC ((rfl : _ = Sum31.v r5).trans (show Sum31.v r5 = Value.iface 47 (vA #[vI x9_0, U (hi x10_1), U (lo x10_1)]) from by rw [hx8]; rfl)) rfl) ?_
  refine r_R [vB true, vA #[vI x9_0, U (hi x10_1), U (lo x10_1)]] rfl <| lx_nil <| hK7 _ _ ?_; try clear hK7 K7
  refine A_cond true rfl (fun _ => ?_) (fun h_ => nomatch h_)
  refine A_sc [(some 10, false), (some 11, false)] (conG Tryd.prog [(10, fun _ _ v_ L_ U_ => ∀ u0_, vec_Text_m N x_3 x_4 = some u0_ → (pV (vS u0_)) v_ L_ U_)]) <| r_V (vP b2 3) rfl <| r_l (vA #[vI x_3, U (hi x_4), U (lo x_4)]) 0 _ _ _ _ rfl rfl rfl rfl rfl ?_
  obtain ⟨r31, hr32, hM⟩ := bind_sm hM
  refine r_gv (vS r31) 43 _ rfl rfl rfl (ev_callF rfl call_43 rfl) (fun own_ nw_ hs_ => vec_Text_g N x_3 x_4 _ hr32 hs_.view ) (conE hr32) <| r_bs (cs0 := [(10, fun _ _ v_ L_ U_ => ∀ u0_, vec_Text_m N x_3 x_4 = some u0_ → (pV (vS u0_)) v_ L_ U_)]) (Ls := [(kBa27_0 b2 x_0 x_1 x_2 x_3 (hi x_4) (lo x_4))]) 9 encS [r31] [vS r31] [Value.string (⟨#[]⟩)] rfl rfl rfl rfl rfl rfl rfl (by kernel_rfl) (by kernel_rfl) rfl rfl rfl (fun s33 S34 H35 => ?_)
  refine r_V s33 rfl <| lx_nil ?_
  obtain rfl := Option.some.inj hM
  refine A_ret (fun hn => ends1 (v0 := s33) H35 (sub_one (Sub.pick [(kBa27_0 b2 x_0 x_1 x_2 x_3 (hi x_4) (lo x_4)), S34] [1] rfl)) rfl (res1 rfl))
 ·replace hM := Sum31.on_t49 hx8 hM
  refine r_W (vT #[vA #[vI 0, U (0#64), U (0#64)], vB false]) rfl (ev_taC ((rfl : _ = Sum31.v r5).trans (show Sum31.v r5 = Value.iface 49 (vA #[vI x11_0, vI x12_1, vI x13_2]) from by rw [hx8]; rfl)) rfl) ?_
  refine r_R [vB false, vA #[vI 0, U (0#64), U (0#64)]] rfl <| lx_nil <| hK7 _ _ ?_; try clear hK7 K7
  refine A_cond false rfl (fun h_ => nomatch h_) (fun _ => ?_)
  refine A_sr <| r_W (vT #[vA #[vI x11_0, vI x12_1, vI x13_2], vB true]) rfl (ev_taC ((rfl : _ = Sum31.v r5).trans (show Sum31.v r5 = Value.iface 49 (vA #[vI x11_0, vI x12_1, vI x13_2]) from by rw [hx8]; rfl)) rfl) ?_
  refine r_R [vB true, vA #[vI x11_0, vI x12_1, vI x13_2]] rfl <| r_W (vT #[vA #[vI 0, vI 0], vB false]) rfl (ev_taC ((rfl : _ = Sum31.v r5).trans (show Sum31.v r5 = Value.iface 49 (vA #[vI x11_0, vI x12_1, vI x13_2]) from by rw [hx8]; rfl)) rfl) ?_
  refine r_R [vB false, vA #[vI 0, vI 0]] rfl <| r_W (vT #[vA #[vI 0, vI 0, vI 0], vB false]) rfl (ev_taC ((rfl : _ = Sum31.v r5).trans (show Sum31.v r5 = Value.iface 49 (vA #[vI x11_0, vI x12_1, vI x13_2]) from by rw [hx8]; rfl)) rfl) ?_
  refine r_R [vB false, vA #[vI 0, vI 0, vI 0]] rfl <| r_W (vT #[vA #[vI 0, vI 0], vB false]) rfl (ev_taC ((rfl : _ = Sum31.v r5).trans (show Sum31.v r5 = Value.iface 49 (vA #[vI x11_0, vI x12_1, vI x13_2]) from by rw [hx8]; rfl)) rfl) ?_
  refine r_R [vB false, vA #[vI 0, vI 0], vB false, vB false, vB true] rfl <| lx_nil <| A_cond true rfl (fun _ => ?_) (fun h_ => nomatch h_)
  refine A_seq fun K31 hK31 => A_drawR [(some 29, false), (some 32, false), (some 33, false)] (conG Tryd.prog [(29, fun _ _ v_ L_ U_ => (pV (vS (Lib.itoa x_1))) v_ L_ U_), (32, fun _ _ v_ L_ U_ => (pV (vS (Lib.itoa x_2))) v_ L_ U_)]) [] (by decide +kernel) (fun hn => sep_nil) <| r_V (vP b2 1) rfl <| r_l (vI x_1) 0 _ _ _ _ rfl rfl rfl rfl rfl ?_
  obtain ⟨ck32, hM⟩ := ck_some hM
  refine r_gv (vS (Lib.itoa x_1)) 44 _ rfl rfl rfl (ev_callF rfl call_44 rfl) (fun own_ nw_ hs_ => itoa_i x_1 ck32 _) (fun _ _ _ _ _ => Iff.rfl) <| r_V (vP b2 2) rfl <| r_l (vI x_2) 0 _ _ _ _ rfl rfl rfl rfl rfl ?_
  obtain ⟨ck33, hM⟩ := ck_some hM
  refine r_gv (vS (Lib.itoa x_2)) 44 _ rfl rfl rfl (ev_callF rfl call_44 rfl) (fun own_ nw_ hs_ => itoa_i x_2 ck33 _) (fun _ _ _ _ _ => Iff.rfl) <| r_bs (cs0 := [(29, fun _ _ v_ L_ U_ => (pV (vS (Lib.itoa x_1))) v_ L_ U_), (32, fun _ _ v_ L_ U_ => (pV (vS (Lib.itoa x_2))) v_ L_ U_)]) (Ls := [(kBa27_0 b2 x_0 x_1 x_2 x_3 (hi x_4) (lo x_4))]) 9 encS [Lib.itoa x_1, Lib.itoa x_2] [vS (Lib.itoa x_1), vS (Lib.itoa x_2)] [Value.string (⟨#[]⟩), Value.string (⟨#[]⟩)] rfl rfl rfl rfl rfl rfl rfl (by kernel_rfl) (by kernel_rfl) rfl rfl rfl (fun s34 S35 H36 => ?_)
  refine r_V s34 rfl <| lx_nil <| hK31 _ _ ?_; try clear hK31 K31
  refine A_gen [(2, s34)] rfl (fun T => ?_)
  obtain rfl := Option.some.inj hM
  refine A_ret (fun hn => ends1 (v0 := s34) H36 (sub_one (Sub.pick [(kBa27_0 b2 x_0 x_1 x_2 x_3 (hi x_4) (lo x_4)), S35] [1] rfl)) rfl (res1 rfl))
 ·replace hM := Sum31.on_t51 hx8 hM
  refine r_W (vT #[vA #[vI 0, U (0#64), U (0#64)], vB false]) rfl (ev_taC ((rfl : _ = Sum31.v r5).trans (show Sum31.v r5 = Value.iface 51 (vA #[vI x14_0, vI x15_1]) from by rw [hx8]; rfl)) rfl) ?_
  refine r_R [vB false, vA #[vI 0, U (0#64), U (0#64)]] rfl <| lx_nil <| hK7 _ _ ?_; try clear hK7 K7
  refine A_cond false rfl (fun h_ => nomatch h_) (fun _ => ?_)
  refine A_sr <| r_W (vT #[vA #[vI 0, vI 0, vI 0], vB false]) rfl (ev_taC ((rfl : _ = Sum31.v r5).trans (show Sum31.v r5 = Value.iface 51 (vA #[vI x14_0, vI x15_1]) from by rw [hx8]; rfl)) rfl) ?_
  refine r_R [vB false, vA #[vI 0, vI 0, vI 0]] rfl <| r_W (vT #[vA #[vI 0, vI 0], vB false]) rfl (ev_taC ((rfl : _ = Sum31.v r5).trans (show Sum31.v r5 = Value.iface 51 (vA #[vI x14_0, vI x15_1]) from by rw [hx8]; rfl)) rfl) ?_
  refine r_R [vB false, vA #[vI 0, vI 0]] rfl <| r_W (vT #[vA #[vI 0, vI 0, vI 0], vB false]) rfl (ev_taC ((rfl : _ = Sum31.v r5).trans (show Sum31.v r5 = Value.iface 51 (vA #[vI x14_0, vI x15_1]) from by rw [hx8]; rfl)) rfl) ?_
  refine r_R [vB false, vA #[vI 0, vI 0, vI 0]] rfl <| r_W (vT #[vA #[vI 0, vI 0], vB false]) rfl (ev_taC ((rfl : _ = Sum31.v r5).trans (show Sum31.v r5 = Value.iface 51 (vA #[vI x14_0, vI x15_1]) from by rw [hx8]; rfl)) rfl) ?_
  refine r_R [vB false, vA #[vI 0, vI 0], vB false, vB false, vB false] rfl <| lx_nil <| A_cond false rfl (fun h_ => nomatch h_) (fun _ => ?_)
  refine A_sr <| r_W (vT #[vA #[vI x14_0, vI x15_1], vB true]) rfl (ev_taC ((rfl : _ = Sum31.v r5).trans (show Sum31.v r5 = Value.iface 51 (vA #[vI x14_0, vI x15_1]) from by rw [hx8]; rfl)) rfl) ?_
  refine r_R [vB true, vA #[vI x14_0, vI x15_1]] rfl <| r_W (vT #[vA #[vI 0, vI 0], vB false]) rfl (ev_taC ((rfl : _ = Sum31.v r5).trans (show Sum31.v r5 = Value.iface 51 (vA #[vI x14_0, vI x15_1]) from by rw [hx8]; rfl)) rfl) ?_
  refine r_R [vB false, vA #[vI 0, vI 0]] rfl <| r_W (vT #[vA #[vI 0, vI 0], vB false]) rfl (ev_taC ((rfl : _ = Sum31.v r5).trans (show Sum31.v r5 = Value.iface 51 (vA #[vI x14_0, vI x15_1]) from by rw [hx8]; rfl)) rfl) ?_
  refine r_R [vB false, vA #[vI 0, vI 0], vB false, vB true] rfl <| lx_nil <| A_gen [(1, vP b2 0), (4, Sum31.v r5), (44, vB true)] rfl (fun T => ?_)
  refine A_cond true rfl (fun _ => ?_) (fun h_ => nomatch h_)
  refine A_sc [(some 47, false), (some 48, false)] (conG Tryd.prog [(47, fun _ _ v_ L_ U_ => (pV (vS (Lib.itoa x_1))) v_ L_ U_)]) <| r_V (vP b2 1) rfl <| r_l (vI x_1) 0 _ _ _ _ rfl rfl rfl rfl rfl ?_
  obtain ⟨ck33, hM⟩ := ck_some hM
  refine r_gv (vS (Lib.itoa x_1)) 44 _ rfl rfl rfl (ev_callF rfl call_44 rfl) (fun own_ nw_ hs_ => itoa_i x_1 ck33 _) (fun _ _ _ _ _ => Iff.rfl) <| r_bs (cs0 := [(47, fun _ _ v_ L_ U_ => (pV (vS (Lib.itoa x_1))) v_ L_ U_)]) (Ls := [(kBa27_0 b2 x_0 x_1 x_2 x_3 (hi x_4) (lo x_4))]) 9 encS [Lib.itoa x_1] [vS (Lib.itoa x_1)] [Value.string (⟨#[]⟩)] rfl rfl rfl rfl rfl rfl rfl (by kernel_rfl) (by kernel_rfl) rfl rfl rfl (fun s34 S35 H36 => ?_)
  refine r_V s34 rfl <| lx_nil ?_
  obtain rfl := Option.some.inj hM
  refine A_ret (fun hn => ends1 (v0 := s34) H36 (sub_one (Sub.pick [(kBa27_0 b2 x_0 x_1 x_2 x_3 (hi x_4) (lo x_4)), S35] [1] rfl)) rfl (res1 rfl))
 ·replace hM := Sum31.on_t52 hx8 hM
  refine r_W (vT #[vA #[vI 0, U (0#64), U (0#64)], vB false]) rfl (ev_taC ((rfl : _ = Sum31.v r5).trans (show Sum31.v r5 = Value.iface 52 (vA #[vI x16_0, vI x17_1]) from by rw [hx8]; rfl)) rfl) ?_
  refine r_R [vB false, vA #[vI 0, U (0#64), U (0#64)]] rfl <| lx_nil <| hK7 _ _ ?_; try clear hK7 K7
  refine A_cond false rfl (fun h_ => nomatch h_) (fun _ => ?_)
  refine A_sr <| r_W (vT #[vA #[vI 0, vI 0, vI 0], vB false]) rfl (ev_taC ((rfl : _ = Sum31.v r5).trans (show Sum31.v r5 = Value.iface 52 (vA #[vI x16_0, vI x17_1]) from by rw [hx8]; rfl)) rfl) ?_
  refine r_R [vB false, vA #[vI 0, vI 0, vI 0]] rfl <| r_W (vT #[vA #[vI 0, vI 0], vB false]) rfl (ev_taC ((rfl : _ = Sum31.v r5).trans (show Sum31.v r5 = Value.iface 52 (vA #[vI x16_0, vI x17_1]) from by rw [hx8]; rfl)) rfl) ?_
  refine r_R [vB false, vA #[vI 0, vI 0]] rfl <| r_W (vT #[vA #[vI 0, vI 0, vI 0], vB false]) rfl (ev_taC ((rfl : _ = Sum31.v r5).trans (show Sum31.v r5 = Value.iface 52 (vA #[vI x16_0, vI x17_1]) from by rw [hx8]; rfl)) rfl) ?_
  refine r_R [vB false, vA #[vI 0, vI 0, vI 0]] rfl <| r_W (vT #[vA #[vI 0, vI 0], vB false]) rfl (ev_taC ((rfl : _ = Sum31.v r5).trans (show Sum31.v r5 = Value.iface 52 (vA #[vI x16_0, vI x17_1]) from by rw [hx8]; rfl)) rfl) ?_
  refine r_R [vB false, vA #[vI 0, vI 0], vB false, vB false, vB false] rfl <| lx_nil <| A_cond false rfl (fun h_ => nomatch h_) (fun _ => ?_)
  refine A_sr <| r_W (vT #[vA #[vI 0, vI 0], vB false]) rfl (ev_taC ((rfl : _ = Sum31.v r5).trans (show Sum31.v r5 = Value.iface 52 (vA #[vI x16_0, vI x17_1]) from by rw [hx8]; rfl)) rfl) ?_
  refine r_R [vB false, vA #[vI 0, vI 0]] rfl <| r_W (vT #[vA #[vI 0, vI 0], vB false]) rfl (ev_taC ((rfl : _ = Sum31.v r5).trans (show Sum31.v r5 = Value.iface 52 (vA #[vI x16_0, vI x17_1]) from by rw [hx8]; rfl)) rfl) ?_
  refine r_R [vB false, vA #[vI 0, vI 0]] rfl <| r_W (vT #[vA #[vI 0, vI 0], vB false]) rfl (ev_taC ((rfl : _ = Sum31.v r5).trans (show Sum31.v r5 = Value.iface 52 (vA #[vI x16_0, vI x17_1]) from by rw [hx8]; rfl)) rfl) ?_
  refine r_R [vB false, vA #[vI 0, vI 0], vB false, vB false] rfl <| lx_nil <| A_gen [(1, vP b2 0), (4, Sum31.v r5), (44, vB false)] rfl (fun T => ?_)
  refine A_cond false rfl (fun h_ => nomatch h_) (fun _ => ?_)
  refine A_sr <| r_W (vT #[vA #[vI x16_0, vI x17_1], vB true]) rfl (ev_taC ((rfl : _ = Sum31.v r5).trans (show Sum31.v r5 = Value.iface 52 (vA #[vI x16_0, vI x17_1]) from by rw [hx8]; rfl)) rfl) ?_
  refine r_R [vB true, vA #[vI x16_0, vI x17_1]] rfl <| lx_nil <| A_cond true rfl (fun _ => ?_) (fun h_ => nomatch h_)
  refine A_cut (fun tt ll => ∃ (x1_ : Bool), (code_words_k2 x_1 x1_ = some r) ∧ Is [(1, vP b2 0), (59, vB x1_)] (kBa27_0 b2 x_0 x_1 x_2 x_3 (hi x_4) (lo x_4)) tt ll) ?_ ?_
  ·refine A_reg <| r_V (vP b2 0) rfl <| r_l (vI x_0) 0 _ _ _ _ rfl rfl rfl rfl rfl <| r_R [vB (x_0 != 6), vB (x_0 != 6)] rfl ?_
   rcases hg40 : (x_0 != 6) with _ | _
   ·replace hM := ifn (bne_f hg40) hM
    refine r_R [none, none, none, vB false] rfl <| lx_nil <| fg _ (Sub.of (List.Sublist.cons_cons _ List.Sublist.slnil)) ?_
    exact ⟨false, hM, is_mk (by first | rfl | (simp only [hg40]; done) | (simp only [hg40]; rfl) | (simp only [app_hl]; rfl)) rfl⟩
   replace hM := ifp (bne_iff_ne.1 hg40) hM
   refine r_R [vP b2 0] rfl <| r_y rfl <| r_l (vI x_0) 0 _ _ _ _ rfl rfl rfl rfl rfl <| r_R [vB (x_0 != 7), vB (x_0 != 7)] rfl <| lx_nil <| fg _ (Sub.of (List.Sublist.cons_cons _ List.Sublist.slnil)) ?_
   exact ⟨(x_0 != 7), hM, is_mk (by first | rfl | (simp only [hg40]; done) | (simp only [hg40]; rfl) | (simp only [app_hl]; rfl)) rfl⟩
  clear hM; rintro t l ⟨x1_, hM, ⟨T, rfl⟩, rfl⟩
  unfold code_words_k2 at hM
  refine A_cond x1_ rfl (fun hc33 => ?_) (fun hc33 => ?_)
  ·replace hM := ifp hc33 hM
   refine A_sc [(some 62, false), (some 63, false)] (conG Tryd.prog [(62, fun _ _ v_ L_ U_ => (pV (vS (Lib.itoa x_1))) v_ L_ U_)]) <| r_V (vP b2 1) rfl <| r_l (vI x_1) 0 _ _ _ _ rfl rfl rfl rfl rfl ?_
   obtain ⟨ck35, hM⟩ := ck_some hM
   refine r_gv (vS (Lib.itoa x_1)) 44 _ rfl rfl rfl (ev_callF rfl call_44 rfl) (fun own_ nw_ hs_ => itoa_i x_1 ck35 _) (fun _ _ _ _ _ => Iff.rfl) <| r_bs (cs0 := [(62, fun _ _ v_ L_ U_ => (pV (vS (Lib.itoa x_1))) v_ L_ U_)]) (Ls := [(kBa27_0 b2 x_0 x_1 x_2 x_3 (hi x_4) (lo x_4))]) 9 encS [Lib.itoa x_1] [vS (Lib.itoa x_1)] [Value.string (⟨#[]⟩)] rfl rfl rfl rfl rfl rfl rfl (by kernel_rfl) (by kernel_rfl) rfl rfl rfl (fun s36 S37 H38 => ?_)
   refine r_V s36 rfl <| lx_nil ?_
   obtain rfl := Option.some.inj hM
   refine A_ret (fun hn => ends1 (v0 := s36) H38 (sub_one (Sub.pick [(kBa27_0 b2 x_0 x_1 x_2 x_3 (hi x_4) (lo x_4)), S37] [1] rfl)) rfl (res1 rfl))
  replace hM := ifn (Bool.eq_false_iff.1 hc33) hM
  refine A_skip <| hK3 _ _ ?_; try clear hK3 K3
  refine A_sr <| r_V nS rfl <| lx_nil ?_
  obtain rfl := Option.some.inj hM
  refine A_ret (fun hn => ends1 (v0 := nS) Sl.nil (Sub.nil _) rfl (res1 rfl))
 ·replace hM := Sum31.on_t54 hx8 hM
  refine r_W (vT #[vA #[vI 0, U (0#64), U (0#64)], vB false]) rfl (ev_taC ((rfl : _ = Sum31.v r5).trans (show Sum31.v r5 = Value.iface 54 (vA #[vI x18_0, vI x19_1]) from by rw [hx8]; rfl)) rfl) ?_
  refine r_R [vB false, vA #[vI 0, U (0#64), U (0#64)]] rfl <| lx_nil <| hK7 _ _ ?_; try clear hK7 K7
  refine A_cond false rfl (fun h_ => nomatch h_) (fun _ => ?_)
  refine A_sr <| r_W (vT #[vA #[vI 0, vI 0, vI 0], vB false]) rfl (ev_taC ((rfl : _ = Sum31.v r5).trans (show Sum31.v r5 = Value.iface 54 (vA #[vI x18_0, vI x19_1]) from by rw [hx8]; rfl)) rfl) ?_
  refine r_R [vB false, vA #[vI 0, vI 0, vI 0]] rfl <| r_W (vT #[vA #[vI x18_0, vI x19_1], vB true]) rfl (ev_taC ((rfl : _ = Sum31.v r5).trans (show Sum31.v r5 = Value.iface 54 (vA #[vI x18_0, vI x19_1]) from by rw [hx8]; rfl)) rfl) ?_
  refine r_R [vB true, vA #[vI x18_0, vI x19_1]] rfl <| r_W (vT #[vA #[vI 0, vI 0, vI 0], vB false]) rfl (ev_taC ((rfl : _ = Sum31.v r5).trans (show Sum31.v r5 = Value.iface 54 (vA #[vI x18_0, vI x19_1]) from by rw [hx8]; rfl)) rfl) ?_
  refine r_R [vB false, vA #[vI 0, vI 0, vI 0]] rfl <| r_W (vT #[vA #[vI 0, vI 0], vB false]) rfl (ev_taC ((rfl : _ = Sum31.v r5).trans (show Sum31.v r5 = Value.iface 54 (vA #[vI x18_0, vI x19_1]) from by rw [hx8]; rfl)) rfl) ?_
  refine r_R [vB false, vA #[vI 0, vI 0], vB false, vB true, vB true] rfl <| lx_nil <| A_cond true rfl (fun _ => ?_) (fun h_ => nomatch h_)
  refine A_seq fun K31 hK31 => A_drawR [(some 29, false), (some 32, false), (some 33, false)] (conG Tryd.prog [(29, fun _ _ v_ L_ U_ => (pV (vS (Lib.itoa x_1))) v_ L_ U_), (32, fun _ _ v_ L_ U_ => (pV (vS (Lib.itoa x_2))) v_ L_ U_)]) [] (by decide +kernel) (fun hn => sep_nil) <| r_V (vP b2 1) rfl <| r_l (vI x_1) 0 _ _ _ _ rfl rfl rfl rfl rfl ?_
  obtain ⟨ck32, hM⟩ := ck_some hM
  refine r_gv (vS (Lib.itoa x_1)) 44 _ rfl rfl rfl (ev_callF rfl call_44 rfl) (fun own_ nw_ hs_ => itoa_i x_1 ck32 _) (fun _ _ _ _ _ => Iff.rfl) <| r_V (vP b2 2) rfl <| r_l (vI x_2) 0 _ _ _ _ rfl rfl rfl rfl rfl ?_
  obtain ⟨ck33, hM⟩ := ck_some hM
  refine r_gv (vS (Lib.itoa x_2)) 44 _ rfl rfl rfl (ev_callF rfl call_44 rfl) (fun own_ nw_ hs_ => itoa_i x_2 ck33 _) (fun _ _ _ _ _ => Iff.rfl) <| r_bs (cs0 := [(29, fun _ _ v_ L_ U_ => (pV (vS (Lib.itoa x_1))) v_ L_ U_), (32, fun _ _ v_ L_ U_ => (pV (vS (Lib.itoa x_2))) v_ L_ U_)]) (Ls := [(kBa27_0 b2 x_0 x_1 x_2 x_3 (hi x_4) (lo x_4))]) 9 encS [Lib.itoa x_1, Lib.itoa x_2] [vS (Lib.itoa x_1), vS (Lib.itoa x_2)] [Value.string (⟨#[]⟩), Value.string (⟨#[]⟩)] rfl rfl rfl rfl rfl rfl rfl (by kernel_rfl) (by kernel_rfl) rfl rfl rfl (fun s34 S35 H36 => ?_)
  refine r_V s34 rfl <| lx_nil <| hK31 _ _ ?_; try clear hK31 K31
  refine A_gen [(2, s34)] rfl (fun T => ?_)
  obtain rfl := Option.some.inj hM
  refine A_ret (fun hn => ends1 (v0 := s34) H36 (sub_one (Sub.pick [(kBa27_0 b2 x_0 x_1 x_2 x_3 (hi x_4) (lo x_4)), S35] [1] rfl)) rfl (res1 rfl))
 ·replace hM := Sum31.on_t56 hx8 hM
  refine r_W (vT #[vA #[vI 0, U (0#64), U (0#64)], vB false]) rfl (ev_taC ((rfl : _ = Sum31.v r5).trans (show Sum31.v r5 = Value.iface 56 (vA #[vI x20_0, vI x21_1, vI x22_2]) from by rw [hx8]; rfl)) rfl) ?_
  refine r_R [vB false, vA #[vI 0, U (0#64), U (0#64)]] rfl <| lx_nil <| hK7 _ _ ?_; try clear hK7 K7
  refine A_cond false rfl (fun h_ => nomatch h_) (fun _ => ?_)
  refine A_sr <| r_W (vT #[vA #[vI 0, vI 0, vI 0], vB false]) rfl (ev_taC ((rfl : _ = Sum31.v r5).trans (show Sum31.v r5 = Value.iface 56 (vA #[vI x20_0, vI x21_1, vI x22_2]) from by rw [hx8]; rfl)) rfl) ?_
  refine r_R [vB false, vA #[vI 0, vI 0, vI 0]] rfl <| r_W (vT #[vA #[vI 0, vI 0], vB false]) rfl (ev_taC ((rfl : _ = Sum31.v r5).trans (show Sum31.v r5 = Value.iface 56 (vA #[vI x20_0, vI x21_1, vI x22_2]) from by rw [hx8]; rfl)) rfl) ?_
  refine r_R [vB false, vA #[vI 0, vI 0]] rfl <| r_W (vT #[vA #[vI x20_0, vI x21_1, vI x22_2], vB true]) rfl (ev_taC ((rfl : _ = Sum31.v r5).trans (show Sum31.v r5 = Value.iface 56 (vA #[vI x20_0, vI x21_1, vI x22_2]) from by rw [hx8]; rfl)) rfl) ?_
  refine r_R [vB true, vA #[vI x20_0, vI x21_1, vI x22_2]] rfl <| r_W (vT #[vA #[vI 0, vI 0], vB false]) rfl (ev_taC ((rfl : _ = Sum31.v r5).trans (show Sum31.v r5 = Value.iface 56 (vA #[vI x20_0, vI x21_1, vI x22_2]) from by rw [hx8]; rfl)) rfl) ?_
  refine r_R [vB false, vA #[vI 0, vI 0], vB true, vB true, vB true] rfl <| lx_nil <| A_cond true rfl (fun _ => ?_) (fun h_ => nomatch h_)
  refine A_seq fun K31 hK31 => A_drawR [(some 29, false), (some 32, false), (some 33, false)] (conG Tryd.prog [(29, fun _ _ v_ L_ U_ => (pV (vS (Lib.itoa x_1))) v_ L_ U_), (32, fun _ _ v_ L_ U_ => (pV (vS (Lib.itoa x_2))) v_ L_ U_)]) [] (by decide +kernel) (fun hn => sep_nil) <| r_V (vP b2 1) rfl <| r_l (vI x_1) 0 _ _ _ _ rfl rfl rfl rfl rfl ?_
  obtain ⟨ck32, hM⟩ := ck_some hM
  refine r_gv (vS (Lib.itoa x_1)) 44 _ rfl rfl rfl (ev_callF rfl call_44 rfl) (fun own_ nw_ hs_ => itoa_i x_1 ck32 _) (fun _ _ _ _ _ => Iff.rfl) <| r_V (vP b2 2) rfl <| r_l (vI x_2) 0 _ _ _ _ rfl rfl rfl rfl rfl ?_
  obtain ⟨ck33, hM⟩ := ck_some hM
  refine r_gv (vS (Lib.itoa x_2)) 44 _ rfl rfl rfl (ev_callF rfl call_44 rfl) (fun own_ nw_ hs_ => itoa_i x_2 ck33 _) (fun _ _ _ _ _ => Iff.rfl) <| r_bs (cs0 := [(29, fun _ _ v_ L_ U_ => (pV (vS (Lib.itoa x_1))) v_ L_ U_), (32, fun _ _ v_ L_ U_ => (pV (vS (Lib.itoa x_2))) v_ L_ U_)]) (Ls := [(kBa27_0 b2 x_0 x_1 x_2 x_3 (hi x_4) (lo x_4))]) 9 encS [Lib.itoa x_1, Lib.itoa x_2] [vS (Lib.itoa x_1), vS (Lib.itoa x_2)] [Value.string (⟨#[]⟩), Value.string (⟨#[]⟩)] rfl rfl rfl rfl rfl rfl rfl (by kernel_rfl) (by kernel_rfl) rfl rfl rfl (fun s34 S35 H36 => ?_)
  refine r_V s34 rfl <| lx_nil <| hK31 _ _ ?_; try clear hK31 K31
  refine A_gen [(2, s34)] rfl (fun T => ?_)
  obtain rfl := Option.some.inj hM
  refine A_ret (fun hn => ends1 (v0 := s34) H36 (sub_one (Sub.pick [(kBa27_0 b2 x_0 x_1 x_2 x_3 (hi x_4) (lo x_4)), S35] [1] rfl)) rfl (res1 rfl))
 ·replace hM := Sum31.on_t58 hx8 hM
  refine r_W (vT #[vA #[vI 0, U (0#64), U (0#64)], vB false]) rfl (ev_taC ((rfl : _ = Sum31.v r5).trans (show Sum31.v r5 = Value.iface 58 (vA #[vI x23_0, vI x24_1]) from by rw [hx8]; rfl)) rfl) ?_
  refine r_R [vB false, vA #[vI 0, U (0#64), U (0#64)]] rfl <| lx_nil <| hK7 _ _ ?_; try clear hK7 K7
  refine A_cond false rfl (fun h_ => nomatch h_) (fun _ => ?_)
  refine A_sr <| r_W (vT #[vA #[vI 0, vI 0, vI 0], vB false]) rfl (ev_taC ((rfl : _ = Sum31.v r5).trans (show Sum31.v r5 = Value.iface 58 (vA #[vI x23_0, vI x24_1]) from by rw [hx8]; rfl)) rfl) ?_
  refine r_R [vB false, vA #[vI 0, vI 0, vI 0]] rfl <| r_W (vT #[vA #[vI 0, vI 0], vB false]) rfl (ev_taC ((rfl : _ = Sum31.v r5).trans (show Sum31.v r5 = Value.iface 58 (vA #[vI x23_0, vI x24_1]) from by rw [hx8]; rfl)) rfl) ?_
  refine r_R [vB false, vA #[vI 0, vI 0]] rfl <| r_W (vT #[vA #[vI 0, vI 0, vI 0], vB false]) rfl (ev_taC ((rfl : _ = Sum31.v r5).trans (show Sum31.v r5 = Value.iface 58 (vA #[vI x23_0, vI x24_1]) from by rw [hx8]; rfl)) rfl) ?_
  refine r_R [vB false, vA #[vI 0, vI 0, vI 0]] rfl <| r_W (vT #[vA #[vI x23_0, vI x24_1], vB true]) rfl (ev_taC ((rfl : _ = Sum31.v r5).trans (show Sum31.v r5 = Value.iface 58 (vA #[vI x23_0, vI x24_1]) from by rw [hx8]; rfl)) rfl) ?_
  refine r_R [vB true, vA #[vI x23_0, vI x24_1], vB true, vB true, vB true] rfl <| lx_nil <| A_cond true rfl (fun _ => ?_) (fun h_ => nomatch h_)
  refine A_seq fun K31 hK31 => A_drawR [(some 29, false), (some 32, false), (some 33, false)] (conG Tryd.prog [(29, fun _ _ v_ L_ U_ => (pV (vS (Lib.itoa x_1))) v_ L_ U_), (32, fun _ _ v_ L_ U_ => (pV (vS (Lib.itoa x_2))) v_ L_ U_)]) [] (by decide +kernel) (fun hn => sep_nil) <| r_V (vP b2 1) rfl <| r_l (vI x_1) 0 _ _ _ _ rfl rfl rfl rfl rfl ?_
  obtain ⟨ck32, hM⟩ := ck_some hM
  refine r_gv (vS (Lib.itoa x_1)) 44 _ rfl rfl rfl (ev_callF rfl call_44 rfl) (fun own_ nw_ hs_ => itoa_i x_1 ck32 _) (fun _ _ _ _ _ => Iff.rfl) <| r_V (vP b2 2) rfl <| r_l (vI x_2) 0 _ _ _ _ rfl rfl rfl rfl rfl ?_
  obtain ⟨ck33, hM⟩ := ck_some hM
  refine r_gv (vS (Lib.itoa x_2)) 44 _ rfl rfl rfl (ev_callF rfl call_44 rfl) (fun own_ nw_ hs_ => itoa_i x_2 ck33 _) (fun _ _ _ _ _ => Iff.rfl) <| r_bs (cs0 := [(29, fun _ _ v_ L_ U_ => (pV (vS (Lib.itoa x_1))) v_ L_ U_), (32, fun _ _ v_ L_ U_ => (pV (vS (Lib.itoa x_2))) v_ L_ U_)]) (Ls := [(kBa27_0 b2 x_0 x_1 x_2 x_3 (hi x_4) (lo x_4))]) 9 encS [Lib.itoa x_1, Lib.itoa x_2] [vS (Lib.itoa x_1), vS (Lib.itoa x_2)] [Value.string (⟨#[]⟩), Value.string (⟨#[]⟩)] rfl rfl rfl rfl rfl rfl rfl (by kernel_rfl) (by kernel_rfl) rfl rfl rfl (fun s34 S35 H36 => ?_)
  refine r_V s34 rfl <| lx_nil <| hK31 _ _ ?_; try clear hK31 K31
  refine A_gen [(2, s34)] rfl (fun T => ?_)
  obtain rfl := Option.some.inj hM
  refine A_ret (fun hn => ends1 (v0 := s34) H36 (sub_one (Sub.pick [(kBa27_0 b2 x_0 x_1 x_2 x_3 (hi x_4) (lo x_4)), S35] [1] rfl)) rfl (res1 rfl))
 ·replace hM := Sum31.on_t60 hx8 hM
  refine r_W (vT #[vA #[vI 0, U (0#64), U (0#64)], vB false]) rfl (ev_taC ((rfl : _ = Sum31.v r5).trans (show Sum31.v r5 = Value.iface 60 (vA #[vI x25_0]) from by rw [hx8]; rfl)) rfl) ?_
  refine r_R [vB false, vA #[vI 0, U (0#64), U (0#64)]] rfl <| lx_nil <| hK7 _ _ ?_; try clear hK7 K7
  refine A_cond false rfl (fun h_ => nomatch h_) (fun _ => ?_)
  refine A_sr <| r_W (vT #[vA #[vI 0, vI 0, vI 0], vB false]) rfl (ev_taC ((rfl : _ = Sum31.v r5).trans (show Sum31.v r5 = Value.iface 60 (vA #[vI x25_0]) from by rw [hx8]; rfl)) rfl) ?_
  refine r_R [vB false, vA #[vI 0, vI 0, vI 0]] rfl <| r_W (vT #[vA #[vI 0, vI 0], vB false]) rfl (ev_taC ((rfl : _ = Sum31.v r5).trans (show Sum31.v r5 = Value.iface 60 (vA #[vI x25_0]) from by rw [hx8]; rfl)) rfl) ?_
  refine r_R [vB false, vA #[vI 0, vI 0]] rfl <| r_W (vT #[vA #[vI 0, vI 0, vI 0], vB false]) rfl (ev_taC ((rfl : _ = Sum31.v r5).trans (show Sum31.v r5 = Value.iface 60 (vA #[vI x25_0]) from by rw [hx8]; rfl)) rfl) ?_
  refine r_R [vB false, vA #[vI 0, vI 0, vI 0]] rfl <| r_W (vT #[vA #[vI 0, vI 0], vB false]) rfl (ev_taC ((rfl : _ = Sum31.v r5).trans (show Sum31.v r5 = Value.iface 60 (vA #[vI x25_0]) from by rw [hx8]; rfl)) rfl) ?_
  refine r_R [vB false, vA #[vI 0, vI 0], vB false, vB false, vB false] rfl <| lx_nil <| A_cond false rfl (fun h_ => nomatch h_) (fun _ => ?_)
  refine A_sr <| r_W (vT #[vA #[vI 0, vI 0], vB false]) rfl (ev_taC ((rfl : _ = Sum31.v r5).trans (show Sum31.v r5 = Value.iface 60 (vA #[vI x25_0]) from by rw [hx8]; rfl)) rfl) ?_
  refine r_R [vB false, vA #[vI 0, vI 0]] rfl <| r_W (vT #[vA #[vI 0, vI 0], vB false]) rfl (ev_taC ((rfl : _ = Sum31.v r5).trans (show Sum31.v r5 = Value.iface 60 (vA #[vI x25_0]) from by rw [hx8]; rfl)) rfl) ?_
  refine r_R [vB false, vA #[vI 0, vI 0]] rfl <| r_W (vT #[vA #[vI 0, vI 0], vB false]) rfl (ev_taC ((rfl : _ = Sum31.v r5).trans (show Sum31.v r5 = Value.iface 60 (vA #[vI x25_0]) from by rw [hx8]; rfl)) rfl) ?_
  refine r_R [vB false, vA #[vI 0, vI 0], vB false, vB false] rfl <| lx_nil <| A_gen [(1, vP b2 0), (4, Sum31.v r5), (44, vB false)] rfl (fun T => ?_)
  refine A_cond false rfl (fun h_ => nomatch h_) (fun _ => ?_)
  refine A_sr <| r_W (vT #[vA #[vI 0, vI 0], vB false]) rfl (ev_taC ((rfl : _ = Sum31.v r5).trans (show Sum31.v r5 = Value.iface 60 (vA #[vI x25_0]) from by rw [hx8]; rfl)) rfl) ?_
  refine r_R [vB false, vA #[vI 0, vI 0]] rfl <| lx_nil <| A_cond false rfl (fun h_ => nomatch h_) (fun _ => ?_)
  refine A_skip <| hK3 _ _ ?_; try clear hK3 K3
  refine A_sr <| r_V nS rfl <| lx_nil ?_
  obtain rfl := Option.some.inj hM
  refine A_ret (fun hn => ends1 (v0 := nS) Sl.nil (Sub.nil _) rfl (res1 rfl))
 ·replace hM := Sum31.on_t86 hx8 hM
  refine r_W (vT #[vA #[vI 0, U (0#64), U (0#64)], vB false]) rfl (ev_taC ((rfl : _ = Sum31.v r5).trans (show Sum31.v r5 = Value.iface 86 (vA #[vI x26_0, vI x27_1]) from by rw [hx8]; rfl)) rfl) ?_
  refine r_R [vB false, vA #[vI 0, U (0#64), U (0#64)]] rfl <| lx_nil <| hK7 _ _ ?_; try clear hK7 K7
  refine A_cond false rfl (fun h_ => nomatch h_) (fun _ => ?_)
  refine A_sr <| r_W (vT #[vA #[vI 0, vI 0, vI 0], vB false]) rfl (ev_taC ((rfl : _ = Sum31.v r5).trans (show Sum31.v r5 = Value.iface 86 (vA #[vI x26_0, vI x27_1]) from by rw [hx8]; rfl)) rfl) ?_
  refine r_R [vB false, vA #[vI 0, vI 0, vI 0]] rfl <| r_W (vT #[vA #[vI 0, vI 0], vB false]) rfl (ev_taC ((rfl : _ = Sum31.v r5).trans (show Sum31.v r5 = Value.iface 86 (vA #[vI x26_0, vI x27_1]) from by rw [hx8]; rfl)) rfl) ?_
  refine r_R [vB false, vA #[vI 0, vI 0]] rfl <| r_W (vT #[vA #[vI 0, vI 0, vI 0], vB false]) rfl (ev_taC ((rfl : _ = Sum31.v r5).trans (show Sum31.v r5 = Value.iface 86 (vA #[vI x26_0, vI x27_1]) from by rw [hx8]; rfl)) rfl) ?_
  refine r_R [vB false, vA #[vI 0, vI 0, vI 0]] rfl <| r_W (vT #[vA #[vI 0, vI 0], vB false]) rfl (ev_taC ((rfl : _ = Sum31.v r5).trans (show Sum31.v r5 = Value.iface 86 (vA #[vI x26_0, vI x27_1]) from by rw [hx8]; rfl)) rfl) ?_
  refine r_R [vB false, vA #[vI 0, vI 0], vB false, vB false, vB false] rfl <| lx_nil <| A_cond false rfl (fun h_ => nomatch h_) (fun _ => ?_)
  refine A_sr <| r_W (vT #[vA #[vI 0, vI 0], vB false]) rfl (ev_taC ((rfl : _ = Sum31.v r5).trans (show Sum31.v r5 = Value.iface 86 (vA #[vI x26_0, vI x27_1]) from by rw [hx8]; rfl)) rfl) ?_
  refine r_R [vB false, vA #[vI 0, vI 0]] rfl <| r_W (vT #[vA #[vI x26_0, vI x27_1], vB true]) rfl (ev_taC ((rfl : _ = Sum31.v r5).trans (show Sum31.v r5 = Value.iface 86 (vA #[vI x26_0, vI x27_1]) from by rw [hx8]; rfl)) rfl) ?_
  refine r_R [vB true, vA #[vI x26_0, vI x27_1]] rfl <| r_W (vT #[vA #[vI 0, vI 0], vB false]) rfl (ev_taC ((rfl : _ = Sum31.v r5).trans (show Sum31.v r5 = Value.iface 86 (vA #[vI x26_0, vI x27_1]) from by rw [hx8]; rfl)) rfl) ?_
  refine r_R [vB false, vA #[vI 0, vI 0], vB true, vB true] rfl <| lx_nil <| A_gen [(1, vP b2 0), (4, Sum31.v r5), (44, vB true)] rfl (fun T => ?_)
  refine A_cond true rfl (fun _ => ?_) (fun h_ => nomatch h_)
  refine A_sc [(some 47, false), (some 48, false)] (conG Tryd.prog [(47, fun _ _ v_ L_ U_ => (pV (vS (Lib.itoa x_1))) v_ L_ U_)]) <| r_V (vP b2 1) rfl <| r_l (vI x_1) 0 _ _ _ _ rfl rfl rfl rfl rfl ?_
  obtain ⟨ck33, hM⟩ := ck_some hM
  refine r_gv (vS (Lib.itoa x_1)) 44 _ rfl rfl rfl (ev_callF rfl call_44 rfl) (fun own_ nw_ hs_ => itoa_i x_1 ck33 _) (fun _ _ _ _ _ => Iff.rfl) <| r_bs (cs0 := [(47, fun _ _ v_ L_ U_ => (pV (vS (Lib.itoa x_1))) v_ L_ U_)]) (Ls := [(kBa27_0 b2 x_0 x_1 x_2 x_3 (hi x_4) (lo x_4))]) 9 encS [Lib.itoa x_1] [vS (Lib.itoa x_1)] [Value.string (⟨#[]⟩)] rfl rfl rfl rfl rfl rfl rfl (by kernel_rfl) (by kernel_rfl) rfl rfl rfl (fun s34 S35 H36 => ?_)
  refine r_V s34 rfl <| lx_nil ?_
  obtain rfl := Option.some.inj hM
  refine A_ret (fun hn => ends1 (v0 := s34) H36 (sub_one (Sub.pick [(kBa27_0 b2 x_0 x_1 x_2 x_3 (hi x_4) (lo x_4)), S35] [1] rfl)) rfl (res1 rfl))
 ·replace hM := Sum31.on_t88 hx8 hM
  refine r_W (vT #[vA #[vI 0, U (0#64), U (0#64)], vB false]) rfl (ev_taC ((rfl : _ = Sum31.v r5).trans (show Sum31.v r5 = Value.iface 88 (vA #[vI x28_0, vI x29_1]) from by rw [hx8]; rfl)) rfl) ?_
  refine r_R [vB false, vA #[vI 0, U (0#64), U (0#64)]] rfl <| lx_nil <| hK7 _ _ ?_; try clear hK7 K7
  refine A_cond false rfl (fun h_ => nomatch h_) (fun _ => ?_)
  refine A_sr <| r_W (vT #[vA #[vI 0, vI 0, vI 0], vB false]) rfl (ev_taC ((rfl : _ = Sum31.v r5).trans (show Sum31.v r5 = Value.iface 88 (vA #[vI x28_0, vI x29_1]) from by rw [hx8]; rfl)) rfl) ?_
  refine r_R [vB false, vA #[vI 0, vI 0, vI 0]] rfl <| r_W (vT #[vA #[vI 0, vI 0], vB false]) rfl (ev_taC ((rfl : _ = Sum31.v r5).trans (show Sum31.v r5 = Value.iface 88 (vA #[vI x28_0, vI x29_1]) from by rw [hx8]; rfl)) rfl) ?_
  refine r_R [vB false, vA #[vI 0, vI 0]] rfl <| r_W (vT #[vA #[vI 0, vI 0, vI 0], vB false]) rfl (ev_taC ((rfl : _ = Sum31.v r5).trans (show Sum31.v r5 = Value.iface 88 (vA #[vI x28_0, vI x29_1]) from by rw [hx8]; rfl)) rfl) ?_
  refine r_R [vB false, vA #[vI 0, vI 0, vI 0]] rfl <| r_W (vT #[vA #[vI 0, vI 0], vB false]) rfl (ev_taC ((rfl : _ = Sum31.v r5).trans (show Sum31.v r5 = Value.iface 88 (vA #[vI x28_0, vI x29_1]) from by rw [hx8]; rfl)) rfl) ?_
  refine r_R [vB false, vA #[vI 0, vI 0], vB false, vB false, vB false] rfl <| lx_nil <| A_cond false rfl (fun h_ => nomatch h_) (fun _ => ?_)
  refine A_sr <| r_W (vT #[vA #[vI 0, vI 0], vB false]) rfl (ev_taC ((rfl : _ = Sum31.v r5).trans (show Sum31.v r5 = Value.iface 88 (vA #[vI x28_0, vI x29_1]) from by rw [hx8]; rfl)) rfl) ?_
  refine r_R [vB false, vA #[vI 0, vI 0]] rfl <| r_W (vT #[vA #[vI 0, vI 0], vB false]) rfl (ev_taC ((rfl : _ = Sum31.v r5).trans (show Sum31.v r5 = Value.iface 88 (vA #[vI x28_0, vI x29_1]) from by rw [hx8]; rfl)) rfl) ?_
  refine r_R [vB false, vA #[vI 0, vI 0]] rfl <| r_W (vT #[vA #[vI x28_0, vI x29_1], vB true]) rfl (ev_taC ((rfl : _ = Sum31.v r5).trans (show Sum31.v r5 = Value.iface 88 (vA #[vI x28_0, vI x29_1]) from by rw [hx8]; rfl)) rfl) ?_
  refine r_R [vB true, vA #[vI x28_0, vI x29_1], vB true, vB true] rfl <| lx_nil <| A_gen [(1, vP b2 0), (4, Sum31.v r5), (44, vB true)] rfl (fun T => ?_)
  refine A_cond true rfl (fun _ => ?_) (fun h_ => nomatch h_)
  refine A_sc [(some 47, false), (some 48, false)] (conG Tryd.prog [(47, fun _ _ v_ L_ U_ => (pV (vS (Lib.itoa x_1))) v_ L_ U_)]) <| r_V (vP b2 1) rfl <| r_l (vI x_1) 0 _ _ _ _ rfl rfl rfl rfl rfl ?_
  obtain ⟨ck33, hM⟩ := ck_some hM
  refine r_gv (vS (Lib.itoa x_1)) 44 _ rfl rfl rfl (ev_callF rfl call_44 rfl) (fun own_ nw_ hs_ => itoa_i x_1 ck33 _) (fun _ _ _ _ _ => Iff.rfl) <| r_bs (cs0 := [(47, fun _ _ v_ L_ U_ => (pV (vS (Lib.itoa x_1))) v_ L_ U_)]) (Ls := [(kBa27_0 b2 x_0 x_1 x_2 x_3 (hi x_4) (lo x_4))]) 9 encS [Lib.itoa x_1] [vS (Lib.itoa x_1)] [Value.string (⟨#[]⟩)] rfl rfl rfl rfl rfl rfl rfl (by kernel_rfl) (by kernel_rfl) rfl rfl rfl (fun s34 S35 H36 => ?_)
  refine r_V s34 rfl <| lx_nil ?_
  obtain rfl := Option.some.inj hM
  refine A_ret (fun hn => ends1 (v0 := s34) H36 (sub_one (Sub.pick [(kBa27_0 b2 x_0 x_1 x_2 x_3 (hi x_4) (lo x_4)), S35] [1] rfl)) rfl (res1 rfl))
 replace hM := Sum31.on_t90 hx8 hM
 refine r_W (vT #[vA #[vI 0, U (0#64), U (0#64)], vB false]) rfl (ev_taC ((rfl : _ = Sum31.v r5).trans (show Sum31.v r5 = Value.iface 90 (vA #[]) from by rw [hx8]; rfl)) rfl) ?_
 refine r_R [vB false, vA #[vI 0, U (0#64), U (0#64)]] rfl <| lx_nil <| hK7 _ _ ?_; try clear hK7 K7
 refine A_cond false rfl (fun h_ => nomatch h_) (fun _ => ?_)
 refine A_sr <| r_W (vT #[vA #[vI 0, vI 0, vI 0], vB false]) rfl (ev_taC ((rfl : _ = Sum31.v r5).trans (show Sum31.v r5 = Value.iface 90 (vA #[]) from by rw [hx8]; rfl)) rfl) ?_
 refine r_R [vB false, vA #[vI 0, vI 0, vI 0]] rfl <| r_W (vT #[vA #[vI 0, vI 0], vB false]) rfl (ev_taC ((rfl : _ = Sum31.v r5).trans (show Sum31.v r5 = Value.iface 90 (vA #[]) from by rw [hx8]; rfl)) rfl) ?_
 refine r_R [vB false, vA #[vI 0, vI 0]] rfl <| r_W (vT #[vA #[vI 0, vI 0, vI 0], vB false]) rfl (ev_taC ((rfl : _ = Sum31.v r5).trans (show Sum31.v r5 = Value.iface 90 (vA #[]) from by rw [hx8]; rfl)) rfl) ?_
 refine r_R [vB false, vA #[vI 0, vI 0, vI 0]] rfl <| r_W (vT #[vA #[vI 0, vI 0], vB false]) rfl (ev_taC ((rfl : _ = Sum31.v r5).trans (show Sum31.v r5 = Value.iface 90 (vA #[]) from by rw [hx8]; rfl)) rfl) ?_
 refine r_R [vB false, vA #[vI 0, vI 0], vB false, vB false, vB false] rfl <| lx_nil <| A_cond false rfl (fun h_ => nomatch h_) (fun _ => ?_)
 refine A_sr <| r_W (vT #[vA #[vI 0, vI 0], vB false]) rfl (ev_taC ((rfl : _ = Sum31.v r5).trans (show Sum31.v r5 = Value.iface 90 (vA #[]) from by rw [hx8]; rfl)) rfl) ?_
 refine r_R [vB false, vA #[vI 0, vI 0]] rfl <| r_W (vT #[vA #[vI 0, vI 0], vB false]) rfl (ev_taC ((rfl : _ = Sum31.v r5).trans (show Sum31.v r5 = Value.iface 90 (vA #[]) from by rw [hx8]; rfl)) rfl) ?_
 refine r_R [vB false, vA #[vI 0, vI 0]] rfl <| r_W (vT #[vA #[vI 0, vI 0], vB false]) rfl (ev_taC ((rfl : _ = Sum31.v r5).trans (show Sum31.v r5 = Value.iface 90 (vA #[]) from by rw [hx8]; rfl)) rfl) ?_
 refine r_R [vB false, vA #[vI 0, vI 0], vB false, vB false] rfl <| lx_nil <| A_gen [(1, vP b2 0), (4, Sum31.v r5), (44, vB false)] rfl (fun T => ?_)
 refine A_cond false rfl (fun h_ => nomatch h_) (fun _ => ?_)
 refine A_sr <| r_W (vT #[vA #[vI 0, vI 0], vB false]) rfl (ev_taC ((rfl : _ = Sum31.v r5).trans (show Sum31.v r5 = Value.iface 90 (vA #[]) from by rw [hx8]; rfl)) rfl) ?_
 refine r_R [vB false, vA #[vI 0, vI 0]] rfl <| lx_nil <| A_cond false rfl (fun h_ => nomatch h_) (fun _ => ?_)
 refine A_skip <| hK3 _ _ ?_; try clear hK3 K3
 refine A_sr <| r_V nS rfl <| lx_nil ?_
 obtain rfl := Option.some.inj hM
 refine A_ret (fun hn => ends1 (v0 := nS) Sl.nil (Sub.nil _) rfl (res1 rfl))
end Go.Proofs.YtmfedgmmgehmgaaDoor
