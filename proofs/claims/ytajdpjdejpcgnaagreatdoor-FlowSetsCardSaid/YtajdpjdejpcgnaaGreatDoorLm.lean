import Derived.Test.YtajdpjdejpcgnaaGreatDoorIo
import Derived.Test.YtajdpjdejpcgnaaGreatDoorRows
import Derived.LaidMore
import Derived.Handed
import Derived.Shelf.Vars
import Derived.MakeChecks
import Derived.Stop.Joined
namespace Go.Proofs.YtajdpjdejpcgnaaGreatDoor
open Go Go.RowKit Go.Eng
theorem UY{P:Program}{f:FuncId}{args:Array Value}{inv:World→Prop}{v:Value}(h: ∀ro,DoesI P f args inv ro [] (pV v))(w:World)(hi:inv w):Calls P f args w fun e w'=>e= .returned v∧Below w.heap.size w w':=
 (h (fun _=>none) w hi (fun _ _ h=>nomatch h) (fun _ h=>nomatch h) List.nodup_nil).mono fun _ _ ⟨_,_,_,he,hx,hv,hL,hU⟩=>by
  subst hv;subst hL;subst hU
  exact⟨he,hx.os,hx.tape,hx.output,hx.size,fun k hk=>hx.same k hk (fun _ h=>nomatch h)⟩
theorem Ym{W:World}(h:laidMetH Tryz.prog [("shunter/image.metaWidths",Rows.laid_shunter_image_metaWidths)] W) (hs:W.ShapedOpen Tryz.prog):CR W:=by
 rw [MakeChecks.laidMetH_plain _ _ _ (by kernel_rfl)] at h
 refine⟨?_, ?_, ?_, ?_⟩
 ·exact trivial
 ·exact trivial
 ·exact trivial
 ·exact Lib.tabIs_of_head (k:= .i64) (zs:=BY) (g:=0) (t:=194) (e:=3) (n:=8) (by kernel_rfl) (by kernel_rfl) (by kernel_rfl) (by kernel_rfl) (by kernel_rfl) (by kernel_rfl) (h)
end Go.Proofs.YtajdpjdejpcgnaaGreatDoor
