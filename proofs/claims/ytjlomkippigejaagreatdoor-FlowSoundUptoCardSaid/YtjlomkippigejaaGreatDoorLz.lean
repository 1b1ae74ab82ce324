import Derived.Test.YtjlomkippigejaaGreatDoorMd
import Derived.ProofKit
import Derived.Carry
import Derived.Lib.SmallJoins
import Derived.Test.YtjlomkippigejaaGreatDoorUt
import Derived.OpenShut
import Derived.Deep.Slices
import Derived.Test.YtjlomkippigejaaGreatDoorIo
import Derived.Test.YtjlomkippigejaaGreatDoorRows
import Derived.LaidMore
import Derived.Handed
import Derived.Shelf.Vars
import Derived.MakeChecks
import Derived.Stop.Joined
import Derived.SizedLaws
namespace Go.Eng
open Go Go.RowKit Go.ChangeShapes Go.WideShapes Go.ChangeAt Go.Joins Go.Deep Go.WideElems
section
variable {H:Type} {enc:TypeId×Value->H} {P:Program}
theorem RB(hl:laidOutB P=true){W W':World}(hb:Below W.heap.size W W'): ∀{ts:List TypeId} {vs:List Value} {ds:List (DataW H)} {ps:List MemPlace},
  ts.all (λt=>P.readableRec t&&decide (t<P.types.size))=true->DataW.TrodAll enc P W 0 (λ_=>true) true ts vs ds ps->DataW.TrodAll enc P W' 0 (λb=>decide (b<W.heap.size)) true ts vs ds ps
 | [],vs,ds,ps,_,h=>by
  obtain⟨rfl,rfl,rfl⟩:=trodAll_nil h
  rfl
 |t::ts,vs,ds,ps,hr,h=>by
  simp only [List.all_cons,Bool.and_eq_true,decide_eq_true_eq] at hr
  have hlt:=DataW.TrodAll.lt h
  obtain⟨v,vs',d,ds',p,q,rfl,rfl,rfl,h1,h2⟩:=trodAll_cons h
  exact⟨p,q,Below.trod hl hr.1.1 hr.1.2 h1 hb (λx hx=>hlt x (by simp [hx])),RB hl hb (by simpa only [List.all_eq_true,Bool.and_eq_true,decide_eq_true_eq] using hr.2) h2,Z⟩
theorem lD{f:Func}{s:ChangeSpec}{T:TypeId}{W W':World}{args:Array Value}{ds gs:List (DataW H)}{before:List MemPlace}(hl:laidOutB P=true)
  (hr:f.params.toList.all (λt=>P.readableRec t&&decide (t<P.types.size))=true) (hT:P.underlying T=some .bool) (hres:f.resultTypes= #[T]) (hv:s.vars=[])
  (hW:DataW.Whole enc P f.params.toList s.vars false W args.toList ds gs before) (hs:s.fn H (ds++gs)={results:=[.lit (.bool true)],args:=ds}) (hb:Below W.heap.size W W'):
  s.post enc P f false true false false W args (.bool true) W':=by
 have hW0:=hW
 obtain⟨p,q,hA,hV,rfl,hz,_⟩:=hW
 rw [hv] at hV
 obtain⟨rfl,rfl⟩:=trodVars_none hV
 refine⟨ds,[],p++ [],[],p,[],hW0, ?_, ?_, ?_, ?_,λh=>nomatch h⟩
 ·rw [hs,hres];exact trodAll_mk1 (shut_bool hT true)
 ·rw [hs];exact RB hl hb hr hA
 ·rw [hs,hv];rfl
 ·exact hb.frame _
end
theorem iz{a:Int}(h:(Lit.int .u64 a).wf=true): ∃x:W4,a=(x.toNat:Int):=by
 simp [Lit.wf,IntKind.min,IntKind.max,IntKind.signed,IntKind.bits] at h
 refine⟨BitVec.ofNat 64 a.toNat, ?_⟩
 rw [zn];omega
theorem NA{a:Int}(h:(Lit.int .i64 a).wf=true): -9223372036854775808<=a/\a<=9223372036854775807:=by
 simp [Lit.wf,IntKind.min,IntKind.max,IntKind.signed,IntKind.bits] at h
 omega
end Go.Eng
namespace Go.Eng
open Go Go.RowKit Go.ChangeShapes Go.WideShapes Go.ChangeAt Go.Joins Go.Deep
section
variable {H:Type} {enc:TypeId×Value->H} {P:Program} {W:World} {base:Nat} {held:Bool} {r:Reach} {b0:Nat} {t e:TypeId} {v:Value} {d:DataW H} {p:List MemPlace}
theorem jE{a:Addr}{u:Value}(h:W.cell? a=some u):a.spot=none:=by
 unfold World.cell? at h
 split at h
 ·split at h
  ·cases h
  ·rename_i hs;simpa using hs
 ·cases h
end
end Go.Eng
namespace Go.Proofs.YtjlomkippigejaaGreatDoor
open Go Go.RowKit Go.Eng
theorem qZ{W:World}(h:laidMetH Tryz.prog [("shunter/image.metaWidths",Rows.laid_shunter_image_metaWidths)] W) (hs:W.ShapedOpen Tryz.prog):Ho W:=by
 rw [MakeChecks.laidMetH_plain _ _ _ (by kernel_rfl)] at h
 refine⟨?_, ?_, ?_, ?_⟩
 ·exact trivial
 ·exact trivial
 ·exact trivial
 ·exact Lib.tabIs_of_head (k:= .i64) (zs:=GP) (g:=0) (t:=226) (e:=3) (n:=8) (by kernel_rfl) (by kernel_rfl) (by kernel_rfl) (by kernel_rfl) (by kernel_rfl) (by kernel_rfl) (h)
end Go.Proofs.YtjlomkippigejaaGreatDoor
namespace Go.Eng
open Go Go.RowKit Go.ChangeShapes Go.WideShapes Go.ChangeAt Go.Joins Go.Deep
theorem fE{P:Program}{f:FuncId}{args:Array Value}{inv:World->Prop}{v:Value}{w:World}(h:DoesI P f args inv (λa=>w.cell? a) [] (pV v))(hi:inv w):Calls P f args w λe w'=>e= .returned v/\Below w.heap.size w w':=
 (h w hi (λ_ _ ha=>⟨ha,by simp⟩) (λ_ hx=>(nomatch hx)) List.nodup_nil).mono λe w' ⟨v',L,U,h1,h2,h3⟩=>by
  obtain⟨rfl,rfl,rfl⟩:=h3
  exact⟨h1,h2.os,h2.tape,h2.output,h2.size,λk hk=>h2.same k hk (λ_ hx=>(nomatch hx))⟩
end Go.Eng
namespace Go.Eng
open Go Go.RowKit Go.ChangeShapes Go.WideShapes Go.ChangeAt Go.Joins Go.Deep
section
variable {H:Type} {enc:TypeId×Value->H} {P:Program} {W:World} {base:Nat} {held:Bool} {r:Reach} {b0:Nat} {t e:TypeId} {v:Value} {d:DataW H} {p:List MemPlace}
def Sd(P:Program)(t:TypeId)(d:DataW H):Prop:= ∀n∈d.weights P t,n<=reachBytes
end
end Go.Eng
