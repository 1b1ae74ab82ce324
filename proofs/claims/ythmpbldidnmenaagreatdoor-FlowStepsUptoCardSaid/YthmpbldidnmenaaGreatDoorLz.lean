import Derived.Test.YthmpbldidnmenaaGreatDoorRm
import Derived.ProofKit
import Derived.Carry
import Derived.Lib.SmallJoins
import Derived.Test.YthmpbldidnmenaaGreatDoorUt
import Derived.Test.YthmpbldidnmenaaGreatDoorMd
import Derived.OpenShut
import Derived.Deep.Slices
import Derived.Test.YthmpbldidnmenaaGreatDoorIo
import Derived.Test.YthmpbldidnmenaaGreatDoorRows
import Derived.LaidMore
import Derived.Handed
import Derived.Shelf.Vars
import Derived.MakeChecks
import Derived.Stop.Joined
import Derived.SizedLaws
set_option linter.unusedVariables false
namespace Go.Eng
open Go Go.RowKit Go.ChangeShapes Go.WideShapes Go.ChangeAt Go.Joins Go.Deep Go.WideElems
section
variable {H:Type} {enc:TypeId×Value→H} {P:Program}
theorem QA(hl:laidOutB P=true){W W':World}(hb:Below W.heap.size W W'): ∀{ts:List TypeId} {vs:List Value} {ds:List (DataW H)} {ps:List MemPlace},
  ts.all (fun t=>P.readableRec t&&decide (t<P.types.size))=true→DataW.TrodAll enc P W 0 (fun _=>true) true ts vs ds ps→DataW.TrodAll enc P W' 0 (fun b=>decide (b<W.heap.size)) true ts vs ds ps
 | [],vs,ds,ps,_,h=>by
  obtain⟨rfl,rfl,rfl⟩:=trodAll_nil h
  rfl
 |t::ts,vs,ds,ps,hr,h=>by
  simp only [List.all_cons,Bool.and_eq_true,decide_eq_true_eq] at hr
  have hlt:=DataW.TrodAll.lt h
  obtain⟨v,vs',d,ds',p,q,rfl,rfl,rfl,h1,h2⟩:=trodAll_cons h
  exact⟨p,q,Below.trod hl hr.1.1 hr.1.2 h1 hb (fun x hx=>hlt x (by simp [hx])),QA hl hb (by simpa only [List.all_eq_true,Bool.and_eq_true,decide_eq_true_eq] using hr.2) h2,rfl⟩
theorem iA{f:Func}{s:ChangeSpec}{T:TypeId}{W W':World}{args:Array Value}{ds gs:List (DataW H)}{before:List MemPlace}(hl:laidOutB P=true)
  (hr:f.params.toList.all (fun t=>P.readableRec t&&decide (t<P.types.size))=true) (hT:P.underlying T=some .bool) (hres:f.resultTypes= #[T]) (hv:s.vars=[])
  (hW:DataW.Whole enc P f.params.toList s.vars false W args.toList ds gs before) (hs:s.fn H (ds++gs)={results:=[.lit (.bool true)],args:=ds}) (hb:Below W.heap.size W W'):
  s.post enc P f false true false false W args (.bool true) W':=by
 have hW0:=hW
 obtain⟨p,q,hA,hV,rfl,hz,_⟩:=hW
 rw [hv] at hV
 obtain⟨rfl,rfl⟩:=trodVars_none hV
 refine⟨ds,[],p++ [],[],p,[],hW0, ?_, ?_, ?_, ?_,fun h=>nomatch h⟩
 ·rw [hs,hres];exact trodAll_mk1 (shut_bool hT true)
 ·rw [hs];exact QA hl hb hr hA
 ·rw [hs,hv];rfl
 ·exact hb.frame _
end
theorem eQ{a:Int}(h:(Lit.int .u64 a).wf=true): ∃x:BitVec 64,a=(x.toNat:Int):=by
 simp [Lit.wf,IntKind.min,IntKind.max,IntKind.signed,IntKind.bits] at h
 refine⟨BitVec.ofNat 64 a.toNat, ?_⟩
 rw [zn];omega
theorem IR{a:Int}(h:(Lit.int .i64 a).wf=true): -9223372036854775808≤a∧a≤9223372036854775807:=by
 simp [Lit.wf,IntKind.min,IntKind.max,IntKind.signed,IntKind.bits] at h
 omega
end Go.Eng
namespace Go.Eng
open Go Go.RowKit Go.ChangeShapes Go.WideShapes Go.ChangeAt Go.Joins Go.Deep
section
variable {H:Type} {enc:TypeId×Value→H} {P:Program} {W:World} {base:Nat} {held:Bool} {r:Reach} {b0:Nat} {t e:TypeId} {v:Value} {d:DataW H} {p:List MemPlace}
theorem fR{a:Addr}{u:Value}(h:W.cell? a=some u):a.spot=none:=by
 unfold World.cell? at h
 split at h
 ·split at h
  ·cases h
  ·rename_i hs;simpa using hs
 ·cases h
end
end Go.Eng
namespace Go.Proofs.YthmpbldidnmenaaGreatDoor
open Go Go.RowKit Go.Eng
theorem nJ{W:World}(h:laidMetH Tryz.prog [("shunter/image.metaWidths",Rows.laid_shunter_image_metaWidths)] W) (hs:W.ShapedOpen Tryz.prog):GC W:=by
 rw [MakeChecks.laidMetH_plain _ _ _ (by kernel_rfl)] at h
 refine⟨?_, ?_, ?_, ?_⟩
 ·exact trivial
 ·exact trivial
 ·exact trivial
 ·exact Lib.tabIs_of_head (k:= .i64) (zs:=Gg) (g:=0) (t:=263) (e:=3) (n:=8) (by kernel_rfl) (by kernel_rfl) (by kernel_rfl) (by kernel_rfl) (by kernel_rfl) (by kernel_rfl) (h)
end Go.Proofs.YthmpbldidnmenaaGreatDoor
namespace Go.Eng
open Go Go.RowKit Go.ChangeShapes Go.WideShapes Go.ChangeAt Go.Joins Go.Deep
theorem dc{P:Program}{f:FuncId}{args:Array Value}{inv:World→Prop}{v:Value}{w:World}(h:DoesI P f args inv (fun a=>w.cell? a) [] (pV v))(hi:inv w):Calls P f args w fun e w'=>e= .returned v∧Below w.heap.size w w':=
 (h w hi (fun _ _ ha=>⟨ha,by simp⟩) (fun _ hx=>(nomatch hx)) List.nodup_nil).mono fun e w' ⟨v',L,U,h1,h2,h3⟩=>by
  obtain⟨rfl,rfl,rfl⟩:=h3
  exact⟨h1,h2.os,h2.tape,h2.output,h2.size,fun k hk=>h2.same k hk (fun _ hx=>(nomatch hx))⟩
end Go.Eng
namespace Go.Eng
open Go Go.RowKit Go.ChangeShapes Go.WideShapes Go.ChangeAt Go.Joins Go.Deep
section
variable {H:Type} {enc:TypeId×Value→H} {P:Program} {W:World} {base:Nat} {held:Bool} {r:Reach} {b0:Nat} {t e:TypeId} {v:Value} {d:DataW H} {p:List MemPlace}
def Sd(P:Program)(t:TypeId)(d:DataW H):Prop:= ∀n∈d.weights P t,n≤reachBytes
theorem gn{fs:Array Field}{parts:List (DataW H)}(ht:P.underlying t=some (.struct fs))(h:Sd P t (.agg parts)){i:Nat}{ft:TypeId}(hi:(fs.toList.map (·.type))[i]? =some ft)(hp:parts[i]? =some d):Sd P ft d:=
 fun n hn=>h n (by rw [DataW.weights];simp only [ht];exact DataW.weights_mem_each hi hp n hn)
theorem fz{enc:TypeId×Value→H}{W:World}{fs:Array Field}{f:Field}{R:Prop}{n:Nat}{cs:List Value}{xs:List (DataW H×List MemPlace)}(ht:P.underlying t=some (.struct fs))(hz:Sd P t (.agg (xs.map (·.1))))(hlen:xs.length=fs.size)
  (hf: ∀(i:Nat) (f:Field),fs[i]? =some f→DataW.trod enc P W 0 (fun _=>true) true n f.type ((cs.drop f.offset).take (P.cellsOf f.type))=xs[i]?) (i:Nat) (cs':List Value) {m:Nat} (hi:fs[i]? =some f) (hc:P.cellsOf f.type=m) (hcs:(cs.drop f.offset).take m=cs')
  (O: ∀{y:DataW H×List MemPlace},DataW.trod enc P W 0 (fun _=>true) true n f.type cs'=some y→Sd P f.type y.1→R):R:=by
 have h1:i<xs.length:=by rw [hlen];exact(Array.getElem?_eq_some_iff.1 hi).1
 have h2:=hf i f hi
 rw [hc,hcs,zo h1] at h2
 exact O h2 (gn ht hz (i:=i) (by rw [List.getElem?_map,Array.getElem?_toList,hi];rfl) (by rw [List.getElem?_map,zo h1];rfl))
end
end Go.Eng
