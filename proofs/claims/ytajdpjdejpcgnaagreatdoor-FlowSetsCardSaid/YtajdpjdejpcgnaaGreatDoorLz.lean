import Derived.Test.YtajdpjdejpcgnaaGreatDoorYt
import Derived.Test.YtajdpjdejpcgnaaGreatDoorLp
import Derived.Test.YtajdpjdejpcgnaaGreatDoorMd
import Derived.OpenShut
import Derived.Deep.Slices
import Derived.SizedLaws
namespace Go.Eng
open Go Go.RowKit Go.ChangeShapes Go.WideShapes Go.ChangeAt Go.Joins Go.Deep
section
variable {H:Type} {enc:TypeId×Value→H} {P:Program} {W:World} {base:Nat} {held:Bool} {r:Reach} {b0:Nat} {t e:TypeId} {v:Value} {d:DataW H} {p:List MemPlace}
def Sd(P:Program)(t:TypeId)(d:DataW H):Prop:= ∀n∈d.weights P t,n≤reachBytes
theorem Vr{fs:Array Field}{parts:List (DataW H)}(ht:P.underlying t=some (.struct fs))(h:Sd P t (.agg parts)){i:Nat}{ft:TypeId}(hi:(fs.toList.map (·.type))[i]? =some ft)(hp:parts[i]? =some d):Sd P ft d:=
 fun n hn=>h n (by rw [DataW.weights];simp only [ht];exact DataW.weights_mem_each hi hp n hn)
theorem fz{enc:TypeId×Value→H}{W:World}{fs:Array Field}{f:Field}{R:Prop}{n:Nat}{cs:List Value}{xs:List (DataW H×List MemPlace)}(ht:P.underlying t=some (.struct fs))(hz:Sd P t (.agg (xs.map (·.1))))(hlen:xs.length=fs.size)
  (hf: ∀(i:Nat) (f:Field),fs[i]? =some f→DataW.trod enc P W 0 (fun _=>true) true n f.type ((cs.drop f.offset).take (P.cellsOf f.type))=xs[i]?) (i:Nat) (cs':List Value) {m:Nat} (hi:fs[i]? =some f) (hc:P.cellsOf f.type=m) (hcs:(cs.drop f.offset).take m=cs')
  (O: ∀{y:DataW H×List MemPlace},DataW.trod enc P W 0 (fun _=>true) true n f.type cs'=some y→Sd P f.type y.1→R):R:=by
 have h1:i<xs.length:=by rw [hlen];exact(Array.getElem?_eq_some_iff.1 hi).1
 have h2:=hf i f hi
 rw [hc,hcs,List.getElem?_eq_getElem h1] at h2
 exact O h2 (Vr ht hz (i:=i) (by rw [List.getElem?_map,Array.getElem?_toList,hi];rfl) (by rw [List.getElem?_map,List.getElem?_eq_getElem h1];rfl))
end
end Go.Eng
