import Derived.Test.YtajdpjdejpcgnaaGreatDoorSr
import Derived.Laws.IdiomStrings
namespace Go.Eng
open Go Go.RowKit
section
variable {E:Env} {g:Bool} {ops:Array Oper} {K:(Nat→Value)→List Bl→Prop} {r:List Oper} {T:Nat→Value} {m:Nat} {d:Tmp} {ty:TypeId} {pos:String} {af:Array Edge}
theorem au{l:List Bl}{op:Op}(p:Pst)(hd:decide (d<E.n)=true)(hk:E.ks.find? (fun x=>x.1==some d)=some (some d,false))(hsel:isSel op=false)(hm:decide (m≤l.length)=true)
  (hrun: ∀own nw w,Sees E l m own nw→(∀a v,cellA E own nw a=some v→w.cell? a=some v)→GenRun E.P (rd T) ⟨some d,op,ty,pos,af,none⟩ w p)
  (hcon: ∀args view v L U,E.con ⟨some d,op,ty,pos,af,none⟩ args view v L U↔p v L U) (hn:TU p)
  (h: ∀v L,p v L []→lx E g ops K r (upd T d v) (l++L) m):lx E g ops K (⟨some d,op,ty,pos,af,none⟩::r) T l m:=by
 refine r_g false p hd hk hsel hm (fun hnd own nw hse=> ?_) (fun v L U hp=> ?_)
 ·have hco:conOf E ⟨T,own,nw⟩ ⟨some d,op,ty,pos,af,none⟩=p:=by
   funext v L U;exact propext (hcon _ _ v L U)
  refine⟨⟨?_, ?_, ?_, ?_, ?_⟩, ?_⟩
  ·rw [hco];exact fun _=>hn.wit
  ·rw [hco];exact fun v L U hp=>⟨(hn.nod v L U hp).1,by rw [(hn.nod v L U hp).2];exact List.nodup_nil⟩
  ·rw [hco];intro v L U hp x hx;rw [(hn.nod v L U hp).2] at hx;cases hx
  ·rw [hco];exact fun _ v L U hp=>(hn.nod v L U hp).2
  ·rw [hco]
   intro w _ hcell _
   exact hrun own nw w hse hcell
  ·rw [hco];exact fun v L U hp=>hp
 ·obtain⟨_,rfl⟩:=hn.nod v L U hp
  exact⟨l,fun _=>PutU.nil _,h v L hp⟩
end
end Go.Eng
