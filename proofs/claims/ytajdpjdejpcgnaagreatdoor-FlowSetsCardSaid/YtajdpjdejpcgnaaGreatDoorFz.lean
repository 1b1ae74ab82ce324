import Derived.Test.YtajdpjdejpcgnaaGreatDoorGx
namespace Go.Eng
open Go Go.RowKit
def roB(ro:Addr→Option Value)(S:List Bl)(a:Addr):Option Value:=
 if a.spot=none then match S.find? (fun x=>x.1==a.block)with
  |some x=>x.2.2[a.off]?
  |none=>ro a
 else ro a
theorem TZ(ro:Addr→Option Value):roB ro []=ro:=by
 funext a;unfold roB;split<;>rfl
theorem Um{S:List Bl}(hn:(S.map (·.1)).Nodup){x:Bl}(hx:x∈S):S.find? (fun y=>y.1==x.1)=some x:=by
 induction S with
 |nil=>cases hx
 |cons y S ih=>
  rw [List.map_cons,List.nodup_cons] at hn
  rcases List.mem_cons.1 hx with rfl|h
  ·exact List.find?_cons_of_pos (by simp)
  ·rw [List.find?_cons_of_neg]
   ·exact ih hn.2 h
   ·intro e
    have e':y.1=x.1:=by simpa using e
    exact hn.1 (e'▸List.mem_map_of_mem h)
theorem PK{ro:Addr→Option Value}{S:List Bl}(hn:(S.map (·.1)).Nodup):SeenB (roB ro S) S:=by
 intro x hx k u hk
 unfold roB
 rw [if_pos rfl,Um hn hx]
 exact hk
structure Apart(ro:Addr→Option Value)(l:List Bl):Prop where
 nod:(l.map (·.1)).Nodup
 ap: ∀x∈l,∀a v,ro a=some v→a.block≠x.1
theorem Vv{ro:Addr→Option Value}{S:List Bl}{a:Addr}{v:Value}(h:roB ro S a=some v):(∃x∈S,x.1=a.block∧a.spot=none∧x.2.2[a.off]? =some v)∨ro a=some v:=by
 unfold roB at h
 split at h
 ·rename_i hs
  split at h
  ·rename_i x hx
   have:=List.find?_some hx
   exact .inl ⟨x,List.mem_of_find?_eq_some hx,by simpa using this,hs,h⟩
  ·exact .inr h
 ·exact .inr h
theorem Apart.mono{ro:Addr→Option Value}{l S S':List Bl}(h:Apart ro l)(h1: ∀x∈S,x∈S')(h2: ∀x∈S',x∈l)(hn:(S'.map (·.1)).Nodup): ∀a v,roB ro S a=some v→roB ro S' a=some v:=by
 intro a v ha
 rcases Vv ha with⟨x,hx,hb,hs,hv⟩|hv
 ·unfold roB
  rw [if_pos hs,←hb,Um hn (h1 x hx)]
  exact hv
 ·unfold roB
  split
  ·split
   ·rename_i y hy
    have e:y.1=a.block:=by simpa using List.find?_some hy
    exact absurd e.symm (h.ap y (h2 y (List.mem_of_find?_eq_some hy)) a v hv)
   ·exact hv
  ·exact hv
theorem Apart.le{ro:Addr→Option Value}{l S:List Bl}(h:Apart ro l)(h2: ∀x∈S,x∈l): ∀a v,ro a=some v→roB ro S a=some v:=by
 intro a v hv
 unfold roB
 split
 ·split
  ·rename_i y hy
   have e:y.1=a.block:=by simpa using List.find?_some hy
   exact absurd e.symm (h.ap y (h2 y (List.mem_of_find?_eq_some hy)) a v hv)
  ·exact hv
 ·exact hv
variable {E:Env} {g:Bool} {ops:Array Oper} {K:(Nat→Value)→List Bl→Prop} {r:List Oper} {T:Nat→Value} {l:List Bl} {m:Nat}
theorem Sl.fz{α:Type}{e:TypeId}{en:Enc α}{v:Value}{xs:List α}{S:List Bl}{ro:Addr→Option Value}(h:Sl e en v xs S):Rd en (roB ro S) v xs:=h.rdB (PK h.nod)
theorem Rd.fz0{α:Type}{en:Enc α}{v:Value}{xs:List α}{ro:Addr→Option Value}(h:Rd en ro v xs):Rd en (roB ro []) v xs:=by rw [TZ];exact h
theorem SlO.fz{α:Type}{e:TypeId}{En:EncO α}{E':KH α}{v:Value}{xs:List α}{S:List Bl}{ro:Addr→Option Value}(h:SlO e En v xs S)(hn:(S.map (·.1)).Nodup)(hE:En.r.sz=E'.sz)(hm: ∀x vs,En.V (roB ro S) x vs→E'.R (roB ro S) x vs):RdN E' (roB ro S) v xs:=
 RdN.map (SlO.view h (PK hn)) hE hm
theorem RdN.fz0{α:Type}{En:KH α}{v:Value}{xs:List α}{ro:Addr→Option Value}(h:RdN En ro v xs):RdN En (roB ro []) v xs:=by rw [TZ];exact h
end Go.Eng
