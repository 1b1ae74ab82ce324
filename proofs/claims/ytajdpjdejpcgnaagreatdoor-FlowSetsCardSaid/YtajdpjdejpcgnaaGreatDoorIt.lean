import Derived.Test.YtajdpjdejpcgnaaGreatDoorUt
import Derived.Test.YtajdpjdejpcgnaaGreatDoorMm
import Derived.Test.YtajdpjdejpcgnaaGreatDoorMd
namespace Go.Eng
open Go Go.RowKit
def runeAt(s:List UInt8)(p:Nat):Nat:=(Utf8.decode ⟨s.toArray⟩ p).1
def runeW(s:List UInt8)(p:Nat):Nat:=(Utf8.decode ⟨s.toArray⟩ p).2
def Lr(s:List UInt8)(p:Nat):Value:=if p<s.length then .tuple #[.bool true, .int .i64 ((p:Nat):Int), .int .i32 ((runeAt s p:Nat):Int)] else .tuple #[.bool false]
def EL(s:List UInt8)(p:Nat):Nat:=if p<s.length then p+runeW s p else p
def pIt(s:List UInt8):Pst:=fun v L U=> ∃b,v= .pointer (some ⟨b,0,none⟩)∧L=[(b,itT s 0, #[])]∧U=[]
theorem Yl(s:List UInt8):TU (pIt s):=
 ⟨fun k=>⟨_,_,_,⟨k+1,rfl,rfl,rfl⟩,fun x hx=>by simp only [List.mem_singleton] at hx;subst hx;exact Nat.lt_succ_self k⟩,
  fun v L U ⟨b,_,h2,h3⟩=>⟨by rw [h2];simp,h3⟩⟩
def pNx(b:Nat)(s:List UInt8)(p:Nat):Pst:=fun v L U=>v=Lr s p∧L=[]∧U=[(b,itT s (EL s p), #[])]
section
variable {E:Env} {g:Bool} {ops:Array Oper} {K:(Nat→Value)→List Bl→Prop} {r:List Oper} {T:Nat→Value} {l:List Bl} {m:Nat} {d:Tmp} {ty:TypeId} {pos:String} {af:Array Edge}
theorem Ub{xT:TypeId}{x:Operand}(s:List UInt8)(hd:decide (d<E.n)=true)(hk:E.ks.find? (fun x=>x.1==some d)=some (some d,false))(hm:decide (m≤l.length)=true)
  (hu:E.P.underlying xT=some .string) (hx:rd T x= .string ⟨s.toArray⟩)
  (hcon: ∀args view v L U,E.con ⟨some d, .range xT x,ty,pos,af,none⟩ args view v L U↔pIt s v L U)
  (h: ∀b,lx E g ops K r (upd T d (.pointer (some ⟨b,0,none⟩))) (l++ [(b,itT s 0, #[])]) m):lx E g ops K (⟨some d, .range xT x,ty,pos,af,none⟩::r) T l m:=by
 refine au (pIt s) hd hk rfl hm (fun own nw w _ _=> ?_) hcon (Yl s) (fun v L hp=> ?_)
 ·refine .inl ⟨.pointer (some ⟨w.heap.size,0,none⟩),{w with heap:=w.heap.push (.stringIter ⟨s.toArray⟩ 0)},[(w.heap.size,itT s 0, #[])],[], ?_,⟨rfl,rfl,rfl,by simp,fun k hk _=> ?_,fun _ h=>(nomatch h),fun y hy=> ?_⟩,_,rfl,rfl,rfl⟩
  ·show(do pure (Next.value (←Instr.range xT (rd T x))):Sem Next).run E.P w=_
   rw [hx]
   unfold Instr.range
   simp only [Sem.run_bind,run_underlying hu,Result.andThen_ok,Sem.run_pure]
   rfl
  ·show(w.heap.push _)[k]? =_
   rw [Array.getElem?_push,if_neg (by omega)]
  ·simp only [List.mem_singleton] at hy;subst hy
   exact⟨Nat.le_refl _,Holds.ofIter (by show(w.heap.push _)[w.heap.size]? =_;simp)⟩
 ·obtain⟨b,rfl,rfl,_⟩:=hp
  exact h b
theorem Vy{it:Operand}{lN:List Bl}(i b:Nat)(s:List UInt8)(p:Nat)(hd:decide (d<E.n)=true)(hk:E.ks.find? (fun x=>x.1==some d)=some (some d,true))(hm:decide (m≤i)=true)(hlen:decide (m≤l.length)=true)
  (hi:rd T it= .pointer (some ⟨b,0,none⟩)) (hl:l[i]? =some (b,itT s p, #[]))
  (hcon: ∀args view v L U,E.con ⟨some d, .next it true,ty,pos,af,none⟩ args view v L U↔pNx b s p v L U) (hN:l.set i (b,itT s (EL s p), #[])=lN)
  (h:lx E g ops K r (upd T d (Lr s p)) lN m):lx E g ops K (⟨some d, .next it true,ty,pos,af,none⟩::r) T l m:=by
 subst hN
 refine r_g true (pNx b s p) hd hk rfl hlen (fun hnd own nw hse=> ?_) (fun v L U hp=> ?_)
 ·have hco:conOf E ⟨T,own,nw⟩ ⟨some d, .next it true,ty,pos,af,none⟩=pNx b s p:=by
   funext v L U;exact propext (hcon _ _ v L U)
  obtain⟨hb1,hb2⟩:=hse.has i b _ hl
  have hb2':nw b=false:=by rw [hb2];have:=of_decide_eq_true hm;simp;omega
  refine⟨⟨fun _ k=> ?_,fun v L U hc=> ?_,fun v L U hc=> ?_,fun h=>(nomatch h),fun w hbase hcell hheap=> ?_⟩,fun v L U hc=>by rw [hco] at hc;exact hc⟩
  ·rw [hco];exact⟨_,_,_,⟨rfl,rfl,rfl⟩,fun x hx=>(nomatch hx)⟩
  ·rw [hco] at hc;obtain⟨rfl,rfl,rfl⟩:=hc;exact⟨List.nodup_nil,by simp⟩
  ·rw [hco] at hc;obtain⟨rfl,rfl,rfl⟩:=hc
   intro x hx;simp only [List.mem_singleton] at hx;subst hx;exact⟨⟨_,hb1⟩,hb2'⟩
  ·rw [hco]
   have hh:w.heap[b]? =some (.stringIter ⟨⟨s⟩⟩ p):=(hheap b _ hb1 hb2').iter
   have hbl:b<w.heap.size:=(Array.getElem?_eq_some_iff.1 hh).1
   have hrun: ∃w',(execOp (rd T) ⟨some d, .next it true,ty,pos,af,none⟩).run E.P w= .ok (.value (Lr s p)) w'∧ExtW w w' [] [(b,itT s (EL s p), #[])]:=by
    have e0:(execOp (rd T) ⟨some d, .next it true,ty,pos,af,none⟩)=(do pure (Next.value (←Instr.next (rd T it) true ty)):Sem Next):=rfl
    rw [e0,hi]
    by_cases hp:p<s.length
    ·refine⟨{w with heap:=w.heap.setIfInBounds b (.stringIter ⟨⟨s⟩⟩ (p+runeW s p))}, ?_, ?_⟩
     ·unfold Lr
      rw [if_pos hp]
      have hg:(getObj b).run E.P w= .ok (.stringIter ⟨⟨s⟩⟩ p) w:=by simp [getObj,Sem.run,hh]
      have hst:(setObj b (.stringIter ⟨⟨s⟩⟩ (p+(Utf8.decode ⟨⟨s⟩⟩ p).2))).run E.P w= .ok () {w with heap:=w.heap.setIfInBounds b (.stringIter ⟨⟨s⟩⟩ (p+runeW s p))}:=by simp [setObj,Sem.run,hh];rfl
      have hp':p<(⟨⟨s⟩⟩:ByteArray).size:=hp
      unfold Instr.next
      simp only [Sem.run_bind,hg,Result.andThen_ok,if_pos hp',hst,Sem.run_pure]
      rfl
     ·refine⟨rfl,rfl,rfl,by simp,fun k hk hne=> ?_,fun x hx=> ?_,fun _ h=>(nomatch h)⟩
      ·show(w.heap.setIfInBounds b _)[k]? =_
       rw [Array.getElem?_setIfInBounds_ne (fun e=>hne _ (List.mem_singleton.2 rfl) e)]
      ·simp only [List.mem_singleton] at hx;subst hx
       unfold EL;rw [if_pos hp]
       refine Holds.ofIter ?_
       show(w.heap.setIfInBounds b _)[b]? =_
       rw [Array.getElem?_setIfInBounds_self_of_lt hbl]
    ·refine⟨w, ?_, ?_⟩
     ·unfold Lr
      rw [if_neg hp]
      have hg:(getObj b).run E.P w= .ok (.stringIter ⟨⟨s⟩⟩ p) w:=by simp [getObj,Sem.run,hh]
      have hp': ¬p<(⟨⟨s⟩⟩:ByteArray).size:=hp
      unfold Instr.next
      simp only [Sem.run_bind,hg,Result.andThen_ok,if_neg hp',Sem.run_pure]
     ·refine⟨rfl,rfl,rfl,Nat.le_refl _,fun k hk hne=>rfl,fun x hx=> ?_,fun _ h=>(nomatch h)⟩
      simp only [List.mem_singleton] at hx;subst hx
      unfold EL;rw [if_neg hp]
      exact Holds.ofIter hh
   obtain⟨w',h1,h2⟩:=hrun
   exact .inl ⟨_,w',[],_,h1,h2,rfl,rfl,rfl⟩
 ·obtain⟨rfl,rfl,rfl⟩:=hp
  refine⟨l.set i (b,itT s (EL s p), #[]),fun hn=>PutU.one hn hl, ?_⟩
  rw [List.append_nil]
  exact h
end
theorem SH{P:Program}{c:Addr→Option Value}(s:List UInt8)(p:Nat):ev P c (Instr.extract (Lr s p) 0)=some (.bool (decide (p<s.length))):=by
 unfold Lr
 by_cases h:p<s.length
 ·rw [if_pos h,decide_eq_true h];rfl
 ·rw [if_neg h,decide_eq_false h];rfl
theorem SG{P:Program}{c:Addr→Option Value}{s:List UInt8}{p:Nat}(h:p<s.length):ev P c (Instr.extract (Lr s p) 2)=some (.int .i32 ((runeAt s p:Nat):Int)):=by
 unfold Lr
 rw [if_pos h];rfl
section
variable {P:Program} {c:Addr→Option Value} {ρ:Operand→Value} {d:Option Tmp} {t t':TypeId} {x y:Operand} {ty:TypeId} {pos:String} {af:Array Edge} {g:Option (Nat×Bool)} {a b:List UInt8}
end
section
variable {E:Env} {g:Bool} {ops:Array Oper} {K:(Nat→Value)→List Bl→Prop} {r:List Oper} {T:Nat→Value} {l:List Bl} {m:Nat} {d:Tmp} {ty:TypeId} {pos:String} {af:Array Edge}
end
end Go.Eng
