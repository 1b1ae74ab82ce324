import Derived.Test.YtjnanfkpdhmnpaaGreatDoorNo
import Derived.Lib.AppendStr
import Derived.Test.YtjnanfkpdhmnpaaGreatDoorMd
import Derived.Test.YtjnanfkpdhmnpaaGreatDoorUt
namespace Go.Eng
open Go Go.RowKit
def Xc(L:Prop):Enc UInt8:={encY with loose:=L}
abbrev Ab8:Enc UInt8:=Xc False
theorem lj{L:Prop}(l:W2):lk ⟨l.toArray⟩=(Xc L).all l:=by
 unfold lk Enc.all Xc encY
 induction l with
 |nil=>rfl
 |cons x l ih=>simpa using ih
section
variable {E:Env} {g:Y3} {ops:Array Oper} {K:(Nat->Y2)->Y0 Bl->Prop} {r:Y0 Oper} {T:Nat->Y2} {m:Nat} {d:Tmp} {ty:TypeId} {pos:String} {af:Array Edge}
end
end Go.Eng
namespace Go.Eng
open Go Go.RowKit
theorem qV(l:W4)(k:Nat):((l>>>k)%2#64==1#64)=l.getLsbD k:=by
 rw [Bool.eq_iff_iff]
 simp only [beq_iff_eq,<-BitVec.toNat_inj,BitVec.toNat_umod,BitVec.toNat_ushiftRight,BitVec.getLsbD,Nat.testBit_eq_decide_div_mod_eq,Nat.shiftRight_eq_div_pow,decide_eq_true_eq]
 exact Iff.rfl
theorem bS(l:W4)(k:Nat):(l>>>k) / 2#64=l>>>(k+1):=by
 apply BitVec.eq_of_toNat_eq
 simp only [BitVec.toNat_udiv,BitVec.toNat_ushiftRight,Nat.shiftRight_eq_div_pow]
 rw [show(2#64).toNat=2 from Z,Nat.div_div_eq_div_mul,Nat.pow_succ]
def ofP(h l:W4)(k j:Nat):Y3:=if j<64 then decide (j<k)&&l.getLsbD j else decide (j - 64<k)&&h.getLsbD (j - 64)
theorem mh(h l:W4):Dm (λ_=>false)=Dm (ofP h l 0):=Ri λj _=>by simp [ofP]
theorem mi(h l:W4)(k:Nat)(hk:k<64):Dm (upd (upd (ofP h l k) k (l.getLsbD k)) (k+64) (h.getLsbD k))=Dm (ofP h l (k+1)):=Ri λj hj=>by
 unfold upd ofP
 by_cases h1:j=k+64
 ·subst h1
  rw [V8 Z,V9 (by omega),show k+64 - 64=k from by omega];simp
 ·rw [V9 h1]
  by_cases h2:j=k
  ·subst h2;simp [hk]
  ·rw [V9 h2]
   by_cases h3:j<64
   ·rw [V8 h3,V8 h3]
    congr 1
    rw [decide_eq_decide];omega
   ·rw [V9 h3,V9 h3]
    congr 1
    rw [decide_eq_decide];omega
theorem mj(h l:W4){k:Nat}(h1:k<=64)(h2: ¬(k:Int)<64):Value.agg (Dm (ofP h l k))= .agg (yN (h++l)):=by
 obtain rfl:k=64:=by omega
 refine congrArg Value.agg (Ri λj hj=> ?_)
 rw [BitVec.getLsbD_append]
 unfold ofP
 by_cases h3:j<64
 ·rw [V8 h3,zl h3,Bool.true_and];simp [h3]
 ·have h4:j - 64<64:=by omega
  rw [V9 h3,zl h4,Bool.true_and];simp [h3]
def below(x:W3)(k j:Nat):Y3:=decide (j<k)&&x.getLsbD j
end Go.Eng
namespace Go.Eng
def len128(x:W3):Nat:=if hi x=0#64 then Lib.bitLen (lo x).toNat else 64+Lib.bitLen (hi x).toNat
section
open Go Go.RowKit
variable {P:Program} {c:Addr->Y1 Y2} {ρ:Operand->Y2} {d:Y1 Tmp} {a b:Operand} {ts:Array TypeId} {ty:TypeId} {pos:String} {af:Array Edge} {g:Y1 (Nat×Y3)} {k:IntKind} {x y:Int}
theorem wS(hx:ρ a= .int k x)(hy:ρ b= .int k y):ev P c (execOp ρ ⟨d, .call ⟨.builtin .min, #[a,b],ts⟩,ty,pos,af,g⟩)=some (.value (.int k (min x y))):=by
 have e:min x y=if y<x then y else x:=by split<;>omega
 rw [e]
 show ev P c (do let d<-resolve ρ ⟨.builtin .min, #[a,b],ts⟩ ty;invoke d.target d.args)=_
 simp [resolve,invoke,builtin,Builtin.min_,Builtin.min2,hx,hy,Bv]
theorem bo(hx:ρ a= .int k x)(hy:ρ b= .int k y):ev P c (execOp ρ ⟨d, .call ⟨.builtin .max, #[a,b],ts⟩,ty,pos,af,g⟩)=some (.value (.int k (max x y))):=by
 have e:max x y=if y>x then y else x:=by split<;>omega
 rw [e]
 show ev P c (do let d<-resolve ρ ⟨.builtin .max, #[a,b],ts⟩ ty;invoke d.target d.args)=_
 simp [resolve,invoke,builtin,Builtin.max_,Builtin.max2,hx,hy,Bv]
end
theorem cK(x:W3):x.toNat<2^len128 x/\(len128 x≠0->2^(len128 x - 1)<=x.toNat)/\len128 x<=128:=by
 have hx:=x.isLt
 unfold len128
 by_cases h:hi x=0#64
 ·rw [V8 h]
  have h0:x.toNat / 2^64=0:=by rw [<-Tu,h];rfl
  have e:(lo x).toNat=x.toNat:=by rw [Wl];omega
  have hb:=bE (lo x).toNat (lo x).isLt
  rw [e] at hb ⊢
  refine⟨hb.1,λhn=> ?_,by omega⟩
  by_cases hz:x.toNat=0
  ·rw [hz] at hn;exact absurd Z hn
  ·exact(hb.2.1 hz).2
 ·rw [V9 h]
  have hb:=bE (hi x).toNat (hi x).isLt
  have hz:(hi x).toNat≠0:=λe=>h (BitVec.eq_of_toNat_eq e)
  obtain⟨h1,h2,h3⟩:=hb
  obtain⟨h4,h5⟩:=h2 hz
  rw [Tu] at h1 h4 h5 h3 ⊢
  refine⟨?_,λ_=> ?_,by omega⟩
  ·have:=(Nat.div_lt_iff_lt_mul (by decide)).1 h1
   rw [Nat.pow_add,Nat.mul_comm];exact this
  ·rw [show 64+Lib.bitLen (x.toNat / 2^64) - 1=(Lib.bitLen (x.toNat / 2^64) - 1)+64 from by omega,Nat.pow_add]
   exact(Nat.le_div_iff_mul_le (by decide)).1 h5
theorem jZ{x:W3}{m:Nat}(h1:x.getLsbD m=true)(h2: ∀j,m+1<=j->j<128->x.getLsbD j=false):m+1=len128 x:=by
 obtain⟨a,b,_⟩:=cK x
 have hlo:2^m<=x.toNat:=Nat.ge_two_pow_of_testBit h1
 have hhi:x.toNat<2^(m+1):=Nat.lt_pow_two_of_testBit _ (λi hi=>by
  by_cases h:i<128
  ·exact h2 i hi h
  ·exact BitVec.getLsbD_of_ge _ _ (by omega))
 have c1:m<len128 x:=(Nat.pow_lt_pow_iff_right (a:=2) (by decide)).1 (Nat.lt_of_le_of_lt hlo a)
 have c2:len128 x - 1<m+1:=(Nat.pow_lt_pow_iff_right (a:=2) (by decide)).1 (Nat.lt_of_le_of_lt (b (by omega)) hhi)
 omega
theorem cL{x:W3}(h: ∀j,j<128->x.getLsbD j=false):0=len128 x:=by
 have:x=0#128:=BitVec.eq_of_getLsbD_eq (λi hi=>by rw [h i hi];simp)
 subst this;decide+kernel
end Go.Eng
namespace Go.Eng
open Go Go.RowKit
def runeAt(s:W2)(p:Nat):Nat:=(Utf8.decode ⟨s.toArray⟩ p).1
def runeW(s:W2)(p:Nat):Nat:=(Utf8.decode ⟨s.toArray⟩ p).2
def Te(s:W2)(p:Nat):Y2:=if p<s.length then .tuple #[.bool true, .int .i64 ((p:Nat):Int), .int .i32 ((runeAt s p:Nat):Int)] else .tuple #[.bool false]
def Jh(s:W2)(p:Nat):Nat:=if p<s.length then p+runeW s p else p
def pIt(s:W2):Pst:=λv L U=> ∃b,v= .pointer (some ⟨b,0,none⟩)/\L=[(b,itT s 0, #[])]/\U=[]
theorem su(s:W2):gF (pIt s):=
 ⟨λk=>⟨_,_,_,⟨k+1,Z,Z,Z⟩,λx hx=>by simp only [zi] at hx;subst hx;exact Nat.lt_succ_self k⟩,
  λv L U ⟨b,_,h2,h3⟩=>⟨by rw [h2];simp,h3⟩⟩
def pNx(b:Nat)(s:W2)(p:Nat):Pst:=λv L U=>v=Te s p/\L=[]/\U=[(b,itT s (Jh s p), #[])]
section
variable {E:Env} {g:Y3} {ops:Array Oper} {K:(Nat->Y2)->Y0 Bl->Prop} {r:Y0 Oper} {T:Nat->Y2} {l:Y0 Bl} {m:Nat} {d:Tmp} {ty:TypeId} {pos:String} {af:Array Edge}
theorem ib{xT:TypeId}{x:Operand}(s:W2)(hd:decide (d<E.n)=true)(hk:E.ks.find? (λx=>x.1==some d)=some (some d,false))(hm:decide (m<=l.length)=true)(hu:E.P.underlying xT=some .string)(hx:rd T x= .string ⟨s.toArray⟩)(hcon: ∀args view v L U,E.con ⟨some d, .range xT x,ty,pos,af,none⟩ args view v L U↔pIt s v L U)(h: ∀b,lx E g ops K r (upd T d (.pointer (some ⟨b,0,none⟩))) (l++ [(b,itT s 0, #[])]) m):lx E g ops K (⟨some d, .range xT x,ty,pos,af,none⟩::r) T l m:=by
 refine vM (pIt s) hd hk Z hm (λown nw w _ _=> ?_) hcon (su s) (λv L hp=> ?_)
 ·refine .inl ⟨.pointer (some ⟨w.heap.size,0,none⟩),{w with heap:=w.heap.push (.stringIter ⟨s.toArray⟩ 0)},[(w.heap.size,itT s 0, #[])],[], ?_,⟨rfl,rfl,rfl,by simp,λk hk _=> ?_,λ_ h=>(nomatch h),λy hy=> ?_,Nat.le_refl _⟩,_,Z,Z,Z⟩
  ·show(do pure (Next.value (<-Instr.range xT (rd T x))):Sem Next).run E.P w=_
   rw [hx]
   unfold Instr.range
   simp only [Sem.run_bind,run_underlying hu,Result.andThen_ok,Sem.run_pure]
   rfl
  ·show(w.heap.push _)[k]? =_
   rw [Array.getElem?_push,V9 (by omega)]
  ·simp only [zi] at hy;subst hy
   exact⟨Nat.le_refl _,Holds.ofIter (by show(w.heap.push _)[w.heap.size]? =_;simp)⟩
 ·obtain⟨b,rfl,rfl,_⟩:=hp
  exact h b
theorem lL{it:Operand}{lN:Y0 Bl}(i b:Nat)(s:W2)(p:Nat)(hd:decide (d<E.n)=true)(hk:E.ks.find? (λx=>x.1==some d)=some (some d,true))(hm:decide (m<=i)=true)(hlen:decide (m<=l.length)=true)(hi:rd T it= .pointer (some ⟨b,0,none⟩))(hl:l[i]? =some (b,itT s p, #[]))(hcon: ∀args view v L U,E.con ⟨some d, .next it true,ty,pos,af,none⟩ args view v L U↔pNx b s p v L U)(hN:l.set i (b,itT s (Jh s p), #[])=lN)(h:lx E g ops K r (upd T d (Te s p)) lN m):lx E g ops K (⟨some d, .next it true,ty,pos,af,none⟩::r) T l m:=by
 subst hN
 refine r_g true (pNx b s p) hd hk Z hlen (λhnd own nw hse=> ?_) (λv L U hp=> ?_)
 ·have hco:Ab6 E ⟨T,own,nw⟩ ⟨some d, .next it true,ty,pos,af,none⟩=pNx b s p:=by
   funext v L U;exact propext (hcon _ _ v L U)
  obtain⟨hb1,hb2⟩:=hse.has i b _ hl
  have hb2':nw b=false:=by rw [hb2];have:=zj hm;simp;omega
  refine⟨⟨λ_ k=> ?_,λv L U hc=> ?_,λv L U hc=> ?_,λh=>(nomatch h),λw hbase hcell hheap=> ?_⟩,λv L U hc=>by rw [hco] at hc;exact hc⟩
  ·rw [hco];exact⟨_,_,_,⟨Z,Z,Z⟩,λx hx=>(nomatch hx)⟩
  ·rw [hco] at hc;obtain⟨rfl,rfl,rfl⟩:=hc;exact⟨List.nodup_nil,by simp⟩
  ·rw [hco] at hc;obtain⟨rfl,rfl,rfl⟩:=hc
   intro x hx;simp only [zi] at hx;subst hx;exact⟨⟨_,hb1⟩,hb2'⟩
  ·rw [hco]
   have hh:w.heap[b]? =some (.stringIter ⟨⟨s⟩⟩ p):=(hheap b _ hb1 hb2').iter
   have hbl:b<w.heap.size:=(Array.getElem?_eq_some_iff.1 hh).1
   have hrun: ∃w',(execOp (rd T) ⟨some d, .next it true,ty,pos,af,none⟩).run E.P w= .ok (.value (Te s p)) w'/\ExtW w w' [] [(b,itT s (Jh s p), #[])]:=by
    have e0:(execOp (rd T) ⟨some d, .next it true,ty,pos,af,none⟩)=(do pure (Next.value (<-Instr.next (rd T it) true ty)):Sem Next):=Z
    rw [e0,hi]
    by_cases hp:p<s.length
    ·refine⟨{w with heap:=w.heap.setIfInBounds b (.stringIter ⟨⟨s⟩⟩ (p+runeW s p))}, ?_, ?_⟩
     ·unfold Te
      rw [V8 hp]
      have hg:(getObj b).run E.P w= .ok (.stringIter ⟨⟨s⟩⟩ p) w:=by simp [getObj,Sem.run,hh]
      have hst:(setObj b (.stringIter ⟨⟨s⟩⟩ (p+(Utf8.decode ⟨⟨s⟩⟩ p).2))).run E.P w= .ok () {w with heap:=w.heap.setIfInBounds b (.stringIter ⟨⟨s⟩⟩ (p+runeW s p))}:=by simp [setObj,Sem.run,hh];rfl
      have hp':p<(⟨⟨s⟩⟩:ByteArray).size:=hp
      unfold Instr.next
      simp only [Sem.run_bind,hg,Result.andThen_ok,V8 hp',hst,Sem.run_pure]
      rfl
     ·refine⟨Z,Z,Z,by simp,λk hk hne=> ?_,λx hx=> ?_,λ_ h=>(nomatch h),Nat.le_refl _⟩
      ·show(w.heap.setIfInBounds b _)[k]? =_
       rw [Array.getElem?_setIfInBounds_ne (λe=>hne _ (List.mem_singleton.2 Z) e)]
      ·simp only [zi] at hx;subst hx
       unfold Jh;rw [V8 hp]
       refine Holds.ofIter ?_
       show(w.heap.setIfInBounds b _)[b]? =_
       rw [Array.getElem?_setIfInBounds_self_of_lt hbl]
    ·refine⟨w, ?_, ?_⟩
     ·unfold Te
      rw [V9 hp]
      have hg:(getObj b).run E.P w= .ok (.stringIter ⟨⟨s⟩⟩ p) w:=by simp [getObj,Sem.run,hh]
      have hp': ¬p<(⟨⟨s⟩⟩:ByteArray).size:=hp
      unfold Instr.next
      simp only [Sem.run_bind,hg,Result.andThen_ok,V9 hp',Sem.run_pure]
     ·refine⟨Z,Z,Z,Nat.le_refl _,λk hk hne=>Z,λx hx=> ?_,λ_ h=>(nomatch h),Nat.le_refl _⟩
      simp only [zi] at hx;subst hx
      unfold Jh;rw [V9 hp]
      exact Holds.ofIter hh
   obtain⟨w',h1,h2⟩:=hrun
   exact .inl ⟨_,w',[],_,h1,h2,Z,Z,Z⟩
 ·obtain⟨rfl,rfl,rfl⟩:=hp
  refine⟨l.set i (b,itT s (Jh s p), #[]),λhn=>PutU.one hn hl, ?_⟩
  rw [List.append_nil]
  exact h
end
theorem dw{P:Program}{c:Addr->Y1 Y2}(s:W2)(p:Nat):ev P c (Instr.extract (Te s p) 0)=some (.bool (decide (p<s.length))):=by
 unfold Te
 by_cases h:p<s.length
 ·rw [V8 h,zl h];rfl
 ·rw [V9 h,zk h];rfl
theorem dv{P:Program}{c:Addr->Y1 Y2}{s:W2}{p:Nat}(h:p<s.length):ev P c (Instr.extract (Te s p) 2)=some (.int .i32 ((runeAt s p:Nat):Int)):=by
 unfold Te
 rw [V8 h];rfl
def Ax(l:W2)(i:Int):UInt8:=l.getD i.toNat 0
section
variable {P:Program} {c:Addr->Y1 Y2} {ρ:Operand->Y2} {d:Y1 Tmp} {t t':TypeId} {x y:Operand} {ty:TypeId} {pos:String} {af:Array Edge} {g:Y1 (Nat×Y3)} {a b:W2}
end
def Rh(n:Int):W2:=(Utf8.encode n).data.toList
def ZR:Y0 Int->W2
 | []=> []
 |n::r=>Rh n++ZR r
section
variable {E:Env} {g:Y3} {ops:Array Oper} {K:(Nat->Y2)->Y0 Bl->Prop} {r:Y0 Oper} {T:Nat->Y2} {l:Y0 Bl} {m:Nat} {d:Tmp} {ty:TypeId} {pos:String} {af:Array Edge}
end
end Go.Eng
