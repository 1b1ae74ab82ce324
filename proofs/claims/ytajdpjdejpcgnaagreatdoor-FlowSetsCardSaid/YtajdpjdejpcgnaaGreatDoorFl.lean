import Derived.Test.YtajdpjdejpcgnaaGreatDoorBg
set_option linter.unusedSimpArgs false
set_option linter.unusedVariables false
namespace Go.Proofs.YtajdpjdejpcgnaaGreatDoor
open Go Go.RowKit Go.Eng
theorem fck{c:Prop}[Decidable c]{α:Type}{x:Option α}(h:c):ck c x=x:=if_pos h
theorem bN(x:BitVec 64):((x%2#64)==(1#64))=x.getLsbD 0:=by
 rw [Bool.eq_iff_iff,beq_iff_eq]
 constructor
 ·intro h
  have:=congrArg BitVec.toNat h
  simp only [BitVec.toNat_umod,BitVec.toNat_ofNat] at this
  simp only [BitVec.getLsbD,Nat.testBit_zero,decide_eq_true_eq];omega
 ·intro h
  apply BitVec.eq_of_toNat_eq
  simp only [BitVec.toNat_umod,BitVec.toNat_ofNat]
  simp only [BitVec.getLsbD,Nat.testBit_zero,decide_eq_true_eq] at h;omega
theorem bL(n:BitVec 64)(i:Nat):(n>>>i) / 2#64=n>>>(i+1):=by
 apply BitVec.eq_of_toNat_eq
 simp only [BitVec.toNat_udiv,BitVec.toNat_ushiftRight,BitVec.toNat_ofNat,Nat.shiftRight_eq_div_pow,Nat.pow_succ]
 rw [Nat.div_div_eq_div_mul]
theorem ZW(n:BitVec 64): ∀(j k i:Nat) (m:BitVec 64),j<k→i+j=64→(∀t,t<i→m.getLsbD t=n.getLsbD t)→Bu k (n>>>i) (i:Int) m=some n
 |0,k+1,i,m,_,hi,h=>by
  obtain rfl:i=64:=by omega
  rw [Bu,if_neg (by omega)]
  exact congrArg some (BitVec.eq_of_getLsbD_eq fun t ht=>h t ht)
 |j+1,k+1,i,m,hk,hi,h=>by
  rw [Bu,if_pos (by omega),fck (by omega),fck (by omega),bL,bN,Int.toNat_natCast]
  refine ZW n j k (i+1) _ (by omega) (by omega) (fun t ht=> ?_)
  rw [LY _ _ _ _ (by omega)]
  split
  ·next e=>subst e;simp
  ·exact h t (by omega)
theorem Vw{N:Nat}(hN:64<N)(n:BitVec 64):Be N n=some n:=by
 have:=ZW n 64 N 0 (0#64) hN rfl (fun t ht=>absurd ht (Nat.not_lt_zero t))
 rwa [BitVec.ushiftRight_zero] at this
theorem XO(a b:BitVec 64): ∀(j k i:Nat) (m:BitVec 64),j<k→i+j=64→(∀t,t<i→m.getLsbD t=(a&&&b).getLsbD t)→AR a b k (i:Int) m=some (a&&&b)
 |0,k+1,i,m,_,hi,h=>by
  obtain rfl:i=64:=by omega
  rw [AR,if_neg (by omega)]
  exact congrArg some (BitVec.eq_of_getLsbD_eq fun t ht=>h t ht)
 |j+1,k+1,i,m,hk,hi,h=>by
  have hn: ∀x:Bool,x=(a&&&b).getLsbD i→AR a b k ((i:Int)+1) (DB m i x)=some (a&&&b):=fun x hx=>by
   refine XO a b j k (i+1) _ (by omega) (by omega) (fun t ht=> ?_)
   rw [LY _ _ _ _ (by omega)]
   split
   ·next e=>subst e;exact hx
   ·exact h t (by omega)
  rw [AR,if_pos (by omega),fck (by omega),Int.toNat_natCast]
  by_cases ha:a.getLsbD i=true
  ·rw [if_pos ha,fck (by omega)]
   unfold BK
   rw [fck (by omega),fck (by omega),Int.toNat_natCast]
   exact hn _ (by simp [ha])
  ·rw [if_neg ha]
   unfold BK
   rw [fck (by omega),fck (by omega),Int.toNat_natCast]
   exact hn _ (by simp [ha])
theorem Yb{N:Nat}(hN:64<N)(a b:BitVec 64):Cq N a b=some (a&&&b):=
 XO a b 64 N 0 (0#64) hN rfl (fun t ht=>absurd ht (Nat.not_lt_zero t))
def Fq(x:Int):BitVec 64:=if 0≤x∧x<64 then BitVec.twoPow 64 x.toNat else 0#64
theorem Tw(N:Nat)(x:Int):DW N x=some (Fq x):=by
 unfold DW Fq
 by_cases h:x<0
 ·rw [if_pos h,if_neg (by omega)];rfl
 ·rw [if_neg h]
  unfold Ff
  by_cases h2:x≥64
  ·rw [if_pos (decide_eq_true h2),if_neg (by omega)]
  ·rw [if_neg (by simpa using h2),fck (by omega),if_pos (by omega),BitVec.twoPow_eq]
theorem Nv(x:Int)(t:Nat)(ht:t<64):(Fq x).getLsbD t=decide (x=(t:Int)):=by
 unfold Fq
 split
 ·rw [BitVec.getLsbD_twoPow,Bool.eq_iff_iff]
  simp only [Bool.and_eq_true,decide_eq_true_eq];omega
 ·rw [BitVec.getLsbD_zero,Eq.comm,decide_eq_false_iff_not];omega
theorem Vh(s:BitVec 64)(x:Int)(t:Nat)(ht:t<64):(s|||Fq x).getLsbD t=(s.getLsbD t||decide (x=(t:Int))):=by
 rw [BitVec.getLsbD_or,Nv x t ht]
theorem Ys(s:BitVec 64)(x:Int):((s&&&Fq x) !=(0#64))=(decide (0≤x∧x<64)&&s.getLsbD x.toNat):=by
 by_cases h:0≤x∧x<64
 ·obtain⟨k,rfl⟩:=Int.eq_ofNat_of_zero_le h.1
  have hk:k<64:=by omega
  rw [decide_eq_true h,Bool.true_and,Int.toNat_natCast,Bool.eq_iff_iff,bne_iff_ne]
  constructor
  ·intro hne
   cases hb:s.getLsbD k with
   |true=>rfl
   |false=>
    refine absurd (BitVec.eq_of_getLsbD_eq fun t ht=> ?_) hne
    rw [BitVec.getLsbD_and,Nv _ t ht,BitVec.getLsbD_zero]
    by_cases e:t=k
    ·subst e;rw [hb];rfl
    ·rw [decide_eq_false (by omega),Bool.and_false]
  ·intro hb e
   have:=congrArg (fun z=>BitVec.getLsbD z k) e
   simp only [BitVec.getLsbD_and,Nv _ k hk,hb,BitVec.getLsbD_zero] at this
   simp at this
 ·rw [decide_eq_false h,Bool.false_and,Fq,if_neg h];simp
theorem ag(N:Nat)(s:BitVec 64)(x:Int):BR N s x=some (decide (0≤x∧x<64)&&s.getLsbD x.toNat):=by
 unfold BR;rw [Tw,Option.bind_some,Ys]
theorem Vg(N:Nat)(s:BitVec 64)(x:Int):Bv N s x=some (s|||Fq x):=by
 unfold Bv;rw [Tw];rfl
theorem UH(N:Nat)(s:BitVec 64)(x:Int):Bh N s x=some (s&&&~~~Fq x):=by
 unfold Bh;rw [Tw];rfl
def Dx(a:BitVec 64)(i:Nat):List Int:=((List.range i).filter (fun t=>a.getLsbD t)).map fun t:Nat=>(t:Int)
theorem Mw(a:BitVec 64)(i:Nat):Dx a (i+1)=if a.getLsbD i=true then Dx a i++ [(i:Int)] else Dx a i:=by
 unfold Dx
 rw [List.range_succ,List.filter_append,List.map_append]
 by_cases h:a.getLsbD i=true
 ·rw [if_pos h,List.filter_cons_of_pos (by exact h)];rfl
 ·rw [if_neg h,List.filter_cons_of_neg (by exact h)];simp
theorem IL(a:BitVec 64)(i:Nat):(Dx a i).length≤i:=by
 unfold Dx
 rw [List.length_map]
 exact Nat.le_trans (List.length_filter_le _ _) (by rw [List.length_range];exact Nat.le_refl _)
theorem Nm(a:BitVec 64)(i t:Nat):(t:Int)∈Dx a i↔t<i∧a.getLsbD t=true:=by
 unfold Dx
 simp only [List.mem_map,List.mem_filter,List.mem_range]
 constructor
 ·rintro⟨u,⟨h1,h2⟩,h3⟩
  obtain rfl:u=t:=by omega
  exact⟨h1,h2⟩
 ·exact fun h=>⟨t,h,rfl⟩
theorem VE(N:Nat)(a:BitVec 64): ∀(j k i:Nat),j<k→i+j=64→Bw N a k (Dx a i) (i:Int)=some (Dx a 64)
 |0,k+1,i,_,hi=>by
  obtain rfl:i=64:=by omega
  rw [Bw,if_neg (by omega)]
 |j+1,k+1,i,hk,hi=>by
  have hn:=VE N a j k (i+1) (by omega) (by omega)
  have hl:=IL a i
  rw [Mw] at hn
  rw [Bw,if_pos (by omega),ag,Option.bind_some,decide_eq_true (by omega),Bool.true_and,Int.toNat_natCast]
  by_cases h:a.getLsbD i=true
  ·rw [if_pos h] at hn ⊢
   rw [fck (by simp;omega),fck (by omega)];exact hn
  ·rw [if_neg h] at hn ⊢
   rw [fck (by omega)];exact hn
theorem aF{N:Nat}(hN:64<N)(a:BitVec 64):EA N a=some (Dx a 64):=VE N a 64 N 0 hN rfl
def ofB(s:BitVec 64):List Int→BitVec 64
 | []=>s
 |x::l=>ofB (s|||Fq x) l
theorem Ud: ∀(l:List Int) (s:BitVec 64) (t:Nat),t<64→(ofB s l).getLsbD t=(s.getLsbD t||decide ((t:Int)∈l))
 | [],s,t,ht=>by simp [ofB]
 |x::l,s,t,ht=>by
  rw [ofB,Ud l _ t ht,Vh _ _ _ ht,Bool.or_assoc]
  congr 1
  rw [Bool.eq_iff_iff]
  simp only [Bool.or_eq_true,decide_eq_true_eq,List.mem_cons]
  constructor
  ·rintro(h|h)
   ·exact .inl h.symm
   ·exact .inr h
  ·rintro(h|h)
   ·exact .inl h.symm
   ·exact .inr h
theorem bn(N:Nat)(l:List Int)(hl:l.length<1000): ∀(j k i:Nat) (s:BitVec 64),j<k→i+j=l.length→DY N l k s (i:Int)=some (ofB s (l.drop i))
 |0,k+1,i,s,_,hi=>by
  rw [DY,if_neg (by omega),List.drop_eq_nil_of_le (by omega),ofB]
 |j+1,k+1,i,s,hk,hi=>by
  have hi':i<l.length:=by omega
  rw [DY,if_pos (by omega),fck (by omega),Vg,Option.bind_some,fck (by omega),List.drop_eq_getElem_cons hi',ofB,Int.toNat_natCast,getElem!_pos l i hi']
  exact bn N l hl j k (i+1) _ (by omega) (by omega)
theorem bm{N:Nat}(l:List Int)(hl:l.length<1000)(hN:1000≤N):ID N l=some (ofB (0#64) l):=bn N l hl l.length N 0 _ (by omega) (by omega)
theorem RQ(a:BitVec 64)(l:List Int)(h: ∀t:Nat,t<64→((t:Int)∈l↔a.getLsbD t=true)):ofB (0#64) l=a:=by
 refine BitVec.eq_of_getLsbD_eq fun t ht=> ?_
 rw [Ud l _ t ht,BitVec.getLsbD_zero,Bool.false_or,Bool.eq_iff_iff,decide_eq_true_eq]
 exact h t ht
theorem Vs(a:List Int)(hl:a.length<1000): ∀(j k i:Nat),j<k→i+j=a.length→Bj a a k (i:Int)=some true
 |0,k+1,i,_,hi=>by rw [Bj,if_neg (by omega)]
 |j+1,k+1,i,hk,hi=>by
  rw [Bj,if_pos (by omega),fck (by omega),fck (by omega),if_neg (by simp),fck (by omega)]
  exact Vs a hl j k (i+1) (by omega) (by omega)
theorem ar{N:Nat}(a:List Int)(hl:a.length<1000)(hN:1000≤N):Bz N a a=some true:=by
 unfold Bz
 rw [if_neg (by simp)]
 exact Vs a hl a.length N 0 (by omega) (by omega)
def II(a b:BitVec 64)(i:Nat):Bool:=(List.range i).all fun t=> !a.getLsbD t||b.getLsbD t
theorem Qi(a b:BitVec 64)(i:Nat):II a b (i+1)=(II a b i&&(!a.getLsbD i||b.getLsbD i)):=by
 unfold II;rw [List.range_succ,List.all_append];simp
theorem Vf(N:Nat)(a b:BitVec 64):Cn N a b=some (II a b 64):=by
 unfold Cn BU II
 rw [Option.bind_some,Option.some.injEq,Bool.eq_iff_iff,beq_iff_eq,List.all_eq_true]
 constructor
 ·intro h t ht
  have h2:=congrArg (fun z=>BitVec.getLsbD z t) h
  simp only [BitVec.getLsbD_and] at h2
  cases ha:a.getLsbD t with
  |false=>rfl
  |true=>rw [ha,Bool.true_and] at h2;rw [h2];rfl
 ·intro h
  refine BitVec.eq_of_getLsbD_eq fun t ht=> ?_
  rw [BitVec.getLsbD_and]
  have h2:=h t (List.mem_range.2 ht)
  cases ha:a.getLsbD t with
  |false=>rfl
  |true=>rw [ha] at h2;simpa using h2
end Go.Proofs.YtajdpjdejpcgnaaGreatDoor
