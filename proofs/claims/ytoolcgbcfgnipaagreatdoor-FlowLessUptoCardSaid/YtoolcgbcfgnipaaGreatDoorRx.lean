import Derived.Test.YtoolcgbcfgnipaaGreatDoorRh
namespace Go.Proofs.YtoolcgbcfgnipaaGreatDoor
open Go Go.RowKit Go.Eng
def Ys(p:List UInt8→Bool):List (List UInt8)→Nat→Int
 | [],_=> -1
 |x::r,k=>if p x=true then(k:Int)else Ys p r (k+1)
theorem Xb(n:Int)(h:okR n):(PS n).length≤4:=by
 obtain⟨c,rfl⟩: ∃c:Nat,n=(c:Int):=⟨n.toNat,by unfold okR at h;omega⟩
 rw [Rx h]
 split
 ·simp
 ·split
  ·simp
  ·split<;>simp
theorem Rr(N:Nat)(c a b:Int):Cm N c a b=some (decide (a≤c∧c≤b)):=by
 unfold Cm
 by_cases h:c≥a
 ·rw [if_pos h]
  by_cases h1:c≤b
  ·rw [zf h1,zf ⟨h,h1⟩]
  ·rw [ze h1,ze (fun h2=>h1 h2.2)]
 ·rw [if_neg h,ze (fun h2=>h h2.1)]
theorem uM{p:Prop}[Decidable p](q:Bool):(if p then some true else some q)=some (decide p||q):=by
 by_cases h:p<;>simp [h]
theorem jO(N:Nat)(c:Int)(h:c≠215∧c≠247∧c≠930):Hs N c=some (Lm c):=by
 unfold Hs
 simp only [Rr,q0,uM,decide_eq_true_eq]
 congr 1
 unfold Lm
 rw [Bool.eq_iff_iff]
 simp only [Bool.or_eq_true,decide_eq_true_eq]
 omega
theorem an(N:Nat)(c:Int):Jf N c=some (Lm c):=by
 unfold Jf
 by_cases h1:c=215
 ·subst h1;rfl
 by_cases h2:c=247
 ·subst h2;rfl
 by_cases h3:c=930
 ·subst h3;rfl
 rw [if_neg h1,if_neg h2,if_neg h3]
 exact jO N c ⟨h1,h2,h3⟩
theorem pU(N:Nat)(c:Int):Lk N c=some (decide (48≤c∧c≤57)):=by
 unfold Lk;rw [Rr];rfl
theorem ie{x:Int}(h: -2147483648≤x∧x≤2147483647):IntKind.i32.wrap x=x:=by
 rw [IntKind.wrap_i32];omega
theorem TQ(N:Nat)(c:Int)(h0: -2147483648≤c)(h1:c≤2147483647)(x:Bool)(hl:Lm c=true)(hx:x=true↔((65≤c∧c≤90)∨(192≤c∧c≤222)∨(913≤c∧c≤937)∨(1040≤c∧c≤1071))):HO N c x=some (JJ c):=by
 unfold Lm at hl
 rw [decide_eq_true_eq] at hl
 unfold HO JJ
 simp only [Rr,q0,decide_eq_true_eq]
 by_cases h:x=true
 ·have h2:=hx.mp h
  rw [if_pos h,if_pos (by omega),ie (by omega)]
 ·have h2: ¬_:=fun e=>h (hx.mpr e)
  rw [if_neg h]
  by_cases h3:1024≤c∧c≤1039
  ·rw [if_pos h3,if_neg (by omega),if_pos h3,ie (by omega)]
  ·rw [if_neg h3]
   by_cases h4:c=962
   ·rw [if_pos h4,if_neg (by omega),if_neg h3,if_pos h4]
   ·rw [if_neg h4,if_neg (by omega),if_neg h3,if_neg h4]
theorem tN(N:Nat)(c:Int)(h0: -2147483648≤c)(h1:c≤2147483647):Mm N c=some (JJ c):=by
 unfold Mm
 rw [an,q0]
 by_cases hl:Lm c=true
 ·rw [if_pos hl]
  simp only [Rr,q0,decide_eq_true_eq]
  by_cases g1:65≤c∧c≤90
  ·rw [if_pos g1];exact TQ N c h0 h1 _ hl (by rw [decide_eq_true_eq];omega)
  rw [if_neg g1]
  by_cases g2:192≤c∧c≤222
  ·rw [if_pos g2];exact TQ N c h0 h1 _ hl (by rw [decide_eq_true_eq];omega)
  rw [if_neg g2]
  by_cases g3:913≤c∧c≤937
  ·rw [if_pos g3];exact TQ N c h0 h1 _ hl (by rw [decide_eq_true_eq];omega)
  rw [if_neg g3]
  exact TQ N c h0 h1 _ hl (by rw [decide_eq_true_eq];omega)
 ·rw [if_neg hl]
  unfold Lm at hl
  rw [decide_eq_true_eq] at hl
  unfold JJ
  rw [if_neg (by omega),if_neg (by omega),if_neg (by omega)]
theorem eD(N:Nat)(c k:Int):IY N c k=some (if k>0 then inR c else Lm c):=by
 unfold IY
 rw [an,q0,pU]
 by_cases hl:Lm c=true
 ·rw [if_pos hl];split<;>simp [inR,hl]
 ·rw [if_neg hl]
  by_cases hk:k>0
  ·rw [if_pos hk,if_pos hk,q0]
   simp only [decide_eq_true_eq,uM]
   congr 1
   unfold inR
   have hl':Lm c=false:=by simpa using hl
   rw [hl',Bool.false_or,Bool.eq_iff_iff]
   simp only [Bool.or_eq_true,decide_eq_true_eq,beq_iff_eq]
  ·rw [if_neg hk,if_neg hk];simp at hl;rw [hl]
theorem jH(N:Nat)(s:List UInt8): ∀(m f k p:Nat),s.length≤p+m→m<f→p≤s.length→1≤k→k≤24→IF N s f (k:Int) p=some (decide (k+(Ac4 (s.drop p)).length≤24)&&(Ac4 (s.drop p)).all inR):=by
 intro m
 induction m using Nat.strongRecOn with
 |_ m ih=>
 intro f k p hm hf hp hk1 hk
 obtain⟨f,rfl⟩: ∃n,f=n+1:=⟨f - 1,by omega⟩
 rw [IF]
 by_cases h:p<s.length
 ·obtain⟨n1,n2⟩:=Yd h
  rw [if_pos h,Aj _ h,Sz h]
  by_cases h24:k=24
  ·subst h24
   rw [if_pos (show((24:Nat):Int)=24 from rfl),za,ze (by omega)];rfl
  ·rw [if_neg (show¬(k:Int)=24 by omega),eD,q0,if_pos (show(k:Int)>0 by omega)]
   by_cases hi:inR (runeAt s p:Int)=true
   ·have e:(k:Int)+1=((k+1:Nat):Int):=by omega
    rw [if_pos hi,Aj _ (by omega),e,ih (m - 1) (by omega) f (k+1) (Il s p) (by omega) (by omega) n2 (by omega) (by omega),za,List.all_cons,hi,Bool.true_and]
    congr 2
    exact decide_eq_decide.mpr (by omega)
   ·rw [if_neg hi,List.all_cons]
    simp at hi
    rw [hi];simp
 ·rw [if_neg h,Um h]
  have:decide ((k:Int)>0)=true:=zf (by omega)
  rw [this]
  simp [hk]
theorem sb(N:Nat)(s:List UInt8)(hN:s.length+1<N):KJ N s=some (aj (Ac4 s)):=by
 obtain⟨f,rfl⟩: ∃n,N=n+1:=⟨N - 1,by omega⟩
 have e0:s=s.drop 0:=by simp
 rw [KJ,IF]
 by_cases h:0<s.length
 ·obtain⟨n1,n2⟩:=Yd h
  have er:=Sz h
  rw [←e0] at er
  rw [if_pos h,Aj _ h,if_neg (show¬(0:Int)=24 by omega),eD,q0,if_neg (show¬(0:Int)>0 by omega),er]
  unfold aj
  rw [List.getElem!_cons_zero]
  by_cases hi:Lm (runeAt s 0:Int)=true
  ·have hin:inR (runeAt s 0:Int)=true:=by unfold inR;rw [hi];rfl
   have:=jH (f+1) s s.length f 1 (Il s 0) (by omega) (by omega) n2 (by omega) (by omega)
   rw [if_pos hi,Aj _ (by omega),show(0:Int)+1=((1:Nat):Int)from rfl,this,za,List.all_cons,hi,hin,Bool.true_and,Bool.and_true]
   congr 2
   exact decide_eq_decide.mpr (by omega)
  ·rw [if_neg hi]
   simp at hi
   rw [hi];simp
 ·rw [if_neg h]
  have:s=[]:=List.eq_nil_of_length_eq_zero (by omega)
  subst this;rfl
theorem uP: ∀n<32,(192:UInt8)|||UInt8.ofNat n=UInt8.ofNat (192+n):=by decide
theorem uO: ∀n<16,(224:UInt8)|||UInt8.ofNat n=UInt8.ofNat (224+n):=by decide
theorem uN: ∀n<8,(240:UInt8)|||UInt8.ofNat n=UInt8.ofNat (240+n):=by decide
theorem uQ: ∀n<256,(128:UInt8)|||(UInt8.ofNat n&&&63)=UInt8.ofNat (128+n%64):=by decide+kernel
theorem KA(c:Nat):Br (c:Int)=UInt8.ofNat (c%256):=by
 unfold Br
 rw [show(c:Int)%256=((c%256:Nat):Int)from by omega,q3]
theorem iP(c:Nat):ET (c:Int) 6=((c / 64:Nat):Int):=by
 show Int.fdiv (c:Int) (64:Int)=_
 rw [Int.fdiv_eq_ediv_of_nonneg _ (by decide)];omega
theorem iQ(c:Nat):ET (c:Int) 12=((c / 4096:Nat):Int):=by
 show Int.fdiv (c:Int) (4096:Int)=_
 rw [Int.fdiv_eq_ediv_of_nonneg _ (by decide)];omega
theorem sD(c:Nat):ET (c:Int) 18=((c / 262144:Nat):Int):=by
 show Int.fdiv (c:Int) (262144:Int)=_
 rw [Int.fdiv_eq_ediv_of_nonneg _ (by decide)];omega
theorem vt(N:Nat)(p:List UInt8)(hp:p.length≤10000000)(c:Nat)(h:okR (c:Int)):So N p (c:Int)=some (p++PS (c:Int)):=by
 have h':=h
 unfold okR at h'
 have hu:(((KO (c:Int)).toNat:Nat):Int)=(c:Int):=by
  unfold KO
  rw [show(c:Int)%4294967296=(c:Int)from by omega,q3,UInt32.toNat_ofNat'];omega
 have e128: ∀n,n<256→ ∀m,n%64=m%64→(128:UInt8)|||(UInt8.ofNat n&&&63)=UInt8.ofNat (128+m%64):=fun n hn m hm=>by rw [uQ n hn,hm]
 unfold So uNm
 rw [hu,Rx h]
 by_cases h1:c<128
 ·rw [if_pos (show(c:Int)≤127 by omega),Aj _ (by simp only [List.length_singleton];omega),if_pos h1,KA,show c%256=c from by omega]
 rw [if_neg (show¬(c:Int)≤127 by omega),if_neg h1]
 by_cases h2:c<2048
 ·rw [if_pos (show(c:Int)≤2047 by omega),Aj _ (by decide),Aj _ (by simp only [za,zj];omega),q0,if_pos h2,iP,KA,KA,show c / 64%256=c / 64 from by omega,uP _ (by omega),e128 _ (by omega) c (by omega)]
 rw [if_neg (show¬(c:Int)≤2047 by omega),if_neg h2]
 have k2:c<65536→ZG p (c:Int) true=some (p++ [UInt8.ofNat (224+c / 4096),UInt8.ofNat (128+c / 64%64),UInt8.ofNat (128+c%64)]):=fun h3=>by
  unfold ZG
  rw [if_pos rfl,Aj _ (by decide),Aj _ (by decide),Aj _ (by simp only [za,zj];omega),iP,iQ,KA,KA,KA,show c / 4096%256=c / 4096 from by omega,uO _ (by omega),e128 _ (by omega) (c / 64) (by omega),e128 _ (by omega) c (by omega)]
 by_cases h3:c<65536
 ·rw [if_pos h3]
  by_cases h4:c<55296
  ·rw [if_pos (show(c:Int)<55296 by omega),zf (show(c:Int)<55296 by omega),k2 h3];rfl
  ·rw [if_neg (show¬(c:Int)<55296 by omega),if_pos (show(57343:Int)<c by omega),zf (show(c:Int)≤65535 by omega),k2 h3];rfl
 ·rw [if_neg h3,if_neg (show¬(c:Int)<55296 by omega),if_pos (show(57343:Int)<c by omega),ze (show¬(c:Int)≤65535 by omega)]
  unfold ZG iw
  rw [if_neg (by decide),hu,if_pos (show(c:Int)>65535 by omega),if_pos (zf (show(c:Int)≤1114111 by omega)),Aj _ (by decide),Aj _ (by decide),Aj _ (by decide),Aj _ (by simp only [za,zj];omega),iP,iQ,sD,KA,KA,KA,KA,show c / 262144%256=c / 262144 from by omega,uN _ (by omega),e128 _ (by omega) (c / 4096) (by omega),e128 _ (by omega) (c / 64) (by omega),e128 _ (by omega) c (by omega)];rfl
theorem oo(N:Nat)(p:List UInt8)(hp:p.length≤10000000)(c:Int)(h:okR c):Jo N p c=some (((PS c).length:Int),p++PS c):=by
 have hc:=Xb c h
 obtain⟨n,rfl⟩: ∃n:Nat,c=(n:Int):=⟨c.toNat,by unfold okR at h;omega⟩
 unfold Jo JS JQ
 rw [q0,Aj _ rfl,vt N p hp n h,q0,Aj _ (by rw [q9];omega)]
 congr 2
 rw [q9];omega
theorem jW(N:Nat)(s:List UInt8)(hs:s.length≤1048576): ∀(m f p:Nat) (acc:List UInt8),s.length≤p+m→m<f→p≤s.length→acc.length≤4*p→JF N s f acc p=some (acc++XT ((Ac4 (s.drop p)).map JJ)):=by
 intro m
 induction m using Nat.strongRecOn with
 |_ m ih=>
 intro f p acc hm hf hp hacc
 obtain⟨f,rfl⟩: ∃n,f=n+1:=⟨f - 1,by omega⟩
 rw [JF]
 by_cases h:p<s.length
 ·obtain⟨n1,n2⟩:=Yd h
  have hok:okR (runeAt s p:Int):=by rw [(ZA h).1];exact kO _
  have hfo:=fp hok
  have hl:=Xb _ hfo
  have hb: -2147483648≤(runeAt s p:Int)∧(runeAt s p:Int)≤2147483647:=by unfold okR at hok;omega
  rw [if_pos h,Aj _ h,tN N _ hb.1 hb.2,q0,oo N acc (by omega) _ hfo,q0,ih (m - 1) (by omega) f (Il s p) _ (by omega) (by omega) n2 (by rw [q9];omega),Sz h,List.map_cons,XT,zu]
 ·rw [if_neg h,Um h]
  unfold Nb LY
  rw [Aj _ (by omega),q0]
  simp [XT]
theorem se(N:Nat)(s:List UInt8)(hs:s.length≤1048576)(hN:s.length<N):LL N s=some (RH s):=by
 have hg:Mj N (s.length:Int)=some []:=by
  unfold Mj JR MJ NG
  rw [q0,if_neg (by omega),Aj _ (by decide)]
  by_cases h:s=[]
  ·subst h;rfl
  ·have:=List.length_pos_iff.mpr h
   rw [if_pos (by simp;omega),Aj _ (by omega),Aj _ (by omega)];rfl
 rw [LL,hg,q0,jW N s hs s.length N 0 [] (by omega) hN (by omega) (by simp),j0];rfl
theorem kg(N:Nat)(l:List (List UInt8))(s:List UInt8)(hN:20000000<N)(hl:l.length≤1048576)(hall: ∀j,j<l.length→(l[j]!).length≤1048576): ∀(k f i:Nat),i+k=l.length→k<f→ZN N l (RH s) f (i:Int)=some (Ys (fun x=>RH x==RH s) (l.drop i) i):=by
 intro k
 induction k with
 |zero=>
  intro f i hi hf
  obtain⟨f,rfl⟩: ∃n,f=n+1:=⟨f - 1,by omega⟩
  rw [ZN,if_neg (by omega),List.drop_of_length_le (by omega)];rfl
 |succ k ih=>
  intro f i hi hf
  obtain⟨f,rfl⟩: ∃n,f=n+1:=⟨f - 1,by omega⟩
  have e1:(i:Int)+1=((i+1:Nat):Int):=by omega
  have hd:l.drop i=l[i]!::l.drop (i+1):=by rw [j5 (by omega),zg l i (by omega)]
  have hi300:=hall i (by omega)
  rw [ZN,if_pos (by omega),Aj _ (by omega),q3,Jp,se N _ (by omega) (by omega),q0,q0,hd,Ys]
  by_cases h:(RH (l[i]!)==RH s)=true
  ·rw [if_pos h,if_pos h]
  ·rw [if_neg h,if_neg h,Aj _ (by omega),e1]
   exact ih f (i+1) (by omega) (by omega)
theorem fl(N:Nat)(l:List (List UInt8))(s:List UInt8)(hN:20000000<N)(hl:l.length≤1048576)(hs:s.length≤1048576)(hall: ∀j,j<l.length→(l[j]!).length≤1048576):HN N l s=some (Ys (fun x=>RH x==RH s) l 0):=by
 have:=kg N l s hN hl hall l.length N 0 (by omega) (by omega)
 rw [HN,se N s (by omega) (by omega),q0,sfm,show(0:Int)=((0:Nat):Int)from rfl,this,j0];rfl
end Go.Proofs.YtoolcgbcfgnipaaGreatDoor
