import Derived.Test.YthmpbldidnmenaaGreatDoorRh
namespace Go.Proofs.YthmpbldidnmenaaGreatDoor
open Go Go.RowKit Go.Eng
def Oo(s:List UInt8):Bool:=decide ((46:UInt8) ∉ s)&&nL (Ae5 s)
def NA(a b:List UInt8):Bool:=decide (ad a=ad b)
theorem sL(a b:List Int):(Rt a b==0)=decide (a=b):=by
 rw [Bool.eq_iff_iff,beq_iff_eq,decide_eq_true_eq]
 rcases Up a b with⟨h,h'⟩|⟨h,_⟩|⟨h,_⟩
 ·exact⟨fun _=>h',fun _=>h⟩
 ·exact⟨fun h2=>by omega,fun h2=>by subst h2;rw [Ss] at h;omega⟩
 ·exact⟨fun h2=>by omega,fun h2=>by subst h2;rw [Ss] at h;omega⟩
theorem XW(s:List UInt8)(i:Nat)(h:i<s.length):(HQ s (i:Int):Int)=46↔s[i]=46:=by
 unfold HQ
 rw [q3,show s.getD i 0=s[i] from by simp [List.getD_eq_getElem?_getD,zo h]]
 constructor
 ·intro h1;exact UInt8.toNat_inj.1 (by have:(46:UInt8).toNat=46:=rfl;omega)
 ·intro h1;rw [h1];rfl
theorem cy(N:Nat)(s:List UInt8)(hs:s.length≤1048576)(hN:20000000<N): ∀(k f i:Nat),i+k=s.length→k<f→Cr N s f (i:Int)=some (decide ((46:UInt8) ∉ s.drop i)&&nL (Ae5 s)):=by
 intro k
 induction k with
 |zero=>
  intro f i hi hf
  obtain⟨f,rfl⟩: ∃n,f=n+1:=⟨f - 1,by omega⟩
  rw [Cr,if_neg (by omega),ZP N s (by omega) (by omega),List.drop_of_length_le (by omega)];simp
 |succ k ih=>
  intro f i hi hf
  obtain⟨f,rfl⟩: ∃n,f=n+1:=⟨f - 1,by omega⟩
  have e1:(i:Int)+1=((i+1:Nat):Int):=by omega
  rw [Cr,if_pos (by omega),Am _ (by omega),j5 (by omega)]
  by_cases h:s[i]'(by omega)=46
  ·rw [if_pos ((XW s i (by omega)).2 h),h];simp
  ·rw [if_neg (fun h2=>h ((XW s i (by omega)).1 h2)),Am _ (by omega),e1,ih f (i+1) (by omega) (by omega)]
   congr 2
   rw [Bool.eq_iff_iff,decide_eq_true_eq,decide_eq_true_eq,zr]
   exact⟨fun h2 h3=>h3.elim (fun e=>h e.symm) h2,fun h2 h3=>h2 (.inr h3)⟩
theorem Ok(N:Nat)(s:List UInt8)(hs:s.length≤1048576)(hN:20000000<N):CO N s=some (Oo s):=by
 have:=cy N s hs hN s.length N 0 (by omega) (by omega)
 rw [CO,show(0:Int)=((0:Nat):Int)from rfl,this];rfl
theorem QR(N:Nat)(a b:List UInt8)(ha:a.length≤1048576)(hb:b.length≤1048576)(hN:20000000<N):Ee N a b=some (NA a b):=by
 have:=fA a
 rw [Ee,Xr N a (by omega) (by omega),q0,Xr N b (by omega) (by omega),q0,cr N _ _ (by omega) (by omega),q0,sL];rfl
abbrev Fd:=List UInt8×Int
def Jo(l:List Fd):Int:=(l.map (·.2)).sum
def goF:List Fd→List Fd→Int
 |_,[]=>0
 |pre,f::r=>if Oo f.1=true then if pre.any (fun x=>NA x.1 f.1)=true then 6 else if f.2<1∨128<f.2 then 9 else goF (pre++ [f]) r else 4
def mK(e:List Fd)(c a b d:Int):Bool:=if c=0 then decide (a=0∧b=0∧d=0)else decide (1≤c∧c≤64∧0≤a∧a<(e.length:Int)∧(e[a.toNat]!).2≤16∧1≤b∧b≤64∧0≤d∧d≤4096)
def dw(a:List Fd)(c e b d:Int):Int:=if Jo a%8≠0 then 9 else if mK a c e b d=true then 0 else 7
def nY(c:List Fd)(b f a d e:Int):Int:=if e=0 then dw c b f a d else e
def Wg(d:List UInt8)(a:List Fd)(c f b e:Int):Int:=
 if Oo d=true then if 16<a.length then 2 else if a.length=0 then 5 else nY a c f b e (goF [] a)else 4
theorem ZC(a b:List Fd):Jo (a++b)=Jo a+Jo b:=by unfold Jo;rw [List.map_append,List.sum_append]
def okW(l:List Fd):Prop:= ∀x∈l,1≤x.2∧x.2≤128
theorem Ru: ∀l:List Fd,okW l→0≤Jo l∧Jo l≤128*(l.length:Int)
 | [],_=>by simp [Jo]
 |x::l,h=>by
  have h1:=h x (by simp)
  have h2:=Ru l (fun y hy=>h y (by simp [hy]))
  have e:Jo (x::l)=x.2+Jo l:=by simp [Jo]
  rw [e,za];omega
theorem iW: ∀(r pre:List Fd),goF pre r=0→okW r
 | [],_,_=>fun x hx=>by cases hx
 |f::r,pre,h=>by
  rw [goF] at h
  by_cases h1:Oo f.1=true
  ·rw [if_pos h1] at h
   by_cases h2:pre.any (fun x=>NA x.1 f.1)=true
   ·rw [if_pos h2] at h;omega
   ·rw [if_neg h2] at h
    by_cases h3:f.2<1∨128<f.2
    ·rw [if_pos h3] at h;omega
    ·rw [if_neg h3] at h
     intro x hx
     rcases List.mem_cons.1 hx with rfl|hx
     ·omega
     ·exact iW r _ h x hx
  ·rw [if_neg h1] at h;omega
theorem m16(b:Bool):Fc b=some (if b=true then 7 else 0):=by cases b<;>rfl
theorem m15(h5:Int)(b:Bool):DZ h5 b=some (if b=true∨4096<h5 then 7 else 0):=by unfold DZ;cases b<;>simp [m16]
theorem m14(h5:Int)(b:Bool):Ea h5 b=some (if b=true∨h5<0∨4096<h5 then 7 else 0):=by unfold Ea;cases b<;>simp [m15]
theorem m13(h4 h5:Int)(b:Bool):Eb h4 h5 b=some (if b=true∨64<h4∨h5<0∨4096<h5 then 7 else 0):=by unfold Eb;cases b<;>simp [m14]
theorem m12(h4 h5:Int)(b:Bool):CH h4 h5 b=some (if b=true∨h4<1∨64<h4∨h5<0∨4096<h5 then 7 else 0):=by unfold CH;cases b<;>simp [m13]
theorem m9(h1:List Fd)(h3 h4 h5:Int)(b:Bool):Ch h1 h3 h4 h5 b=some (if b=true∨ ¬(0≤h3∧h3<(h1.length:Int)∧(h1[h3.toNat]!).2≤16∧1≤h4∧h4≤64∧0≤h5∧h5≤4096)then 7 else 0):=by
 have t12:CH h4 h5 true=some 7:=by rw [m12,if_pos (.inl rfl)]
 have t11:CI h1 h3 h4 h5 true=some 7:=by rw [CI,if_pos rfl,t12]
 have t10:CJ h1 h3 h4 h5 true=some 7:=by rw [CJ,if_pos rfl,t11]
 unfold Ch
 cases b with
 |true=>rw [if_pos rfl,t10,if_pos (.inl rfl)]
 |false=>
  rw [if_neg (by decide)]
  by_cases a:h3<0
  ·rw [zf a,t10,if_pos (.inr (by omega))]
  rw [ze a,CJ,if_neg (by decide)]
  by_cases c:h3≥(h1.length:Int)
  ·rw [zf c,t11,if_pos (.inr (by omega))]
  rw [ze c,CI,if_neg (by decide),Am _ (by omega),m12]
  congr 1
  by_cases d:(h1[h3.toNat]!).2>16
  ·rw [zf d,if_pos (.inl rfl),if_pos (.inr (by omega))]
  ·rw [ze d]
   by_cases e:h4<1∨64<h4∨h5<0∨4096<h5
   ·rw [if_pos (.inr e),if_pos (.inr (by omega))]
   ·rw [if_neg (fun h=>h.elim (by decide) e),if_neg (fun h=>h.elim (by decide) (fun h=>h (by omega)))]
theorem m7(h5:Int)(b:Bool):Ci h5 b=some (if b=true∨h5≠0 then 7 else 0):=by
 have t8: ∀b,FF b=some (if b=true then 7 else 0):=fun b=>by cases b<;>rfl
 unfold Ci;cases b<;>simp [t8]
theorem gg(h1:List Fd)(h2 h3 h4 h5:Int)(hs:0≤Jo h1∧Jo h1≤9223372036854775807):
  ck (0≤Jo h1∧Jo h1≤9223372036854775807) (if(Jo h1%8:Int)≠0 then some 9 else if h2=0 then if(h3:Int)≠0 then Ci h5 true else Ci h5 (h4 !=0)else if h2<1 then Ch h1 h3 h4 h5 true else Ch h1 h3 h4 h5 (decide (h2>64)))=some (dw h1 h2 h3 h4 h5):=by
 rw [Am _ hs]
 unfold dw
 by_cases h8:Jo h1%8≠0
 ·rw [if_pos h8,if_pos h8]
 rw [if_neg h8,if_neg h8]
 unfold mK
 simp only [m7,m9]
 by_cases c2:h2=0
 ·rw [if_pos c2,if_pos c2]
  by_cases a:h3=0
  ·rw [if_neg (by omega)]
   by_cases b:h4=0∧h5=0
   ·rw [if_neg (by simp [b]),if_pos (zf ⟨a,b⟩)]
   ·rw [if_pos (by simp only [bne_iff_ne];omega),if_neg (fun h=>b (zd h).2)]
  ·rw [if_pos (by omega),if_pos (.inl trivial),if_neg (fun h=>a (zd h).1)]
 rw [if_neg c2,if_neg c2]
 by_cases a1:h2<1
 ·rw [if_pos a1,if_pos (.inl trivial),if_neg (fun h=>absurd (zd h) (by omega))]
 rw [if_neg a1]
 by_cases a2:h2>64
 ·rw [zf a2,if_pos (.inl rfl),if_neg (fun h=>absurd (zd h) (by omega))]
 rw [ze a2]
 by_cases a3:0≤h3∧h3<(h1.length:Int)∧(h1[h3.toNat]!).2≤16∧1≤h4∧h4≤64∧0≤h5∧h5≤4096
 ·rw [if_neg (fun h=>h.elim (by decide) (fun h=>h a3)),if_pos (zf ⟨by omega,by omega,a3⟩)]
 ·rw [if_pos (.inr a3),if_neg (fun h=>a3 (zd h).2.2)]
theorem qj{α:Type}[Inhabited α](l:List α)(i:Nat)(h:i<l.length):l.drop i=l[i]!::l.drop (i+1):=by rw [j5 h,zg l i h]
theorem bS{α:Type}[Inhabited α](l:List α)(i j:Nat)(hj:j<i)(hi:i≤l.length)(p:α→Bool):((l.take i).drop j).any p=(p (l[j]!)||((l.take i).drop (j+1)).any p):=by
 have hl:j<(l.take i).length:=by rw [q7];omega
 rw [j5 hl,List.any_cons,j4,zg l j (by omega)]
theorem fh(N:Nat)(h1:List Fd)(i:Nat)(hi:i<h1.length)(hl:h1.length≤1048576)(hall: ∀j,j<h1.length→((h1[j]!).1).length≤1048576)(hN:20000000<N)(sum:Int)(rec:Int→Int→Option Int):
  ∀(k f j:Nat),j+k=i→k<f→Cg N h1 sum (i:Int) rec f (j:Int)=(if((h1.take i).drop j).any (fun x=>NA x.1 (h1[i]!).1)=true then some 6 else if((h1[i]!).2:Int)<1 then some 9 else if((h1[i]!).2:Int)>128 then some 9 else Ey h1 sum (i:Int) rec false):=by
 intro k
 induction k with
 |zero=>
  intro f j hj hf
  obtain⟨f,rfl⟩: ∃n,f=n+1:=⟨f - 1,by omega⟩
  rw [Cg,if_neg (by omega),List.drop_of_length_le (by rw [q7];omega),q3,List.any_nil,if_neg Bool.false_ne_true]
  by_cases c:(h1[i]!).2<1
  ·rw [if_pos c,if_pos c];rfl
  ·rw [if_neg c,if_neg c]
   by_cases d:(h1[i]!).2>128
   ·rw [zf d,if_pos d];rfl
   ·rw [ze d,if_neg d]
 |succ k ih=>
  intro f j hj hf
  obtain⟨f,rfl⟩: ∃n,f=n+1:=⟨f - 1,by omega⟩
  have e1:(j:Int)+1=((j+1:Nat):Int):=by omega
  have a1:=hall j (by omega)
  have a2:=hall i hi
  rw [Cg,if_pos (by omega),Am _ (by omega),q3,q3,QR N _ _ (by omega) (by omega) hN,q0,bS h1 i j (by omega) (by omega)]
  by_cases h:NA (h1[j]!).1 (h1[i]!).1=true
  ·rw [if_pos h,if_pos (by rw [h];rfl)]
  ·rw [if_neg h,Am _ (by omega),e1,ih f (j+1) (by omega) (by omega),Bool.eq_false_iff.2 h,Bool.false_or]
theorem Xg{α:Type}[Inhabited α](l:List α)(i:Nat)(h:i<l.length):l.take (i+1)=l.take i++ [l[i]!]:=by rw [List.take_succ_eq_append_getElem h,zg l i h]
theorem Yi(N:Nat)(h1:List Fd)(h2 h3 h4 h5:Int)(hl:h1.length≤1048576)(hall: ∀j,j<h1.length→((h1[j]!).1).length≤1048576)(hN:20000000<N):
  ∀(k f i:Nat),i+k=h1.length→k<f→okW (h1.take i)→BD N h1 h2 h3 h4 h5 f (Jo (h1.take i)) (i:Int)=some (nY h1 h2 h3 h4 h5 (goF (h1.take i) (h1.drop i))):=by
 intro k
 induction k with
 |zero=>
  intro f i hi hf hw
  obtain⟨f,rfl⟩: ∃n,f=n+1:=⟨f - 1,by omega⟩
  have ht:h1.take i=h1:=j6 (by omega)
  rw [ht] at hw
  have:=Ru _ hw
  rw [BD,if_neg (by omega),List.drop_of_length_le (by omega),goF,nY,if_pos rfl,ht]
  exact gg h1 h2 h3 h4 h5 (by omega)
 |succ k ih=>
  intro f i hi hf hw
  obtain⟨f,rfl⟩: ∃n,f=n+1:=⟨f - 1,by omega⟩
  have e1:(i:Int)+1=((i+1:Nat):Int):=by omega
  have hd:h1.drop i=h1[i]!::h1.drop (i+1):=by rw [j5 (by omega),zg h1 i (by omega)]
  have a2:=hall i (by omega)
  rw [BD,if_pos (by omega),Am _ (by omega),q3,Ok N _ (by omega) hN,q0,hd,goF]
  by_cases c1:Oo (h1[i]!).1=true
  ·rw [if_pos c1,if_pos c1,show(0:Int)=((0:Nat):Int)from rfl,fh N h1 i (by omega) hl hall hN _ _ i N 0 (by omega) (by omega),j0]
   by_cases c2:(h1.take i).any (fun x=>NA x.1 (h1[i]!).1)=true
   ·rw [if_pos c2,if_pos c2];rfl
   rw [if_neg c2,if_neg c2]
   by_cases c3:(h1[i]!).2<1
   ·rw [if_pos c3,if_pos (Or.inl c3)];rfl
   rw [if_neg c3]
   by_cases c4:(h1[i]!).2>128
   ·rw [if_pos c4,if_pos (Or.inr c4)];rfl
   have hw':okW (h1.take (i+1)):=by
    rw [Xg h1 i (by omega)]
    intro x hx
    rcases List.mem_append.1 hx with hx|hx
    ·exact hw x hx
    ·rw [List.mem_singleton.1 hx];omega
   have hs:=Ru _ hw
   have hlt:(h1.take i).length≤1048576:=by rw [q7];omega
   have es:Jo (h1.take i)+(h1[i]!).2=Jo (h1.take (i+1)):=by rw [Xg h1 i (by omega),ZC];simp [Jo]
   rw [if_neg c4,if_neg (by omega: ¬((h1[i]!).2<1∨128<(h1[i]!).2)),Ey,if_neg (by decide),q3,Am _ (by omega),Am _ (by omega),e1,es,ih f (i+1) (by omega) (by omega) hw',←Xg h1 i (by omega)]
  ·rw [if_neg c1,if_neg c1];rfl
theorem fj(N:Nat)(h0:List UInt8)(h1:List Fd)(h2 h3 h4 h5:Int)(h0l:h0.length≤1048576)(hl:h1.length≤1048576)(hall: ∀j,j<h1.length→((h1[j]!).1).length≤1048576)(hN:20000000<N):FX N h0 h1 h2 h3 h4 h5=some (Wg h0 h1 h2 h3 h4 h5):=by
 unfold FX Wg
 rw [Ok N h0 (by omega) hN,q0]
 by_cases c1:Oo h0=true
 ·rw [if_pos c1,if_pos c1]
  by_cases c2:16<h1.length
  ·rw [if_pos (by omega),if_pos c2]
  rw [if_neg (by omega),if_neg c2]
  by_cases c3:h1.length=0
  ·rw [if_pos (by omega),if_pos c3]
  rw [if_neg (by omega),if_neg c3]
  have:=Yi N h1 h2 h3 h4 h5 hl hall hN h1.length N 0 (by omega) (by omega) (fun x hx=>by simp at hx)
  rw [List.take_zero,j0] at this
  exact this
 ·rw [if_neg c1,if_neg c1]
end Go.Proofs.YthmpbldidnmenaaGreatDoor
