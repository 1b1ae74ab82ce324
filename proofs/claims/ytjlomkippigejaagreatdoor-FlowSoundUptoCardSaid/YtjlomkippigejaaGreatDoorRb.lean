import Derived.Test.YtjlomkippigejaaGreatDoorIt
import Derived.Test.YtjlomkippigejaaGreatDoorBl
namespace Go.Proofs.YtjlomkippigejaaGreatDoor
open Go Go.RowKit Go.Eng
def Lu(n:Nat):Prop:=128<=n/\n<192
instance (n:Nat):Decidable (Lu n):=inferInstanceAs (Decidable (_/\_))
def SY(a b c d n:Nat):Nat×Nat:=
  if a<128 then(a,1)
  else if 194<=a/\a<224/\2<=n/\Lu b then(64*(a - 192)+(b - 128),2)
  else if 224<=a/\a<240/\3<=n/\Lu b/\Lu c/\2048<=4096*(a - 224)+64*(b - 128)+(c - 128)/\(4096*(a - 224)+64*(b - 128)+(c - 128)<55296\/57343<4096*(a - 224)+64*(b - 128)+(c - 128))then(4096*(a - 224)+64*(b - 128)+(c - 128),3)
  else if 240<=a/\a<245/\4<=n/\Lu b/\Lu c/\Lu d/\65536<=262144*(a - 240)+4096*(b - 128)+64*(c - 128)+(d - 128)/\262144*(a - 240)+4096*(b - 128)+64*(c - 128)+(d - 128)<=1114111 then(262144*(a - 240)+4096*(b - 128)+64*(c - 128)+(d - 128),4)
  else(65533,1)
def vR(a b c d n:Nat):Nat×Nat:=
  if a<0x80 then(a,1)
  else if a / 32==6&&(decide (1<n)&&b / 64==2)then
    if a%32*64+b%64>=0x80 then(a%32*64+b%64,2)else(65533,1)
  else if a / 16==14&&(decide (1<n)&&b / 64==2)&&(decide (2<n)&&c / 64==2)then
    if a%16*4096+b%64*64+c%64>=0x800&&Utf8.valid ((a%16*4096+b%64*64+c%64:Nat):Int)then(a%16*4096+b%64*64+c%64,3)else(65533,1)
  else if a / 8==30&&(decide (1<n)&&b / 64==2)&&(decide (2<n)&&c / 64==2)&&(decide (3<n)&&d / 64==2)then
    if a%8*262144+b%64*4096+c%64*64+d%64>=0x10000&&Utf8.valid ((a%8*262144+b%64*4096+c%64*64+d%64:Nat):Int)then(a%8*262144+b%64*4096+c%64*64+d%64,4)else(65533,1)
  else(65533,1)
theorem rQ(b0 b1 b2 b3 n:Nat)(h0:b0<256)(h1:b1<256)(h2:b2<256)(h3:b3<256):vR b0 b1 b2 b3 n=SY b0 b1 b2 b3 n:=by
  unfold vR SY Lu Utf8.valid
  simp only [Bool.and_eq_true,beq_iff_eq,decide_eq_true_eq,Bool.or_eq_true,ge_iff_le]
  by_cases g0:b0<128
  · rw [if_pos g0,if_pos g0]
  rw [if_neg g0,if_neg g0]
  split
  · rename_i h
    split
    · rw [if_pos (by omega)];exact Prod.ext (by show b0%32*64+b1%64=64*(b0 - 192)+(b1 - 128);omega) Z
    · rw [if_neg (by omega),if_neg (by omega),if_neg (by omega)]
  · rename_i h
    split
    · rename_i h2
      have e:b0%16*4096+b1%64*64+b2%64=4096*(b0 - 224)+64*(b1 - 128)+(b2 - 128):=by omega
      rw [e]
      split
      · rw [if_neg (by omega),if_pos (by omega)]
      · rw [if_neg (by omega),if_neg (by omega),if_neg (by omega)]
    · rename_i h2
      split
      · rename_i h3
        have e:b0%8*262144+b1%64*4096+b2%64*64+b3%64=262144*(b0 - 240)+4096*(b1 - 128)+64*(b2 - 128)+(b3 - 128):=by omega
        rw [e]
        split
        · rw [if_neg (by omega),if_neg (by omega),if_pos (by omega)]
        · rw [if_neg (by omega),if_neg (by omega),if_neg (by omega)]
      · rw [if_neg (by omega),if_neg (by omega),if_neg (by omega)]
theorem xh(s:W2)(i:Nat):(⟨s.toArray⟩:ByteArray).get! i=s.getD i 0:=by
  show s.toArray[i]! =_
  rw [List.getElem!_toArray,List.getElem!_eq_getElem?_getD,List.getD_eq_getElem?_getD];rfl
theorem jq(s:W2)(p k:Nat):(s.drop p).getD k 0=s.getD (p+k) 0:=by
  rw [List.getD_eq_getElem?_getD,List.getD_eq_getElem?_getD,List.getElem?_drop]
def dec(s:W2):Nat×Nat:=SY (s.getD 0 0).toNat (s.getD 1 0).toNat (s.getD 2 0).toNat (s.getD 3 0).toNat s.length
theorem fF(s:W2)(p:Nat)(h:p<s.length):Utf8.decode ⟨s.toArray⟩ p=dec (s.drop p):=by
  unfold dec
  rw [<-rQ _ _ _ _ _ (UInt8.toNat_lt _) (UInt8.toNat_lt _) (UInt8.toNat_lt _) (UInt8.toNat_lt _)]
  unfold Utf8.decode vR
  have hs:(⟨s.toArray⟩:ByteArray).size=s.length:=Z
  simp only [xh,jq,zk,hs,Nat.add_zero,Utf8.runeError]
  have e: ∀k,(p+k<s.length)=(k<s.length - p):=λk=>propext (by omega)
  simp only [e]
end Go.Proofs.YtjlomkippigejaaGreatDoor
namespace Go.Proofs.YtjlomkippigejaaGreatDoor
open Go Go.RowKit Go.Eng
theorem vU(b0 b1 b2 b3 n:Nat)(h:1<=n):1<=(SY b0 b1 b2 b3 n).2/\(SY b0 b1 b2 b3 n).2<=n/\(SY b0 b1 b2 b3 n).2<=4:=by
  unfold SY
  split
  · show 1<=1/\1<=n/\1<=4;omega
  · split
    · show 1<=2/\2<=n/\2<=4;omega
    · split
      · show 1<=3/\3<=n/\3<=4;omega
      · split
        · show 1<=4/\4<=n/\4<=4;omega
        · show 1<=1/\1<=n/\1<=4;omega
def okR(n:Int):Prop:=(0<=n/\n<55296)\/(57344<=n/\n<=1114111)
theorem rR(b0 b1 b2 b3 n:Nat):okR ((SY b0 b1 b2 b3 n).1:Int):=by
  unfold SY okR Lu
  split
  · left;show(0:Int)<=(b0:Int)/\(b0:Int)<55296;omega
  · split
    · rename_i h1;left;show(0:Int)<=((64*(b0 - 192)+(b1 - 128):Nat):Int)/\((64*(b0 - 192)+(b1 - 128):Nat):Int)<55296;omega
    · split
      · rename_i h1
        show((0:Int)<=((4096*(b0 - 224)+64*(b1 - 128)+(b2 - 128):Nat):Int)/\((4096*(b0 - 224)+64*(b1 - 128)+(b2 - 128):Nat):Int)<55296)\/(57344<=((4096*(b0 - 224)+64*(b1 - 128)+(b2 - 128):Nat):Int)/\((4096*(b0 - 224)+64*(b1 - 128)+(b2 - 128):Nat):Int)<=1114111)
        omega
      · split
        · rename_i h1;right
          show(57344:Int)<=((262144*(b0 - 240)+4096*(b1 - 128)+64*(b2 - 128)+(b3 - 128):Nat):Int)/\((262144*(b0 - 240)+4096*(b1 - 128)+64*(b2 - 128)+(b3 - 128):Nat):Int)<=1114111
          omega
        · right;exact⟨by decide,by decide⟩
theorem YT(s:W2)(h:s≠ []):1<=(dec s).2/\(dec s).2<=s.length/\(dec s).2<=4:=vU _ _ _ _ _ (List.length_pos_iff.mpr h)
theorem mw(s:W2):okR ((dec s).1:Int):=rR _ _ _ _ _
def NF:Nat->W2->List Int
  |0,_=> []
  |f+1,s=>if s=[] then [] else((dec s).1:Int)::NF f (s.drop (dec s).2)
theorem YB: ∀(f g:Nat) (s:W2),s.length<=f->s.length<=g->NF f s=NF g s
  |0,0,_,_,_=>rfl
  |0,g+1,s,h,_=>by
    have:s=[]:=List.eq_nil_of_length_eq_zero (by omega)
    rw [NF,NF,if_pos this]
  |f+1,0,s,_,h=>by
    have:s=[]:=List.eq_nil_of_length_eq_zero (by omega)
    rw [NF,NF,if_pos this]
  |f+1,g+1,s,h,h'=>by
    rw [NF,NF]
    by_cases hs:s=[]
    · rw [if_pos hs,if_pos hs]
    · have:=YT s hs
      rw [if_neg hs,if_neg hs,YB f g _ (by rw [zk];omega) (by rw [zk];omega)]
def Ac5(s:W2):List Int:=NF s.length s
theorem eS:Ac5 []=[]:=Z
theorem ML{s:W2}(h:s≠ []):Ac5 s=((dec s).1:Int)::Ac5 (s.drop (dec s).2):=by
  have hw:=YT s h
  unfold Ac5
  obtain⟨k,hk⟩: ∃k,s.length=k+1:=⟨s.length - 1,by omega⟩
  rw [hk,NF,if_neg h,YB k _ _ (by rw [zk];omega) (Nat.le_refl _)]
theorem YA{p:W2->Prop}(h0:p [])(h1: ∀s,s≠ []->p (s.drop (dec s).2)->p s): ∀s,p s:=by
  have: ∀n s,s.length<=n->p s:=by
    intro n
    induction n with
    |zero=>intro s h;rw [List.eq_nil_of_length_eq_zero (by omega:s.length=0)];exact h0
    |succ n ih=>
      intro s h
      by_cases hs:s=[]
      · rw [hs];exact h0
      · have:=YT s hs
        exact h1 s hs (ih _ (by rw [zk];omega))
  exact λs=>this s.length s (Nat.le_refl _)
theorem RQ(s:W2):(Ac5 s).length<=s.length:=by
  refine YA (p:=λs=>(Ac5 s).length<=s.length) (Nat.le_refl _) (λs hs ih=> ?_) s
  have:=YT s hs
  rw [ML hs,za];rw [zk] at ih;omega
theorem iK(s:W2): ∀n∈Ac5 s,okR n:=by
  refine YA (p:=λs=> ∀n∈Ac5 s,okR n) (λ_ h=>(nomatch h)) (λs hs ih=> ?_) s
  rw [ML hs]
  intro n hn
  rcases List.mem_cons.mp hn with rfl|hn
  · exact mw s
  · exact ih n hn
theorem bf{s:W2}{p:Nat}(h:p<s.length):runeAt s p=(dec (s.drop p)).1/\IP s p=p+(dec (s.drop p)).2:=by
  unfold runeAt IP runeW
  rw [if_pos h,fF s p h];exact⟨Z,Z⟩
theorem gX{s:W2}{p:Nat}(h:p<s.length):s.drop p≠ []:=λe=>by
  have:=congrArg List.length e
  rw [zk,zj] at this;omega
theorem ZF{s:W2}{p:Nat}(h:p<s.length):p<IP s p/\IP s p<=s.length:=by
  have:=YT _ (gX h)
  rw [zk] at this
  rw [(bf h).2];omega
theorem Tv{s:W2}{p:Nat}(h:p<s.length):Ac5 (s.drop p)=(runeAt s p:Int)::Ac5 (s.drop (IP s p)):=by
  rw [ML (gX h),(bf h).1,(bf h).2,List.drop_drop]
theorem Vm{s:W2}{p:Nat}(h: ¬p<s.length):Ac5 (s.drop p)=[]:=by
  rw [List.drop_of_length_le (by omega)];rfl
theorem jR{n:Int}(h:okR n):Utf8.valid n=true:=by
  unfold okR at h;unfold Utf8.valid
  simp only [Bool.or_eq_true,Bool.and_eq_true,decide_eq_true_eq];omega
theorem OX{n:Nat}(h:n<256):(UInt8.ofNat n).toNat=n:=by rw [UInt8.toNat_ofNat'];omega
theorem TK{p:Prop}[Decidable p](a b:ByteArray)(x y:W2)(ha:a.data.toList=x)(hb:b.data.toList=y):(if p then a else b).data.toList=if p then x else y:=by
  split<;>assumption
theorem ml(n:Int)(c:Nat)(h:(if Utf8.valid n then n.toNat else Utf8.runeError)=c):(Utf8.encode n).data.toList=if c<128 then [UInt8.ofNat c] else if c<2048 then [UInt8.ofNat (192+c / 64),UInt8.ofNat (128+c%64)]
    else if c<65536 then [UInt8.ofNat (224+c / 4096),UInt8.ofNat (128+c / 64%64),UInt8.ofNat (128+c%64)]
    else [UInt8.ofNat (240+c / 262144),UInt8.ofNat (128+c / 4096%64),UInt8.ofNat (128+c / 64%64),UInt8.ofNat (128+c%64)]:=by
  subst h
  exact TK _ _ _ _ Z (TK _ _ _ _ Z (TK _ _ _ _ Z Z))
theorem iL(n:Int):QB n=(Utf8.encode n).data.toList:=Z
theorem ws{c:Nat}(h:okR (c:Int)):(if Utf8.valid (c:Int)=true then(c:Int).toNat else Utf8.runeError)=c:=by
  have h1:=jR h
  exact(if_pos h1).trans (q3 c)
theorem Sx{c:Nat}(h:okR (c:Int)):QB (c:Int)=if c<128 then [UInt8.ofNat c] else if c<2048 then [UInt8.ofNat (192+c / 64),UInt8.ofNat (128+c%64)]
    else if c<65536 then [UInt8.ofNat (224+c / 4096),UInt8.ofNat (128+c / 64%64),UInt8.ofNat (128+c%64)]
    else [UInt8.ofNat (240+c / 262144),UInt8.ofNat (128+c / 4096%64),UInt8.ofNat (128+c / 64%64),UInt8.ofNat (128+c%64)]:= 
 (iL _).trans (ml _ c (ws h))
theorem ms{c:Nat}(h:okR (c:Int))(r:W2):dec (QB (c:Int)++r)=(c,(QB (c:Int)).length):=by
  rw [Sx h]
  unfold okR at h
  split
  · rename_i h1
    unfold dec
    simp only [List.cons_append,j7,List.getD_cons_zero,OX (show c<256 by omega)]
    unfold SY;rw [if_pos h1];rfl
  · split
    · rename_i h0 h1
      unfold dec
      simp only [List.cons_append,j7,List.getD_cons_zero,List.getD_cons_succ,OX (show 192+c / 64<256 by omega),OX (show 128+c%64<256 by omega),za]
      unfold SY Lu
      rw [if_neg (by omega),if_pos (by omega)]
      exact Prod.ext (by show 64*(192+c / 64 - 192)+(128+c%64 - 128)=c;omega) Z
    · split
      · rename_i h0 h1 h2
        have e:4096*(224+c / 4096 - 224)+64*(128+c / 64%64 - 128)+(128+c%64 - 128)=c:=by omega
        unfold dec
        simp only [List.cons_append,j7,List.getD_cons_zero,List.getD_cons_succ,OX (show 224+c / 4096<256 by omega),OX (show 128+c / 64%64<256 by omega),OX (show 128+c%64<256 by omega),za]
        unfold SY Lu
        rw [if_neg (by omega),if_neg (by omega),e,if_pos (by omega)];rfl
      · rename_i h0 h1 h2
        have e:262144*(240+c / 262144 - 240)+4096*(128+c / 4096%64 - 128)+64*(128+c / 64%64 - 128)+(128+c%64 - 128)=c:=by omega
        unfold dec
        simp only [List.cons_append,j7,List.getD_cons_zero,List.getD_cons_succ,OX (show 240+c / 262144<256 by omega),OX (show 128+c / 4096%64<256 by omega),OX (show 128+c / 64%64<256 by omega),OX (show 128+c%64<256 by omega),za]
        unfold SY Lu
        rw [if_neg (by omega),if_neg (by omega),if_neg (by omega),e,if_pos (by omega)];rfl
theorem km{c:Nat}(h:okR (c:Int)):QB (c:Int)≠ []:=by
  rw [Sx h]
  split
  · exact List.cons_ne_nil _ _
  · split
    · exact List.cons_ne_nil _ _
    · split<;>exact List.cons_ne_nil _ _
theorem Vl: ∀(l:List Int),(∀n∈l,okR n)->Ac5 (Zt l)=l
  | [],_=>rfl
  |n::l,h=>by
    have hn:=h n (by simp)
    obtain⟨c,rfl⟩: ∃c:Nat,n=(c:Int):=⟨n.toNat,by unfold okR at hn;omega⟩
    have e:=ms hn (Zt l)
    have hne:QB (c:Int)++Zt l≠ []:=λh'=>km hn (List.append_eq_nil_iff.mp h').1
    rw [Zt,ML hne,e]
    dsimp only
    rw [List.drop_left,Vl l (λn hn=>h n (by simp [hn]))]
end Go.Proofs.YtjlomkippigejaaGreatDoor
namespace Go.Proofs.YtjlomkippigejaaGreatDoor
open Go Go.RowKit Go.Eng
def LO(c:Int):Bool:=decide (((65<=c/\c<=90)\/(97<=c/\c<=122)\/c=95\/(192<=c/\c<=591)\/(913<=c/\c<=969)\/(1024<=c/\c<=1279))/\c≠215/\c≠247/\c≠930)
def inR(c:Int):Bool:=LO c||decide ((48<=c/\c<=57)\/c=45\/c=46)
def bV(l:List Int):Bool:=decide (1<=l.length/\l.length<=24)&&LO (l[0]!)&&l.all inR
end Go.Proofs.YtjlomkippigejaaGreatDoor
namespace Go.Proofs.YtjlomkippigejaaGreatDoor
open Go Go.RowKit Go.Eng
theorem TF(N:Nat)(c:UInt8):Cp N c=some (decide (Lu c.toNat)):=by
 unfold Cp Lu
 by_cases h:((c.toNat:Nat):Int)>=128
 ·rw [if_pos h];refine congrArg some (decide_eq_decide.mpr ?_);omega
 ·rw [if_neg h];exact congrArg some (ze (by omega)).symm
section
variable (N:Nat) (s:W2)
def c4(s:W2):Int:=262144*((((Au s 0).toNat:Nat):Int) - 240)+4096*((((Au s 1).toNat:Nat):Int) - 128)+64*((((Au s 2).toNat:Nat):Int) - 128)+(((Au s 3).toNat:Nat):Int) - 128
def c3(s:W2):Int:=4096*((((Au s 0).toNat:Nat):Int) - 224)+64*((((Au s 1).toNat:Nat):Int) - 128)+(((Au s 2).toNat:Nat):Int) - 128
def c2(s:W2):Int:=64*((((Au s 0).toNat:Nat):Int) - 192)+(((Au s 1).toNat:Nat):Int) - 128
def v4(s:W2)(x:Bool):Int×Int:=if x=true/\65536<=c4 s/\c4 s<=1114111 then(c4 s,4)else(65533,1)
theorem xN(x:Bool)(hx:x=true->4<=s.length):CK s x=some (v4 s x):=by
 have h0:=(Au s 0).toNat_lt;have h1:=(Au s 1).toNat_lt;have h2:=(Au s 2).toNat_lt;have h3:=(Au s 3).toNat_lt
 unfold CK v4 c4
 by_cases h:x=true
 ·have:=hx h
  rw [if_pos h]
  repeat rw [Af _ (by omega)]
  unfold Gn
  split
  ·split
   ·rename_i d;have:=zd d;rw [if_pos (by refine⟨h, ?_, ?_⟩<;>omega)]
   ·rename_i d;simp only [decide_eq_true_eq] at d;rw [if_neg (by intro h';omega)]
  ·rw [if_neg (by decide),if_neg (by intro h';omega)]
 ·rw [if_neg h,if_neg (λh'=>h h'.1)]
def x4(s:W2):Bool:=decide (240<=(((Au s 0).toNat:Nat):Int)/\(((Au s 0).toNat:Nat):Int)<245/\4<=s.length/\Lu (Au s 1).toNat/\Lu (Au s 2).toNat/\Lu (Au s 3).toNat)
theorem xc:Fm N s=some (v4 s (x4 s)):=by
 have key: ∀x,(x=true->4<=s.length)->x=x4 s->CK s x=some (v4 s (x4 s)):=λx h e=>by rw [xN s x h,e]
 have no: ¬(240<=(((Au s 0).toNat:Nat):Int)/\(((Au s 0).toNat:Nat):Int)<245/\4<=s.length/\Lu (Au s 1).toNat/\Lu (Au s 2).toNat/\Lu (Au s 3).toNat)->CK s false=some (v4 s (x4 s)):=λh=>key false (λh=>(nomatch h)) (by unfold x4;exact(ze h).symm)
 unfold Fm
 by_cases h0:(((Au s 0).toNat:Nat):Int)>=240
 ·rw [if_pos h0]
  by_cases h1:(((Au s 0).toNat:Nat):Int)<245
  ·rw [zf h1,GM,if_pos Z]
   by_cases h2:(s.length:Int)>=4
   ·rw [zf h2,GL,if_pos Z,Af _ (by omega),TF,q0]
    by_cases g1:Lu (Au s 1).toNat
    ·rw [zf g1,GK,if_pos Z,Af _ (by omega),TF,q0]
     by_cases g2:Lu (Au s 2).toNat
     ·rw [zf g2,GJ,if_pos Z,Af _ (by omega),TF,q0]
      refine key _ (λ_=>by omega) ?_
      unfold x4
      exact decide_eq_decide.mpr ⟨λh=>⟨by omega,h1,by omega,g1,g2,h⟩,λh=>h.2.2.2.2.2⟩
     ·rw [ze g2];exact no (λh=>g2 h.2.2.2.2.1)
    ·rw [ze g1];exact no (λh=>g1 h.2.2.2.1)
   ·rw [ze h2];exact no (λh=>h2 (by omega))
  ·rw [ze h1];exact no (λh=>h1 h.2.1)
 ·rw [if_neg h0];exact no (λh=>h0 h.1)
def v3(s:W2)(x:Bool):Int×Int:=if x=true/\2048<=c3 s/\(c3 s<55296\/57343<c3 s)then(c3 s,3)else v4 s (x4 s)
theorem xd(x:Bool)(hx:x=true->3<=s.length):Cx N s x=some (v3 s x):=by
 have h0:=(Au s 0).toNat_lt;have h1:=(Au s 1).toNat_lt;have h2:=(Au s 2).toNat_lt
 unfold Cx v3 c3
 rw [xc]
 by_cases h:x=true
 ·have:=hx h
  rw [if_pos h]
  repeat rw [Af _ (by omega)]
  unfold EX
  rw [xc]
  split
  ·split
   ·rw [if_pos Z,if_pos (by refine⟨h, ?_, ?_⟩<;>omega)]
   ·split
    ·rename_i d;have:=zd d;rw [if_pos (by refine⟨h, ?_, ?_⟩<;>omega)]
    ·rename_i d;simp only [decide_eq_true_eq] at d;rw [if_neg (by intro h';omega)]
  ·rw [if_neg (by decide),if_neg (by intro h';omega)]
 ·rw [if_neg h,if_neg (λh'=>h h'.1)]
def x3(s:W2):Bool:=decide (224<=(((Au s 0).toNat:Nat):Int)/\(((Au s 0).toNat:Nat):Int)<240/\3<=s.length/\Lu (Au s 1).toNat/\Lu (Au s 2).toNat)
def v2(s:W2)(x:Bool):Int×Int:=if x=true then(c2 s,2)else v3 s (x3 s)
theorem xO(x:Bool)(hx:x=true->2<=s.length):CL N s x=some (v2 s x):=by
 have g0:=(Au s 0).toNat_lt;have g1:=(Au s 1).toNat_lt
 unfold CL v2 c2
 by_cases h:x=true
 ·have:=hx h
  rw [if_pos h,if_pos h]
  repeat rw [Af _ (by omega)]
 ·rw [if_neg h,if_neg h]
  have key: ∀x,(x=true->3<=s.length)->x=x3 s->Cx N s x=some (v3 s (x3 s)):=λx h e=>by rw [xd N s x h,e]
  have no: ¬(224<=(((Au s 0).toNat:Nat):Int)/\(((Au s 0).toNat:Nat):Int)<240/\3<=s.length/\Lu (Au s 1).toNat/\Lu (Au s 2).toNat)->Cx N s false=some (v3 s (x3 s)):=λh=>key false (λh=>(nomatch h)) (by unfold x3;exact(ze h).symm)
  by_cases h0:(((Au s 0).toNat:Nat):Int)>=224
  ·rw [if_pos h0]
   by_cases h1:(((Au s 0).toNat:Nat):Int)<240
   ·rw [zf h1,Gm,if_pos Z]
    by_cases h2:(s.length:Int)>=3
    ·rw [zf h2,Gl,if_pos Z,Af _ (by omega),TF,q0]
     by_cases g1:Lu (Au s 1).toNat
     ·rw [zf g1,Gk,if_pos Z,Af _ (by omega),TF,q0]
      refine key _ (λ_=>by omega) ?_
      unfold x3
      exact decide_eq_decide.mpr ⟨λh=>⟨by omega,h1,by omega,g1,h⟩,λh=>h.2.2.2.2⟩
     ·rw [ze g1];exact no (λh=>g1 h.2.2.2.1)
    ·rw [ze h2];exact no (λh=>h2 (by omega))
   ·rw [ze h1];exact no (λh=>h1 h.2.1)
  ·rw [if_neg h0];exact no (λh=>h0 h.1)
def x2(s:W2):Bool:=decide (194<=(((Au s 0).toNat:Nat):Int)/\(((Au s 0).toNat:Nat):Int)<224/\2<=s.length/\Lu (Au s 1).toNat)
theorem xo(h:s≠ []):(if(((Au s 0).toNat:Nat):Int)<128 then((((Au s 0).toNat:Nat):Int),1)else v2 s (x2 s))=(((dec s).1:Int),((dec s).2:Int)):=by
 have e0:s.getD 0 0=Au s 0:=Z
 have e1:s.getD 1 0=Au s 1:=Z
 have e2:s.getD 2 0=Au s 2:=Z
 have e3:s.getD 3 0=Au s 3:=Z
 unfold dec SY v2 v3 v4 x2 x3 x4 c2 c3 c4 Lu
 rw [e0,e1,e2,e3]
 have h0:=(Au s 0).toNat_lt;have h1:=(Au s 1).toNat_lt;have h2:=(Au s 2).toNat_lt;have h3:=(Au s 3).toNat_lt
 generalize (Au s 0).toNat=b0 at*
 generalize (Au s 1).toNat=b1 at*
 generalize (Au s 2).toNat=b2 at*
 generalize (Au s 3).toNat=b3 at*
 simp only [decide_eq_true_eq]
 by_cases g0:b0<128
 ·rw [if_pos (by omega),if_pos g0];rfl
 rw [if_neg (by omega),if_neg g0]
 by_cases g1:194<=b0/\b0<224/\2<=s.length/\128<=b1/\b1<192
 ·rw [if_pos (by omega),if_pos g1]
  exact Prod.ext (by show(64*((b0:Int) - 192)+(b1:Int) - 128)=((64*(b0 - 192)+(b1 - 128):Nat):Int);omega) Z
 rw [if_neg (by omega),if_neg g1]
 by_cases g2:224<=b0/\b0<240/\3<=s.length/\(128<=b1/\b1<192)/\(128<=b2/\b2<192)/\2048<=4096*(b0 - 224)+64*(b1 - 128)+(b2 - 128)/\(4096*(b0 - 224)+64*(b1 - 128)+(b2 - 128)<55296\/57343<4096*(b0 - 224)+64*(b1 - 128)+(b2 - 128))
 ·rw [if_pos (by omega),if_pos g2]
  exact Prod.ext (by show(4096*((b0:Int) - 224)+64*((b1:Int) - 128)+(b2:Int) - 128)=((4096*(b0 - 224)+64*(b1 - 128)+(b2 - 128):Nat):Int);omega) Z
 rw [if_neg (by omega),if_neg g2]
 by_cases g3:240<=b0/\b0<245/\4<=s.length/\(128<=b1/\b1<192)/\(128<=b2/\b2<192)/\(128<=b3/\b3<192)/\65536<=262144*(b0 - 240)+4096*(b1 - 128)+64*(b2 - 128)+(b3 - 128)/\262144*(b0 - 240)+4096*(b1 - 128)+64*(b2 - 128)+(b3 - 128)<=1114111
 ·rw [if_pos (by omega),if_pos g3]
  exact Prod.ext (by show(262144*((b0:Int) - 240)+4096*((b1:Int) - 128)+64*((b2:Int) - 128)+(b3:Int) - 128)=((262144*(b0 - 240)+4096*(b1 - 128)+64*(b2 - 128)+(b3 - 128):Nat):Int);omega) Z
 rw [if_neg (by omega),if_neg g3];rfl
theorem rG(h:s≠ []):Hi N s=some (((dec s).1:Int),((dec s).2:Int)):=by
 have hl:=List.length_pos_iff.mpr h
 rw [<-xo s h]
 unfold Hi
 have key: ∀x,(x=true->2<=s.length)->x=x2 s->CL N s x=some (v2 s (x2 s)):=λx h e=>by rw [xO N s x h,e]
 have no: ¬(194<=(((Au s 0).toNat:Nat):Int)/\(((Au s 0).toNat:Nat):Int)<224/\2<=s.length/\Lu (Au s 1).toNat)->CL N s false=some (v2 s (x2 s)):=λh=>key false (λh=>(nomatch h)) (by unfold x2;exact(ze h).symm)
 rw [if_neg (by omega),Af _ (by omega)]
 by_cases g:(((Au s 0).toNat:Nat):Int)<128
 ·rw [if_pos g,if_pos g]
 rw [if_neg g,if_neg g]
 by_cases h0:(((Au s 0).toNat:Nat):Int)>=194
 ·rw [if_pos h0]
  by_cases h1:(((Au s 0).toNat:Nat):Int)<224
  ·rw [zf h1,GO,if_pos Z]
   by_cases h2:(s.length:Int)>=2
   ·rw [zf h2,GN,if_pos Z,Af _ (by omega),TF,q0]
    refine key _ (λ_=>by omega) ?_
    unfold x2
    exact decide_eq_decide.mpr ⟨λh=>⟨by omega,h1,by omega,h⟩,λh=>h.2.2.2⟩
   ·rw [ze h2];exact no (λh=>h2 (by omega))
  ·rw [ze h1];exact no (λh=>h1 h.2.1)
 ·rw [if_neg h0];exact no (λh=>h0 h.1)
end
end Go.Proofs.YtjlomkippigejaaGreatDoor
