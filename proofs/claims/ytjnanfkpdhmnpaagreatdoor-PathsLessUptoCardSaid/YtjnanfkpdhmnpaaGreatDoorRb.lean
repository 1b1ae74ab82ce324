import Derived.Test.YtjnanfkpdhmnpaaGreatDoorIt
import Derived.Test.YtjnanfkpdhmnpaaGreatDoorLz
set_option linter.unusedVariables false
namespace Go.Proofs.YtjnanfkpdhmnpaaGreatDoor
open Go Go.RowKit Go.Eng
def LY(n:Nat):Prop:=128<=n/\n<192
instance (n:Nat):Decidable (LY n):=inferInstanceAs (Decidable (_/\_))
def TA(a b c d n:Nat):Nat×Nat:=
  if a<128 then(a,1)
  else if 194<=a/\a<224/\2<=n/\LY b then(64*(a - 192)+(b - 128),2)
  else if 224<=a/\a<240/\3<=n/\LY b/\LY c/\2048<=4096*(a - 224)+64*(b - 128)+(c - 128)/\(4096*(a - 224)+64*(b - 128)+(c - 128)<55296\/57343<4096*(a - 224)+64*(b - 128)+(c - 128))then(4096*(a - 224)+64*(b - 128)+(c - 128),3)
  else if 240<=a/\a<245/\4<=n/\LY b/\LY c/\LY d/\65536<=262144*(a - 240)+4096*(b - 128)+64*(c - 128)+(d - 128)/\262144*(a - 240)+4096*(b - 128)+64*(c - 128)+(d - 128)<=1114111 then(262144*(a - 240)+4096*(b - 128)+64*(c - 128)+(d - 128),4)
  else(65533,1)
def wV(a b c d n:Nat):Nat×Nat:=
  if a<0x80 then(a,1)
  else if a / 32==6&&(decide (1<n)&&b / 64==2)then
    if a%32*64+b%64>=0x80 then(a%32*64+b%64,2)else(65533,1)
  else if a / 16==14&&(decide (1<n)&&b / 64==2)&&(decide (2<n)&&c / 64==2)then
    if a%16*4096+b%64*64+c%64>=0x800&&Utf8.valid ((a%16*4096+b%64*64+c%64:Nat):Int)then(a%16*4096+b%64*64+c%64,3)else(65533,1)
  else if a / 8==30&&(decide (1<n)&&b / 64==2)&&(decide (2<n)&&c / 64==2)&&(decide (3<n)&&d / 64==2)then
    if a%8*262144+b%64*4096+c%64*64+d%64>=0x10000&&Utf8.valid ((a%8*262144+b%64*4096+c%64*64+d%64:Nat):Int)then(a%8*262144+b%64*4096+c%64*64+d%64,4)else(65533,1)
  else(65533,1)
theorem tj(b0 b1 b2 b3 n:Nat)(h0:b0<256)(h1:b1<256)(h2:b2<256)(h3:b3<256):wV b0 b1 b2 b3 n=TA b0 b1 b2 b3 n:=by
  unfold wV TA LY Utf8.valid
  simp only [Bool.and_eq_true,beq_iff_eq,decide_eq_true_eq,Bool.or_eq_true,ge_iff_le]
  by_cases g0:b0<128
  · rw [V8 g0,V8 g0]
  rw [V9 g0,V9 g0]
  split
  · rename_i h
    split
    · rw [V8 (by omega)];exact Prod.ext (by show b0%32*64+b1%64=64*(b0 - 192)+(b1 - 128);omega) Z
    · rw [V9 (by omega),V9 (by omega),V9 (by omega)]
  · rename_i h
    split
    · rename_i h2
      have e:b0%16*4096+b1%64*64+b2%64=4096*(b0 - 224)+64*(b1 - 128)+(b2 - 128):=by omega
      rw [e]
      split
      · rw [V9 (by omega),V8 (by omega)]
      · rw [V9 (by omega),V9 (by omega),V9 (by omega)]
    · rename_i h2
      split
      · rename_i h3
        have e:b0%8*262144+b1%64*4096+b2%64*64+b3%64=262144*(b0 - 240)+4096*(b1 - 128)+64*(b2 - 128)+(b3 - 128):=by omega
        rw [e]
        split
        · rw [V9 (by omega),V9 (by omega),V8 (by omega)]
        · rw [V9 (by omega),V9 (by omega),V9 (by omega)]
      · rw [V9 (by omega),V9 (by omega),V9 (by omega)]
theorem ym(s:W2)(i:Nat):(⟨s.toArray⟩:ByteArray).get! i=s.getD i 0:=by
  show s.toArray[i]! =_
  rw [List.getElem!_toArray,List.getElem!_eq_getElem?_getD,List.getD_eq_getElem?_getD];rfl
theorem ko(s:W2)(p k:Nat):(s.drop p).getD k 0=s.getD (p+k) 0:=by
  rw [List.getD_eq_getElem?_getD,List.getD_eq_getElem?_getD,List.getElem?_drop]
def dec(s:W2):Nat×Nat:=TA (s.getD 0 0).toNat (s.getD 1 0).toNat (s.getD 2 0).toNat (s.getD 3 0).toNat s.length
theorem gm(s:W2)(p:Nat)(h:p<s.length):Utf8.decode ⟨s.toArray⟩ p=dec (s.drop p):=by
  unfold dec
  rw [<-tj _ _ _ _ _ (UInt8.toNat_lt _) (UInt8.toNat_lt _) (UInt8.toNat_lt _) (UInt8.toNat_lt _)]
  unfold Utf8.decode wV
  have hs:(⟨s.toArray⟩:ByteArray).size=s.length:=Z
  simp only [ym,ko,zq,hs,Nat.add_zero,Utf8.runeError]
  have e: ∀k,(p+k<s.length)=(k<s.length - p):=λk=>propext (by omega)
  simp only [e]
end Go.Proofs.YtjnanfkpdhmnpaaGreatDoor
namespace Go.Proofs.YtjnanfkpdhmnpaaGreatDoor
open Go Go.RowKit Go.Eng
theorem wW(b0 b1 b2 b3 n:Nat)(h:1<=n):1<=(TA b0 b1 b2 b3 n).2/\(TA b0 b1 b2 b3 n).2<=n/\(TA b0 b1 b2 b3 n).2<=4:=by
  unfold TA
  split
  · show 1<=1/\1<=n/\1<=4;omega
  · split
    · show 1<=2/\2<=n/\2<=4;omega
    · split
      · show 1<=3/\3<=n/\3<=4;omega
      · split
        · show 1<=4/\4<=n/\4<=4;omega
        · show 1<=1/\1<=n/\1<=4;omega
def okR(n:Int):Prop:=(0<=n/\n<55296)\/(57344<=n/\n<=1114111)
theorem tk(b0 b1 b2 b3 n:Nat):okR ((TA b0 b1 b2 b3 n).1:Int):=by
  unfold TA okR LY
  split
  · left;show(0:Int)<=(b0:Int)/\(b0:Int)<55296;omega
  · split
    · rename_i h1;left;show(0:Int)<=((64*(b0 - 192)+(b1 - 128):Nat):Int)/\((64*(b0 - 192)+(b1 - 128):Nat):Int)<55296;omega
    · split
      · rename_i h1
        show((0:Int)<=((4096*(b0 - 224)+64*(b1 - 128)+(b2 - 128):Nat):Int)/\((4096*(b0 - 224)+64*(b1 - 128)+(b2 - 128):Nat):Int)<55296)\/(57344<=((4096*(b0 - 224)+64*(b1 - 128)+(b2 - 128):Nat):Int)/\((4096*(b0 - 224)+64*(b1 - 128)+(b2 - 128):Nat):Int)<=1114111)
        omega
      · split
        · rename_i h1;right
          show(57344:Int)<=((262144*(b0 - 240)+4096*(b1 - 128)+64*(b2 - 128)+(b3 - 128):Nat):Int)/\((262144*(b0 - 240)+4096*(b1 - 128)+64*(b2 - 128)+(b3 - 128):Nat):Int)<=1114111
          omega
        · right;exact⟨by decide,by decide⟩
theorem Zm(s:W2)(h:s≠ []):1<=(dec s).2/\(dec s).2<=s.length/\(dec s).2<=4:=wW _ _ _ _ _ (List.length_pos_iff.mpr h)
theorem nG(s:W2):okR ((dec s).1:Int):=tk _ _ _ _ _
def Oa:Nat->W2->Y0 Int
  |0,_=> []
  |f+1,s=>if s=[] then [] else((dec s).1:Int)::Oa f (s.drop (dec s).2)
theorem YY: ∀(f g:Nat) (s:W2),s.length<=f->s.length<=g->Oa f s=Oa g s
  |0,0,_,_,_=>rfl
  |0,g+1,s,h,_=>by
    have:s=[]:=List.eq_nil_of_length_eq_zero (by omega)
    rw [Oa,Oa,V8 this]
  |f+1,0,s,_,h=>by
    have:s=[]:=List.eq_nil_of_length_eq_zero (by omega)
    rw [Oa,Oa,V8 this]
  |f+1,g+1,s,h,h'=>by
    rw [Oa,Oa]
    by_cases hs:s=[]
    · rw [V8 hs,V8 hs]
    · have:=Zm s hs
      rw [V9 hs,V9 hs,YY f g _ (by rw [zq];omega) (by rw [zq];omega)]
def Ac4(s:W2):Y0 Int:=Oa s.length s
theorem fA:Ac4 []=[]:=Z
theorem Ng{s:W2}(h:s≠ []):Ac4 s=((dec s).1:Int)::Ac4 (s.drop (dec s).2):=by
  have hw:=Zm s h
  unfold Ac4
  obtain⟨k,hk⟩: ∃k,s.length=k+1:=⟨s.length - 1,by omega⟩
  rw [hk,Oa,V9 h,YY k _ _ (by rw [zq];omega) (Nat.le_refl _)]
theorem YX{p:W2->Prop}(h0:p [])(h1: ∀s,s≠ []->p (s.drop (dec s).2)->p s): ∀s,p s:=by
  have: ∀n s,s.length<=n->p s:=by
    intro n
    induction n with
    |zero=>intro s h;rw [List.eq_nil_of_length_eq_zero (by omega:s.length=0)];exact h0
    |succ n ih=>
      intro s h
      by_cases hs:s=[]
      · rw [hs];exact h0
      · have:=Zm s hs
        exact h1 s hs (ih _ (by rw [zq];omega))
  exact λs=>this s.length s (Nat.le_refl _)
theorem Sv(s:W2):(Ac4 s).length<=s.length:=by
  refine YX (p:=λs=>(Ac4 s).length<=s.length) (Nat.le_refl _) (λs hs ih=> ?_) s
  have:=Zm s hs
  rw [Ng hs,zg];rw [zq] at ih;omega
theorem jD(s:W2): ∀n∈Ac4 s,okR n:=by
  refine YX (p:=λs=> ∀n∈Ac4 s,okR n) (λ_ h=>(nomatch h)) (λs hs ih=> ?_) s
  rw [Ng hs]
  intro n hn
  rcases List.mem_cons.mp hn with rfl|hn
  · exact nG s
  · exact ih n hn
theorem bG{s:W2}{p:Nat}(h:p<s.length):runeAt s p=(dec (s.drop p)).1/\Jh s p=p+(dec (s.drop p)).2:=by
  unfold runeAt Jh runeW
  rw [V8 h,gm s p h];exact⟨Z,Z⟩
theorem iW{s:W2}{p:Nat}(h:p<s.length):s.drop p≠ []:=λe=>by
  have:=congrArg List.length e
  rw [zq,zp] at this;omega
theorem ao{s:W2}{p:Nat}(h:p<s.length):p<Jh s p/\Jh s p<=s.length:=by
  have:=Zm _ (iW h)
  rw [zq] at this
  rw [(bG h).2];omega
theorem TV{s:W2}{p:Nat}(h:p<s.length):Ac4 (s.drop p)=(runeAt s p:Int)::Ac4 (s.drop (Jh s p)):=by
  rw [Ng (iW h),(bG h).1,(bG h).2,List.drop_drop]
theorem VM{s:W2}{p:Nat}(h: ¬p<s.length):Ac4 (s.drop p)=[]:=by
  rw [List.drop_of_length_le (by omega)];rfl
theorem la{n:Int}(h:okR n):Utf8.valid n=true:=by
  unfold okR at h;unfold Utf8.valid
  simp only [Bool.or_eq_true,Bool.and_eq_true,decide_eq_true_eq];omega
theorem Pt{n:Nat}(h:n<256):(UInt8.ofNat n).toNat=n:=by rw [UInt8.toNat_ofNat'];omega
theorem Ui{p:Prop}[Decidable p](a b:ByteArray)(x y:W2)(ha:a.data.toList=x)(hb:b.data.toList=y):(if p then a else b).data.toList=if p then x else y:=by
  split<;>assumption
theorem ny(n:Int)(c:Nat)(h:(if Utf8.valid n then n.toNat else Utf8.runeError)=c):(Utf8.encode n).data.toList=if c<128 then [UInt8.ofNat c] else if c<2048 then [UInt8.ofNat (192+c / 64),UInt8.ofNat (128+c%64)]
    else if c<65536 then [UInt8.ofNat (224+c / 4096),UInt8.ofNat (128+c / 64%64),UInt8.ofNat (128+c%64)]
    else [UInt8.ofNat (240+c / 262144),UInt8.ofNat (128+c / 4096%64),UInt8.ofNat (128+c / 64%64),UInt8.ofNat (128+c%64)]:=by
  subst h
  exact Ui _ _ _ _ Z (Ui _ _ _ _ Z (Ui _ _ _ _ Z Z))
theorem jE(n:Int):Rh n=(Utf8.encode n).data.toList:=Z
theorem xx{c:Nat}(h:okR (c:Int)):(if Utf8.valid (c:Int)=true then(c:Int).toNat else Utf8.runeError)=c:=by
  have h1:=la h
  exact(V8 h1).trans (q4 c)
theorem SV{c:Nat}(h:okR (c:Int)):Rh (c:Int)=if c<128 then [UInt8.ofNat c] else if c<2048 then [UInt8.ofNat (192+c / 64),UInt8.ofNat (128+c%64)]
    else if c<65536 then [UInt8.ofNat (224+c / 4096),UInt8.ofNat (128+c / 64%64),UInt8.ofNat (128+c%64)]
    else [UInt8.ofNat (240+c / 262144),UInt8.ofNat (128+c / 4096%64),UInt8.ofNat (128+c / 64%64),UInt8.ofNat (128+c%64)]:= 
 (jE _).trans (ny _ c (xx h))
theorem nF{c:Nat}(h:okR (c:Int))(r:W2):dec (Rh (c:Int)++r)=(c,(Rh (c:Int)).length):=by
  rw [SV h]
  unfold okR at h
  split
  · rename_i h1
    unfold dec
    simp only [List.cons_append,y5,List.getD_cons_zero,Pt (show c<256 by omega)]
    unfold TA;rw [V8 h1];rfl
  · split
    · rename_i h0 h1
      unfold dec
      simp only [List.cons_append,y5,List.getD_cons_zero,List.getD_cons_succ,Pt (show 192+c / 64<256 by omega),Pt (show 128+c%64<256 by omega),zg]
      unfold TA LY
      rw [V9 (by omega),V8 (by omega)]
      exact Prod.ext (by show 64*(192+c / 64 - 192)+(128+c%64 - 128)=c;omega) Z
    · split
      · rename_i h0 h1 h2
        have e:4096*(224+c / 4096 - 224)+64*(128+c / 64%64 - 128)+(128+c%64 - 128)=c:=by omega
        unfold dec
        simp only [List.cons_append,y5,List.getD_cons_zero,List.getD_cons_succ,Pt (show 224+c / 4096<256 by omega),Pt (show 128+c / 64%64<256 by omega),Pt (show 128+c%64<256 by omega),zg]
        unfold TA LY
        rw [V9 (by omega),V9 (by omega),e,V8 (by omega)];rfl
      · rename_i h0 h1 h2
        have e:262144*(240+c / 262144 - 240)+4096*(128+c / 4096%64 - 128)+64*(128+c / 64%64 - 128)+(128+c%64 - 128)=c:=by omega
        unfold dec
        simp only [List.cons_append,y5,List.getD_cons_zero,List.getD_cons_succ,Pt (show 240+c / 262144<256 by omega),Pt (show 128+c / 4096%64<256 by omega),Pt (show 128+c / 64%64<256 by omega),Pt (show 128+c%64<256 by omega),zg]
        unfold TA LY
        rw [V9 (by omega),V9 (by omega),V9 (by omega),e,V8 (by omega)];rfl
theorem lw{c:Nat}(h:okR (c:Int)):Rh (c:Int)≠ []:=by
  rw [SV h]
  split
  · exact List.cons_ne_nil _ _
  · split
    · exact List.cons_ne_nil _ _
    · split<;>exact List.cons_ne_nil _ _
theorem VL: ∀(l:Y0 Int),(∀n∈l,okR n)->Ac4 (ZR l)=l
  | [],_=>rfl
  |n::l,h=>by
    have hn:=h n (by simp)
    obtain⟨c,rfl⟩: ∃c:Nat,n=(c:Int):=⟨n.toNat,by unfold okR at hn;omega⟩
    have e:=nF hn (ZR l)
    have hne:Rh (c:Int)++ZR l≠ []:=λh'=>lw hn (List.append_eq_nil_iff.mp h').1
    rw [ZR,Ng hne,e]
    dsimp only
    rw [List.drop_left,VL l (λn hn=>h n (by simp [hn]))]
end Go.Proofs.YtjnanfkpdhmnpaaGreatDoor
namespace Go.Proofs.YtjnanfkpdhmnpaaGreatDoor
open Go Go.RowKit Go.Eng
def Mp(c:Int):Y3:=decide (((65<=c/\c<=90)\/(97<=c/\c<=122)\/c=95\/(192<=c/\c<=591)\/(913<=c/\c<=969)\/(1024<=c/\c<=1279))/\c≠215/\c≠247/\c≠930)
def inR(c:Int):Y3:=Mp c||decide ((48<=c/\c<=57)\/c=45\/c=46)
def cG(l:Y0 Int):Y3:=decide (1<=l.length/\l.length<=24)&&Mp (l[0]!)&&l.all inR
end Go.Proofs.YtjnanfkpdhmnpaaGreatDoor
namespace Go.Proofs.YtjnanfkpdhmnpaaGreatDoor
open Go Go.RowKit Go.Eng
theorem Ud(N:Nat)(c:UInt8):CB N c=some (decide (LY c.toNat)):=by
 unfold CB LY
 by_cases h:((c.toNat:Nat):Int)>=128
 ·rw [V8 h];refine congrArg some (decide_eq_decide.mpr ?_);omega
 ·rw [V9 h];exact congrArg some (zk (by omega)).symm
section
variable (N:Nat) (s:W2)
def c4(s:W2):Int:=262144*((((Ax s 0).toNat:Nat):Int) - 240)+4096*((((Ax s 1).toNat:Nat):Int) - 128)+64*((((Ax s 2).toNat:Nat):Int) - 128)+(((Ax s 3).toNat:Nat):Int) - 128
def c3(s:W2):Int:=4096*((((Ax s 0).toNat:Nat):Int) - 224)+64*((((Ax s 1).toNat:Nat):Int) - 128)+(((Ax s 2).toNat:Nat):Int) - 128
def c2(s:W2):Int:=64*((((Ax s 0).toNat:Nat):Int) - 192)+(((Ax s 1).toNat:Nat):Int) - 128
def v4(s:W2)(x:Y3):Int×Int:=if x=true/\65536<=c4 s/\c4 s<=1114111 then(c4 s,4)else(65533,1)
theorem yQ(x:Y3)(hx:x=true->4<=s.length):CY s x=some (v4 s x):=by
 have h0:=(Ax s 0).toNat_lt;have h1:=(Ax s 1).toNat_lt;have h2:=(Ax s 2).toNat_lt;have h3:=(Ax s 3).toNat_lt
 unfold CY v4 c4
 by_cases h:x=true
 ·have:=hx h
  rw [V8 h]
  repeat rw [Af _ (by omega)]
  unfold GF
  split
  ·split
   ·rename_i d;have:=zj d;rw [V8 (by refine⟨h, ?_, ?_⟩<;>omega)]
   ·rename_i d;simp only [decide_eq_true_eq] at d;rw [V9 (by intro h';omega)]
  ·rw [V9 (by decide),V9 (by intro h';omega)]
 ·rw [V9 h,V9 (λh'=>h h'.1)]
def x4(s:W2):Y3:=decide (240<=(((Ax s 0).toNat:Nat):Int)/\(((Ax s 0).toNat:Nat):Int)<245/\4<=s.length/\LY (Ax s 1).toNat/\LY (Ax s 2).toNat/\LY (Ax s 3).toNat)
theorem yh:FD N s=some (v4 s (x4 s)):=by
 have key: ∀x,(x=true->4<=s.length)->x=x4 s->CY s x=some (v4 s (x4 s)):=λx h e=>by rw [yQ s x h,e]
 have no: ¬(240<=(((Ax s 0).toNat:Nat):Int)/\(((Ax s 0).toNat:Nat):Int)<245/\4<=s.length/\LY (Ax s 1).toNat/\LY (Ax s 2).toNat/\LY (Ax s 3).toNat)->CY s false=some (v4 s (x4 s)):=λh=>key false (λh=>(nomatch h)) (by unfold x4;exact(zk h).symm)
 unfold FD
 by_cases h0:(((Ax s 0).toNat:Nat):Int)>=240
 ·rw [V8 h0]
  by_cases h1:(((Ax s 0).toNat:Nat):Int)<245
  ·rw [zl h1,Hg,V8 Z]
   by_cases h2:(s.length:Int)>=4
   ·rw [zl h2,Hf,V8 Z,Af _ (by omega),Ud,q0]
    by_cases g1:LY (Ax s 1).toNat
    ·rw [zl g1,He,V8 Z,Af _ (by omega),Ud,q0]
     by_cases g2:LY (Ax s 2).toNat
     ·rw [zl g2,Hc,V8 Z,Af _ (by omega),Ud,q0]
      refine key _ (λ_=>by omega) ?_
      unfold x4
      exact decide_eq_decide.mpr ⟨λh=>⟨by omega,h1,by omega,g1,g2,h⟩,λh=>h.2.2.2.2.2⟩
     ·rw [zk g2];exact no (λh=>g2 h.2.2.2.2.1)
    ·rw [zk g1];exact no (λh=>g1 h.2.2.2.1)
   ·rw [zk h2];exact no (λh=>h2 (by omega))
  ·rw [zk h1];exact no (λh=>h1 h.2.1)
 ·rw [V9 h0];exact no (λh=>h0 h.1)
def v3(s:W2)(x:Y3):Int×Int:=if x=true/\2048<=c3 s/\(c3 s<55296\/57343<c3 s)then(c3 s,3)else v4 s (x4 s)
theorem yi(x:Y3)(hx:x=true->3<=s.length):CG N s x=some (v3 s x):=by
 have h0:=(Ax s 0).toNat_lt;have h1:=(Ax s 1).toNat_lt;have h2:=(Ax s 2).toNat_lt
 unfold CG v3 c3
 rw [yh]
 by_cases h:x=true
 ·have:=hx h
  rw [V8 h]
  repeat rw [Af _ (by omega)]
  unfold Fj
  rw [yh]
  split
  ·split
   ·rw [V8 Z,V8 (by refine⟨h, ?_, ?_⟩<;>omega)]
   ·split
    ·rename_i d;have:=zj d;rw [V8 (by refine⟨h, ?_, ?_⟩<;>omega)]
    ·rename_i d;simp only [decide_eq_true_eq] at d;rw [V9 (by intro h';omega)]
  ·rw [V9 (by decide),V9 (by intro h';omega)]
 ·rw [V9 h,V9 (λh'=>h h'.1)]
def x3(s:W2):Y3:=decide (224<=(((Ax s 0).toNat:Nat):Int)/\(((Ax s 0).toNat:Nat):Int)<240/\3<=s.length/\LY (Ax s 1).toNat/\LY (Ax s 2).toNat)
def v2(s:W2)(x:Y3):Int×Int:=if x=true then(c2 s,2)else v3 s (x3 s)
theorem yR(x:Y3)(hx:x=true->2<=s.length):CZ N s x=some (v2 s x):=by
 have g0:=(Ax s 0).toNat_lt;have g1:=(Ax s 1).toNat_lt
 unfold CZ v2 c2
 by_cases h:x=true
 ·have:=hx h
  rw [V8 h,V8 h]
  repeat rw [Af _ (by omega)]
 ·rw [V9 h,V9 h]
  have key: ∀x,(x=true->3<=s.length)->x=x3 s->CG N s x=some (v3 s (x3 s)):=λx h e=>by rw [yi N s x h,e]
  have no: ¬(224<=(((Ax s 0).toNat:Nat):Int)/\(((Ax s 0).toNat:Nat):Int)<240/\3<=s.length/\LY (Ax s 1).toNat/\LY (Ax s 2).toNat)->CG N s false=some (v3 s (x3 s)):=λh=>key false (λh=>(nomatch h)) (by unfold x3;exact(zk h).symm)
  by_cases h0:(((Ax s 0).toNat:Nat):Int)>=224
  ·rw [V8 h0]
   by_cases h1:(((Ax s 0).toNat:Nat):Int)<240
   ·rw [zl h1,GE,V8 Z]
    by_cases h2:(s.length:Int)>=3
    ·rw [zl h2,GD,V8 Z,Af _ (by omega),Ud,q0]
     by_cases g1:LY (Ax s 1).toNat
     ·rw [zl g1,GC,V8 Z,Af _ (by omega),Ud,q0]
      refine key _ (λ_=>by omega) ?_
      unfold x3
      exact decide_eq_decide.mpr ⟨λh=>⟨by omega,h1,by omega,g1,h⟩,λh=>h.2.2.2.2⟩
     ·rw [zk g1];exact no (λh=>g1 h.2.2.2.1)
    ·rw [zk h2];exact no (λh=>h2 (by omega))
   ·rw [zk h1];exact no (λh=>h1 h.2.1)
  ·rw [V9 h0];exact no (λh=>h0 h.1)
def x2(s:W2):Y3:=decide (194<=(((Ax s 0).toNat:Nat):Int)/\(((Ax s 0).toNat:Nat):Int)<224/\2<=s.length/\LY (Ax s 1).toNat)
theorem yv(h:s≠ []):(if(((Ax s 0).toNat:Nat):Int)<128 then((((Ax s 0).toNat:Nat):Int),1)else v2 s (x2 s))=(((dec s).1:Int),((dec s).2:Int)):=by
 have e0:s.getD 0 0=Ax s 0:=Z
 have e1:s.getD 1 0=Ax s 1:=Z
 have e2:s.getD 2 0=Ax s 2:=Z
 have e3:s.getD 3 0=Ax s 3:=Z
 unfold dec TA v2 v3 v4 x2 x3 x4 c2 c3 c4 LY
 rw [e0,e1,e2,e3]
 have h0:=(Ax s 0).toNat_lt;have h1:=(Ax s 1).toNat_lt;have h2:=(Ax s 2).toNat_lt;have h3:=(Ax s 3).toNat_lt
 generalize (Ax s 0).toNat=b0 at*
 generalize (Ax s 1).toNat=b1 at*
 generalize (Ax s 2).toNat=b2 at*
 generalize (Ax s 3).toNat=b3 at*
 simp only [decide_eq_true_eq]
 by_cases g0:b0<128
 ·rw [V8 (by omega),V8 g0];rfl
 rw [V9 (by omega),V9 g0]
 by_cases g1:194<=b0/\b0<224/\2<=s.length/\128<=b1/\b1<192
 ·rw [V8 (by omega),V8 g1]
  exact Prod.ext (by show(64*((b0:Int) - 192)+(b1:Int) - 128)=((64*(b0 - 192)+(b1 - 128):Nat):Int);omega) Z
 rw [V9 (by omega),V9 g1]
 by_cases g2:224<=b0/\b0<240/\3<=s.length/\(128<=b1/\b1<192)/\(128<=b2/\b2<192)/\2048<=4096*(b0 - 224)+64*(b1 - 128)+(b2 - 128)/\(4096*(b0 - 224)+64*(b1 - 128)+(b2 - 128)<55296\/57343<4096*(b0 - 224)+64*(b1 - 128)+(b2 - 128))
 ·rw [V8 (by omega),V8 g2]
  exact Prod.ext (by show(4096*((b0:Int) - 224)+64*((b1:Int) - 128)+(b2:Int) - 128)=((4096*(b0 - 224)+64*(b1 - 128)+(b2 - 128):Nat):Int);omega) Z
 rw [V9 (by omega),V9 g2]
 by_cases g3:240<=b0/\b0<245/\4<=s.length/\(128<=b1/\b1<192)/\(128<=b2/\b2<192)/\(128<=b3/\b3<192)/\65536<=262144*(b0 - 240)+4096*(b1 - 128)+64*(b2 - 128)+(b3 - 128)/\262144*(b0 - 240)+4096*(b1 - 128)+64*(b2 - 128)+(b3 - 128)<=1114111
 ·rw [V8 (by omega),V8 g3]
  exact Prod.ext (by show(262144*((b0:Int) - 240)+4096*((b1:Int) - 128)+64*((b2:Int) - 128)+(b3:Int) - 128)=((262144*(b0 - 240)+4096*(b1 - 128)+64*(b2 - 128)+(b3 - 128):Nat):Int);omega) Z
 rw [V9 (by omega),V9 g3];rfl
theorem sZ(h:s≠ []):Hz N s=some (((dec s).1:Int),((dec s).2:Int)):=by
 have hl:=List.length_pos_iff.mpr h
 rw [<-yv s h]
 unfold Hz
 have key: ∀x,(x=true->2<=s.length)->x=x2 s->CZ N s x=some (v2 s (x2 s)):=λx h e=>by rw [yR N s x h,e]
 have no: ¬(194<=(((Ax s 0).toNat:Nat):Int)/\(((Ax s 0).toNat:Nat):Int)<224/\2<=s.length/\LY (Ax s 1).toNat)->CZ N s false=some (v2 s (x2 s)):=λh=>key false (λh=>(nomatch h)) (by unfold x2;exact(zk h).symm)
 rw [V9 (by omega),Af _ (by omega)]
 by_cases g:(((Ax s 0).toNat:Nat):Int)<128
 ·rw [V8 g,V8 g]
 rw [V9 g,V9 g]
 by_cases h0:(((Ax s 0).toNat:Nat):Int)>=194
 ·rw [V8 h0]
  by_cases h1:(((Ax s 0).toNat:Nat):Int)<224
  ·rw [zl h1,Hi,V8 Z]
   by_cases h2:(s.length:Int)>=2
   ·rw [zl h2,Hh,V8 Z,Af _ (by omega),Ud,q0]
    refine key _ (λ_=>by omega) ?_
    unfold x2
    exact decide_eq_decide.mpr ⟨λh=>⟨by omega,h1,by omega,h⟩,λh=>h.2.2.2⟩
   ·rw [zk h2];exact no (λh=>h2 (by omega))
  ·rw [zk h1];exact no (λh=>h1 h.2.1)
 ·rw [V9 h0];exact no (λh=>h0 h.1)
end
end Go.Proofs.YtjnanfkpdhmnpaaGreatDoor
