import Derived.Test.YtoolcgbcfgnipaaGreatDoorBk
import Derived.Test.YtoolcgbcfgnipaaGreatDoorIt
namespace Go.Proofs.YtoolcgbcfgnipaaGreatDoor
open Go Go.RowKit Go.Eng _root_.Go.Proofs.Tryz
set_option linter.unusedSimpArgs false
set_option linter.unusedVariables false
set_option maxRecDepth 100000
set_option maxHeartbeats 80000000
def DC(N:Nat)(b:Bool):Option Bool:=if b=true then(Fz N).bind fun a=>some a else some false
def Cn(N:Nat)(m:Ao)(d:List (Int×Int×Int×Int×BitVec 128))(n:BitVec 128)(g:Bool):Option Bool:=if g=true then(Fz N).bind fun c=>some c else(Ee N m d (hi n)).bind fun a=>(Ee N m d (hi n|||lo n)).bind fun b=>if(a.2.2:Int)≠0 then(Fz N).bind fun f=>some f else if b.2.2=0 then(Jr N a.1 b.1).bind fun e=>DC N e else DC N false
def FT(N:Nat)(m:Ao)(a:List (Int×Int×Int×Int×BitVec 128))(n:BitVec 128):Option Bool:=(Fy N m).bind fun b=>if b=true then Cn N m a n (decide ((a.length:Int)>100))else Cn N m a n true
theorem MZ(N m l' n r)(hM:FT N m l' n=some r)(ro)(mv:AD)(hm:Aa1 ro mv m)(l'v)(hl':Rd Ac7 ro l'v l'):DoesI prog 3 #[vA (Ac m mv),l'v,vA #[U (hi n),U (lo n)]] Ie ro [] (pV (vB r)):=by
 unfold FT at hM
 refine AX follows func3 rfl 56 rfl _ fz3 Bg (fun base0_=> ?_)
 refine Ad<|rA rfl fun b2=>rA rfl fun b3=>rz rfl<|Aa fun K4 hK4=>Aa fun K5 hK5=>Ag<|rm 1 [1] rfl<|kB hM fun r6 hr7 hM=>gV _ (cF ua) (fun o w z_=>(Does.inv (OA N m _ hr7 z_.view mv (Aa1.mono z_.ro_cell hm)) _))<|rn 2 rfl<|AG 4 20 [(1,l'v),(3,vP b2 0),(5,vP b3 0)] vB (fun b_=>Cn N m l' n b_=some r) (fun b8 hM T=> ?_) (fun HJ=> ?_)
 ·unfold Cn at hM
  refine Af<|hK5 _ _ ?_
  refine aB hM rfl (fun hc9 hM=> ?_) (fun hc9 hM=> ?_)
  ·refine Ad<|kB hM fun r11 hr12 hM=>gV _ (cF ef) (fun o w z_=>Jx N  _ hr12 z_.view)<|rz rfl ?_
   cases hM
   exact aR eV1
  refine Ab<|hK4 _ _ ?_
  refine Ad<|rm 4 [1,0] rfl<|kB hM fun r14 hr15 hM=>gV _ (cF Zt) (fun o w z_=>LA N m l' (hi n) _ hr15 z_.view mv (Aa1.mono z_.ro_cell hm) l'v ((Aw hl') o w z_))<|rz rfl<|Ad<|rm 6 [1,0,0] rfl<|r_X (U (hi n|||lo n)) rfl (vC (hi n) (lo n)) rfl<|kB hM fun r17 hr18 hM=>gV _ (cF Zt) (fun o w z_=>LA N m l' (hi n|||lo n) _ hr18 z_.view mv (Aa1.mono z_.ro_cell hm) l'v ((Aw hl') o w z_))<|rz rfl<|GQ [(7,U r14.1),(9,vI r14.2.2),(10,U r17.1),(12,vI r17.2.2)] rfl (fun T=> ?_)
  refine Aa fun K19 hK19=>AZ rfl<|aN hM rfl (fun hc21 hM=> ?_) (fun hc21 hM=> ?_)
  ·refine Ad<|kB hM fun r23 hr24 hM=>gV _ (cF ef) (fun o w z_=>Jx N  _ hr24 z_.view)<|rz rfl ?_
   cases hM
   exact aR eV1
  refine Ab<|hK19 _ _ ?_
  refine Aa fun K25 hK25=>Ag<|rn 3 rfl<|AG 4 52 [] vB (fun b_=>DC N b_=some r) (fun b26 hM T=> ?_) (fun HJ=> ?_)
  ·unfold DC at hM
   refine rn 1 rfl ?_
   rcases hg27:b26 with _|_
   ·replace hM:=iB hg27 hM
    refine rz rfl<|hK25 _ _ ?_
    cases hM
    exact aR eV1
   replace hM:=ifp hg27 hM
   refine r_y rfl<|kB hM fun r28 hr29 hM=>gV _ (cF ef) (fun o w z_=>Jx N  _ hr29 z_.view)<|rz rfl<|hK25 _ _ ?_
   cases hM
   exact aR eV1
  rcases hg30:(r17.2.2==0)with _|_
  ·replace hM:=iG hg30 hM
   refine rn 4 rfl ?_
   exact HJ _ _ hM rfl rfl
  replace hM:=iE hg30 hM
  refine rn 2 rfl<|r_y rfl<|kB hM fun r31 hr32 hM=>rc _ (cF tZ) (RT N r14.1 r17.1 _ hr32)<|rn 1 rfl ?_
  exact HJ _ _ hM rfl rfl
 rcases hg33:(!(r6))with _|_
 ·replace hM:=ifp (Db hg33) hM
  refine rn 1 rfl<|r_y rfl<|rL (Rd.shp hl') rfl<|rn 2 rfl ?_
  exact HJ _ _ hM rfl rfl
 replace hM:=ifn (Bool.eq_false_iff.1 (Da hg33)) hM
 refine rn 4 rfl ?_
 exact HJ _ _ hM rfl rfl
end Go.Proofs.YtoolcgbcfgnipaaGreatDoor
namespace Go.Proofs.YtoolcgbcfgnipaaGreatDoor
open Go Go.RowKit Go.Eng
def KT(n:Nat):Prop:=128≤n∧n<192
instance (n:Nat):Decidable (KT n):=inferInstanceAs (Decidable (_∧_))
def RX(a b c d n:Nat):Nat×Nat:=
  if a<128 then(a,1)
  else if 194≤a∧a<224∧2≤n∧KT b then(64*(a - 192)+(b - 128),2)
  else if 224≤a∧a<240∧3≤n∧KT b∧KT c∧2048≤4096*(a - 224)+64*(b - 128)+(c - 128)∧(4096*(a - 224)+64*(b - 128)+(c - 128)<55296∨57343<4096*(a - 224)+64*(b - 128)+(c - 128))then(4096*(a - 224)+64*(b - 128)+(c - 128),3)
  else if 240≤a∧a<245∧4≤n∧KT b∧KT c∧KT d∧65536≤262144*(a - 240)+4096*(b - 128)+64*(c - 128)+(d - 128)∧262144*(a - 240)+4096*(b - 128)+64*(c - 128)+(d - 128)≤1114111 then(262144*(a - 240)+4096*(b - 128)+64*(c - 128)+(d - 128),4)
  else(65533,1)
def tU(a b c d n:Nat):Nat×Nat:=
  if a<0x80 then(a,1)
  else if a / 32==6&&(decide (1<n)&&b / 64==2)then
    if a%32*64+b%64≥0x80 then(a%32*64+b%64,2)else(65533,1)
  else if a / 16==14&&(decide (1<n)&&b / 64==2)&&(decide (2<n)&&c / 64==2)then
    if a%16*4096+b%64*64+c%64≥0x800&&Utf8.valid ((a%16*4096+b%64*64+c%64:Nat):Int)then(a%16*4096+b%64*64+c%64,3)else(65533,1)
  else if a / 8==30&&(decide (1<n)&&b / 64==2)&&(decide (2<n)&&c / 64==2)&&(decide (3<n)&&d / 64==2)then
    if a%8*262144+b%64*4096+c%64*64+d%64≥0x10000&&Utf8.valid ((a%8*262144+b%64*4096+c%64*64+d%64:Nat):Int)then(a%8*262144+b%64*4096+c%64*64+d%64,4)else(65533,1)
  else(65533,1)
theorem pX(b0 b1 b2 b3 n:Nat)(h0:b0<256)(h1:b1<256)(h2:b2<256)(h3:b3<256):tU b0 b1 b2 b3 n=RX b0 b1 b2 b3 n:=by
  unfold tU RX KT Utf8.valid
  simp only [Bool.and_eq_true,beq_iff_eq,decide_eq_true_eq,Bool.or_eq_true,ge_iff_le]
  by_cases g0:b0<128
  · rw [if_pos g0,if_pos g0]
  rw [if_neg g0,if_neg g0]
  split
  · rename_i h
    split
    · rw [if_pos (by omega)];exact Prod.ext (by show b0%32*64+b1%64=64*(b0 - 192)+(b1 - 128);omega) rfl
    · rw [if_neg (by omega),if_neg (by omega),if_neg (by omega)]
  · rename_i h
    split
    · rename_i h2
      have e:b0%16*4096+b1%64*64+b2%64=4096*(b0 - 224)+64*(b1 - 128)+(b2 - 128):=by omega
      rw [e]
      split
      · rw [if_neg (by omega),if_pos (by omega)]
      · rw [if_neg (by omega),if_neg (by omega),if_neg (by omega)]
    · rename_i h2
      split
      · rename_i h3
        have e:b0%8*262144+b1%64*4096+b2%64*64+b3%64=262144*(b0 - 240)+4096*(b1 - 128)+64*(b2 - 128)+(b3 - 128):=by omega
        rw [e]
        split
        · rw [if_neg (by omega),if_neg (by omega),if_pos (by omega)]
        · rw [if_neg (by omega),if_neg (by omega),if_neg (by omega)]
      · rw [if_neg (by omega),if_neg (by omega),if_neg (by omega)]
theorem vh(s:List UInt8)(i:Nat):(⟨s.toArray⟩:ByteArray).get! i=s.getD i 0:=by
  show s.toArray[i]! =_
  rw [List.getElem!_toArray,List.getElem!_eq_getElem?_getD,List.getD_eq_getElem?_getD];rfl
theorem gL(s:List UInt8)(p k:Nat):(s.drop p).getD k 0=s.getD (p+k) 0:=by
  rw [List.getD_eq_getElem?_getD,List.getD_eq_getElem?_getD,List.getElem?_drop]
def dec(s:List UInt8):Nat×Nat:=RX (s.getD 0 0).toNat (s.getD 1 0).toNat (s.getD 2 0).toNat (s.getD 3 0).toNat s.length
theorem dX(s:List UInt8)(p:Nat)(h:p<s.length):Utf8.decode ⟨s.toArray⟩ p=dec (s.drop p):=by
  unfold dec
  rw [←pX _ _ _ _ _ (UInt8.toNat_lt _) (UInt8.toNat_lt _) (UInt8.toNat_lt _) (UInt8.toNat_lt _)]
  unfold Utf8.decode tU
  have hs:(⟨s.toArray⟩:ByteArray).size=s.length:=rfl
  simp only [vh,gL,zk,hs,Nat.add_zero,Utf8.runeError]
  have e: ∀k,(p+k<s.length)=(k<s.length - p):=fun k=>propext (by omega)
  simp only [e]
end Go.Proofs.YtoolcgbcfgnipaaGreatDoor
namespace Go.Proofs.YtoolcgbcfgnipaaGreatDoor
open Go Go.RowKit Go.Eng
theorem tV(b0 b1 b2 b3 n:Nat)(h:1≤n):1≤(RX b0 b1 b2 b3 n).2∧(RX b0 b1 b2 b3 n).2≤n∧(RX b0 b1 b2 b3 n).2≤4:=by
  unfold RX
  split
  · show 1≤1∧1≤n∧1≤4;omega
  · split
    · show 1≤2∧2≤n∧2≤4;omega
    · split
      · show 1≤3∧3≤n∧3≤4;omega
      · split
        · show 1≤4∧4≤n∧4≤4;omega
        · show 1≤1∧1≤n∧1≤4;omega
def okR(n:Int):Prop:=(0≤n∧n<55296)∨(57344≤n∧n≤1114111)
theorem pY(b0 b1 b2 b3 n:Nat):okR ((RX b0 b1 b2 b3 n).1:Int):=by
  unfold RX okR KT
  split
  · left;show(0:Int)≤(b0:Int)∧(b0:Int)<55296;omega
  · split
    · rename_i h1;left;show(0:Int)≤((64*(b0 - 192)+(b1 - 128):Nat):Int)∧((64*(b0 - 192)+(b1 - 128):Nat):Int)<55296;omega
    · split
      · rename_i h1
        show((0:Int)≤((4096*(b0 - 224)+64*(b1 - 128)+(b2 - 128):Nat):Int)∧((4096*(b0 - 224)+64*(b1 - 128)+(b2 - 128):Nat):Int)<55296)∨(57344≤((4096*(b0 - 224)+64*(b1 - 128)+(b2 - 128):Nat):Int)∧((4096*(b0 - 224)+64*(b1 - 128)+(b2 - 128):Nat):Int)≤1114111)
        omega
      · split
        · rename_i h1;right
          show(57344:Int)≤((262144*(b0 - 240)+4096*(b1 - 128)+64*(b2 - 128)+(b3 - 128):Nat):Int)∧((262144*(b0 - 240)+4096*(b1 - 128)+64*(b2 - 128)+(b3 - 128):Nat):Int)≤1114111
          omega
        · right;exact⟨by decide,by decide⟩
theorem Xr(s:List UInt8)(h:s≠ []):1≤(dec s).2∧(dec s).2≤s.length∧(dec s).2≤4:=tV _ _ _ _ _ (List.length_pos_iff.mpr h)
theorem kO(s:List UInt8):okR ((dec s).1:Int):=pY _ _ _ _ _
def Nc:Nat→List UInt8→List Int
  |0,_=> []
  |f+1,s=>if s=[] then [] else((dec s).1:Int)::Nc f (s.drop (dec s).2)
theorem Xa: ∀(f g:Nat) (s:List UInt8),s.length≤f→s.length≤g→Nc f s=Nc g s
  |0,0,_,_,_=>rfl
  |0,g+1,s,h,_=>by
    have:s=[]:=List.eq_nil_of_length_eq_zero (by omega)
    rw [Nc,Nc,if_pos this]
  |f+1,0,s,_,h=>by
    have:s=[]:=List.eq_nil_of_length_eq_zero (by omega)
    rw [Nc,Nc,if_pos this]
  |f+1,g+1,s,h,h'=>by
    rw [Nc,Nc]
    by_cases hs:s=[]
    · rw [if_pos hs,if_pos hs]
    · have:=Xr s hs
      rw [if_neg hs,if_neg hs,Xa f g _ (by rw [zk];omega) (by rw [zk];omega)]
def Ac4(s:List UInt8):List Int:=Nc s.length s
theorem di:Ac4 []=[]:=rfl
theorem Mk{s:List UInt8}(h:s≠ []):Ac4 s=((dec s).1:Int)::Ac4 (s.drop (dec s).2):=by
  have hw:=Xr s h
  unfold Ac4
  obtain⟨k,hk⟩: ∃k,s.length=k+1:=⟨s.length - 1,by omega⟩
  rw [hk,Nc,if_neg h,Xa k _ _ (by rw [zk];omega) (Nat.le_refl _)]
theorem WZ{p:List UInt8→Prop}(h0:p [])(h1: ∀s,s≠ []→p (s.drop (dec s).2)→p s): ∀s,p s:=by
  have: ∀n s,s.length≤n→p s:=by
    intro n
    induction n with
    |zero=>intro s h;rw [List.eq_nil_of_length_eq_zero (by omega:s.length=0)];exact h0
    |succ n ih=>
      intro s h
      by_cases hs:s=[]
      · rw [hs];exact h0
      · have:=Xr s hs
        exact h1 s hs (ih _ (by rw [zk];omega))
  exact fun s=>this s.length s (Nat.le_refl _)
theorem QY(s:List UInt8):(Ac4 s).length≤s.length:=by
  refine WZ (p:=fun s=>(Ac4 s).length≤s.length) (Nat.le_refl _) (fun s hs ih=> ?_) s
  have:=Xr s hs
  rw [Mk hs,za];rw [zk] at ih;omega
theorem gc(s:List UInt8): ∀n∈Ac4 s,okR n:=by
  refine WZ (p:=fun s=> ∀n∈Ac4 s,okR n) (fun _ h=>(nomatch h)) (fun s hs ih=> ?_) s
  rw [Mk hs]
  intro n hn
  rcases List.mem_cons.mp hn with rfl|hn
  · exact kO s
  · exact ih n hn
theorem ZA{s:List UInt8}{p:Nat}(h:p<s.length):runeAt s p=(dec (s.drop p)).1∧Il s p=p+(dec (s.drop p)).2:=by
  unfold runeAt Il runeW
  rw [if_pos h,dX s p h];exact⟨rfl,rfl⟩
theorem fC{s:List UInt8}{p:Nat}(h:p<s.length):s.drop p≠ []:=fun e=>by
  have:=congrArg List.length e
  rw [zk,zj] at this;omega
theorem Yd{s:List UInt8}{p:Nat}(h:p<s.length):p<Il s p∧Il s p≤s.length:=by
  have:=Xr _ (fC h)
  rw [zk] at this
  rw [(ZA h).2];omega
theorem Sz{s:List UInt8}{p:Nat}(h:p<s.length):Ac4 (s.drop p)=(runeAt s p:Int)::Ac4 (s.drop (Il s p)):=by
  rw [Mk (fC h),(ZA h).1,(ZA h).2,List.drop_drop]
theorem Um{s:List UInt8}{p:Nat}(h: ¬p<s.length):Ac4 (s.drop p)=[]:=by
  rw [List.drop_of_length_le (by omega)];rfl
theorem iq{n:Int}(h:okR n):Utf8.valid n=true:=by
  unfold okR at h;unfold Utf8.valid
  simp only [Bool.or_eq_true,Bool.and_eq_true,decide_eq_true_eq];omega
theorem Ou{n:Nat}(h:n<256):(UInt8.ofNat n).toNat=n:=by rw [UInt8.toNat_ofNat'];omega
theorem SM{p:Prop}[Decidable p](a b:ByteArray)(x y:List UInt8)(ha:a.data.toList=x)(hb:b.data.toList=y):(if p then a else b).data.toList=if p then x else y:=by
  split<;>assumption
theorem kI(n:Int)(c:Nat)(h:(if Utf8.valid n then n.toNat else Utf8.runeError)=c):(Utf8.encode n).data.toList=if c<128 then [UInt8.ofNat c] else if c<2048 then [UInt8.ofNat (192+c / 64),UInt8.ofNat (128+c%64)]
    else if c<65536 then [UInt8.ofNat (224+c / 4096),UInt8.ofNat (128+c / 64%64),UInt8.ofNat (128+c%64)]
    else [UInt8.ofNat (240+c / 262144),UInt8.ofNat (128+c / 4096%64),UInt8.ofNat (128+c / 64%64),UInt8.ofNat (128+c%64)]:=by
  subst h
  exact SM _ _ _ _ rfl (SM _ _ _ _ rfl (SM _ _ _ _ rfl rfl))
theorem ge(n:Int):PS n=(Utf8.encode n).data.toList:=rfl
theorem ur{c:Nat}(h:okR (c:Int)):(if Utf8.valid (c:Int)=true then(c:Int).toNat else Utf8.runeError)=c:=by
  have h1:=iq h
  exact(if_pos h1).trans (q3 c)
theorem Rx{c:Nat}(h:okR (c:Int)):PS (c:Int)=if c<128 then [UInt8.ofNat c] else if c<2048 then [UInt8.ofNat (192+c / 64),UInt8.ofNat (128+c%64)]
    else if c<65536 then [UInt8.ofNat (224+c / 4096),UInt8.ofNat (128+c / 64%64),UInt8.ofNat (128+c%64)]
    else [UInt8.ofNat (240+c / 262144),UInt8.ofNat (128+c / 4096%64),UInt8.ofNat (128+c / 64%64),UInt8.ofNat (128+c%64)]:= 
 (ge _).trans (kI _ c (ur h))
theorem kN{c:Nat}(h:okR (c:Int))(r:List UInt8):dec (PS (c:Int)++r)=(c,(PS (c:Int)).length):=by
  rw [Rx h]
  unfold okR at h
  split
  · rename_i h1
    unfold dec
    simp only [List.cons_append,j7,List.getD_cons_zero,Ou (show c<256 by omega)]
    unfold RX;rw [if_pos h1];rfl
  · split
    · rename_i h0 h1
      unfold dec
      simp only [List.cons_append,j7,List.getD_cons_zero,List.getD_cons_succ,Ou (show 192+c / 64<256 by omega),Ou (show 128+c%64<256 by omega),za]
      unfold RX KT
      rw [if_neg (by omega),if_pos (by omega)]
      exact Prod.ext (by show 64*(192+c / 64 - 192)+(128+c%64 - 128)=c;omega) rfl
    · split
      · rename_i h0 h1 h2
        have e:4096*(224+c / 4096 - 224)+64*(128+c / 64%64 - 128)+(128+c%64 - 128)=c:=by omega
        unfold dec
        simp only [List.cons_append,j7,List.getD_cons_zero,List.getD_cons_succ,Ou (show 224+c / 4096<256 by omega),Ou (show 128+c / 64%64<256 by omega),Ou (show 128+c%64<256 by omega),za]
        unfold RX KT
        rw [if_neg (by omega),if_neg (by omega),e,if_pos (by omega)];rfl
      · rename_i h0 h1 h2
        have e:262144*(240+c / 262144 - 240)+4096*(128+c / 4096%64 - 128)+64*(128+c / 64%64 - 128)+(128+c%64 - 128)=c:=by omega
        unfold dec
        simp only [List.cons_append,j7,List.getD_cons_zero,List.getD_cons_succ,Ou (show 240+c / 262144<256 by omega),Ou (show 128+c / 4096%64<256 by omega),Ou (show 128+c / 64%64<256 by omega),Ou (show 128+c%64<256 by omega),za]
        unfold RX KT
        rw [if_neg (by omega),if_neg (by omega),if_neg (by omega),e,if_pos (by omega)];rfl
theorem iT{c:Nat}(h:okR (c:Int)):PS (c:Int)≠ []:=by
  rw [Rx h]
  split
  · exact List.cons_ne_nil _ _
  · split
    · exact List.cons_ne_nil _ _
    · split<;>exact List.cons_ne_nil _ _
theorem Ul: ∀(l:List Int),(∀n∈l,okR n)→Ac4 (XT l)=l
  | [],_=>rfl
  |n::l,h=>by
    have hn:=h n (by simp)
    obtain⟨c,rfl⟩: ∃c:Nat,n=(c:Int):=⟨n.toNat,by unfold okR at hn;omega⟩
    have e:=kN hn (XT l)
    have hne:PS (c:Int)++XT l≠ []:=fun h'=>iT hn (List.append_eq_nil_iff.mp h').1
    rw [XT,Mk hne,e]
    dsimp only
    rw [List.drop_left,Ul l (fun n hn=>h n (by simp [hn]))]
end Go.Proofs.YtoolcgbcfgnipaaGreatDoor
namespace Go.Proofs.YtoolcgbcfgnipaaGreatDoor
open Go Go.RowKit Go.Eng
def Lm(c:Int):Bool:=decide (((65≤c∧c≤90)∨(97≤c∧c≤122)∨c=95∨(192≤c∧c≤591)∨(913≤c∧c≤969)∨(1024≤c∧c≤1279))∧c≠215∧c≠247∧c≠930)
def inR(c:Int):Bool:=Lm c||decide ((48≤c∧c≤57)∨c=45∨c=46)
def aj(l:List Int):Bool:=decide (1≤l.length∧l.length≤24)&&Lm (l[0]!)&&l.all inR
end Go.Proofs.YtoolcgbcfgnipaaGreatDoor
