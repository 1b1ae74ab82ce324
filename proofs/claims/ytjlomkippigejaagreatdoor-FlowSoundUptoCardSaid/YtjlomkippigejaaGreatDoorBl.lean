import Derived.Test.YtjlomkippigejaaGreatDoorBk
namespace Go.Proofs.YtjlomkippigejaaGreatDoor
open Go Go.RowKit Go.Eng _root_.Go.Proofs.Tryz
set_option linter.unusedSimpArgs false
set_option linter.unusedVariables false
set_option maxRecDepth 100000
set_option maxHeartbeats 80000000
abbrev SJ(b:Nat)(x0:Int)(x1:Int)(x2:Int)(x3:Int)(x4:W4)(x5:W4):List Bl:=[(b,53, #[vI x0,vI x1,vI x2,vI x3,U x4,U x5])]
def DV(c:Int×Int×Bool)(b:Int)(e:W4)(a:Int->W4->Option (W4))(d:Bool):Option (W4):=ck (0<=(c.1+b)/\(c.1+b)<64) (ck (R64 (b+1)) (a (b+1) (put64 e (((c.1+b)).toNat) d)))
def CO(n:Int)(s:W4)(c:Int×Int×Bool)(b:Int)(d:W4)(a:Int->W4->Option (W4))(e:Bool):Option (W4):=if e=true then ck (R64 (c.1+b)) (ck (R64 ((c.1+b) - n)) (ck (0<=((c.1+b) - n)/\((c.1+b) - n)<64) (DV c b d a ((s).getLsbD ((((c.1+b) - n)).toNat)))))else DV c b d a false
def DW(n:Int)(s:W4)(c:Int×Int×Bool)(b:Int)(d:W4)(a:Int->W4->Option (W4))(e:Bool):Option (W4):=if e=true then ck (R64 (c.1+b)) (ck (R64 ((c.1+b) - n)) (CO n s c b d a (decide ((((c.1+b) - n):Int)<64))))else CO n s c b d a false
def AN(n:Int)(s:W4)(b:Int×Int×Bool):Nat->Int->W4->Option (W4)
  |0,_,_=>none
  |d+1,a,c=>if a<b.2.1 then ck (R64 (b.1+a)) (if((b.1+a):Int)<64 then ck (R64 (b.1+a)) (ck (R64 (a - n)) (if((a - n):Int)>=0 then ck (R64 (a - n)) (DW n s b a c (AN n s b d) (decide (((a - n):Int)<b.2.1)))else DW n s b a c (AN n s b d) false))else ck (R64 (a+1)) ((AN n s b d) (a+1) c))else some c
def EG(N:Nat)(m:Ao)(a:Int)(n:Int)(s:W4):Option (W4):=(Cq N m a).bind λb=>if b.2.2=true then AN n s b N 0 s else some s
theorem Lx(N m p n s r)(a:EG N m p n s=some r)(ro)(mv:AB)(hm:Aa1 ro mv m):Does prog 24 #[vA (Ac m mv),vI p,vI n,vA (⟨Ay s⟩:Array Value)] ro [] (pV (vA (⟨Ay r⟩:Array Value))):=by
 unfold EG at a
 refine Al follows func24 Z 67 Z _ fz4 (λY=> ?_)
 refine Ad<|rA Z λb2=>rA Z λq=>r_a (47,(⟨Ay (0#64)⟩:Array Value)) Z Z Lv (λC=> ?_) (.inr Z)
 refine Ak<|Ad<|rm 2 [2] Z<|kB a λe aa a=>gV _ (cF aV) (λo w z_=>HY N m p _ aa z_.view mv (Aa1.mono z_.ro_cell hm))<|rz Z<|Aa λK8 ab=>AZ Z<|BI _ Z (λi=> ?_) (λi=> ?_)
 ·replace a:=ifn (Bool.eq_false_iff.1 (Dk i)) a
  refine AY [1,0] Z ?_
  cases a
  refine Bh (λhn=>Ur (v0:=vA (⟨Ay s⟩:Array Value)) Z (FZ (AW hn 0 Z Z Z)))
 replace a:=ifp (Dl i) a
 refine Ab<|ab _ _ ?_
 refine Ad<|rm 1 [1] Z<|r_a (47,(⟨Ay (0#64)⟩:Array Value)) Z Z Lv (λh=> ?_) (.inr Z)
 refine ry [0] Z<|Aa λah F=>AZ Z<|Ai<|Bs [(h,47,(⟨Ay s⟩:Array Value)),(C,47,(⟨Ay (0#64)⟩:Array Value)),(q,47,(⟨Ay s⟩:Array Value))] (Sub.of (suK _ (suK _ (suK _ (suC _ suN))))) ?_
 refine AH (λtt ll nn=> ∃(f:Nat) (d:Int) (g:W4),(AN n s e f d g=some r)/\Is [(2,vI n),(7,vP q 0),(8,vP C 0),(9,vI e.1),(10,vI e.2.1),(12,vP h 0),(13,vI d)] [(h,47,(⟨Ay g⟩:Array Value)),(C,47,(⟨Ay (0#64)⟩:Array Value)),(q,47,(⟨Ay s⟩:Array Value))] tt ll/\nn=f+1) (N+1) ?_ ?_
 ·exact⟨N,0,s,a,Ag Z Z,Z⟩
 clear a;rintro t l _ ⟨f,d,g,a,⟨⟨T,rfl⟩,rfl⟩,rfl⟩
 rcases f with _|f
 ·exact absurd a (by simp [AN])
 rw [AN] at a
 refine Aa λai G=>AZ Z<|aD a Z (λH a=> ?_) (λH a=> ?_)
 ·refine Ab<|G _ _ ?_
  refine Aa λaj u=>Ai<|Ad<|rn 2 Z<|kC a λI a=>rX I Z<|rz Z<|aD a Z (λJ a=> ?_) (λJ a=> ?_)
  ·refine Ah<|rn 2 Z<|kC a λK a=>rX K Z<|rn 2 Z<|kC a λL a=>rX L Z<|rn 2 Z<|AF 6 47 [(2,vI n),(7,vP q 0),(8,vP C 0),(9,vI e.1),(10,vI e.2.1),(12,vP h 0),(13,vI d),(36,vI (e.1+d))] vB (λb_=>DW n s e d g (AN n s e f) b_=some r) (λad a T=> ?_) (λv=> ?_)
   ·unfold DW at a
    refine rn 1 Z<|AF 7 55 [(2,vI n),(7,vP q 0),(8,vP C 0),(9,vI e.1),(10,vI e.2.1),(12,vP h 0),(13,vI d),(36,vI (e.1+d))] vB (λb_=>CO n s e d g (AN n s e f) b_=some r) (λae a T=> ?_) (λv=> ?_)
    ·unfold CO at a
     refine rn 1 Z<|AF 8 64 [(2,vI n),(7,vP q 0),(8,vP C 0),(9,vI e.1),(10,vI e.2.1),(12,vP h 0),(13,vI d),(36,vI (e.1+d))] vB (λb_=>DV e d g (AN n s e f) b_=some r) (λD a T=> ?_) (λv=> ?_)
     ·unfold DV at a
      refine kC a λM a=> ?_
      have x:=λc=>Fc (IJ (P:=prog) (c:=c) (t:=47) (b:=h) (off:=0) (k:= .i64) Z Z Z M)
      simp only [q6] at x
      have j:((e.1+d)).toNat<64:=by omega
      refine r_W (Value.pointer (some ⟨h,((e.1+d)).toNat,none⟩)) Z (x _)<|r_s [(h,47,(⟨Ay (put64 g (((e.1+d)).toNat) D)⟩:Array Value)),(C,47,(⟨Ay (0#64)⟩:Array Value)),(q,47,(⟨Ay s⟩:Array Value))] 0 _ _ _ _ _ ((⟨Ay (put64 g (((e.1+d)).toNat) D)⟩:Array Value)) Z Z Z Z (OZ Z Z _ _ j) (Ml _ _ _ j) Z<|Ak<|u _ _ ?_
      refine Ah<|rn 1 Z<|kC a λO a=>rX O Z<|rz Z<|fg _ (Sub.of (suK _ (suK _ (suK _ suN)))) ?_
      exact⟨f+1,by omega,f,(d+1),put64 g (((e.1+d)).toNat) D,a,Ag Z Z,Z⟩
     rcases y:ae with _|_
     ·replace a:=iB y a
      refine rn 8 Z ?_
      exact v _ _ a Z Z
     replace a:=ifp y a
     refine rn 2 Z<|r_y Z<|kC a λQ a=>rX Q Z<|rn 1 Z<|r_y Z<|kC a λR a=>rX R Z<|r_y Z<|kC a λS a=> ?_
     have z:=λc=>Fc (IJ (P:=prog) (c:=c) (t:=47) (b:=q) (off:=0) (k:= .i64) Z Z Z S)
     simp only [q6] at z
     have E:(((e.1+d) - n)).toNat<64:=by omega
     refine r_W (Value.pointer (some ⟨q,(((e.1+d) - n)).toNat,none⟩)) Z (z _)<|r_y Z<|r_l (vB ((s).getLsbD ((((e.1+d) - n)).toNat))) 2 _ _ _ _ Z Z Z Z (VO Z _ E)<|rn 1 Z ?_
     exact v _ _ a Z Z
    rcases A:ad with _|_
    ·replace a:=iB A a
     refine rn 7 Z ?_
     exact v _ _ a Z Z
    replace a:=ifp A a
    refine rn 2 Z<|r_y Z<|kC a λU a=>rX U Z<|rn 1 Z<|r_y Z<|kC a λV a=>rX V Z<|rn 2 Z ?_
    exact v _ _ a Z Z
   rcases B:(decide (((d - n):Int)>=0))with _|_
   ·replace a:=iF B a
    refine rn 6 Z ?_
    exact v _ _ a Z Z
   replace a:=iD B a
   refine rn 2 Z<|r_y Z<|kC a λW a=>rX W Z<|rn 3 Z ?_
   exact v _ _ a Z Z
  refine Ab<|u _ _ ?_
  refine Ah<|rn 1 Z<|kC a λX a=>rX X Z<|rz Z<|fg _ (Sub.of (suK _ (suK _ (suK _ suN)))) ?_
  exact⟨f+1,by omega,f,(d+1),g,a,Ag Z Z,Z⟩
 refine AG<|F _ _ ?_
 refine AY [0,1] Z ?_
 obtain rfl:=q1 a
 refine Bh (λhn=>Ur (v0:=vA (⟨Ay g⟩:Array Value)) Z (FZ (AW hn 1 Z Z Z)))
def BN(b:W4)(a:W4):Option ((W4)×(W4)×Bool):=some (a,b,true)
def CP(N:Nat)(m:Ao)(c:Int)(a:Int)(d:Int)(s:W4)(b:List (W0))(e:Bool):Option ((W4)×(W4)×Bool):=if e=true then ck (0<=a/\a<64) (some (s,s,(s).getLsbD (a.toNat)))else if((b[c.toNat]!).1)=([115,104,111,119]:W2)then ck (0<=a/\a<64) (BN s (put64 s (a.toNat) true))else if((b[c.toNat]!).1)=([104,105,100,101]:W2)then ck (0<=a/\a<64) (BN s (put64 s (a.toNat) false))else if((b[c.toNat]!).1)=([112,117,115,104,45,104,101,97,100]:W2)then(EG N m a d s).bind λf=>BN s f else if((b[c.toNat]!).1)=([112,111,112,45,104,101,97,100]:W2)then ck (R64 (0 - d)) ((EG N m a (0 - d) s).bind λg=>BN s g)else if((b[c.toNat]!).1)=([106,117,109,112,45,103,111,110,101]:W2)then ck (0<=a/\a<64) (ck (0<=a/\a<64) (BN (put64 s (a.toNat) false) (put64 s (a.toNat) true)))else BN s s
def Ge(N:Nat)(m:Ao)(a:Int)(d:Int)(c:Int)(_:Int)(_:W3)(s:W4):Option ((W4)×(W4)×Bool):=(Gy N).bind λb=>ck (0<=a/\a<(b.length:Int)) (if((b[a.toNat]!).1)=([102,105,101,108,100]:W2)then CP N m a d c s b (((b[a.toNat]!).1)==([102,105,101,108,100]:W2))else CP N m a d c s b (((b[a.toNat]!).1)==([112,117,116,45,102,105,101,108,100]:W2)))
theorem PE(N m f a g h d s r)(e:Ge N m f a g h d s=some r)(ro)(u:AB)(hm:Aa1 ro u m):Does prog 11 #[vA (Ac m u),vA #[vI f,vI a,vI g,vI h,U (hi d),U (lo d)],vA (⟨Ay s⟩:Array Value)] ro [] (pV (vT #[vA (⟨Ay r.1⟩:Array Value),vA (⟨Ay r.2.1⟩:Array Value),vB r.2.2])):=by
 unfold Ge at e
 refine Al follows func11 Z 67 Z _ fz3 (λar=> ?_)
 refine Ad<|rA Z λz=>rA Z λy=>rA Z λp=>r_a (47,(⟨Ay (0#64)⟩:Array Value)) Z Z Lv (λv=> ?_) (.inr Z)
 refine r_a (47,(⟨Ay (0#64)⟩:Array Value)) Z Z Lv (λx=> ?_) (.inr Z)
 refine rz Z<|Aa λK7 au=>Ia [] (by decide+kernel) (λA=>AK)<|rm 2 [2,2] Z<|r_a (47,(⟨Ay (0#64)⟩:Array Value)) Z Z Lv (λn=> ?_) (.inl Z)
 refine r_a (47,(⟨Ay (0#64)⟩:Array Value)) Z Z Lv (λq=> ?_) (.inl Z)
 refine Zz [(q,47,(⟨Ay (0#64)⟩:Array Value)),(n,47,(⟨Ay s⟩:Array Value)),(x,47,(⟨Ay (0#64)⟩:Array Value)),(v,47,(⟨Ay (0#64)⟩:Array Value)),(p,47,(⟨Ay s⟩:Array Value)),(y,53, #[vI f,vI a,vI g,vI h,U (hi d),U (lo d)]),(z,35,(Ac m u))] 1 _ _ _ (⟨Ay (0#64)⟩:Array Value) (⟨Ay s⟩:Array Value) (⟨Ay s⟩:Array Value) Z Z Z Z Z (.of Z Z) Z Z ?_
 refine Zz [(q,47,(⟨Ay s⟩:Array Value)),(n,47,(⟨Ay s⟩:Array Value)),(x,47,(⟨Ay (0#64)⟩:Array Value)),(v,47,(⟨Ay (0#64)⟩:Array Value)),(p,47,(⟨Ay s⟩:Array Value)),(y,53, #[vI f,vI a,vI g,vI h,U (hi d),U (lo d)]),(z,35,(Ac m u))] 0 _ _ _ (⟨Ay (0#64)⟩:Array Value) (⟨Ay s⟩:Array Value) (⟨Ay s⟩:Array Value) Z Z Z Z Z (.of Z Z) Z Z<|Ak<|au _ _ ?_
 refine Cb (λtt ll=> ∃(G:W4) (H:W4),(BN G H=some r)/\Is [(6,vP v 0),(7,vP x 0),(9,vP n 0),(10,vP q 0)] [(q,47,(⟨Ay G⟩:Array Value)),(n,47,(⟨Ay H⟩:Array Value)),(x,47,(⟨Ay (0#64)⟩:Array Value)),(v,47,(⟨Ay (0#64)⟩:Array Value))] tt ll) ?_ ?_
 ·refine Aa λaz W=>BB [(some 13,false)] (conG prog [(13,λ_ _ v_ L_ U_=> ∀X,Gy N  =some X->(p1 (λs_=>s_) 56 Ae9 X) v_ L_ U_)]) [] (by decide+kernel) (λA=>AK)<|kB e λj I e=>Vr (Ls:=[[(q,47,(⟨Ay s⟩:Array Value))],[(n,47,(⟨Ay s⟩:Array Value))],[(x,47,(⟨Ay (0#64)⟩:Array Value))],[(v,47,(⟨Ay (0#64)⟩:Array Value))],[(p,47,(⟨Ay s⟩:Array Value))],(SJ y f a g h (hi d) (lo d)),[(z,35,(Ac m u))]]) (λY=>Y) 56 Ae9 j 9 _ Z Z Z (cF TY) (λo w z_=>Ny N  _ I z_.view) (GQ I) (λY Q R=> ?_)
  refine rm 2 [5] Z<|kC e λB e=>rI (Sl.shp R) B Z<|rF (Sl.shp R) (Bf B) Z<|rE (Ax R (Aj (Ls:=[[(q,47,(⟨Ay s⟩:Array Value))],[(n,47,(⟨Ay s⟩:Array Value))],[(x,47,(⟨Ay (0#64)⟩:Array Value))],[(v,47,(⟨Ay (0#64)⟩:Array Value))],[(p,47,(⟨Ay s⟩:Array Value))],(SJ y f a g h (hi d) (lo d)),[(z,35,(Ac m u))],Q]) (k:=7) Z Z)) B 0 Z<|Ak ?_
  refine W _ _ ?_
  refine Ai<|Cb (λtt ll=> ∃(S:Bool),(CP N m f a g s j S=some r)/\Is [(3,vP z 0),(4,vP y 0),(5,vP p 0),(6,vP v 0),(7,vP x 0),(9,vP n 0),(10,vP q 0),(18,vS ((j[f.toNat]!).1)),(19,vB S)] [(q,47,(⟨Ay s⟩:Array Value)),(n,47,(⟨Ay s⟩:Array Value)),(x,47,(⟨Ay (0#64)⟩:Array Value)),(v,47,(⟨Ay (0#64)⟩:Array Value)),(p,47,(⟨Ay s⟩:Array Value)),(y,53, #[vI f,vI a,vI g,vI h,U (hi d),U (lo d)]),(z,35,(Ac m u))] tt ll) ?_ ?_
  ·refine Ad<|r_W (vB (((j[f.toNat]!).1)==([102,105,101,108,100]:W2))) Z (Cr Z Z)<|rz Z<|aE e Z (λaa e=> ?_) (λaa e=> ?_)
   ·refine Ab<|fg _ (Sub.pick [[(q,47,(⟨Ay s⟩:Array Value))],[(n,47,(⟨Ay s⟩:Array Value))],[(x,47,(⟨Ay (0#64)⟩:Array Value))],[(v,47,(⟨Ay (0#64)⟩:Array Value))],[(p,47,(⟨Ay s⟩:Array Value))],(SJ y f a g h (hi d) (lo d)),[(z,35,(Ac m u))],Q] [0,1,2,3,4,5,6] Z) ?_
    exact⟨((j[f.toNat]!).1)==([102,105,101,108,100]:W2),e,Ag Z Z⟩
   refine Ah<|r_W (vB (((j[f.toNat]!).1)==([112,117,116,45,102,105,101,108,100]:W2))) Z (Cr Z Z)<|rz Z<|fg _ (Sub.pick [[(q,47,(⟨Ay s⟩:Array Value))],[(n,47,(⟨Ay s⟩:Array Value))],[(x,47,(⟨Ay (0#64)⟩:Array Value))],[(v,47,(⟨Ay (0#64)⟩:Array Value))],[(p,47,(⟨Ay s⟩:Array Value))],(SJ y f a g h (hi d) (lo d)),[(z,35,(Ac m u))],Q] [0,1,2,3,4,5,6] Z) ?_
   exact⟨((j[f.toNat]!).1)==([112,117,116,45,102,105,101,108,100]:W2),e,Ag Z Z⟩
  clear e;rintro t l ⟨S,e,⟨T,rfl⟩,rfl⟩
  unfold CP at e
  refine aB e Z (λab e=> ?_) (λab e=> ?_)
  ·refine Aa λba ac=>bk (Ls:=[[(q,47,(⟨Ay s⟩:Array Value))],[(n,47,(⟨Ay s⟩:Array Value))],[(x,47,(⟨Ay (0#64)⟩:Array Value))],[(v,47,(⟨Ay (0#64)⟩:Array Value))],[(p,47,(⟨Ay s⟩:Array Value))],(SJ y f a g h (hi d) (lo d)),[(z,35,(Ac m u))]]) [(some 1000000000,true)] [] [3,2] [4,5] [(6,5)] (by decide+kernel) (λA=>(bB A 3 4 Z Z Z Z Z AK)) (by decide+kernel) Z trivial (λhnb_=> ?_)
   refine bM (vA (⟨Ay s⟩:Array Value)) 4 _ _ _ _ Z Z Z Z Z (hnb_ p (List.mem_of_getElem? (i:=0) Z))<|bM (vA (⟨Ay s⟩:Array Value)) 4 _ _ _ _ Z Z Z Z Z (hnb_ p (List.mem_of_getElem? (i:=0) Z))<|rn 1 Z<|bM (vI a) 5 _ _ _ _ Z Z Z Z Z (hnb_ y (List.mem_of_getElem? (i:=1) Z))<|kC e λad e=> ?_
   have J:=λc=>Fc (IJ (P:=prog) (c:=c) (t:=47) (b:=p) (off:=0) (k:= .i64) Z Z Z ad)
   simp only [q6] at J
   have V:a.toNat<64:=by omega
   refine r_W (Value.pointer (some ⟨p,a.toNat,none⟩)) Z (J _)<|bM (vB ((s).getLsbD (a.toNat))) 4 _ _ _ _ Z Z Z Z (VO Z _ V) (hnb_ p (List.mem_of_getElem? (i:=0) Z))<|qx [(q,47,(⟨Ay s⟩:Array Value)),(n,47,(⟨Ay s⟩:Array Value)),(x,47,(⟨Ay (0#64)⟩:Array Value)),(v,47,(⟨Ay s⟩:Array Value)),(p,47,(⟨Ay s⟩:Array Value)),(y,53, #[vI f,vI a,vI g,vI h,U (hi d),U (lo d)]),(z,35,(Ac m u))] 3 _ _ _ (⟨Ay (0#64)⟩:Array Value) (⟨Ay s⟩:Array Value) (⟨Ay s⟩:Array Value) Z Z Z Z (.of Z Z) Z Z (List.mem_of_getElem? (i:=0) Z) ?_
   refine qx [(q,47,(⟨Ay s⟩:Array Value)),(n,47,(⟨Ay s⟩:Array Value)),(x,47,(⟨Ay s⟩:Array Value)),(v,47,(⟨Ay s⟩:Array Value)),(p,47,(⟨Ay s⟩:Array Value)),(y,53, #[vI f,vI a,vI g,vI h,U (hi d),U (lo d)]),(z,35,(Ac m u))] 2 _ _ _ (⟨Ay (0#64)⟩:Array Value) (⟨Ay s⟩:Array Value) (⟨Ay s⟩:Array Value) Z Z Z Z (.of Z Z) Z Z (List.mem_of_getElem? (i:=1) Z)<|rz Z<|ac _ _ ?_
   cases e
   refine Bh (λA=>Ur (v0:=vT #[vA (⟨Ay s⟩:Array Value),vA (⟨Ay s⟩:Array Value),vB ((s).getLsbD (a.toNat))]) Z (iU (AW A 3 Z Z Z) (AW A 2 Z Z Z) Z))
  refine Ad<|r_W (vB (((j[f.toNat]!).1)==([115,104,111,119]:W2))) Z (Cr Z Z)<|rz Z<|aE e Z (λae e=> ?_) (λae e=> ?_)
  ·refine Ah<|rm 2 [5] Z<|kC e λaf e=> ?_
   have K:=λc=>Fc (IJ (P:=prog) (c:=c) (t:=47) (b:=n) (off:=0) (k:= .i64) Z Z Z af)
   simp only [q6] at K
   have C:a.toNat<64:=by omega
   refine r_W (Value.pointer (some ⟨n,a.toNat,none⟩)) Z (K _)<|r_s [(q,47,(⟨Ay s⟩:Array Value)),(n,47,(⟨Ay (put64 s (a.toNat) true)⟩:Array Value)),(x,47,(⟨Ay (0#64)⟩:Array Value)),(v,47,(⟨Ay (0#64)⟩:Array Value)),(p,47,(⟨Ay s⟩:Array Value)),(y,53, #[vI f,vI a,vI g,vI h,U (hi d),U (lo d)]),(z,35,(Ac m u))] 1 _ _ _ _ _ ((⟨Ay (put64 s (a.toNat) true)⟩:Array Value)) Z Z Z Z (OZ Z Z _ _ C) (Ml _ _ _ C) Z<|Ak ?_
   refine fg _ (Sub.of (suK _ (suK _ (suK _ (suK _ (suC _ (suC _ (suC _ suN)))))))) ?_
   exact⟨s,put64 s (a.toNat) true,e,Ag Z Z⟩
  refine Ad<|r_W (vB (((j[f.toNat]!).1)==([104,105,100,101]:W2))) Z (Cr Z Z)<|rz Z<|aE e Z (λag e=> ?_) (λag e=> ?_)
  ·refine Ah<|rm 2 [5] Z<|kC e λah e=> ?_
   have L:=λc=>Fc (IJ (P:=prog) (c:=c) (t:=47) (b:=n) (off:=0) (k:= .i64) Z Z Z ah)
   simp only [q6] at L
   have D:a.toNat<64:=by omega
   refine r_W (Value.pointer (some ⟨n,a.toNat,none⟩)) Z (L _)<|r_s [(q,47,(⟨Ay s⟩:Array Value)),(n,47,(⟨Ay (put64 s (a.toNat) false)⟩:Array Value)),(x,47,(⟨Ay (0#64)⟩:Array Value)),(v,47,(⟨Ay (0#64)⟩:Array Value)),(p,47,(⟨Ay s⟩:Array Value)),(y,53, #[vI f,vI a,vI g,vI h,U (hi d),U (lo d)]),(z,35,(Ac m u))] 1 _ _ _ _ _ ((⟨Ay (put64 s (a.toNat) false)⟩:Array Value)) Z Z Z Z (OZ Z Z _ _ D) (Ml _ _ _ D) Z<|Ak ?_
   refine fg _ (Sub.of (suK _ (suK _ (suK _ (suK _ (suC _ (suC _ (suC _ suN)))))))) ?_
   exact⟨s,put64 s (a.toNat) false,e,Ag Z Z⟩
  refine Ad<|r_W (vB (((j[f.toNat]!).1)==([112,117,115,104,45,104,101,97,100]:W2))) Z (Cr Z Z)<|rz Z<|aE e Z (λai e=> ?_) (λai e=> ?_)
  ·refine Ah<|rm 6 [6,5,5,4] Z<|kB e λav aj e=>gV _ (cF io) (λo w z_=>Lx N m a g s _ aj z_.view u (Aa1.mono z_.ro_cell hm))<|ry [1] Z ?_
   refine fg _ (Sub.of (suK _ (suK _ (suK _ (suK _ (suC _ (suC _ (suC _ suN)))))))) ?_
   exact⟨s,av,e,Ag Z Z⟩
  refine Ad<|r_W (vB (((j[f.toNat]!).1)==([112,111,112,45,104,101,97,100]:W2))) Z (Cr Z Z)<|rz Z<|aE e Z (λak e=> ?_) (λak e=> ?_)
  ·refine Ah<|rm 5 [6,5,5] Z<|kC e λal e=>rX al Z<|rm 1 [4] Z<|kB e λaw am e=>gV _ (cF io) (λo w z_=>Lx N m a (0 - g) s _ am z_.view u (Aa1.mono z_.ro_cell hm))<|ry [1] Z ?_
   refine fg _ (Sub.of (suK _ (suK _ (suK _ (suK _ (suC _ (suC _ (suC _ suN)))))))) ?_
   exact⟨s,aw,e,Ag Z Z⟩
  refine Ad<|r_W (vB (((j[f.toNat]!).1)==([106,117,109,112,45,103,111,110,101]:W2))) Z (Cr Z Z)<|rz Z<|aE e Z (λan e=> ?_) (λan e=> ?_)
  ·refine Ad<|rm 2 [5] Z<|kC e λao e=> ?_
   have M:=λc=>Fc (IJ (P:=prog) (c:=c) (t:=47) (b:=n) (off:=0) (k:= .i64) Z Z Z ao)
   simp only [q6] at M
   have E:a.toNat<64:=by omega
   refine r_W (Value.pointer (some ⟨n,a.toNat,none⟩)) Z (M _)<|r_s [(q,47,(⟨Ay s⟩:Array Value)),(n,47,(⟨Ay (put64 s (a.toNat) true)⟩:Array Value)),(x,47,(⟨Ay (0#64)⟩:Array Value)),(v,47,(⟨Ay (0#64)⟩:Array Value)),(p,47,(⟨Ay s⟩:Array Value)),(y,53, #[vI f,vI a,vI g,vI h,U (hi d),U (lo d)]),(z,35,(Ac m u))] 1 _ _ _ _ _ ((⟨Ay (put64 s (a.toNat) true)⟩:Array Value)) Z Z Z Z (OZ Z Z _ _ E) (Ml _ _ _ E) Z<|Ak<|Ah<|rm 2 [5] Z<|kC e λap e=> ?_
   have O:=λc=>Fc (IJ (P:=prog) (c:=c) (t:=47) (b:=q) (off:=0) (k:= .i64) Z Z Z ap)
   simp only [q6] at O
   have F:a.toNat<64:=by omega
   refine r_W (Value.pointer (some ⟨q,a.toNat,none⟩)) Z (O _)<|r_s [(q,47,(⟨Ay (put64 s (a.toNat) false)⟩:Array Value)),(n,47,(⟨Ay (put64 s (a.toNat) true)⟩:Array Value)),(x,47,(⟨Ay (0#64)⟩:Array Value)),(v,47,(⟨Ay (0#64)⟩:Array Value)),(p,47,(⟨Ay s⟩:Array Value)),(y,53, #[vI f,vI a,vI g,vI h,U (hi d),U (lo d)]),(z,35,(Ac m u))] 0 _ _ _ _ _ ((⟨Ay (put64 s (a.toNat) false)⟩:Array Value)) Z Z Z Z (OZ Z Z _ _ F) (Ml _ _ _ F) Z<|Ak ?_
   refine fg _ (Sub.of (suK _ (suK _ (suK _ (suK _ (suC _ (suC _ (suC _ suN)))))))) ?_
   exact⟨put64 s (a.toNat) false,put64 s (a.toNat) true,e,Ag Z Z⟩
  refine Ab<|fg _ (Sub.of (suK _ (suK _ (suK _ (suK _ (suC _ (suC _ (suC _ suN)))))))) ?_
  exact⟨s,s,e,Ag Z Z⟩
 clear e;rintro t l ⟨G,H,e,⟨T,rfl⟩,rfl⟩
 unfold BN at e
 refine Aa λbb aq=>Ia [(6,10)] (by decide+kernel) (λA=>(bB A 3 0 Z Z Z Z Z AK))<|rm 3 [1,0,3] Z ?_
 refine ry [2] Z<|aq _ _ ?_
 cases e
 refine Bh (λA=>Ur (v0:=vT #[vA (⟨Ay H⟩:Array Value),vA (⟨Ay G⟩:Array Value),vB true]) Z (iU (AW A 3 Z Z Z) (AW A 2 Z Z Z) Z))
def BV(s:W4):Nat->W4->Int->Option (W4)
  |0,_,_=>none
  |c+1,b,a=>if a>=0 then ck (0<=a/\a<64) (if((s).getLsbD (a.toNat))=true then ck (R64 (a - 1)) ((BV s c) ((2#64*b)+1#64) (a - 1))else ck (R64 (a - 1)) ((BV s c) (2#64*b) (a - 1)))else some b
def HU(N:Nat)(s:W4):Option (W4):=BV s N (0#64) 63
theorem Ql(N s r)(a:HU N s=some r):Gives prog 13 #[vA (⟨Ay s⟩:Array Value)] (U r):=by
 unfold HU at a
 refine Aq follows func13 Z 17 Z _ fz1 (λp=> ?_)
 refine Ad<|rA Z λq=>rz Z<|AZ Z<|Aa λy u=>AZ Z<|Ai<|AH (λtt ll nn=> ∃(f:Nat) (d:W4) (e:Int),(BV s f d e=some r)/\Is [(1,vP q 0),(3,U d),(4,vI e)] [(q,47,(⟨Ay s⟩:Array Value))] tt ll/\nn=f+1) (N+1) ?_ ?_
 ·exact⟨N,0#64,63,a,Ag Z Z,Z⟩
 clear a;rintro t l _ ⟨f,d,e,a,⟨⟨T,rfl⟩,rfl⟩,rfl⟩
 rcases f with _|f
 ·exact absurd a (by simp [BV])
 rw [BV] at a
 refine Aa λz v=>AZ Z<|aD a Z (λw a=> ?_) (λw a=> ?_)
 ·refine Ab<|v _ _ ?_
  refine Aa λx g=>Ai<|Ad<|rn 1 Z<|r_X (U (2#64*d)) Z (Us (2#64) d) Z<|rz Z<|Ad<|rn 1 Z<|kC a λj a=> ?_
  have h:=λc=>Fc (IJ (P:=prog) (c:=c) (t:=47) (b:=q) (off:=0) (k:= .i64) Z Z Z j)
  simp only [q6] at h
  have i:e.toNat<64:=by omega
  refine r_W (Value.pointer (some ⟨q,e.toNat,none⟩)) Z (h _)<|r_l (vB ((s).getLsbD (e.toNat))) 0 _ _ _ _ Z Z Z Z (VO Z _ i)<|Ak<|aB a Z (λm a=> ?_) (λm a=> ?_)
  ·refine Ah<|rn 1 Z<|r_X (U ((2#64*d)+1#64)) Z (Xc (2#64*d) (1#64)) Z<|rz Z<|g _ _ ?_
   refine Ah<|rn 1 Z<|kC a λn a=>rX n Z<|rz Z<|fg _ (Sub.of (suK _ suN)) ?_
   exact⟨f+1,by omega,f,((2#64*d)+1#64),(e - 1),a,Ag Z Z,Z⟩
  refine Ab<|g _ _ ?_
  refine Ah<|rn 1 Z<|kC a λo a=>rX o Z<|rz Z<|fg _ (Sub.of (suK _ suN)) ?_
  exact⟨f+1,by omega,f,(2#64*d),(e - 1),a,Ag Z Z,Z⟩
 refine AG<|u _ _ ?_
 refine AZ Z ?_
 cases a
 exact aR eE1
def JR(N:Nat)(s:W4)(a:W4):Option Bool:=(Ik N s a).bind λb=>some (b==s)
theorem SW(N s d r)(a:JR N s d=some r):Gives prog 12 #[U s,U d] (vB r):=by
 unfold JR at a
 refine Aq follows func12 Z 10 Z _ fz2 (λb=> ?_)
 refine AZ Z<|Ad<|rn 2 Z<|kB a λe c a=>rc _ (cF im) (Qf N s d _ c)<|rn 1 Z<|r_X (vB (e==s)) Z (jI e s) Z<|rz Z ?_
 cases a
 exact aR eE1
end Go.Proofs.YtjlomkippigejaaGreatDoor
