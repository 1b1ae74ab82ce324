import Derived.Test.YtoolcgbcfgnipaaGreatDoorBh
namespace Go.Proofs.YtoolcgbcfgnipaaGreatDoor
open Go Go.RowKit Go.Eng _root_.Go.Proofs.Tryz
set_option linter.unusedSimpArgs false
set_option linter.unusedVariables false
set_option maxRecDepth 100000
set_option maxHeartbeats 80000000
abbrev Mn(b:Nat)(x0:List UInt8)(x1:Int)(x2:Value)(x3:Value)(x4:Int)(x5:Value)(x6:Int):List Bl:=[(b,177, #[vS x0,vI x1,x2,x3,vI x4,x5,vI x6])]
abbrev fc(b:Nat)(x0:Value):List Bl:=[(b,29, #[x0])]
abbrev UN(b:Nat)(x0:Value):List Bl:=[(b,198, #[x0])]
abbrev au(b:Nat)(x0:Value):List Bl:=[(b,118, #[x0])]
abbrev Nj(b:Nat)(x0:Int)(x1:Int)(x2:Value)(x3:Value)(x4:Int)(x5:Int):List Bl:=[(b,166, #[vI x0,vI x1,x2,x3,vI x4,vI x5])]
abbrev Ni(b:Nat)(x0:Int)(x1:Int):List Bl:=[(b,169, #[vI x0,vI x1])]
abbrev Qv(b:Nat)(x0:List UInt8)(x1:Value)(x2:Int)(x3:Int)(x4:Int)(x5:Int):List Bl:=[(b,79, #[vS x0,x1,vI x2,vI x3,vI x4,vI x5])]
def Iy(N:Nat)(c:Ao):Option (Int×Int):=(Nm N c.2.2.2.2.2.1 32 c).bind fun a=>some (a.1,a.2)
theorem Vo(N c r)(a:Iy N c=some r)(ro)(cv:AD)(hc:Aa1 ro cv c):DoesI prog 45 #[vA (Ac c cv)] Ie ro [] (pV (vT #[vI r.1,vI r.2])):=by
 unfold Iy at a
 refine AX follows func45 rfl 12 rfl _ fz1 Bg (fun b=> ?_)
 refine Ad<|rA rfl fun e=>rz rfl<|Ad<|rm 4 [0,0] rfl<|r_W (vF 102 #[vA (Ac c cv)] #[]) rfl (IU rfl rfl)<|kB a fun f d a=>gV _ (cF nO) (fun o w z_=>Va N c.2.2.2.2.2.1 32 c _ d z_.view cv.2.2.2.2.1 (RdN.mono z_.ro_cell hc.2.2.2.2.1) cv (Aa1.mono z_.ro_cell hc))<|rz rfl ?_
 cases a
 exact aR eV2
def Mx(_:Nat)(a:List UInt8)(_:Int)(_:List (Int×Int×Int))(_:List Int)(_:Int)(_:List (Int×BitVec 128))(_:Int):Option (List UInt8):=some a
theorem TC(N x_0 x_1 x_2 x_3 x_4 x_5 x_6 r)(b:Mx N x_0 x_1 x_2 x_3 x_4 x_5 x_6=some r)(ro:Ro)(x_2v:Value)(_hx_2:Rd Ac9 ro x_2v x_2)(x_3v:Value)(_hx_3:Rd BI ro x_3v x_3)(x_5v:Value)(_hx_5:Rd Ac8 ro x_5v x_5):Does prog 104 #[vA #[vS x_0,vI x_1,x_2v,x_3v,vI x_4,x_5v,vI x_6]] ro [] (pV (vS r)):=by
 unfold Mx at b
 refine Al follows func104 rfl 5 rfl _ fz1 (fun a=> ?_)
 refine Ad<|rA rfl fun c=>rz rfl<|AY [0] rfl ?_
 cases b
 exact aR eV1
def Im(N:Nat)(b:List ((List UInt8)×Int×(List (Int×Int×Int))×(List Int)×Int×(List (Int×BitVec 128))×Int)):Nat→List (List UInt8)→Int→Option (List (List UInt8))
  |0,_,_=>none
  |e+1,c,a=>if a<(b.length:Int)then ck (0≤a∧a<(b.length:Int)) ((Mx N (b[a.toNat]!.1) (b[a.toNat]!.2.1) (b[a.toNat]!.2.2.1) (b[a.toNat]!.2.2.2.1) (b[a.toNat]!.2.2.2.2.1) (b[a.toNat]!.2.2.2.2.2.1) (b[a.toNat]!.2.2.2.2.2.2)).bind fun d=>ck (0≤a∧a<(c.length:Int)) (ck (R64 (a+1)) ((Im N b e) ((c).set (a.toNat) d) (a+1))))else some c
def Om(N:Nat)(a:List ((List UInt8)×Int×(List (Int×Int×Int))×(List Int)×Int×(List (Int×BitVec 128))×Int)):Option (List (List UInt8)):=ck (0≤(a.length:Int)∧(a.length:Int)≤8796093022208) (Im N a N ((List.replicate ((a.length:Int)).toNat ([]))) 0)
theorem Wt(N l' r)(b:Om N l'=some r)(ro l'v)(hl':RdN Ad9 ro l'v l'):Does prog 173 #[l'v,vF 104 #[] #[]] ro [] (p1 (fun s_=>s_) 9 Aa3 r):=by
 unfold Om at b
 refine Al follows func173 rfl 26 rfl _ fz2 (fun B=> ?_)
 refine AZ rfl<|Ad<|rn 1 rfl<|rL (RdN.shp hl') rfl<|kC b fun C b=>cB 10<|SC (Ls:=[]) 9 Aa3 ([]) (l'.length:Int) rfl rfl rfl rfl rfl rfl rfl rfl rfl rfl 8796093022208 rfl C (fun _ _ _ _ _=>Iff.rfl) (fun D H I=> ?_)
 refine rz rfl<|Aa fun L F=>Ad<|rn 1 rfl<|rL (RdN.shp hl') rfl<|rz rfl<|Ai<|Bw _ (Sub.pick [H] [0] rfl)<|AH (fun tt ll nn=> ∃(p:Nat) (g:List (List UInt8)) (a:Int),(Im N l' p g a=some r)∧ ∃(c:List Bl),Sl 9 Aa3 D g c∧Is [(1,vF 104 #[] #[]),(5,D),(11,l'v),(12,vI (l'.length:Int)),(13,vI a)] (List.flatten [c]) tt ll∧nn=p+1) (N+1) ?_ ?_
 ·exact⟨N,(List.replicate ((l'.length:Int)).toNat ([])),0,b,H,I,Ah rfl rfl,rfl⟩
 clear b;rintro t l _ ⟨p,g,a,b,c,h,⟨⟨T,rfl⟩,rfl⟩,rfl⟩
 rcases p with _|p
 ·exact absurd b (by simp [Im])
 rw [Im] at b
 refine AZ rfl<|Aa fun J s=>aD b rfl (fun u b=> ?_) (fun u b=> ?_)
 ·refine Ab<|s _ _ ?_
  refine Aa fun K v=>Ai<|Ad<|rn 1 rfl<|kC b fun i b=> ?_
  obtain⟨_,⟨d,e,f,j,k,m,rfl⟩,hat22⟩:=RdN.at (E:=Ad9) hl' (Dc i)
  refine rI (RdN.shp hl') i rfl<|NB (vA #[vS (l'[a.toNat]!.1),vI (l'[a.toNat]!.2.1),d,e,vI (l'[a.toNat]!.2.2.2.2.1),f,vI (l'[a.toNat]!.2.2.2.2.2.2)]) (vs:=[vS (l'[a.toNat]!.1),vI (l'[a.toNat]!.2.1),d,e,vI (l'[a.toNat]!.2.2.2.2.1),f,vI (l'[a.toNat]!.2.2.2.2.2.2)]) (a.toNat*7) 0 rfl rfl (fun o w z_=>At.mono z_.ro_cell hat22) rfl<|rA rfl fun q=>rn 1 rfl<|r_s (List.flatten [(Mn q (l'[a.toNat]!.1) (l'[a.toNat]!.2.1) d e (l'[a.toNat]!.2.2.2.2.1) f (l'[a.toNat]!.2.2.2.2.2.2)),c]) 0 _ _ _ _ _ (#[vS (l'[a.toNat]!.1),vI (l'[a.toNat]!.2.1),d,e,vI (l'[a.toNat]!.2.2.2.2.1),f,vI (l'[a.toNat]!.2.2.2.2.2.2)]) rfl rfl rfl rfl (.ofS rfl rfl (Ae rfl (Ae rfl (Ae (Shp.one (Rd.shp j)) (Ae (Shp.one (Rd.shp k)) (Ae rfl (Ae (Shp.one (Rd.shp m)) (Ae rfl Bv)))))))) rfl rfl<|Af<|Ag<|rn 3 rfl ?_
  refine rm 1 [0] rfl<|kB b fun x y b=>gV _ (BF (caps:=[]) rfl nK rfl) (fun o w z_=>TC N (l'[a.toNat]!.1) (l'[a.toNat]!.2.1) (l'[a.toNat]!.2.2.1) (l'[a.toNat]!.2.2.2.1) (l'[a.toNat]!.2.2.2.2.1) (l'[a.toNat]!.2.2.2.2.2.1) (l'[a.toNat]!.2.2.2.2.2.2) _ y z_.view d (z_.r j) e (z_.r k) f (z_.r m))<|kC b fun n b=>rI (Sl.shp h) n rfl<|Rb (Ls:=[(Mn q (l'[a.toNat]!.1) (l'[a.toNat]!.2.1) d e (l'[a.toNat]!.2.2.2.2.1) f (l'[a.toNat]!.2.2.2.2.2.2)),c]) 1 (En:=Aa3) (g[a.toNat]!) x (a.toNat) 0 rfl rfl rfl h (Dc n) rfl rfl rfl (IP rfl) rfl (fun z G=> ?_)
  refine Af<|v _ _ ?_
  refine Ag<|kC b fun A b=>rX A rfl<|rz rfl<|fg _ (Sub.pick [(Mn q (l'[a.toNat]!.1) (l'[a.toNat]!.2.1) d e (l'[a.toNat]!.2.2.2.2.1) f (l'[a.toNat]!.2.2.2.2.2.2)),z] [1] rfl) ?_
  exact⟨p+1,by omega,p,(g).set (a.toNat) x,(a+1),b,z,G,Ah rfl rfl,rfl⟩
 refine AI<|F _ _ ?_
 refine AZ rfl ?_
 cases b
 refine Bb (fun M=>Hw (v0:=D) h (EH (Sub.pick [c] [0] rfl)) rfl (EJ rfl))
def FA(_:Nat)(n:Int)(a:Int)(b:Int):Option Bool:=if n≥a then some (decide (n≤b))else some false
theorem OK(N n least most r)(a:FA N n least most=some r):Gives prog 176 #[vI n,vI least,vI most] (vB r):=by
 unfold FA at a
 refine Av follows func176 rfl 15 rfl _ fz3 (fun d=> ?_)
 refine AZ rfl<|Aa fun e b=>Ag<|rn 4 rfl ?_
 rcases c:(decide (n≥least))with _|_
 ·replace a:=iF c a
  refine rz rfl<|b _ _ ?_
  cases a
  exact aR eE1
 replace a:=iD c a
 refine rz rfl<|b _ _ ?_
 cases a
 exact aR eE1
def Gh(N:Nat)(a:List ((List UInt8)×(List Int)×(List (Int×Int×Int×Int×BitVec 128))))(i:Int):Option Bool:=ck ((R64 ((a.length:Int) - 1))) ((Az N i 0 ((a.length:Int) - 1)).bind fun b=>some b)
theorem Mu(N l' i r)(a:Gh N l' i=some r)(ro l'v)(hl':RdN Ad5 ro l'v l'):Does prog 232 #[l'v,vI i] ro [] (pV (vB r)):=by
 unfold Gh at a
 refine Al follows func232 rfl 10 rfl _ fz2 (fun b=> ?_)
 refine AZ rfl<|Ad<|rn 2 rfl<|rL (RdN.shp hl') rfl<|kC a fun c a=>rX c rfl<|kB a fun e d a=>rc _ (cF EV) (AP N i 0 ((l'.length:Int) - 1) _ d)<|rz rfl ?_
 cases a
 exact aR eV1
def Jb(N:Nat)(_:Int)(a:Int)(b:Ao):Option Int:=(Gh N b.2.2.2.2.2.1 a).bind fun c=>(Aq N c 5).bind fun d=>some d
theorem TI(N x a c r)(f:Jb N x a c=some r)(ro)(d:Nat)(b:AD)(g:Aa1 ro b c)(e:Blk ro d (GB c b)):Does prog 231 #[vI x,vI a,vP d 0] ro [] (pV (vI r)):=by
 unfold Jb at f
 refine Al follows func231 rfl 12 rfl _ fz3 (fun h=> ?_)
 refine AZ rfl<|Ad<|rn 2 rfl<|Hr b.2.2.2.2.1 (vs:=(GB c b)) (o:=5) rfl rfl (AS e) rfl<|rn 1 rfl<|kB f fun k i f=>gV _ (cF VI) (fun o w z_=>Mu N c.2.2.2.2.2.1 a _ i z_.view b.2.2.2.2.1 (RdN.mono z_.ro_cell g.2.2.2.2.1))<|kB f fun l j f=>rc _ (cF Bj) (Ay N k 5 _ j)<|rz rfl ?_
 cases f
 exact aR eV1
def JX(N:Nat)(c:List Int)(b:Ao):Nat→Int→Option (Int×Int)
  |0,_=>none
  |e+1,a=>if a<(c.length:Int)then ck (0≤a∧a<(c.length:Int)) ((Jb N a (c[a.toNat]!) b).bind fun d=>if(d:Int)≠0 then some (a,d)else ck (R64 (a+1)) ((JX N c b e) (a+1)))else some (0,0)
def NN(N:Nat)(c:List Int)(b:Int)(a:Ao):Option (Int×Int):=if(c.length:Int)>b then some (0,2)else JX N c a N 0
theorem aI(N l' most c r)(b:NN N l' most c=some r)(ro l'v)(hl':Rd BI ro l'v l')(a:Nat)(d:AD)(g:Aa1 ro d c)(f:Blk ro a (GB c d)):Does prog 107 #[l'v,vI most,vF 231 #[] #[vP a 0]] ro [] (pV (vT #[vI r.1,vI r.2])):=by
 unfold NN at b
 refine Al follows func107 rfl 31 rfl _ fz3 (fun s=> ?_)
 refine AZ rfl<|Aa fun B u=>Ad<|rn 1 rfl<|rL (Rd.shp hl') rfl<|rz rfl<|aD b rfl (fun v b=> ?_) (fun v b=> ?_)
 ·refine AZ rfl ?_
  cases b
  exact aR eV2
 refine Ab<|u _ _ ?_
 refine Aa fun C x=>Ad<|rn 1 rfl<|rL (Rd.shp hl') rfl<|rz rfl<|Ai<|AH (fun tt ll nn=> ∃(i:Nat) (e:Int),(JX N l' c i e=some r)∧Is [(2,vF 231 #[] #[vP a 0]),(15,l'v),(16,vI (l'.length:Int)),(17,vI e)] [] tt ll∧nn=i+1) (N+1) ?_ ?_
 ·exact⟨N,0,b,Ah rfl rfl,rfl⟩
 clear b;rintro t l _ ⟨i,e,b,⟨⟨T,rfl⟩,rfl⟩,rfl⟩
 rcases i with _|i
 ·exact absurd b (by simp [JX])
 rw [JX] at b
 refine AZ rfl<|Aa fun y j=>aD b rfl (fun k b=> ?_) (fun k b=> ?_)
 ·refine Ab<|j _ _ ?_
  refine Aa fun z m=>Ai<|Ad<|rn 1 rfl<|kC b fun h b=>rI (Rd.shp hl') h rfl<|rE (Aw hl') h 0 rfl<|rz rfl<|Ad<|rn 3 rfl<|kB b fun A n b=>gV _ (BF (caps:=[vP a 0]) rfl lP rfl) (fun o w z_=>TI N e (l'[e.toNat]!) c _ n z_.view a d (Aa1.mono z_.ro_cell g) (AS f o w z_))<|rz rfl<|AZ rfl<|aN b rfl (fun p b=> ?_) (fun p b=> ?_)
  ·refine AZ rfl ?_
   cases b
   exact aR eV2
  refine Ab<|m _ _ ?_
  refine Ag<|kC b fun q b=>rX q rfl<|rz rfl<|fg _ (Sub.of suN) ?_
  exact⟨i+1,by omega,i,(e+1),b,Ah rfl rfl,rfl⟩
 refine AI<|x _ _ ?_
 refine AZ rfl ?_
 cases b
 exact aR eV2
def Co(s:List Int)(b:Int):Nat→Int→Option Int
  |0,_=>none
  |c+1,a=>if a<(s.length:Int)then ck (0≤a∧a<(s.length:Int)) (if b=s[a.toNat]! then some a else ck (R64 (a+1)) ((Co s b c) (a+1)))else some (-1)
def HI(N:Nat)(s:List Int)(a:Int):Option Int:=Co s a N 0
theorem PH(N s v' r)(a:HI N s v'=some r)(ro sv)(hs:Rd BI ro sv s):Does prog 185 #[sv,vI v'] ro [] (pV (vI r)):=by
 unfold HI at a
 refine Al follows func185 rfl 19 rfl _ fz2 (fun g=> ?_)
 refine AZ rfl<|Aa fun m h=>Ad<|rn 1 rfl<|rL (Rd.shp hs) rfl<|rz rfl<|Ai<|AH (fun tt ll nn=> ∃(d:Nat) (b:Int),(Co s v' d b=some r)∧Is [(0,sv),(1,vI v'),(7,vI (s.length:Int)),(8,vI b)] [] tt ll∧nn=d+1) (N+1) ?_ ?_
 ·exact⟨N,0,a,Ah rfl rfl,rfl⟩
 clear a;rintro t l _ ⟨d,b,a,⟨⟨T,rfl⟩,rfl⟩,rfl⟩
 rcases d with _|d
 ·exact absurd a (by simp [Co])
 rw [Co] at a
 refine AZ rfl<|Aa fun n i=>aD a rfl (fun j a=> ?_) (fun j a=> ?_)
 ·refine Ab<|i _ _ ?_
  refine Aa fun o k=>Ai<|AZ rfl<|Ad<|rn 3 rfl<|kC a fun c a=>rI (Rd.shp hs) c rfl<|rE (Aw hs) c 0 rfl<|rz rfl<|aE a rfl (fun e a=> ?_) (fun e a=> ?_)
  ·refine AZ rfl ?_
   cases a
   exact aR eV1
  refine Ab<|k _ _ ?_
  refine Ag<|kC a fun f a=>rX f rfl<|rz rfl<|fg _ (Sub.of suN) ?_
  exact⟨d+1,by omega,d,(b+1),a,Ah rfl rfl,rfl⟩
 refine AI<|h _ _ ?_
 refine AZ rfl ?_
 cases a
 exact aR eV1
def Bm(N:Nat)(s:List Int)(b:Int):Option Bool:=(HI N s b).bind fun a=>some (decide (a≥0))
theorem Ii(N s v' r)(a:Bm N s v'=some r)(ro sv)(hs:Rd BI ro sv s):Does prog 109 #[sv,vI v'] ro [] (pV (vB r)):=by
 unfold Bm at a
 refine Al follows func109 rfl 9 rfl _ fz2 (fun b=> ?_)
 refine AZ rfl<|Ad<|rn 2 rfl<|kB a fun d c a=>gV _ (cF mA) (fun o w z_=>PH N s v' _ c z_.view sv (z_.r hs))<|rz rfl ?_
 cases a
 exact aR eV1
def Ja(N:Nat)(i:Int)(a:Int)(b:List Int):Option Int:=ck (0≤i∧i≤(b.length:Int)) ((Bm N (((b).take (i.toNat)).drop 0) a).bind fun d=>(Aq N (!(d)) 6).bind fun c=>some c)
theorem TH(N i a f r)(c:Ja N i a f=some r)(ro)(d:Nat)(b)(e:Rd BI ro b f)(g:Blk ro d [b]):Does prog 233 #[vI i,vI a,vP d 0] ro [] (pV (vI r)):=by
 unfold Ja at c
 refine Al follows func233 rfl 13 rfl _ fz3 (fun j=> ?_)
 refine AZ rfl<|Ad<|Hr b (vs:=[b]) (o:=0) rfl rfl (AS g) rfl<|rn 1 rfl<|kC c fun h c=>r_W (FG b 0 (i.toNat) 1) rfl (Ef (Iz rfl rfl rfl rfl (Rd.shp e) h))<|rn 1 rfl<|kB c fun m k c=>gV _ (cF VR) (fun o w z_=>Ii N (((f).take (i.toNat)).drop 0) a _ k z_.view (FG b 0 (i.toNat) 1) ((Pc (Aw e) (Nat.zero_le _) (GR h.2)) o w z_))<|rn 1 rfl<|kB c fun n l c=>rc _ (cF Bj) (Ay N (!(m)) 6 _ l)<|rz rfl ?_
 cases c
 exact aR eV1
def JW(N:Nat)(c:List Int)(b:List Int):Nat→Int→Option (Int×Int)
  |0,_=>none
  |e+1,a=>if a<(c.length:Int)then ck (0≤a∧a<(c.length:Int)) ((Ja N a (c[a.toNat]!) b).bind fun d=>if(d:Int)≠0 then some (a,d)else ck (R64 (a+1)) ((JW N c b e) (a+1)))else some (0,0)
def NM(N:Nat)(c:List Int)(b:Int)(a:List Int):Option (Int×Int):=if(c.length:Int)>b then some (0,2)else JW N c a N 0
theorem aH(N l' most c r)(b:NM N l' most c=some r)(ro l'v)(hl':Rd BI ro l'v l')(a:Nat)(d)(g:Rd BI ro d c)(f:Blk ro a [d]):Does prog 107 #[l'v,vI most,vF 233 #[] #[vP a 0]] ro [] (pV (vT #[vI r.1,vI r.2])):=by
 unfold NM at b
 refine Al follows func107 rfl 31 rfl _ fz3 (fun s=> ?_)
 refine AZ rfl<|Aa fun B u=>Ad<|rn 1 rfl<|rL (Rd.shp hl') rfl<|rz rfl<|aD b rfl (fun v b=> ?_) (fun v b=> ?_)
 ·refine AZ rfl ?_
  cases b
  exact aR eV2
 refine Ab<|u _ _ ?_
 refine Aa fun C x=>Ad<|rn 1 rfl<|rL (Rd.shp hl') rfl<|rz rfl<|Ai<|AH (fun tt ll nn=> ∃(i:Nat) (e:Int),(JW N l' c i e=some r)∧Is [(2,vF 233 #[] #[vP a 0]),(15,l'v),(16,vI (l'.length:Int)),(17,vI e)] [] tt ll∧nn=i+1) (N+1) ?_ ?_
 ·exact⟨N,0,b,Ah rfl rfl,rfl⟩
 clear b;rintro t l _ ⟨i,e,b,⟨⟨T,rfl⟩,rfl⟩,rfl⟩
 rcases i with _|i
 ·exact absurd b (by simp [JW])
 rw [JW] at b
 refine AZ rfl<|Aa fun y j=>aD b rfl (fun k b=> ?_) (fun k b=> ?_)
 ·refine Ab<|j _ _ ?_
  refine Aa fun z m=>Ai<|Ad<|rn 1 rfl<|kC b fun h b=>rI (Rd.shp hl') h rfl<|rE (Aw hl') h 0 rfl<|rz rfl<|Ad<|rn 3 rfl<|kB b fun A n b=>gV _ (BF (caps:=[vP a 0]) rfl lO rfl) (fun o w z_=>TH N e (l'[e.toNat]!) c _ n z_.view a d (z_.r g) (AS f o w z_))<|rz rfl<|AZ rfl<|aN b rfl (fun p b=> ?_) (fun p b=> ?_)
  ·refine AZ rfl ?_
   cases b
   exact aR eV2
  refine Ab<|m _ _ ?_
  refine Ag<|kC b fun q b=>rX q rfl<|rz rfl<|fg _ (Sub.of suN) ?_
  exact⟨i+1,by omega,i,(e+1),b,Ah rfl rfl,rfl⟩
 refine AI<|x _ _ ?_
 refine AZ rfl ?_
 cases b
 exact aR eV2
def Ia(N:Nat)(c:Ao)(a:List Int):Option Int:=(NN N a 8 c).bind fun e=>(NM N a 8 a).bind fun f=>(Aq N (decide ((a.length:Int)>0)) 5).bind fun b=>(AE N ([b,e.2,f.2])).bind fun d=>some d
theorem WG(N c l' r)(a:Ia N c l'=some r)(ro)(cv:AD)(hc:Aa1 ro cv c)(l'v)(hl':Rd BI ro l'v l'):Does prog 177 #[vA (Ac c cv),l'v] ro [] (pV (vI r)):=by
 unfold Ia at a
 refine Al follows func177 rfl 29 rfl _ fz2 (fun f=> ?_)
 refine Ad<|rA rfl fun g=>r_a (29, #[l'v]) rfl rfl (NA rfl (Rd.shp hl')) (fun h=> ?_) (.inr rfl)
 refine rz rfl<|Ad<|rm 1 [0] rfl<|r_W (vF 231 #[] #[vP g 0]) rfl (IA rfl)<|kB a fun q i a=>gV _ (cF Sj) (fun o w z_=>aI N l' 8 c _ i z_.view l'v ((Aw hl') o w z_) g cv (Aa1.mono z_.ro_cell hc) (Cw 1 rfl rfl o w z_))<|rz rfl<|Ad<|rm 1 [0] rfl<|r_W (vF 233 #[] #[vP h 0]) rfl (IA rfl)<|kB a fun s j a=>gV _ (cF Sj) (fun o w z_=>aH N l' 8 l' _ j z_.view l'v ((Aw hl') o w z_) h l'v ((Aw hl') o w z_) (Cw 0 rfl rfl o w z_))<|rz rfl<|Ad<|rm 1 [0] rfl<|rL (Rd.shp hl') rfl<|rn 1 rfl<|kB a fun b d a=>rc _ (cF Bj) (Ay N (decide ((l'.length:Int)>0)) 5 _ d)<|rn 2 rfl<|gB (Ls:=[(fc h l'v),[(g,90,(Ac c cv))]]) 42 BI [b,q.2,s.2] (fun l m n=> ?_)
 refine kB a fun p e a=>gV _ (cF ED) (fun o w z_=>BQ N ([b,q.2,s.2]) _ e z_.view l ((Ax n (Ak (Ls:=[(fc h l'v),[(g,90,(Ac c cv))],m]) (k:=2) rfl rfl)) o w z_))<|rz rfl<|GQ [(4,vI p)] rfl (fun T=> ?_)
 cases a
 exact aR eV1
def Kw(N:Nat)(i:Int)(b:Int)(c:BitVec 128)(a:List Int):Option Int:=ck (0≤i∧i<(a.length:Int)) ((FF N b c (a[i.toNat]!)).bind fun d=>(Aq N d 9).bind fun e=>some e)
theorem WJ(N i v_0 v_1 e r)(b:Kw N i v_0 v_1 e=some r)(ro)(c:Nat)(a)(d:Rd BI ro a e)(f:Blk ro c [a]):Does prog 235 #[vI i,vA #[vI v_0,U (hi v_1),U (lo v_1)],vP c 0] ro [] (pV (vI r)):=by
 unfold Kw at b
 refine Al follows func235 rfl 13 rfl _ fz3 (fun h=> ?_)
 refine Ad<|rA rfl fun n=>rz rfl<|Aa fun p j=>IE [] (by decide+kernel) (fun q=>AQ)<|rm 1 [0] rfl<|Hr a (vs:=[a]) (o:=0) rfl rfl (AS f) rfl<|rn 1 rfl<|kC b fun g b=>rI (Rd.shp d) g rfl<|rE (Aw d) g 0 rfl<|kB b fun m k b=>rc _ (cF VJ) (Oh N v_0 v_1 (e[i.toNat]!) _ k)<|kB b fun s l b=>rc _ (cF Bj) (Ay N m 9 _ l)<|rz rfl<|j _ _ ?_
 cases b
 exact aR eV1
def Kc(N:Nat)(c:List (Int×BitVec 128))(b:List Int):Nat→Int→Option (Int×Int)
  |0,_=>none
  |e+1,a=>if a<(c.length:Int)then ck (0≤a∧a<(c.length:Int)) ((Kw N a ((c[a.toNat]!).1) ((c[a.toNat]!).2) b).bind fun d=>if(d:Int)≠0 then some (a,d)else ck (R64 (a+1)) ((Kc N c b e) (a+1)))else some (0,0)
def NT(N:Nat)(c:List (Int×BitVec 128))(b:Int)(a:List Int):Option (Int×Int):=if(c.length:Int)>b then some (0,2)else Kc N c a N 0
theorem aM(N l' most c r)(b:NT N l' most c=some r)(ro l'v)(hl':Rd Ac8 ro l'v l')(a:Nat)(d)(g:Rd BI ro d c)(f:Blk ro a [d]):Does prog 234 #[l'v,vI most,vF 235 #[] #[vP a 0]] ro [] (pV (vT #[vI r.1,vI r.2])):=by
 unfold NT at b
 refine Al follows func234 rfl 31 rfl _ fz3 (fun s=> ?_)
 refine AZ rfl<|Aa fun C u=>Ad<|rn 1 rfl<|rL (Rd.shp hl') rfl<|rz rfl<|aD b rfl (fun v b=> ?_) (fun v b=> ?_)
 ·refine AZ rfl ?_
  cases b
  exact aR eV2
 refine Ab<|u _ _ ?_
 refine Aa fun D x=>Ad<|rn 1 rfl<|rL (Rd.shp hl') rfl<|rz rfl<|Ai<|AH (fun tt ll nn=> ∃(i:Nat) (e:Int),(Kc N l' c i e=some r)∧Is [(2,vF 235 #[] #[vP a 0]),(15,l'v),(16,vI (l'.length:Int)),(17,vI e)] [] tt ll∧nn=i+1) (N+1) ?_ ?_
 ·exact⟨N,0,b,Ah rfl rfl,rfl⟩
 clear b;rintro t l _ ⟨i,e,b,⟨⟨T,rfl⟩,rfl⟩,rfl⟩
 rcases i with _|i
 ·exact absurd b (by simp [Kc])
 rw [Kc] at b
 refine AZ rfl<|Aa fun y j=>aD b rfl (fun k b=> ?_) (fun k b=> ?_)
 ·refine Ab<|j _ _ ?_
  refine Aa fun z m=>Ai<|Ad<|rn 1 rfl<|kC b fun h b=>rI (Rd.shp hl') h rfl<|rE (Aw hl') h 0 rfl<|rA rfl fun A=>ry [0] rfl<|Ad<|rm 3 [0] rfl<|kB b fun B n b=>gV _ (BF (caps:=[vP a 0]) rfl lL rfl) (fun o w z_=>WJ N e ((l'[e.toNat]!).1) ((l'[e.toNat]!).2) c _ n z_.view a d (z_.r g) (AS f o w z_))<|rz rfl<|AZ rfl<|aN b rfl (fun p b=> ?_) (fun p b=> ?_)
  ·refine AZ rfl ?_
   cases b
   exact aR eV2
  refine Ab<|m _ _ ?_
  refine Ag<|kC b fun q b=>rX q rfl<|rz rfl<|fg _ (Sub.of (suC _ suN)) ?_
  exact⟨i+1,by omega,i,(e+1),b,Ah rfl rfl,rfl⟩
 refine AI<|x _ _ ?_
 refine AZ rfl ?_
 cases b
 exact aR eV2
def IH(N:Nat)(c:Ao)(a:Int)(b:List (Int×BitVec 128)):Option Int:=(Gh N c.2.2.2.2.2.1 a).bind fun e=>if e=true then ck (0≤a∧a<(c.2.2.2.2.2.1.length:Int)) (if(b.length:Int)≠(((c.2.2.2.2.2.1)[a.toNat]!.2.1).length:Int)then some 2 else(NT N b (b.length:Int) ((c.2.2.2.2.2.1)[a.toNat]!.2.1)).bind fun d=>some d.2)else some 5
theorem Tp(N c action l' r)(a:IH N c action l'=some r)(ro)(cv:AD)(hc:Aa1 ro cv c)(l'v)(hl':Rd Ac8 ro l'v l'):Does prog 178 #[vA (Ac c cv),vI action,l'v] ro [] (pV (vI r)):=by
 unfold IH at a
 refine Al follows func178 rfl 37 rfl _ fz3 (fun k=> ?_)
 refine Ad<|rA rfl fun s=>rz rfl<|Aa fun u l=>Ad<|rm 4 [0] rfl<|kB a fun v m a=>gV _ (cF VI) (fun o w z_=>Mu N c.2.2.2.2.2.1 action _ m z_.view cv.2.2.2.2.1 (RdN.mono z_.ro_cell hc.2.2.2.2.1))<|rz rfl<|Bf _ rfl (fun f=> ?_) (fun f=> ?_)
 ·replace a:=ifn (Bool.eq_false_iff.1 (Da f)) a
  refine AZ rfl ?_
  cases a
  exact aR eV1
 replace a:=ifp (Db f) a
 refine Ab<|l _ _ ?_
 refine Ad<|rm 4 [0] rfl<|kC a fun d a=> ?_
 obtain⟨_,⟨e,n,b,q,rfl⟩,hat15⟩:=RdN.at (E:=Ad5) hc.2.2.2.2.1 (Dc d)
 refine rI (RdN.shp hc.2.2.2.2.1) d rfl<|rF (RdN.shp hc.2.2.2.2.1) (Be d) rfl<|NB e (vs:=[vS ((c.2.2.2.2.2.1)[action.toNat]!.1),e,n]) (action.toNat*3) 1 rfl rfl (fun o w z_=>At.mono z_.ro_cell hat15) rfl<|rA rfl fun g=>r_s [(g,29, #[e]),(s,90,(Ac c cv))] 0 _ _ _ _ _ (#[e]) rfl rfl rfl (Ga rfl (Rd.shp b)) (.ofS rfl rfl (Ae (Shp.one (Rd.shp b)) Bv)) rfl rfl<|Af<|Aa fun t h=>Ad<|rn 1 rfl<|rL (Rd.shp hl') rfl<|rm 1 [0] rfl<|rL (Rd.shp b) rfl<|rz rfl ?_
 refine aN a rfl (fun i a=> ?_) (fun i a=> ?_)
 ·refine AZ rfl ?_
  cases a
  exact aR eV1
 refine Ab<|h _ _ ?_
 refine Ad<|rn 2 rfl<|rL (Rd.shp hl') rfl<|r_W (vF 235 #[] #[vP g 0]) rfl (IA rfl)<|kB a fun p j a=>gV _ (cF lM) (fun o w z_=>aM N l' (l'.length:Int) ((c.2.2.2.2.2.1)[action.toNat]!.2.1) _ j z_.view l'v ((Aw hl') o w z_) g e (z_.r b) (Cw 0 rfl rfl o w z_))<|rz rfl<|GQ [(9,vI p.2)] rfl (fun T=> ?_)
 refine AZ rfl ?_
 cases a
 exact aR eV1
def IQ(N:Nat)(c:Ao)(_:List UInt8)(n:Int)(b:List (Int×Int×Int))(d:List Int)(a:Int)(i:List (Int×BitVec 128))(j:Int):Option Int:=(FA N n 0 3).bind fun p=>(Aq N p 10).bind fun q=>(Aq N (decide ((b.length:Int)>0)) 5).bind fun r=>(HY N c b 2).bind fun f=>(Ia N c d).bind fun m=>(Bm N d a).bind fun k=>(Aq N k 16).bind fun e=>(IH N c a i).bind fun o=>(Az N j 1 256).bind fun g=>(Aq N g 7).bind fun h=>(AE N ([q,r,f,m,e,o,h])).bind fun l=>some l
theorem Yw(N c x_0 x_1 x_2 x_3 x_4 x_5 x_6 r)(a:IQ N c x_0 x_1 x_2 x_3 x_4 x_5 x_6=some r)(ro)(cv:AD)(hc:Aa1 ro cv c)(x_2v)(hx_2:Rd Ac9 ro x_2v x_2)(x_3v)(hx_3:Rd BI ro x_3v x_3)(x_5v)(hx_5:Rd Ac8 ro x_5v x_5):DoesI prog 105 #[vA (Ac c cv),vA #[vS x_0,vI x_1,x_2v,x_3v,vI x_4,x_5v,vI x_6]] Ie ro [] (pV (vI r)):=by
 unfold IQ at a
 refine AX follows func105 rfl 43 rfl _ fz2 Bg (fun H=> ?_)
 refine Ad<|rA rfl fun S=>rA rfl fun U=>rz rfl<|Aa fun W I=> ?_
 refine BE [(some 17,false),(some 21,false),(some 27,false),(some 36,false),(some 41,false),(some 42,false)] (conG prog [(17,cV (HY N c x_2 2) fun b=>vI b),(21,cV (Ia N c x_3) fun b=>vI b),(27,cV (Bm N x_3 x_4) fun b=>vB b),(36,cV (IH N c x_4 x_5) fun b=>vI b),(42,fun _ _ v_ L_ U_=> ∀b,FA N x_1 0 3=some b→ ∀y,Aq N b 10=some y→ ∀z,Aq N (decide ((x_2.length:Int)>0)) 5=some z→ ∀A,HY N c x_2 2=some A→ ∀B,Ia N c x_3=some B→ ∀C,Bm N x_3 x_4=some C→ ∀D,Aq N C 16=some D→ ∀E,IH N c x_4 x_5=some E→ ∀F,Az N x_6 1 256=some F→ ∀G,Aq N F 7=some G→ ∀n,AE N ([y,z,A,B,D,E,G])=some n→(pV (vI n)) v_ L_ U_)]) [] (by decide+kernel) (fun X=>AQ) ?_
 refine rm 2 [0] rfl<|kB a fun V p a=>rc _ (cF mI) (OK N x_1 0 3 _ p)<|kB a fun J q a=>rc _ (cF Bj) (Ay N V 10 _ q)<|rm 2 [0] rfl<|rL (Rd.shp hx_2) rfl<|rn 1 rfl<|kB a fun K h a=>rc _ (cF Bj) (Ay N (decide ((x_2.length:Int)>0)) 5 _ h)<|rm 3 [1,0] rfl<|kB a fun s d a=>rg _ (cF cb) (fun o w z_=>Vh N c x_2 2 _ d z_.view cv (Aa1.mono z_.ro_cell hc) x_2v (z_.r hx_2)) (Ha d)<|rm 3 [1,0] rfl<|kB a fun t e a=>rg _ (cF mH) (fun o w z_=>(Does.inv (WG N c x_3 _ e z_.view cv (Aa1.mono z_.ro_cell hc) x_3v (z_.r hx_3)) _)) (Ha e)<|rm 5 [0,0] rfl<|kB a fun L f a=>rg _ (cF VR) (fun o w z_=>(Does.inv (Ii N x_3 x_4 _ f z_.view x_3v (z_.r hx_3)) _)) (Ha f)<|kB a fun u i a=>rc _ (cF Bj) (Ay N L 16 _ i)<|rm 7 [1,0,0] rfl<|kB a fun v g a=>rg _ (cF ca) (fun o w z_=>(Does.inv (Tp N c x_4 x_5 _ g z_.view cv (Aa1.mono z_.ro_cell hc) x_5v (z_.r hx_5)) _)) (Ha g)<|rm 2 [0] rfl<|kB a fun M j a=>rc _ (cF EV) (AP N x_6 1 256 _ j)<|kB a fun x l a=>rc _ (cF Bj) (Ay N M 7 _ l) ?_
 refine Kq (Ls:=[(Mn U x_0 x_1 x_2v x_3v x_4 x_5v x_6),[(S,90,(Ac c cv))]]) 42 BI [J,K,s,t,u,v,x] [vI J,vI K,vI s,vI t,vI u,vI v,vI x] [vI 0,vI 0,vI 0,vI 0,vI 0,vI 0,vI 0] rfl rfl rfl rfl rfl rfl rfl (by kernel_rfl) (by kernel_rfl) rfl rfl rfl (fun O P Q=> ?_)
 refine kB a fun R m a=>rg _ (cF ED) (fun o w z_=>(Does.inv (BQ N ([J,K,s,t,u,v,x]) _ m z_.view O ((Ax Q (Ak (Ls:=[(Mn U x_0 x_1 x_2v x_3v x_4 x_5v x_6),[(S,90,(Ac c cv))],P]) (k:=2) rfl rfl)) o w z_)) _)) (fun _ _ v_ L_ U_=>⟨fun h_=>h_ _ p _ q _ h _ d _ e _ f _ i _ g _ j _ l _ m,fun h_=>by intro _ e_;cases q1 (e_.symm.trans p);intro _ e_;cases q1 (e_.symm.trans q);intro _ e_;cases q1 (e_.symm.trans h);intro _ e_;cases q1 (e_.symm.trans d);intro _ e_;cases q1 (e_.symm.trans e);intro _ e_;cases q1 (e_.symm.trans f);intro _ e_;cases q1 (e_.symm.trans i);intro _ e_;cases q1 (e_.symm.trans g);intro _ e_;cases q1 (e_.symm.trans j);intro _ e_;cases q1 (e_.symm.trans l);intro _ e_;cases q1 (e_.symm.trans m);exact h_⟩) ?_
 refine rz rfl<|I _ _ ?_
 refine GQ [(4,vI R)] rfl (fun T=> ?_)
 cases a
 exact aR eV1
def KD(N:Nat)(i:Int)(k:List UInt8)(l:Int)(c:List (Int×Int×Int))(d:List Int)(e:Int)(h:List (Int×BitVec 128))(j:Int)(b:List (List UInt8))(a:Ao):Option Int:=ck (0≤i∧i<(b.length:Int)) ((EB N (b[i.toNat]!)).bind fun m=>(Aq N m 4).bind fun n=>(AU N b i).bind fun o=>(IQ N a k l c d e h j).bind fun f=>(AE N ([n,o,f])).bind fun g=>some g)
theorem Tu(N i x_0 x_1 x_2 x_3 x_4 x_5 x_6 b c3_p0_0_ r)(c:KD N i x_0 x_1 x_2 x_3 x_4 x_5 x_6 b c3_p0_0_=some r)(ro x_2v)(hx_2:Rd Ac9 ro x_2v x_2)(x_3v)(hx_3:Rd BI ro x_3v x_3)(x_5v)(hx_5:Rd Ac8 ro x_5v x_5)(l:Nat)(a)(g:Rd Aa3 ro a b)(h:Blk ro l [a])(m:Nat)(c3_p0_0_v:AD)(hc3_p0_0_:Aa1 ro c3_p0_0_v c3_p0_0_)(n:Blk ro m [vF 105 #[vA (Ac c3_p0_0_ c3_p0_0_v)] #[]]):DoesI prog 175 #[vI i,vA #[vS x_0,vI x_1,x_2v,x_3v,vI x_4,x_5v,vI x_6],vP l 0,vP m 0] Ie ro [] (pV (vI r)):=by
 unfold KD at c
 refine AX follows func175 rfl 21 rfl _ fz4 Bg (fun z=> ?_)
 refine Ad<|rA rfl fun G=>rz rfl<|Aa fun J A=> ?_
 refine BE [(some 15,false),(some 18,false),(some 19,false),(some 20,false)] (conG prog [(15,cV (AU N b i) fun f=>vI f),(18,cV (IQ N c3_p0_0_ x_0 x_1 x_2 x_3 x_4 x_5 x_6) fun f=>vI f),(20,fun _ _ v_ L_ U_=> ∀f,EB N (b[i.toNat]!)=some f→ ∀t,Aq N f 4=some t→ ∀u,AU N b i=some u→ ∀v,IQ N c3_p0_0_ x_0 x_1 x_2 x_3 x_4 x_5 x_6=some v→ ∀x,AE N ([t,u,v])=some x→(pV (vI x)) v_ L_ U_)]) [] (by decide+kernel) (fun K=>AQ) ?_
 refine Hr a (vs:=[a]) (o:=0) rfl rfl (AS h) rfl<|rn 1 rfl<|kC c fun y c=>rI (Rd.shp g) y rfl<|rE (Aw g) y 0 rfl<|kB c fun H p c=>rc _ (cF Nz) (LM N (b[i.toNat]!) _ p)<|kB c fun B q c=>rc _ (cF Bj) (Ay N H 4 _ q)<|Hr a (vs:=[a]) (o:=0) rfl rfl (AS h) rfl<|rn 1 rfl<|kB c fun C d c=>rg _ (cF Od) (fun o w z_=>(Does.inv (HQ N b i _ d z_.view a (z_.r g)) _)) (Ha d)<|Hr (vF 105 #[vA (Ac c3_p0_0_ c3_p0_0_v)] #[]) (vs:=[vF 105 #[vA (Ac c3_p0_0_ c3_p0_0_v)] #[]]) (o:=0) rfl rfl (AS n) rfl<|rm 1 [0] rfl<|kB c fun s e c=>rg _ (FZ (bd:=[vA (Ac c3_p0_0_ c3_p0_0_v)]) (caps:=[]) rfl nJ rfl) (fun o w z_=>Yw N c3_p0_0_ x_0 x_1 x_2 x_3 x_4 x_5 x_6 _ e z_.view c3_p0_0_v (Aa1.mono z_.ro_cell hc3_p0_0_) x_2v (z_.r hx_2) x_3v (z_.r hx_3) x_5v (z_.r hx_5)) (Ha e) ?_
 refine Kq (Ls:=[(Mn G x_0 x_1 x_2v x_3v x_4 x_5v x_6)]) 42 BI [B,C,s] [vI B,vI C,vI s] [vI 0,vI 0,vI 0] rfl rfl rfl rfl rfl rfl rfl (by kernel_rfl) (by kernel_rfl) rfl rfl rfl (fun D E F=> ?_)
 refine kB c fun I j c=>rg _ (cF ED) (fun o w z_=>(Does.inv (BQ N ([B,C,s]) _ j z_.view D ((Ax F (Ak (Ls:=[(Mn G x_0 x_1 x_2v x_3v x_4 x_5v x_6),E]) (k:=1) rfl rfl)) o w z_)) _)) (fun _ _ v_ L_ U_=>⟨fun h_=>h_ _ p _ q _ d _ e _ j,fun h_=>by intro _ e_;cases q1 (e_.symm.trans p);intro _ e_;cases q1 (e_.symm.trans q);intro _ e_;cases q1 (e_.symm.trans d);intro _ e_;cases q1 (e_.symm.trans e);intro _ e_;cases q1 (e_.symm.trans j);exact h_⟩) ?_
 refine rz rfl<|A _ _ ?_
 cases c
 exact aR eV1
def Ir(N:Nat)(c:List ((List UInt8)×Int×(List (Int×Int×Int))×(List Int)×Int×(List (Int×BitVec 128))×Int))(d:List (List UInt8))(b:Ao):Nat→Int→Option (Int×Int)
  |0,_=>none
  |f+1,a=>if a<(c.length:Int)then ck (0≤a∧a<(c.length:Int)) ((KD N a (c[a.toNat]!.1) (c[a.toNat]!.2.1) (c[a.toNat]!.2.2.1) (c[a.toNat]!.2.2.2.1) (c[a.toNat]!.2.2.2.2.1) (c[a.toNat]!.2.2.2.2.2.1) (c[a.toNat]!.2.2.2.2.2.2) d b).bind fun e=>if(e:Int)≠0 then some (a,e)else ck (R64 (a+1)) ((Ir N c d b f) (a+1)))else some (0,0)
def Md(N:Nat)(d:List ((List UInt8)×Int×(List (Int×Int×Int))×(List Int)×Int×(List (Int×BitVec 128))×Int))(c:Int)(b:List (List UInt8))(a:Ao):Option (Int×Int):=if(d.length:Int)>c then some (0,2)else Ir N d b a N 0
theorem Wx(N l' most e ask1_p0_0_ r)(d:Md N l' most e ask1_p0_0_=some r)(ro l'v)(hl':RdN Ad9 ro l'v l')(b:Nat)(f)(m:Rd Aa3 ro f e)(g:Blk ro b [f])(c:Nat)(ask1_p0_0_v:AD)(hask1_p0_0_:Aa1 ro ask1_p0_0_v ask1_p0_0_)(h:Blk ro c [vF 105 #[vA (Ac ask1_p0_0_ ask1_p0_0_v)] #[]]):DoesI prog 174 #[l'v,vI most,vF 175 #[] #[vP b 0,vP c 0]] Ie ro [] (pV (vT #[vI r.1,vI r.2])):=by
 unfold Md at d
 refine AX follows func174 rfl 31 rfl _ fz3 Bg (fun C=> ?_)
 refine AZ rfl<|Aa fun L D=>Ad<|rn 1 rfl<|rL (RdN.shp hl') rfl<|rz rfl<|aD d rfl (fun F d=> ?_) (fun F d=> ?_)
 ·refine AZ rfl ?_
  cases d
  exact aR eV2
 refine Ab<|D _ _ ?_
 refine Aa fun M G=>Ad<|rn 1 rfl<|rL (RdN.shp hl') rfl<|rz rfl<|Ai<|AH (fun tt ll nn=> ∃(u:Nat) (a:Int),(Ir N l' e ask1_p0_0_ u a=some r)∧Is [(2,vF 175 #[] #[vP b 0,vP c 0]),(15,l'v),(16,vI (l'.length:Int)),(17,vI a)] [] tt ll∧nn=u+1) (N+1) ?_ ?_
 ·exact⟨N,0,d,Ah rfl rfl,rfl⟩
 clear d;rintro t l _ ⟨u,a,d,⟨⟨T,rfl⟩,rfl⟩,rfl⟩
 rcases u with _|u
 ·exact absurd d (by simp [Ir])
 rw [Ir] at d
 refine AZ rfl<|Aa fun I v=>aD d rfl (fun x d=> ?_) (fun x d=> ?_)
 ·refine Ab<|v _ _ ?_
  refine Aa fun J y=>Ai<|Ad<|rn 1 rfl<|kC d fun n d=> ?_
  obtain⟨_,⟨i,j,k,p,q,s,rfl⟩,hat21⟩:=RdN.at (E:=Ad9) hl' (Dc n)
  refine rI (RdN.shp hl') n rfl<|NB (vA #[vS (l'[a.toNat]!.1),vI (l'[a.toNat]!.2.1),i,j,vI (l'[a.toNat]!.2.2.2.2.1),k,vI (l'[a.toNat]!.2.2.2.2.2.2)]) (vs:=[vS (l'[a.toNat]!.1),vI (l'[a.toNat]!.2.1),i,j,vI (l'[a.toNat]!.2.2.2.2.1),k,vI (l'[a.toNat]!.2.2.2.2.2.2)]) (a.toNat*7) 0 rfl rfl (fun o w z_=>At.mono z_.ro_cell hat21) rfl<|rA rfl fun H=>rn 1 rfl<|r_s (Mn H (l'[a.toNat]!.1) (l'[a.toNat]!.2.1) i j (l'[a.toNat]!.2.2.2.2.1) k (l'[a.toNat]!.2.2.2.2.2.2)) 0 _ _ _ _ _ (#[vS (l'[a.toNat]!.1),vI (l'[a.toNat]!.2.1),i,j,vI (l'[a.toNat]!.2.2.2.2.1),k,vI (l'[a.toNat]!.2.2.2.2.2.2)]) rfl rfl rfl rfl (.ofS rfl rfl (Ae rfl (Ae rfl (Ae (Shp.one (Rd.shp p)) (Ae (Shp.one (Rd.shp q)) (Ae rfl (Ae (Shp.one (Rd.shp s)) (Ae rfl Bv)))))))) rfl rfl<|Af<|Ad<|rn 2 rfl ?_
  refine rm 1 [0] rfl<|kB d fun K z d=>gV _ (BF (caps:=[vP b 0,vP c 0]) rfl mJ rfl) (fun o w z_=>Tu N a (l'[a.toNat]!.1) (l'[a.toNat]!.2.1) (l'[a.toNat]!.2.2.1) (l'[a.toNat]!.2.2.2.1) (l'[a.toNat]!.2.2.2.2.1) (l'[a.toNat]!.2.2.2.2.2.1) (l'[a.toNat]!.2.2.2.2.2.2) e ask1_p0_0_ _ z z_.view i (z_.r p) j (z_.r q) k (z_.r s) b f (z_.r m) (AS g o w z_) c ask1_p0_0_v (Aa1.mono z_.ro_cell hask1_p0_0_) (AS h o w z_)) ?_
  refine rz rfl<|AZ rfl<|aN d rfl (fun A d=> ?_) (fun A d=> ?_)
  ·refine AZ rfl ?_
   cases d
   exact aR eV2
  refine Ab<|y _ _ ?_
  refine Ag<|kC d fun B d=>rX B rfl<|rz rfl<|fg _ (Sub.of (suC _ suN)) ?_
  exact⟨u+1,by omega,u,(a+1),d,Ah rfl rfl,rfl⟩
 refine AI<|G _ _ ?_
 refine AZ rfl ?_
 cases d
 exact aR eV2
def Oi(N:Nat)(d:List ((List UInt8)×Int×(List (Int×Int×Int))×(List Int)×Int×(List (Int×BitVec 128))×Int))(c:Int)(a:Ao):Option (Int×Int):=(Om N d).bind fun e=>(Md N d c e a).bind fun b=>some (b.1,b.2)
theorem Wo(N l' most b r)(d:Oi N l' most b=some r)(ro l'v)(hl':RdN Ad9 ro l'v l')(a:AD)(c:Aa1 ro a b):DoesI prog 103 #[l'v,vI most,vF 104 #[] #[],vF 105 #[vA (Ac b a)] #[]] Ie ro [] (pV (vT #[vI r.1,vI r.2])):=by
 unfold Oi at d
 refine AX follows func103 rfl 20 rfl _ fz4 Bg (fun g=> ?_)
 refine Ad<|rA rfl fun e=>rz rfl<|Ad<|rn 2 rfl<|kB d fun n j d=>gS (Ls:=[(UN e (vF 105 #[vA (Ac b a)] #[]))]) (cF mL) (fun o w z_=>(Does.inv (Wt N l' _ j z_.view l'v (RdN.mono z_.ro_cell hl')) _)) (fun h m l=> ?_)
 refine rA rfl fun i=>r_s (List.flatten [(au i h),(UN e (vF 105 #[vA (Ac b a)] #[])),m]) 0 _ _ _ _ _ (#[h]) rfl rfl rfl (Ga rfl (Sl.shp l)) (.ofS rfl rfl (Ae (Shp.one (Sl.shp l)) Bv)) rfl rfl<|Af<|Ad<|rn 2 rfl<|r_W (vF 175 #[] #[vP i 0,vP e 0]) rfl (IA rfl)<|kB d fun p f d=>gV _ (cF mK) (fun o w z_=>Wx N l' most n b _ f z_.view l'v (RdN.mono z_.ro_cell hl') i h ((Ax l (Ak (Ls:=[(au i h),(UN e (vF 105 #[vA (Ac b a)] #[])),m]) (k:=2) rfl rfl)) o w z_) (Cw 0 rfl rfl o w z_) e a (Aa1.mono z_.ro_cell c) (Cw 1 rfl rfl o w z_))<|rz rfl ?_
 cases d
 exact aR eV2
def Ji(N:Nat)(c:Ao):Option (Int×Int):=(Oi N c.2.2.2.2.2.2.1 8 c).bind fun a=>some (a.1,a.2)
theorem WB(N c r)(a:Ji N c=some r)(ro)(cv:AD)(hc:Aa1 ro cv c):DoesI prog 46 #[vA (Ac c cv)] Ie ro [] (pV (vT #[vI r.1,vI r.2])):=by
 unfold Ji at a
 refine AX follows func46 rfl 12 rfl _ fz1 Bg (fun b=> ?_)
 refine Ad<|rA rfl fun e=>rz rfl<|Ad<|rm 4 [0,0] rfl<|r_W (vF 105 #[vA (Ac c cv)] #[]) rfl (IU rfl rfl)<|kB a fun f d a=>gV _ (cF nL) (fun o w z_=>Wo N c.2.2.2.2.2.2.1 8 c _ d z_.view cv.2.2.2.2.2.1 (RdN.mono z_.ro_cell hc.2.2.2.2.2.1) cv (Aa1.mono z_.ro_cell hc))<|rz rfl ?_
 cases a
 exact aR eV2
def Lp(N:Nat)(a:List ((List UInt8)×Int×(List (Int×Int×Int))×(List Int)×Int×(List (Int×BitVec 128))×Int))(i:Int):Option Bool:=ck ((R64 ((a.length:Int) - 1))) ((Az N i 0 ((a.length:Int) - 1)).bind fun b=>some b)
theorem UW(N l' i r)(a:Lp N l' i=some r)(ro l'v)(hl':RdN Ad9 ro l'v l'):Does prog 236 #[l'v,vI i] ro [] (pV (vB r)):=by
 unfold Lp at a
 refine Al follows func236 rfl 10 rfl _ fz2 (fun b=> ?_)
 refine AZ rfl<|Ad<|rn 2 rfl<|rL (RdN.shp hl') rfl<|kC a fun c a=>rX c rfl<|kB a fun e d a=>rc _ (cF EV) (AP N i 0 ((l'.length:Int) - 1) _ d)<|rz rfl ?_
 cases a
 exact aR eV1
def Gz(N:Nat)(c:Ao)(a:Int)(b:Int)(_:List (Int×Int×Int×Int×BitVec 128))(_:List (Int×BitVec 128))(_:Int)(_:Int):Option Int:=if a=0 then(Lp N c.2.2.2.2.2.2.1 b).bind fun j=>(Aq N j 5).bind fun e=>some e else if a=1 then(Aq N (b==0) 5).bind fun f=>some f else if a=2 then(Gh N c.2.2.2.2.2.1 b).bind fun g=>(Aq N g 5).bind fun h=>some h else if a=3 then(GC N c b).bind fun i=>(Aq N i 5).bind fun d=>some d else some 10
theorem SR(N c x_0 x_1 x_2 x_3 x_4 x_5 r)(a:Gz N c x_0 x_1 x_2 x_3 x_4 x_5=some r)(ro)(cv:AD)(hc:Aa1 ro cv c)(x_2v:Value)(_hx_2:Rd Ac7 ro x_2v x_2)(x_3v:Value)(_hx_3:Rd Ac8 ro x_3v x_3):Does prog 181 #[vA (Ac c cv),vA #[vI x_0,vI x_1,x_2v,x_3v,vI x_4,vI x_5]] ro [] (pV (vI r)):=by
 unfold Gz at a
 refine Al follows func181 rfl 39 rfl _ fz2 (fun m=> ?_)
 refine Ad<|rA rfl fun z=>rA rfl fun A=>rz rfl<|Aa fun B n=>AY [0] rfl<|Ai<|AZ rfl<|aE a rfl (fun p a=> ?_) (fun p a=> ?_)
 ·refine Ad<|rm 5 [1,0] rfl<|kB a fun t b a=>gV _ (cF lK) (fun o w z_=>UW N c.2.2.2.2.2.2.1 x_1 _ b z_.view cv.2.2.2.2.2.1 (RdN.mono z_.ro_cell hc.2.2.2.2.2.1))<|kB a fun u d a=>rc _ (cF Bj) (Ay N t 5 _ d)<|rz rfl ?_
  cases a
  exact aR eV1
 refine AZ rfl<|aE a rfl (fun e a=> ?_) (fun e a=> ?_)
 ·refine Ad<|rm 3 [0] rfl<|kB a fun v f a=>rc _ (cF Bj) (Ay N (x_1==0) 5 _ f)<|rz rfl ?_
  cases a
  exact aR eV1
 refine AZ rfl<|aE a rfl (fun g a=> ?_) (fun g a=> ?_)
 ·refine Ad<|rm 5 [1,0] rfl<|kB a fun q h a=>gV _ (cF VI) (fun o w z_=>Mu N c.2.2.2.2.2.1 x_1 _ h z_.view cv.2.2.2.2.1 (RdN.mono z_.ro_cell hc.2.2.2.2.1))<|kB a fun x i a=>rc _ (cF Bj) (Ay N q 5 _ i)<|rz rfl ?_
  cases a
  exact aR eV1
 refine AZ rfl<|aE a rfl (fun j a=> ?_) (fun j a=> ?_)
 ·refine Ad<|rm 4 [1,0] rfl<|kB a fun s k a=>gV _ (cF Zs) (fun o w z_=>Og N c x_1 _ k z_.view cv (Aa1.mono z_.ro_cell hc))<|kB a fun y l a=>rc _ (cF Bj) (Ay N s 5 _ l)<|rz rfl ?_
  cases a
  exact aR eV1
 refine Ab<|n _ _ ?_
 refine AZ rfl ?_
 cases a
 exact aR eV1
def GV(N:Nat)(c:Ao)(d:Int)(_:Int)(a:List (Int×Int×Int×Int×BitVec 128))(_:List (Int×BitVec 128))(_:Int)(_:Int):Option Int:=if d=1 then(Hi N c ([]) a).bind fun e=>some e else(Aq N ((a.length:Int)==0) 4).bind fun b=>some b
theorem TE(N c x_0 x_1 x_2 x_3 x_4 x_5 r)(a:GV N c x_0 x_1 x_2 x_3 x_4 x_5=some r)(ro)(cv:AD)(hc:Aa1 ro cv c)(x_2v)(hx_2:Rd Ac7 ro x_2v x_2)(x_3v:Value)(_hx_3:Rd Ac8 ro x_3v x_3):DoesI prog 182 #[vA (Ac c cv),vA #[vI x_0,vI x_1,x_2v,x_3v,vI x_4,vI x_5]] Ie ro [] (pV (vI r)):=by
 unfold GV at a
 refine AX follows func182 rfl 18 rfl _ fz2 Bg (fun d=> ?_)
 refine Ad<|rA rfl fun i=>rA rfl fun j=>rz rfl<|Aa fun k e=>AY [0] rfl<|aE a rfl (fun f a=> ?_) (fun f a=> ?_)
 ·refine Ad<|rm 4 [1,0] rfl<|kB a fun l g a=>gV _ (cF Zx) (fun o w z_=>Qd N c ([]) x_2 _ g z_.view cv (Aa1.mono z_.ro_cell hc) nS ((fun _ _ _=> .inl ⟨rfl,rfl⟩) o w z_) x_2v (z_.r hx_2))<|rz rfl ?_
  cases a
  exact aR eV1
 refine Ab<|e _ _ ?_
 refine Ad<|rm 2 [0] rfl<|rL (Rd.shp hx_2) rfl<|rn 1 rfl<|kB a fun h b a=>rc _ (cF Bj) (Ay N ((x_2.length:Int)==0) 4 _ b)<|rz rfl ?_
 cases a
 exact aR eV1
def GW(N:Nat)(c:Ao)(d:Int)(e:Int)(_:List (Int×Int×Int×Int×BitVec 128))(a:List (Int×BitVec 128))(_:Int)(_:Int):Option Int:=if d=2 then(IH N c e a).bind fun f=>some f else(Aq N ((a.length:Int)==0) 4).bind fun b=>some b
theorem TF(N c x_0 x_1 x_2 x_3 x_4 x_5 r)(a:GW N c x_0 x_1 x_2 x_3 x_4 x_5=some r)(ro)(cv:AD)(hc:Aa1 ro cv c)(x_2v:Value)(_hx_2:Rd Ac7 ro x_2v x_2)(x_3v)(hx_3:Rd Ac8 ro x_3v x_3):Does prog 183 #[vA (Ac c cv),vA #[vI x_0,vI x_1,x_2v,x_3v,vI x_4,vI x_5]] ro [] (pV (vI r)):=by
 unfold GW at a
 refine Al follows func183 rfl 19 rfl _ fz2 (fun d=> ?_)
 refine Ad<|rA rfl fun i=>rA rfl fun j=>rz rfl<|Aa fun k e=>AY [0] rfl<|aE a rfl (fun f a=> ?_) (fun f a=> ?_)
 ·refine Ad<|rm 5 [1,0,0] rfl<|kB a fun l g a=>gV _ (cF ca) (fun o w z_=>Tp N c x_1 x_3 _ g z_.view cv (Aa1.mono z_.ro_cell hc) x_3v (z_.r hx_3))<|rz rfl ?_
  cases a
  exact aR eV1
 refine Ab<|e _ _ ?_
 refine Ad<|rm 2 [0] rfl<|rL (Rd.shp hx_3) rfl<|rn 1 rfl<|kB a fun h b a=>rc _ (cF Bj) (Ay N ((x_3.length:Int)==0) 4 _ b)<|rz rfl ?_
 cases a
 exact aR eV1
def Gy(N:Nat)(i:Int)(_:Int)(_:List (Int×Int×Int×Int×BitVec 128))(_:List (Int×BitVec 128))(f:Int)(c:Int)(a:Int)(b:Int):Option Int:=ck (R64 (a+1)) ((Az N f (a+1) b).bind fun l=>(Aq N l 12).bind fun j=>if i=2 then(Aq N (c==0) 4).bind fun k=>(AE N ([k,j])).bind fun g=>some g else ck (R64 (a+1)) ((Az N c (a+1) b).bind fun e=>(Aq N e 12).bind fun d=>(AE N ([j,d])).bind fun h=>some h))
theorem SO(N x_0 x_1 x_2 x_3 x_4 x_5 at' end' r)(a:Gy N x_0 x_1 x_2 x_3 x_4 x_5 at' end'=some r)(ro:Ro)(x_2v:Value)(_hx_2:Rd Ac7 ro x_2v x_2)(x_3v:Value)(_hx_3:Rd Ac8 ro x_3v x_3):Does prog 184 #[vA #[vI x_0,vI x_1,x_2v,x_3v,vI x_4,vI x_5],vI at',vI end'] ro [] (pV (vI r)):=by
 unfold Gy at a
 refine Al follows func184 rfl 35 rfl _ fz3 (fun l=> ?_)
 refine Ad<|rA rfl fun m=>rz rfl<|Ad<|rm 3 [0] rfl<|kC a fun p a=>rX p rfl<|rn 1 rfl<|kB a fun C q a=>rc _ (cF EV) (AP N x_4 (at'+1) end' _ q)<|kB a fun n s a=>rc _ (cF Bj) (Ay N C 12 _ s)<|rz rfl<|Aa fun F t=>AY [0] rfl<|aE a rfl (fun b a=> ?_) (fun b a=> ?_)
 ·refine Ad<|rm 3 [0] rfl<|kB a fun c d a=>rc _ (cF Bj) (Ay N (x_5==0) 4 _ d)<|rn 1 rfl<|gB (Ls:=[(Nj m x_0 x_1 x_2v x_3v x_4 x_5)]) 42 BI [c,n] (fun u v x=> ?_)
  refine kB a fun D e a=>gV _ (cF ED) (fun o w z_=>BQ N ([c,n]) _ e z_.view u ((Ax x (Ak (Ls:=[(Nj m x_0 x_1 x_2v x_3v x_4 x_5),v]) (k:=1) rfl rfl)) o w z_))<|rz rfl ?_
  cases a
  exact aR eV1
 refine Ab<|t _ _ ?_
 refine Ad<|rm 4 [0] rfl<|kC a fun f a=>rX f rfl<|rn 1 rfl<|kB a fun y g a=>rc _ (cF EV) (AP N x_5 (at'+1) end' _ g)<|kB a fun h i a=>rc _ (cF Bj) (Ay N y 12 _ i)<|gB (Ls:=[(Nj m x_0 x_1 x_2v x_3v x_4 x_5)]) 42 BI [n,h] (fun z A B=> ?_)
 refine kB a fun E j a=>gV _ (cF ED) (fun o w z_=>BQ N ([n,h]) _ j z_.view z ((Ax B (Ak (Ls:=[(Nj m x_0 x_1 x_2v x_3v x_4 x_5),A]) (k:=1) rfl rfl)) o w z_))<|rz rfl ?_
 cases a
 exact aR eV1
def Iw(N:Nat)(i:Int)(e:Int)(f:Int)(b:List (Int×Int×Int×Int×BitVec 128))(c:List (Int×BitVec 128))(a:Int)(d:Int)(g:Ao)(j:List (Int×Int×(List (Int×Int×Int×Int×BitVec 128))×(List (Int×BitVec 128))×Int×Int)):Option Int:=(Gz N g e f b c a d).bind fun n=>(GV N g e f b c a d).bind fun l=>(GW N g e f b c a d).bind fun m=>(Gy N e f b c a d i (j.length:Int)).bind fun h=>(AE N ([n,l,m,h])).bind fun k=>some k
theorem Vg(N i x_0 x_1 x_2 x_3 x_4 x_5 a h r)(g:Iw N i x_0 x_1 x_2 x_3 x_4 x_5 a h=some r)(ro x_2v)(hx_2:Rd Ac7 ro x_2v x_2)(x_3v)(hx_3:Rd Ac8 ro x_3v x_3)(q:Nat)(b:AD)(j:Aa1 ro b a)(d:Blk ro q (GB a b))(s:Nat)(e)(v:RdN Ad1 ro e h)(t:Blk ro s [e]):DoesI prog 180 #[vI i,vA #[vI x_0,vI x_1,x_2v,x_3v,vI x_4,vI x_5],vP q 0,vP s 0] Ie ro [] (pV (vI r)):=by
 unfold Iw at g
 refine AX follows func180 rfl 23 rfl _ fz4 Bg (fun B=> ?_)
 refine Ad<|rA rfl fun J=>rz rfl<|Aa fun L C=> ?_
 refine BE [(some 9,false),(some 12,false),(some 15,false),(some 20,false),(some 21,false),(some 22,false)] (conG prog [(9,cV (Gz N a x_0 x_1 x_2 x_3 x_4 x_5) fun c=>vI c),(12,cV (GV N a x_0 x_1 x_2 x_3 x_4 x_5) fun c=>vI c),(15,cV (GW N a x_0 x_1 x_2 x_3 x_4 x_5) fun c=>vI c),(20,cV (Gy N x_0 x_1 x_2 x_3 x_4 x_5 i (h.length:Int)) fun c=>vI c),(22,fun _ _ v_ L_ U_=> ∀c,Gz N a x_0 x_1 x_2 x_3 x_4 x_5=some c→ ∀x,GV N a x_0 x_1 x_2 x_3 x_4 x_5=some x→ ∀y,GW N a x_0 x_1 x_2 x_3 x_4 x_5=some y→ ∀z,Gy N x_0 x_1 x_2 x_3 x_4 x_5 i (h.length:Int)=some z→ ∀A,AE N ([c,x,y,z])=some A→(pV (vI A)) v_ L_ U_)]) [] (by decide+kernel) (fun M=>AQ) ?_
 refine Hr (vA (Ac a b)) (vs:=(GB a b)) (o:=0) rfl rfl (AS d) rfl<|rm 1 [0] rfl<|kB g fun D m g=>rg _ (cF mE) (fun o w z_=>(Does.inv (SR N a x_0 x_1 x_2 x_3 x_4 x_5 _ m z_.view b (Aa1.mono z_.ro_cell j) x_2v (z_.r hx_2) x_3v (z_.r hx_3)) _)) (Ha m)<|Hr (vA (Ac a b)) (vs:=(GB a b)) (o:=0) rfl rfl (AS d) rfl<|rm 1 [0] rfl<|kB g fun E n g=>rg _ (cF mD) (fun o w z_=>TE N a x_0 x_1 x_2 x_3 x_4 x_5 _ n z_.view b (Aa1.mono z_.ro_cell j) x_2v (z_.r hx_2) x_3v (z_.r hx_3)) (Ha n)<|Hr (vA (Ac a b)) (vs:=(GB a b)) (o:=0) rfl rfl (AS d) rfl<|rm 1 [0] rfl<|kB g fun F p g=>rg _ (cF mC) (fun o w z_=>(Does.inv (TF N a x_0 x_1 x_2 x_3 x_4 x_5 _ p z_.view b (Aa1.mono z_.ro_cell j) x_2v (z_.r hx_2) x_3v (z_.r hx_3)) _)) (Ha p)<|rm 2 [0] rfl<|Hr e (vs:=[e]) (o:=0) rfl rfl (AS t) rfl<|rL (RdN.shp v) rfl<|kB g fun u f g=>rg _ (cF mB) (fun o w z_=>(Does.inv (SO N x_0 x_1 x_2 x_3 x_4 x_5 i (h.length:Int) _ f z_.view x_2v (z_.r hx_2) x_3v (z_.r hx_3)) _)) (Ha f) ?_
 refine Kq (Ls:=[(Nj J x_0 x_1 x_2v x_3v x_4 x_5)]) 42 BI [D,E,F,u] [vI D,vI E,vI F,vI u] [vI 0,vI 0,vI 0,vI 0] rfl rfl rfl rfl rfl rfl rfl (by kernel_rfl) (by kernel_rfl) rfl rfl rfl (fun G H I=> ?_)
 refine kB g fun K l g=>rg _ (cF ED) (fun o w z_=>(Does.inv (BQ N ([D,E,F,u]) _ l z_.view G ((Ax I (Ak (Ls:=[(Nj J x_0 x_1 x_2v x_3v x_4 x_5),H]) (k:=1) rfl rfl)) o w z_)) _)) (fun _ _ v_ L_ U_=>⟨fun h_=>h_ _ m _ n _ p _ f _ l,fun h_=>by intro _ e_;cases q1 (e_.symm.trans m);intro _ e_;cases q1 (e_.symm.trans n);intro _ e_;cases q1 (e_.symm.trans p);intro _ e_;cases q1 (e_.symm.trans f);intro _ e_;cases q1 (e_.symm.trans l);exact h_⟩) ?_
 refine rz rfl<|C _ _ ?_
 cases g
 exact aR eV1
def Jg(N:Nat)(b:List (Int×Int×(List (Int×Int×Int×Int×BitVec 128))×(List (Int×BitVec 128))×Int×Int))(d:Ao)(c:List (Int×Int×(List (Int×Int×Int×Int×BitVec 128))×(List (Int×BitVec 128))×Int×Int)):Nat→Int→Option (Int×Int)
  |0,_=>none
  |f+1,a=>if a<(b.length:Int)then ck (0≤a∧a<(b.length:Int)) ((Iw N a (b[a.toNat]!.1) (b[a.toNat]!.2.1) (b[a.toNat]!.2.2.1) (b[a.toNat]!.2.2.2.1) (b[a.toNat]!.2.2.2.2.1) (b[a.toNat]!.2.2.2.2.2) d c).bind fun e=>if(e:Int)≠0 then some (a,e)else ck (R64 (a+1)) ((Jg N b d c f) (a+1)))else some (0,0)
def ML(N:Nat)(d:List (Int×Int×(List (Int×Int×Int×Int×BitVec 128))×(List (Int×BitVec 128))×Int×Int))(c:Int)(a:Ao)(b:List (Int×Int×(List (Int×Int×Int×Int×BitVec 128))×(List (Int×BitVec 128))×Int×Int)):Option (Int×Int):=if(d.length:Int)>c then some (0,2)else Jg N d a b N 0
theorem Yu(N l' most e f r)(d:ML N l' most e f=some r)(ro l'v)(hl':RdN Ad1 ro l'v l')(b:Nat)(g:AD)(n:Aa1 ro g e)(i:Blk ro b (GB e g))(c:Nat)(h)(p:RdN Ad1 ro h f)(j:Blk ro c [h]):DoesI prog 179 #[l'v,vI most,vF 180 #[] #[vP b 0,vP c 0]] Ie ro [] (pV (vT #[vI r.1,vI r.2])):=by
 unfold ML at d
 refine AX follows func179 rfl 31 rfl _ fz3 Bg (fun D=> ?_)
 refine AZ rfl<|Aa fun M F=>Ad<|rn 1 rfl<|rL (RdN.shp hl') rfl<|rz rfl<|aD d rfl (fun G d=> ?_) (fun G d=> ?_)
 ·refine AZ rfl ?_
  cases d
  exact aR eV2
 refine Ab<|F _ _ ?_
 refine Aa fun O H=>Ad<|rn 1 rfl<|rL (RdN.shp hl') rfl<|rz rfl<|Ai<|AH (fun tt ll nn=> ∃(v:Nat) (a:Int),(Jg N l' e f v a=some r)∧Is [(2,vF 180 #[] #[vP b 0,vP c 0]),(15,l'v),(16,vI (l'.length:Int)),(17,vI a)] [] tt ll∧nn=v+1) (N+1) ?_ ?_
 ·exact⟨N,0,d,Ah rfl rfl,rfl⟩
 clear d;rintro t l _ ⟨v,a,d,⟨⟨T,rfl⟩,rfl⟩,rfl⟩
 rcases v with _|v
 ·exact absurd d (by simp [Jg])
 rw [Jg] at d
 refine AZ rfl<|Aa fun J x=>aD d rfl (fun y d=> ?_) (fun y d=> ?_)
 ·refine Ab<|x _ _ ?_
  refine Aa fun K z=>Ai<|Ad<|rn 1 rfl<|kC d fun q d=> ?_
  obtain⟨_,⟨k,m,s,u,rfl⟩,hat19⟩:=RdN.at (E:=Ad1) hl' (Dc q)
  refine rI (RdN.shp hl') q rfl<|NB (vA #[vI (l'[a.toNat]!.1),vI (l'[a.toNat]!.2.1),k,m,vI (l'[a.toNat]!.2.2.2.2.1),vI (l'[a.toNat]!.2.2.2.2.2)]) (vs:=[vI (l'[a.toNat]!.1),vI (l'[a.toNat]!.2.1),k,m,vI (l'[a.toNat]!.2.2.2.2.1),vI (l'[a.toNat]!.2.2.2.2.2)]) (a.toNat*6) 0 rfl rfl (fun o w z_=>At.mono z_.ro_cell hat19) rfl<|rA rfl fun I=>rn 1 rfl<|r_s (Nj I (l'[a.toNat]!.1) (l'[a.toNat]!.2.1) k m (l'[a.toNat]!.2.2.2.2.1) (l'[a.toNat]!.2.2.2.2.2)) 0 _ _ _ _ _ (#[vI (l'[a.toNat]!.1),vI (l'[a.toNat]!.2.1),k,m,vI (l'[a.toNat]!.2.2.2.2.1),vI (l'[a.toNat]!.2.2.2.2.2)]) rfl rfl rfl rfl (.ofS rfl rfl (Ae rfl (Ae rfl (Ae (Shp.one (Rd.shp s)) (Ae (Shp.one (Rd.shp u)) (Ae rfl (Ae rfl Bv))))))) rfl rfl<|Af<|Ad<|rn 2 rfl ?_
  refine rm 1 [0] rfl<|kB d fun L A d=>gV _ (BF (caps:=[vP b 0,vP c 0]) rfl mF rfl) (fun o w z_=>Vg N a (l'[a.toNat]!.1) (l'[a.toNat]!.2.1) (l'[a.toNat]!.2.2.1) (l'[a.toNat]!.2.2.2.1) (l'[a.toNat]!.2.2.2.2.1) (l'[a.toNat]!.2.2.2.2.2) e f _ A z_.view k (z_.r s) m (z_.r u) b g (Aa1.mono z_.ro_cell n) (AS i o w z_) c h (RdN.mono z_.ro_cell p) (AS j o w z_))<|rz rfl<|AZ rfl ?_
  refine aN d rfl (fun B d=> ?_) (fun B d=> ?_)
  ·refine AZ rfl ?_
   cases d
   exact aR eV2
  refine Ab<|z _ _ ?_
  refine Ag<|kC d fun C d=>rX C rfl<|rz rfl<|fg _ (Sub.of (suC _ suN)) ?_
  exact⟨v+1,by omega,v,(a+1),d,Ah rfl rfl,rfl⟩
 refine AI<|H _ _ ?_
 refine AZ rfl ?_
 cases d
 exact aR eV2
def Ki(N:Nat)(c:Ao)(a:List (Int×Int×(List (Int×Int×Int×Int×BitVec 128))×(List (Int×BitVec 128))×Int×Int)):Option (Int×Int):=(ML N a 32 c a).bind fun b=>some (b.1,b.2)
theorem RR(N c l' r)(a:Ki N c l'=some r)(ro)(cv:AD)(hc:Aa1 ro cv c)(l'v)(hl':RdN Ad1 ro l'v l'):DoesI prog 106 #[vA (Ac c cv),l'v] Ie ro [] (pV (vT #[vI r.1,vI r.2])):=by
 unfold Ki at a
 refine AX follows func106 rfl 11 rfl _ fz2 Bg (fun b=> ?_)
 refine Ad<|rA rfl fun e=>r_a (28, #[l'v]) rfl rfl (NA rfl (RdN.shp hl')) (fun f=> ?_) (.inr rfl)
 refine rz rfl<|Ad<|rm 1 [0] rfl<|r_W (vF 180 #[] #[vP e 0,vP f 0]) rfl (IA rfl)<|kB a fun g d a=>gV _ (cF mG) (fun o w z_=>Yu N l' 32 c l' _ d z_.view l'v (RdN.mono z_.ro_cell hl') e cv (Aa1.mono z_.ro_cell hc) (Cw 1 rfl rfl o w z_) f l'v (RdN.mono z_.ro_cell hl') (Cw 0 rfl rfl o w z_))<|rz rfl ?_
 cases a
 exact aR eV2
def JI(N:Nat)(c:Ao):Option (Int×Int):=(Ki N c c.2.2.2.2.2.2.2.1).bind fun a=>some (a.1,a.2)
theorem Vj(N c r)(a:JI N c=some r)(ro)(cv:AD)(hc:Aa1 ro cv c):DoesI prog 47 #[vA (Ac c cv)] Ie ro [] (pV (vT #[vI r.1,vI r.2])):=by
 unfold JI at a
 refine AX follows func47 rfl 11 rfl _ fz1 Bg (fun b=> ?_)
 refine Ad<|rA rfl fun e=>rz rfl<|Ad<|rm 4 [0,0] rfl<|kB a fun f d a=>gV _ (cF cy) (fun o w z_=>RR N c c.2.2.2.2.2.2.2.1 _ d z_.view cv (Aa1.mono z_.ro_cell hc) cv.2.2.2.2.2.2.1 (RdN.mono z_.ro_cell hc.2.2.2.2.2.2.1))<|rz rfl ?_
 cases a
 exact aR eV2
def Ku(N:Nat)(c:Ao):Option (Int×Int):=(Ki N c c.2.2.2.2.2.2.2.2.1).bind fun a=>some (a.1,a.2)
theorem WF(N c r)(a:Ku N c=some r)(ro)(cv:AD)(hc:Aa1 ro cv c):DoesI prog 48 #[vA (Ac c cv)] Ie ro [] (pV (vT #[vI r.1,vI r.2])):=by
 unfold Ku at a
 refine AX follows func48 rfl 11 rfl _ fz1 Bg (fun b=> ?_)
 refine Ad<|rA rfl fun e=>rz rfl<|Ad<|rm 4 [0,0] rfl<|kB a fun f d a=>gV _ (cF cy) (fun o w z_=>RR N c c.2.2.2.2.2.2.2.2.1 _ d z_.view cv (Aa1.mono z_.ro_cell hc) cv.2.2.2.2.2.2.2.1 (RdN.mono z_.ro_cell hc.2.2.2.2.2.2.2.1))<|rz rfl ?_
 cases a
 exact aR eV2
def Ix(N:Nat)(i:Int)(b:Int)(a:Ao):Option Int:=(GC N a b).bind fun e=>(Aq N e 5).bind fun f=>ck (0≤i∧i≤(a.2.2.2.2.2.2.2.2.2.1.length:Int)) ((Bm N (((a.2.2.2.2.2.2.2.2.2.1).take (i.toNat)).drop 0) b).bind fun g=>(Aq N (!(g)) 6).bind fun c=>(AE N ([f,c])).bind fun d=>some d)
theorem SU(N i slot b r)(c:Ix N i slot b=some r)(ro)(m:Nat)(a:AD)(e:Aa1 ro a b)(f:Blk ro m (GB b a)):Does prog 108 #[vI i,vI slot,vP m 0] ro [] (pV (vI r)):=by
 unfold Ix at c
 refine Al follows func108 rfl 22 rfl _ fz3 (fun x=> ?_)
 refine AZ rfl<|Aa fun G y=> ?_
 refine BE [(some 9,false),(some 17,false),(some 20,false),(some 21,false)] (conG prog [(9,cV (GC N b slot) fun d=>vB d),(17,cV (Bm N (((b.2.2.2.2.2.2.2.2.2.1).take (i.toNat)).drop 0) slot) fun d=>vB d),(21,fun _ _ v_ L_ U_=> ∀d,GC N b slot=some d→ ∀q,Aq N d 5=some q→ ∀s,Bm N (((b.2.2.2.2.2.2.2.2.2.1).take (i.toNat)).drop 0) slot=some s→ ∀t,Aq N (!(s)) 6=some t→ ∀u,AE N ([q,t])=some u→(pV (vI u)) v_ L_ U_)]) [] (by decide+kernel) (fun H=>AQ) ?_
 refine rn 1 rfl<|Hr (vA (Ac b a)) (vs:=(GB b a)) (o:=0) rfl rfl (AS f) rfl<|rn 1 rfl<|kB c fun D j c=>rg _ (cF Zs) (fun o w z_=>Og N b slot _ j z_.view a (Aa1.mono z_.ro_cell e)) (Ha j)<|kB c fun z n c=>rc _ (cF Bj) (Ay N D 5 _ n)<|rn 2 rfl<|Hr a.2.2.2.2.2.2.2.2.1 (vs:=(GB b a)) (o:=9) rfl rfl (AS f) rfl<|rn 1 rfl<|kC c fun v c=>r_W (FG a.2.2.2.2.2.2.2.2.1 0 (i.toNat) 1) rfl (Ef (Iz rfl rfl rfl rfl (Rd.shp e.2.2.2.2.2.2.2.2.1) v))<|rn 1 rfl<|kB c fun E l c=>rg _ (cF VR) (fun o w z_=>Ii N (((b.2.2.2.2.2.2.2.2.2.1).take (i.toNat)).drop 0) slot _ l z_.view (FG a.2.2.2.2.2.2.2.2.1 0 (i.toNat) 1) ((Pc (Aw e.2.2.2.2.2.2.2.2.1) (Nat.zero_le _) (GR v.2)) o w z_)) (Ha l)<|rn 1 rfl<|kB c fun p g c=>rc _ (cF Bj) (Ay N (!(E)) 6 _ g) ?_
 refine Kq (Ls:=[]) 42 BI [z,p] [vI z,vI p] [vI 0,vI 0] rfl rfl rfl rfl rfl rfl rfl (by kernel_rfl) (by kernel_rfl) rfl rfl rfl (fun A B C=> ?_)
 refine kB c fun F h c=>rg _ (cF ED) (fun o w z_=>BQ N ([z,p]) _ h z_.view A ((Ax C (Ak (Ls:=[B]) (k:=0) rfl rfl)) o w z_)) (fun _ _ v_ L_ U_=>⟨fun h_=>h_ _ j _ n _ l _ g _ h,fun h_=>by intro _ e_;cases q1 (e_.symm.trans j);intro _ e_;cases q1 (e_.symm.trans n);intro _ e_;cases q1 (e_.symm.trans l);intro _ e_;cases q1 (e_.symm.trans g);intro _ e_;cases q1 (e_.symm.trans h);exact h_⟩) ?_
 refine rz rfl<|y _ _ ?_
 cases c
 exact aR eV1
def JV(N:Nat)(c:List Int)(b:Ao):Nat→Int→Option (Int×Int)
  |0,_=>none
  |e+1,a=>if a<(c.length:Int)then ck (0≤a∧a<(c.length:Int)) ((Ix N a (c[a.toNat]!) b).bind fun d=>if(d:Int)≠0 then some (a,d)else ck (R64 (a+1)) ((JV N c b e) (a+1)))else some (0,0)
def NL(N:Nat)(c:List Int)(b:Int)(a:Ao):Option (Int×Int):=if(c.length:Int)>b then some (0,2)else JV N c a N 0
theorem aG(N l' most c r)(b:NL N l' most c=some r)(ro l'v)(hl':Rd BI ro l'v l')(a:Nat)(d:AD)(g:Aa1 ro d c)(f:Blk ro a (GB c d)):Does prog 107 #[l'v,vI most,vF 108 #[] #[vP a 0]] ro [] (pV (vT #[vI r.1,vI r.2])):=by
 unfold NL at b
 refine Al follows func107 rfl 31 rfl _ fz3 (fun s=> ?_)
 refine AZ rfl<|Aa fun B u=>Ad<|rn 1 rfl<|rL (Rd.shp hl') rfl<|rz rfl<|aD b rfl (fun v b=> ?_) (fun v b=> ?_)
 ·refine AZ rfl ?_
  cases b
  exact aR eV2
 refine Ab<|u _ _ ?_
 refine Aa fun C x=>Ad<|rn 1 rfl<|rL (Rd.shp hl') rfl<|rz rfl<|Ai<|AH (fun tt ll nn=> ∃(i:Nat) (e:Int),(JV N l' c i e=some r)∧Is [(2,vF 108 #[] #[vP a 0]),(15,l'v),(16,vI (l'.length:Int)),(17,vI e)] [] tt ll∧nn=i+1) (N+1) ?_ ?_
 ·exact⟨N,0,b,Ah rfl rfl,rfl⟩
 clear b;rintro t l _ ⟨i,e,b,⟨⟨T,rfl⟩,rfl⟩,rfl⟩
 rcases i with _|i
 ·exact absurd b (by simp [JV])
 rw [JV] at b
 refine AZ rfl<|Aa fun y j=>aD b rfl (fun k b=> ?_) (fun k b=> ?_)
 ·refine Ab<|j _ _ ?_
  refine Aa fun z m=>Ai<|Ad<|rn 1 rfl<|kC b fun h b=>rI (Rd.shp hl') h rfl<|rE (Aw hl') h 0 rfl<|rz rfl<|Ad<|rn 3 rfl<|kB b fun A n b=>gV _ (BF (caps:=[vP a 0]) rfl nI rfl) (fun o w z_=>SU N e (l'[e.toNat]!) c _ n z_.view a d (Aa1.mono z_.ro_cell g) (AS f o w z_))<|rz rfl<|AZ rfl<|aN b rfl (fun p b=> ?_) (fun p b=> ?_)
  ·refine AZ rfl ?_
   cases b
   exact aR eV2
  refine Ab<|m _ _ ?_
  refine Ag<|kC b fun q b=>rX q rfl<|rz rfl<|fg _ (Sub.of suN) ?_
  exact⟨i+1,by omega,i,(e+1),b,Ah rfl rfl,rfl⟩
 refine AI<|x _ _ ?_
 refine AZ rfl ?_
 cases b
 exact aR eV2
def Hv(N:Nat)(c:Ao):Option (Int×Int):=(NL N c.2.2.2.2.2.2.2.2.2.1 32 c).bind fun a=>some (a.1,a.2)
theorem Vl(N c r)(a:Hv N c=some r)(ro)(cv:AD)(hc:Aa1 ro cv c):Does prog 49 #[vA (Ac c cv)] ro [] (pV (vT #[vI r.1,vI r.2])):=by
 unfold Hv at a
 refine Al follows func49 rfl 11 rfl _ fz1 (fun b=> ?_)
 refine Ad<|rA rfl fun e=>rz rfl<|Ad<|rm 3 [0] rfl<|r_W (vF 108 #[] #[vP e 0]) rfl (IA rfl)<|kB a fun f d a=>gV _ (cF Sj) (fun o w z_=>aG N c.2.2.2.2.2.2.2.2.2.1 32 c _ d z_.view cv.2.2.2.2.2.2.2.2.1 ((Aw hc.2.2.2.2.2.2.2.2.1) o w z_) e cv (Aa1.mono z_.ro_cell hc) (Cw 0 rfl rfl o w z_))<|rz rfl ?_
 cases a
 exact aR eV2
def Jd(N:Nat)(_:List UInt8)(a:List (List UInt8×Int))(_:Int)(_:Int)(_:Int)(_:Int)(f:Int):Option (Int×Bool):=ck ((R64 ((a.length:Int) - 1))) ((FI N f 0 ((a.length:Int) - 1)).bind fun c=>if c=true then ck (0≤f∧f≤(a.length:Int)) ((Ov N (((a).take (f.toNat)).drop 0)).bind fun b=>some (b,true))else some (0,false))
theorem Wf(N h_0 h_1 h_2 h_3 h_4 h_5 f r)(a:Jd N h_0 h_1 h_2 h_3 h_4 h_5 f=some r)(ro h_1v)(hh_1:Rd Ab2 ro h_1v h_1):Does prog 188 #[vA #[vS h_0,h_1v,vI h_2,vI h_3,vI h_4,vI h_5],vI f] ro [] (pV (vT #[vI r.1,vB r.2])):=by
 unfold Jd at a
 refine Al follows func188 rfl 18 rfl _ fz2 (fun e=> ?_)
 refine Ad<|rA rfl fun k=>rz rfl<|Aa fun l g=>Ad<|rm 3 [0] rfl<|rL (Rd.shp hh_1) rfl<|kC a fun h a=>rX h rfl<|kB a fun m i a=>rc _ (cF Kz) (HV N f 0 ((h_1.length:Int) - 1) _ i)<|rz rfl<|Bf _ rfl (fun c=> ?_) (fun c=> ?_)
 ·replace a:=ifn (Bool.eq_false_iff.1 (Da c)) a
  refine AZ rfl ?_
  cases a
  exact aR eV2
 replace a:=ifp (Db c) a
 refine Ab<|g _ _ ?_
 refine Ad<|rm 3 [0] rfl<|kC a fun b a=>r_W (FG h_1v 0 (f.toNat) 2) rfl (Ef (Iz rfl rfl rfl rfl (Rd.shp hh_1) b))<|kB a fun j d a=>gV _ (cF cg) (fun o w z_=>WS N (((h_1).take (f.toNat)).drop 0) _ d z_.view (FG h_1v 0 (f.toNat) 2) ((Pc (Aw hh_1) (Nat.zero_le _) (GR b.2)) o w z_))<|rz rfl ?_
 cases a
 exact aR eV2
def Kt(N:Nat)(_:Int)(f:Int)(g:Int)(e:Ao):Option Int:=(KP N e f).bind fun a=>(Jd N a.1 a.2.1 a.2.2.1 a.2.2.2.1 a.2.2.2.2.1 a.2.2.2.2.2.1 g).bind fun b=>(GD N e f g).bind fun c=>(Aq N c.2 5).bind fun d=>if c.1=16 then ck (0≤b.1∧b.1≤9223372036854775807) ((Aq N ((b.1%16:Int)==0) 9).bind fun j=>(AE N ([d,j])).bind fun k=>some k)else(Aq N false 9).bind fun h=>(AE N ([d,h])).bind fun i=>some i
theorem WC(N x x_0 x_1 d r)(c:Kt N x x_0 x_1 d=some r)(ro)(h:Nat)(b:AD)(i:Aa1 ro b d)(e:Blk ro h (GB d b)):Does prog 187 #[vI x,vA #[vI x_0,vI x_1],vP h 0] ro [] (pV (vI r)):=by
 unfold Kt at c
 refine Al follows func187 rfl 49 rfl _ fz3 (fun F=> ?_)
 refine Ad<|rA rfl fun n=>rz rfl<|Ad<|rn 1 rfl<|Hr (vA (Ac d b)) (vs:=(GB d b)) (o:=0) rfl rfl (AS e) rfl<|rm 2 [0] rfl<|kB c fun a G c=>gS (Ls:=[(Ni n x_0 x_1)]) (cF cu) (fun o w z_=>Tm N d x_0 _ G z_.view b (Aa1.mono z_.ro_cell i)) (fun j q O=> ?_)
 refine rn 3 rfl<|rA rfl fun s=>r_s (List.flatten [(Qv s a.1 j a.2.2.1 a.2.2.2.1 a.2.2.2.2.1 a.2.2.2.2.2.1),(Ni n x_0 x_1),q]) 0 _ _ _ _ _ (#[vS a.1,j,vI a.2.2.1,vI a.2.2.2.1,vI a.2.2.2.2.1,vI a.2.2.2.2.2.1]) rfl rfl rfl rfl (.ofS rfl rfl (Ae rfl (Ae (Shp.one (Sl.shp O)) (Ae rfl (Ae rfl (Ae rfl (Ae rfl Bv))))))) rfl rfl<|rz rfl<|Ad<|rm 3 [0,1] rfl<|kB c fun p t c=>gV _ (cF mx) (fun o w z_=>Wf N a.1 a.2.1 a.2.2.1 a.2.2.2.1 a.2.2.2.2.1 a.2.2.2.2.2.1 x_1 _ t z_.view j ((Ax O (Ak (Ls:=[(Qv s a.1 j a.2.2.1 a.2.2.2.1 a.2.2.2.2.1 a.2.2.2.2.2.1),(Ni n x_0 x_1),q]) (k:=2) rfl rfl)) o w z_))<|rz rfl<|Ad<|rn 1 rfl<|Hr (vA (Ac d b)) (vs:=(GB d b)) (o:=0) rfl rfl (AS e) rfl<|rn 1 rfl ?_
 refine rm 3 [1,1] rfl<|kB c fun f u c=>gV _ (cF Zu) (fun o w z_=>Pk N d x_0 x_1 _ u z_.view b (Aa1.mono z_.ro_cell i))<|rz rfl<|GQ [(8,vI p.1),(10,vI f.1),(11,vB f.2)] rfl (fun T=> ?_)
 refine Aa fun P l=>Ag<|rn 1 rfl<|kB c fun g v c=>rc _ (cF Bj) (Ay N f.2 5 _ v)<|rn 3 rfl ?_
 rcases m:(f.1==16)with _|_
 ·replace c:=iG m c
  refine rn 4 rfl<|kB c fun y z c=>rc _ (cF Bj) (Ay N false 9 _ z)<|gB (Ls:=[(Qv s a.1 j a.2.2.1 a.2.2.2.1 a.2.2.2.2.1 a.2.2.2.2.2.1),(Ni n x_0 x_1),q]) 42 BI [g,y] (fun H I J=> ?_)
  refine kB c fun Q A c=>gV _ (cF ED) (fun o w z_=>BQ N ([g,y]) _ A z_.view H ((Ax J (Ak (Ls:=[(Qv s a.1 j a.2.2.1 a.2.2.2.1 a.2.2.2.2.1 a.2.2.2.2.2.1),(Ni n x_0 x_1),q,I]) (k:=3) rfl rfl)) o w z_))<|rz rfl<|l _ _ ?_
  cases c
  exact aR eV1
 replace c:=iE m c
 refine rn 1 rfl<|r_y rfl<|kC c fun B c=>r_X (vI (p.1%16)) rfl (RA B.1) rfl<|rn 2 rfl<|kB c fun C D c=>rc _ (cF Bj) (Ay N ((p.1%16:Int)==0) 9 _ D)<|gB (Ls:=[(Qv s a.1 j a.2.2.1 a.2.2.2.1 a.2.2.2.2.1 a.2.2.2.2.2.1),(Ni n x_0 x_1),q]) 42 BI [g,C] (fun K L M=> ?_)
 refine kB c fun R E c=>gV _ (cF ED) (fun o w z_=>BQ N ([g,C]) _ E z_.view K ((Ax M (Ak (Ls:=[(Qv s a.1 j a.2.2.1 a.2.2.2.1 a.2.2.2.2.1 a.2.2.2.2.2.1),(Ni n x_0 x_1),q,L]) (k:=3) rfl rfl)) o w z_))<|rz rfl<|l _ _ ?_
 cases c
 exact aR eV1
def Ke(N:Nat)(c:List (Int×Int))(b:Ao):Nat→Int→Option (Int×Int)
  |0,_=>none
  |e+1,a=>if a<(c.length:Int)then ck (0≤a∧a<(c.length:Int)) ((Kt N a ((c[a.toNat]!).1) ((c[a.toNat]!).2) b).bind fun d=>if(d:Int)≠0 then some (a,d)else ck (R64 (a+1)) ((Ke N c b e) (a+1)))else some (0,0)
def NU(N:Nat)(c:List (Int×Int))(b:Int)(a:Ao):Option (Int×Int):=if(c.length:Int)>b then some (0,2)else Ke N c a N 0
theorem aO(N l' most c r)(b:NU N l' most c=some r)(ro l'v)(hl':Rd Ae3 ro l'v l')(a:Nat)(d:AD)(g:Aa1 ro d c)(f:Blk ro a (GB c d)):Does prog 186 #[l'v,vI most,vF 187 #[] #[vP a 0]] ro [] (pV (vT #[vI r.1,vI r.2])):=by
 unfold NU at b
 refine Al follows func186 rfl 31 rfl _ fz3 (fun s=> ?_)
 refine AZ rfl<|Aa fun C u=>Ad<|rn 1 rfl<|rL (Rd.shp hl') rfl<|rz rfl<|aD b rfl (fun v b=> ?_) (fun v b=> ?_)
 ·refine AZ rfl ?_
  cases b
  exact aR eV2
 refine Ab<|u _ _ ?_
 refine Aa fun D x=>Ad<|rn 1 rfl<|rL (Rd.shp hl') rfl<|rz rfl<|Ai<|AH (fun tt ll nn=> ∃(i:Nat) (e:Int),(Ke N l' c i e=some r)∧Is [(2,vF 187 #[] #[vP a 0]),(15,l'v),(16,vI (l'.length:Int)),(17,vI e)] [] tt ll∧nn=i+1) (N+1) ?_ ?_
 ·exact⟨N,0,b,Ah rfl rfl,rfl⟩
 clear b;rintro t l _ ⟨i,e,b,⟨⟨T,rfl⟩,rfl⟩,rfl⟩
 rcases i with _|i
 ·exact absurd b (by simp [Ke])
 rw [Ke] at b
 refine AZ rfl<|Aa fun y j=>aD b rfl (fun k b=> ?_) (fun k b=> ?_)
 ·refine Ab<|j _ _ ?_
  refine Aa fun z m=>Ai<|Ad<|rn 1 rfl<|kC b fun h b=>rI (Rd.shp hl') h rfl<|rE (Aw hl') h 0 rfl<|rA rfl fun A=>ry [0] rfl<|Ad<|rm 3 [0] rfl<|kB b fun B n b=>gV _ (BF (caps:=[vP a 0]) rfl my rfl) (fun o w z_=>WC N e ((l'[e.toNat]!).1) ((l'[e.toNat]!).2) c _ n z_.view a d (Aa1.mono z_.ro_cell g) (AS f o w z_))<|rz rfl<|AZ rfl<|aN b rfl (fun p b=> ?_) (fun p b=> ?_)
  ·refine AZ rfl ?_
   cases b
   exact aR eV2
  refine Ab<|m _ _ ?_
  refine Ag<|kC b fun q b=>rX q rfl<|rz rfl<|fg _ (Sub.of (suC _ suN)) ?_
  exact⟨i+1,by omega,i,(e+1),b,Ah rfl rfl,rfl⟩
 refine AI<|x _ _ ?_
 refine AZ rfl ?_
 cases b
 exact aR eV2
end Go.Proofs.YtoolcgbcfgnipaaGreatDoor
