import Derived.Test.YthmpbldidnmenaaGreatDoorBf
namespace Go.Proofs.YthmpbldidnmenaaGreatDoor
open Go Go.RowKit Go.Eng _root_.Go.Proofs.Tryz
set_option linter.unusedSimpArgs false
set_option linter.unusedVariables false
set_option maxRecDepth 100000
set_option maxHeartbeats 80000000
abbrev iI(b:Nat)(x0:Value)(x1:Value)(x2:Int)(x3:Int)(x4:Int)(x5:Int):List Bl:=[(b,106, #[x0,x1,vI x2,vI x3,vI x4,vI x5])]
abbrev Md(b:Nat)(x0:List UInt8)(x1:Value)(x2:Int)(x3:Int)(x4:Int)(x5:Int):List Bl:=[(b,106, #[vS x0,x1,vI x2,vI x3,vI x4,vI x5])]
abbrev NR(b:Nat)(x0:Value):List Bl:=[(b,108, #[x0])]
abbrev SA(b:Nat)(x0:Int):List Bl:=[(b,3, #[vI x0])]
abbrev RB(b:Nat)(x0:BitVec 64)(x1:BitVec 64):List Bl:=[(b,272, #[U x0,U x1])]
abbrev RC(b:Nat)(x0:Int)(x1:BitVec 64)(x2:BitVec 64)(x3:Int)(x4:BitVec 64)(x5:BitVec 64)(x6:Int):List Bl:=[(b,227, #[vI x0,U x1,U x2,vI x3,U x4,U x5,vI x6])]
abbrev aj(b:Nat)(x0:Int)(x1:Int)(x2:Int):List Bl:=[(b,278, #[vI x0,vI x1,vI x2])]
abbrev ak(b:Nat)(x0:Int):List Bl:=[(b,276, #[vI x0])]
abbrev HS(b:Nat)(x0:List UInt8)(x1:Value)(x2:Value)(x3:Value)(x4:Int):List Bl:=[(b,111, #[vS x0,x1,x2,x3,vI x4])]
abbrev UE(b:Nat)(x0:Value):List Bl:=[(b,242, #[x0])]
abbrev Xy(b:Nat)(x0:Value):List Bl:=[(b,136, #[x0])]
abbrev SB(b:Nat)(x0:List UInt8)(x1:Value)(x2:Value):List Bl:=[(b,188, #[vS x0,x1,x2])]
abbrev Xx(b:Nat)(x0:Int)(x1:Int):List Bl:=[(b,161, #[vI x0,vI x1])]
abbrev iH(b:Nat)(x0:Int)(x1:Int)(x2:Int)(x3:Int)(x4:BitVec 64)(x5:BitVec 64):List Bl:=[(b,41, #[vI x0,vI x1,vI x2,vI x3,U x4,U x5])]
def MM(N:Nat)(m:An)(b:Int):Option ((List UInt8)×(List (List UInt8×Int))×Int×Int×Int×Int×Bool):=(QO N m.2.1 m.2.2.1 b).bind fun a=>some (a.1,a.2.1,a.2.2.1,a.2.2.2.1,a.2.2.2.2.1,a.2.2.2.2.2.1,a.2.2.2.2.2.2)
theorem Ta(N m slot r)(b:MM N m slot=some r)(ro)(mv:Ay)(hm:Aa2 ro mv m):Does prog 152 #[vA (Ac m mv),vI slot] ro [] (p1 (fun s_=>vT #[vA #[vS r.1,s_,vI r.2.2.1,vI r.2.2.2.1,vI r.2.2.2.2.1,vI r.2.2.2.2.2.1],vB r.2.2.2.2.2.2]) 104 Ab4 r.2.1):=by
 unfold MM at b
 refine Aj follows func152 rfl 14 rfl _ fz2 (fun c=> ?_)
 refine Ad<|rA rfl fun e=>rA rfl fun f=>rz rfl<|Ad<|rm 5 [1,1] rfl<|kB b fun a g b=>gS (Ls:=[(iI f (Value.string (⟨#[]⟩)) nS 0 0 0 0),[(e,35,(Ac m mv))]]) (cF kt) (fun o w z_=>cm N m.2.1 m.2.2.1 slot _ g z_.view mv.1 (RdN.mono z_.ro_cell hm.1) mv.2.1 ((Au hm.2.1) o w z_)) (fun d h i=> ?_)
 refine rn 2 rfl<|r_s (List.flatten [(Md f a.1 d a.2.2.1 a.2.2.2.1 a.2.2.2.2.1 a.2.2.2.2.2.1),[(e,35,(Ac m mv))],h]) 0 _ _ _ _ _ (#[vS a.1,d,vI a.2.2.1,vI a.2.2.2.1,vI a.2.2.2.2.1,vI a.2.2.2.2.2.1]) rfl rfl rfl rfl (.ofS rfl rfl (Ae rfl (Ae (Shp.one (Sl.shp i)) (Ae rfl (Ae rfl (Ae rfl (Ae rfl Bt))))))) rfl rfl<|rz rfl ?_
 cases b
 refine Bi (fun j=>Ha (v0:=vT #[vA #[vS a.1,d,vI a.2.2.1,vI a.2.2.2.1,vI a.2.2.2.2.1,vI a.2.2.2.2.2.1],vB a.2.2.2.2.2.2]) i (EK (Sub.pick [(Md f a.1 d a.2.2.1 a.2.2.2.1 a.2.2.2.2.1 a.2.2.2.2.2.1),[(e,35,(Ac m mv))],h] [2] rfl)) rfl (Jz (AT j 0 rfl rfl rfl) rfl))
def Mi(N:Nat)(a:List (List UInt8×Int))(i:Int):Option Bool:=ck ((R64 ((a.length:Int) - 1))) ((AE N i 0 ((a.length:Int) - 1)).bind fun b=>some b)
theorem UP(N l' i r)(a:Mi N l' i=some r)(ro l'v)(hl':Rd Ab4 ro l'v l'):Does prog 153 #[l'v,vI i] ro [] (pV (vB r)):=by
 unfold Mi at a
 refine Aj follows func153 rfl 10 rfl _ fz2 (fun b=> ?_)
 refine AZ rfl<|Ad<|rn 2 rfl<|rL (Rd.shp hl') rfl<|kC a fun c a=>rX c rfl<|kB a fun e d a=>rc _ (cF Dg) (AO N i 0 ((l'.length:Int) - 1) _ d)<|rz rfl ?_
 cases a
 exact aR eV1
def Nb(f:Int)(a:(List UInt8)×(List (List UInt8×Int))×Int×Int×Int×Int×Bool):Option (Int×Bool):=ck (0≤f∧f<(a.2.1.length:Int)) (some (((a.2.1)[f.toNat]!).2,true))
def JI(N:Nat)(m:An)(a:Int)(f:Int):Option (Int×Bool):=(MM N m a).bind fun b=>if b.2.2.2.2.2.2=true then(Mi N b.2.1 f).bind fun c=>if c=true then Nb f b  else some (0,false)else some (0,false)
theorem Oy(N m slot f r)(b:JI N m slot f=some r)(ro)(mv:Ay)(hm:Aa2 ro mv m):Does prog 94 #[vA (Ac m mv),vI slot,vI f] ro [] (pV (vT #[vI r.1,vB r.2])):=by
 unfold JI at b
 refine Aj follows func94 rfl 31 rfl _ fz3 (fun q=> ?_)
 refine Ad<|rA rfl fun s=>rz rfl<|Ad<|rm 2 [0] rfl<|kB b fun a u b=>gS (Ls:=[[(s,35,(Ac m mv))]]) (cF bG) (fun o w z_=>Ta N m slot _ u z_.view mv (Aa2.mono z_.ro_cell hm)) (fun h j n=> ?_)
 refine rn 3 rfl<|rA rfl fun i=>r_s (List.flatten [(Md i a.1 h a.2.2.1 a.2.2.2.1 a.2.2.2.2.1 a.2.2.2.2.2.1),[(s,35,(Ac m mv))],j]) 0 _ _ _ _ _ (#[vS a.1,h,vI a.2.2.1,vI a.2.2.2.1,vI a.2.2.2.2.1,vI a.2.2.2.2.2.1]) rfl rfl rfl rfl (.ofS rfl rfl (Ae rfl (Ae (Shp.one (Sl.shp n)) (Ae rfl (Ae rfl (Ae rfl (Ae rfl Bt))))))) rfl rfl<|rz rfl<|BR (fun tt ll=>(Nb f a  =some r)∧Is [(2,vI f),(8,vP i 0)] (List.flatten [(Md i a.1 h a.2.2.1 a.2.2.2.1 a.2.2.2.2.1 a.2.2.2.2.2.1),j]) tt ll) ?_ ?_
 ·refine Aa fun v e=>Ag<|rn 3 rfl ?_
  rcases g:(!(a.2.2.2.2.2.2))with _|_
  ·replace b:=ifp (CN g) b
   refine rn 1 rfl<|r_y rfl<|rm 2 [0] rfl<|r_y rfl<|kB b fun x p b=>gV _ (cF lC) (fun o w z_=>UP N a.2.1 f _ p z_.view h ((Av n (Ai (Ls:=[(Md i a.1 h a.2.2.1 a.2.2.2.1 a.2.2.2.2.1 a.2.2.2.2.2.1),[(s,35,(Ac m mv))],j]) (k:=2) rfl rfl)) o w z_))<|rz rfl<|e _ _ ?_
   refine Bv _ rfl (fun c=> ?_) (fun c=> ?_)
   ·replace b:=ifn (Bool.eq_false_iff.1 (CM c)) b
    refine AZ rfl ?_
    cases b
    exact aR eV2
   replace b:=ifp (CN c) b
   refine Ab<|fg _ (Sub.pick [(Md i a.1 h a.2.2.1 a.2.2.2.1 a.2.2.2.2.1 a.2.2.2.2.2.1),[(s,35,(Ac m mv))],j] [0,2] rfl) ?_
   exact⟨b,Af rfl rfl⟩
  replace b:=ifn (Bool.eq_false_iff.1 (CM g)) b
  refine rz rfl<|e _ _ ?_
  refine Lq rfl ?_
  refine AZ rfl ?_
  cases b
  exact aR eV2
 clear b;rintro t l ⟨b,⟨T,rfl⟩,rfl⟩
 unfold Nb at b
 refine Ad<|rm 3 [0] rfl<|kC b fun d b=>rI (Sl.shp n) d rfl<|rF (Sl.shp n) (Bb d) rfl<|rE (Av n (Ai (Ls:=[(Md i a.1 h a.2.2.1 a.2.2.2.1 a.2.2.2.2.1 a.2.2.2.2.2.1),j]) (k:=1) rfl rfl)) d 1 rfl<|rz rfl ?_
 cases b
 exact aR eV2
def MN(N:Nat)(m:An)(i:Int):Option (Int×Bool):=(AE N i 0 7).bind fun b=>if b=true then ck (0≤i∧i<8) (some ((Gg[i.toNat]!),true))else ck ((R64 (8+(m.2.2.2.1.length:Int)))) (ck ((R64 ((8+(m.2.2.2.1.length:Int)) - 1))) ((AE N i 8 ((8+(m.2.2.2.1.length:Int)) - 1)).bind fun a=>if a=true then ck (R64 (i - 8)) (ck (0≤(i - 8)∧(i - 8)<(m.2.2.2.1.length:Int)) (some (((m.2.2.2.1)[((i - 8)).toNat]!).2,true)))else some (0,false)))
theorem Tb(N m i r)(a:MN N m i=some r)(ro)(mv:Ay)(hm:Aa2 ro mv m):DoesI prog 95 #[vA (Ac m mv),vI i] GC ro [] (pV (vT #[vI r.1,vB r.2])):=by
 unfold MN at a
 refine AW follows func95 rfl 27 rfl _ fz2 Be (fun o=> ?_)
 refine Ad<|rA rfl fun w=>rz rfl<|Aa fun x p=>Ah<|Ad<|rn 1 rfl<|kB a fun y q a=>rc _ (cF Dg) (AO N i 0 7 _ q)<|rz rfl<|aB a rfl (fun s a=> ?_) (fun s a=> ?_)
 ·refine Ad<|rn 1 rfl<|kC a fun u a=> ?_
  have e:=fun c=>ET (IS (P:=prog) (c:=c) (t:=263) (b:=0) (off:=0) (k:= .i64) rfl rfl rfl u)
  simp only [q6] at e
  have f:i.toNat<8:=by omega
  refine r_W (Value.pointer (some ⟨0,i.toNat,none⟩)) rfl (e _)<|cB 11<|rW (vI (Gg[i.toNat]!)) rfl rfl rfl rfl rfl (fun _ h_=>Qz h_ _ f) (fun _ _ _ _ _=>Iff.rfl)<|rz rfl ?_
  cases a
  exact aR eV2
 refine Ad<|rm 3 [0] rfl<|rL (Rd.shp hm.2.2.1) rfl<|kC a fun g a=>rX g rfl<|kC a fun h a=>rX h rfl<|kB a fun v j a=>rc _ (cF Dg) (AO N i 8 ((8+(m.2.2.2.1.length:Int)) - 1) _ j)<|rz rfl<|aB a rfl (fun l a=> ?_) (fun l a=> ?_)
 ·refine Ad<|rm 3 [0] rfl<|kC a fun n a=>rX n rfl<|kC a fun d a=>rI (Rd.shp hm.2.2.1) d rfl<|rF (Rd.shp hm.2.2.1) (Bb d) rfl<|rE (Au hm.2.2.1) d 1 rfl<|rz rfl ?_
  cases a
  exact aR eV2
 refine Ab<|p _ _ ?_
 refine AZ rfl ?_
 cases a
 exact aR eV2
def IP(N:Nat)(m:An)(a:Int)(d:Int)(c:Int):Option (Int×Bool):=if a=0 then(JI N m d c).bind fun e=>some (e.1,e.2)else if a=1 then(MN N m d).bind fun b=>some (b.1,b.2)else if a=2 then some (c,true)else some (0,false)
theorem NV(N m k_0 k_1 k_2 r)(a:IP N m k_0 k_1 k_2=some r)(ro)(mv:Ay)(hm:Aa2 ro mv m):DoesI prog 253 #[vA (Ac m mv),vA #[vI k_0,vI k_1,vI k_2]] GC ro [] (pV (vT #[vI r.1,vB r.2])):=by
 unfold IP at a
 refine AW follows func253 rfl 30 rfl _ fz2 Be (fun f=> ?_)
 refine Ad<|rA rfl fun j=>rA rfl fun k=>rz rfl<|Aa fun l g=>AY [0] rfl<|Ah<|AZ rfl<|aE a rfl (fun h a=> ?_) (fun h a=> ?_)
 ·refine Ad<|rm 5 [1,0,0] rfl<|kB a fun n b a=>gV _ (cF Zf) (fun o w z_=>(Does.inv (Oy N m k_1 k_2 _ b z_.view mv (Aa2.mono z_.ro_cell hm)) _))<|rz rfl ?_
  cases a
  exact aR eV2
 refine AZ rfl<|aE a rfl (fun c a=> ?_) (fun c a=> ?_)
 ·refine Ad<|rm 3 [1,0] rfl<|kB a fun i d a=>gV _ (cF ez) (fun o w z_=>Tb N m k_1 _ d z_.view mv (Aa2.mono z_.ro_cell hm))<|rz rfl ?_
  cases a
  exact aR eV2
 refine AZ rfl<|aE a rfl (fun e a=> ?_) (fun e a=> ?_)
 ·refine AY [0] rfl ?_
  cases a
  exact aR eV2
 refine Ab<|g _ _ ?_
 refine AZ rfl ?_
 cases a
 exact aR eV2
def KO(N:Nat)(m:An)(d:List (Int×Int×Int)):Nat→Int→Int→Option (Int×Bool)
  |0,_,_=>none
  |f+1,a,b=>if b<(d.length:Int)then ck (0≤b∧b<(d.length:Int)) ((IP N m ((d[b.toNat]!).1) ((d[b.toNat]!).2.1) ((d[b.toNat]!).2.2)).bind fun c=>if c.2=true then ck (R64 (128 - a)) ((AE N c.1 1 (128 - a)).bind fun e=>if e=true then ck (R64 (a+c.1)) (ck (R64 (b+1)) ((KO N m d f) (a+c.1) (b+1)))else some (0,false))else some (0,false))else some (a,true)
def Ox(N:Nat)(m:An)(a:List (Int×Int×Int)):Option (Int×Bool):=KO N m a N 0 0
theorem UJ(N m l' r)(b:Ox N m l'=some r)(ro)(mv:Ay)(hm:Aa2 ro mv m)(l'v)(hl':Rd Ad0 ro l'v l'):DoesI prog 229 #[vA (Ac m mv),l'v] GC ro [] (pV (vT #[vI r.1,vB r.2])):=by
 unfold Ox at b
 refine AW follows func229 rfl 37 rfl _ fz2 Be (fun v=> ?_)
 refine Ad<|rA rfl fun A=>rz rfl<|AZ rfl<|Aa fun G x=>Ad<|rn 1 rfl<|rL (Rd.shp hl') rfl<|rz rfl<|Ah<|AC (fun tt ll nn=> ∃(h:Nat) (a:Int) (c:Int),(KO N m l' h a c=some r)∧Is [(2,vP A 0),(6,vI a),(11,l'v),(12,vI (l'.length:Int)),(13,vI c)] [(A,35,(Ac m mv))] tt ll∧nn=h+1) (N+1) ?_ ?_
 ·exact⟨N,0,0,b,Af rfl rfl,rfl⟩
 clear b;rintro t l _ ⟨h,a,c,b,⟨⟨T,rfl⟩,rfl⟩,rfl⟩
 rcases h with _|h
 ·exact absurd b (by simp [KO])
 rw [KO] at b
 refine AZ rfl<|Aa fun H y=>aD b rfl (fun z b=> ?_) (fun z b=> ?_)
 ·refine Ab<|y _ _ ?_
  refine Aa fun B j=>Ah<|Ad<|kC b fun f b=>rI (Rd.shp hl') f rfl<|rE (Au hl') f 0 rfl<|rA rfl fun C=>ry [0] rfl<|Ad<|rm 2 [1,0] rfl<|kB b fun i k b=>gV _ (cF bn) (fun o w z_=>NV N m ((l'[c.toNat]!).1) ((l'[c.toNat]!).2.1) ((l'[c.toNat]!).2.2) _ k z_.view mv (Aa2.mono z_.ro_cell hm))<|rz rfl<|Aa fun D n=>Aa fun E g=>Ag<|rn 3 rfl ?_
  rcases d:(!(i.2))with _|_
  ·replace b:=ifp (CN d) b
   refine rn 2 rfl<|r_y rfl<|kC b fun p b=>rX p rfl<|r_y rfl<|kB b fun F q b=>rc _ (cF Dg) (AO N i.1 1 (128 - a) _ q)<|rz rfl<|g _ _ ?_
   refine Bv _ rfl (fun e=> ?_) (fun e=> ?_)
   ·replace b:=ifn (Bool.eq_false_iff.1 (CM e)) b
    refine AZ rfl<|Gm [(4,vI 0),(5,vB false)] rfl (fun T=> ?_)
    cases b
    exact aR eV2
   replace b:=ifp (CN e) b
   refine Ab<|n _ _ ?_
   refine Ag<|rn 2 rfl<|kC b fun s b=>rX s rfl<|rz rfl<|j _ _ ?_
   refine Ag<|kC b fun u b=>rX u rfl<|rz rfl<|fg _ (Sub.of (suC _ (suK _ suN))) ?_
   exact⟨h+1,by omega,h,(a+i.1),(c+1),b,Af (by first|rfl|(simp only [d];done)|(simp only [d];rfl)|(simp only [Bn];rfl)) rfl,rfl⟩
  replace b:=ifn (Bool.eq_false_iff.1 (CM d)) b
  refine rz rfl<|g _ _ ?_
  refine Lq rfl ?_
  refine AZ rfl<|Gm [(4,vI 0),(5,vB false)] rfl (fun T=> ?_)
  cases b
  exact aR eV2
 refine AD<|x _ _ ?_
 refine AZ rfl ?_
 cases b
 exact aR eV2
def Ic(N:Nat)(c:An)(a:List (Int×Int×Int)):Option Int:=(Ox N c a).bind fun b=>some b.1
theorem WC(N c key r)(e:Ic N c key=some r)(ro)(cv:Ay)(hc:Aa2 ro cv c)(keyv)(hkey:Rd Ad0 ro keyv key):DoesI prog 185 #[vA (Ac c cv),keyv] GC ro [] (pO [] (oB 108 #[keyv] fun b_0=>(oB 3 #[vI r] fun b_1=>(oB 143 (Ac c cv) fun b_2=>(oE (vF 230 #[] #[vP b_0 0,vP b_1 0,vP b_2 0]) []))))):=by
 unfold Ic at e
 refine Ek follows func185 rfl 15 rfl _ fz2 Be (fun f=> ?_)
 refine Ad<|rA rfl fun a=>r_a (108, #[keyv]) rfl rfl (MF rfl (Rd.shp hkey)) (fun b=> ?_) (.inr rfl)
 refine rz rfl<|Ad<|rm 3 [1,0] rfl<|kB e fun h g e=>gV _ (cF bo) (fun o w z_=>UJ N c key _ g z_.view cv (Aa2.mono z_.ro_cell hc) keyv (z_.r hkey))<|rn 3 rfl<|rA rfl fun d=>ry [0] rfl<|Ad<|r_W (vF 230 #[] #[vP b 0,vP d 0,vP a 0]) rfl (HD rfl)<|rz rfl ?_
 cases e
 refine Bi (fun i=>Je (v0:=vF 230 #[] #[vP b 0,vP d 0,vP a 0]) (O:=[(NR b keyv),(SA d h.1),[(a,143,(Ac c cv))]]) (Gj rfl) (Sub.pick [(SA d h.1),(NR b keyv),[(a,143,(Ac c cv))]] [1,0,2] rfl) ⟨b,_,⟨d,_,⟨a,_,⟨rfl,rfl⟩,rfl⟩,rfl⟩,rfl⟩)
def Kl(_:Nat)(_:Int)(a:BitVec 128):Option (BitVec 128):=some a
theorem QJ(N v_0 v_1 r)(b:Kl N v_0 v_1=some r):Gives prog 160 #[vA #[vI v_0,U (hi v_1),U (lo v_1)]] (vA #[U (hi r),U (lo r)]):=by
 unfold Kl at b
 refine As follows func160 rfl 8 rfl _ fz1 (fun a=> ?_)
 refine Ad<|rA rfl fun c=>rA rfl fun e=>Ak<|Ad<|r_V (vP c 1) rfl<|rl (U (hi v_1)) 1<|r_V (vP c 2) rfl<|rl (U (lo v_1)) 1<|r_W (vA #[U (hi v_1),U (lo v_1)]) rfl (Ap rfl rfl rfl rfl)<|ry [0] rfl ?_
 cases b
 refine Bi (fun d=>Ec (v0:=vA #[U (hi v_1),U (lo v_1)]) rfl (Gj (AT d 0 rfl rfl rfl)))
def QH(_:Nat)(a:BitVec 128):Option (BitVec 128):=some ((~~~(hi a))++(~~~(lo a)))
theorem bZ(N a r)(c:QH N a=some r):Gives prog 232 #[vA #[U (hi a),U (lo a)]] (vA #[U (hi r),U (lo r)]):=by
 unfold QH at c
 refine As follows func232 rfl 10 rfl _ fz1 (fun b=> ?_)
 refine Ad<|rA rfl fun e=>rA rfl fun f=>Ak<|Ad<|rm 2 [1] rfl<|r_X (U (~~~(hi a))) rfl (qm (hi a)) rfl<|rm 2 [1] rfl<|r_X (U (~~~(lo a))) rfl (qm (lo a)) rfl<|r_W (vA #[U (~~~(hi a)),U (~~~(lo a))]) rfl (Ap rfl rfl rfl rfl)<|ry [0] rfl ?_
 cases c
 refine Bi (fun d=>Ec (v0:=vA #[U (~~~(hi a)),U (~~~(lo a))]) (by first|rfl|(simp only [Bn];done)|simp only [Bn]) (Gj (AT d 0 rfl rfl rfl)))
def QI(_:Nat)(a:BitVec 128)(b:BitVec 128):Option (BitVec 128):=some ((hi a&&&hi b)++(lo a&&&lo b))
theorem ca(N a b r)(d:QI N a b=some r):Gives prog 231 #[vA #[U (hi a),U (lo a)],vA #[U (hi b),U (lo b)]] (vA #[U (hi r),U (lo r)]):=by
 unfold QI at d
 refine As follows func231 rfl 16 rfl _ fz2 (fun c=> ?_)
 refine Ad<|rA rfl fun f=>rA rfl fun g=>rA rfl fun h=>Ak<|Ad<|rm 4 [2,1] rfl<|r_X (U (hi a&&&hi b)) rfl (VP (hi a) (hi b)) rfl<|rm 4 [2,1] rfl<|r_X (U (lo a&&&lo b)) rfl (VP (lo a) (lo b)) rfl<|r_W (vA #[U (hi a&&&hi b),U (lo a&&&lo b)]) rfl (Ap rfl rfl rfl rfl) ?_
 refine ry [0] rfl ?_
 cases d
 refine Bi (fun e=>Ec (v0:=vA #[U (hi a&&&hi b),U (lo a&&&lo b)]) (by first|rfl|(simp only [Bn];done)|simp only [Bn]) (Gj (AT e 0 rfl rfl rfl)))
def Ii(_:Nat)(w:Int):Option Bool:=if w≥1 then some (decide (w≤128))else some false
theorem TV(N w r)(a:Ii N w=some r):Gives prog 158 #[vI w] (vB r):=by
 unfold Ii at a
 refine As follows func158 rfl 9 rfl _ fz1 (fun d=> ?_)
 refine AZ rfl<|Aa fun e b=>Ag<|rn 3 rfl ?_
 rcases c:(decide (w≥1))with _|_
 ·replace a:=iF c a
  refine rz rfl<|b _ _ ?_
  cases a
  exact aR eE1
 replace a:=iD c a
 refine rz rfl<|b _ _ ?_
 cases a
 exact aR eE1
def LJ(N:Nat)(a:Int)(b:BitVec 128):Option Bool:=(Ii N a).bind fun d=>if d=true then(Kl N a b).bind fun c=>some (decide ((((len128 c:Nat):Int):Int)≤a))else some false
theorem Xf(N v_0 v_1 r)(a:LJ N v_0 v_1=some r):Gives prog 105 #[vA #[vI v_0,U (hi v_1),U (lo v_1)]] (vB r):=by
 unfold LJ at a
 refine As follows func105 rfl 14 rfl _ fz1 (fun d=> ?_)
 refine Ad<|rA rfl fun i=>rz rfl<|Aa fun j b=>Hb [] (by decide+kernel) (fun k=>AH)<|rm 2 [0] rfl<|kB a fun g e a=>rc _ (cF ly) (TV N v_0 _ e)<|rn 1 rfl ?_
 rcases c:g with _|_
 ·replace a:=iB c a
  refine rz rfl<|b _ _ ?_
  cases a
  exact aR eE1
 replace a:=ifp c a
 refine r_y rfl<|rm 1 [0] rfl<|r_y rfl<|kB a fun h f a=>rc _ (cF VF) (QJ N v_0 v_1 _ f)<|r_y rfl<|rc _ (cF lw) (se h)<|rn 1 rfl<|r_y rfl<|ry [0] rfl<|b _ _ ?_
 cases a
 exact aR eE1
def GS(N:Nat)(a:Int)(b:BitVec 128)(w:Int):Option Bool:=if a=w then(LJ N a b).bind fun c=>some c else some false
theorem Na(N v_0 v_1 w r)(a:GS N v_0 v_1 w=some r):Gives prog 233 #[vA #[vI v_0,U (hi v_1),U (lo v_1)],vI w] (vB r):=by
 unfold GS at a
 refine As follows func233 rfl 13 rfl _ fz2 (fun d=> ?_)
 refine Ad<|rA rfl fun f=>rz rfl<|Aa fun g b=>Ag<|rm 5 [0] rfl ?_
 rcases c:(v_0==w)with _|_
 ·replace a:=iG c a
  refine rz rfl<|b _ _ ?_
  cases a
  exact aR eE1
 replace a:=iE c a
 refine r_y rfl<|rm 1 [0] rfl<|r_y rfl<|kB a fun h e a=>rc _ (cF bO) (Xf N v_0 v_1 _ e)<|rz rfl<|b _ _ ?_
 cases a
 exact aR eE1
def Mg(N:Nat)(a:List ((List UInt8)×(List (Int×Int))×(List (Int×Int×Int))×(List (Int×BitVec 128×Int×BitVec 128×Int))×Int))(i:Int):Option Bool:=ck ((R64 ((a.length:Int) - 1))) ((AE N i 0 ((a.length:Int) - 1)).bind fun b=>some b)
theorem UN(N l' i r)(a:Mg N l' i=some r)(ro l'v)(hl':RdN Ad8 ro l'v l'):Does prog 238 #[l'v,vI i] ro [] (pV (vB r)):=by
 unfold Mg at a
 refine Aj follows func238 rfl 10 rfl _ fz2 (fun b=> ?_)
 refine AZ rfl<|Ad<|rn 2 rfl<|rL (RdN.shp hl') rfl<|kC a fun c a=>rX c rfl<|kB a fun e d a=>rc _ (cF Dg) (AO N i 0 ((l'.length:Int) - 1) _ d)<|rz rfl ?_
 cases a
 exact aR eV1
def GT(N:Nat)(c:An)(n:Int):Option Int:=(Mg N c.2.2.2.2.1 n).bind fun e=>if e=true then(Ao N true 5).bind fun a=>some a else if n= -1 then(Ao N true 5).bind fun b=>some b else(Ao N (n== -2) 5).bind fun d=>some d
theorem PQ(N c n r)(a:GT N c n=some r)(ro)(cv:Ay)(hc:Aa2 ro cv c):Does prog 187 #[vA (Ac c cv),vI n] ro [] (pV (vI r)):=by
 unfold GT at a
 refine Aj follows func187 rfl 19 rfl _ fz2 (fun h=> ?_)
 refine Ad<|rA rfl fun p=>rz rfl<|Aa fun q b=>Ag<|rm 4 [0] rfl<|kB a fun k i a=>gV _ (cF jZ) (fun o w z_=>UN N c.2.2.2.2.1 n _ i z_.view cv.2.2.2.1 (RdN.mono z_.ro_cell hc.2.2.2.1))<|rn 1 rfl ?_
 rcases d:k with _|_
 ·replace a:=iB d a
  refine rn 4 rfl ?_
  rcases e:(n== -1)with _|_
  ·replace a:=iG e a
   refine rn 3 rfl<|kB a fun s j a=>rc _ (cF Bg) (Ax N (n== -2) 5 _ j)<|rz rfl<|b _ _ ?_
   cases a
   exact aR eV1
  replace a:=iE e a
  refine rn 3 rfl<|kB a fun l f a=>rc _ (cF Bg) (Ax N true 5 _ f)<|rz rfl<|b _ _ ?_
  cases a
  exact aR eV1
 replace a:=ifp d a
 refine rn 7 rfl<|kB a fun m g a=>rc _ (cF Bg) (Ax N true 5 _ g)<|rz rfl<|b _ _ ?_
 cases a
 exact aR eV1
def Ll(N:Nat)(_:Int)(i:Int)(d:BitVec 128)(c:Int)(b:BitVec 128)(e:Int)(q:List (Int×Int×Int))(h:Int)(g:An):Option Int:=(Kl N i d).bind fun w=>(Kl N c b).bind fun u=>(QH N u).bind fun v=>(QI N w v).bind fun f=>(Ao N (decide ((q.length:Int)>0)) 4).bind fun a=>(GS N i d h).bind fun l=>if l=true then(GS N c b h).bind fun r=>(Ao N r 9).bind fun s=>(Ao N (f==((0#64)++(0#64))) 14).bind fun o=>(GT N g e).bind fun t=>(AP N ([a,s,o,t])).bind fun m=>some m else(Ao N false 9).bind fun p=>(Ao N (f==((0#64)++(0#64))) 14).bind fun k=>(GT N g e).bind fun n=>(AP N ([a,p,k,n])).bind fun j=>some j
theorem TA(N x x_0 x_1 x_2 x_3 x_4 B g f r)(b:Ll N x x_0 x_1 x_2 x_3 x_4 B g f=some r)(ro)(K:Nat)(n)(aa:Rd Ad0 ro n B)(Q:Blk ro K [n])(L:Nat)(C:Blk ro L [vI g])(M:Nat)(e:Ay)(O:Aa2 ro e f)(D:Blk ro M (Gl f e)):Does prog 230 #[vI x,vA #[vI x_0,U (hi x_1),U (lo x_1),vI x_2,U (hi x_3),U (lo x_3),vI x_4],vP K 0,vP L 0,vP M 0] ro [] (pV (vI r)):=by
 unfold Ll at b
 refine Aj follows func230 rfl 42 rfl _ fz5 (fun ae=> ?_)
 refine Ad<|rA rfl fun b2=>rz rfl<|Aa fun K3 af=>Hb [] (by decide+kernel) (fun hn=>AH)<|rm 2 [0] rfl<|kB b fun r4 ag b=>rc _ (cF VF) (QJ N x_0 x_1 _ ag)<|rm 2 [0] rfl<|kB b fun r6 ah b=>rc _ (cF VF) (QJ N x_2 x_3 _ ah)<|kB b fun r8 ai b=>rc _ (cF kg) (bZ N r6 _ ai)<|kB b fun a ac b=>rc _ (cF kh) (ca N r4 r8 _ ac)<|rA rfl fun E=>Yl [(E,272, #[U (hi a),U (lo a)]),(b2,227, #[vI x_0,U (hi x_1),U (lo x_1),vI x_2,U (hi x_3),U (lo x_3),vI x_4])] 0 _ _ _ (#[U (0#64),U (0#64)]) (#[U (hi a),U (lo a)]) (#[U (hi a),U (lo a)]) rfl rfl rfl rfl rfl (.of rfl rfl) rfl rfl<|Ak<|af _ _ ?_
 refine Aa fun ay P=> ?_
 refine Bw [(some 39,false),(some 40,false),(some 41,false)] (conG prog [(39,cV (GT N f x_4) fun m=>vI m),(41,fun _ _ v_ L_ U_=>(∀m,Ao N (decide ((B.length:Int)>0)) 4=some m→ ∀F,GS N x_0 x_1 g=some F→(if F=true then(1:Nat)else 0)=0→ ∀G,Ao N false 9=some G→ ∀H,Ao N (a==((0#64)++(0#64))) 14=some H→ ∀I,GT N f x_4=some I→ ∀J,AP N ([m,G,H,I])=some J→(pV (vI J)) v_ L_ U_)∧(∀m,Ao N (decide ((B.length:Int)>0)) 4=some m→ ∀F,GS N x_0 x_1 g=some F→(if F=true then(1:Nat)else 0)=1→ ∀G,GS N x_2 x_3 g=some G→ ∀H,Ao N G 9=some H→ ∀I,Ao N (a==((0#64)++(0#64))) 14=some I→ ∀J,GT N f x_4=some J→ ∀ad,AP N ([m,H,I,J])=some ad→(pV (vI ad)) v_ L_ U_))]) [] (by decide+kernel) (fun hn=>AH) ?_
 refine GX n (vs:=[n]) (o:=0) rfl rfl (AQ Q) rfl<|rL (Rd.shp aa) rfl<|rn 1 rfl<|kB b fun A h b=>rc _ (cF Bg) (Ax N (decide ((B.length:Int)>0)) 4 _ h)<|rm 2 [1] rfl<|GX (vI g) (vs:=[vI g]) (o:=0) rfl rfl (AQ C) rfl<|kB b fun R i b=>rc _ (cF VC) (Na N x_0 x_1 g _ i)<|rn 1 rfl ?_
 rcases p:R with _|_
 ·replace b:=iB p b
  have d:(if R=true then(1:Nat)else 0)=0:=(if_neg (Bool.eq_false_iff.1 p))
  refine rn 5 rfl<|kB b fun S q b=>rc _ (cF Bg) (Ax N false 9 _ q)<|rl (vA #[U (hi a),U (lo a)]) 0<|r_W (vA #[U (0#64),U (0#64)]) rfl (Ap rfl rfl rfl rfl)<|r_W (vB (a==((0#64)++(0#64)))) rfl (Vm rfl rfl jl (by have h_:=fun c=>Vn (c:=c) a ((0#64)++(0#64));simp only [Bn] at h_;exact h_ _))<|kB b fun V s b=>rc _ (cF Bg) (Ax N (a==((0#64)++(0#64))) 14 _ s)<|GX (vA (Ac f e)) (vs:=(Gl f e)) (o:=0) rfl rfl (AQ D) rfl<|rm 2 [1] rfl<|kB b fun W j b=>rg _ (cF VD) (fun o w z_=>PQ N f x_4 _ j z_.view e (Aa2.mono z_.ro_cell O)) (GB j) ?_
  refine IW (Ls:=[(RB E (hi a) (lo a)),(RC b2 x_0 (hi x_1) (lo x_1) x_2 (hi x_3) (lo x_3) x_4)]) 46 BJ [A,S,V,W] [vI A,vI S,vI V,vI W] [vI 0,vI 0,vI 0,vI 0] rfl rfl rfl rfl rfl rfl rfl (by kernel_rfl) (by kernel_rfl) rfl rfl rfl (fun aj ak al=> ?_)
  refine kB b fun am t b=>rg _ (cF EG) (fun o w z_=>BS N ([A,S,V,W]) _ t z_.view aj ((Av al (Ai (Ls:=[(RB E (hi a) (lo a)),(RC b2 x_0 (hi x_1) (lo x_1) x_2 (hi x_3) (lo x_3) x_4),ak]) (k:=2) rfl rfl)) o w z_)) (fun _ _ v_ L_ U_=>⟨fun h_=>h_.1 _ h _ i d _ q _ s _ j _ t,fun h_=>⟨by intro _ e_;cases q1 (e_.symm.trans h);intro _ e_;cases q1 (e_.symm.trans i);intro e_;first|(cases(e_.symm.trans d);done)|(cases(e_.symm.trans d);intro _ e_;cases q1 (e_.symm.trans q);intro _ e_;cases q1 (e_.symm.trans s);intro _ e_;cases q1 (e_.symm.trans j);intro _ e_;cases q1 (e_.symm.trans t);exact h_),by intro _ e_;cases q1 (e_.symm.trans h);intro _ e_;cases q1 (e_.symm.trans i);intro e_;first|(cases(e_.symm.trans d);done)|(cases(e_.symm.trans d);intro _ e_;cases q1 (e_.symm.trans u);intro _ e_;cases q1 (e_.symm.trans v);intro _ e_;cases q1 (e_.symm.trans y);intro _ e_;cases q1 (e_.symm.trans l);intro _ e_;cases q1 (e_.symm.trans z);exact h_)⟩⟩) ?_
  refine rz rfl<|P _ _ ?_
  refine Gm [(7,vI am)] rfl (fun T=> ?_)
  cases b
  exact aR eV1
 replace b:=ifp p b
 have d:(if R=true then(1:Nat)else 0)=1:=(if_pos p)
 refine rn 1 rfl<|r_y rfl<|rm 1 [1] rfl<|r_y rfl<|GX (vI g) (vs:=[vI g]) (o:=0) rfl rfl (AQ C) rfl<|r_y rfl<|kB b fun an u b=>rc _ (cF VC) (Na N x_2 x_3 g _ u)<|rn 1 rfl<|kB b fun X v b=>rc _ (cF Bg) (Ax N an 9 _ v)<|rl (vA #[U (hi a),U (lo a)]) 0<|r_W (vA #[U (0#64),U (0#64)]) rfl (Ap rfl rfl rfl rfl)<|r_W (vB (a==((0#64)++(0#64)))) rfl (Vm rfl rfl jl (by have h_:=fun c=>Vn (c:=c) a ((0#64)++(0#64));simp only [Bn] at h_;exact h_ _))<|kB b fun Y y b=>rc _ (cF Bg) (Ax N (a==((0#64)++(0#64))) 14 _ y)<|GX (vA (Ac f e)) (vs:=(Gl f e)) (o:=0) rfl rfl (AQ D) rfl<|rm 2 [1] rfl<|kB b fun Z l b=>rg _ (cF VD) (fun o w z_=>PQ N f x_4 _ l z_.view e (Aa2.mono z_.ro_cell O)) (GB l) ?_
 refine IW (Ls:=[(RB E (hi a) (lo a)),(RC b2 x_0 (hi x_1) (lo x_1) x_2 (hi x_3) (lo x_3) x_4)]) 46 BJ [A,X,Y,Z] [vI A,vI X,vI Y,vI Z] [vI 0,vI 0,vI 0,vI 0] rfl rfl rfl rfl rfl rfl rfl (by kernel_rfl) (by kernel_rfl) rfl rfl rfl (fun ao ap aq=> ?_)
 refine kB b fun ar z b=>rg _ (cF EG) (fun o w z_=>BS N ([A,X,Y,Z]) _ z z_.view ao ((Av aq (Ai (Ls:=[(RB E (hi a) (lo a)),(RC b2 x_0 (hi x_1) (lo x_1) x_2 (hi x_3) (lo x_3) x_4),ap]) (k:=2) rfl rfl)) o w z_)) (fun _ _ v_ L_ U_=>⟨fun h_=>h_.2 _ h _ i d _ u _ v _ y _ l _ z,fun h_=>⟨by intro _ e_;cases q1 (e_.symm.trans h);intro _ e_;cases q1 (e_.symm.trans i);intro e_;first|(cases(e_.symm.trans d);done)|(cases(e_.symm.trans d);intro _ e_;cases q1 (e_.symm.trans q);intro _ e_;cases q1 (e_.symm.trans s);intro _ e_;cases q1 (e_.symm.trans j);intro _ e_;cases q1 (e_.symm.trans t);exact h_),by intro _ e_;cases q1 (e_.symm.trans h);intro _ e_;cases q1 (e_.symm.trans i);intro e_;first|(cases(e_.symm.trans d);done)|(cases(e_.symm.trans d);intro _ e_;cases q1 (e_.symm.trans u);intro _ e_;cases q1 (e_.symm.trans v);intro _ e_;cases q1 (e_.symm.trans y);intro _ e_;cases q1 (e_.symm.trans l);intro _ e_;cases q1 (e_.symm.trans z);exact h_)⟩⟩) ?_
 refine rz rfl<|P _ _ ?_
 refine Gm [(7,vI ar)] rfl (fun T=> ?_)
 cases b
 exact aR eV1
def IZ(N:Nat)(b:List (Int×BitVec 128×Int×BitVec 128×Int))(d:List (Int×Int×Int))(c:Int)(e:An):Nat→Int→Option (Int×Int)
  |0,_=>none
  |g+1,a=>if a<(b.length:Int)then ck (0≤a∧a<(b.length:Int)) ((Ll N a ((b[a.toNat]!).1) ((b[a.toNat]!).2.1) ((b[a.toNat]!).2.2.1) ((b[a.toNat]!).2.2.2.1) ((b[a.toNat]!).2.2.2.2) d c e).bind fun f=>if(f:Int)≠0 then some (a,f)else ck (R64 (a+1)) ((IZ N b d c e g) (a+1)))else some (0,0)
def LF(N:Nat)(e:List (Int×BitVec 128×Int×BitVec 128×Int))(d:Int)(b:List (Int×Int×Int))(a:Int)(c:An):Option (Int×Int):=if(e.length:Int)>d then some (0,2)else IZ N e b a c N 0
theorem YC(N l' most g h e r)(d:LF N l' most g h e=some r)(ro l'v)(hl':Rd Af3 ro l'v l')(a:Nat)(i)(p:Rd Ad0 ro i g)(k:Blk ro a [i])(b:Nat)(m:Blk ro b [vI h])(c:Nat)(j:Ay)(q:Aa2 ro j e)(n:Blk ro c (Gl e j)):Does prog 184 #[l'v,vI most,vF 230 #[] #[vP a 0,vP b 0,vP c 0]] ro [] (pV (vT #[vI r.1,vI r.2])):=by
 unfold LF at d
 refine Aj follows func184 rfl 31 rfl _ fz3 (fun C=> ?_)
 refine AZ rfl<|Aa fun K D=>Ad<|rn 1 rfl<|rL (Rd.shp hl') rfl<|rz rfl<|aD d rfl (fun E d=> ?_) (fun E d=> ?_)
 ·refine AZ rfl ?_
  cases d
  exact aR eV2
 refine Ab<|D _ _ ?_
 refine Aa fun L F=>Ad<|rn 1 rfl<|rL (Rd.shp hl') rfl<|rz rfl<|Ah<|AC (fun tt ll nn=> ∃(u:Nat) (f:Int),(IZ N l' g h e u f=some r)∧Is [(2,vF 230 #[] #[vP a 0,vP b 0,vP c 0]),(15,l'v),(16,vI (l'.length:Int)),(17,vI f)] [] tt ll∧nn=u+1) (N+1) ?_ ?_
 ·exact⟨N,0,d,Af rfl rfl,rfl⟩
 clear d;rintro t l _ ⟨u,f,d,⟨⟨T,rfl⟩,rfl⟩,rfl⟩
 rcases u with _|u
 ·exact absurd d (by simp [IZ])
 rw [IZ] at d
 refine AZ rfl<|Aa fun G v=>aD d rfl (fun x d=> ?_) (fun x d=> ?_)
 ·refine Ab<|v _ _ ?_
  refine Aa fun H y=>Ah<|Ad<|rn 1 rfl<|kC d fun s d=>rI (Rd.shp hl') s rfl<|rE (Au hl') s 0 rfl<|rA rfl fun I=>ry [0] rfl<|Ad ?_
  refine rm 3 [0] rfl<|kB d fun J z d=>gV _ (BG (caps:=[vP a 0,vP b 0,vP c 0]) rfl kj rfl) (fun o w z_=>TA N f ((l'[f.toNat]!).1) ((l'[f.toNat]!).2.1) ((l'[f.toNat]!).2.2.1) ((l'[f.toNat]!).2.2.2.1) ((l'[f.toNat]!).2.2.2.2) g h e _ z z_.view a i (z_.r p) (AQ k o w z_) b (AQ m o w z_) c j (Aa2.mono z_.ro_cell q) (AQ n o w z_))<|rz rfl<|AZ rfl ?_
  refine aN d rfl (fun A d=> ?_) (fun A d=> ?_)
  ·refine AZ rfl ?_
   cases d
   exact aR eV2
  refine Ab<|y _ _ ?_
  refine Ag<|kC d fun B d=>rX B rfl<|rz rfl<|fg _ (Sub.of (suC _ suN)) ?_
  exact⟨u+1,by omega,u,(f+1),d,Af rfl rfl,rfl⟩
 refine AD<|F _ _ ?_
 refine AZ rfl ?_
 cases d
 exact aR eV2
def GI(_:Nat)(n:Int)(a:Int)(b:Int):Option Bool:=if n≥a then some (decide (n≤b))else some false
theorem NU(N n least most r)(a:GI N n least most=some r):Gives prog 236 #[vI n,vI least,vI most] (vB r):=by
 unfold GI at a
 refine As follows func236 rfl 15 rfl _ fz3 (fun d=> ?_)
 refine AZ rfl<|Aa fun e b=>Ag<|rn 4 rfl ?_
 rcases c:(decide (n≥least))with _|_
 ·replace a:=iF c a
  refine rz rfl<|b _ _ ?_
  cases a
  exact aR eE1
 replace a:=iD c a
 refine rz rfl<|b _ _ ?_
 cases a
 exact aR eE1
def Hl(N:Nat)(e:Int×Bool)(a:Bool):Option Int:=(Ao N e.2 5).bind fun d=>(Ao N a 7).bind fun b=>(AP N ([d,b])).bind fun c=>some c
def IE(N:Nat)(c:An)(b:Int)(e:Int)(a:Int):Option Int:=(IP N c b e a).bind fun d=>if b=1 then Hl N d (a==0)else if b=2 then(AE N e 0 1024).bind fun f=>if f=true then(AE N a 1 64).bind fun g=>Hl N d g else Hl N d false else Hl N d true
theorem UY(N c k_0 k_1 k_2 r)(b:IE N c k_0 k_1 k_2=some r)(ro)(cv:Ay)(hc:Aa2 ro cv c):DoesI prog 237 #[vA (Ac c cv),vA #[vI k_0,vI k_1,vI k_2]] GC ro [] (pV (vI r)):=by
 unfold IE at b
 refine AW follows func237 rfl 38 rfl _ fz2 Be (fun p=> ?_)
 refine Ad<|rA rfl fun C=>rA rfl fun D=>rz rfl<|Ad<|rm 3 [1,0] rfl<|kB b fun q s b=>gV _ (cF bn) (fun o w z_=>NV N c k_0 k_1 k_2 _ s z_.view cv (Aa2.mono z_.ro_cell hc))<|rz rfl<|AZ rfl<|BR (fun tt ll=> ∃(a:Bool),(Hl N q a=some r)∧Is [(6,vB q.2),(7,vB a)] [] tt ll) ?_ ?_
 ·refine AY [0] rfl<|Ah<|AZ rfl<|aE b rfl (fun e b=> ?_) (fun e b=> ?_)
  ·refine Ag<|ry [0] rfl<|fg _ (Sub.of (suC _ (suC _ suN))) ?_
   exact⟨(k_2==0),b,Af rfl rfl⟩
  refine AZ rfl<|aE b rfl (fun f b=> ?_) (fun f b=> ?_)
  ·refine Ag<|rm 2 [0] rfl<|kB b fun u g b=>rc _ (cF Dg) (AO N k_1 0 1024 _ g)<|rn 1 rfl ?_
   rcases d:u with _|_
   ·replace b:=iB d b
    refine rz rfl<|fg _ (Sub.of (suC _ (suC _ suN))) ?_
    exact⟨false,b,Af (by first|rfl|(simp only [d];done)|(simp only [d];rfl)|(simp only [Bn];rfl)) rfl⟩
   replace b:=ifp d b
   refine rn 1 rfl<|r_y rfl<|rm 1 [0] rfl<|r_y rfl<|kB b fun v h b=>rc _ (cF Dg) (AO N k_2 1 64 _ h)<|rz rfl<|fg _ (Sub.of (suC _ (suC _ suN))) ?_
   exact⟨v,b,Af (by first|rfl|(simp only [d];done)|(simp only [d];rfl)|(simp only [Bn];rfl)) rfl⟩
  refine Ab<|fg _ (Sub.of (suC _ (suC _ suN))) ?_
  exact⟨true,b,Af rfl rfl⟩
 clear b;rintro t l ⟨a,b,⟨T,rfl⟩,rfl⟩
 unfold Hl at b
 refine Ad<|rn 1 rfl<|kB b fun A i b=>rc _ (cF Bg) (Ax N q.2 5 _ i)<|rn 1 rfl<|kB b fun j m b=>rc _ (cF Bg) (Ax N a 7 _ m)<|gB (Ls:=[]) 46 BJ [A,j] (fun x y z=> ?_)
 refine kB b fun B n b=>gV _ (cF EG) (fun o w z_=>(Does.inv (BS N ([A,j]) _ n z_.view x ((Av z (Ai (Ls:=[y]) (k:=0) rfl rfl)) o w z_)) _))<|rz rfl ?_
 cases b
 exact aR eV1
def OG(N:Nat)(_:Int)(a:Int)(f:Int)(d:Int)(b:Int)(e:An):Option Int:=ck (R64 (b - 1)) ((GI N a 0 (b - 1)).bind fun g=>(Ao N g 10).bind fun h=>(IE N e a f d).bind fun i=>(AP N ([h,i])).bind fun c=>some c)
theorem YJ(N x k_0 k_1 k_2 d a r)(e:OG N x k_0 k_1 k_2 d a=some r)(ro)(h:Nat)(j:Blk ro h [vI d])(i:Nat)(b:Ay)(p:Aa2 ro b a)(l:Blk ro i (Gl a b)):DoesI prog 235 #[vI x,vA #[vI k_0,vI k_1,vI k_2],vP h 0,vP i 0] GC ro [] (pV (vI r)):=by
 unfold OG at e
 refine AW follows func235 rfl 18 rfl _ fz4 Be (fun u=> ?_)
 refine Ad<|rA rfl fun E=>rz rfl<|Aa fun H v=>Bw [(some 15,false),(some 16,false),(some 17,false)] (conG prog [(15,cV (IE N a k_0 k_1 k_2) fun g=>vI g),(17,fun _ _ v_ L_ U_=> ∀g,GI N k_0 0 (d - 1)=some g→ ∀q,Ao N g 10=some q→ ∀s,IE N a k_0 k_1 k_2=some s→ ∀t,AP N ([q,s])=some t→(pV (vI t)) v_ L_ U_)]) [] (by decide+kernel) (fun I=>AH)<|rm 2 [0] rfl ?_
 refine GX (vI d) (vs:=[vI d]) (o:=0) rfl rfl (AQ j) rfl<|kC e fun y e=>rX y rfl<|kB e fun F m e=>rc _ (cF kb) (NU N k_0 0 (d - 1) _ m)<|kB e fun z n e=>rc _ (cF Bg) (Ax N F 10 _ n)<|GX (vA (Ac a b)) (vs:=(Gl a b)) (o:=0) rfl rfl (AQ l) rfl<|rm 1 [0] rfl<|kB e fun A c e=>rg _ (cF ka) (fun o w z_=>UY N a k_0 k_1 k_2 _ c z_.view b (Aa2.mono z_.ro_cell p)) (GB c) ?_
 refine IW (Ls:=[(aj E k_0 k_1 k_2)]) 46 BJ [z,A] [vI z,vI A] [vI 0,vI 0] rfl rfl rfl rfl rfl rfl rfl (by kernel_rfl) (by kernel_rfl) rfl rfl rfl (fun B C D=> ?_)
 refine kB e fun G f e=>rg _ (cF EG) (fun o w z_=>(Does.inv (BS N ([z,A]) _ f z_.view B ((Av D (Ai (Ls:=[(aj E k_0 k_1 k_2),C]) (k:=1) rfl rfl)) o w z_)) _)) (fun _ _ v_ L_ U_=>⟨fun h_=>h_ _ m _ n _ c _ f,fun h_=>by intro _ e_;cases q1 (e_.symm.trans m);intro _ e_;cases q1 (e_.symm.trans n);intro _ e_;cases q1 (e_.symm.trans c);intro _ e_;cases q1 (e_.symm.trans f);exact h_⟩) ?_
 refine rz rfl<|v _ _ ?_
 cases e
 exact aR eV1
def JT(N:Nat)(d:List (Int×Int×Int))(c:Int)(b:An):Nat→Int→Option (Int×Int)
  |0,_=>none
  |f+1,a=>if a<(d.length:Int)then ck (0≤a∧a<(d.length:Int)) ((OG N a ((d[a.toNat]!).1) ((d[a.toNat]!).2.1) ((d[a.toNat]!).2.2) c b).bind fun e=>if(e:Int)≠0 then some (a,e)else ck (R64 (a+1)) ((JT N d c b f) (a+1)))else some (0,0)
def PL(N:Nat)(d:List (Int×Int×Int))(c:Int)(a:Int)(b:An):Option (Int×Int):=if(d.length:Int)>c then some (0,2)else JT N d a b N 0
theorem aA(N l' most e d r)(c:PL N l' most e d=some r)(ro l'v)(hl':Rd Ad0 ro l'v l')(a:Nat)(h:Blk ro a [vI e])(b:Nat)(f:Ay)(j:Aa2 ro f d)(i:Blk ro b (Gl d f)):DoesI prog 234 #[l'v,vI most,vF 235 #[] #[vP a 0,vP b 0]] GC ro [] (pV (vT #[vI r.1,vI r.2])):=by
 unfold PL at c
 refine AW follows func234 rfl 31 rfl _ fz3 Be (fun x=> ?_)
 refine AZ rfl<|Aa fun F y=>Ad<|rn 1 rfl<|rL (Rd.shp hl') rfl<|rz rfl<|aD c rfl (fun z c=> ?_) (fun z c=> ?_)
 ·refine AZ rfl ?_
  cases c
  exact aR eV2
 refine Ab<|y _ _ ?_
 refine Aa fun G A=>Ad<|rn 1 rfl<|rL (Rd.shp hl') rfl<|rz rfl<|Ah<|AC (fun tt ll nn=> ∃(m:Nat) (g:Int),(JT N l' e d m g=some r)∧Is [(2,vF 235 #[] #[vP a 0,vP b 0]),(15,l'v),(16,vI (l'.length:Int)),(17,vI g)] [] tt ll∧nn=m+1) (N+1) ?_ ?_
 ·exact⟨N,0,c,Af rfl rfl,rfl⟩
 clear c;rintro t l _ ⟨m,g,c,⟨⟨T,rfl⟩,rfl⟩,rfl⟩
 rcases m with _|m
 ·exact absurd c (by simp [JT])
 rw [JT] at c
 refine AZ rfl<|Aa fun B n=>aD c rfl (fun p c=> ?_) (fun p c=> ?_)
 ·refine Ab<|n _ _ ?_
  refine Aa fun C q=>Ah<|Ad<|rn 1 rfl<|kC c fun k c=>rI (Rd.shp hl') k rfl<|rE (Au hl') k 0 rfl<|rA rfl fun D=>ry [0] rfl<|Ad<|rm 3 [0] rfl<|kB c fun E s c=>gV _ (BG (caps:=[vP a 0,vP b 0]) rfl ke rfl) (fun o w z_=>YJ N g ((l'[g.toNat]!).1) ((l'[g.toNat]!).2.1) ((l'[g.toNat]!).2.2) e d _ s z_.view a (AQ h o w z_) b f (Aa2.mono z_.ro_cell j) (AQ i o w z_))<|rz rfl<|AZ rfl<|aN c rfl (fun u c=> ?_) (fun u c=> ?_)
  ·refine AZ rfl ?_
   cases c
   exact aR eV2
  refine Ab<|q _ _ ?_
  refine Ag<|kC c fun v c=>rX v rfl<|rz rfl<|fg _ (Sub.of (suC _ suN)) ?_
  exact⟨m+1,by omega,m,(g+1),c,Af rfl rfl,rfl⟩
 refine AD<|A _ _ ?_
 refine AZ rfl ?_
 cases c
 exact aR eV2
def ID(N:Nat)(c:An)(e:List (Int×Int×Int))(a:Int):Option Int:=(PL N e 4 a c).bind fun g=>(Ox N c e).bind fun f=>(Ao N f.2 9).bind fun b=>(AP N ([g.2,b])).bind fun d=>some d
theorem UX(N c l' kinds r)(a:ID N c l' kinds=some r)(ro)(cv:Ay)(hc:Aa2 ro cv c)(l'v)(hl':Rd Ad0 ro l'v l'):DoesI prog 186 #[vA (Ac c cv),l'v,vI kinds] GC ro [] (pV (vI r)):=by
 unfold ID at a
 refine AW follows func186 rfl 29 rfl _ fz3 Be (fun f=> ?_)
 refine Ad<|rA rfl fun g=>rA rfl fun h=>rz rfl<|Ad<|rn 1 rfl<|r_W (vF 235 #[] #[vP h 0,vP g 0]) rfl (HD rfl)<|kB a fun q i a=>gV _ (cF kf) (fun o w z_=>aA N l' 4 kinds c _ i z_.view l'v ((Au hl') o w z_) h (Cw 0 rfl rfl o w z_) g cv (Aa2.mono z_.ro_cell hc) (Cw 1 rfl rfl o w z_))<|rz rfl<|Ad<|rm 3 [1] rfl<|kB a fun s j a=>gV _ (cF bo) (fun o w z_=>UJ N c l' _ j z_.view cv (Aa2.mono z_.ro_cell hc) l'v ((Au hl') o w z_))<|rz rfl<|Ad<|rn 2 rfl<|kB a fun b d a=>rc _ (cF Bg) (Ax N s.2 9 _ d)<|gB (Ls:=[(ak h kinds),[(g,143,(Ac c cv))]]) 46 BJ [q.2,b] (fun l m n=> ?_)
 refine kB a fun p e a=>gV _ (cF EG) (fun o w z_=>(Does.inv (BS N ([q.2,b]) _ e z_.view l ((Av n (Ai (Ls:=[(ak h kinds),[(g,143,(Ac c cv))],m]) (k:=2) rfl rfl)) o w z_)) _))<|rz rfl<|Gm [(6,vI p)] rfl (fun T=> ?_)
 cases a
 exact aR eV1
def JW(N:Nat)(c:An)(_:List UInt8)(g:List (Int×Int))(a:List (Int×Int×Int))(b:List (Int×BitVec 128×Int×BitVec 128×Int))(f:Int):Option Int:=(PM N g 4 c).bind fun k=>(Ic N c a).bind fun j=>(LF N b 8 a j c).bind fun i=>(ID N c a 3).bind fun h=>(GT N c f).bind fun d=>(AP N ([k.2,h,i.2,d])).bind fun e=>some e
theorem YE(N c s_0 s_1 s_2 s_3 s_4 r)(b:JW N c s_0 s_1 s_2 s_3 s_4=some r)(ro)(cv:Ay)(hc:Aa2 ro cv c)(s_1v)(hs_1:Rd Af2 ro s_1v s_1)(s_2v)(hs_2:Rd Ad0 ro s_2v s_2)(s_3v)(hs_3:Rd Af3 ro s_3v s_3):DoesI prog 130 #[vA (Ac c cv),vA #[vS s_0,s_1v,s_2v,s_3v,vI s_4]] GC ro [] (pV (vI r)):=by
 unfold JW at b
 refine AW follows func130 rfl 39 rfl _ fz2 Be (fun A=> ?_)
 refine Ad<|rA rfl fun p=>rA rfl fun g=>rz rfl<|Ad<|rm 3 [0,1] rfl<|r_W (vF 183 #[vA (Ac c cv)] #[]) rfl (HO rfl rfl)<|kB b fun B C b=>gV _ (cF lg) (fun o w z_=>(Does.inv (aC N s_1 4 c _ C z_.view s_1v (z_.r hs_1) cv (Aa2.mono z_.ro_cell hc)) _))<|rz rfl<|Aa fun K D=> ?_
 refine Zx (Ls:=[(HS g s_0 s_1v s_2v s_3v s_4),[(p,143,(Ac c cv))]]) [(some 23,true),(some 24,false),(some 1000000024,true)] [(23,fun _ _ v_ L_ U_=>(pH ((List.flatten ([]:List (List Bl))).map (·.1)) (fun v_ L_ U_=> ∀a,Ic N c s_2=some a→(pO (List.flatten []) (oB 108 #[s_2v] fun b_0=>(oB 3 #[vI a] fun b_1=>(oB 143 (Ac c cv) fun b_2=>(oE (vF 230 #[] #[vP b_0 0,vP b_1 0,vP b_2 0]) []))))) v_ L_ U_) v_ L_ U_)),(24,fun _ _ v_ L_ U_=> ∀a,Ic N c s_2=some a→ ∀f,LF N s_3 8 s_2 a c=some f→(pV (vT #[vI f.1,vI f.2])) v_ L_ U_)] [] [0,1] [] (by decide+kernel) (fun I=>AH) (by decide+kernel) rfl (⟨.inr (fun _ _ _ _ _ h_=>qD (gJ (Ls:=[(HS g s_0 s_1v s_2v s_3v s_4),[(p,143,(Ac c cv))]]) (is:=[]) (js:=[]) rfl) h_),⟨.inl rfl,trivial⟩⟩) (fun hnb_=> ?_)
 refine rn 1 rfl<|ZS s_3v 0 _ _ _ _ rfl rfl rfl rfl rfl (hnb_ g (List.mem_of_getElem? (i:=0) rfl))<|ZS (vA (Ac c cv)) 1 _ _ _ _ rfl rfl rfl rfl rfl (hnb_ p (List.mem_of_getElem? (i:=1) rfl))<|rn 1 rfl<|ZS s_2v 0 _ _ _ _ rfl rfl rfl rfl rfl (hnb_ g (List.mem_of_getElem? (i:=0) rfl))<|kB b fun x s b=>fp (Ls:=[(HS g s_0 s_1v s_2v s_3v s_4),[(p,143,(Ac c cv))]]) (FL:=[]) [] _ (some 23) 185 _ rfl rfl rfl rfl rfl (cF lc) (fun o w hn_ z_=>WC N c s_2 _ s _ cv (Aa2.mono (Jy (Ls:=[(HS g s_0 s_1v s_2v s_3v s_4),[(p,143,(Ac c cv))]]) (is:=[]) rfl z_) hc) s_2v (Rd.mono (Jy (Ls:=[(HS g s_0 s_1v s_2v s_3v s_4),[(p,143,(Ac c cv))]]) (is:=[]) rfl z_) hs_2)) (fun a_ c_ v_ L_ U_=>qC (q:=fun v_ L_ U_=> ∀a,Ic N c s_2=some a→(pO (List.flatten []) (oB 108 #[s_2v] fun b_0=>(oB 3 #[vI a] fun b_1=>(oB 143 (Ac c cv) fun b_2=>(oE (vF 230 #[] #[vP b_0 0,vP b_1 0,vP b_2 0]) []))))) v_ L_ U_) ((GB s) a_ c_ v_ L_ U_)) (fun _=>(Ab8.sub (R:=[]) (dR fun b_0=>(dR fun b_1=>(dR fun b_2=>(SY rfl)))) (Sub.pick [] [] rfl))) ?_
 rintro _ _ ⟨h,_,⟨j,_,⟨l,_,⟨rfl,rfl⟩,rfl⟩,rfl⟩,rfl⟩
 refine Db (Ls:=[(HS g s_0 s_1v s_2v s_3v s_4),[(p,143,(Ac c cv))],(NR h s_2v),(SA j x),[(l,143,(Ac c cv))]]) (Ls':=[(HS g s_0 s_1v s_2v s_3v s_4),[(p,143,(Ac c cv))],(NR h s_2v),(SA j x),[(l,143,(Ac c cv))]]) [0,1,2,3,4] rfl rfl<|kB b fun t m b=>rg _ (cF ld) (fun o w z_=>(Does.inv (YC N s_3 8 s_2 x c _ m z_.view s_3v (z_.r hs_3) h s_2v (z_.r hs_2) (Cw 2 rfl rfl o w z_) j (Cw 3 rfl rfl o w z_) l cv (Aa2.mono z_.ro_cell hc) (Cw 4 rfl rfl o w z_)) _)) (fun _ _ v_ L_ U_=>⟨fun h_=>h_ _ s _ m,fun h_=>by intro _ e_;cases q1 (e_.symm.trans s);intro _ e_;cases q1 (e_.symm.trans m);exact h_⟩) ?_
 refine rz rfl<|D _ _ ?_
 refine Aa fun J y=>Bw [(some 31,false),(some 36,false),(some 37,false),(some 38,false)] (conG prog [(31,cV (ID N c s_2 3) fun a=>vI a),(36,cV (GT N c s_4) fun a=>vI a),(38,fun _ _ v_ L_ U_=> ∀a,ID N c s_2 3=some a→ ∀f,GT N c s_4=some f→ ∀z,AP N ([B.2,a,t.2,f])=some z→(pV (vI z)) v_ L_ U_)]) [] (by decide+kernel) (fun I=>AH)<|rm 2 [1] rfl ?_
 refine rm 2 [0] rfl<|kB b fun u d b=>rg _ (cF bx) (fun o w z_=>UX N c s_2 3 _ d z_.view cv (Aa2.mono z_.ro_cell hc) s_2v (z_.r hs_2)) (GB d)<|rm 4 [1,0] rfl<|kB b fun v e b=>rg _ (cF VD) (fun o w z_=>(Does.inv (PQ N c s_4 _ e z_.view cv (Aa2.mono z_.ro_cell hc)) _)) (GB e) ?_
 refine IW (Ls:=[(HS g s_0 s_1v s_2v s_3v s_4),[(p,143,(Ac c cv))],(NR h s_2v),(SA j x),[(l,143,(Ac c cv))]]) 46 BJ [B.2,u,t.2,v] [vI B.2,vI u,vI t.2,vI v] [vI 0,vI 0,vI 0,vI 0] rfl rfl rfl rfl rfl rfl rfl (by kernel_rfl) (by kernel_rfl) rfl rfl rfl (fun E F G=> ?_)
 refine kB b fun H n b=>rg _ (cF EG) (fun o w z_=>(Does.inv (BS N ([B.2,u,t.2,v]) _ n z_.view E ((Av G (Ai (Ls:=[(HS g s_0 s_1v s_2v s_3v s_4),[(p,143,(Ac c cv))],(NR h s_2v),(SA j x),[(l,143,(Ac c cv))],F]) (k:=5) rfl rfl)) o w z_)) _)) (fun _ _ v_ L_ U_=>⟨fun h_=>h_ _ d _ e _ n,fun h_=>by intro _ e_;cases q1 (e_.symm.trans d);intro _ e_;cases q1 (e_.symm.trans e);intro _ e_;cases q1 (e_.symm.trans n);exact h_⟩) ?_
 refine rz rfl<|y _ _ ?_
 refine Gm [(4,vI H)] rfl (fun T=> ?_)
 cases b
 exact aR eV1
def La(N:Nat)(i:Int)(f:List UInt8)(h:List (Int×Int))(e:List (Int×Int×Int))(c:List (Int×BitVec 128×Int×BitVec 128×Int))(j:Int)(b:List (List UInt8))(a:An):Option Int:=ck (0≤i∧i<(b.length:Int)) ((FS N (b[i.toNat]!)).bind fun m=>(Ao N m 4).bind fun k=>(Bf N b i).bind fun l=>(JW N a f h e c j).bind fun d=>(AP N ([k,l,d])).bind fun g=>some g)
theorem Tn(N i x_0 x_1 x_2 x_3 x_4 b c3_p0_0_ r)(c:La N i x_0 x_1 x_2 x_3 x_4 b c3_p0_0_=some r)(ro x_1v)(hx_1:Rd Af2 ro x_1v x_1)(x_2v)(hx_2:Rd Ad0 ro x_2v x_2)(x_3v)(hx_3:Rd Af3 ro x_3v x_3)(l:Nat)(a)(g:Rd Aa4 ro a b)(h:Blk ro l [a])(m:Nat)(c3_p0_0_v:Ay)(hc3_p0_0_:Aa2 ro c3_p0_0_v c3_p0_0_)(n:Blk ro m [vF 130 #[vA (Ac c3_p0_0_ c3_p0_0_v)] #[]]):DoesI prog 181 #[vI i,vA #[vS x_0,x_1v,x_2v,x_3v,vI x_4],vP l 0,vP m 0] GC ro [] (pV (vI r)):=by
 unfold La at c
 refine AW follows func181 rfl 21 rfl _ fz4 Be (fun z=> ?_)
 refine Ad<|rA rfl fun G=>rz rfl<|Aa fun J A=> ?_
 refine Bw [(some 15,false),(some 18,false),(some 19,false),(some 20,false)] (conG prog [(15,cV (Bf N b i) fun f=>vI f),(18,cV (JW N c3_p0_0_ x_0 x_1 x_2 x_3 x_4) fun f=>vI f),(20,fun _ _ v_ L_ U_=> ∀f,FS N (b[i.toNat]!)=some f→ ∀t,Ao N f 4=some t→ ∀u,Bf N b i=some u→ ∀v,JW N c3_p0_0_ x_0 x_1 x_2 x_3 x_4=some v→ ∀x,AP N ([t,u,v])=some x→(pV (vI x)) v_ L_ U_)]) [] (by decide+kernel) (fun K=>AH) ?_
 refine GX a (vs:=[a]) (o:=0) rfl rfl (AQ h) rfl<|rn 1 rfl<|kC c fun y c=>rI (Rd.shp g) y rfl<|rE (Au g) y 0 rfl<|kB c fun H p c=>rc _ (cF ME) (Kr N (b[i.toNat]!) _ p)<|kB c fun B q c=>rc _ (cF Bg) (Ax N H 4 _ q)<|GX a (vs:=[a]) (o:=0) rfl rfl (AQ h) rfl<|rn 1 rfl<|kB c fun C d c=>rg _ (cF KU) (fun o w z_=>(Does.inv (Hp N b i _ d z_.view a (z_.r g)) _)) (GB d)<|GX (vF 130 #[vA (Ac c3_p0_0_ c3_p0_0_v)] #[]) (vs:=[vF 130 #[vA (Ac c3_p0_0_ c3_p0_0_v)] #[]]) (o:=0) rfl rfl (AQ n) rfl<|rm 1 [0] rfl<|kB c fun s e c=>rg _ (PX (bd:=[vA (Ac c3_p0_0_ c3_p0_0_v)]) (caps:=[]) rfl lU rfl) (fun o w z_=>YE N c3_p0_0_ x_0 x_1 x_2 x_3 x_4 _ e z_.view c3_p0_0_v (Aa2.mono z_.ro_cell hc3_p0_0_) x_1v (z_.r hx_1) x_2v (z_.r hx_2) x_3v (z_.r hx_3)) (GB e) ?_
 refine IW (Ls:=[(HS G x_0 x_1v x_2v x_3v x_4)]) 46 BJ [B,C,s] [vI B,vI C,vI s] [vI 0,vI 0,vI 0] rfl rfl rfl rfl rfl rfl rfl (by kernel_rfl) (by kernel_rfl) rfl rfl rfl (fun D E F=> ?_)
 refine kB c fun I j c=>rg _ (cF EG) (fun o w z_=>(Does.inv (BS N ([B,C,s]) _ j z_.view D ((Av F (Ai (Ls:=[(HS G x_0 x_1v x_2v x_3v x_4),E]) (k:=1) rfl rfl)) o w z_)) _)) (fun _ _ v_ L_ U_=>⟨fun h_=>h_ _ p _ q _ d _ e _ j,fun h_=>by intro _ e_;cases q1 (e_.symm.trans p);intro _ e_;cases q1 (e_.symm.trans q);intro _ e_;cases q1 (e_.symm.trans d);intro _ e_;cases q1 (e_.symm.trans e);intro _ e_;cases q1 (e_.symm.trans j);exact h_⟩) ?_
 refine rz rfl<|A _ _ ?_
 cases c
 exact aR eV1
def IA(N:Nat)(c:List ((List UInt8)×(List (Int×Int))×(List (Int×Int×Int))×(List (Int×BitVec 128×Int×BitVec 128×Int))×Int))(d:List (List UInt8))(b:An):Nat→Int→Option (Int×Int)
  |0,_=>none
  |f+1,a=>if a<(c.length:Int)then ck (0≤a∧a<(c.length:Int)) ((La N a (c[a.toNat]!.1) (c[a.toNat]!.2.1) (c[a.toNat]!.2.2.1) (c[a.toNat]!.2.2.2.1) (c[a.toNat]!.2.2.2.2) d b).bind fun e=>if(e:Int)≠0 then some (a,e)else ck (R64 (a+1)) ((IA N c d b f) (a+1)))else some (0,0)
def No(N:Nat)(d:List ((List UInt8)×(List (Int×Int))×(List (Int×Int×Int))×(List (Int×BitVec 128×Int×BitVec 128×Int))×Int))(c:Int)(b:List (List UInt8))(a:An):Option (Int×Int):=if(d.length:Int)>c then some (0,2)else IA N d b a N 0
theorem Ws(N l' most e ask1_p0_0_ r)(d:No N l' most e ask1_p0_0_=some r)(ro l'v)(hl':RdN Ad8 ro l'v l')(b:Nat)(f)(m:Rd Aa4 ro f e)(g:Blk ro b [f])(c:Nat)(ask1_p0_0_v:Ay)(hask1_p0_0_:Aa2 ro ask1_p0_0_v ask1_p0_0_)(h:Blk ro c [vF 130 #[vA (Ac ask1_p0_0_ ask1_p0_0_v)] #[]]):DoesI prog 180 #[l'v,vI most,vF 181 #[] #[vP b 0,vP c 0]] GC ro [] (pV (vT #[vI r.1,vI r.2])):=by
 unfold No at d
 refine AW follows func180 rfl 31 rfl _ fz3 Be (fun C=> ?_)
 refine AZ rfl<|Aa fun L D=>Ad<|rn 1 rfl<|rL (RdN.shp hl') rfl<|rz rfl<|aD d rfl (fun F d=> ?_) (fun F d=> ?_)
 ·refine AZ rfl ?_
  cases d
  exact aR eV2
 refine Ab<|D _ _ ?_
 refine Aa fun M G=>Ad<|rn 1 rfl<|rL (RdN.shp hl') rfl<|rz rfl<|Ah<|AC (fun tt ll nn=> ∃(u:Nat) (a:Int),(IA N l' e ask1_p0_0_ u a=some r)∧Is [(2,vF 181 #[] #[vP b 0,vP c 0]),(15,l'v),(16,vI (l'.length:Int)),(17,vI a)] [] tt ll∧nn=u+1) (N+1) ?_ ?_
 ·exact⟨N,0,d,Af rfl rfl,rfl⟩
 clear d;rintro t l _ ⟨u,a,d,⟨⟨T,rfl⟩,rfl⟩,rfl⟩
 rcases u with _|u
 ·exact absurd d (by simp [IA])
 rw [IA] at d
 refine AZ rfl<|Aa fun I v=>aD d rfl (fun x d=> ?_) (fun x d=> ?_)
 ·refine Ab<|v _ _ ?_
  refine Aa fun J y=>Ah<|Ad<|rn 1 rfl<|kC d fun n d=> ?_
  obtain⟨_,⟨i,j,k,p,q,s,rfl⟩,hat21⟩:=RdN.at (E:=Ad8) hl' (De n)
  refine rI (RdN.shp hl') n rfl<|MG (vA #[vS (l'[a.toNat]!.1),i,j,k,vI (l'[a.toNat]!.2.2.2.2)]) (vs:=[vS (l'[a.toNat]!.1),i,j,k,vI (l'[a.toNat]!.2.2.2.2)]) (a.toNat*5) 0 rfl rfl (fun o w z_=>At.mono z_.ro_cell hat21) rfl<|rA rfl fun H=>rn 1 rfl<|r_s (HS H (l'[a.toNat]!.1) i j k (l'[a.toNat]!.2.2.2.2)) 0 _ _ _ _ _ (#[vS (l'[a.toNat]!.1),i,j,k,vI (l'[a.toNat]!.2.2.2.2)]) rfl rfl rfl rfl (.ofS rfl rfl (Ae rfl (Ae (Shp.one (Rd.shp p)) (Ae (Shp.one (Rd.shp q)) (Ae (Shp.one (Rd.shp s)) (Ae rfl Bt)))))) rfl rfl<|Ak<|Ad<|rm 3 [0] rfl<|kB d fun K z d=>gV _ (BG (caps:=[vP b 0,vP c 0]) rfl lh rfl) (fun o w z_=>Tn N a (l'[a.toNat]!.1) (l'[a.toNat]!.2.1) (l'[a.toNat]!.2.2.1) (l'[a.toNat]!.2.2.2.1) (l'[a.toNat]!.2.2.2.2) e ask1_p0_0_ _ z z_.view i (z_.r p) j (z_.r q) k (z_.r s) b f (z_.r m) (AQ g o w z_) c ask1_p0_0_v (Aa2.mono z_.ro_cell hask1_p0_0_) (AQ h o w z_))<|rz rfl<|Ad ?_
  refine rz rfl<|aN d rfl (fun A d=> ?_) (fun A d=> ?_)
  ·refine AZ rfl ?_
   cases d
   exact aR eV2
  refine Ab<|y _ _ ?_
  refine Ag<|kC d fun B d=>rX B rfl<|rz rfl<|fg _ (Sub.of (suC _ suN)) ?_
  exact⟨u+1,by omega,u,(a+1),d,Af rfl rfl,rfl⟩
 refine AD<|G _ _ ?_
 refine AZ rfl ?_
 cases d
 exact aR eV2
def Nf(N:Nat)(d:List ((List UInt8)×(List (Int×Int))×(List (Int×Int×Int))×(List (Int×BitVec 128×Int×BitVec 128×Int))×Int))(c:Int)(a:An):Option (Int×Int):=(Nk N d).bind fun e=>(No N d c e a).bind fun b=>some (b.1,b.2)
theorem Wj(N l' most b r)(d:Nf N l' most b=some r)(ro l'v)(hl':RdN Ad8 ro l'v l')(a:Ay)(c:Aa2 ro a b):DoesI prog 128 #[l'v,vI most,vF 129 #[] #[],vF 130 #[vA (Ac b a)] #[]] GC ro [] (pV (vT #[vI r.1,vI r.2])):=by
 unfold Nf at d
 refine AW follows func128 rfl 20 rfl _ fz4 Be (fun g=> ?_)
 refine Ad<|rA rfl fun e=>rz rfl<|Ad<|rn 2 rfl<|kB d fun n j d=>gS (Ls:=[(UE e (vF 130 #[vA (Ac b a)] #[]))]) (cF lj) (fun o w z_=>(Does.inv (Wo N l' _ j z_.view l'v (RdN.mono z_.ro_cell hl')) _)) (fun h m l=> ?_)
 refine rA rfl fun i=>r_s (List.flatten [(Xy i h),(UE e (vF 130 #[vA (Ac b a)] #[])),m]) 0 _ _ _ _ _ (#[h]) rfl rfl rfl (FM rfl (Sl.shp l)) (.ofS rfl rfl (Ae (Shp.one (Sl.shp l)) Bt)) rfl rfl<|Ak<|Ad<|rn 2 rfl<|r_W (vF 181 #[] #[vP i 0,vP e 0]) rfl (HD rfl)<|kB d fun p f d=>gV _ (cF li) (fun o w z_=>Ws N l' most n b _ f z_.view l'v (RdN.mono z_.ro_cell hl') i h ((Av l (Ai (Ls:=[(Xy i h),(UE e (vF 130 #[vA (Ac b a)] #[])),m]) (k:=2) rfl rfl)) o w z_) (Cw 0 rfl rfl o w z_) e a (Aa2.mono z_.ro_cell c) (Cw 1 rfl rfl o w z_))<|rz rfl ?_
 cases d
 exact aR eV2
def Nt(N:Nat)(c:An):Option (Int×Int):=if(c.2.2.2.2.1.length:Int)=0 then some (0,5)else(Nf N c.2.2.2.2.1 16 c).bind fun a=>some (a.1,a.2)
theorem Wx(N c r)(a:Nt N c=some r)(ro)(cv:Ay)(hc:Aa2 ro cv c):DoesI prog 81 #[vA (Ac c cv)] GC ro [] (pV (vT #[vI r.1,vI r.2])):=by
 unfold Nt at a
 refine AW follows func81 rfl 17 rfl _ fz1 Be (fun b=> ?_)
 refine Ad<|rA rfl fun g=>rz rfl<|Aa fun h d=>Ad<|rm 3 [0] rfl<|rL (RdN.shp hc.2.2.2.1) rfl<|rz rfl<|aE a rfl (fun e a=> ?_) (fun e a=> ?_)
 ·refine AZ rfl ?_
  cases a
  exact aR eV2
 refine Ab<|d _ _ ?_
 refine Ad<|rm 4 [0,0] rfl<|r_W (vF 130 #[vA (Ac c cv)] #[]) rfl (HO rfl rfl)<|kB a fun i f a=>gV _ (cF lW) (fun o w z_=>Wj N c.2.2.2.2.1 16 c _ f z_.view cv.2.2.2.1 (RdN.mono z_.ro_cell hc.2.2.2.1) cv (Aa2.mono z_.ro_cell hc))<|rz rfl ?_
 cases a
 exact aR eV2
def Ky(_:Nat)(a:List UInt8)(_:List Int)(_:List (Int×Int×Int×Int×BitVec 128)):Option (List UInt8):=some a
theorem SL(N x_0 x_1 x_2 r)(b:Ky N x_0 x_1 x_2=some r)(ro:Ro)(x_1v:Value)(_hx_1:Rd BJ ro x_1v x_1)(x_2v:Value)(_hx_2:Rd Ac9 ro x_2v x_2):Does prog 132 #[vA #[vS x_0,x_1v,x_2v]] ro [] (pV (vS r)):=by
 unfold Ky at b
 refine Aj follows func132 rfl 5 rfl _ fz1 (fun a=> ?_)
 refine Ad<|rA rfl fun c=>rz rfl<|AY [0] rfl ?_
 cases b
 exact aR eV1
def HV(N:Nat)(b:List ((List UInt8)×(List Int)×(List (Int×Int×Int×Int×BitVec 128)))):Nat→List (List UInt8)→Int→Option (List (List UInt8))
  |0,_,_=>none
  |e+1,c,a=>if a<(b.length:Int)then ck (0≤a∧a<(b.length:Int)) ((Ky N (b[a.toNat]!.1) (b[a.toNat]!.2.1) (b[a.toNat]!.2.2)).bind fun d=>ck (0≤a∧a<(c.length:Int)) (ck (R64 (a+1)) ((HV N b e) ((c).set (a.toNat) d) (a+1))))else some c
def Ml(N:Nat)(a:List ((List UInt8)×(List Int)×(List (Int×Int×Int×Int×BitVec 128)))):Option (List (List UInt8)):=ck (0≤(a.length:Int)∧(a.length:Int)≤8796093022208) (HV N a N ((List.replicate ((a.length:Int)).toNat ([]))) 0)
theorem US(N l' r)(b:Ml N l'=some r)(ro l'v)(hl':RdN Ad6 ro l'v l'):Does prog 188 #[l'v,vF 132 #[] #[]] ro [] (p1 (fun s_=>s_) 9 Aa4 r):=by
 unfold Ml at b
 refine Aj follows func188 rfl 26 rfl _ fz2 (fun z=> ?_)
 refine AZ rfl<|Ad<|rn 1 rfl<|rL (RdN.shp hl') rfl<|kC b fun A b=>cB 10<|Sq (Ls:=[]) 9 Aa4 ([]) (l'.length:Int) rfl rfl rfl rfl rfl rfl rfl rfl rfl rfl 8796093022208 rfl A (fun _ _ _ _ _=>Iff.rfl) (fun B F G=> ?_)
 refine rz rfl<|Aa fun J C=>Ad<|rn 1 rfl<|rL (RdN.shp hl') rfl<|rz rfl<|Ah<|Bo _ (Sub.pick [F] [0] rfl)<|AC (fun tt ll nn=> ∃(m:Nat) (f:List (List UInt8)) (a:Int),(HV N l' m f a=some r)∧ ∃(c:List Bl),Sl 9 Aa4 B f c∧Is [(1,vF 132 #[] #[]),(5,B),(11,l'v),(12,vI (l'.length:Int)),(13,vI a)] (List.flatten [c]) tt ll∧nn=m+1) (N+1) ?_ ?_
 ·exact⟨N,(List.replicate ((l'.length:Int)).toNat ([])),0,b,F,G,Af rfl rfl,rfl⟩
 clear b;rintro t l _ ⟨m,f,a,b,c,g,⟨⟨T,rfl⟩,rfl⟩,rfl⟩
 rcases m with _|m
 ·exact absurd b (by simp [HV])
 rw [HV] at b
 refine AZ rfl<|Aa fun H p=>aD b rfl (fun q b=> ?_) (fun q b=> ?_)
 ·refine Ab<|p _ _ ?_
  refine Aa fun I s=>Ah<|Ad<|rn 1 rfl<|kC b fun h b=> ?_
  obtain⟨_,⟨d,e,i,j,rfl⟩,hat20⟩:=RdN.at (E:=Ad6) hl' (De h)
  refine rI (RdN.shp hl') h rfl<|MG (vA #[vS (l'[a.toNat]!.1),d,e]) (vs:=[vS (l'[a.toNat]!.1),d,e]) (a.toNat*3) 0 rfl rfl (fun o w z_=>At.mono z_.ro_cell hat20) rfl<|rA rfl fun n=>rn 1 rfl<|r_s (List.flatten [(SB n (l'[a.toNat]!.1) d e),c]) 0 _ _ _ _ _ (#[vS (l'[a.toNat]!.1),d,e]) rfl rfl rfl rfl (.ofS rfl rfl (Ae rfl (Ae (Shp.one (Rd.shp i)) (Ae (Shp.one (Rd.shp j)) Bt)))) rfl rfl<|Ak<|Ag<|rm 4 [0] rfl<|kB b fun u v b=>gV _ (BG (caps:=[]) rfl lS rfl) (fun o w z_=>SL N (l'[a.toNat]!.1) (l'[a.toNat]!.2.1) (l'[a.toNat]!.2.2) _ v z_.view d (z_.r i) e (z_.r j))<|kC b fun k b=>rI (Sl.shp g) k rfl<|QS (Ls:=[(SB n (l'[a.toNat]!.1) d e),c]) 1 (En:=Aa4) (f[a.toNat]!) u (a.toNat) 0 rfl rfl rfl g (De k) rfl rfl rfl (HN rfl) rfl (fun x D=> ?_)
  refine Ak<|s _ _ ?_
  refine Ag<|kC b fun y b=>rX y rfl<|rz rfl<|fg _ (Sub.pick [(SB n (l'[a.toNat]!.1) d e),x] [1] rfl) ?_
  exact⟨m+1,by omega,m,(f).set (a.toNat) u,(a+1),b,x,D,Af rfl rfl,rfl⟩
 refine AD<|C _ _ ?_
 refine AZ rfl ?_
 cases b
 refine Bi (fun K=>Ha (v0:=B) g (EK (Sub.pick [c] [0] rfl)) rfl (Gj rfl))
def OJ(N:Nat)(_:Int)(w:Int):Option Int:=(IQ N w).bind fun a=>some a
theorem YM(N x w r)(a:OJ N x w=some r):Gives prog 191 #[vI x,vI w] (vI r):=by
 unfold OJ at a
 refine As follows func191 rfl 7 rfl _ fz2 (fun b=> ?_)
 refine AZ rfl<|Ad<|rn 1 rfl<|kB a fun d c a=>rc _ (cF VJ) (Ow N w _ c)<|rz rfl ?_
 cases a
 exact aR eE1
def JM(N:Nat)(b:List Int):Nat→Int→Option (Int×Int)
  |0,_=>none
  |d+1,a=>if a<(b.length:Int)then ck (0≤a∧a<(b.length:Int)) ((OJ N a (b[a.toNat]!)).bind fun c=>if(c:Int)≠0 then some (a,c)else ck (R64 (a+1)) ((JM N b d) (a+1)))else some (0,0)
def PF(N:Nat)(b:List Int)(a:Int):Option (Int×Int):=if(b.length:Int)>a then some (0,2)else JM N b N 0
theorem ar(N l' most r)(a:PF N l' most=some r)(ro l'v)(hl':Rd BJ ro l'v l'):Does prog 138 #[l'v,vI most,vF 191 #[] #[]] ro [] (pV (vT #[vI r.1,vI r.2])):=by
 unfold PF at a
 refine Aj follows func138 rfl 31 rfl _ fz3 (fun k=> ?_)
 refine AZ rfl<|Aa fun u m=>Ad<|rn 1 rfl<|rL (Rd.shp hl') rfl<|rz rfl<|aD a rfl (fun n a=> ?_) (fun n a=> ?_)
 ·refine AZ rfl ?_
  cases a
  exact aR eV2
 refine Ab<|m _ _ ?_
 refine Aa fun v o=>Ad<|rn 1 rfl<|rL (Rd.shp hl') rfl<|rz rfl<|Ah<|AC (fun tt ll nn=> ∃(d:Nat) (b:Int),(JM N l' d b=some r)∧Is [(2,vF 191 #[] #[]),(15,l'v),(16,vI (l'.length:Int)),(17,vI b)] [] tt ll∧nn=d+1) (N+1) ?_ ?_
 ·exact⟨N,0,a,Af rfl rfl,rfl⟩
 clear a;rintro t l _ ⟨d,b,a,⟨⟨T,rfl⟩,rfl⟩,rfl⟩
 rcases d with _|d
 ·exact absurd a (by simp [JM])
 rw [JM] at a
 refine AZ rfl<|Aa fun p e=>aD a rfl (fun f a=> ?_) (fun f a=> ?_)
 ·refine Ab<|e _ _ ?_
  refine Aa fun q g=>Ah<|Ad<|rn 1 rfl<|kC a fun c a=>rI (Rd.shp hl') c rfl<|rE (Au hl') c 0 rfl<|rz rfl<|Ad<|rn 3 rfl<|kB a fun s h a=>rc _ (BG (caps:=[]) rfl kX rfl) (YM N b (l'[b.toNat]!) _ h)<|rz rfl<|AZ rfl<|aN a rfl (fun i a=> ?_) (fun i a=> ?_)
  ·refine AZ rfl ?_
   cases a
   exact aR eV2
  refine Ab<|g _ _ ?_
  refine Ag<|kC a fun j a=>rX j rfl<|rz rfl<|fg _ (Sub.of suN) ?_
  exact⟨d+1,by omega,d,(b+1),a,Af rfl rfl,rfl⟩
 refine AD<|o _ _ ?_
 refine AZ rfl ?_
 cases a
 exact aR eV2
def HE(_:Nat)(n:Int):Option (Int×Int):=ck (R64 (n - 1)) (some (0,(n - 1)))
theorem IU(N n r)(a:HE N n=some r):Gives prog 104 #[vI n] (vA #[vI r.1,vI r.2]):=by
 unfold HE at a
 refine As follows func104 rfl 6 rfl _ fz1 (fun b=> ?_)
 refine Ad<|rA rfl fun e=>Ak<|Ad<|rn 1 rfl<|kC a fun c a=>rX c rfl<|r_W (vA #[vI 0,vI (n - 1)]) rfl (Ap rfl rfl rfl rfl)<|ry [0] rfl ?_
 cases a
 refine Bi (fun d=>Ec (v0:=vA #[vI 0,vI (n - 1)]) rfl (Gj (AT d 0 rfl rfl rfl)))
def MB(N:Nat)(c:Int)(b:Bool):Option (Int×Int×Int×Int):=if b=true then some (0,64,0,0)else if c=33 then(HE N 32).bind fun a=>some (a.1,a.2,0,64)else some (0,0,0,0)
def MC(N:Nat)(a:Int)(c:Bool):Option (Int×Int×Int×Int):=if c=true then(HE N 16).bind fun b=>some (b.1,b.2,1,4)else if a=31 then MB N a (a==31)else MB N a (a==32)
def MD(N:Nat)(a:Int)(c:Int)(d:Bool):Option (Int×Int×Int×Int):=if d=true then some (0,128,0,0)else if a=10 then(HE N 128).bind fun b=>some (b.1,b.2,0,c)else if a=11 then some (1,128,0,0)else if a=27 then MC N a (a==27)else MC N a (a==28)
def KA(N:Nat)(a:Int)(b:Int)(d:Bool):Option (Int×Int×Int×Int):=if d=true then(HE N 8).bind fun c=>some (c.1,c.2,0,0)else if a=8 then MD N a b (a==8)else MD N a b (a==9)
def LM(N:Nat)(a:Int)(b:Int)(d:Bool):Option (Int×Int×Int×Int):=if d=true then(HE N 32).bind fun c=>some (c.1,c.2,0,0)else if a=5 then KA N a b (a==5)else if a=24 then KA N a b (a==24)else if a=29 then KA N a b (a==29)else KA N a b (a==30)
def NY(N:Nat)(a:Int)(b:Int)(e:Bool):Option (Int×Int×Int×Int):=if e=true then(HE N 24).bind fun d=>some (d.1,d.2,0,0)else if a=3 then(HE N 8).bind fun c=>some (c.1,c.2,0,0)else if a=4 then LM N a b (a==4)else if a=25 then LM N a b (a==25)else LM N a b (a==26)
def NZ(N:Nat)(a:Int)(c:Int)(e:Bool):Option (Int×Int×Int×Int):=if e=true then(HE N 32).bind fun d=>(HE N 16).bind fun b=>some (d.1,d.2,b.1,b.2)else if a=2 then NY N a c (a==2)else NY N a c (a==23)
def MA(N:Nat)(a:Int)(b:Int)(_:Int)(_:Int)(_:BitVec 128):Option (Int×Int×Int×Int):=if a=1 then NZ N a b (a==1)else NZ N a b (a==22)
theorem ju(N x_0 x_1 x_2 x_3 x_4 r)(a:MA N x_0 x_1 x_2 x_3 x_4=some r):Gives prog 61 #[vA #[vI x_0,vI x_1,vI x_2,vI x_3,U (hi x_4),U (lo x_4)]] (vT #[vA #[vI r.1,vI r.2.1],vA #[vI r.2.2.1,vI r.2.2.2]]):=by
 unfold MA at a
 refine As follows func61 rfl 64 rfl _ fz1 (fun af=> ?_)
 refine Ad<|rA rfl fun f=>rA rfl fun d=>rA rfl fun e=>Ak<|Aa fun K5 ag=>AY [2] rfl<|Ah<|BR (fun tt ll=> ∃(j:Bool),(NZ N x_0 x_1 j=some r)∧Is [(1,vP f 0),(2,vP d 0),(3,vP e 0),(5,vI x_0),(6,vB j)] [(e,161, #[vI 0,vI 0]),(d,161, #[vI 0,vI 0]),(f,41, #[vI x_0,vI x_1,vI x_2,vI x_3,U (hi x_4),U (lo x_4)])] tt ll) ?_ ?_
 ·refine AZ rfl<|aE a rfl (fun p a=> ?_) (fun p a=> ?_)
  ·refine Ab<|fg _ (Sub.of (suK _ (suK _ (suK _ suN)))) ?_
   exact⟨(x_0==1),a,Af rfl rfl⟩
  refine Ag<|rz rfl<|fg _ (Sub.of (suK _ (suK _ (suK _ suN)))) ?_
  exact⟨(x_0==22),a,Af rfl rfl⟩
 clear a;rintro t l ⟨j,a,⟨T,rfl⟩,rfl⟩
 unfold NZ at a
 refine aB a rfl (fun ah a=> ?_) (fun ah a=> ?_)
 ·refine Ad<|kB a fun r9 q a=>rc _ (cF Kb) (IU N 32 _ q)<|kB a fun s u a=>rc _ (cF Kb) (IU N 16 _ u)<|ry [1,0] rfl ?_
  cases a
  refine Bi (fun b=>Ec (v0:=vT #[vA #[vI r9.1,vI r9.2],vA #[vI s.1,vI s.2]]) rfl (Jz (AT b 1 rfl rfl rfl) (AT b 0 rfl rfl rfl)))
 refine BR (fun tt ll=> ∃(k:Bool),(NY N x_0 x_1 k=some r)∧Is [(1,vP f 0),(2,vP d 0),(3,vP e 0),(5,vI x_0),(11,vB k)] [(e,161, #[vI 0,vI 0]),(d,161, #[vI 0,vI 0]),(f,41, #[vI x_0,vI x_1,vI x_2,vI x_3,U (hi x_4),U (lo x_4)])] tt ll) ?_ ?_
 ·refine AZ rfl<|aE a rfl (fun v a=> ?_) (fun v a=> ?_)
  ·refine Ab<|fg _ (Sub.of (suK _ (suK _ (suK _ suN)))) ?_
   exact⟨(x_0==2),a,Af rfl rfl⟩
  refine Ag<|rz rfl<|fg _ (Sub.of (suK _ (suK _ (suK _ suN)))) ?_
  exact⟨(x_0==23),a,Af rfl rfl⟩
 clear a;rintro t l ⟨k,a,⟨T,rfl⟩,rfl⟩
 unfold NY at a
 refine aB a rfl (fun w a=> ?_) (fun w a=> ?_)
 ·refine Ad<|kB a fun x y a=>rc _ (cF Kb) (IU N 24 _ y)<|r_W (vA #[vI 0,vI 0]) rfl (Ap rfl rfl rfl rfl)<|ry [1,0] rfl ?_
  cases a
  refine Bi (fun b=>Ec (v0:=vT #[vA #[vI x.1,vI x.2],vA #[vI 0,vI 0]]) rfl (Jz (AT b 1 rfl rfl rfl) (AT b 0 rfl rfl rfl)))
 refine AZ rfl<|aE a rfl (fun z a=> ?_) (fun z a=> ?_)
 ·refine Ad<|kB a fun A B a=>rc _ (cF Kb) (IU N 8 _ B)<|r_W (vA #[vI 0,vI 0]) rfl (Ap rfl rfl rfl rfl)<|ry [1,0] rfl ?_
  cases a
  refine Bi (fun b=>Ec (v0:=vT #[vA #[vI A.1,vI A.2],vA #[vI 0,vI 0]]) rfl (Jz (AT b 1 rfl rfl rfl) (AT b 0 rfl rfl rfl)))
 refine BR (fun tt ll=> ∃(m:Bool),(LM N x_0 x_1 m=some r)∧Is [(1,vP f 0),(2,vP d 0),(3,vP e 0),(5,vI x_0),(20,vB m)] [(e,161, #[vI 0,vI 0]),(d,161, #[vI 0,vI 0]),(f,41, #[vI x_0,vI x_1,vI x_2,vI x_3,U (hi x_4),U (lo x_4)])] tt ll) ?_ ?_
 ·refine AZ rfl<|aE a rfl (fun C a=> ?_) (fun C a=> ?_)
  ·refine Ab<|fg _ (Sub.of (suK _ (suK _ (suK _ suN)))) ?_
   exact⟨(x_0==4),a,Af rfl rfl⟩
  refine AZ rfl<|aE a rfl (fun D a=> ?_) (fun D a=> ?_)
  ·refine Ab<|fg _ (Sub.of (suK _ (suK _ (suK _ suN)))) ?_
   exact⟨(x_0==25),a,Af rfl rfl⟩
  refine Ag<|rz rfl<|fg _ (Sub.of (suK _ (suK _ (suK _ suN)))) ?_
  exact⟨(x_0==26),a,Af rfl rfl⟩
 clear a;rintro t l ⟨m,a,⟨T,rfl⟩,rfl⟩
 unfold LM at a
 refine aB a rfl (fun E a=> ?_) (fun E a=> ?_)
 ·refine Ad<|kB a fun F G a=>rc _ (cF Kb) (IU N 32 _ G)<|r_W (vA #[vI 0,vI 0]) rfl (Ap rfl rfl rfl rfl)<|ry [1,0] rfl ?_
  cases a
  refine Bi (fun b=>Ec (v0:=vT #[vA #[vI F.1,vI F.2],vA #[vI 0,vI 0]]) rfl (Jz (AT b 1 rfl rfl rfl) (AT b 0 rfl rfl rfl)))
 refine BR (fun tt ll=> ∃(n:Bool),(KA N x_0 x_1 n=some r)∧Is [(1,vP f 0),(2,vP d 0),(3,vP e 0),(5,vI x_0),(26,vB n)] [(e,161, #[vI 0,vI 0]),(d,161, #[vI 0,vI 0]),(f,41, #[vI x_0,vI x_1,vI x_2,vI x_3,U (hi x_4),U (lo x_4)])] tt ll) ?_ ?_
 ·refine AZ rfl<|aE a rfl (fun H a=> ?_) (fun H a=> ?_)
  ·refine Ab<|fg _ (Sub.of (suK _ (suK _ (suK _ suN)))) ?_
   exact⟨(x_0==5),a,Af rfl rfl⟩
  refine AZ rfl<|aE a rfl (fun I a=> ?_) (fun I a=> ?_)
  ·refine Ab<|fg _ (Sub.of (suK _ (suK _ (suK _ suN)))) ?_
   exact⟨(x_0==24),a,Af rfl rfl⟩
  refine AZ rfl<|aE a rfl (fun J a=> ?_) (fun J a=> ?_)
  ·refine Ab<|fg _ (Sub.of (suK _ (suK _ (suK _ suN)))) ?_
   exact⟨(x_0==29),a,Af rfl rfl⟩
  refine Ag<|rz rfl<|fg _ (Sub.of (suK _ (suK _ (suK _ suN)))) ?_
  exact⟨(x_0==30),a,Af rfl rfl⟩
 clear a;rintro t l ⟨n,a,⟨T,rfl⟩,rfl⟩
 unfold KA at a
 refine aB a rfl (fun K a=> ?_) (fun K a=> ?_)
 ·refine Ad<|kB a fun L M a=>rc _ (cF Kb) (IU N 8 _ M)<|r_W (vA #[vI 0,vI 0]) rfl (Ap rfl rfl rfl rfl)<|ry [1,0] rfl ?_
  cases a
  refine Bi (fun b=>Ec (v0:=vT #[vA #[vI L.1,vI L.2],vA #[vI 0,vI 0]]) rfl (Jz (AT b 1 rfl rfl rfl) (AT b 0 rfl rfl rfl)))
 refine BR (fun tt ll=> ∃(o:Bool),(MD N x_0 x_1 o=some r)∧Is [(1,vP f 0),(2,vP d 0),(3,vP e 0),(5,vI x_0),(33,vB o)] [(e,161, #[vI 0,vI 0]),(d,161, #[vI 0,vI 0]),(f,41, #[vI x_0,vI x_1,vI x_2,vI x_3,U (hi x_4),U (lo x_4)])] tt ll) ?_ ?_
 ·refine AZ rfl<|aE a rfl (fun O a=> ?_) (fun O a=> ?_)
  ·refine Ab<|fg _ (Sub.of (suK _ (suK _ (suK _ suN)))) ?_
   exact⟨(x_0==8),a,Af rfl rfl⟩
  refine Ag<|rz rfl<|fg _ (Sub.of (suK _ (suK _ (suK _ suN)))) ?_
  exact⟨(x_0==9),a,Af rfl rfl⟩
 clear a;rintro t l ⟨o,a,⟨T,rfl⟩,rfl⟩
 unfold MD at a
 refine aB a rfl (fun P a=> ?_) (fun P a=> ?_)
 ·refine Ad<|r_W (vA #[vI 0,vI 128]) rfl (Ap rfl rfl rfl rfl)<|r_W (vA #[vI 0,vI 0]) rfl (Ap rfl rfl rfl rfl)<|ry [1,0] rfl ?_
  cases a
  refine Bi (fun b=>Ec (v0:=vT #[vA #[vI 0,vI 128],vA #[vI 0,vI 0]]) rfl (Jz (AT b 1 rfl rfl rfl) (AT b 0 rfl rfl rfl)))
 refine AZ rfl<|aE a rfl (fun Q a=> ?_) (fun Q a=> ?_)
 ·refine Aa fun aj R=>Zx (Ls:=[(Xx e 0 0),(Xx d 0 0),(iH f x_0 x_1 x_2 x_3 (hi x_4) (lo x_4))]) [(some 1000000000,true)] [] [1,0] [2] [] (by decide+kernel) (fun b=>AH) (by decide+kernel) rfl trivial (fun hnb_=> ?_)
  refine kB a fun c S a=>rc _ (cF Kb) (IU N 128 _ S)<|rn 1 rfl<|ZS (vI x_1) 2 _ _ _ _ rfl rfl rfl rfl rfl (hnb_ f (List.mem_of_getElem? (i:=0) rfl))<|r_W (vA #[vI 0,vI x_1]) rfl (Ap rfl rfl rfl rfl)<|mY [(e,161, #[vI 0,vI 0]),(d,161, #[vI c.1,vI c.2]),(f,41, #[vI x_0,vI x_1,vI x_2,vI x_3,U (hi x_4),U (lo x_4)])] 1 _ _ _ (#[vI 0,vI 0]) (#[vI c.1,vI c.2]) (#[vI c.1,vI c.2]) rfl rfl rfl rfl (.of rfl rfl) rfl rfl (List.mem_of_getElem? (i:=0) rfl) ?_
  refine mY [(e,161, #[vI 0,vI x_1]),(d,161, #[vI c.1,vI c.2]),(f,41, #[vI x_0,vI x_1,vI x_2,vI x_3,U (hi x_4),U (lo x_4)])] 0 _ _ _ (#[vI 0,vI 0]) (#[vI 0,vI x_1]) (#[vI 0,vI x_1]) rfl rfl rfl rfl (.of rfl rfl) rfl rfl (List.mem_of_getElem? (i:=1) rfl)<|Ak<|R _ _ ?_
  cases a
  refine Bi (fun b=>Ec (v0:=vT #[vA #[vI c.1,vI c.2],vA #[vI 0,vI x_1]]) rfl (Jz (AT b 1 rfl rfl rfl) (AT b 0 rfl rfl rfl)))
 refine AZ rfl<|aE a rfl (fun V a=> ?_) (fun V a=> ?_)
 ·refine Ad<|r_W (vA #[vI 1,vI 128]) rfl (Ap rfl rfl rfl rfl)<|r_W (vA #[vI 0,vI 0]) rfl (Ap rfl rfl rfl rfl)<|ry [1,0] rfl ?_
  cases a
  refine Bi (fun b=>Ec (v0:=vT #[vA #[vI 1,vI 128],vA #[vI 0,vI 0]]) rfl (Jz (AT b 1 rfl rfl rfl) (AT b 0 rfl rfl rfl)))
 refine BR (fun tt ll=> ∃(g:Bool),(MC N x_0 g=some r)∧Is [(2,vP d 0),(3,vP e 0),(5,vI x_0),(48,vB g)] [(e,161, #[vI 0,vI 0]),(d,161, #[vI 0,vI 0])] tt ll) ?_ ?_
 ·refine AZ rfl<|aE a rfl (fun W a=> ?_) (fun W a=> ?_)
  ·refine Ab<|fg _ (Sub.of (suK _ (suK _ (suC _ suN)))) ?_
   exact⟨(x_0==27),a,Af rfl rfl⟩
  refine Ag<|rz rfl<|fg _ (Sub.of (suK _ (suK _ (suC _ suN)))) ?_
  exact⟨(x_0==28),a,Af rfl rfl⟩
 clear a;rintro t l ⟨g,a,⟨T,rfl⟩,rfl⟩
 unfold MC at a
 refine aB a rfl (fun X a=> ?_) (fun X a=> ?_)
 ·refine Ad<|kB a fun Y Z a=>rc _ (cF Kb) (IU N 16 _ Z)<|r_W (vA #[vI 1,vI 4]) rfl (Ap rfl rfl rfl rfl)<|ry [1,0] rfl ?_
  cases a
  refine Bi (fun b=>Ec (v0:=vT #[vA #[vI Y.1,vI Y.2],vA #[vI 1,vI 4]]) rfl (Jz (AT b 1 rfl rfl rfl) (AT b 0 rfl rfl rfl)))
 refine BR (fun tt ll=> ∃(h:Bool),(MB N x_0 h=some r)∧Is [(2,vP d 0),(3,vP e 0),(5,vI x_0),(53,vB h)] [(e,161, #[vI 0,vI 0]),(d,161, #[vI 0,vI 0])] tt ll) ?_ ?_
 ·refine AZ rfl<|aE a rfl (fun aa a=> ?_) (fun aa a=> ?_)
  ·refine Ab<|fg _ (Sub.of (suK _ (suK _ suN))) ?_
   exact⟨(x_0==31),a,Af rfl rfl⟩
  refine Ag<|rz rfl<|fg _ (Sub.of (suK _ (suK _ suN))) ?_
  exact⟨(x_0==32),a,Af rfl rfl⟩
 clear a;rintro t l ⟨h,a,⟨T,rfl⟩,rfl⟩
 unfold MB at a
 refine aB a rfl (fun ab a=> ?_) (fun ab a=> ?_)
 ·refine Ad<|r_W (vA #[vI 0,vI 64]) rfl (Ap rfl rfl rfl rfl)<|r_W (vA #[vI 0,vI 0]) rfl (Ap rfl rfl rfl rfl)<|ry [1,0] rfl ?_
  cases a
  refine Bi (fun b=>Ec (v0:=vT #[vA #[vI 0,vI 64],vA #[vI 0,vI 0]]) rfl (Jz (AT b 1 rfl rfl rfl) (AT b 0 rfl rfl rfl)))
 refine AZ rfl<|aE a rfl (fun ac a=> ?_) (fun ac a=> ?_)
 ·refine Ad<|kB a fun ad ae a=>rc _ (cF Kb) (IU N 32 _ ae)<|r_W (vA #[vI 0,vI 64]) rfl (Ap rfl rfl rfl rfl)<|ry [1,0] rfl ?_
  cases a
  refine Bi (fun b=>Ec (v0:=vT #[vA #[vI ad.1,vI ad.2],vA #[vI 0,vI 64]]) rfl (Jz (AT b 1 rfl rfl rfl) (AT b 0 rfl rfl rfl)))
 refine Ab<|ag _ _ ?_
 refine Ad<|r_W (vA #[vI 0,vI 0]) rfl (Ap rfl rfl rfl rfl)<|r_W (vA #[vI 0,vI 0]) rfl (Ap rfl rfl rfl rfl)<|ry [1,0] rfl ?_
 cases a
 refine Bi (fun b=>Ec (v0:=vT #[vA #[vI 0,vI 0],vA #[vI 0,vI 0]]) rfl (Jz (AT b 1 rfl rfl rfl) (AT b 0 rfl rfl rfl)))
end Go.Proofs.YthmpbldidnmenaaGreatDoor
