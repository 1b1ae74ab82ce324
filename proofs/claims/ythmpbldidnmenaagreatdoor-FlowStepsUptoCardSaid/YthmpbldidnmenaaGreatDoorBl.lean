import Derived.Test.YthmpbldidnmenaaGreatDoorBk
namespace Go.Proofs.YthmpbldidnmenaaGreatDoor
open Go Go.RowKit Go.Eng _root_.Go.Proofs.Tryz
set_option linter.unusedSimpArgs false
set_option linter.unusedVariables false
set_option maxRecDepth 100000
set_option maxHeartbeats 80000000
abbrev Rz(b:Nat)(x0:Int)(x1:Int)(x2:Int)(x3:Int)(x4:BitVec 64)(x5:BitVec 64):List Bl:=[(b,41, #[vI x0,vI x1,vI x2,vI x3,U x4,U x5])]
def BF(b:BitVec 64)(a:BitVec 64):Option ((BitVec 64)×(BitVec 64)×Bool):=some (a,b,true)
def Cy(N:Nat)(m:An)(c:Int)(a:Int)(d:Int)(s:BitVec 64)(b:List (List UInt8×Int×Int×Int×Int×Int×Int×Int×List UInt8))(f:Bool):Option ((BitVec 64)×(BitVec 64)×Bool):=if f=true then ck (0≤a∧a<64) (some (s,s,(s).getLsbD (a.toNat)))else if((b[c.toNat]!).1)=([115,104,111,119]:List UInt8)then ck (0≤a∧a<64) (BF s (put64 s (a.toNat) true))else if((b[c.toNat]!).1)=([104,105,100,101]:List UInt8)then ck (0≤a∧a<64) (BF s (put64 s (a.toNat) false))else if((b[c.toNat]!).1)=([112,117,115,104,45,104,101,97,100]:List UInt8)then(Ce N m a d s).bind fun e=>BF s e else if((b[c.toNat]!).1)=([112,111,112,45,104,101,97,100]:List UInt8)then ck (R64 (0 - d)) ((Ce N m a (0 - d) s).bind fun g=>BF s g)else if((b[c.toNat]!).1)=([106,117,109,112,45,103,111,110,101]:List UInt8)then ck (0≤a∧a<64) (ck (0≤a∧a<64) (BF (put64 s (a.toNat) false) (put64 s (a.toNat) true)))else BF s s
def El(N:Nat)(m:An)(a:Int)(d:Int)(c:Int)(_:Int)(_:BitVec 128)(s:BitVec 64):Option ((BitVec 64)×(BitVec 64)×Bool):=(Hk N).bind fun b=>ck (0≤a∧a<(b.length:Int)) (if((b[a.toNat]!).1)=([102,105,101,108,100]:List UInt8)then Cy N m a d c s b (((b[a.toNat]!).1)==([102,105,101,108,100]:List UInt8))else Cy N m a d c s b (((b[a.toNat]!).1)==([112,117,116,45,102,105,101,108,100]:List UInt8)))
theorem Od(N m x_0 x_1 x_2 x_3 x_4 s r)(a:El N m x_0 x_1 x_2 x_3 x_4 s=some r)(ro)(mv:Ay)(hm:Aa2 ro mv m):Does prog 8 #[vA (Ac m mv),vA #[vI x_0,vI x_1,vI x_2,vI x_3,U (hi x_4),U (lo x_4)],vA (⟨Aw s⟩:Array Value)] ro [] (pV (vT #[vA (⟨Aw r.1⟩:Array Value),vA (⟨Aw r.2.1⟩:Array Value),vB r.2.2])):=by
 unfold El at a
 refine Aj follows func8 rfl 67 rfl _ fz3 (fun ak=> ?_)
 refine Ad<|rA rfl fun p=>rA rfl fun n=>rA rfl fun f=>r_a (50,(⟨Aw (0#64)⟩:Array Value)) rfl rfl Ig (fun h=> ?_) (.inr rfl)
 refine r_a (50,(⟨Aw (0#64)⟩:Array Value)) rfl rfl Ig (fun j=> ?_) (.inr rfl)
 refine rz rfl<|Aa fun K7 al=>Hb [] (by decide+kernel) (fun q=>AH)<|rm 2 [2,2] rfl<|r_a (50,(⟨Aw (0#64)⟩:Array Value)) rfl rfl Ig (fun e=> ?_) (.inl rfl)
 refine r_a (50,(⟨Aw (0#64)⟩:Array Value)) rfl rfl Ig (fun g=> ?_) (.inl rfl)
 refine Yl [(g,50,(⟨Aw (0#64)⟩:Array Value)),(e,50,(⟨Aw s⟩:Array Value)),(j,50,(⟨Aw (0#64)⟩:Array Value)),(h,50,(⟨Aw (0#64)⟩:Array Value)),(f,50,(⟨Aw s⟩:Array Value)),(n,41, #[vI x_0,vI x_1,vI x_2,vI x_3,U (hi x_4),U (lo x_4)]),(p,35,(Ac m mv))] 1 _ _ _ (⟨Aw (0#64)⟩:Array Value) (⟨Aw s⟩:Array Value) (⟨Aw s⟩:Array Value) rfl rfl rfl rfl rfl (.of rfl rfl) rfl rfl ?_
 refine Yl [(g,50,(⟨Aw s⟩:Array Value)),(e,50,(⟨Aw s⟩:Array Value)),(j,50,(⟨Aw (0#64)⟩:Array Value)),(h,50,(⟨Aw (0#64)⟩:Array Value)),(f,50,(⟨Aw s⟩:Array Value)),(n,41, #[vI x_0,vI x_1,vI x_2,vI x_3,U (hi x_4),U (lo x_4)]),(p,35,(Ac m mv))] 0 _ _ _ (⟨Aw (0#64)⟩:Array Value) (⟨Aw s⟩:Array Value) (⟨Aw s⟩:Array Value) rfl rfl rfl rfl rfl (.of rfl rfl) rfl rfl<|Ak<|al _ _ ?_
 refine BR (fun tt ll=> ∃(A:BitVec 64) (B:BitVec 64),(BF A B=some r)∧Is [(6,vP h 0),(7,vP j 0),(9,vP e 0),(10,vP g 0)] [(g,50,(⟨Aw A⟩:Array Value)),(e,50,(⟨Aw B⟩:Array Value)),(j,50,(⟨Aw (0#64)⟩:Array Value)),(h,50,(⟨Aw (0#64)⟩:Array Value))] tt ll) ?_ ?_
 ·refine Aa fun ao M=>Bw [(some 13,false)] (conG prog [(13,fun _ _ v_ L_ U_=> ∀O,Hk N  =some O→(p1 (fun s_=>s_) 76 Ny O) v_ L_ U_)]) [] (by decide+kernel) (fun q=>AH)<|kB a fun d C a=>Ym (Ls:=[[(g,50,(⟨Aw s⟩:Array Value))],[(e,50,(⟨Aw s⟩:Array Value))],[(j,50,(⟨Aw (0#64)⟩:Array Value))],[(h,50,(⟨Aw (0#64)⟩:Array Value))],[(f,50,(⟨Aw s⟩:Array Value))],(Rz n x_0 x_1 x_2 x_3 (hi x_4) (lo x_4)),[(p,35,(Ac m mv))]]) (fun Q=>Q) 76 Ny d 20 _ rfl rfl rfl (cF TS) (fun o w z_=>Qj N  _ C z_.view) (GB C) (fun Q I J=> ?_)
  refine rm 2 [5] rfl<|kC a fun u a=>rI (Sl.shp J) u rfl<|rF (Sl.shp J) (Bb u) rfl<|rE (Av J (Ai (Ls:=[[(g,50,(⟨Aw s⟩:Array Value))],[(e,50,(⟨Aw s⟩:Array Value))],[(j,50,(⟨Aw (0#64)⟩:Array Value))],[(h,50,(⟨Aw (0#64)⟩:Array Value))],[(f,50,(⟨Aw s⟩:Array Value))],(Rz n x_0 x_1 x_2 x_3 (hi x_4) (lo x_4)),[(p,35,(Ac m mv))],I]) (k:=7) rfl rfl)) u 0 rfl<|Ak ?_
  refine M _ _ ?_
  refine Ah<|BR (fun tt ll=> ∃(K:Bool),(Cy N m x_0 x_1 x_2 s d K=some r)∧Is [(3,vP p 0),(4,vP n 0),(5,vP f 0),(6,vP h 0),(7,vP j 0),(9,vP e 0),(10,vP g 0),(18,vS ((d[x_0.toNat]!).1)),(19,vB K)] [(g,50,(⟨Aw s⟩:Array Value)),(e,50,(⟨Aw s⟩:Array Value)),(j,50,(⟨Aw (0#64)⟩:Array Value)),(h,50,(⟨Aw (0#64)⟩:Array Value)),(f,50,(⟨Aw s⟩:Array Value)),(n,41, #[vI x_0,vI x_1,vI x_2,vI x_3,U (hi x_4),U (lo x_4)]),(p,35,(Ac m mv))] tt ll) ?_ ?_
  ·refine Ad<|r_W (vB (((d[x_0.toNat]!).1)==([102,105,101,108,100]:List UInt8))) rfl (Df rfl rfl)<|rz rfl<|aE a rfl (fun R a=> ?_) (fun R a=> ?_)
   ·refine Ab<|fg _ (Sub.pick [[(g,50,(⟨Aw s⟩:Array Value))],[(e,50,(⟨Aw s⟩:Array Value))],[(j,50,(⟨Aw (0#64)⟩:Array Value))],[(h,50,(⟨Aw (0#64)⟩:Array Value))],[(f,50,(⟨Aw s⟩:Array Value))],(Rz n x_0 x_1 x_2 x_3 (hi x_4) (lo x_4)),[(p,35,(Ac m mv))],I] [0,1,2,3,4,5,6] rfl) ?_
    exact⟨((d[x_0.toNat]!).1)==([102,105,101,108,100]:List UInt8),a,Af rfl rfl⟩
   refine Ag<|r_W (vB (((d[x_0.toNat]!).1)==([112,117,116,45,102,105,101,108,100]:List UInt8))) rfl (Df rfl rfl)<|rz rfl<|fg _ (Sub.pick [[(g,50,(⟨Aw s⟩:Array Value))],[(e,50,(⟨Aw s⟩:Array Value))],[(j,50,(⟨Aw (0#64)⟩:Array Value))],[(h,50,(⟨Aw (0#64)⟩:Array Value))],[(f,50,(⟨Aw s⟩:Array Value))],(Rz n x_0 x_1 x_2 x_3 (hi x_4) (lo x_4)),[(p,35,(Ac m mv))],I] [0,1,2,3,4,5,6] rfl) ?_
   exact⟨((d[x_0.toNat]!).1)==([112,117,116,45,102,105,101,108,100]:List UInt8),a,Af rfl rfl⟩
  clear a;rintro t l ⟨K,a,⟨T,rfl⟩,rfl⟩
  unfold Cy at a
  refine aB a rfl (fun S a=> ?_) (fun S a=> ?_)
  ·refine Aa fun ap V=>Zx (Ls:=[[(g,50,(⟨Aw s⟩:Array Value))],[(e,50,(⟨Aw s⟩:Array Value))],[(j,50,(⟨Aw (0#64)⟩:Array Value))],[(h,50,(⟨Aw (0#64)⟩:Array Value))],[(f,50,(⟨Aw s⟩:Array Value))],(Rz n x_0 x_1 x_2 x_3 (hi x_4) (lo x_4)),[(p,35,(Ac m mv))]]) [(some 1000000000,true)] [] [3,2] [4,5] [(6,5)] (by decide+kernel) (fun q=>(ZI q 3 4 rfl rfl rfl rfl rfl AH)) (by decide+kernel) rfl trivial (fun hnb_=> ?_)
   refine ZS (vA (⟨Aw s⟩:Array Value)) 4 _ _ _ _ rfl rfl rfl rfl rfl (hnb_ f (List.mem_of_getElem? (i:=0) rfl))<|ZS (vA (⟨Aw s⟩:Array Value)) 4 _ _ _ _ rfl rfl rfl rfl rfl (hnb_ f (List.mem_of_getElem? (i:=0) rfl))<|rn 1 rfl<|ZS (vI x_1) 5 _ _ _ _ rfl rfl rfl rfl rfl (hnb_ n (List.mem_of_getElem? (i:=1) rfl))<|kC a fun W a=> ?_
   have D:=fun c=>ET (IS (P:=prog) (c:=c) (t:=50) (b:=f) (off:=0) (k:= .i64) rfl rfl rfl W)
   simp only [q6] at D
   have L:x_1.toNat<64:=by omega
   refine r_W (Value.pointer (some ⟨f,x_1.toNat,none⟩)) rfl (D _)<|ZS (vB ((s).getLsbD (x_1.toNat))) 4 _ _ _ _ rfl rfl rfl rfl (iz rfl _ L) (hnb_ f (List.mem_of_getElem? (i:=0) rfl))<|mY [(g,50,(⟨Aw s⟩:Array Value)),(e,50,(⟨Aw s⟩:Array Value)),(j,50,(⟨Aw (0#64)⟩:Array Value)),(h,50,(⟨Aw s⟩:Array Value)),(f,50,(⟨Aw s⟩:Array Value)),(n,41, #[vI x_0,vI x_1,vI x_2,vI x_3,U (hi x_4),U (lo x_4)]),(p,35,(Ac m mv))] 3 _ _ _ (⟨Aw (0#64)⟩:Array Value) (⟨Aw s⟩:Array Value) (⟨Aw s⟩:Array Value) rfl rfl rfl rfl (.of rfl rfl) rfl rfl (List.mem_of_getElem? (i:=0) rfl) ?_
   refine mY [(g,50,(⟨Aw s⟩:Array Value)),(e,50,(⟨Aw s⟩:Array Value)),(j,50,(⟨Aw s⟩:Array Value)),(h,50,(⟨Aw s⟩:Array Value)),(f,50,(⟨Aw s⟩:Array Value)),(n,41, #[vI x_0,vI x_1,vI x_2,vI x_3,U (hi x_4),U (lo x_4)]),(p,35,(Ac m mv))] 2 _ _ _ (⟨Aw (0#64)⟩:Array Value) (⟨Aw s⟩:Array Value) (⟨Aw s⟩:Array Value) rfl rfl rfl rfl (.of rfl rfl) rfl rfl (List.mem_of_getElem? (i:=1) rfl)<|rz rfl<|V _ _ ?_
   cases a
   refine Bi (fun q=>Tg (v0:=vT #[vA (⟨Aw s⟩:Array Value),vA (⟨Aw s⟩:Array Value),vB ((s).getLsbD (x_1.toNat))]) rfl (ff (AT q 3 rfl rfl rfl) (AT q 2 rfl rfl rfl) rfl))
  refine Ad<|r_W (vB (((d[x_0.toNat]!).1)==([115,104,111,119]:List UInt8))) rfl (Df rfl rfl)<|rz rfl<|aE a rfl (fun X a=> ?_) (fun X a=> ?_)
  ·refine Ag<|rm 2 [5] rfl<|kC a fun Y a=> ?_
   have E:=fun c=>ET (IS (P:=prog) (c:=c) (t:=50) (b:=e) (off:=0) (k:= .i64) rfl rfl rfl Y)
   simp only [q6] at E
   have v:x_1.toNat<64:=by omega
   refine r_W (Value.pointer (some ⟨e,x_1.toNat,none⟩)) rfl (E _)<|r_s [(g,50,(⟨Aw s⟩:Array Value)),(e,50,(⟨Aw (put64 s (x_1.toNat) true)⟩:Array Value)),(j,50,(⟨Aw (0#64)⟩:Array Value)),(h,50,(⟨Aw (0#64)⟩:Array Value)),(f,50,(⟨Aw s⟩:Array Value)),(n,41, #[vI x_0,vI x_1,vI x_2,vI x_3,U (hi x_4),U (lo x_4)]),(p,35,(Ac m mv))] 1 _ _ _ _ _ ((⟨Aw (put64 s (x_1.toNat) true)⟩:Array Value)) rfl rfl rfl rfl (NB rfl rfl _ _ v) (Km _ _ _ v) rfl<|Ak ?_
   refine fg _ (Sub.of (suK _ (suK _ (suK _ (suK _ (suC _ (suC _ (suC _ suN)))))))) ?_
   exact⟨s,put64 s (x_1.toNat) true,a,Af rfl rfl⟩
  refine Ad<|r_W (vB (((d[x_0.toNat]!).1)==([104,105,100,101]:List UInt8))) rfl (Df rfl rfl)<|rz rfl<|aE a rfl (fun Z a=> ?_) (fun Z a=> ?_)
  ·refine Ag<|rm 2 [5] rfl<|kC a fun aa a=> ?_
   have F:=fun c=>ET (IS (P:=prog) (c:=c) (t:=50) (b:=e) (off:=0) (k:= .i64) rfl rfl rfl aa)
   simp only [q6] at F
   have x:x_1.toNat<64:=by omega
   refine r_W (Value.pointer (some ⟨e,x_1.toNat,none⟩)) rfl (F _)<|r_s [(g,50,(⟨Aw s⟩:Array Value)),(e,50,(⟨Aw (put64 s (x_1.toNat) false)⟩:Array Value)),(j,50,(⟨Aw (0#64)⟩:Array Value)),(h,50,(⟨Aw (0#64)⟩:Array Value)),(f,50,(⟨Aw s⟩:Array Value)),(n,41, #[vI x_0,vI x_1,vI x_2,vI x_3,U (hi x_4),U (lo x_4)]),(p,35,(Ac m mv))] 1 _ _ _ _ _ ((⟨Aw (put64 s (x_1.toNat) false)⟩:Array Value)) rfl rfl rfl rfl (NB rfl rfl _ _ x) (Km _ _ _ x) rfl<|Ak ?_
   refine fg _ (Sub.of (suK _ (suK _ (suK _ (suK _ (suC _ (suC _ (suC _ suN)))))))) ?_
   exact⟨s,put64 s (x_1.toNat) false,a,Af rfl rfl⟩
  refine Ad<|r_W (vB (((d[x_0.toNat]!).1)==([112,117,115,104,45,104,101,97,100]:List UInt8))) rfl (Df rfl rfl)<|rz rfl<|aE a rfl (fun ab a=> ?_) (fun ab a=> ?_)
  ·refine Ag<|rm 6 [6,5,5,4] rfl<|kB a fun am ac a=>gV _ (cF Zr) (fun o w z_=>HK N m x_1 x_2 s _ ac z_.view mv (Aa2.mono z_.ro_cell hm))<|ry [1] rfl ?_
   refine fg _ (Sub.of (suK _ (suK _ (suK _ (suK _ (suC _ (suC _ (suC _ suN)))))))) ?_
   exact⟨s,am,a,Af rfl rfl⟩
  refine Ad<|r_W (vB (((d[x_0.toNat]!).1)==([112,111,112,45,104,101,97,100]:List UInt8))) rfl (Df rfl rfl)<|rz rfl<|aE a rfl (fun ad a=> ?_) (fun ad a=> ?_)
  ·refine Ag<|rm 5 [6,5,5] rfl<|kC a fun ae a=>rX ae rfl<|rm 1 [4] rfl<|kB a fun an af a=>gV _ (cF Zr) (fun o w z_=>HK N m x_1 (0 - x_2) s _ af z_.view mv (Aa2.mono z_.ro_cell hm))<|ry [1] rfl ?_
   refine fg _ (Sub.of (suK _ (suK _ (suK _ (suK _ (suC _ (suC _ (suC _ suN)))))))) ?_
   exact⟨s,an,a,Af rfl rfl⟩
  refine Ad<|r_W (vB (((d[x_0.toNat]!).1)==([106,117,109,112,45,103,111,110,101]:List UInt8))) rfl (Df rfl rfl)<|rz rfl<|aE a rfl (fun ag a=> ?_) (fun ag a=> ?_)
  ·refine Ad<|rm 2 [5] rfl<|kC a fun ah a=> ?_
   have G:=fun c=>ET (IS (P:=prog) (c:=c) (t:=50) (b:=e) (off:=0) (k:= .i64) rfl rfl rfl ah)
   simp only [q6] at G
   have y:x_1.toNat<64:=by omega
   refine r_W (Value.pointer (some ⟨e,x_1.toNat,none⟩)) rfl (G _)<|r_s [(g,50,(⟨Aw s⟩:Array Value)),(e,50,(⟨Aw (put64 s (x_1.toNat) true)⟩:Array Value)),(j,50,(⟨Aw (0#64)⟩:Array Value)),(h,50,(⟨Aw (0#64)⟩:Array Value)),(f,50,(⟨Aw s⟩:Array Value)),(n,41, #[vI x_0,vI x_1,vI x_2,vI x_3,U (hi x_4),U (lo x_4)]),(p,35,(Ac m mv))] 1 _ _ _ _ _ ((⟨Aw (put64 s (x_1.toNat) true)⟩:Array Value)) rfl rfl rfl rfl (NB rfl rfl _ _ y) (Km _ _ _ y) rfl<|Ak<|Ag<|rm 2 [5] rfl<|kC a fun ai a=> ?_
   have H:=fun c=>ET (IS (P:=prog) (c:=c) (t:=50) (b:=g) (off:=0) (k:= .i64) rfl rfl rfl ai)
   simp only [q6] at H
   have z:x_1.toNat<64:=by omega
   refine r_W (Value.pointer (some ⟨g,x_1.toNat,none⟩)) rfl (H _)<|r_s [(g,50,(⟨Aw (put64 s (x_1.toNat) false)⟩:Array Value)),(e,50,(⟨Aw (put64 s (x_1.toNat) true)⟩:Array Value)),(j,50,(⟨Aw (0#64)⟩:Array Value)),(h,50,(⟨Aw (0#64)⟩:Array Value)),(f,50,(⟨Aw s⟩:Array Value)),(n,41, #[vI x_0,vI x_1,vI x_2,vI x_3,U (hi x_4),U (lo x_4)]),(p,35,(Ac m mv))] 0 _ _ _ _ _ ((⟨Aw (put64 s (x_1.toNat) false)⟩:Array Value)) rfl rfl rfl rfl (NB rfl rfl _ _ z) (Km _ _ _ z) rfl<|Ak ?_
   refine fg _ (Sub.of (suK _ (suK _ (suK _ (suK _ (suC _ (suC _ (suC _ suN)))))))) ?_
   exact⟨put64 s (x_1.toNat) false,put64 s (x_1.toNat) true,a,Af rfl rfl⟩
  refine Ab<|fg _ (Sub.of (suK _ (suK _ (suK _ (suK _ (suC _ (suC _ (suC _ suN)))))))) ?_
  exact⟨s,s,a,Af rfl rfl⟩
 clear a;rintro t l ⟨A,B,a,⟨T,rfl⟩,rfl⟩
 unfold BF at a
 refine Aa fun aq aj=>Hb [(6,10)] (by decide+kernel) (fun q=>(ZI q 3 0 rfl rfl rfl rfl rfl AH))<|rm 3 [1,0,3] rfl ?_
 refine ry [2] rfl<|aj _ _ ?_
 cases a
 refine Bi (fun q=>Tg (v0:=vT #[vA (⟨Aw B⟩:Array Value),vA (⟨Aw A⟩:Array Value),vB true]) rfl (ff (AT q 3 rfl rfl rfl) (AT q 2 rfl rfl rfl) rfl))
def GA(N:Nat)(d:Int):Nat→BitVec 64→Int→Option (BitVec 64)
  |0,_,_=>none
  |e+1,b,a=>if a<min d 64 then(EU N b a).bind fun c=>ck (R64 (a+1)) ((GA N d e) c (a+1))else some b
def Jd(N:Nat)(m:An):Option (BitVec 64):=(LL N m.2.2.1).bind fun a=>GA N a N (0#64) 0
theorem WG(N m r)(a:Jd N m=some r)(ro)(mv:Ay)(hm:Aa2 ro mv m):Does prog 13 #[vA (Ac m mv)] ro [] (pV (U r)):=by
 unfold Jd at a
 refine Aj follows func13 rfl 17 rfl _ fz1 (fun j=> ?_)
 refine Ad<|rA rfl fun v=>rz rfl<|AZ rfl<|Aa fun x k=>Ad<|rm 2 [0] rfl<|kB a fun n p a=>gV _ (cF Zm) (fun o w z_=>Se N m.2.2.1 _ p z_.view mv.2.1 ((Au hm.2.1) o w z_))<|r_W (vI (min n 64)) rfl (cX rfl rfl)<|rz rfl<|Ah<|Bo [] (Sub.of (suC _ suN))<|AC (fun tt ll nn=> ∃(d:Nat) (c:BitVec 64) (b:Int),(GA N n d c b=some r)∧Is [(3,U c),(8,vI (min n 64)),(9,vI b)] [] tt ll∧nn=d+1) (N+1) ?_ ?_
 ·exact⟨N,0#64,0,a,Af rfl rfl,rfl⟩
 clear a;rintro t l _ ⟨d,c,b,a,⟨⟨T,rfl⟩,rfl⟩,rfl⟩
 rcases d with _|d
 ·exact absurd a (by simp [GA])
 rw [GA] at a
 refine AZ rfl<|Aa fun s e=>aD a rfl (fun f a=> ?_) (fun f a=> ?_)
 ·refine Ab<|e _ _ ?_
  refine Aa fun u g=>Ah<|AZ rfl<|Ag<|rn 2 rfl<|kB a fun q h a=>rc _ (cF TR) (Jh N c b _ h)<|rz rfl<|g _ _ ?_
  refine Ag<|kC a fun i a=>rX i rfl<|rz rfl<|fg _ (Sub.of suN) ?_
  exact⟨d+1,by omega,d,q,(b+1),a,Af rfl rfl,rfl⟩
 refine AD<|k _ _ ?_
 refine AZ rfl ?_
 cases a
 exact aR eV1
end Go.Proofs.YthmpbldidnmenaaGreatDoor
