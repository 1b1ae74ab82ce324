import Derived.Test.YthmpbldidnmenaaGreatDoorBc
namespace Go.Proofs.YthmpbldidnmenaaGreatDoor
open Go Go.RowKit Go.Eng _root_.Go.Proofs.Tryz
set_option linter.unusedSimpArgs false
set_option linter.unusedVariables false
set_option maxRecDepth 100000
set_option maxHeartbeats 80000000
abbrev AU(b:Nat)(x0:Int)(x1:BitVec 64)(x2:BitVec 64):List Bl:=[(b,39, #[vI x0,U x1,U x2])]
def Fl(c:List Bool)(d:Int)(a:List Bool→Bool→Int→Option (Int×(BitVec 128)×Int))(e:Int)(b:Bool):Option (Int×(BitVec 128)×Int):=ck ((c).length+([b]).length≤140737488355328) (ck (R64 (d+1)) (a (c++([b])) (decide (e≥2)) (d+1)))
def Eg(h:List UInt8)(g:List Bool)(b:List Bool)(e:Int)(a:List Bool→Bool→Int→Option (Int×(BitVec 128)×Int))(f:Bool)(d:Int)(c:Bool):Option (Int×(BitVec 128)×Int):=if h=([120,111,114]:List UInt8)then Fl b e a d ((g[e.toNat]!) !=f)else Fl b e a d c
def Eh(h:List UInt8)(e:List Bool)(c:List Bool)(f:Int)(a:List Bool→Bool→Int→Option (Int×(BitVec 128)×Int))(b:Bool)(d:Int)(g:Bool):Option (Int×(BitVec 128)×Int):=if h=([111,114]:List UInt8)then if(e[f.toNat]!)=true then Eg h e c f a b d true else Eg h e c f a b d b else Eg h e c f a b d g
def Fm(g:List UInt8)(e:List Bool)(d:List Bool)(f:Int)(a:List Bool→Bool→Int→Option (Int×(BitVec 128)×Int))(c:Bool)(b:Int):Option (Int×(BitVec 128)×Int):=ck (0≤b∧b≤9223372036854775807) (if g=([97,110,100]:List UInt8)then if(e[f.toNat]!)=true then Eh g e d f a c b c else Eh g e d f a c b false else Eh g e d f a c b ((b%2:Int)==1))
def Fo(h:List UInt8)(f:List Bool)(c:List Bool)(d:Bool)(g:Int)(a:List Bool→Bool→Int→Option (Int×(BitVec 128)×Int))(e:Bool)(b:Int):Option (Int×(BitVec 128)×Int):=if d=true then ck (R64 (b+1)) (Fm h f c g a e (b+1))else Fm h f c g a e b
def Fp(h:List UInt8)(f:List Bool)(e:List Bool)(b:Bool)(g:Int)(a:List Bool→Bool→Int→Option (Int×(BitVec 128)×Int))(d:Bool)(c:Int):Option (Int×(BitVec 128)×Int):=if d=true then ck (R64 (c+1)) (Fo h f e b g a d (c+1))else Fo h f e b g a d c
def Fq(g:List UInt8)(e:List Bool)(c:List Bool)(b:Bool)(f:Int)(a:List Bool→Bool→Int→Option (Int×(BitVec 128)×Int))(d:Bool):Option (Int×(BitVec 128)×Int):=if(e[f.toNat]!)=true then Fp g e c b f a d 1 else Fp g e c b f a d 0
def Fk(h:List UInt8)(e:List Bool)(f:List Bool)(d:List Bool)(b:Bool)(c:Int)(a:List Bool→Bool→Int→Option (Int×(BitVec 128)×Int))(g:Bool):Option (Int×(BitVec 128)×Int):=if g=true then Fq h e d b c a (!(f[c.toNat]!))else Fq h e d b c a (f[c.toNat]!)
def Fi(b:Int)(a:List Bool→Int→Option (Int×(BitVec 128)×Int))(c:List Bool)(d:Bool):Option (Int×(BitVec 128)×Int):=if d=true then ck (0≤b∧b<(c.length:Int)) (ck (R64 (b+1)) (a ((c).set (b.toNat) false) (b+1)))else ck (R64 (b+1)) (a c (b+1))
def Fj(e:List UInt8)(d:Bool)(c:Int)(a:List Bool→Int→Option (Int×(BitVec 128)×Int))(b:List Bool):Option (Int×(BitVec 128)×Int):=if e=([115,117,98,115,97,116]:List UInt8)then Fi c a b d else Fi c a b false
def Fh(f:List UInt8)(d:Bool)(b:List Bool)(c:Int)(a:List Bool→Int→Option (Int×(BitVec 128)×Int))(e:Bool):Option (Int×(BitVec 128)×Int):=if e=true then ck (0≤c∧c<(b.length:Int)) (Fj f d c a ((b).set (c.toNat) true))else Fj f d c a b
def AN(N:Nat)(f:List UInt8)(b:Bool)(c:Bool):Nat→List Bool→Int→Option (Int×(BitVec 128)×Int)
  |0,_,_=>none
  |g+1,a,d=>if d<(a.length:Int)then if f=([97,100,100,115,97,116]:List UInt8)then Fh f b a d (AN N f b c g) c else Fh f b a d (AN N f b c g) false else(GF N a).bind fun e=>some (e.1,e.2,0)
def AA(N:Nat)(g:List UInt8)(d:List Bool)(f:List Bool)(b:Bool):Nat→List Bool→Bool→Int→Option (Int×(BitVec 128)×Int)
  |0,_,_,_=>none
  |h+1,e,a,c=>if c<(d.length:Int)then ck (0≤c∧c<(d.length:Int)) (ck (0≤c∧c<(f.length:Int)) (if g=([115,117,98]:List UInt8)then Fk g d f e a c (AA N g d f b h) true else Fk g d f e a c (AA N g d f b h) (g==([115,117,98,115,97,116]:List UInt8))))else AN N g b a N e 0
def GP(N:Nat)(e:List UInt8)(c:List Bool)(d:List Bool)(a:Bool)(b:Bool):Option (Int×(BitVec 128)×Int):=AA N e c d a N ([]) b 0
def BB(N:Nat)(e:List UInt8)(d:List Bool)(c:List Bool):Nat→Bool→Bool→Int→Option (Int×(BitVec 128)×Int)
  |0,_,_,_=>none
  |h+1,b,f,a=>if a<(d.length:Int)then ck (0≤a∧a<(d.length:Int)) (ck (0≤a∧a<(c.length:Int)) (if(d[a.toNat]!)≠(c[a.toNat]!)then ck (0≤a∧a<(c.length:Int)) (ck (R64 (a+1)) ((BB N e d c h) (c[a.toNat]!) false (a+1)))else ck (R64 (a+1)) ((BB N e d c h) b f (a+1))))else if e=([101,113]:List UInt8)then(GF N ([f])).bind fun i=>some (i.1,i.2,0)else if e=([108,101,115,115]:List UInt8)then(GF N ([b])).bind fun g=>some (g.1,g.2,0)else if e=([115,117,98]:List UInt8)then GP N e d c b true else GP N e d c b (e==([115,117,98,115,97,116]:List UInt8))
def FR(N:Nat)(g:List UInt8)(b:Int)(d:BitVec 128)(a:Int)(f:BitVec 128)(h:Bool):Option (Int×(BitVec 128)×Int):=if h=true then some (0,(0#64)++(0#64),1)else if(b:Int)≠a then some (0,(0#64)++(0#64),9)else(EJ N b d).bind fun c=>(EJ N a f).bind fun e=>BB N g c e N false true 0
def GU(N:Nat)(f:List UInt8)(b:Int)(c:BitVec 128)(a:Int)(d:BitVec 128):Option (Int×(BitVec 128)×Int):=(Co N b c).bind fun g=>if g=true then(Co N a d).bind fun e=>FR N f b c a d (!(e))else FR N f b c a d true
theorem QM(N op a_0 a_1 b_0 b_1 r)(a:GU N op a_0 a_1 b_0 b_1=some r):Gives prog 113 #[vS op,vA #[vI a_0,U (hi a_1),U (lo a_1)],vA #[vI b_0,U (hi b_1),U (lo b_1)]] (vT #[vA #[vI r.1,U (hi r.2.1),U (lo r.2.1)],vI r.2.2]):=by
 unfold GU at a
 refine As follows func113 rfl 156 rfl _ fz3 (fun cv=> ?_)
 refine Ad<|rA rfl fun b2=>rA rfl fun b3=>rA rfl fun h=>rz rfl<|Aa fun K5 cy=>Aa fun K6 cz=>Ag<|rm 1 [2] rfl<|kB a fun r7 da a=>rc _ (cF Qr) (Gi N a_0 a_1 _ da)<|rn 2 rfl<|AG 4 28 [(0,vS op),(4,vP b2 0),(5,vP b3 0),(6,vP h 0)] vB (fun b_=>FR N op a_0 a_1 b_0 b_1 b_=some r) (fun b9 a T=> ?_) (fun H=> ?_)
 ·unfold FR at a
  refine Ak<|cz _ _ ?_
  refine aB a rfl (fun bl a=> ?_) (fun bl a=> ?_)
  ·refine Ad<|r_W (vA #[vI 0,U (0#64),U (0#64)]) rfl (Ap rfl rfl rfl rfl)<|ry [0] rfl ?_
   cases a
   refine Bi (fun W=>Ec (v0:=vT #[vA #[vI 0,U (0#64),U (0#64)],vI 1]) (by first|rfl|(simp only [Bn];done)|simp only [Bn]) (Jz (AT W 0 rfl rfl rfl) rfl))
  refine Ab<|cy _ _ ?_
  refine Aa fun dx bm=>AY [2,1] rfl<|aN a rfl (fun bn a=> ?_) (fun bn a=> ?_)
  ·refine Ad<|r_W (vA #[vI 0,U (0#64),U (0#64)]) rfl (Ap rfl rfl rfl rfl)<|ry [0] rfl ?_
   cases a
   refine Bi (fun W=>Ec (v0:=vT #[vA #[vI 0,U (0#64),U (0#64)],vI 9]) (by first|rfl|(simp only [Bn];done)|simp only [Bn]) (Jz (AT W 0 rfl rfl rfl) rfl))
  refine Ab<|bm _ _ ?_
  refine Aa fun dy bo=>Bw [(some 37,false),(some 39,false)] (conG prog [(37,fun _ _ v_ L_ U_=> ∀X,EJ N a_0 a_1=some X→(p1 (fun s_=>s_) 4 Pa X) v_ L_ U_),(39,fun _ _ v_ L_ U_=> ∀X,EJ N b_0 b_1=some X→(p1 (fun s_=>s_) 4 Pa X) v_ L_ U_)]) [] (by decide+kernel) (fun W=>AH)<|rm 1 [2] rfl<|kB a fun j ah a=>Ym (Ls:=[(AU h 0 (0#64) (0#64)),(AU b3 b_0 (hi b_1) (lo b_1)),(AU b2 a_0 (hi a_1) (lo a_1))]) (fun E=>E) 4 Pa j 164 _ rfl rfl rfl (cF bE) (fun o w z_=>Lu N a_0 a_1 _ ah z_.view) (GB ah) (fun E f S=> ?_)
  refine rm 1 [1] rfl<|kB a fun A ai a=>Ym (Ls:=[(AU h 0 (0#64) (0#64)),(AU b3 b_0 (hi b_1) (lo b_1)),(AU b2 a_0 (hi a_1) (lo a_1)),f]) (fun F=>F) 4 Pa A 164 _ rfl rfl rfl (cF bE) (fun o w z_=>Lu N b_0 b_1 _ ai z_.view) (GB ai) (fun F g V=> ?_)
  refine rz rfl<|bo _ _ ?_
  refine AZ rfl<|Aa fun dz bp=>AZ rfl<|Ah<|Bo _ (Sub.pick [(AU h 0 (0#64) (0#64)),(AU b3 b_0 (hi b_1) (lo b_1)),(AU b2 a_0 (hi a_1) (lo a_1)),f,g] [0,3,4] rfl)<|AC (fun tt ll nn=> ∃(M:Nat) (b:Bool) (B:Bool) (O:Int),(BB N op j A M b B O=some r)∧Is [(0,vS op),(6,vP h 0),(8,E),(9,F),(10,vB b),(11,vB B),(12,vI O)] (List.flatten [(AU h 0 (0#64) (0#64)),f,g]) tt ll∧nn=M+1) (N+1) ?_ ?_
  ·exact⟨N,false,true,0,a,Af rfl (by first|rfl|simp only [Bn]),rfl⟩
  clear a;rintro t l _ ⟨M,b,B,O,a,⟨⟨T,rfl⟩,rfl⟩,rfl⟩
  rcases M with _|M
  ·exact absurd a (by simp [BB])
  rw [BB] at a
  refine Aa fun ea bq=>Ad<|rn 2 rfl<|rL (Sl.shp S) rfl<|rz rfl<|aD a rfl (fun br a=> ?_) (fun br a=> ?_)
  ·refine Ab<|bq _ _ ?_
   refine Aa fun eb aj=>Ah<|Aa fun ec bs=>Hb [] (by decide+kernel) (fun W=>AH)<|rn 2 rfl<|kC a fun ak a=>rI (Sl.shp S) ak rfl<|rE (Av S (Ai (Ls:=[(AU h 0 (0#64) (0#64)),f,g]) (k:=1) rfl rfl)) ak 0 rfl<|rn 2 rfl<|kC a fun al a=>rI (Sl.shp V) al rfl<|rE (Av V (Ai (Ls:=[(AU h 0 (0#64) (0#64)),f,g]) (k:=2) rfl rfl)) al 0 rfl<|r_W (vB ((j[O.toNat]!) !=(A[O.toNat]!))) rfl (aU rfl rfl rfl)<|Ak<|bs _ _ ?_
   refine aN a rfl (fun bt a=> ?_) (fun bt a=> ?_)
   ·refine Ad<|rn 2 rfl<|kC a fun am a=>rI (Sl.shp V) am rfl<|rE (Av V (Ai (Ls:=[(AU h 0 (0#64) (0#64)),f,g]) (k:=2) rfl rfl)) am 0 rfl<|rz rfl<|Ag<|rz rfl<|aj _ _ ?_
    refine Ag<|rn 1 rfl<|kC a fun bu a=>rX bu rfl<|rz rfl<|fg _ (Sub.pick [(AU h 0 (0#64) (0#64)),f,g] [0,1,2] rfl) ?_
    exact⟨M+1,by omega,M,A[O.toNat]!,false,(O+1),a,Af rfl (by first|rfl|simp only [Bn]),rfl⟩
   refine Ab<|aj _ _ ?_
   refine Ag<|rn 1 rfl<|kC a fun bv a=>rX bv rfl<|rz rfl<|fg _ (Sub.pick [(AU h 0 (0#64) (0#64)),f,g] [0,1,2] rfl) ?_
   exact⟨M+1,by omega,M,b,B,(O+1),a,Af rfl (by first|rfl|simp only [Bn]),rfl⟩
  refine AD<|bp _ _ ?_
  refine Aa fun ed bw=>Ad<|rn 1 rfl<|r_W (vB (op==([101,113]:List UInt8))) rfl (Df rfl rfl)<|Ak<|aE a rfl (fun bx a=> ?_) (fun bx a=> ?_)
  ·refine Ad<|rn 1 rfl<|gB (Ls:=[(AU h 0 (0#64) (0#64)),f,g]) 4 Pa [B] (fun db dc dd=> ?_)
   refine kB a fun au bz a=>gV _ (cF VE) (fun o w z_=>Jw N ([B]) _ bz z_.view db ((Av dd (Ai (Ls:=[(AU h 0 (0#64) (0#64)),f,g,dc]) (k:=3) rfl rfl)) o w z_))<|ry [0] rfl ?_
   cases a
   refine Bi (fun W=>Ec (v0:=vT #[vA #[vI au.1,U (hi au.2),U (lo au.2)],vI 0]) rfl (Jz (AT W 0 rfl rfl rfl) rfl))
  refine Ab<|bw _ _ ?_
  refine Aa fun ee ca=>Ad<|rn 1 rfl<|r_W (vB (op==([108,101,115,115]:List UInt8))) rfl (Df rfl rfl)<|Ak<|aE a rfl (fun cb a=> ?_) (fun cb a=> ?_)
  ·refine Ad<|rn 1 rfl<|gB (Ls:=[(AU h 0 (0#64) (0#64)),f,g]) 4 Pa [b] (fun de df dg=> ?_)
   refine kB a fun av cc a=>gV _ (cF VE) (fun o w z_=>Jw N ([b]) _ cc z_.view de ((Av dg (Ai (Ls:=[(AU h 0 (0#64) (0#64)),f,g,df]) (k:=3) rfl rfl)) o w z_))<|ry [0] rfl ?_
   cases a
   refine Bi (fun W=>Ec (v0:=vT #[vA #[vI av.1,U (hi av.2),U (lo av.2)],vI 0]) rfl (Jz (AT W 0 rfl rfl rfl) rfl))
  refine Ab<|ca _ _ ?_
  refine AZ rfl<|Aa fun ef cd=>Ag<|rn 1 rfl<|r_W (vB (op==([115,117,98]:List UInt8))) rfl (Df rfl rfl)<|rn 1 rfl<|AG 3 74 [(0,vS op),(6,vP h 0),(8,E),(9,F),(10,vB b),(13,nS)] vB (fun b_=>GP N op j A b b_=some r) (fun dh a T=> ?_) (fun H=> ?_)
  ·unfold GP at a
   refine rz rfl<|cd _ _ ?_
   refine Aa fun eg ce=>AZ rfl<|Ah<|Bo _ (Sub.pickE (Ls:=[(AU h 0 (0#64) (0#64)),f,g,[]]) (Ls0:=[(AU h 0 (0#64) (0#64)),f,g]) rfl [0,1,2,3] rfl) ?_
   refine AC (fun tt ll nn=> ∃(C:Nat) (m:List Bool) (d:Bool) (i:Int),(AA N op j A b C m d i=some r)∧ ∃(e:Value) (c:List Bl),Sl 4 Pa e m c∧Is [(0,vS op),(6,vP h 0),(8,E),(9,F),(10,vB b),(13,e),(14,vB d),(15,vI i)] (List.flatten [(AU h 0 (0#64) (0#64)),f,g,c]) tt ll∧nn=C+1) (N+1) ?_ ?_
   ·exact⟨N,[],dh,0,a,nS,[],Sl.nil,Af rfl (by first|rfl|simp only [Bn]),rfl⟩
   clear a;rintro t l _ ⟨C,m,d,i,a,e,c,R,⟨⟨T,rfl⟩,rfl⟩,rfl⟩
   rcases C with _|C
   ·exact absurd a (by simp [AA])
   rw [AA] at a
   refine Aa fun eh cf=>Ad<|rn 2 rfl<|rL (Sl.shp S) rfl<|rz rfl<|aD a rfl (fun cg a=> ?_) (fun cg a=> ?_)
   ·refine Ab<|cf _ _ ?_
    refine Aa fun ei ch=>Ah<|Aa fun ej ci=>Hb [] (by decide+kernel) (fun W=>AH)<|rn 2 rfl<|kC a fun an a=>rI (Sl.shp S) an rfl<|rE (Av S (Ai (Ls:=[(AU h 0 (0#64) (0#64)),f,g,c]) (k:=1) rfl rfl)) an 0 rfl<|rn 2 rfl<|kC a fun ao a=>rI (Sl.shp V) ao rfl<|rE (Av V (Ai (Ls:=[(AU h 0 (0#64) (0#64)),f,g,c]) (k:=2) rfl rfl)) ao 0 rfl<|rz rfl<|ci _ _ ?_
    refine BR (fun tt ll=> ∃(p:Bool),(Fq op j m d i (AA N op j A b C) p=some r)∧Is [(0,vS op),(6,vP h 0),(8,E),(9,F),(10,vB b),(13,e),(14,vB d),(15,vI i),(16,vB (j[i.toNat]!)),(17,vB p)] (List.flatten [(AU h 0 (0#64) (0#64)),f,g,c]) tt ll) ?_ ?_
    ·refine Aa fun dl aw=>Ag<|rn 1 rfl<|r_W (vB (op==([115,117,98]:List UInt8))) rfl (Df rfl rfl)<|rn 1 rfl<|AG 3 94 [(0,vS op),(6,vP h 0),(8,E),(9,F),(10,vB b),(13,e),(14,vB d),(15,vI i),(16,vB (j[i.toNat]!)),(17,vB (A[i.toNat]!))] vB (fun b_=>Fk op j A m d i (AA N op j A b C) b_=some r) (fun dm a T=> ?_) (fun H=> ?_)
     ·unfold Fk at a
      refine Ak<|aw _ _ ?_
      refine aB a rfl (fun ax a=> ?_) (fun ax a=> ?_)
      ·refine Ag<|rz rfl<|fg _ (Sub.pick [(AU h 0 (0#64) (0#64)),f,g,c] [0,1,2,3] rfl) ?_
       exact⟨!(A[i.toNat]!),a,Af rfl (by first|rfl|simp only [Bn])⟩
      refine Ab<|fg _ (Sub.pick [(AU h 0 (0#64) (0#64)),f,g,c] [0,1,2,3] rfl) ?_
      exact⟨A[i.toNat]!,a,Af rfl (by first|rfl|simp only [Bn])⟩
     rcases Y:(op==([115,117,98]:List UInt8))with _|_
     ·replace a:=iG Y a
      refine rn 1 rfl<|r_y rfl<|r_W (vB (op==([115,117,98,115,97,116]:List UInt8))) rfl (Df rfl rfl)<|rn 1 rfl ?_
      first|exact H _ _ a rfl rfl|exact lx_cn _ _ (H _ _ a rfl rfl)
     replace a:=iE Y a
     refine rn 3 rfl ?_
     first|exact H _ _ a rfl rfl|exact lx_cn _ _ (H _ _ a rfl rfl)
    clear a;rintro t l ⟨p,a,⟨T,rfl⟩,rfl⟩
    unfold Fq at a
    refine AZ rfl<|BR (fun tt ll=> ∃(P:Int),(Fp op j m d i (AA N op j A b C) p P=some r)∧Is [(0,vS op),(6,vP h 0),(8,E),(9,F),(10,vB b),(13,e),(14,vB d),(15,vI i),(16,vB (j[i.toNat]!)),(17,vB p),(18,vI P)] (List.flatten [(AU h 0 (0#64) (0#64)),f,g,c]) tt ll) ?_ ?_
    ·refine AZ rfl<|aB a rfl (fun ay a=> ?_) (fun ay a=> ?_)
     ·refine Ag<|rn 1 rfl<|r_X (vI 1) rfl (Qu rfl (by decide) (by decide)) rfl<|rz rfl<|fg _ (Sub.pick [(AU h 0 (0#64) (0#64)),f,g,c] [0,1,2,3] rfl) ?_
      exact⟨1,a,Af rfl (by first|rfl|simp only [Bn])⟩
     refine Ab<|fg _ (Sub.pick [(AU h 0 (0#64) (0#64)),f,g,c] [0,1,2,3] rfl) ?_
     exact⟨0,a,Af rfl (by first|rfl|simp only [Bn])⟩
    clear a;rintro t l ⟨P,a,⟨T,rfl⟩,rfl⟩
    unfold Fp at a
    refine BR (fun tt ll=> ∃(Q:Int),(Fo op j m d i (AA N op j A b C) p Q=some r)∧Is [(0,vS op),(6,vP h 0),(8,E),(9,F),(10,vB b),(13,e),(14,vB d),(15,vI i),(16,vB (j[i.toNat]!)),(17,vB p),(18,vI Q)] (List.flatten [(AU h 0 (0#64) (0#64)),f,g,c]) tt ll) ?_ ?_
    ·refine AZ rfl<|aB a rfl (fun cj a=> ?_) (fun cj a=> ?_)
     ·refine Ag<|rn 1 rfl<|kC a fun ck a=>rX ck rfl<|rz rfl<|fg _ (Sub.pick [(AU h 0 (0#64) (0#64)),f,g,c] [0,1,2,3] rfl) ?_
      exact⟨(P+1),a,Af rfl (by first|rfl|simp only [Bn])⟩
     refine Ab<|fg _ (Sub.pick [(AU h 0 (0#64) (0#64)),f,g,c] [0,1,2,3] rfl) ?_
     exact⟨P,a,Af rfl (by first|rfl|simp only [Bn])⟩
    clear a;rintro t l ⟨Q,a,⟨T,rfl⟩,rfl⟩
    unfold Fo at a
    refine BR (fun tt ll=> ∃(y:Int),(Fm op j m i (AA N op j A b C) p y=some r)∧Is [(0,vS op),(6,vP h 0),(8,E),(9,F),(10,vB b),(13,e),(15,vI i),(16,vB (j[i.toNat]!)),(17,vB p),(18,vI y)] (List.flatten [(AU h 0 (0#64) (0#64)),f,g,c]) tt ll) ?_ ?_
    ·refine AZ rfl<|aB a rfl (fun cl a=> ?_) (fun cl a=> ?_)
     ·refine Ag<|rn 1 rfl<|kC a fun cm a=>rX cm rfl<|rz rfl<|fg _ (Sub.pick [(AU h 0 (0#64) (0#64)),f,g,c] [0,1,2,3] rfl) ?_
      exact⟨(Q+1),a,Af rfl (by first|rfl|simp only [Bn])⟩
     refine Ab<|fg _ (Sub.pick [(AU h 0 (0#64) (0#64)),f,g,c] [0,1,2,3] rfl) ?_
     exact⟨Q,a,Af rfl (by first|rfl|simp only [Bn])⟩
    clear a;rintro t l ⟨y,a,⟨T,rfl⟩,rfl⟩
    unfold Fm at a
    refine Ad<|rn 1 rfl<|kC a fun cn a=>r_X (vI (y%2)) rfl (Rr cn.1) rfl<|rz rfl<|AZ rfl<|BR (fun tt ll=> ∃(I:Bool),(Eh op j m i (AA N op j A b C) p y I=some r)∧Is [(0,vS op),(6,vP h 0),(8,E),(9,F),(10,vB b),(13,e),(14,vB (decide (y≥2))),(15,vI i),(16,vB (j[i.toNat]!)),(17,vB p),(19,vB I)] (List.flatten [(AU h 0 (0#64) (0#64)),f,g,c]) tt ll) ?_ ?_
    ·refine Ad<|rn 1 rfl<|r_W (vB (op==([97,110,100]:List UInt8))) rfl (Df rfl rfl)<|Ak<|aE a rfl (fun co a=> ?_) (fun co a=> ?_)
     ·refine Ag<|rn 2 rfl ?_
      rcases K:(j[i.toNat]!)with _|_
      ·replace a:=iB K a
       refine rz rfl<|fg _ (Sub.pick [(AU h 0 (0#64) (0#64)),f,g,c] [0,1,2,3] rfl) ?_
       exact⟨false,a,Af (by first|rfl|(simp only [K];done)|(simp only [K];rfl)|(simp only [Bn];rfl)) (by first|rfl|simp only [Bn])⟩
      replace a:=ifp K a
      refine rz rfl<|fg _ (Sub.pick [(AU h 0 (0#64) (0#64)),f,g,c] [0,1,2,3] rfl) ?_
      exact⟨p,a,Af (by first|rfl|(simp only [K];done)|(simp only [K];rfl)|(simp only [Bn];rfl)) (by first|rfl|simp only [Bn])⟩
     refine Ab<|fg _ (Sub.pick [(AU h 0 (0#64) (0#64)),f,g,c] [0,1,2,3] rfl) ?_
     exact⟨((y%2:Int)==1),a,Af rfl (by first|rfl|simp only [Bn])⟩
    clear a;rintro t l ⟨I,a,⟨T,rfl⟩,rfl⟩
    unfold Eh at a
    refine BR (fun tt ll=> ∃(J:Bool),(Eg op j m i (AA N op j A b C) p y J=some r)∧Is [(0,vS op),(6,vP h 0),(8,E),(9,F),(10,vB b),(13,e),(14,vB (decide (y≥2))),(15,vI i),(16,vB (j[i.toNat]!)),(17,vB p),(19,vB J)] (List.flatten [(AU h 0 (0#64) (0#64)),f,g,c]) tt ll) ?_ ?_
    ·refine Ad<|rn 1 rfl<|r_W (vB (op==([111,114]:List UInt8))) rfl (Df rfl rfl)<|Ak<|aE a rfl (fun cp a=> ?_) (fun cp a=> ?_)
     ·refine Ag<|rn 2 rfl ?_
      rcases L:(j[i.toNat]!)with _|_
      ·replace a:=iB L a
       refine rz rfl<|fg _ (Sub.pick [(AU h 0 (0#64) (0#64)),f,g,c] [0,1,2,3] rfl) ?_
       exact⟨p,a,Af (by first|rfl|(simp only [L];done)|(simp only [L];rfl)|(simp only [Bn];rfl)) (by first|rfl|simp only [Bn])⟩
      replace a:=ifp L a
      refine rz rfl<|fg _ (Sub.pick [(AU h 0 (0#64) (0#64)),f,g,c] [0,1,2,3] rfl) ?_
      exact⟨true,a,Af (by first|rfl|(simp only [L];done)|(simp only [L];rfl)|(simp only [Bn];rfl)) (by first|rfl|simp only [Bn])⟩
     refine Ab<|fg _ (Sub.pick [(AU h 0 (0#64) (0#64)),f,g,c] [0,1,2,3] rfl) ?_
     exact⟨I,a,Af rfl (by first|rfl|simp only [Bn])⟩
    clear a;rintro t l ⟨J,a,⟨T,rfl⟩,rfl⟩
    unfold Eg at a
    refine BR (fun tt ll=> ∃(D:Bool),(Fl m i (AA N op j A b C) y D=some r)∧Is [(0,vS op),(6,vP h 0),(8,E),(9,F),(10,vB b),(13,e),(14,vB (decide (y≥2))),(15,vI i),(19,vB D)] (List.flatten [(AU h 0 (0#64) (0#64)),f,g,c]) tt ll) ?_ ?_
    ·refine Ad<|rn 1 rfl<|r_W (vB (op==([120,111,114]:List UInt8))) rfl (Df rfl rfl)<|Ak<|aE a rfl (fun cq a=> ?_) (fun cq a=> ?_)
     ·refine Ag<|rn 2 rfl<|r_W (vB ((j[i.toNat]!) !=p)) rfl (aU rfl rfl rfl)<|rz rfl<|fg _ (Sub.pick [(AU h 0 (0#64) (0#64)),f,g,c] [0,1,2,3] rfl) ?_
      exact⟨(j[i.toNat]!) !=p,a,Af rfl (by first|rfl|simp only [Bn])⟩
     refine Ab<|fg _ (Sub.pick [(AU h 0 (0#64) (0#64)),f,g,c] [0,1,2,3] rfl) ?_
     exact⟨J,a,Af rfl (by first|rfl|simp only [Bn])⟩
    clear a;rintro t l ⟨D,a,⟨T,rfl⟩,rfl⟩
    unfold Fl at a
    refine Ag<|rn 2 rfl<|gB (Ls:=[(AU h 0 (0#64) (0#64)),f,g,c]) 4 Pa [D] (fun ek az di=> ?_)
    refine kC a fun ap a=>cC 131<|JB (cs0:=[]) (Ls:=[(AU h 0 (0#64) (0#64)),f,g,c,az]) 3 (En:=Pa) rfl rfl rfl rfl rfl R rfl (Av di (Ai (Ls:=[(AU h 0 (0#64) (0#64)),f,g,c,az]) (k:=4) rfl rfl)) rfl rfl rfl rfl rfl (Ke ap rfl) (Kc ap rfl) rfl (fun dj cr dk=> ?_)
    refine rz rfl<|ch _ _ ?_
    refine Ag<|rn 1 rfl<|kC a fun cs a=>rX cs rfl<|rz rfl<|fg _ (Sub.pick [(AU h 0 (0#64) (0#64)),f,g,cr,az] [0,1,2,3] rfl) ?_
    exact⟨C+1,by omega,C,(m++([D])),decide (y≥2),(i+1),a,dj,cr,dk,Af rfl (by first|rfl|simp only [Bn]),rfl⟩
   refine AD<|ce _ _ ?_
   refine Aa fun dn ba=>AZ rfl<|Ah<|Bo _ (Sub.pick [(AU h 0 (0#64) (0#64)),f,g,c] [0,3] rfl)<|AC (fun tt ll nn=> ∃(z:Nat) (q:List Bool) (s:Int),(AN N op b d z q s=some r)∧ ∃(n:List Bl),Sl 4 Pa e q n∧Is [(0,vS op),(6,vP h 0),(10,vB b),(13,e),(14,vB d),(20,vI s)] (List.flatten [(AU h 0 (0#64) (0#64)),n]) tt ll∧nn=z+1) (N+1) ?_ ?_
   ·exact⟨N,m,0,a,c,R,Af rfl (by first|rfl|simp only [Bn]),rfl⟩
   clear a;rintro t l _ ⟨z,q,s,a,n,x,⟨⟨T,rfl⟩,rfl⟩,rfl⟩
   rcases z with _|z
   ·exact absurd a (by simp [AN])
   rw [AN] at a
   refine Aa fun dp bb=>Ad<|rn 2 rfl<|rL (Sl.shp x) rfl<|rz rfl<|aD a rfl (fun bc a=> ?_) (fun bc a=> ?_)
   ·refine Ab<|bb _ _ ?_
    refine Aa fun dq Z=>Ah<|BR (fun tt ll=> ∃(v:List Bool),(Fj op b s (AN N op b d z) v=some r)∧ ∃(u:List Bl),Sl 4 Pa e v u∧Is [(0,vS op),(6,vP h 0),(10,vB b),(13,e),(14,vB d),(20,vI s)] (List.flatten [(AU h 0 (0#64) (0#64)),u]) tt ll) ?_ ?_
    ·refine Aa fun dr bd=>Ag<|rn 1 rfl<|r_W (vB (op==([97,100,100,115,97,116]:List UInt8))) rfl (Df rfl rfl)<|rn 1 rfl<|AG 2 142 [(0,vS op),(6,vP h 0),(10,vB b),(13,e),(14,vB d),(20,vI s)] vB (fun b_=>Fh op b q s (AN N op b d z) b_=some r) (fun ds a T=> ?_) (fun H=> ?_)
     ·unfold Fh at a
      refine Ak<|bd _ _ ?_
      refine aB a rfl (fun be a=> ?_) (fun be a=> ?_)
      ·refine Ag<|rn 2 rfl<|kC a fun aa a=>rI (Sl.shp x) aa rfl<|QS (Ls:=[(AU h 0 (0#64) (0#64)),n]) 1 (En:=Pa) (q[s.toNat]!) true (s.toNat) 0 rfl rfl rfl x (De aa) rfl rfl rfl (HN rfl) rfl (fun aq ct=> ?_)
       refine Ak<|fg _ (Sub.pick [(AU h 0 (0#64) (0#64)),aq] [0,1] rfl) ?_
       exact⟨(q).set (s.toNat) true,a,aq,ct,Af rfl (by first|rfl|simp only [Bn])⟩
      refine Ab<|fg _ (Sub.pick [(AU h 0 (0#64) (0#64)),n] [0,1] rfl) ?_
      exact⟨q,a,n,x,Af rfl (by first|rfl|simp only [Bn])⟩
     rcases ab:(op==([97,100,100,115,97,116]:List UInt8))with _|_
     ·replace a:=iG ab a
      refine rn 2 rfl ?_
      first|exact H _ _ a rfl rfl|exact lx_cn _ _ (H _ _ a rfl rfl)
     replace a:=iE ab a
     refine rn 2 rfl ?_
     first|exact H _ _ a rfl rfl|exact lx_cn _ _ (H _ _ a rfl rfl)
    clear a;rintro t l ⟨v,a,u,G,⟨T,rfl⟩,rfl⟩
    unfold Fj at a
    refine Aa fun dt bf=>Ag<|rn 1 rfl<|r_W (vB (op==([115,117,98,115,97,116]:List UInt8))) rfl (Df rfl rfl)<|rn 1 rfl<|AG 2 150 [(0,vS op),(6,vP h 0),(10,vB b),(13,e),(14,vB d),(20,vI s)] vB (fun b_=>Fi s (AN N op b d z) v b_=some r) (fun du a T=> ?_) (fun H=> ?_)
    ·unfold Fi at a
     refine Ak<|bf _ _ ?_
     refine aB a rfl (fun bg a=> ?_) (fun bg a=> ?_)
     ·refine Ag<|rn 2 rfl<|kC a fun ac a=>rI (Sl.shp G) ac rfl<|QS (Ls:=[(AU h 0 (0#64) (0#64)),u]) 1 (En:=Pa) (v[s.toNat]!) false (s.toNat) 0 rfl rfl rfl G (De ac) rfl rfl rfl (HN rfl) rfl (fun ar cu=> ?_)
      refine Ak<|Z _ _ ?_
      refine Ag<|rn 1 rfl<|kC a fun bh a=>rX bh rfl<|rz rfl<|fg _ (Sub.pick [(AU h 0 (0#64) (0#64)),ar] [0,1] rfl) ?_
      exact⟨z+1,by omega,z,(v).set (s.toNat) false,(s+1),a,ar,cu,Af rfl (by first|rfl|simp only [Bn]),rfl⟩
     refine Ab<|Z _ _ ?_
     refine Ag<|rn 1 rfl<|kC a fun bi a=>rX bi rfl<|rz rfl<|fg _ (Sub.pick [(AU h 0 (0#64) (0#64)),u] [0,1] rfl) ?_
     exact⟨z+1,by omega,z,v,(s+1),a,u,G,Af rfl (by first|rfl|simp only [Bn]),rfl⟩
    rcases ad:(op==([115,117,98,115,97,116]:List UInt8))with _|_
    ·replace a:=iG ad a
     refine rn 2 rfl ?_
     first|exact H _ _ a rfl rfl|exact lx_cn _ _ (H _ _ a rfl rfl)
    replace a:=iE ad a
    refine rn 2 rfl ?_
    first|exact H _ _ a rfl rfl|exact lx_cn _ _ (H _ _ a rfl rfl)
   refine AD<|ba _ _ ?_
   refine Ad<|rn 1 rfl<|kB a fun ae bj a=>gV _ (cF VE) (fun o w z_=>Jw N q _ bj z_.view e ((Av x (Ai (Ls:=[(AU h 0 (0#64) (0#64)),n]) (k:=1) rfl rfl)) o w z_))<|ry [0] rfl ?_
   cases a
   refine Bi (fun W=>Ec (v0:=vT #[vA #[vI ae.1,U (hi ae.2),U (lo ae.2)],vI 0]) rfl (Jz (AT W 0 rfl rfl rfl) rfl))
  rcases af:(op==([115,117,98]:List UInt8))with _|_
  ·replace a:=iG af a
   refine rn 1 rfl<|r_y rfl<|r_W (vB (op==([115,117,98,115,97,116]:List UInt8))) rfl (Df rfl rfl)<|rn 1 rfl ?_
   first|exact H _ _ a rfl rfl|exact lx_cn _ _ (H _ _ a rfl rfl)
  replace a:=iE af a
  refine rn 3 rfl ?_
  first|exact H _ _ a rfl rfl|exact lx_cn _ _ (H _ _ a rfl rfl)
 rcases ag:(!(r7))with _|_
 ·replace a:=ifp (CN ag) a
  refine r_y rfl<|rm 1 [1] rfl<|r_y rfl<|kB a fun dv bk a=>rc _ (cF Qr) (Gi N b_0 b_1 _ bk)<|rn 2 rfl ?_
  first|exact H _ _ a rfl rfl|exact lx_cn _ _ (H _ _ a rfl rfl)
 replace a:=ifn (Bool.eq_false_iff.1 (CM ag)) a
 refine rn 4 rfl ?_
 first|exact H _ _ a rfl rfl|exact lx_cn _ _ (H _ _ a rfl rfl)
def Ep(_:Nat)(m:An)(n:Int):Option Bool:=if n≥ -2 then some (decide (n<(m.2.2.2.2.1.length:Int)))else some false
theorem Jr(N m n r)(a:Ep N m n=some r)(ro)(mv:Ay)(hm:Aa2 ro mv m):Does prog 114 #[vA (Ac m mv),vI n] ro [] (pV (vB r)):=by
 unfold Ep at a
 refine Aj follows func114 rfl 14 rfl _ fz2 (fun d=> ?_)
 refine Ad<|rA rfl fun e=>rz rfl<|Aa fun f b=>Ag<|rn 3 rfl ?_
 rcases c:(decide (n≥ -2))with _|_
 ·replace a:=iF c a
  refine rz rfl<|b _ _ ?_
  cases a
  exact aR eV1
 replace a:=iD c a
 refine rn 2 rfl<|r_y rfl<|rm 1 [0] rfl<|r_y rfl<|rL (RdN.shp hm.2.2.2.1) rfl<|rz rfl<|b _ _ ?_
 cases a
 exact aR eV1
def Dq(N:Nat)(m:An)(c:List (Int×BitVec 128×Int×BitVec 128×Int))(b:Int)(a:Int→Option Int)(f:Bool):Option Int:=if f=true then some 9 else(GU N ([97,110,100]:List UInt8) ((c[b.toNat]!).1) ((c[b.toNat]!).2.1) ((c[b.toNat]!).2.2.1) ((c[b.toNat]!).2.2.2.1)).bind fun d=>if((d.1==((c[b.toNat]!).1))&&(d.2.1==((c[b.toNat]!).2.1)))=true then(Ep N m ((c[b.toNat]!).2.2.2.2)).bind fun e=>if e=true then ck (R64 (b+1)) (a (b+1))else some 5 else some 14
def Dr(N:Nat)(m:An)(b:List (Int×BitVec 128×Int×BitVec 128×Int))(d:Int×Bool)(c:Int)(a:Int→Option Int)(e:Bool):Option Int:=if e=true then Dq N m b c a true else Dq N m b c a ((((b[c.toNat]!).2.2.1:Int) !=d.1))
def Ds(N:Nat)(m:An)(b:List (Int×BitVec 128×Int×BitVec 128×Int))(d:Int×Bool)(c:Int)(a:Int→Option Int)(e:Bool):Option Int:=if e=true then Dr N m b d c a true else Dr N m b d c a ((((b[c.toNat]!).1:Int) !=d.1))
def AF(N:Nat)(m:An)(a:List (Int×BitVec 128×Int×BitVec 128×Int))(d:Int)(c:Int×Bool):Nat→Int→Option Int
  |0,_=>none
  |e+1,b=>if b<(a.length:Int)then ck (0≤b∧b<(a.length:Int)) ((Co N ((a[b.toNat]!).1) ((a[b.toNat]!).2.1)).bind fun f=>if f=true then(Co N ((a[b.toNat]!).2.2.1) ((a[b.toNat]!).2.2.2.1)).bind fun h=>Ds N m a c b (AF N m a d c e) (!(h))else Ds N m a c b (AF N m a d c e) true)else(Ep N m d).bind fun g=>if g=true then some 0 else some 5
def Dt(N:Nat)(m:An)(b:List (Int×Int×Int))(a:List (Int×BitVec 128×Int×BitVec 128×Int))(c:Int)(e:Bool):Option Int:=if e=true then some 4 else(FW N m b).bind fun d=>AF N m a c d N 0
def BN(N:Nat)(m:An)(d:List (Int×Int))(c:List (Int×Int×Int))(b:List (Int×BitVec 128×Int×BitVec 128×Int))(e:Int):Nat→Int→Option Int
  |0,_=>none
  |h+1,a=>if a<(d.length:Int)then ck (0≤a∧a<(d.length:Int)) ((EM N m ((d[a.toNat]!).1) ((d[a.toNat]!).2)).bind fun g=>if(g:Int)≠0 then some g else ck (R64 (a+1)) ((BN N m d c b e h) (a+1)))else(EL N m c true).bind fun f=>if(f:Int)≠0 then some f else if(b.length:Int)>8 then some 2 else if(b.length:Int)>0 then Dt N m c b e (((c.length:Int)==0))else Dt N m c b e false
def DI(N:Nat)(m:An)(_:List UInt8)(a:List (Int×Int))(c:List (Int×Int×Int))(b:List (Int×BitVec 128×Int×BitVec 128×Int))(d:Int):Option Int:=if(a.length:Int)>4 then some 2 else BN N m a c b d N 0
theorem NE(N m s_0 s_1 s_2 s_3 s_4 r)(a:DI N m s_0 s_1 s_2 s_3 s_4=some r)(ro)(mv:Ay)(hm:Aa2 ro mv m)(s_1v)(hs_1:Rd Af2 ro s_1v s_1)(s_2v)(hs_2:Rd Ad0 ro s_2v s_2)(s_3v)(hs_3:Rd Af3 ro s_3v s_3):Does prog 74 #[vA (Ac m mv),vA #[vS s_0,s_1v,s_2v,s_3v,vI s_4]] ro [] (pV (vI r)):=by
 unfold DI at a
 refine Aj follows func74 rfl 121 rfl _ fz2 (fun ah=> ?_)
 refine Ad<|rA rfl fun n=>rA rfl fun p=>rz rfl<|Aa fun K4 ai=>Ad<|rm 2 [0] rfl<|rL (Rd.shp hs_1) rfl<|rz rfl<|aD a rfl (fun aj a=> ?_) (fun aj a=> ?_)
 ·refine AZ rfl ?_
  cases a
  exact aR eV1
 refine Ab<|ai _ _ ?_
 refine Aa fun K8 ak=>AZ rfl<|Ah<|AC (fun tt ll nn=> ∃(g:Nat) (f:Int),(BN N m s_1 s_2 s_3 s_4 g f=some r)∧Is [(2,vP n 0),(3,vP p 0),(5,vI f)] [(p,111, #[vS s_0,s_1v,s_2v,s_3v,vI s_4]),(n,35,(Ac m mv))] tt ll∧nn=g+1) (N+1) ?_ ?_
 ·exact⟨N,0,a,Af rfl rfl,rfl⟩
 clear a;rintro t l _ ⟨g,f,a,⟨⟨T,rfl⟩,rfl⟩,rfl⟩
 rcases g with _|g
 ·exact absurd a (by simp [BN])
 rw [BN] at a
 refine Aa fun ap B=>Ad<|rm 3 [0] rfl<|rL (Rd.shp hs_1) rfl<|rz rfl<|aD a rfl (fun C a=> ?_) (fun C a=> ?_)
 ·refine Ab<|B _ _ ?_
  refine Aa fun aq D=>Ah<|Aa fun ar E=>Bw [(some 31,false)] (conG prog [(31,cV (EM N m ((s_1[f.toNat]!).1) ((s_1[f.toNat]!).2)) fun al=>vI al)]) [] (by decide+kernel) (fun hn=>AH)<|rm 4 [1,0] rfl<|kC a fun q a=>rI (Rd.shp hs_1) q rfl<|rE (Au hs_1) q 0 rfl<|kB a fun au s a=>rg _ (cF mj) (fun o w z_=>OU N m ((s_1[f.toNat]!).1) ((s_1[f.toNat]!).2) _ s z_.view mv (Aa2.mono z_.ro_cell hm)) (GB s)<|rz rfl<|E _ _ ?_
  refine AZ rfl<|aN a rfl (fun F a=> ?_) (fun F a=> ?_)
  ·refine AZ rfl ?_
   cases a
   exact aR eV1
  refine Ab<|D _ _ ?_
  refine Ag<|rn 1 rfl<|kC a fun G a=>rX G rfl<|rz rfl<|fg _ (Sub.of (suK _ (suK _ suN))) ?_
  exact⟨g+1,by omega,g,(f+1),a,Af rfl rfl,rfl⟩
 refine AD<|ak _ _ ?_
 refine Ad<|rm 3 [1,0] rfl<|kB a fun av H a=>gV _ (cF bL) (fun o w z_=>Kf N m s_2 true _ H z_.view mv (Aa2.mono z_.ro_cell hm) s_2v (z_.r hs_2))<|rz rfl<|Aa fun aw I=>AZ rfl<|aN a rfl (fun J a=> ?_) (fun J a=> ?_)
 ·refine AZ rfl ?_
  cases a
  exact aR eV1
 refine Ab<|I _ _ ?_
 refine Aa fun ax K=>Ad<|rm 2 [0] rfl<|rL (Rd.shp hs_3) rfl<|rz rfl<|aD a rfl (fun L a=> ?_) (fun L a=> ?_)
 ·refine AZ rfl ?_
  cases a
  exact aR eV1
 refine Ab<|K _ _ ?_
 refine Aa fun ay M=>Aa fun az O=>Ag<|rm 2 [0] rfl<|rL (Rd.shp hs_3) rfl<|rn 2 rfl<|AG 5 55 [(2,vP n 0),(3,vP p 0)] vB (fun b_=>Dt N m s_2 s_3 s_4 b_=some r) (fun ba a T=> ?_) (fun e=> ?_)
 ·unfold Dt at a
  refine Ak<|O _ _ ?_
  refine aB a rfl (fun P a=> ?_) (fun P a=> ?_)
  ·refine AZ rfl ?_
   cases a
   exact aR eV1
  refine Ab<|M _ _ ?_
  refine Ad<|rm 3 [1,0] rfl<|kB a fun c Q a=>gV _ (cF bK) (fun o w z_=>Kg N m s_2 _ Q z_.view mv (Aa2.mono z_.ro_cell hm) s_2v (z_.r hs_2))<|rz rfl<|Aa fun bb R=>AZ rfl<|Ah ?_
  refine AC (fun tt ll nn=> ∃(d:Nat) (b:Int),(AF N m s_3 s_4 c d b=some r)∧Is [(2,vP n 0),(3,vP p 0),(8,vI c.1),(10,vI b)] [(p,111, #[vS s_0,s_1v,s_2v,s_3v,vI s_4]),(n,35,(Ac m mv))] tt ll∧nn=d+1) (N+1) ?_ ?_
  ·exact⟨N,0,a,Af rfl rfl,rfl⟩
  clear a;rintro t l _ ⟨d,b,a,⟨⟨T,rfl⟩,rfl⟩,rfl⟩
  rcases d with _|d
  ·exact absurd a (by simp [AF])
  rw [AF] at a
  refine Aa fun bc S=>Ad<|rm 3 [0] rfl<|rL (Rd.shp hs_3) rfl<|rz rfl<|aD a rfl (fun U a=> ?_) (fun U a=> ?_)
  ·refine Ab<|S _ _ ?_
   refine Aa fun bd V=>Ah<|Ad<|rm 3 [0] rfl<|kC a fun u a=>rI (Rd.shp hs_3) u rfl<|rE (Au hs_3) u 0 rfl<|rA rfl fun A=>ry [0] rfl ?_
   refine Aa fun be W=>Aa fun bf X=>Ag<|rm 2 [0] rfl<|kB a fun am Y a=>rc _ (cF Qr) (Gi N ((s_3[b.toNat]!).1) ((s_3[b.toNat]!).2.1) _ Y)<|rn 2 rfl<|AG 5 84 [(2,vP n 0),(3,vP p 0),(8,vI c.1),(10,vI b),(11,vP A 0)] vB (fun b_=>Ds N m s_3 c b (AF N m s_3 s_4 c d) b_=some r) (fun an a T=> ?_) (fun e=> ?_)
   ·unfold Ds at a
    refine rn 1 rfl<|AG 6 91 [(2,vP n 0),(3,vP p 0),(8,vI c.1),(10,vI b),(11,vP A 0)] vB (fun b_=>Dr N m s_3 c b (AF N m s_3 s_4 c d) b_=some r) (fun ao a T=> ?_) (fun e=> ?_)
    ·unfold Dr at a
     refine rn 1 rfl<|AG 6 98 [(2,vP n 0),(3,vP p 0),(8,vI c.1),(10,vI b),(11,vP A 0)] vB (fun b_=>Dq N m s_3 b (AF N m s_3 s_4 c d) b_=some r) (fun bg a T=> ?_) (fun e=> ?_)
     ·unfold Dq at a
      refine Ak<|X _ _ ?_
      refine aB a rfl (fun Z a=> ?_) (fun Z a=> ?_)
      ·refine AZ rfl ?_
       cases a
       exact aR eV1
      refine Ab<|W _ _ ?_
      refine Ad<|rm 4 [0,0] rfl<|kB a fun k aa a=>rc _ (cF mi) (QM N ([97,110,100]:List UInt8) ((s_3[b.toNat]!).1) ((s_3[b.toNat]!).2.1) ((s_3[b.toNat]!).2.2.1) ((s_3[b.toNat]!).2.2.2.1) _ aa)<|rn 3 rfl<|rA rfl fun bh=>ry [0] rfl<|Aa fun bi ab=>Ad<|rm 2 [0] rfl ?_
      refine rm 1 [1] rfl<|r_W (vB (!((k.1==((s_3[b.toNat]!).1))&&(k.2.1==((s_3[b.toNat]!).2.1))))) rfl (RN rfl rfl jk (Zd k.1 ((s_3[b.toNat]!).1) k.2.1 ((s_3[b.toNat]!).2.1)))<|Ak<|Bv _ rfl (fun h=> ?_) (fun h=> ?_)
      ·replace a:=ifn (Bool.eq_false_iff.1 (CM h)) a
       refine AZ rfl ?_
       cases a
       exact aR eV1
      replace a:=ifp (CN h) a
      refine Ab<|ab _ _ ?_
      refine Ad<|rm 3 [3,1] rfl<|kB a fun bj ac a=>gV _ (cF bJ) (fun o w z_=>Jr N m ((s_3[b.toNat]!).2.2.2.2) _ ac z_.view mv (Aa2.mono z_.ro_cell hm))<|rz rfl<|Bv _ rfl (fun i=> ?_) (fun i=> ?_)
      ·replace a:=ifn (Bool.eq_false_iff.1 (CM i)) a
       refine AZ rfl ?_
       cases a
       exact aR eV1
      replace a:=ifp (CN i) a
      refine Ab<|V _ _ ?_
      refine Ag<|rn 1 rfl<|kC a fun ad a=>rX ad rfl<|rz rfl<|fg _ (Sub.of (suC _ (suC _ (suK _ (suK _ suN))))) ?_
      exact⟨d+1,by omega,d,(b+1),a,Af rfl rfl,rfl⟩
     rcases v:ao with _|_
     ·replace a:=iB v a
      refine rn 2 rfl<|r_y rfl<|rm 4 [0] rfl ?_
      first|exact e _ _ a rfl rfl|exact lx_cn _ _ (e _ _ a rfl rfl)
     replace a:=ifp v a
     refine rn 6 rfl ?_
     first|exact e _ _ a rfl rfl|exact lx_cn _ _ (e _ _ a rfl rfl)
    rcases x:an with _|_
    ·replace a:=iB x a
     refine rn 2 rfl<|r_y rfl<|rm 4 [0] rfl ?_
     first|exact e _ _ a rfl rfl|exact lx_cn _ _ (e _ _ a rfl rfl)
    replace a:=ifp x a
    refine rn 6 rfl ?_
    first|exact e _ _ a rfl rfl|exact lx_cn _ _ (e _ _ a rfl rfl)
   rcases y:(!(am))with _|_
   ·replace a:=ifp (CN y) a
    refine rn 1 rfl<|r_y rfl<|rm 1 [0] rfl<|r_y rfl<|kB a fun bk ae a=>rc _ (cF Qr) (Gi N ((s_3[b.toNat]!).2.2.1) ((s_3[b.toNat]!).2.2.2.1) _ ae)<|rn 2 rfl ?_
    first|exact e _ _ a rfl rfl|exact lx_cn _ _ (e _ _ a rfl rfl)
   replace a:=ifn (Bool.eq_false_iff.1 (CM y)) a
   refine rn 5 rfl ?_
   first|exact e _ _ a rfl rfl|exact lx_cn _ _ (e _ _ a rfl rfl)
  refine AD<|R _ _ ?_
  refine Aa fun bl af=>Ad<|rm 3 [1,0] rfl<|kB a fun bm ag a=>gV _ (cF bJ) (fun o w z_=>Jr N m s_4 _ ag z_.view mv (Aa2.mono z_.ro_cell hm))<|rz rfl<|Bv _ rfl (fun j=> ?_) (fun j=> ?_)
  ·replace a:=ifn (Bool.eq_false_iff.1 (CM j)) a
   refine AZ rfl ?_
   cases a
   exact aR eV1
  replace a:=ifp (CN j) a
  refine Ab<|af _ _ ?_
  refine AZ rfl ?_
  cases a
  exact aR eV1
 rcases z:(decide ((s_3.length:Int)>0))with _|_
 ·replace a:=iF z a
  refine rn 5 rfl ?_
  first|exact e _ _ a rfl rfl|exact lx_cn _ _ (e _ _ a rfl rfl)
 replace a:=iD z a
 refine rn 1 rfl<|r_y rfl<|rm 1 [0] rfl<|r_y rfl<|rL (Rd.shp hs_2) rfl<|rn 2 rfl ?_
 first|exact e _ _ a rfl rfl|exact lx_cn _ _ (e _ _ a rfl rfl)
def ER(b:Int)(a:Bool→Int→Option Int)(c:Bool):Option Int:=ck (R64 (b+1)) (a c (b+1))
def BM(d:List Int)(f:Int)(e:Bool)(b:Int)(a:Bool→Int→Option Int):Nat→Int→Option Int
  |0,_=>none
  |g+1,c=>if c<b then ck (0≤c∧c<(d.length:Int)) (if(d[c.toNat]!:Int)=d[b.toNat]! then some 6 else ck (R64 (c+1)) ((BM d f e b a g) (c+1)))else if e=true then ER b a true else ER b a ((d[b.toNat]!:Int)==f)
def Dn(N:Nat)(e:List Int)(d:Int)(b:Bool)(c:Int)(a:Bool→Int→Option Int)(f:Bool):Option Int:=if f=true then some 5 else BM e d b c a N 0
def Dm(a:Bool):Option Int:=if a=true then some 7 else some 0
def Az(N:Nat)(m:An)(a:List Int)(d:Int)(f:List (Int×BitVec 128))(e:Int):Nat→Bool→Int→Option Int
  |0,_,_=>none
  |h+1,c,b=>if b<(a.length:Int)then ck (0≤b∧b<(a.length:Int)) (if(a[b.toNat]!:Int)<0 then Dn N a d c b (Az N m a d f e h) true else Dn N a d c b (Az N m a d f e h) (decide ((a[b.toNat]!:Int)≥(m.2.2.2.2.2.1.length:Int))))else if(a.length:Int)=0 then some 5 else if c=true then(Eu N m d f).bind fun g=>if(g:Int)≠0 then some g else if e<1 then Dm true else Dm (decide (e>256))else some 16
def Dp(N:Nat)(m:An)(a:List (Int×Int×Int))(c:List Int)(f:Int)(d:List (Int×BitVec 128))(e:Int)(g:Bool):Option Int:=if g=true then some 10 else if(a.length:Int)=0 then some 5 else(EL N m a false).bind fun b=>if(b:Int)≠0 then some b else if(c.length:Int)>8 then some 2 else Az N m c f d e N false 0
def DH(N:Nat)(m:An)(_:List UInt8)(e:Int)(a:List (Int×Int×Int))(f:List Int)(d:Int)(b:List (Int×BitVec 128))(c:Int):Option Int:=if e<0 then Dp N m a f d b c true else Dp N m a f d b c (decide (e>3))
theorem ND(N m t_0 t_1 t_2 t_3 t_4 t_5 t_6 r)(a:DH N m t_0 t_1 t_2 t_3 t_4 t_5 t_6=some r)(ro)(mv:Ay)(hm:Aa2 ro mv m)(t_2v)(ht_2:Rd Ad0 ro t_2v t_2)(t_3v)(ht_3:Rd BJ ro t_3v t_3)(t_5v)(ht_5:Rd Ac8 ro t_5v t_5):Does prog 76 #[vA (Ac m mv),vA #[vS t_0,vI t_1,t_2v,t_3v,vI t_4,t_5v,vI t_6]] ro [] (pV (vI r)):=by
 unfold DH at a
 refine Aj follows func76 rfl 99 rfl _ fz2 (fun ab=> ?_)
 refine Ad<|rA rfl fun s=>rA rfl fun u=>rz rfl<|Aa fun K4 ac=>Aa fun K5 ad=>Ag<|rm 4 [0] rfl<|AG 4 17 [(2,vP s 0),(3,vP u 0)] vB (fun b_=>Dp N m t_2 t_3 t_4 t_5 t_6 b_=some r) (fun b6 a T=> ?_) (fun f=> ?_)
 ·unfold Dp at a
  refine Ak<|ad _ _ ?_
  refine aB a rfl (fun ae a=> ?_) (fun ae a=> ?_)
  ·refine AZ rfl ?_
   cases a
   exact aR eV1
  refine Ab<|ac _ _ ?_
  refine Aa fun K9 af=>Ad<|rm 2 [0] rfl<|rL (Rd.shp ht_2) rfl<|rz rfl<|aE a rfl (fun v a=> ?_) (fun v a=> ?_)
  ·refine AZ rfl ?_
   cases a
   exact aR eV1
  refine Ab<|af _ _ ?_
  refine Ad<|rm 3 [1,0] rfl<|kB a fun ai x a=>gV _ (cF bL) (fun o w z_=>Kf N m t_2 false _ x z_.view mv (Aa2.mono z_.ro_cell hm) t_2v (z_.r ht_2))<|rz rfl<|Aa fun aj y=>AZ rfl<|aN a rfl (fun z a=> ?_) (fun z a=> ?_)
  ·refine AZ rfl ?_
   cases a
   exact aR eV1
  refine Ab<|y _ _ ?_
  refine Aa fun ak A=>Ad<|rm 2 [0] rfl<|rL (Rd.shp ht_3) rfl<|rz rfl<|aD a rfl (fun B a=> ?_) (fun B a=> ?_)
  ·refine AZ rfl ?_
   cases a
   exact aR eV1
  refine Ab<|A _ _ ?_
  refine AZ rfl<|Aa fun al C=>AZ rfl<|Ah<|AC (fun tt ll nn=> ∃(e:Nat) (b:Bool) (d:Int),(Az N m t_3 t_4 t_5 t_6 e b d=some r)∧Is [(2,vP s 0),(3,vP u 0),(6,vB b),(7,vI d)] [(u,193, #[vS t_0,vI t_1,t_2v,t_3v,vI t_4,t_5v,vI t_6]),(s,35,(Ac m mv))] tt ll∧nn=e+1) (N+1) ?_ ?_
  ·exact⟨N,false,0,a,Af rfl rfl,rfl⟩
  clear a;rintro t l _ ⟨e,b,d,a,⟨⟨T,rfl⟩,rfl⟩,rfl⟩
  rcases e with _|e
  ·exact absurd a (by simp [Az])
  rw [Az] at a
  refine Aa fun am D=>Ad<|rm 3 [0] rfl<|rL (Rd.shp ht_3) rfl<|rz rfl<|aD a rfl (fun E a=> ?_) (fun E a=> ?_)
  ·refine Ab<|D _ _ ?_
   refine Aa fun an F=>Ah<|Ad<|rm 3 [0] rfl<|kC a fun j a=>rI (Rd.shp ht_3) j rfl<|rE (Au ht_3) j 0 rfl<|rz rfl<|Aa fun ao G=>Aa fun ap H=>Ag<|rn 3 rfl ?_
   refine AG 6 53 [(2,vP s 0),(3,vP u 0),(6,vB b),(7,vI d),(8,vI (t_3[d.toNat]!))] vB (fun b_=>Dn N t_3 t_4 b d (Az N m t_3 t_4 t_5 t_6 e) b_=some r) (fun aq a T=> ?_) (fun f=> ?_)
   ·unfold Dn at a
    refine Ak<|H _ _ ?_
    refine aB a rfl (fun I a=> ?_) (fun I a=> ?_)
    ·refine AZ rfl ?_
     cases a
     exact aR eV1
    refine Ab<|G _ _ ?_
    refine Aa fun ar J=>AZ rfl<|Ah<|AC (fun tt ll nn=> ∃(g:Nat) (i:Int),(BM t_3 t_4 b d (Az N m t_3 t_4 t_5 t_6 e) g i=some r)∧Is [(2,vP s 0),(3,vP u 0),(6,vB b),(7,vI d),(8,vI (t_3[d.toNat]!)),(9,vI i)] [(u,193, #[vS t_0,vI t_1,t_2v,t_3v,vI t_4,t_5v,vI t_6]),(s,35,(Ac m mv))] tt ll∧nn=g+1) (N+1) ?_ ?_
    ·exact⟨N,0,a,Af rfl rfl,rfl⟩
    clear a;rintro t l _ ⟨g,i,a,⟨⟨T,rfl⟩,rfl⟩,rfl⟩
    rcases g with _|g
    ·exact absurd a (by simp [BM])
    rw [BM] at a
    refine Aa fun au K=>AZ rfl<|aD a rfl (fun L a=> ?_) (fun L a=> ?_)
    ·refine Ab<|K _ _ ?_
     refine Aa fun av M=>Ah<|Ad<|rm 3 [0] rfl<|kC a fun k a=>rI (Rd.shp ht_3) k rfl<|rE (Au ht_3) k 0 rfl<|rz rfl<|aE a rfl (fun O a=> ?_) (fun O a=> ?_)
     ·refine AZ rfl ?_
      cases a
      exact aR eV1
     refine Ab<|M _ _ ?_
     refine Ag<|rn 1 rfl<|kC a fun P a=>rX P rfl<|rz rfl<|fg _ (Sub.of (suK _ (suK _ suN))) ?_
     exact⟨g+1,by omega,g,(i+1),a,Af rfl rfl,rfl⟩
    refine AD<|J _ _ ?_
    refine Ag<|rn 2 rfl<|AG 6 73 [(2,vP s 0),(3,vP u 0),(6,vB b),(7,vI d)] vB (fun b_=>ER d (Az N m t_3 t_4 t_5 t_6 e) b_=some r) (fun ag a T=> ?_) (fun f=> ?_)
    ·unfold ER at a
     refine rz rfl<|F _ _ ?_
     refine Ag<|rn 1 rfl<|kC a fun Q a=>rX Q rfl<|rz rfl<|fg _ (Sub.of (suK _ (suK _ suN))) ?_
     exact⟨e+1,by omega,e,ag,(d+1),a,Af rfl rfl,rfl⟩
    rcases c:b with _|_
    ·replace a:=iB c a
     refine rn 3 rfl<|r_y rfl<|rm 3 [0] rfl ?_
     first|exact f _ _ a rfl (by first|rfl|(simp only [c];done)|(simp only [c];rfl))|exact lx_cn _ _ (f _ _ a rfl (by first|rfl|(simp only [c];done)|(simp only [c];rfl)))
    replace a:=ifp c a
    refine rn 6 rfl ?_
    first|exact f _ _ a rfl (by first|rfl|(simp only [c];done)|(simp only [c];rfl))|exact lx_cn _ _ (f _ _ a rfl (by first|rfl|(simp only [c];done)|(simp only [c];rfl)))
   rcases n:(decide ((t_3[d.toNat]!:Int)<0))with _|_
   ·replace a:=iF n a
    refine rn 2 rfl<|r_y rfl<|rm 1 [1] rfl<|r_y rfl<|rL (RdN.shp hm.2.2.2.2.1) rfl<|rn 2 rfl ?_
    first|exact f _ _ a rfl rfl|exact lx_cn _ _ (f _ _ a rfl rfl)
   replace a:=iD n a
   refine rn 6 rfl ?_
   first|exact f _ _ a rfl rfl|exact lx_cn _ _ (f _ _ a rfl rfl)
  refine AD<|C _ _ ?_
  refine Aa fun aw R=>Ad<|rm 2 [0] rfl<|rL (Rd.shp ht_3) rfl<|rz rfl<|aE a rfl (fun S a=> ?_) (fun S a=> ?_)
  ·refine AZ rfl ?_
   cases a
   exact aR eV1
  refine Ab<|R _ _ ?_
  refine Aa fun ax U=>AZ rfl<|Bv _ rfl (fun h=> ?_) (fun h=> ?_)
  ·replace a:=ifn (Bool.eq_false_iff.1 (CM h)) a
   refine AZ rfl ?_
   cases a
   exact aR eV1
  replace a:=ifp (CN h) a
  refine Ab<|U _ _ ?_
  refine Ad<|rm 7 [1,0,0] rfl<|kB a fun ah V a=>gV _ (cF bM) (fun o w z_=>Js N m t_4 t_5 _ V z_.view mv (Aa2.mono z_.ro_cell hm) t_5v (z_.r ht_5))<|rz rfl<|Aa fun ay W=>AZ rfl<|aN a rfl (fun X a=> ?_) (fun X a=> ?_)
  ·refine AZ rfl<|Gm [(4,vI ah)] rfl (fun T=> ?_)
   cases a
   exact aR eV1
  refine Ab<|W _ _ ?_
  refine Aa fun az Y=>Aa fun ba Z=>Ag<|rm 4 [0] rfl<|AG 4 98 [] vB (fun b_=>Dm b_=some r) (fun bb a T=> ?_) (fun f=> ?_)
  ·unfold Dm at a
   refine Ak<|Z _ _ ?_
   refine aB a rfl (fun aa a=> ?_) (fun aa a=> ?_)
   ·refine AZ rfl ?_
    cases a
    exact aR eV1
   refine Ab<|Y _ _ ?_
   refine AZ rfl ?_
   cases a
   exact aR eV1
  rcases p:(decide (t_6<1))with _|_
  ·replace a:=iF p a
   refine rn 1 rfl<|r_y rfl<|rm 3 [0] rfl ?_
   first|exact f _ _ a rfl rfl|exact lx_cn _ _ (f _ _ a rfl rfl)
  replace a:=iD p a
  refine rn 4 rfl ?_
  first|exact f _ _ a rfl rfl|exact lx_cn _ _ (f _ _ a rfl rfl)
 rcases q:(decide (t_1<0))with _|_
 ·replace a:=iF q a
  refine rn 1 rfl<|r_y rfl<|rm 3 [0] rfl ?_
  first|exact f _ _ a rfl rfl|exact lx_cn _ _ (f _ _ a rfl rfl)
 replace a:=iD q a
 refine rn 4 rfl ?_
 first|exact f _ _ a rfl rfl|exact lx_cn _ _ (f _ _ a rfl rfl)
def Dl(a:Bool):Option Int:=if a=true then some 7 else some 0
def BC(a:Int):Option Int:=if a<1 then Dl true else Dl (decide (a>8))
def Dk(a:Bool):Option Int:=if a=true then some 9 else BC 1
def Dj(b:Int)(a:Int→Option Int)(c:Bool):Option Int:=if c=true then some 9 else ck (R64 (b+1)) (a (b+1))
def Bh(N:Nat)(m:An)(i:Int):Nat→Int→Option Int
  |0,_=>none
  |b+1,a=>if a<(((m.2.2.2.2.2.1)[i.toNat]!.2.1).length:Int)then ck (0≤a∧a<(((m.2.2.2.2.2.1)[i.toNat]!.2.1).length:Int)) (if(((m.2.2.2.2.2.1)[i.toNat]!.2.1)[a.toNat]!:Int)<1 then Dj a (Bh N m i b) true else ck (0≤a∧a<(((m.2.2.2.2.2.1)[i.toNat]!.2.1).length:Int)) (Dj a (Bh N m i b) (decide ((((m.2.2.2.2.2.1)[i.toNat]!.2.1)[a.toNat]!:Int)>128))))else(FE N m ((m.2.2.2.2.2.1)[i.toNat]!.2.2) (((m.2.2.2.2.2.1)[i.toNat]!.2.1).length:Int)).bind fun c=>some c
def Di(m:An)(i:Int)(a:Bool):Option Int:=if a=true then some 9 else ck (0≤i∧i<(m.2.2.2.2.2.2.2.2.2.2.2.2.1.length:Int)) (BC (((m.2.2.2.2.2.2.2.2.2.2.2.2.1)[i.toNat]!).2.2))
def Bz(m:An)(i:Int)(a:Bool):Option Int:=if a=true then some 7 else BC (((m.2.2.2.2.2.2.2.2.2.2.2.2.2.2.1)[i.toNat]!).2.1)
def Dh(m:An)(i:Int)(a:Bool):Option Int:=if a=true then ck (0≤i∧i<(m.2.2.2.2.2.2.2.2.2.2.2.2.2.2.1.length:Int)) (if(((m.2.2.2.2.2.2.2.2.2.2.2.2.2.2.1)[i.toNat]!).2.2.1:Int)<0 then Bz m i true else ck (0≤i∧i<(m.2.2.2.2.2.2.2.2.2.2.2.2.2.2.1.length:Int)) (if(((m.2.2.2.2.2.2.2.2.2.2.2.2.2.2.1)[i.toNat]!).2.2.1:Int)>65535 then Bz m i true else ck (0≤i∧i<(m.2.2.2.2.2.2.2.2.2.2.2.2.2.2.1.length:Int)) (if(((m.2.2.2.2.2.2.2.2.2.2.2.2.2.2.1)[i.toNat]!).2.2.2:Int)<1 then Bz m i true else ck (0≤i∧i<(m.2.2.2.2.2.2.2.2.2.2.2.2.2.2.1.length:Int)) (Bz m i (decide ((((m.2.2.2.2.2.2.2.2.2.2.2.2.2.2.1)[i.toNat]!).2.2.2:Int)>1048576))))))else Bz m i false
def EW(N:Nat)(m:An)(a:Int)(i:Int):Option Int:=if a=3 then ck (0≤i∧i<(m.2.2.2.1.length:Int)) (if(((m.2.2.2.1)[i.toNat]!).2:Int)<1 then Dk true else ck (0≤i∧i<(m.2.2.2.1.length:Int)) (Dk (decide ((((m.2.2.2.1)[i.toNat]!).2:Int)>128))))else if a=4 then ck (0≤i∧i<(m.2.2.2.2.1.length:Int)) ((DI N m ((m.2.2.2.2.1)[i.toNat]!.1) ((m.2.2.2.2.1)[i.toNat]!.2.1) ((m.2.2.2.2.1)[i.toNat]!.2.2.1) ((m.2.2.2.2.1)[i.toNat]!.2.2.2.1) ((m.2.2.2.2.1)[i.toNat]!.2.2.2.2)).bind fun b=>some b)else if a=5 then ck (0≤i∧i<(m.2.2.2.2.2.1.length:Int)) (if((((m.2.2.2.2.2.1)[i.toNat]!.2.1).length:Int):Int)>8 then some 2 else Bh N m i N 0)else if a=6 then ck (0≤i∧i<(m.2.2.2.2.2.2.1.length:Int)) ((DH N m ((m.2.2.2.2.2.2.1)[i.toNat]!.1) ((m.2.2.2.2.2.2.1)[i.toNat]!.2.1) ((m.2.2.2.2.2.2.1)[i.toNat]!.2.2.1) ((m.2.2.2.2.2.2.1)[i.toNat]!.2.2.2.1) ((m.2.2.2.2.2.2.1)[i.toNat]!.2.2.2.2.1) ((m.2.2.2.2.2.2.1)[i.toNat]!.2.2.2.2.2.1) ((m.2.2.2.2.2.2.1)[i.toNat]!.2.2.2.2.2.2)).bind fun c=>some c)else if a=12 then ck (0≤i∧i<(m.2.2.2.2.2.2.2.2.2.2.2.2.1.length:Int)) (if(((m.2.2.2.2.2.2.2.2.2.2.2.2.1)[i.toNat]!).2.1:Int)<1 then Di m i true else ck (0≤i∧i<(m.2.2.2.2.2.2.2.2.2.2.2.2.1.length:Int)) (Di m i (decide ((((m.2.2.2.2.2.2.2.2.2.2.2.2.1)[i.toNat]!).2.1:Int)>128))))else if a=13 then ck (0≤i∧i<(m.2.2.2.2.2.2.2.2.2.2.2.2.2.1.length:Int)) (BC (((m.2.2.2.2.2.2.2.2.2.2.2.2.2.1)[i.toNat]!).2))else if a=14 then ck (0≤i∧i<(m.2.2.2.2.2.2.2.2.2.2.2.2.2.2.1.length:Int)) (if(((m.2.2.2.2.2.2.2.2.2.2.2.2.2.2.1)[i.toNat]!).2.1:Int)≥1 then Dh m i (decide ((((m.2.2.2.2.2.2.2.2.2.2.2.2.2.2.1)[i.toNat]!).2.1:Int)≤8))else Dh m i false)else BC 1
theorem NC(N m part i r)(a:EW N m part i=some r)(ro)(mv:Ay)(hm:Aa2 ro mv m):Does prog 51 #[vA (Ac m mv),vI part,vI i] ro [] (pV (vI r)):=by
 unfold EW at a
 refine Aj follows func51 rfl 174 rfl _ fz3 (fun bl=> ?_)
 refine Ad<|rA rfl fun V=>rz rfl<|AZ rfl<|BR (fun tt ll=> ∃(d:Int),(BC d=some r)∧Is [(7,vI d)] [] tt ll) ?_ ?_
 ·refine AZ rfl<|Ah<|AZ rfl<|aE a rfl (fun ae a=> ?_) (fun ae a=> ?_)
  ·refine Aa fun bq af=>Ag<|rm 3 [0] rfl<|kC a fun p a=>rI (Rd.shp hm.2.2.1) p rfl<|rF (Rd.shp hm.2.2.1) (Bb p) rfl<|rE (Au hm.2.2.1) p 1 rfl<|rn 2 rfl<|AG 8 28 [(7,vI 1)] vB (fun b_=>Dk b_=some r) (fun br a T=> ?_) (fun b=> ?_)
   ·unfold Dk at a
    refine Ak<|af _ _ ?_
    refine aB a rfl (fun ag a=> ?_) (fun ag a=> ?_)
    ·refine AZ rfl ?_
     cases a
     exact aR eV1
    refine Ab<|fg _ (Sub.of (suC _ suN)) ?_
    exact⟨1,a,Af rfl rfl⟩
   rcases H:(decide ((((m.2.2.2.1)[i.toNat]!).2:Int)<1))with _|_
   ·replace a:=iF H a
    refine rn 1 rfl<|r_y rfl<|rm 2 [0] rfl<|r_y rfl<|kC a fun q a=>rI (Rd.shp hm.2.2.1) q rfl<|r_y rfl<|rF (Rd.shp hm.2.2.1) (Bb q) rfl<|r_y rfl<|rE (Au hm.2.2.1) q 1 rfl<|rn 2 rfl ?_
    first|exact b _ _ a rfl rfl|exact lx_cn _ _ (b _ _ a rfl rfl)
   replace a:=iD H a
   refine rn 8 rfl ?_
   first|exact b _ _ a rfl rfl|exact lx_cn _ _ (b _ _ a rfl rfl)
  refine AZ rfl<|aE a rfl (fun ah a=> ?_) (fun ah a=> ?_)
  ·refine Aa fun bs ai=>Bw [(some 37,false)] (conG prog [(37,cV (DI N m ((m.2.2.2.2.1)[i.toNat]!.1) ((m.2.2.2.2.1)[i.toNat]!.2.1) ((m.2.2.2.2.1)[i.toNat]!.2.2.1) ((m.2.2.2.2.1)[i.toNat]!.2.2.2.1) ((m.2.2.2.2.1)[i.toNat]!.2.2.2.2)) fun W=>vI W)]) [] (by decide+kernel) (fun hn=>AH)<|rm 4 [0,0] rfl<|kC a fun I a=> ?_
   obtain⟨_,⟨X,Y,Z,aj,ak,al,rfl⟩,hat31⟩:=RdN.at (E:=Ad8) hm.2.2.2.1 (De I)
   refine rI (RdN.shp hm.2.2.2.1) I rfl<|MG (vA #[vS ((m.2.2.2.2.1)[i.toNat]!.1),X,Y,Z,vI ((m.2.2.2.2.1)[i.toNat]!.2.2.2.2)]) (vs:=[vS ((m.2.2.2.2.1)[i.toNat]!.1),X,Y,Z,vI ((m.2.2.2.2.1)[i.toNat]!.2.2.2.2)]) (i.toNat*5) 0 rfl rfl (fun o w z_=>At.mono z_.ro_cell hat31) rfl<|kB a fun bu J a=>rg _ (cF oU) (fun o w z_=>NE N m ((m.2.2.2.2.1)[i.toNat]!.1) ((m.2.2.2.2.1)[i.toNat]!.2.1) ((m.2.2.2.2.1)[i.toNat]!.2.2.1) ((m.2.2.2.2.1)[i.toNat]!.2.2.2.1) ((m.2.2.2.2.1)[i.toNat]!.2.2.2.2) _ J z_.view mv (Aa2.mono z_.ro_cell hm) X (z_.r aj) Y (z_.r ak) Z (z_.r al)) (GB J)<|rz rfl<|ai _ _ ?_
   cases a
   exact aR eV1
  refine AZ rfl<|aE a rfl (fun am a=> ?_) (fun am a=> ?_)
  ·refine Ad<|rm 3 [0] rfl<|kC a fun K a=> ?_
   obtain⟨_,⟨s,n,c,L,rfl⟩,hat42⟩:=RdN.at (E:=Ad6) hm.2.2.2.2.1 (De K)
   refine rI (RdN.shp hm.2.2.2.2.1) K rfl<|MG (vA #[vS ((m.2.2.2.2.2.1)[i.toNat]!.1),s,n]) (vs:=[vS ((m.2.2.2.2.2.1)[i.toNat]!.1),s,n]) (i.toNat*3) 0 rfl rfl (fun o w z_=>At.mono z_.ro_cell hat42) rfl<|rA rfl fun G=>r_s [(G,188, #[vS ((m.2.2.2.2.2.1)[i.toNat]!.1),s,n]),(V,35,(Ac m mv))] 0 _ _ _ _ _ (#[vS ((m.2.2.2.2.2.1)[i.toNat]!.1),s,n]) rfl rfl rfl rfl (.ofS rfl rfl (Ae rfl (Ae (Shp.one (Rd.shp c)) (Ae (Shp.one (Rd.shp L)) Bt)))) rfl rfl<|Ak<|Aa fun bv an=>Ad<|rm 2 [0] rfl<|rL (Rd.shp c) rfl<|rz rfl ?_
   refine aD a rfl (fun ao a=> ?_) (fun ao a=> ?_)
   ·refine AZ rfl ?_
    cases a
    exact aR eV1
   refine Ab<|an _ _ ?_
   refine Aa fun bw ap=>AZ rfl<|Ah<|AC (fun tt ll nn=> ∃(e:Nat) (f:Int),(Bh N m i e f=some r)∧Is [(3,vP V 0),(8,vP G 0),(9,vI f)] [(G,188, #[vS ((m.2.2.2.2.2.1)[i.toNat]!.1),s,n]),(V,35,(Ac m mv))] tt ll∧nn=e+1) (N+1) ?_ ?_
   ·exact⟨N,0,a,Af rfl rfl,rfl⟩
   clear a;rintro t l _ ⟨e,f,a,⟨⟨T,rfl⟩,rfl⟩,rfl⟩
   rcases e with _|e
   ·exact absurd a (by simp [Bh])
   rw [Bh] at a
   refine Aa fun bx aq=>Ad<|rm 3 [0] rfl<|rL (Rd.shp c) rfl<|rz rfl<|aD a rfl (fun ar a=> ?_) (fun ar a=> ?_)
   ·refine Ab<|aq _ _ ?_
    refine Aa fun bz au=>Ah<|Aa fun ca av=>Ag<|rm 3 [0] rfl<|kC a fun M a=>rI (Rd.shp c) M rfl<|rE (Au c) M 0 rfl<|rn 2 rfl<|AG 7 69 [(3,vP V 0),(8,vP G 0),(9,vI f)] vB (fun b_=>Dj f (Bh N m i e) b_=some r) (fun cb a T=> ?_) (fun b=> ?_)
    ·unfold Dj at a
     refine Ak<|av _ _ ?_
     refine aB a rfl (fun aw a=> ?_) (fun aw a=> ?_)
     ·refine AZ rfl ?_
      cases a
      exact aR eV1
     refine Ab<|au _ _ ?_
     refine Ag<|rn 1 rfl<|kC a fun ax a=>rX ax rfl<|rz rfl<|fg _ (Sub.of (suK _ (suK _ suN))) ?_
     exact⟨e+1,by omega,e,(f+1),a,Af rfl rfl,rfl⟩
    rcases O:(decide ((((m.2.2.2.2.2.1)[i.toNat]!.2.1)[f.toNat]!:Int)<1))with _|_
    ·replace a:=iF O a
     refine rn 1 rfl<|r_y rfl<|rm 2 [0] rfl<|r_y rfl<|kC a fun P a=>rI (Rd.shp c) P rfl<|r_y rfl<|rE (Au c) P 0 rfl<|rn 2 rfl ?_
     first|exact b _ _ a rfl rfl|exact lx_cn _ _ (b _ _ a rfl rfl)
    replace a:=iD O a
    refine rn 7 rfl ?_
    first|exact b _ _ a rfl rfl|exact lx_cn _ _ (b _ _ a rfl rfl)
   refine AD<|ap _ _ ?_
   refine Ad<|rm 5 [1,0,0] rfl<|rL (Rd.shp c) rfl<|kB a fun cc ay a=>gV _ (cF eA) (fun o w z_=>Jv N m ((m.2.2.2.2.2.1)[i.toNat]!.2.2) (((m.2.2.2.2.2.1)[i.toNat]!.2.1).length:Int) _ ay z_.view mv (Aa2.mono z_.ro_cell hm) n (z_.r L))<|rz rfl ?_
   cases a
   exact aR eV1
  refine AZ rfl<|aE a rfl (fun az a=> ?_) (fun az a=> ?_)
  ·refine Aa fun cd ba=>Bw [(some 85,false)] (conG prog [(85,cV (DH N m ((m.2.2.2.2.2.2.1)[i.toNat]!.1) ((m.2.2.2.2.2.2.1)[i.toNat]!.2.1) ((m.2.2.2.2.2.2.1)[i.toNat]!.2.2.1) ((m.2.2.2.2.2.2.1)[i.toNat]!.2.2.2.1) ((m.2.2.2.2.2.2.1)[i.toNat]!.2.2.2.2.1) ((m.2.2.2.2.2.2.1)[i.toNat]!.2.2.2.2.2.1) ((m.2.2.2.2.2.2.1)[i.toNat]!.2.2.2.2.2.2)) fun W=>vI W)]) [] (by decide+kernel) (fun hn=>AH)<|rm 4 [0,0] rfl<|kC a fun Q a=> ?_
   obtain⟨_,⟨aa,ab,ac,bb,bc,bd,rfl⟩,hat76⟩:=RdN.at (E:=Ae1) hm.2.2.2.2.2.1 (De Q)
   refine rI (RdN.shp hm.2.2.2.2.2.1) Q rfl<|MG (vA #[vS ((m.2.2.2.2.2.2.1)[i.toNat]!.1),vI ((m.2.2.2.2.2.2.1)[i.toNat]!.2.1),aa,ab,vI ((m.2.2.2.2.2.2.1)[i.toNat]!.2.2.2.2.1),ac,vI ((m.2.2.2.2.2.2.1)[i.toNat]!.2.2.2.2.2.2)]) (vs:=[vS ((m.2.2.2.2.2.2.1)[i.toNat]!.1),vI ((m.2.2.2.2.2.2.1)[i.toNat]!.2.1),aa,ab,vI ((m.2.2.2.2.2.2.1)[i.toNat]!.2.2.2.2.1),ac,vI ((m.2.2.2.2.2.2.1)[i.toNat]!.2.2.2.2.2.2)]) (i.toNat*7) 0 rfl rfl (fun o w z_=>At.mono z_.ro_cell hat76) rfl<|kB a fun ce R a=>rg _ (cF oT) (fun o w z_=>ND N m ((m.2.2.2.2.2.2.1)[i.toNat]!.1) ((m.2.2.2.2.2.2.1)[i.toNat]!.2.1) ((m.2.2.2.2.2.2.1)[i.toNat]!.2.2.1) ((m.2.2.2.2.2.2.1)[i.toNat]!.2.2.2.1) ((m.2.2.2.2.2.2.1)[i.toNat]!.2.2.2.2.1) ((m.2.2.2.2.2.2.1)[i.toNat]!.2.2.2.2.2.1) ((m.2.2.2.2.2.2.1)[i.toNat]!.2.2.2.2.2.2) _ R z_.view mv (Aa2.mono z_.ro_cell hm) aa (z_.r bb) ab (z_.r bc) ac (z_.r bd)) (GB R)<|rz rfl<|ba _ _ ?_
   cases a
   exact aR eV1
  refine AZ rfl<|aE a rfl (fun be a=> ?_) (fun be a=> ?_)
  ·refine Aa fun cf bf=>Aa fun cg bg=>Ag<|rm 3 [0] rfl<|kC a fun u a=>rI (Rd.shp hm.2.2.2.2.2.2.2.2.2.2.2.1) u rfl<|rF (Rd.shp hm.2.2.2.2.2.2.2.2.2.2.2.1) (Bb u) rfl<|rE (Au hm.2.2.2.2.2.2.2.2.2.2.2.1) u 1 rfl<|rn 2 rfl ?_
   refine AG 8 103 [(2,vI i),(3,vP V 0)] vB (fun b_=>Di m i b_=some r) (fun ch a T=> ?_) (fun b=> ?_)
   ·unfold Di at a
    refine Ak<|bg _ _ ?_
    refine aB a rfl (fun bh a=> ?_) (fun bh a=> ?_)
    ·refine AZ rfl ?_
     cases a
     exact aR eV1
    refine Ab<|bf _ _ ?_
    refine Ag<|rm 3 [0] rfl<|kC a fun v a=>rI (Rd.shp hm.2.2.2.2.2.2.2.2.2.2.2.1) v rfl<|rF (Rd.shp hm.2.2.2.2.2.2.2.2.2.2.2.1) (Bb v) rfl<|rE (Au hm.2.2.2.2.2.2.2.2.2.2.2.1) v 2 rfl<|rz rfl<|fg _ (Sub.of (suC _ suN)) ?_
    exact⟨((m.2.2.2.2.2.2.2.2.2.2.2.2.1)[i.toNat]!).2.2,a,Af rfl rfl⟩
   rcases S:(decide ((((m.2.2.2.2.2.2.2.2.2.2.2.2.1)[i.toNat]!).2.1:Int)<1))with _|_
   ·replace a:=iF S a
    refine rn 1 rfl<|r_y rfl<|rm 2 [0] rfl<|r_y rfl<|kC a fun x a=>rI (Rd.shp hm.2.2.2.2.2.2.2.2.2.2.2.1) x rfl<|r_y rfl<|rF (Rd.shp hm.2.2.2.2.2.2.2.2.2.2.2.1) (Bb x) rfl<|r_y rfl<|rE (Au hm.2.2.2.2.2.2.2.2.2.2.2.1) x 1 rfl<|rn 2 rfl ?_
    first|exact b _ _ a rfl rfl|exact lx_cn _ _ (b _ _ a rfl rfl)
   replace a:=iD S a
   refine rn 8 rfl ?_
   first|exact b _ _ a rfl rfl|exact lx_cn _ _ (b _ _ a rfl rfl)
  refine AZ rfl<|aE a rfl (fun bi a=> ?_) (fun bi a=> ?_)
  ·refine Ag<|rm 3 [0] rfl<|kC a fun y a=>rI (Rd.shp hm.2.2.2.2.2.2.2.2.2.2.2.2.1) y rfl<|rF (Rd.shp hm.2.2.2.2.2.2.2.2.2.2.2.2.1) (Bb y) rfl<|rE (Au hm.2.2.2.2.2.2.2.2.2.2.2.2.1) y 1 rfl<|rz rfl<|fg _ (Sub.of (suC _ suN)) ?_
   exact⟨((m.2.2.2.2.2.2.2.2.2.2.2.2.2.1)[i.toNat]!).2,a,Af rfl rfl⟩
  refine AZ rfl<|aE a rfl (fun bj a=> ?_) (fun bj a=> ?_)
  ·refine Ad<|rm 3 [0] rfl<|kC a fun z a=>rI (Rd.shp hm.2.2.2.2.2.2.2.2.2.2.2.2.2) z rfl<|rF (Rd.shp hm.2.2.2.2.2.2.2.2.2.2.2.2.2) (Bb z) rfl<|rE (Au hm.2.2.2.2.2.2.2.2.2.2.2.2.2) z 1 rfl<|rz rfl<|Aa fun ci bk=>Ag ?_
   refine rn 3 rfl<|AG 3 131 [(2,vI i),(3,vP V 0),(7,vI (((m.2.2.2.2.2.2.2.2.2.2.2.2.2.2.1)[i.toNat]!).2.1))] vB (fun b_=>Dh m i b_=some r) (fun bm a T=> ?_) (fun b=> ?_)
   ·unfold Dh at a
    refine rn 1 rfl<|AG 35 167 [(7,vI (((m.2.2.2.2.2.2.2.2.2.2.2.2.2.2.1)[i.toNat]!).2.1))] vB (fun b_=>Bz m i b_=some r) (fun cj a T=> ?_) (fun b=> ?_)
    ·unfold Bz at a
     refine Ak<|bk _ _ ?_
     refine aB a rfl (fun ad a=> ?_) (fun ad a=> ?_)
     ·refine AZ rfl ?_
      cases a
      exact aR eV1
     refine Ab<|fg _ (Sub.of (suC _ suN)) ?_
     exact⟨((m.2.2.2.2.2.2.2.2.2.2.2.2.2.2.1)[i.toNat]!).2.1,a,Af rfl rfl⟩
    rcases A:bm with _|_
    ·replace a:=iB A a
     refine rn 8 rfl<|BT rfl rfl<|BT rfl rfl<|BT rfl rfl<|BT rfl rfl<|BT rfl rfl<|BT rfl rfl<|BT rfl rfl<|rn 2 rfl<|BT rfl rfl<|BT rfl rfl<|BT rfl rfl<|BT rfl rfl<|BT rfl rfl<|BT rfl rfl<|BT rfl rfl<|rn 2 rfl<|BT rfl rfl<|BT rfl rfl<|BT rfl rfl<|BT rfl rfl<|BT rfl rfl<|BT rfl rfl<|BT rfl rfl<|rn 2 rfl ?_
     first|exact b _ _ a rfl rfl|exact lx_cn _ _ (b _ _ a rfl rfl)
    replace a:=ifp A a
    refine rn 1 rfl<|r_y rfl<|rm 2 [0] rfl<|r_y rfl<|kC a fun g a=>rI (Rd.shp hm.2.2.2.2.2.2.2.2.2.2.2.2.2) g rfl<|r_y rfl<|rF (Rd.shp hm.2.2.2.2.2.2.2.2.2.2.2.2.2) (Bb g) rfl<|r_y rfl<|rE (Au hm.2.2.2.2.2.2.2.2.2.2.2.2.2) g 2 rfl ?_
    refine rn 2 rfl ?_
    rcases B:(decide ((((m.2.2.2.2.2.2.2.2.2.2.2.2.2.2.1)[i.toNat]!).2.2.1:Int)<0))with _|_
    ·replace a:=iF B a
     refine rn 1 rfl<|r_y rfl<|rm 2 [0] rfl<|r_y rfl<|kC a fun h a=>rI (Rd.shp hm.2.2.2.2.2.2.2.2.2.2.2.2.2) h rfl<|r_y rfl<|rF (Rd.shp hm.2.2.2.2.2.2.2.2.2.2.2.2.2) (Bb h) rfl<|r_y rfl<|rE (Au hm.2.2.2.2.2.2.2.2.2.2.2.2.2) h 2 rfl ?_
     refine rn 3 rfl<|cG [(2,vI i),(3,vP V 0),(7,vI (((m.2.2.2.2.2.2.2.2.2.2.2.2.2.2.1)[i.toNat]!).2.1)),(132,vB true),(149,vB (decide ((((m.2.2.2.2.2.2.2.2.2.2.2.2.2.2.1)[i.toNat]!).2.2.1:Int)>65535)))] rfl (fun T=> ?_)
     rcases C:(decide ((((m.2.2.2.2.2.2.2.2.2.2.2.2.2.2.1)[i.toNat]!).2.2.1:Int)>65535))with _|_
     ·replace a:=iF C a
      refine rn 1 rfl<|r_y rfl<|rm 2 [0] rfl<|r_y rfl<|kC a fun j a=>rI (Rd.shp hm.2.2.2.2.2.2.2.2.2.2.2.2.2) j rfl<|r_y rfl<|rF (Rd.shp hm.2.2.2.2.2.2.2.2.2.2.2.2.2) (Bb j) rfl<|r_y rfl<|rE (Au hm.2.2.2.2.2.2.2.2.2.2.2.2.2) j 3 rfl ?_
      refine rn 3 rfl ?_
      rcases D:(decide ((((m.2.2.2.2.2.2.2.2.2.2.2.2.2.2.1)[i.toNat]!).2.2.2:Int)<1))with _|_
      ·replace a:=iF D a
       refine rn 1 rfl<|r_y rfl<|rm 2 [0] rfl<|r_y rfl<|kC a fun k a=>rI (Rd.shp hm.2.2.2.2.2.2.2.2.2.2.2.2.2) k rfl<|r_y rfl<|rF (Rd.shp hm.2.2.2.2.2.2.2.2.2.2.2.2.2) (Bb k) rfl<|r_y rfl<|rE (Au hm.2.2.2.2.2.2.2.2.2.2.2.2.2) k 3 rfl ?_
       refine rn 3 rfl ?_
       first|exact b _ _ a rfl rfl|exact lx_cn _ _ (b _ _ a rfl rfl)
      replace a:=iD D a
      refine rn 9 rfl ?_
      first|exact b _ _ a rfl rfl|exact lx_cn _ _ (b _ _ a rfl rfl)
     replace a:=iD C a
     refine rn 18 rfl ?_
     first|exact b _ _ a rfl rfl|exact lx_cn _ _ (b _ _ a rfl rfl)
    replace a:=iD B a
    refine rn 27 rfl ?_
    first|exact b _ _ a rfl rfl|exact lx_cn _ _ (b _ _ a rfl rfl)
   rcases F:(decide ((((m.2.2.2.2.2.2.2.2.2.2.2.2.2.2.1)[i.toNat]!).2.1:Int)≥1))with _|_
   ·replace a:=iF F a
    refine rn 3 rfl ?_
    first|exact b _ _ a rfl rfl|exact lx_cn _ _ (b _ _ a rfl rfl)
   replace a:=iD F a
   refine rn 3 rfl ?_
   first|exact b _ _ a rfl rfl|exact lx_cn _ _ (b _ _ a rfl rfl)
  refine Ab<|fg _ (Sub.of (suC _ suN)) ?_
  exact⟨1,a,Af rfl rfl⟩
 clear a;rintro t l ⟨d,a,⟨T,rfl⟩,rfl⟩
 unfold BC at a
 refine Aa fun K4 bn=>Aa fun K5 bo=>Ag<|rn 3 rfl<|AG 3 173 [] vB (fun b_=>Dl b_=some r) (fun b6 a T=> ?_) (fun b=> ?_)
 ·unfold Dl at a
  refine Ak<|bo _ _ ?_
  refine aB a rfl (fun bp a=> ?_) (fun bp a=> ?_)
  ·refine AZ rfl ?_
   cases a
   exact aR eV1
  refine Ab<|bn _ _ ?_
  refine AZ rfl ?_
  cases a
  exact aR eV1
 rcases U:(decide (d<1))with _|_
 ·replace a:=iF U a
  refine rn 3 rfl ?_
  first|exact b _ _ a rfl rfl|exact lx_cn _ _ (b _ _ a rfl rfl)
 replace a:=iD U a
 refine rn 3 rfl ?_
 first|exact b _ _ a rfl rfl|exact lx_cn _ _ (b _ _ a rfl rfl)
def DJ(a:Bool):Option (Int×Int):=if a=true then some (0,7)else some (0,0)
def DK(m:An)(a:Bool):Option (Int×Int):=if a=true then DJ true else DJ (decide (m.2.2.2.2.2.2.2.2.2.2.2.2.2.2.2.2.2>4))
def DL(m:An)(a:Bool):Option (Int×Int):=if a=true then DK m true else DK m (decide (m.2.2.2.2.2.2.2.2.2.2.2.2.2.2.2.2.2<0))
def DM(m:An)(a:Bool):Option (Int×Int):=if a=true then DL m true else DL m (decide (m.2.2.2.2.2.2.2.2.2.2.2.2.2.2.2.2.1>32))
def DN(m:An)(a:Bool):Option (Int×Int):=if a=true then DM m true else DM m (decide (m.2.2.2.2.2.2.2.2.2.2.2.2.2.2.2.2.1<1))
def BV(m:An)(b:Int)(a:Int→Option (Int×Int)):Nat→Int→Option (Int×Int)
  |0,_=>none
  |d+1,c=>if c<b then ck (0≤c∧c<(m.2.2.2.2.2.2.2.2.2.1.length:Int)) (ck (0≤b∧b<(m.2.2.2.2.2.2.2.2.2.1.length:Int)) (if((m.2.2.2.2.2.2.2.2.2.1)[c.toNat]!:Int)=(m.2.2.2.2.2.2.2.2.2.1)[b.toNat]! then some (b,6)else ck (R64 (c+1)) ((BV m b a d) (c+1))))else ck (R64 (b+1)) (a (b+1))
def Bx(N:Nat)(m:An):Nat→Int→Option (Int×Int)
  |0,_=>none
  |c+1,a=>if a<(m.2.2.2.2.2.2.2.2.2.1.length:Int)then ck (0≤a∧a<(m.2.2.2.2.2.2.2.2.2.1.length:Int)) ((Bc N m ((m.2.2.2.2.2.2.2.2.2.1)[a.toNat]!)).bind fun b=>if b.2.2.2.2.2.2=true then BV m a (Bx N m c) N 0 else some (a,5))else some (0,0)
def Ck(b:Int)(a:Int→Option (Int×Int))(c:Int):Option (Int×Int):=if(c:Int)≠0 then some (b,c)else ck (R64 (b+1)) (a (b+1))
def Cl(N:Nat)(m:An)(p:Int)(b:Int)(a:Int→Option (Int×Int))(c:Int):Option (Int×Int):=if c=0 then(EW N m p b).bind fun d=>Ck b a d else Ck b a c
def Dv(N:Nat)(m:An)(p:Int)(d:List (List UInt8))(b:Int)(a:Int→Option (Int×Int))(c:Int):Option (Int×Int):=if c=0 then ck (R64 (b+1)) (ck (0≤(b+1)∧(b+1)≤(d.length:Int)) ((Gp N (((d).take (((b+1)).toNat)).drop 0)).bind fun e=>Cl N m p b a e))else Cl N m p b a c
def AL(N:Nat)(m:An)(p:Int)(b:List (List UInt8)):Nat→Int→Option (Int×Int)
  |0,_=>none
  |c+1,a=>if a<(b.length:Int)then if p=1 then ck (0≤a∧a<(m.2.1.length:Int)) ((FX N ((m.2.1)[a.toNat]!.1) ((m.2.1)[a.toNat]!.2.1) ((m.2.1)[a.toNat]!.2.2.1) ((m.2.1)[a.toNat]!.2.2.2.1) ((m.2.1)[a.toNat]!.2.2.2.2.1) ((m.2.1)[a.toNat]!.2.2.2.2.2)).bind fun d=>Dv N m p b a (AL N m p b c) d)else Dv N m p b a (AL N m p b c) 0 else some (0,0)
def Dw(N:Nat)(m:An)(p:Int)(a:List (List UInt8))(b:Bool):Option (Int×Int):=if b=true then some (0,5)else if(a.length:Int)>([0,16,0,16,16,32,8,0,0,0,0,0,8,8,8])[p.toNat]! then some (0,2)else AL N m p a N 0
def FC(N:Nat)(m:An)(p:Int):Option (Int×Int):=if p=0 then(Gh N m.1).bind fun g=>if g=true then if m.2.2.2.2.2.2.2.2.2.2.2.2.2.2.2.1<1 then DN m true else DN m (decide (m.2.2.2.2.2.2.2.2.2.2.2.2.2.2.2.1>64))else some (0,4)else if p=2 then(Gr N m.2.1 m.2.2.1).bind fun f=>some (0,f)else if p=7 then(DO N m m.2.2.2.2.2.2.2.1).bind fun c=>some (c.1,c.2)else if p=8 then(DO N m m.2.2.2.2.2.2.2.2.1).bind fun b=>some (b.1,b.2)else if p=9 then if(m.2.2.2.2.2.2.2.2.2.1.length:Int)>32 then some (0,2)else Bx N m N 0 else if p=10 then(Em N m m.2.2.2.2.2.2.2.2.2.2.1).bind fun e=>some (e.1,e.2)else if p=11 then(Em N m m.2.2.2.2.2.2.2.2.2.2.2.1).bind fun d=>some (d.1,d.2)else(rTm N m p).bind fun a=>ck (0≤p∧p<(([0,16,0,16,16,32,8,0,0,0,0,0,8,8,8]).length:Int)) (if p=4 then Dw N m p a (((a.length:Int)==0))else Dw N m p a false)
theorem Oe(N m p r)(a:FC N m p=some r)(ro)(mv:Ay)(hm:Aa2 ro mv m):Does prog 27 #[vA (Ac m mv),vI p] ro [] (pV (vT #[vI r.1,vI r.2])):=by
 unfold FC at a
 refine Aj follows func27 rfl 180 rfl _ fz2 (fun cd=> ?_)
 refine Ad<|rA rfl fun e=>rz rfl<|Aa fun K3 ce=>AZ rfl<|Ah<|AZ rfl<|aE a rfl (fun cf a=> ?_) (fun cf a=> ?_)
 ·refine Aa fun K7 cg=>Ad<|rm 2 [0] rfl<|kB a fun r9 aq a=>rc _ (cF eH) (LO N m.1 _ aq)<|rz rfl<|Bv _ rfl (fun x=> ?_) (fun x=> ?_)
  ·replace a:=ifn (Bool.eq_false_iff.1 (CM x)) a
   refine AZ rfl ?_
   cases a
   exact aR eV2
  replace a:=ifp (CN x) a
  refine Ab<|cg _ _ ?_
  refine Aa fun cu ar=>Aa fun cv au=>Ag<|rm 4 [0] rfl<|AG 4 28 [(2,vP e 0)] vB (fun b_=>DN m b_=some r) (fun ch a T=> ?_) (fun h=> ?_)
  ·unfold DN at a
   refine rn 1 rfl<|AG 4 33 [(2,vP e 0)] vB (fun b_=>DM m b_=some r) (fun ci a T=> ?_) (fun h=> ?_)
   ·unfold DM at a
    refine rn 1 rfl<|AG 4 38 [(2,vP e 0)] vB (fun b_=>DL m b_=some r) (fun cj a T=> ?_) (fun h=> ?_)
    ·unfold DL at a
     refine rn 1 rfl<|AG 4 43 [(2,vP e 0)] vB (fun b_=>DK m b_=some r) (fun ck a T=> ?_) (fun h=> ?_)
     ·unfold DK at a
      refine rn 1 rfl<|AG 4 48 [] vB (fun b_=>DJ b_=some r) (fun cw a T=> ?_) (fun h=> ?_)
      ·unfold DJ at a
       refine Ak<|au _ _ ?_
       refine aB a rfl (fun av a=> ?_) (fun av a=> ?_)
       ·refine AZ rfl ?_
        cases a
        exact aR eV2
       refine Ab<|ar _ _ ?_
       refine AZ rfl ?_
       cases a
       exact aR eV2
      rcases J:ck with _|_
      ·replace a:=iB J a
       refine rn 1 rfl<|r_y rfl<|rm 3 [0] rfl ?_
       first|exact h _ _ a rfl rfl|exact lx_cn _ _ (h _ _ a rfl rfl)
      replace a:=ifp J a
      refine rn 4 rfl ?_
      first|exact h _ _ a rfl rfl|exact lx_cn _ _ (h _ _ a rfl rfl)
     rcases K:cj with _|_
     ·replace a:=iB K a
      refine rn 1 rfl<|r_y rfl<|rm 3 [0] rfl ?_
      first|exact h _ _ a rfl rfl|exact lx_cn _ _ (h _ _ a rfl rfl)
     replace a:=ifp K a
     refine rn 4 rfl ?_
     first|exact h _ _ a rfl rfl|exact lx_cn _ _ (h _ _ a rfl rfl)
    rcases L:ci with _|_
    ·replace a:=iB L a
     refine rn 1 rfl<|r_y rfl<|rm 3 [0] rfl ?_
     first|exact h _ _ a rfl rfl|exact lx_cn _ _ (h _ _ a rfl rfl)
    replace a:=ifp L a
    refine rn 4 rfl ?_
    first|exact h _ _ a rfl rfl|exact lx_cn _ _ (h _ _ a rfl rfl)
   rcases M:ch with _|_
   ·replace a:=iB M a
    refine rn 1 rfl<|r_y rfl<|rm 3 [0] rfl ?_
    first|exact h _ _ a rfl rfl|exact lx_cn _ _ (h _ _ a rfl rfl)
   replace a:=ifp M a
   refine rn 4 rfl ?_
   first|exact h _ _ a rfl rfl|exact lx_cn _ _ (h _ _ a rfl rfl)
  rcases O:(decide (m.2.2.2.2.2.2.2.2.2.2.2.2.2.2.2.1<1))with _|_
  ·replace a:=iF O a
   refine rn 1 rfl<|r_y rfl<|rm 3 [0] rfl ?_
   first|exact h _ _ a rfl rfl|exact lx_cn _ _ (h _ _ a rfl rfl)
  replace a:=iD O a
  refine rn 4 rfl ?_
  first|exact h _ _ a rfl rfl|exact lx_cn _ _ (h _ _ a rfl rfl)
 refine AZ rfl<|aE a rfl (fun aw a=> ?_) (fun aw a=> ?_)
 ·refine Ad<|rm 4 [0,0] rfl<|kB a fun cx ax a=>gV _ (cF pm) (fun o w z_=>Pg N m.2.1 m.2.2.1 _ ax z_.view mv.1 (RdN.mono z_.ro_cell hm.1) mv.2.1 ((Au hm.2.1) o w z_))<|rz rfl ?_
  cases a
  exact aR eV2
 refine AZ rfl<|aE a rfl (fun ay a=> ?_) (fun ay a=> ?_)
 ·refine Ad<|rm 3 [0,0] rfl<|kB a fun cy az a=>gV _ (cF eG) (fun o w z_=>Jl N m m.2.2.2.2.2.2.2.1 _ az z_.view mv (Aa2.mono z_.ro_cell hm) mv.2.2.2.2.2.2.1 (RdN.mono z_.ro_cell hm.2.2.2.2.2.2.1))<|rz rfl ?_
  cases a
  exact aR eV2
 refine AZ rfl<|aE a rfl (fun ba a=> ?_) (fun ba a=> ?_)
 ·refine Ad<|rm 3 [0,0] rfl<|kB a fun cz bb a=>gV _ (cF eG) (fun o w z_=>Jl N m m.2.2.2.2.2.2.2.2.1 _ bb z_.view mv (Aa2.mono z_.ro_cell hm) mv.2.2.2.2.2.2.2.1 (RdN.mono z_.ro_cell hm.2.2.2.2.2.2.2.1))<|rz rfl ?_
  cases a
  exact aR eV2
 refine AZ rfl<|aE a rfl (fun bc a=> ?_) (fun bc a=> ?_)
 ·refine Aa fun da bd=>Ad<|rm 2 [0] rfl<|rL (Rd.shp hm.2.2.2.2.2.2.2.2.1) rfl<|rz rfl<|aD a rfl (fun be a=> ?_) (fun be a=> ?_)
  ·refine AZ rfl ?_
   cases a
   exact aR eV2
  refine Ab<|bd _ _ ?_
  refine Aa fun db bf=>AZ rfl<|Ah<|AC (fun tt ll nn=> ∃(j:Nat) (i:Int),(Bx N m j i=some r)∧Is [(2,vP e 0),(6,vI i)] [(e,35,(Ac m mv))] tt ll∧nn=j+1) (N+1) ?_ ?_
  ·exact⟨N,0,a,Af rfl rfl,rfl⟩
  clear a;rintro t l _ ⟨j,i,a,⟨⟨T,rfl⟩,rfl⟩,rfl⟩
  rcases j with _|j
  ·exact absurd a (by simp [Bx])
  rw [Bx] at a
  refine Aa fun dc bg=>Ad<|rm 3 [0] rfl<|rL (Rd.shp hm.2.2.2.2.2.2.2.2.1) rfl<|rz rfl<|aD a rfl (fun bh a=> ?_) (fun bh a=> ?_)
  ·refine Ab<|bg _ _ ?_
   refine Aa fun dd bi=>Ah<|Aa fun de bj=>sD (p:= ∀d,Bc N m ((m.2.2.2.2.2.2.2.2.2.1)[i.toNat]!)=some d→ ∃s_,Rd Ab4 ro s_ d.2.1) (fun w_ hi_ hro_ d cl=>by obtain⟨_,_,⟨_,h_,_⟩⟩:=rY (PP:=(oR Ab4 ro d.2.1 fun s_0=>(oE (vT #[vA #[vS d.1,s_0,vI d.2.2.1,vI d.2.2.2.1,vI d.2.2.2.2.1,vI d.2.2.2.2.2.1],vB d.2.2.2.2.2.2]) []))) w_ trivial hro_ (CX N m ((m.2.2.2.2.2.2.2.2.2.1)[i.toNat]!) _ cl ro mv hm);exact⟨_,h_⟩) (fun bk=> ?_)
   refine Bw [(some 92,false)] (conG prog [(92,fun _ _ v_ L_ U_=> ∀d,Bc N m ((m.2.2.2.2.2.2.2.2.2.1)[i.toNat]!)=some d→(pO (List.flatten []) (oR Ab4 ro d.2.1 fun s_0=>(oE (vT #[vA #[vS d.1,s_0,vI d.2.2.1,vI d.2.2.2.1,vI d.2.2.2.2.1,vI d.2.2.2.2.2.1],vB d.2.2.2.2.2.2]) []))) v_ L_ U_)]) [] (by decide+kernel) (fun hn=>AH)<|rm 4 [0,0] rfl<|kC a fun P a=>rI (Rd.shp hm.2.2.2.2.2.2.2.2.1) P rfl<|rE (Au hm.2.2.2.2.2.2.2.2.1) P 0 rfl<|kB a fun c y a=>rT (Ls:=[[(e,35,(Ac m mv))]]) (RL:=[[(e,35,(Ac m mv))]]) (oR Ab4 ro c.2.1 fun s_0=>(oE (vT #[vA #[vS c.1,s_0,vI c.2.2.1,vI c.2.2.2.1,vI c.2.2.2.2.1,vI c.2.2.2.2.2.1],vB c.2.2.2.2.2.2]) [])) 92 46 _ rfl rfl rfl (cF RV) (fun o w z_=>DoesI.ro_mono (Jy (Ls:=[[(e,35,(Ac m mv))]]) (is:=[]) rfl z_) (CX N m ((m.2.2.2.2.2.2.2.2.2.1)[i.toNat]!) _ y ro mv hm)) (GB y) (by rintro v_ O_ ⟨_,_,⟨_,h_⟩⟩;exact h_) (Ab8.sub (R:=[]) (pZ (bk _ y) fun s_0=>(SY rfl)) (Sub.pick [] [] rfl)) ?_
   rintro _ _ ⟨W,bl,⟨rfl,rfl⟩⟩
   refine Db (Ls:=[[(e,35,(Ac m mv))]]) (Ls':=[[(e,35,(Ac m mv))]]) [0] rfl rfl<|rn 3 rfl<|rA rfl fun cm=>Yl [(cm,106, #[vS c.1,W,vI c.2.2.1,vI c.2.2.2.1,vI c.2.2.2.2.1,vI c.2.2.2.2.2.1]),(e,35,(Ac m mv))] 0 _ _ _ (#[Value.string (⟨#[]⟩),nS,vI 0,vI 0,vI 0,vI 0]) (#[vS c.1,W,vI c.2.2.1,vI c.2.2.2.1,vI c.2.2.2.2.1,vI c.2.2.2.2.2.1]) (#[vS c.1,W,vI c.2.2.1,vI c.2.2.2.1,vI c.2.2.2.2.1,vI c.2.2.2.2.2.1]) rfl rfl rfl rfl rfl (.ofS rfl rfl (Ae rfl (Ae (Shp.one (Rd.shp bl)) (Ae rfl (Ae rfl (Ae rfl (Ae rfl Bt))))))) rfl rfl<|rz rfl<|bj _ _ ?_
   refine Aa fun dg bm=>AZ rfl<|Bv _ rfl (fun z=> ?_) (fun z=> ?_)
   ·replace a:=ifn (Bool.eq_false_iff.1 (CM z)) a
    refine AZ rfl ?_
    cases a
    exact aR eV2
   replace a:=ifp (CN z) a
   refine Ab<|bm _ _ ?_
   refine AZ rfl<|Ah<|Bo [(e,35,(Ac m mv))] (Sub.of (suC _ (suK _ suN)))<|AC (fun tt ll nn=> ∃(n:Nat) (I:Int),(BV m i (Bx N m j) n I=some r)∧Is [(2,vP e 0),(6,vI i),(9,vI I)] [(e,35,(Ac m mv))] tt ll∧nn=n+1) (N+1) ?_ ?_
   ·exact⟨N,0,a,Af rfl rfl,rfl⟩
   clear a;rintro t l _ ⟨n,I,a,⟨⟨T,rfl⟩,rfl⟩,rfl⟩
   rcases n with _|n
   ·exact absurd a (by simp [BV])
   rw [BV] at a
   refine Aa fun dh bn=>AZ rfl<|aD a rfl (fun bo a=> ?_) (fun bo a=> ?_)
   ·refine Ab<|bn _ _ ?_
    refine Aa fun di bp=>Ah<|Aa fun dj bq=>Hb [] (by decide+kernel) (fun hn=>AH)<|rm 3 [0] rfl<|kC a fun Q a=>rI (Rd.shp hm.2.2.2.2.2.2.2.2.1) Q rfl<|rE (Au hm.2.2.2.2.2.2.2.2.1) Q 0 rfl<|rm 3 [0] rfl<|kC a fun S a=>rI (Rd.shp hm.2.2.2.2.2.2.2.2.1) S rfl<|rE (Au hm.2.2.2.2.2.2.2.2.1) S 0 rfl<|rz rfl<|bq _ _ ?_
    refine aE a rfl (fun br a=> ?_) (fun br a=> ?_)
    ·refine AZ rfl ?_
     cases a
     exact aR eV2
    refine Ab<|bp _ _ ?_
    refine Ag<|rn 1 rfl<|kC a fun bs a=>rX bs rfl<|rz rfl<|fg _ (Sub.of (suK _ suN)) ?_
    exact⟨n+1,by omega,n,(I+1),a,Af rfl rfl,rfl⟩
   refine AD<|bi _ _ ?_
   refine Ag<|rn 1 rfl<|kC a fun bt a=>rX bt rfl<|rz rfl<|fg _ (Sub.of (suK _ suN)) ?_
   exact⟨j+1,by omega,j,(i+1),a,Af rfl rfl,rfl⟩
  refine AD<|bf _ _ ?_
  refine AZ rfl ?_
  cases a
  exact aR eV2
 refine AZ rfl<|aE a rfl (fun bu a=> ?_) (fun bu a=> ?_)
 ·refine Ad<|rm 3 [0,0] rfl<|kB a fun dk bv a=>gV _ (cF eF) (fun o w z_=>Jq N m m.2.2.2.2.2.2.2.2.2.2.1 _ bv z_.view mv (Aa2.mono z_.ro_cell hm) mv.2.2.2.2.2.2.2.2.2.1 ((Au hm.2.2.2.2.2.2.2.2.2.1) o w z_))<|rz rfl ?_
  cases a
  exact aR eV2
 refine AZ rfl<|aE a rfl (fun bw a=> ?_) (fun bw a=> ?_)
 ·refine Ad<|rm 3 [0,0] rfl<|kB a fun dl bx a=>gV _ (cF eF) (fun o w z_=>Jq N m m.2.2.2.2.2.2.2.2.2.2.2.1 _ bx z_.view mv (Aa2.mono z_.ro_cell hm) mv.2.2.2.2.2.2.2.2.2.2.1 ((Au hm.2.2.2.2.2.2.2.2.2.2.1) o w z_))<|rz rfl ?_
  cases a
  exact aR eV2
 refine Ab<|ce _ _ ?_
 refine Ad<|rm 2 [0] rfl<|kB a fun q bz a=>gS (Ls:=[[(e,35,(Ac m mv))]]) (cF pl) (fun o w z_=>rTg N m p _ bz z_.view mv (Aa2.mono z_.ro_cell hm)) (fun s g A=> ?_)
 refine rz rfl<|Ad<|gB (Ls:=[[(e,35,(Ac m mv))],g]) 3 BJ [0,16,0,16,16,32,8,0,0,0,0,0,8,8,8] (fun dm U V=> ?_)
 refine rn 1 rfl<|kC a fun B a=>rI (Sl.shp V) B rfl<|rE (Av V (Ai (Ls:=[[(e,35,(Ac m mv))],g,U]) (k:=2) rfl rfl)) B 0 rfl<|rz rfl<|Aa fun cn X=>Aa fun co Y=>Ag<|rn 3 rfl ?_
 refine AG 4 144 [(1,vI p),(2,vP e 0),(10,s),(11,vI (([0,16,0,16,16,32,8,0,0,0,0,0,8,8,8])[p.toNat]!))] vB (fun b_=>Dw N m p q b_=some r) (fun cp a T=> ?_) (fun h=> ?_)
 ·unfold Dw at a
  refine Ak<|Y _ _ ?_
  refine aB a rfl (fun Z a=> ?_) (fun Z a=> ?_)
  ·refine AZ rfl ?_
   cases a
   exact aR eV2
  refine Ab<|X _ _ ?_
  refine Aa fun cq aa=>Ad<|rn 1 rfl<|rL (Sl.shp A) rfl<|rz rfl<|aD a rfl (fun ab a=> ?_) (fun ab a=> ?_)
  ·refine AZ rfl ?_
   cases a
   exact aR eV2
  refine Ab<|aa _ _ ?_
  refine Aa fun cr ac=>AZ rfl<|Ah<|Bo _ (Sub.pick [[(e,35,(Ac m mv))],g,U] [0,1] rfl)<|AC (fun tt ll nn=> ∃(f:Nat) (b:Int),(AL N m p q f b=some r)∧Is [(1,vI p),(2,vP e 0),(10,s),(12,vI b)] (List.flatten [[(e,35,(Ac m mv))],g]) tt ll∧nn=f+1) (N+1) ?_ ?_
  ·exact⟨N,0,a,Af rfl rfl,rfl⟩
  clear a;rintro t l _ ⟨f,b,a,⟨⟨T,rfl⟩,rfl⟩,rfl⟩
  rcases f with _|f
  ·exact absurd a (by simp [AL])
  rw [AL] at a
  refine Aa fun cs ad=>Ad<|rn 2 rfl<|rL (Sl.shp A) rfl<|rz rfl<|aD a rfl (fun ae a=> ?_) (fun ae a=> ?_)
  ·refine Ab<|ad _ _ ?_
   refine Aa fun ct af=>Ah<|AZ rfl<|BR (fun tt ll=> ∃(u:Int),(Dv N m p q b (AL N m p q f) u=some r)∧Is [(1,vI p),(2,vP e 0),(10,s),(12,vI b),(13,vI u)] (List.flatten [[(e,35,(Ac m mv))],g]) tt ll) ?_ ?_
   ·refine AZ rfl<|aE a rfl (fun ag a=> ?_) (fun ag a=> ?_)
    ·refine Ag<|rm 3 [0] rfl<|kC a fun C a=> ?_
     obtain⟨_,⟨D,ah,rfl⟩,hat139⟩:=RdN.at (E:=Ad4) hm.1 (De C)
     refine rI (RdN.shp hm.1) C rfl<|MG (vA #[vS ((m.2.1)[b.toNat]!.1),D,vI ((m.2.1)[b.toNat]!.2.2.1),vI ((m.2.1)[b.toNat]!.2.2.2.1),vI ((m.2.1)[b.toNat]!.2.2.2.2.1),vI ((m.2.1)[b.toNat]!.2.2.2.2.2)]) (vs:=[vS ((m.2.1)[b.toNat]!.1),D,vI ((m.2.1)[b.toNat]!.2.2.1),vI ((m.2.1)[b.toNat]!.2.2.2.1),vI ((m.2.1)[b.toNat]!.2.2.2.2.1),vI ((m.2.1)[b.toNat]!.2.2.2.2.2)]) (b.toNat*6) 0 rfl rfl (fun o w z_=>At.mono z_.ro_cell hat139) rfl<|kB a fun ca ai a=>gV _ (cF pk) (fun o w z_=>OV N ((m.2.1)[b.toNat]!.1) ((m.2.1)[b.toNat]!.2.1) ((m.2.1)[b.toNat]!.2.2.1) ((m.2.1)[b.toNat]!.2.2.2.1) ((m.2.1)[b.toNat]!.2.2.2.2.1) ((m.2.1)[b.toNat]!.2.2.2.2.2) _ ai z_.view D (z_.r ah))<|rz rfl<|fg _ (Sub.pick [[(e,35,(Ac m mv))],g] [0,1] rfl) ?_
     exact⟨ca,a,Af rfl rfl⟩
    refine Ab<|fg _ (Sub.pick [[(e,35,(Ac m mv))],g] [0,1] rfl) ?_
    exact⟨0,a,Af rfl rfl⟩
   clear a;rintro t l ⟨u,a,⟨T,rfl⟩,rfl⟩
   unfold Dv at a
   refine BR (fun tt ll=> ∃(v:Int),(Cl N m p b (AL N m p q f) v=some r)∧Is [(1,vI p),(2,vP e 0),(10,s),(12,vI b),(13,vI v)] (List.flatten [[(e,35,(Ac m mv))],g]) tt ll) ?_ ?_
   ·refine AZ rfl<|aE a rfl (fun aj a=> ?_) (fun aj a=> ?_)
    ·refine Ag<|rn 2 rfl<|kC a fun ak a=>rX ak rfl<|kC a fun F a=>r_W (Fy s 0 (((b+1)).toNat) 1) rfl (ET (HC rfl rfl rfl rfl (Sl.shp A) F))<|kB a fun cb al a=>gV _ (cF pj) (fun o w z_=>Pf N (((q).take (((b+1)).toNat)).drop 0) _ al z_.view (Fy s 0 (((b+1)).toNat) 1) ((Av (Sl.take0 A (GD F.2)) (Ai (Ls:=[[(e,35,(Ac m mv))],g]) (k:=1) rfl rfl)) o w z_))<|rz rfl<|fg _ (Sub.pick [[(e,35,(Ac m mv))],g] [0,1] rfl) ?_
     exact⟨cb,a,Af rfl rfl⟩
    refine Ab<|fg _ (Sub.pick [[(e,35,(Ac m mv))],g] [0,1] rfl) ?_
    exact⟨u,a,Af rfl rfl⟩
   clear a;rintro t l ⟨v,a,⟨T,rfl⟩,rfl⟩
   unfold Cl at a
   refine BR (fun tt ll=> ∃(G:Int),(Ck b (AL N m p q f) G=some r)∧Is [(1,vI p),(2,vP e 0),(10,s),(12,vI b),(13,vI G)] (List.flatten [[(e,35,(Ac m mv))],g]) tt ll) ?_ ?_
   ·refine AZ rfl<|aE a rfl (fun am a=> ?_) (fun am a=> ?_)
    ·refine Ag<|rm 3 [0] rfl<|kB a fun cc an a=>gV _ (cF pi) (fun o w z_=>NC N m p b _ an z_.view mv (Aa2.mono z_.ro_cell hm))<|rz rfl<|fg _ (Sub.pick [[(e,35,(Ac m mv))],g] [0,1] rfl) ?_
     exact⟨cc,a,Af rfl rfl⟩
    refine Ab<|fg _ (Sub.pick [[(e,35,(Ac m mv))],g] [0,1] rfl) ?_
    exact⟨v,a,Af rfl rfl⟩
   clear a;rintro t l ⟨G,a,⟨T,rfl⟩,rfl⟩
   unfold Ck at a
   refine AZ rfl<|aN a rfl (fun ao a=> ?_) (fun ao a=> ?_)
   ·refine AZ rfl ?_
    cases a
    exact aR eV2
   refine Ab<|af _ _ ?_
   refine Ag<|rn 1 rfl<|kC a fun ap a=>rX ap rfl<|rz rfl<|fg _ (Sub.pick [[(e,35,(Ac m mv))],g] [0,1] rfl) ?_
   exact⟨f+1,by omega,f,(b+1),a,Af rfl rfl,rfl⟩
  refine AD<|ac _ _ ?_
  refine AZ rfl ?_
  cases a
  exact aR eV2
 rcases H:(p==4)with _|_
 ·replace a:=iG H a
  refine rn 4 rfl ?_
  first|exact h _ _ a rfl rfl|exact lx_cn _ _ (h _ _ a rfl rfl)
 replace a:=iE H a
 refine rn 1 rfl<|r_y rfl<|rL (Sl.shp A) rfl<|rn 2 rfl ?_
 first|exact h _ _ a rfl rfl|exact lx_cn _ _ (h _ _ a rfl rfl)
end Go.Proofs.YthmpbldidnmenaaGreatDoor
