import Derived.Test.YthmpbldidnmenaaGreatDoorBe
namespace Go.Proofs.YthmpbldidnmenaaGreatDoor
open Go Go.RowKit Go.Eng _root_.Go.Proofs.Tryz
set_option linter.unusedSimpArgs false
set_option linter.unusedVariables false
set_option maxRecDepth 100000
set_option maxHeartbeats 80000000
abbrev NS(b:Nat)(x0:List UInt8)(x1:Int):List Bl:=[(b,104, #[vS x0,vI x1])]
abbrev GQ(b:Nat)(x0:List UInt8)(x1:Value)(x2:Int)(x3:Int)(x4:Int)(x5:Int):List Bl:=[(b,106, #[vS x0,x1,vI x2,vI x3,vI x4,vI x5])]
abbrev RD(b:Nat)(x0:Value):List Bl:=[(b,136, #[x0])]
abbrev ed(b:Nat)(x0:Value):List Bl:=[(b,23, #[x0])]
abbrev ec(b:Nat)(x0:List UInt8)(x1:Int)(x2:Int):List Bl:=[(b,84, #[vS x0,vI x1,vI x2])]
abbrev UF(b:Nat)(x0:Value):List Bl:=[(b,239, #[x0])]
abbrev UG(b:Nat)(x0:List UInt8)(x1:Value)(x2:Value)(x3:Value)(x4:Int):List Bl:=[(b,111, #[vS x0,x1,x2,x3,vI x4])]
abbrev Iu(b:Nat)(x0:Value)(x1:Value)(x2:Int)(x3:Int)(x4:Int)(x5:Int):List Bl:=[(b,106, #[x0,x1,vI x2,vI x3,vI x4,vI x5])]
def MI(N:Nat)(a:List (List UInt8))(i:Int):Option Int:=ck (0≤i∧i<(a.length:Int)) ((Qg N (a[i.toNat]!)).bind fun c=>if c=true then ck (0≤i∧i≤(a.length:Int)) (ck (0≤i∧i<(a.length:Int)) ((IL N (((a).take (i.toNat)).drop 0) (a[i.toNat]!)).bind fun b=>if b≥0 then some 6 else some 0))else some 4)
theorem ST(N names i r)(a:MI N names i=some r)(ro namesv)(hnames:Rd Aa4 ro namesv names):Does prog 174 #[namesv,vI i] ro [] (pV (vI r)):=by
 unfold MI at a
 refine Aj follows func174 rfl 22 rfl _ fz2 (fun h=> ?_)
 refine AZ rfl<|Aa fun p j=>Ah<|Ad<|rn 2 rfl<|kC a fun f a=>rI (Rd.shp hnames) f rfl<|rE (Au hnames) f 0 rfl<|kB a fun q k a=>rc _ (cF bC) (Xk N (names[i.toNat]!) _ k)<|rz rfl<|Bv _ rfl (fun e=> ?_) (fun e=> ?_)
 ·replace a:=ifn (Bool.eq_false_iff.1 (CM e)) a
  refine AZ rfl ?_
  cases a
  exact aR eV1
 replace a:=ifp (CN e) a
 refine Aa fun s l=>Bw [(some 20,false)] (conG prog [(20,cV (IL N (((names).take (i.toNat)).drop 0) (names[i.toNat]!)) fun m=>vI m)]) [] (by decide+kernel) (fun t=>AH)<|rn 2 rfl<|kC a fun b a=>r_W (Fy namesv 0 (i.toNat) 1) rfl (ET (HC rfl rfl rfl rfl (Rd.shp hnames) b))<|rn 2 rfl<|kC a fun c a=>rI (Rd.shp hnames) c rfl<|rE (Au hnames) c 0 rfl<|kB a fun n d a=>rg _ (cF bA) (fun o w z_=>Rw N (((names).take (i.toNat)).drop 0) (names[i.toNat]!) _ d z_.view (Fy namesv 0 (i.toNat) 1) ((Ol (Au hnames) (Nat.zero_le _) (GD b.2)) o w z_)) (GB d)<|rz rfl<|l _ _ ?_
 refine aD a rfl (fun g a=> ?_) (fun g a=> ?_)
 ·refine AZ rfl ?_
  cases a
  exact aR eV1
 refine Ab<|j _ _ ?_
 refine AZ rfl ?_
 cases a
 exact aR eV1
def FB(_:Nat)(n:Int)(a:Int)(b:Int):Option Bool:=if n≥a then some (decide (n≤b))else some false
theorem Hr(N n least most r)(a:FB N n least most=some r):Gives prog 65 #[vI n,vI least,vI most] (vB r):=by
 unfold FB at a
 refine As follows func65 rfl 15 rfl _ fz3 (fun d=> ?_)
 refine AZ rfl<|Aa fun e b=>Ag<|rn 4 rfl ?_
 rcases c:(decide (n≥least))with _|_
 ·replace a:=iF c a
  refine rz rfl<|b _ _ ?_
  cases a
  exact aR eE1
 replace a:=iD c a
 refine rz rfl<|b _ _ ?_
 cases a
 exact aR eE1
def Im(N:Nat)(b:List (List UInt8×Int))(d:List (List UInt8)):Nat→Int→Option Int
  |0,_=>none
  |e+1,a=>if a<(b.length:Int)then ck (0≤a∧a<(b.length:Int)) ((MI N d a).bind fun c=>if(c:Int)≠0 then some c else(FB N ((b[a.toNat]!).2) 1 128).bind fun f=>if f=true then ck (R64 (a+1)) ((Im N b d e) (a+1))else some 9)else some 0
def MT(N:Nat)(a:List (List UInt8×Int)):Option Int:=(LR N a).bind fun b=>Im N a b N 0
theorem VU(N l' r)(a:MT N l'=some r)(ro l'v)(hl':Rd Ab4 ro l'v l'):Does prog 169 #[l'v] ro [] (pV (vI r)):=by
 unfold MT at a
 refine Aj follows func169 rfl 27 rfl _ fz1 (fun s=> ?_)
 refine AZ rfl<|Ad<|rn 1 rfl<|kB a fun y v a=>gS (Ls:=[]) (cF kp) (fun o w z_=>Ua N l' _ v z_.view l'v ((Au hl') o w z_)) (fun z u A=> ?_)
 refine rz rfl<|Aa fun G x=>Ad<|rn 1 rfl<|rL (Rd.shp hl') rfl<|rz rfl<|Ah<|Bo _ (Sub.pick [u] [0] rfl)<|AC (fun tt ll nn=> ∃(c:Nat) (b:Int),(Im N l' y c b=some r)∧Is [(3,z),(9,l'v),(10,vI (l'.length:Int)),(11,vI b)] (List.flatten [u]) tt ll∧nn=c+1) (N+1) ?_ ?_
 ·exact⟨N,0,a,Af rfl rfl,rfl⟩
 clear a;rintro t l _ ⟨c,b,a,⟨⟨T,rfl⟩,rfl⟩,rfl⟩
 rcases c with _|c
 ·exact absurd a (by simp [Im])
 rw [Im] at a
 refine AZ rfl<|Aa fun B f=>aD a rfl (fun g a=> ?_) (fun g a=> ?_)
 ·refine Ab<|f _ _ ?_
  refine Aa fun C h=>Ah<|Ad<|rn 1 rfl<|kC a fun e a=>rI (Rd.shp hl') e rfl<|rE (Au hl') e 0 rfl<|rA rfl fun i=>ry [0] rfl<|Aa fun D j=>Ad<|rn 2 rfl<|kB a fun E m a=>gV _ (cF bz) (fun o w z_=>ST N y b _ m z_.view z ((Av A (Ai (Ls:=[(NS i ((l'[b.toNat]!).1) ((l'[b.toNat]!).2)),u]) (k:=1) rfl rfl)) o w z_))<|rz rfl<|AZ rfl<|aN a rfl (fun n a=> ?_) (fun n a=> ?_)
  ·refine AZ rfl ?_
   cases a
   exact aR eV1
  refine Ab<|j _ _ ?_
  refine Ad<|rm 2 [0] rfl<|kB a fun F p a=>rc _ (cF KG) (Hr N ((l'[b.toNat]!).2) 1 128 _ p)<|rz rfl<|Bv _ rfl (fun d=> ?_) (fun d=> ?_)
  ·replace a:=ifn (Bool.eq_false_iff.1 (CM d)) a
   refine AZ rfl ?_
   cases a
   exact aR eV1
  replace a:=ifp (CN d) a
  refine Ab<|h _ _ ?_
  refine Ag<|kC a fun q a=>rX q rfl<|rz rfl<|fg _ (Sub.pick [(NS i ((l'[b.toNat]!).1) ((l'[b.toNat]!).2)),u] [1] rfl) ?_
  exact⟨c+1,by omega,c,(b+1),a,Af rfl rfl,rfl⟩
 refine AD<|x _ _ ?_
 refine AZ rfl ?_
 cases a
 exact aR eV1
def LN(b:List (List UInt8×Int)):Nat→Int→Int→Option Int
  |0,_,_=>none
  |d+1,c,a=>if a<(b.length:Int)then ck (0≤a∧a<(b.length:Int)) (ck ((R64 (c+(b[a.toNat]!).2))) (ck (R64 (a+1)) ((LN b d) (c+(b[a.toNat]!).2) (a+1))))else some c
def Qf(N:Nat)(a:List (List UInt8×Int)):Option Int:=LN a N 0 0
theorem Xj(N l' r)(a:Qf N l'=some r)(ro l'v)(hl':Rd Ab4 ro l'v l'):Does prog 170 #[l'v] ro [] (pV (vI r)):=by
 unfold Qf at a
 refine Aj follows func170 rfl 18 rfl _ fz1 (fun h=> ?_)
 refine AZ rfl<|AZ rfl<|Aa fun o i=>Ad<|rn 1 rfl<|rL (Rd.shp hl') rfl<|rz rfl<|Ah<|AC (fun tt ll nn=> ∃(e:Nat) (c:Int) (b:Int),(LN l' e c b=some r)∧Is [(3,vI c),(6,l'v),(7,vI (l'.length:Int)),(8,vI b)] [] tt ll∧nn=e+1) (N+1) ?_ ?_
 ·exact⟨N,0,0,a,Af rfl rfl,rfl⟩
 clear a;rintro t l _ ⟨e,c,b,a,⟨⟨T,rfl⟩,rfl⟩,rfl⟩
 rcases e with _|e
 ·exact absurd a (by simp [LN])
 rw [LN] at a
 refine AZ rfl<|Aa fun p j=>aD a rfl (fun k a=> ?_) (fun k a=> ?_)
 ·refine Ab<|j _ _ ?_
  refine Aa fun q m=>Ah<|Ad<|kC a fun d a=>rI (Rd.shp hl') d rfl<|rE (Au hl') d 0 rfl<|rA rfl fun n=>ry [0] rfl<|Ag<|rm 3 [0] rfl<|kC a fun f a=>rX f rfl<|rz rfl<|m _ _ ?_
  refine Ag<|kC a fun g a=>rX g rfl<|rz rfl<|fg _ (Sub.of (suC _ suN)) ?_
  exact⟨e+1,by omega,e,(c+(l'[b.toNat]!).2),(b+1),a,Af rfl rfl,rfl⟩
 refine AD<|i _ _ ?_
 refine AZ rfl ?_
 cases a
 exact aR eV1
def LP(N:Nat)(_:List UInt8)(b:List (List UInt8×Int))(e:Int)(a:Int)(c:Int)(d:Int):Option Bool:=if e=0 then if a=0 then if c=0 then some (d==0)else some false else some false else(FB N e 1 64).bind fun g=>if g=true then ck ((R64 ((b.length:Int) - 1))) ((FB N a 0 ((b.length:Int) - 1)).bind fun f=>if f=true then ck (0≤a∧a<(b.length:Int)) (if((b[a.toNat]!).2:Int)≤16 then(FB N c 1 64).bind fun h=>if h=true then(FB N d 0 4096).bind fun i=>some i else some false else some false)else some false)else some false
theorem TZ(N h_0 h_1 h_2 h_3 h_4 h_5 r)(a:LP N h_0 h_1 h_2 h_3 h_4 h_5=some r)(ro h_1v)(hh_1:Rd Ab4 ro h_1v h_1):Does prog 171 #[vA #[vS h_0,h_1v,vI h_2,vI h_3,vI h_4,vI h_5]] ro [] (pV (vB r)):=by
 unfold LP at a
 refine Aj follows func171 rfl 51 rfl _ fz1 (fun p=> ?_)
 refine Ad<|rA rfl fun w=>rz rfl<|Aa fun y q=>AY [0] rfl<|aE a rfl (fun s a=> ?_) (fun s a=> ?_)
 ·refine Aa fun z h=>Ag<|rm 4 [0] rfl ?_
  rcases i:(h_3==0)with _|_
  ·replace a:=iG i a
   refine rz rfl<|h _ _ ?_
   cases a
   exact aR eV1
  replace a:=iE i a
  refine rn 1 rfl<|r_y rfl<|rm 4 [0] rfl ?_
  rcases j:(h_4==0)with _|_
  ·replace a:=iG j a
   refine rz rfl<|h _ _ ?_
   cases a
   exact aR eV1
  replace a:=iE j a
  refine rn 1 rfl<|r_y rfl<|ry [0] rfl<|h _ _ ?_
  cases a
  exact aR eV1
 refine Ab<|q _ _ ?_
 refine Aa fun A b=>Ag<|rm 2 [0] rfl<|kB a fun t k a=>rc _ (cF KG) (Hr N h_2 1 64 _ k)<|rn 1 rfl ?_
 rcases d:t with _|_
 ·replace a:=iB d a
  refine rz rfl<|b _ _ ?_
  refine Gm [(2,vB false)] rfl (fun T=> ?_)
  cases a
  exact aR eV1
 replace a:=ifp d a
 refine rn 1 rfl<|r_y rfl<|rm 2 [0] rfl<|r_y rfl<|rm 1 [0] rfl<|r_y rfl<|rL (Rd.shp hh_1) rfl<|r_y rfl<|kC a fun l a=>rX l rfl<|r_y rfl<|kB a fun u m a=>rc _ (cF KG) (Hr N h_3 0 ((h_1.length:Int) - 1) _ m)<|rn 2 rfl ?_
 rcases e:u with _|_
 ·replace a:=iB e a
  refine rz rfl<|b _ _ ?_
  refine Gm [(2,vB false)] rfl (fun T=> ?_)
  cases a
  exact aR eV1
 replace a:=ifp e a
 refine rn 1 rfl<|r_y rfl<|rm 2 [0] rfl<|r_y rfl<|rm 1 [0] rfl<|r_y rfl<|kC a fun c a=>rI (Rd.shp hh_1) c rfl<|r_y rfl<|rF (Rd.shp hh_1) (Bb c) rfl<|r_y rfl<|rE (Au hh_1) c 1 rfl<|rn 3 rfl<|cG [(1,vP w 0),(2,vB false),(41,vB (decide (((h_1[h_3.toNat]!).2:Int)≤16)))] rfl (fun T=> ?_)
 rcases f:(decide (((h_1[h_3.toNat]!).2:Int)≤16))with _|_
 ·replace a:=iF f a
  refine rz rfl<|b _ _ ?_
  cases a
  exact aR eV1
 replace a:=iD f a
 refine rn 1 rfl<|r_y rfl<|rm 1 [0] rfl<|r_y rfl<|kB a fun v n a=>rc _ (cF KG) (Hr N h_4 1 64 _ n)<|rn 2 rfl ?_
 rcases g:v with _|_
 ·replace a:=iB g a
  refine rz rfl<|b _ _ ?_
  cases a
  exact aR eV1
 replace a:=ifp g a
 refine rn 1 rfl<|r_y rfl<|rm 1 [0] rfl<|r_y rfl<|kB a fun x o a=>rc _ (cF KG) (Hr N h_5 0 4096 _ o)<|rz rfl<|b _ _ ?_
 cases a
 exact aR eV1
def LS(N:Nat)(d:List UInt8)(a:List (List UInt8×Int))(h:Int)(g:Int)(e:Int)(f:Int):Option Int:=(Qg N d).bind fun j=>if j=true then if(a.length:Int)>16 then some 2 else if(a.length:Int)=0 then some 5 else(MT N a).bind fun c=>if(c:Int)≠0 then some c else(Qf N a).bind fun b=>ck (0≤b∧b≤9223372036854775807) (if(b%8:Int)≠0 then some 9 else(LP N d a h g e f).bind fun i=>if i=true then some 0 else some 7)else some 4
theorem cj(N h_0 h_1 h_2 h_3 h_4 h_5 r)(a:LS N h_0 h_1 h_2 h_3 h_4 h_5=some r)(ro h_1v)(hh_1:Rd Ab4 ro h_1v h_1):Does prog 121 #[vA #[vS h_0,h_1v,vI h_2,vI h_3,vI h_4,vI h_5]] ro [] (pV (vI r)):=by
 unfold LS at a
 refine Aj follows func121 rfl 35 rfl _ fz1 (fun p=> ?_)
 refine Ad<|rA rfl fun t=>rz rfl<|Aa fun z q=>Ah<|Ad<|rm 2 [0] rfl<|kB a fun A s a=>rc _ (cF bC) (Xk N h_0 _ s)<|rz rfl<|Bv _ rfl (fun c=> ?_) (fun c=> ?_)
 ·replace a:=ifn (Bool.eq_false_iff.1 (CM c)) a
  refine AZ rfl ?_
  cases a
  exact aR eV1
 replace a:=ifp (CN c) a
 refine Ad<|rm 2 [0] rfl<|rL (Rd.shp hh_1) rfl<|rz rfl<|aD a rfl (fun d a=> ?_) (fun d a=> ?_)
 ·refine AZ rfl ?_
  cases a
  exact aR eV1
 refine Ad<|rm 2 [0] rfl<|rL (Rd.shp hh_1) rfl<|rz rfl<|aE a rfl (fun e a=> ?_) (fun e a=> ?_)
 ·refine AZ rfl ?_
  cases a
  exact aR eV1
 refine Ab<|q _ _ ?_
 refine Aa fun u f=>Ad<|rm 2 [0] rfl<|kB a fun v g a=>gV _ (cF lr) (fun o w z_=>VU N h_1 _ g z_.view h_1v (z_.r hh_1))<|rz rfl<|AZ rfl<|aN a rfl (fun h a=> ?_) (fun h a=> ?_)
 ·refine AZ rfl ?_
  cases a
  exact aR eV1
 refine Ab<|f _ _ ?_
 refine Aa fun x i=>Ah<|Ad<|rm 2 [0] rfl<|kB a fun j k a=>gV _ (cF bB) (fun o w z_=>Xj N h_1 _ k z_.view h_1v (z_.r hh_1))<|kC a fun l a=>r_X (vI (j%8)) rfl (Rr l.1) rfl<|rz rfl<|Gm [(1,vP t 0),(25,vB ((j%8:Int) !=0))] rfl (fun T=> ?_)
 refine aN a rfl (fun m a=> ?_) (fun m a=> ?_)
 ·refine AZ rfl ?_
  cases a
  exact aR eV1
 refine Ad<|rm 1 [0] rfl<|kB a fun y n a=>gV _ (cF lq) (fun o w z_=>TZ N h_0 h_1 h_2 h_3 h_4 h_5 _ n z_.view h_1v (z_.r hh_1))<|rz rfl<|Bv _ rfl (fun b=> ?_) (fun b=> ?_)
 ·replace a:=ifn (Bool.eq_false_iff.1 (CM b)) a
  refine AZ rfl ?_
  cases a
  exact aR eV1
 replace a:=ifp (CN b) a
 refine Ab<|i _ _ ?_
 refine AZ rfl ?_
 cases a
 exact aR eV1
def Bf(N:Nat)(a:List (List UInt8))(i:Int):Option Int:=ck (0≤i∧i≤(a.length:Int)) (ck (0≤i∧i<(a.length:Int)) ((IL N (((a).take (i.toNat)).drop 0) (a[i.toNat]!)).bind fun c=>(Ao N (decide (c<0)) 6).bind fun b=>some b))
theorem Hp(N names i r)(a:Bf N names i=some r)(ro namesv)(hnames:Rd Aa4 ro namesv names):Does prog 122 #[namesv,vI i] ro [] (pV (vI r)):=by
 unfold Bf at a
 refine Aj follows func122 rfl 15 rfl _ fz2 (fun e=> ?_)
 refine AZ rfl<|Aa fun k f=>Bw [(some 12,false)] (conG prog [(12,cV (IL N (((names).take (i.toNat)).drop 0) (names[i.toNat]!)) fun g=>vI g)]) [] (by decide+kernel) (fun l=>AH)<|rn 2 rfl<|kC a fun b a=>r_W (Fy namesv 0 (i.toNat) 1) rfl (ET (HC rfl rfl rfl rfl (Rd.shp hnames) b))<|rn 2 rfl<|kC a fun c a=>rI (Rd.shp hnames) c rfl<|rE (Au hnames) c 0 rfl<|kB a fun j d a=>rg _ (cF bA) (fun o w z_=>Rw N (((names).take (i.toNat)).drop 0) (names[i.toNat]!) _ d z_.view (Fy namesv 0 (i.toNat) 1) ((Ol (Au hnames) (Nat.zero_le _) (GD b.2)) o w z_)) (GB d)<|rn 1 rfl<|kB a fun m h a=>rc _ (cF Bg) (Ax N (decide (j<0)) 6 _ h)<|rz rfl<|f _ _ ?_
 cases a
 exact aR eV1
def Kv(N:Nat)(i:Int)(g:List UInt8)(c:List (List UInt8×Int))(h:Int)(f:Int)(b:Int)(e:Int)(d:List (List UInt8)):Option Int:=(LS N g c h f b e).bind fun j=>(Bf N d i).bind fun k=>(AP N ([j,k])).bind fun a=>some a
theorem SI(N i h_0 h_1 h_2 h_3 h_4 h_5 c r)(g:Kv N i h_0 h_1 h_2 h_3 h_4 h_5 c=some r)(ro h_1v)(hh_1:Rd Ab4 ro h_1v h_1)(h:Nat)(a)(l:Rd Aa4 ro a c)(j:Blk ro h [a]):Does prog 120 #[vI i,vA #[vS h_0,h_1v,vI h_2,vI h_3,vI h_4,vI h_5],vP h 0] ro [] (pV (vI r)):=by
 unfold Kv at g
 refine Aj follows func120 rfl 13 rfl _ fz3 (fun p=> ?_)
 refine Ad<|rA rfl fun v=>rz rfl<|Aa fun A q=>Bw [(some 7,false),(some 10,false),(some 11,false),(some 12,false)] (conG prog [(7,cV (LS N h_0 h_1 h_2 h_3 h_4 h_5) fun b=>vI b),(10,cV (Bf N c i) fun b=>vI b),(12,fun _ _ v_ L_ U_=> ∀b,LS N h_0 h_1 h_2 h_3 h_4 h_5=some b→ ∀m,Bf N c i=some m→ ∀n,AP N ([b,m])=some n→(pV (vI n)) v_ L_ U_)]) [] (by decide+kernel) (fun B=>AH) ?_
 refine rm 1 [0] rfl<|kB g fun s e g=>rg _ (cF mb) (fun o w z_=>cj N h_0 h_1 h_2 h_3 h_4 h_5 _ e z_.view h_1v (z_.r hh_1)) (GB e)<|GX a (vs:=[a]) (o:=0) rfl rfl (AQ j) rfl<|rn 1 rfl<|kB g fun t f g=>rg _ (cF KU) (fun o w z_=>Hp N c i _ f z_.view a (z_.r l)) (GB f) ?_
 refine IW (Ls:=[(GQ v h_0 h_1v h_2 h_3 h_4 h_5)]) 46 BJ [s,t] [vI s,vI t] [vI 0,vI 0] rfl rfl rfl rfl rfl rfl rfl (by kernel_rfl) (by kernel_rfl) rfl rfl rfl (fun x y u=> ?_)
 refine kB g fun z d g=>rg _ (cF EG) (fun o w z_=>BS N ([s,t]) _ d z_.view x ((Av u (Ai (Ls:=[(GQ v h_0 h_1v h_2 h_3 h_4 h_5),y]) (k:=1) rfl rfl)) o w z_)) (fun _ _ v_ L_ U_=>⟨fun h_=>h_ _ e _ f _ d,fun h_=>by intro _ e_;cases q1 (e_.symm.trans e);intro _ e_;cases q1 (e_.symm.trans f);intro _ e_;cases q1 (e_.symm.trans d);exact h_⟩) ?_
 refine rz rfl<|q _ _ ?_
 cases g
 exact aR eV1
def HW(N:Nat)(b:List ((List UInt8)×(List (List UInt8×Int))×Int×Int×Int×Int))(c:List (List UInt8)):Nat→Int→Option (Int×Int)
  |0,_=>none
  |e+1,a=>if a<(b.length:Int)then ck (0≤a∧a<(b.length:Int)) ((Kv N a (b[a.toNat]!.1) (b[a.toNat]!.2.1) (b[a.toNat]!.2.2.1) (b[a.toNat]!.2.2.2.1) (b[a.toNat]!.2.2.2.2.1) (b[a.toNat]!.2.2.2.2.2) c).bind fun d=>if(d:Int)≠0 then some (a,d)else ck (R64 (a+1)) ((HW N b c e) (a+1)))else some (0,0)
def Mm(N:Nat)(c:List ((List UInt8)×(List (List UInt8×Int))×Int×Int×Int×Int))(b:Int)(a:List (List UInt8)):Option (Int×Int):=if(c.length:Int)>b then some (0,2)else HW N c a N 0
theorem UT(N l' most d r)(c:Mm N l' most d=some r)(ro l'v)(hl':RdN Ad4 ro l'v l')(b:Nat)(e)(h:Rd Aa4 ro e d)(f:Blk ro b [e]):Does prog 119 #[l'v,vI most,vF 120 #[] #[vP b 0]] ro [] (pV (vT #[vI r.1,vI r.2])):=by
 unfold Mm at c
 refine Aj follows func119 rfl 31 rfl _ fz3 (fun v=> ?_)
 refine AZ rfl<|Aa fun F x=>Ad<|rn 1 rfl<|rL (RdN.shp hl') rfl<|rz rfl<|aD c rfl (fun y c=> ?_) (fun y c=> ?_)
 ·refine AZ rfl ?_
  cases c
  exact aR eV2
 refine Ab<|x _ _ ?_
 refine Aa fun G z=>Ad<|rn 1 rfl<|rL (RdN.shp hl') rfl<|rz rfl<|Ah<|AC (fun tt ll nn=> ∃(k:Nat) (a:Int),(HW N l' d k a=some r)∧Is [(2,vF 120 #[] #[vP b 0]),(15,l'v),(16,vI (l'.length:Int)),(17,vI a)] [] tt ll∧nn=k+1) (N+1) ?_ ?_
 ·exact⟨N,0,c,Af rfl rfl,rfl⟩
 clear c;rintro t l _ ⟨k,a,c,⟨⟨T,rfl⟩,rfl⟩,rfl⟩
 rcases k with _|k
 ·exact absurd c (by simp [HW])
 rw [HW] at c
 refine AZ rfl<|Aa fun B m=>aD c rfl (fun n c=> ?_) (fun n c=> ?_)
 ·refine Ab<|m _ _ ?_
  refine Aa fun C p=>Ah<|Ad<|rn 1 rfl<|kC c fun i c=> ?_
  obtain⟨_,⟨g,j,rfl⟩,hat17⟩:=RdN.at (E:=Ad4) hl' (De i)
  refine rI (RdN.shp hl') i rfl<|MG (vA #[vS (l'[a.toNat]!.1),g,vI (l'[a.toNat]!.2.2.1),vI (l'[a.toNat]!.2.2.2.1),vI (l'[a.toNat]!.2.2.2.2.1),vI (l'[a.toNat]!.2.2.2.2.2)]) (vs:=[vS (l'[a.toNat]!.1),g,vI (l'[a.toNat]!.2.2.1),vI (l'[a.toNat]!.2.2.2.1),vI (l'[a.toNat]!.2.2.2.2.1),vI (l'[a.toNat]!.2.2.2.2.2)]) (a.toNat*6) 0 rfl rfl (fun o w z_=>At.mono z_.ro_cell hat17) rfl<|rA rfl fun A=>rn 1 rfl<|r_s (GQ A (l'[a.toNat]!.1) g (l'[a.toNat]!.2.2.1) (l'[a.toNat]!.2.2.2.1) (l'[a.toNat]!.2.2.2.2.1) (l'[a.toNat]!.2.2.2.2.2)) 0 _ _ _ _ _ (#[vS (l'[a.toNat]!.1),g,vI (l'[a.toNat]!.2.2.1),vI (l'[a.toNat]!.2.2.2.1),vI (l'[a.toNat]!.2.2.2.2.1),vI (l'[a.toNat]!.2.2.2.2.2)]) rfl rfl rfl rfl (.ofS rfl rfl (Ae rfl (Ae (Shp.one (Rd.shp j)) (Ae rfl (Ae rfl (Ae rfl (Ae rfl Bt))))))) rfl rfl<|Ak<|Ad<|rn 2 rfl ?_
  refine rm 1 [0] rfl<|kB c fun D q c=>gV _ (BG (caps:=[vP b 0]) rfl mc rfl) (fun o w z_=>SI N a (l'[a.toNat]!.1) (l'[a.toNat]!.2.1) (l'[a.toNat]!.2.2.1) (l'[a.toNat]!.2.2.2.1) (l'[a.toNat]!.2.2.2.2.1) (l'[a.toNat]!.2.2.2.2.2) d _ q z_.view g (z_.r j) b e (z_.r h) (AQ f o w z_))<|rz rfl<|AZ rfl<|aN c rfl (fun s c=> ?_) (fun s c=> ?_)
  ·refine AZ rfl ?_
   cases c
   exact aR eV2
  refine Ab<|p _ _ ?_
  refine Ag<|kC c fun u c=>rX u rfl<|rz rfl<|fg _ (Sub.of (suC _ suN)) ?_
  exact⟨k+1,by omega,k,(a+1),c,Af rfl rfl,rfl⟩
 refine AD<|z _ _ ?_
 refine AZ rfl ?_
 cases c
 exact aR eV2
def Mr(N:Nat)(c:An):Option (Int×Int):=(Mk N c.2.1).bind fun b=>(Mm N c.2.1 16 b).bind fun a=>some (a.1,a.2)
theorem Va(N c r)(a:Mr N c=some r)(ro)(cv:Ay)(hc:Aa2 ro cv c):Does prog 78 #[vA (Ac c cv)] ro [] (pV (vT #[vI r.1,vI r.2])):=by
 unfold Mr at a
 refine Aj follows func78 rfl 16 rfl _ fz1 (fun d=> ?_)
 refine Ad<|rA rfl fun g=>rz rfl<|Ad<|rm 3 [0] rfl<|kB a fun l h a=>gS (Ls:=[[(g,143,(Ac c cv))]]) (cF mg) (fun o w z_=>UR N c.2.1 _ h z_.view cv.1 (RdN.mono z_.ro_cell hc.1)) (fun e j i=> ?_)
 refine rA rfl fun f=>r_s (List.flatten [(RD f e),[(g,143,(Ac c cv))],j]) 0 _ _ _ _ _ (#[e]) rfl rfl rfl (FM rfl (Sl.shp i)) (.ofS rfl rfl (Ae (Shp.one (Sl.shp i)) Bt)) rfl rfl<|Ak<|Ad<|rm 3 [1] rfl<|r_W (vF 120 #[] #[vP f 0]) rfl (HD rfl)<|kB a fun m b a=>gV _ (cF me) (fun o w z_=>UT N c.2.1 16 l _ b z_.view cv.1 (RdN.mono z_.ro_cell hc.1) f e ((Av i (Ai (Ls:=[(RD f e),[(g,143,(Ac c cv))],j]) (k:=2) rfl rfl)) o w z_) (Cw 0 rfl rfl o w z_))<|rz rfl ?_
 cases a
 exact aR eV2
def Jj(_:Nat)(i:Int)(a:List (List UInt8×Int×Int)):Option (List UInt8):=ck (0≤i∧i<(a.length:Int)) (some ((a[i.toNat]!).1))
theorem QN(N i f r)(g:Jj N i f=some r)(ro)(c:Nat)(a)(b:Rd Ad5 ro a f)(d:Blk ro c [a]):Does prog 228 #[vI i,vP c 0] ro [] (pV (vS r)):=by
 unfold Jj at g
 refine Aj follows func228 rfl 9 rfl _ fz2 (fun h=> ?_)
 refine AZ rfl<|Ad<|GX a (vs:=[a]) (o:=0) rfl rfl (AQ d) rfl<|rn 1 rfl<|kC g fun e g=>rI (Rd.shp b) e rfl<|rF (Rd.shp b) (Bb e) rfl<|rE (Au b) e 0 rfl<|rz rfl ?_
 cases g
 exact aR eV1
def In(N:Nat)(b:Int)(d:List (List UInt8×Int×Int)):Nat→List (List UInt8)→Int→Option (List (List UInt8))
  |0,_,_=>none
  |f+1,c,a=>if a<b then(Jj N a d).bind fun e=>ck (0≤a∧a<(c.length:Int)) (ck (R64 (a+1)) ((In N b d f) ((c).set (a.toNat) e) (a+1)))else some c
def MV(N:Nat)(a:Int)(b:List (List UInt8×Int×Int)):Option (List (List UInt8)):=ck (0≤a∧a≤8796093022208) (In N a b N (List.replicate a.toNat ([])) 0)
theorem VW(N count f r)(b:MV N count f=some r)(ro)(a:Nat)(e)(k:Rd Ad5 ro e f)(i:Blk ro a [e]):Does prog 227 #[vI count,vF 228 #[] #[vP a 0]] ro [] (p1 (fun s_=>s_) 9 Aa4 r):=by
 unfold MV at b
 refine Aj follows func227 rfl 21 rfl _ fz2 (fun y=> ?_)
 refine AZ rfl<|Ad<|rn 1 rfl<|kC b fun z b=>cB 8<|Sq (Ls:=[]) 9 Aa4 ([]) count rfl rfl rfl rfl rfl rfl rfl rfl rfl rfl 8796093022208 rfl z (fun _ _ _ _ _=>Iff.rfl) (fun A D E=> ?_)
 refine rz rfl<|Aa fun H B=>AZ rfl<|Ah<|Bo _ (Sub.pick [D] [0] rfl)<|AC (fun tt ll nn=> ∃(m:Nat) (g:List (List UInt8)) (c:Int),(In N count f m g c=some r)∧ ∃(d:List Bl),Sl 9 Aa4 A g d∧Is [(1,vF 228 #[] #[vP a 0]),(5,A),(9,vI count),(10,vI c)] (List.flatten [d]) tt ll∧nn=m+1) (N+1) ?_ ?_
 ·exact⟨N,(List.replicate count.toNat ([])),0,b,D,E,Af rfl rfl,rfl⟩
 clear b;rintro t l _ ⟨m,g,c,b,d,h,⟨⟨T,rfl⟩,rfl⟩,rfl⟩
 rcases m with _|m
 ·exact absurd b (by simp [In])
 rw [In] at b
 refine AZ rfl<|Aa fun F n=>aD b rfl (fun p b=> ?_) (fun p b=> ?_)
 ·refine Ab<|n _ _ ?_
  refine Aa fun G q=>Ah<|AZ rfl<|Ag<|rn 4 rfl<|kB b fun s u b=>gV _ (BG (caps:=[vP a 0]) rfl km rfl) (fun o w z_=>QN N c f _ u z_.view a e (z_.r k) (AQ i o w z_))<|kC b fun j b=>rI (Sl.shp h) j rfl<|QS (Ls:=[d]) 0 (En:=Aa4) (g[c.toNat]!) s (c.toNat) 0 rfl rfl rfl h (De j) rfl rfl rfl (HN rfl) rfl (fun v C=> ?_)
  refine Ak<|q _ _ ?_
  refine Ag<|kC b fun x b=>rX x rfl<|rz rfl<|fg _ (Sub.pick [v] [0] rfl) ?_
  exact⟨m+1,by omega,m,(g).set (c.toNat) s,(c+1),b,v,C,Af rfl rfl,rfl⟩
 refine AD<|B _ _ ?_
 refine AZ rfl ?_
 cases b
 refine Bi (fun I=>Ha (v0:=A) h (EK (Sub.pick [d] [0] rfl)) rfl (Gj rfl))
def MU(N:Nat)(a:List (List UInt8×Int×Int)):Option (List (List UInt8)):=(MV N (a.length:Int) a).bind fun b=>some b
theorem VV(N l' r)(a:MU N l'=some r)(ro l'v)(hl':Rd Ad5 ro l'v l'):Does prog 173 #[l'v] ro [] (p1 (fun s_=>s_) 9 Aa4 r):=by
 unfold MU at a
 refine Aj follows func173 rfl 7 rfl _ fz1 (fun b=> ?_)
 refine Ad<|r_a (23, #[l'v]) rfl rfl (MF rfl (Rd.shp hl')) (fun c=> ?_) (.inr rfl)
 refine rz rfl<|Ad<|rm 1 [0] rfl<|rL (Rd.shp hl') rfl<|r_W (vF 228 #[] #[vP c 0]) rfl (HD rfl)<|kB a fun h d a=>gS (Ls:=[(ed c l'v)]) (cF bp) (fun o w z_=>VW N (l'.length:Int) l' _ d z_.view c l'v ((Au hl') o w z_) (Cw 0 rfl rfl o w z_)) (fun e f g=> ?_)
 refine rz rfl ?_
 cases a
 refine Bi (fun i=>Ha (v0:=e) g (EK (Sub.pick [(ed c l'v),f] [1] rfl)) rfl (Gj rfl))
def Jx(N:Nat)(_:List UInt8)(_:Int)(a:Int):Option Bool:=(FB N a 0 4).bind fun b=>some b
theorem Rk(N x_0 x_1 x_2 r)(a:Jx N x_0 x_1 x_2=some r):Gives prog 66 #[vA #[vS x_0,vI x_1,vI x_2]] (vB r):=by
 unfold Jx at a
 refine As follows func66 rfl 6 rfl _ fz1 (fun b=> ?_)
 refine Ad<|rA rfl fun d=>rz rfl<|Ad<|rm 2 [0] rfl<|kB a fun e c a=>rc _ (cF KG) (Hr N x_2 0 4 _ c)<|rz rfl ?_
 cases a
 exact aR eE1
def Il(N:Nat)(b:List UInt8)(c:Int)(a:Int):Option Int:=(Jx N b c a).bind fun d=>if d=true then some (max a 1)else some 0
theorem Pj(N x_0 x_1 x_2 r)(a:Il N x_0 x_1 x_2=some r):Gives prog 42 #[vA #[vS x_0,vI x_1,vI x_2]] (vI r):=by
 unfold Il at a
 refine As follows func42 rfl 9 rfl _ fz1 (fun c=> ?_)
 refine Ad<|rA rfl fun f=>rz rfl<|Aa fun g d=>Ad<|rm 1 [0] rfl<|kB a fun h e a=>rc _ (cF eD) (Rk N x_0 x_1 x_2 _ e)<|rz rfl<|Bv _ rfl (fun b=> ?_) (fun b=> ?_)
 ·replace a:=ifn (Bool.eq_false_iff.1 (CM b)) a
  refine AZ rfl ?_
  cases a
  exact aR eE1
 replace a:=ifp (CN b) a
 refine Ab<|d _ _ ?_
 refine Ad<|rm 2 [0] rfl<|r_W (vI (max x_2 1)) rfl (cY rfl rfl)<|rz rfl ?_
 cases a
 exact aR eE1
def Iq(N:Nat)(b:List (List UInt8×Int×Int)):Nat→Int→Int→Option Int
  |0,_,_=>none
  |e+1,c,a=>if a<(b.length:Int)then ck (0≤a∧a<(b.length:Int)) ((Il N ((b[a.toNat]!).1) ((b[a.toNat]!).2.1) ((b[a.toNat]!).2.2)).bind fun d=>ck (R64 (c+d)) (ck (R64 (a+1)) ((Iq N b e) (c+d) (a+1))))else some c
def LL(N:Nat)(a:List (List UInt8×Int×Int)):Option Int:=Iq N a N 0 0
theorem Se(N l' r)(a:LL N l'=some r)(ro l'v)(hl':Rd Ad5 ro l'v l'):Does prog 26 #[l'v] ro [] (pV (vI r)):=by
 unfold LL at a
 refine Aj follows func26 rfl 18 rfl _ fz1 (fun i=> ?_)
 refine AZ rfl<|AZ rfl<|Aa fun q j=>Ad<|rn 1 rfl<|rL (Rd.shp hl') rfl<|rz rfl<|Ah<|AC (fun tt ll nn=> ∃(e:Nat) (c:Int) (b:Int),(Iq N l' e c b=some r)∧Is [(3,vI c),(6,l'v),(7,vI (l'.length:Int)),(8,vI b)] [] tt ll∧nn=e+1) (N+1) ?_ ?_
 ·exact⟨N,0,0,a,Af rfl rfl,rfl⟩
 clear a;rintro t l _ ⟨e,c,b,a,⟨⟨T,rfl⟩,rfl⟩,rfl⟩
 rcases e with _|e
 ·exact absurd a (by simp [Iq])
 rw [Iq] at a
 refine AZ rfl<|Aa fun s k=>aD a rfl (fun m a=> ?_) (fun m a=> ?_)
 ·refine Ab<|k _ _ ?_
  refine Aa fun u n=>Ah<|Ad<|kC a fun d a=>rI (Rd.shp hl') d rfl<|rE (Au hl') d 0 rfl<|rA rfl fun p=>ry [0] rfl<|Ag<|rm 2 [0] rfl<|kB a fun o f a=>rc _ (cF Zj) (Pj N ((l'[b.toNat]!).1) ((l'[b.toNat]!).2.1) ((l'[b.toNat]!).2.2) _ f)<|kC a fun g a=>rX g rfl<|rz rfl<|n _ _ ?_
  refine Ag<|kC a fun h a=>rX h rfl<|rz rfl<|fg _ (Sub.of (suC _ suN)) ?_
  exact⟨e+1,by omega,e,(c+o),(b+1),a,Af rfl rfl,rfl⟩
 refine AD<|j _ _ ?_
 refine AZ rfl ?_
 cases a
 exact aR eV1
def LT(N:Nat)(b:List ((List UInt8)×(List (List UInt8×Int))×Int×Int×Int×Int))(c:List (List UInt8×Int×Int))(g:List (List UInt8)):Nat→Int→Option Int
  |0,_=>none
  |f+1,a=>if a<(c.length:Int)then ck (0≤a∧a<(c.length:Int)) ((MI N g a).bind fun d=>if(d:Int)≠0 then some d else ck ((R64 ((b.length:Int) - 1))) ((FB N ((c[a.toNat]!).2.1) 0 ((b.length:Int) - 1)).bind fun i=>if i=true then(Jx N ((c[a.toNat]!).1) ((c[a.toNat]!).2.1) ((c[a.toNat]!).2.2)).bind fun h=>if h=true then ck (R64 (a+1)) ((LT N b c g f) (a+1))else some 7 else some 5))else(LL N c).bind fun e=>if e>32 then some 8 else some 0
def Sf(N:Nat)(a:List ((List UInt8)×(List (List UInt8×Int))×Int×Int×Int×Int))(b:List (List UInt8×Int×Int)):Option Int:=if(b.length:Int)>16 then some 2 else(MU N b).bind fun c=>LT N a b c N 0
theorem eV(N headers l' r)(a:Sf N headers l'=some r)(ro headersv)(hheaders:RdN Ad4 ro headersv headers)(l'v)(hl':Rd Ad5 ro l'v l'):Does prog 123 #[headersv,l'v] ro [] (pV (vI r)):=by
 unfold Sf at a
 refine Aj follows func123 rfl 43 rfl _ fz2 (fun C=> ?_)
 refine AZ rfl<|Aa fun U D=>Ad<|rn 1 rfl<|rL (Rd.shp hl') rfl<|rz rfl<|aD a rfl (fun E a=> ?_) (fun E a=> ?_)
 ·refine AZ rfl ?_
  cases a
  exact aR eV1
 refine Ab<|D _ _ ?_
 refine Ad<|rn 1 rfl<|kB a fun H F a=>gS (Ls:=[]) (cF lp) (fun o w z_=>VV N l' _ F z_.view l'v ((Au hl') o w z_)) (fun I f G=> ?_)
 refine rz rfl<|Aa fun J h=>Ad<|rn 1 rfl<|rL (Rd.shp hl') rfl<|rz rfl<|Ah<|Bo _ (Sub.pick [f] [0] rfl)<|AC (fun tt ll nn=> ∃(c:Nat) (b:Int),(LT N headers l' H c b=some r)∧Is [(0,headersv),(1,l'v),(5,I),(14,l'v),(15,vI (l'.length:Int)),(16,vI b)] (List.flatten [f]) tt ll∧nn=c+1) (N+1) ?_ ?_
 ·exact⟨N,0,a,Af rfl rfl,rfl⟩
 clear a;rintro t l _ ⟨c,b,a,⟨⟨T,rfl⟩,rfl⟩,rfl⟩
 rcases c with _|c
 ·exact absurd a (by simp [LT])
 rw [LT] at a
 refine AZ rfl<|Aa fun K i=>aD a rfl (fun j a=> ?_) (fun j a=> ?_)
 ·refine Ab<|i _ _ ?_
  refine Aa fun L m=>Ah<|Ad<|rn 1 rfl<|kC a fun g a=>rI (Rd.shp hl') g rfl<|rE (Au hl') g 0 rfl<|rA rfl fun n=>ry [0] rfl<|Aa fun M p=>Ad<|rn 2 rfl<|kB a fun O q a=>gV _ (cF bz) (fun o w z_=>ST N H b _ q z_.view I ((Av G (Ai (Ls:=[(ec n ((l'[b.toNat]!).1) ((l'[b.toNat]!).2.1) ((l'[b.toNat]!).2.2)),f]) (k:=1) rfl rfl)) o w z_))<|rz rfl<|AZ rfl<|aN a rfl (fun s a=> ?_) (fun s a=> ?_)
  ·refine AZ rfl ?_
   cases a
   exact aR eV1
  refine Ab<|p _ _ ?_
  refine Ah<|Ad<|rm 3 [0] rfl<|rL (RdN.shp hheaders) rfl<|kC a fun u a=>rX u rfl<|kB a fun P v a=>rc _ (cF KG) (Hr N ((l'[b.toNat]!).2.1) 0 ((headers.length:Int) - 1) _ v)<|rz rfl<|Bv _ rfl (fun d=> ?_) (fun d=> ?_)
  ·replace a:=ifn (Bool.eq_false_iff.1 (CM d)) a
   refine AZ rfl<|Gm [(4,vI 5)] rfl (fun T=> ?_)
   cases a
   exact aR eV1
  replace a:=ifp (CN d) a
  refine Ad<|rm 1 [0] rfl<|kB a fun Q x a=>rc _ (cF eD) (Rk N ((l'[b.toNat]!).1) ((l'[b.toNat]!).2.1) ((l'[b.toNat]!).2.2) _ x)<|rz rfl<|Bv _ rfl (fun e=> ?_) (fun e=> ?_)
  ·replace a:=ifn (Bool.eq_false_iff.1 (CM e)) a
   refine AZ rfl<|Gm [(4,vI 7)] rfl (fun T=> ?_)
   cases a
   exact aR eV1
  replace a:=ifp (CN e) a
  refine Ab<|m _ _ ?_
  refine Ag<|kC a fun y a=>rX y rfl<|rz rfl<|fg _ (Sub.pick [(ec n ((l'[b.toNat]!).1) ((l'[b.toNat]!).2.1) ((l'[b.toNat]!).2.2)),f] [1] rfl) ?_
  exact⟨c+1,by omega,c,(b+1),a,Af rfl rfl,rfl⟩
 refine AD<|h _ _ ?_
 refine Aa fun R z=>Ad<|rn 1 rfl<|kB a fun S A a=>gV _ (cF Zm) (fun o w z_=>Se N l' _ A z_.view l'v ((Au hl') o w z_))<|rz rfl<|aD a rfl (fun B a=> ?_) (fun B a=> ?_)
 ·refine AZ rfl ?_
  cases a
  exact aR eV1
 refine Ab<|z _ _ ?_
 refine AZ rfl ?_
 cases a
 exact aR eV1
def OH(N:Nat)(c:An):Option (Int×Int):=(Sf N c.2.1 c.2.2.1).bind fun a=>some (0,a)
theorem YK(N c r)(a:OH N c=some r)(ro)(cv:Ay)(hc:Aa2 ro cv c):Does prog 79 #[vA (Ac c cv)] ro [] (pV (vT #[vI r.1,vI r.2])):=by
 unfold OH at a
 refine Aj follows func79 rfl 11 rfl _ fz1 (fun b=> ?_)
 refine Ad<|rA rfl fun e=>rz rfl<|Ad<|rm 6 [0,0] rfl<|kB a fun f d a=>gV _ (cF ma) (fun o w z_=>eV N c.2.1 c.2.2.1 _ d z_.view cv.1 (RdN.mono z_.ro_cell hc.1) cv.2.1 ((Au hc.2.1) o w z_))<|rz rfl ?_
 cases a
 exact aR eV2
def PR(_:Nat)(a:List UInt8)(_:Int):Option (List UInt8):=some a
theorem aH(N f_0 f_1 r)(b:PR N f_0 f_1=some r):Gives prog 125 #[vA #[vS f_0,vI f_1]] (vS r):=by
 unfold PR at b
 refine As follows func125 rfl 5 rfl _ fz1 (fun a=> ?_)
 refine Ad<|rA rfl fun c=>rz rfl<|AY [0] rfl ?_
 cases b
 exact aR eE1
def Iy(N:Nat)(c:List (List UInt8×Int)):Nat→List (List UInt8)→Int→Option (List (List UInt8))
  |0,_,_=>none
  |e+1,b,a=>if a<(c.length:Int)then ck (0≤a∧a<(c.length:Int)) ((PR N ((c[a.toNat]!).1) ((c[a.toNat]!).2)).bind fun d=>ck (0≤a∧a<(b.length:Int)) (ck (R64 (a+1)) ((Iy N c e) ((b).set (a.toNat) d) (a+1))))else some b
def Nm(N:Nat)(a:List (List UInt8×Int)):Option (List (List UInt8)):=ck (0≤(a.length:Int)∧(a.length:Int)≤8796093022208) (Iy N a N ((List.replicate ((a.length:Int)).toNat ([]))) 0)
theorem Wq(N l' r)(b:Nm N l'=some r)(ro l'v)(hl':Rd Ab4 ro l'v l'):Does prog 175 #[l'v,vF 125 #[] #[]] ro [] (p1 (fun s_=>s_) 9 Aa4 r):=by
 unfold Nm at b
 refine Aj follows func175 rfl 26 rfl _ fz2 (fun s=> ?_)
 refine AZ rfl<|Ad<|rn 1 rfl<|rL (Rd.shp hl') rfl<|kC b fun u b=>cB 10<|Sq (Ls:=[]) 9 Aa4 ([]) (l'.length:Int) rfl rfl rfl rfl rfl rfl rfl rfl rfl rfl 8796093022208 rfl u (fun _ _ _ _ _=>Iff.rfl) (fun v y z=> ?_)
 refine rz rfl<|Aa fun C w=>Ad<|rn 1 rfl<|rL (Rd.shp hl') rfl<|rz rfl<|Ah<|Bo _ (Sub.pick [y] [0] rfl)<|AC (fun tt ll nn=> ∃(h:Nat) (d:List (List UInt8)) (a:Int),(Iy N l' h d a=some r)∧ ∃(c:List Bl),Sl 9 Aa4 v d c∧Is [(1,vF 125 #[] #[]),(5,v),(11,l'v),(12,vI (l'.length:Int)),(13,vI a)] (List.flatten [c]) tt ll∧nn=h+1) (N+1) ?_ ?_
 ·exact⟨N,(List.replicate ((l'.length:Int)).toNat ([])),0,b,y,z,Af rfl rfl,rfl⟩
 clear b;rintro t l _ ⟨h,d,a,b,c,e,⟨⟨T,rfl⟩,rfl⟩,rfl⟩
 rcases h with _|h
 ·exact absurd b (by simp [Iy])
 rw [Iy] at b
 refine AZ rfl<|Aa fun A i=>aD b rfl (fun j b=> ?_) (fun j b=> ?_)
 ·refine Ab<|i _ _ ?_
  refine Aa fun B k=>Ah<|Ad<|rn 1 rfl<|kC b fun f b=>rI (Rd.shp hl') f rfl<|rE (Au hl') f 0 rfl<|rA rfl fun m=>ry [0] rfl<|Ag<|rm 4 [0] rfl<|kB b fun n o b=>rc _ (BG (caps:=[]) rfl lY rfl) (aH N ((l'[a.toNat]!).1) ((l'[a.toNat]!).2) _ o)<|kC b fun g b=>rI (Sl.shp e) g rfl<|QS (Ls:=[(NS m ((l'[a.toNat]!).1) ((l'[a.toNat]!).2)),c]) 1 (En:=Aa4) (d[a.toNat]!) n (a.toNat) 0 rfl rfl rfl e (De g) rfl rfl rfl (HN rfl) rfl (fun p x=> ?_)
  refine Ak<|k _ _ ?_
  refine Ag<|kC b fun q b=>rX q rfl<|rz rfl<|fg _ (Sub.pick [(NS m ((l'[a.toNat]!).1) ((l'[a.toNat]!).2)),p] [1] rfl) ?_
  exact⟨h+1,by omega,h,(d).set (a.toNat) n,(a+1),b,p,x,Af rfl rfl,rfl⟩
 refine AD<|w _ _ ?_
 refine AZ rfl ?_
 cases b
 refine Bi (fun D=>Ha (v0:=v) e (EK (Sub.pick [c] [0] rfl)) rfl (Gj rfl))
def FS(N:Nat)(s:List UInt8):Option Bool:=(LY N s).bind fun a=>if a=true then(LD N s ([46]:List UInt8)).bind fun b=>some (!(b))else some false
theorem Kr(N s r)(a:FS N s=some r):Gives prog 178 #[vS s] (vB r):=by
 unfold FS at a
 refine As follows func178 rfl 10 rfl _ fz1 (fun d=> ?_)
 refine AZ rfl<|Aa fun h b=>Ag<|rn 1 rfl<|kB a fun g e a=>rc _ (cF VK) (QU N s _ e)<|rn 1 rfl ?_
 rcases c:g with _|_
 ·replace a:=iB c a
  refine rz rfl<|b _ _ ?_
  cases a
  exact aR eE1
 replace a:=ifp c a
 refine rn 1 rfl<|r_y rfl<|kB a fun i f a=>rc _ (cF br) (Rm N s ([46]:List UInt8) _ f)<|rz rfl<|b _ _ ?_
 cases a
 exact aR eE1
def IQ(N:Nat)(w:Int):Option Int:=(AE N w 1 128).bind fun a=>(Ao N a 9).bind fun b=>some b
theorem Ow(N w r)(a:IQ N w=some r):Gives prog 127 #[vI w] (vI r):=by
 unfold IQ at a
 refine As follows func127 rfl 6 rfl _ fz1 (fun b=> ?_)
 refine AZ rfl<|Ad<|rn 1 rfl<|kB a fun e c a=>rc _ (cF Dg) (AO N w 1 128 _ c)<|kB a fun f d a=>rc _ (cF Bg) (Ax N e 9 _ d)<|rz rfl ?_
 cases a
 exact aR eE1
def MP(N:Nat)(_:List UInt8)(a:Int):Option Int:=(IQ N a).bind fun b=>some b
theorem aG(N f_0 f_1 r)(a:MP N f_0 f_1=some r):Gives prog 126 #[vA #[vS f_0,vI f_1]] (vI r):=by
 unfold MP at a
 refine As follows func126 rfl 6 rfl _ fz1 (fun b=> ?_)
 refine Ad<|rA rfl fun d=>rz rfl<|Ad<|rm 2 [0] rfl<|kB a fun e c a=>rc _ (cF VJ) (Ow N f_1 _ c)<|rz rfl ?_
 cases a
 exact aR eE1
def Lc(N:Nat)(i:Int)(c:List UInt8)(e:Int)(a:List (List UInt8)):Option Int:=ck (0≤i∧i<(a.length:Int)) ((FS N (a[i.toNat]!)).bind fun h=>(Ao N h 4).bind fun f=>(Bf N a i).bind fun g=>(MP N c e).bind fun b=>(AP N ([f,g,b])).bind fun d=>some d)
theorem Tp(N i x_0 x_1 b r)(c:Lc N i x_0 x_1 b=some r)(ro)(l:Nat)(a)(e:Rd Aa4 ro a b)(f:Blk ro l [a])(m:Nat)(n:Blk ro m [vF 126 #[] #[]]):Does prog 177 #[vI i,vA #[vS x_0,vI x_1],vP l 0,vP m 0] ro [] (pV (vI r)):=by
 unfold Lc at c
 refine Aj follows func177 rfl 21 rfl _ fz4 (fun z=> ?_)
 refine Ad<|rA rfl fun G=>rz rfl<|Aa fun J A=>Bw [(some 15,false),(some 19,false),(some 20,false)] (conG prog [(15,cV (Bf N b i) fun j=>vI j),(20,fun _ _ v_ L_ U_=> ∀j,FS N (b[i.toNat]!)=some j→ ∀t,Ao N j 4=some t→ ∀u,Bf N b i=some u→ ∀v,MP N x_0 x_1=some v→ ∀x,AP N ([t,u,v])=some x→(pV (vI x)) v_ L_ U_)]) [] (by decide+kernel) (fun K=>AH)<|GX a (vs:=[a]) (o:=0) rfl rfl (AQ f) rfl<|rn 1 rfl<|kC c fun y c=>rI (Rd.shp e) y rfl<|rE (Au e) y 0 rfl<|kB c fun H p c=>rc _ (cF ME) (Kr N (b[i.toNat]!) _ p)<|kB c fun B q c=>rc _ (cF Bg) (Ax N H 4 _ q)<|GX a (vs:=[a]) (o:=0) rfl rfl (AQ f) rfl<|rn 1 rfl<|kB c fun C d c=>rg _ (cF KU) (fun o w z_=>Hp N b i _ d z_.view a (z_.r e)) (GB d)<|GX (vF 126 #[] #[]) (vs:=[vF 126 #[] #[]]) (o:=0) rfl rfl (AQ n) rfl<|rm 1 [0] rfl<|kB c fun s g c=>rc _ (BG (caps:=[]) rfl lX rfl) (aG N x_0 x_1 _ g) ?_
 refine IW (Ls:=[(NS G x_0 x_1)]) 46 BJ [B,C,s] [vI B,vI C,vI s] [vI 0,vI 0,vI 0] rfl rfl rfl rfl rfl rfl rfl (by kernel_rfl) (by kernel_rfl) rfl rfl rfl (fun D E F=> ?_)
 refine kB c fun I h c=>rg _ (cF EG) (fun o w z_=>BS N ([B,C,s]) _ h z_.view D ((Av F (Ai (Ls:=[(NS G x_0 x_1),E]) (k:=1) rfl rfl)) o w z_)) (fun _ _ v_ L_ U_=>⟨fun h_=>h_ _ p _ q _ d _ g _ h,fun h_=>by intro _ e_;cases q1 (e_.symm.trans p);intro _ e_;cases q1 (e_.symm.trans q);intro _ e_;cases q1 (e_.symm.trans d);intro _ e_;cases q1 (e_.symm.trans g);intro _ e_;cases q1 (e_.symm.trans h);exact h_⟩) ?_
 refine rz rfl<|A _ _ ?_
 cases c
 exact aR eV1
def IC(N:Nat)(c:List (List UInt8×Int))(b:List (List UInt8)):Nat→Int→Option (Int×Int)
  |0,_=>none
  |e+1,a=>if a<(c.length:Int)then ck (0≤a∧a<(c.length:Int)) ((Lc N a ((c[a.toNat]!).1) ((c[a.toNat]!).2) b).bind fun d=>if(d:Int)≠0 then some (a,d)else ck (R64 (a+1)) ((IC N c b e) (a+1)))else some (0,0)
def Nq(N:Nat)(c:List (List UInt8×Int))(b:Int)(a:List (List UInt8)):Option (Int×Int):=if(c.length:Int)>b then some (0,2)else IC N c a N 0
theorem Wu(N l' most d r)(c:Nq N l' most d=some r)(ro l'v)(hl':Rd Ab4 ro l'v l')(a:Nat)(e)(i:Rd Aa4 ro e d)(g:Blk ro a [e])(b:Nat)(h:Blk ro b [vF 126 #[] #[]]):Does prog 176 #[l'v,vI most,vF 177 #[] #[vP a 0,vP b 0]] ro [] (pV (vT #[vI r.1,vI r.2])):=by
 unfold Nq at c
 refine Aj follows func176 rfl 31 rfl _ fz3 (fun v=> ?_)
 refine AZ rfl<|Aa fun E x=>Ad<|rn 1 rfl<|rL (Rd.shp hl') rfl<|rz rfl<|aD c rfl (fun y c=> ?_) (fun y c=> ?_)
 ·refine AZ rfl ?_
  cases c
  exact aR eV2
 refine Ab<|x _ _ ?_
 refine Aa fun F z=>Ad<|rn 1 rfl<|rL (Rd.shp hl') rfl<|rz rfl<|Ah<|AC (fun tt ll nn=> ∃(k:Nat) (f:Int),(IC N l' d k f=some r)∧Is [(2,vF 177 #[] #[vP a 0,vP b 0]),(15,l'v),(16,vI (l'.length:Int)),(17,vI f)] [] tt ll∧nn=k+1) (N+1) ?_ ?_
 ·exact⟨N,0,c,Af rfl rfl,rfl⟩
 clear c;rintro t l _ ⟨k,f,c,⟨⟨T,rfl⟩,rfl⟩,rfl⟩
 rcases k with _|k
 ·exact absurd c (by simp [IC])
 rw [IC] at c
 refine AZ rfl<|Aa fun A m=>aD c rfl (fun n c=> ?_) (fun n c=> ?_)
 ·refine Ab<|m _ _ ?_
  refine Aa fun B p=>Ah<|Ad<|rn 1 rfl<|kC c fun j c=>rI (Rd.shp hl') j rfl<|rE (Au hl') j 0 rfl<|rA rfl fun C=>ry [0] rfl<|Ad<|rm 3 [0] rfl<|kB c fun D q c=>gV _ (BG (caps:=[vP a 0,vP b 0]) rfl lk rfl) (fun o w z_=>Tp N f ((l'[f.toNat]!).1) ((l'[f.toNat]!).2) d _ q z_.view a e (z_.r i) (AQ g o w z_) b (AQ h o w z_))<|rz rfl<|AZ rfl<|aN c rfl (fun s c=> ?_) (fun s c=> ?_)
  ·refine AZ rfl ?_
   cases c
   exact aR eV2
  refine Ab<|p _ _ ?_
  refine Ag<|kC c fun u c=>rX u rfl<|rz rfl<|fg _ (Sub.of (suC _ suN)) ?_
  exact⟨k+1,by omega,k,(f+1),c,Af rfl rfl,rfl⟩
 refine AD<|z _ _ ?_
 refine AZ rfl ?_
 cases c
 exact aR eV2
def Ni(N:Nat)(c:List (List UInt8×Int))(b:Int):Option (Int×Int):=(Nm N c).bind fun d=>(Nq N c b d).bind fun a=>some (a.1,a.2)
theorem Wm(N l' most r)(a:Ni N l' most=some r)(ro l'v)(hl':Rd Ab4 ro l'v l'):Does prog 124 #[l'v,vI most,vF 125 #[] #[],vF 126 #[] #[]] ro [] (pV (vT #[vI r.1,vI r.2])):=by
 unfold Ni at a
 refine Aj follows func124 rfl 20 rfl _ fz4 (fun d=> ?_)
 refine Ad<|rA rfl fun b=>rz rfl<|Ad<|rn 2 rfl<|kB a fun j g a=>gS (Ls:=[(UF b (vF 126 #[] #[]))]) (cF ln) (fun o w z_=>Wq N l' _ g z_.view l'v ((Au hl') o w z_)) (fun e i h=> ?_)
 refine rA rfl fun f=>r_s (List.flatten [(RD f e),(UF b (vF 126 #[] #[])),i]) 0 _ _ _ _ _ (#[e]) rfl rfl rfl (FM rfl (Sl.shp h)) (.ofS rfl rfl (Ae (Shp.one (Sl.shp h)) Bt)) rfl rfl<|Ak<|Ad<|rn 2 rfl<|r_W (vF 177 #[] #[vP f 0,vP b 0]) rfl (HD rfl)<|kB a fun l c a=>gV _ (cF lm) (fun o w z_=>Wu N l' most j _ c z_.view l'v ((Au hl') o w z_) f e ((Av h (Ai (Ls:=[(RD f e),(UF b (vF 126 #[] #[])),i]) (k:=2) rfl rfl)) o w z_) (Cw 0 rfl rfl o w z_) b (Cw 1 rfl rfl o w z_))<|rz rfl ?_
 cases a
 exact aR eV2
def OE(N:Nat)(c:An):Option (Int×Int):=(Ni N c.2.2.2.1 16).bind fun a=>some (a.1,a.2)
theorem YI(N c r)(a:OE N c=some r)(ro)(cv:Ay)(hc:Aa2 ro cv c):Does prog 80 #[vA (Ac c cv)] ro [] (pV (vT #[vI r.1,vI r.2])):=by
 unfold OE at a
 refine Aj follows func80 rfl 10 rfl _ fz1 (fun b=> ?_)
 refine Ad<|rA rfl fun e=>rz rfl<|Ad<|rm 3 [0] rfl<|kB a fun f d a=>gV _ (cF lZ) (fun o w z_=>Wm N c.2.2.2.1 16 _ d z_.view cv.2.2.1 ((Au hc.2.2.1) o w z_))<|rz rfl ?_
 cases a
 exact aR eV2
def Lh(_:Nat)(a:List UInt8)(_:List (Int×Int))(_:List (Int×Int×Int))(_:List (Int×BitVec 128×Int×BitVec 128×Int))(_:Int):Option (List UInt8):=some a
theorem Tu(N s_0 s_1 s_2 s_3 s_4 r)(b:Lh N s_0 s_1 s_2 s_3 s_4=some r)(ro:Ro)(s_1v:Value)(_hs_1:Rd Af2 ro s_1v s_1)(s_2v:Value)(_hs_2:Rd Ad0 ro s_2v s_2)(s_3v:Value)(_hs_3:Rd Af3 ro s_3v s_3):Does prog 129 #[vA #[vS s_0,s_1v,s_2v,s_3v,vI s_4]] ro [] (pV (vS r)):=by
 unfold Lh at b
 refine Aj follows func129 rfl 5 rfl _ fz1 (fun a=> ?_)
 refine Ad<|rA rfl fun c=>rz rfl<|AY [0] rfl ?_
 cases b
 exact aR eV1
def Iw(N:Nat)(b:List ((List UInt8)×(List (Int×Int))×(List (Int×Int×Int))×(List (Int×BitVec 128×Int×BitVec 128×Int))×Int)):Nat→List (List UInt8)→Int→Option (List (List UInt8))
  |0,_,_=>none
  |e+1,c,a=>if a<(b.length:Int)then ck (0≤a∧a<(b.length:Int)) ((Lh N (b[a.toNat]!.1) (b[a.toNat]!.2.1) (b[a.toNat]!.2.2.1) (b[a.toNat]!.2.2.2.1) (b[a.toNat]!.2.2.2.2)).bind fun d=>ck (0≤a∧a<(c.length:Int)) (ck (R64 (a+1)) ((Iw N b e) ((c).set (a.toNat) d) (a+1))))else some c
def Nk(N:Nat)(a:List ((List UInt8)×(List (Int×Int))×(List (Int×Int×Int))×(List (Int×BitVec 128×Int×BitVec 128×Int))×Int)):Option (List (List UInt8)):=ck (0≤(a.length:Int)∧(a.length:Int)≤8796093022208) (Iw N a N ((List.replicate ((a.length:Int)).toNat ([]))) 0)
theorem Wo(N l' r)(b:Nk N l'=some r)(ro l'v)(hl':RdN Ad8 ro l'v l'):Does prog 179 #[l'v,vF 129 #[] #[]] ro [] (p1 (fun s_=>s_) 9 Aa4 r):=by
 unfold Nk at b
 refine Aj follows func179 rfl 26 rfl _ fz2 (fun B=> ?_)
 refine AZ rfl<|Ad<|rn 1 rfl<|rL (RdN.shp hl') rfl<|kC b fun C b=>cB 10<|Sq (Ls:=[]) 9 Aa4 ([]) (l'.length:Int) rfl rfl rfl rfl rfl rfl rfl rfl rfl rfl 8796093022208 rfl C (fun _ _ _ _ _=>Iff.rfl) (fun D H I=> ?_)
 refine rz rfl<|Aa fun L F=>Ad<|rn 1 rfl<|rL (RdN.shp hl') rfl<|rz rfl<|Ah<|Bo _ (Sub.pick [H] [0] rfl)<|AC (fun tt ll nn=> ∃(p:Nat) (g:List (List UInt8)) (a:Int),(Iw N l' p g a=some r)∧ ∃(c:List Bl),Sl 9 Aa4 D g c∧Is [(1,vF 129 #[] #[]),(5,D),(11,l'v),(12,vI (l'.length:Int)),(13,vI a)] (List.flatten [c]) tt ll∧nn=p+1) (N+1) ?_ ?_
 ·exact⟨N,(List.replicate ((l'.length:Int)).toNat ([])),0,b,H,I,Af rfl rfl,rfl⟩
 clear b;rintro t l _ ⟨p,g,a,b,c,h,⟨⟨T,rfl⟩,rfl⟩,rfl⟩
 rcases p with _|p
 ·exact absurd b (by simp [Iw])
 rw [Iw] at b
 refine AZ rfl<|Aa fun J s=>aD b rfl (fun u b=> ?_) (fun u b=> ?_)
 ·refine Ab<|s _ _ ?_
  refine Aa fun K v=>Ah<|Ad<|rn 1 rfl<|kC b fun i b=> ?_
  obtain⟨_,⟨d,e,f,j,k,m,rfl⟩,hat22⟩:=RdN.at (E:=Ad8) hl' (De i)
  refine rI (RdN.shp hl') i rfl<|MG (vA #[vS (l'[a.toNat]!.1),d,e,f,vI (l'[a.toNat]!.2.2.2.2)]) (vs:=[vS (l'[a.toNat]!.1),d,e,f,vI (l'[a.toNat]!.2.2.2.2)]) (a.toNat*5) 0 rfl rfl (fun o w z_=>At.mono z_.ro_cell hat22) rfl<|rA rfl fun q=>rn 1 rfl<|r_s (List.flatten [(UG q (l'[a.toNat]!.1) d e f (l'[a.toNat]!.2.2.2.2)),c]) 0 _ _ _ _ _ (#[vS (l'[a.toNat]!.1),d,e,f,vI (l'[a.toNat]!.2.2.2.2)]) rfl rfl rfl rfl (.ofS rfl rfl (Ae rfl (Ae (Shp.one (Rd.shp j)) (Ae (Shp.one (Rd.shp k)) (Ae (Shp.one (Rd.shp m)) (Ae rfl Bt)))))) rfl rfl<|Ak<|Ag<|rm 4 [0] rfl<|kB b fun x y b=>gV _ (BG (caps:=[]) rfl lV rfl) (fun o w z_=>Tu N (l'[a.toNat]!.1) (l'[a.toNat]!.2.1) (l'[a.toNat]!.2.2.1) (l'[a.toNat]!.2.2.2.1) (l'[a.toNat]!.2.2.2.2) _ y z_.view d (z_.r j) e (z_.r k) f (z_.r m))<|kC b fun n b=>rI (Sl.shp h) n rfl<|QS (Ls:=[(UG q (l'[a.toNat]!.1) d e f (l'[a.toNat]!.2.2.2.2)),c]) 1 (En:=Aa4) (g[a.toNat]!) x (a.toNat) 0 rfl rfl rfl h (De n) rfl rfl rfl (HN rfl) rfl (fun z G=> ?_)
  refine Ak<|v _ _ ?_
  refine Ag<|kC b fun A b=>rX A rfl<|rz rfl<|fg _ (Sub.pick [(UG q (l'[a.toNat]!.1) d e f (l'[a.toNat]!.2.2.2.2)),z] [1] rfl) ?_
  exact⟨p+1,by omega,p,(g).set (a.toNat) x,(a+1),b,z,G,Af rfl rfl,rfl⟩
 refine AD<|F _ _ ?_
 refine AZ rfl ?_
 cases b
 refine Bi (fun M=>Ha (v0:=D) h (EK (Sub.pick [c] [0] rfl)) rfl (Gj rfl))
def Rl(N:Nat)(c:List (List UInt8×Int×Int)):Nat→Int→Int→Option (Int×Int×Bool)
  |0,_,_=>none
  |e+1,a,b=>if b<(c.length:Int)then ck (0≤b∧b<(c.length:Int)) ((Il N ((c[b.toNat]!).1) ((c[b.toNat]!).2.1) ((c[b.toNat]!).2.2)).bind fun d=>if a<d then some (b,a,true)else ck (R64 (a - d)) (ck (R64 (b+1)) ((Rl N c e) (a - d) (b+1))))else some (0,0,false)
def Uc(N:Nat)(b:List (List UInt8×Int×Int))(a:Int):Option (Int×Int×Bool):=if a<0 then some (0,0,false)else Rl N b N a 0
theorem ci(N l' slot r)(a:Uc N l' slot=some r)(ro l'v)(hl':Rd Ad5 ro l'v l'):Does prog 154 #[l'v,vI slot] ro [] (pV (vT #[vI r.1,vI r.2.1,vB r.2.2])):=by
 unfold Uc at a
 refine Aj follows func154 rfl 30 rfl _ fz2 (fun o=> ?_)
 refine AZ rfl<|Aa fun z p=>AZ rfl<|aD a rfl (fun q a=> ?_) (fun q a=> ?_)
 ·refine AZ rfl ?_
  cases a
  exact aR eV3
 refine Ab<|p _ _ ?_
 refine Aa fun A s=>Ad<|rn 1 rfl<|rL (Rd.shp hl') rfl<|rz rfl<|Ah<|AC (fun tt ll nn=> ∃(e:Nat) (b:Int) (c:Int),(Rl N l' e b c=some r)∧Is [(1,vI b),(12,l'v),(13,vI (l'.length:Int)),(14,vI c)] [] tt ll∧nn=e+1) (N+1) ?_ ?_
 ·exact⟨N,slot,0,a,Af rfl rfl,rfl⟩
 clear a;rintro t l _ ⟨e,b,c,a,⟨⟨T,rfl⟩,rfl⟩,rfl⟩
 rcases e with _|e
 ·exact absurd a (by simp [Rl])
 rw [Rl] at a
 refine AZ rfl<|Aa fun v f=>aD a rfl (fun g a=> ?_) (fun g a=> ?_)
 ·refine Ab<|f _ _ ?_
  refine Aa fun w h=>Ah<|Ad<|rn 1 rfl<|kC a fun d a=>rI (Rd.shp hl') d rfl<|rE (Au hl') d 0 rfl<|rA rfl fun x=>ry [0] rfl<|Ad<|rm 1 [0] rfl<|kB a fun u i a=>rc _ (cF Zj) (Pj N ((l'[c.toNat]!).1) ((l'[c.toNat]!).2.1) ((l'[c.toNat]!).2.2) _ i)<|rz rfl<|Aa fun y j=>AZ rfl<|aD a rfl (fun k a=> ?_) (fun k a=> ?_)
  ·refine AZ rfl ?_
   cases a
   exact aR eV3
  refine Ab<|j _ _ ?_
  refine Ag<|rn 2 rfl<|kC a fun m a=>rX m rfl<|rz rfl<|h _ _ ?_
  refine Ag<|kC a fun n a=>rX n rfl<|rz rfl<|fg _ (Sub.of (suC _ suN)) ?_
  exact⟨e+1,by omega,e,(b - u),(c+1),a,Af rfl rfl,rfl⟩
 refine AD<|s _ _ ?_
 refine AZ rfl ?_
 cases a
 exact aR eV3
def Oi(N:Nat)(a:List (List UInt8×Int×Int))(i:Int):Option (Int×Bool):=ck (0≤i∧i≤(a.length:Int)) ((LL N (((a).take (i.toNat)).drop 0)).bind fun b=>some (b,true))
def NH(N:Nat)(a:List (List UInt8×Int×Int))(i:Int):Option (Int×Bool):=ck ((R64 ((a.length:Int) - 1))) ((FB N i 0 ((a.length:Int) - 1)).bind fun c=>if c=true then ck (0≤i∧i<(a.length:Int)) ((Il N ((a[i.toNat]!).1) ((a[i.toNat]!).2.1) ((a[i.toNat]!).2.2)).bind fun b=>if b=0 then some (0,false)else Oi N a i)else some (0,false))
theorem eW(N l' i r)(a:NH N l' i=some r)(ro l'v)(hl':Rd Ad5 ro l'v l'):Does prog 41 #[l'v,vI i] ro [] (pV (vT #[vI r.1,vB r.2])):=by
 unfold NH at a
 refine Aj follows func41 rfl 24 rfl _ fz2 (fun h=> ?_)
 refine AZ rfl<|BR (fun tt ll=>(Oi N l' i  =some r)∧Is [(0,l'v),(1,vI i)] [] tt ll) ?_ ?_
 ·refine Aa fun q d=>Ag<|rn 2 rfl<|rL (Rd.shp hl') rfl<|kC a fun j a=>rX j rfl<|kB a fun n k a=>rc _ (cF KG) (Hr N i 0 ((l'.length:Int) - 1) _ k)<|rn 2 rfl ?_
  rcases b:(!(n))with _|_
  ·replace a:=ifp (CN b) a
   refine rn 2 rfl<|r_y rfl<|kC a fun c a=>rI (Rd.shp hl') c rfl<|r_y rfl<|rE (Au hl') c 0 rfl<|r_y rfl<|kB a fun p e a=>rc _ (cF Zj) (Pj N ((l'[i.toNat]!).1) ((l'[i.toNat]!).2.1) ((l'[i.toNat]!).2.2) _ e)<|rz rfl<|d _ _ ?_
   refine aE a rfl (fun f a=> ?_) (fun f a=> ?_)
   ·refine AZ rfl ?_
    cases a
    exact aR eV2
   refine Ab<|fg _ (Sub.of suN) ?_
   exact⟨a,Af rfl rfl⟩
  replace a:=ifn (Bool.eq_false_iff.1 (CM b)) a
  refine rz rfl<|d _ _ ?_
  refine Lq rfl ?_
  refine AZ rfl ?_
  cases a
  exact aR eV2
 clear a;rintro t l ⟨a,⟨T,rfl⟩,rfl⟩
 unfold Oi at a
 refine Ad<|rn 2 rfl<|kC a fun g a=>r_W (Fy l'v 0 (i.toNat) 3) rfl (ET (HC rfl rfl rfl rfl (Rd.shp hl') g))<|kB a fun s m a=>gV _ (cF Zm) (fun o w z_=>Se N (((l').take (i.toNat)).drop 0) _ m z_.view (Fy l'v 0 (i.toNat) 3) ((Ol (Au hl') (Nat.zero_le _) (GD g.2)) o w z_))<|rz rfl ?_
 cases a
 exact aR eV2
def Jg(m:An)(a:Int)(b:Int×Bool):Option (Int×Int×Bool):=ck (0≤a∧a<(m.2.2.1.length:Int)) (some (b.1,((m.2.2.1)[a.toNat]!).2.2,true))
def GY(N:Nat)(m:An)(a:Int):Option (Int×Int×Bool):=(NH N m.2.2.1 a).bind fun b=>if b.2=true then ck (0≤a∧a<(m.2.2.1.length:Int)) (if(((m.2.2.1)[a.toNat]!).2.2:Int)=0 then some (0,0,false)else Jg m a b)else some (0,0,false)
theorem Me(N m inst r)(a:GY N m inst=some r)(ro)(mv:Ay)(hm:Aa2 ro mv m):Does prog 22 #[vA (Ac m mv),vI inst] ro [] (pV (vT #[vI r.1,vI r.2.1,vB r.2.2])):=by
 unfold GY at a
 refine Aj follows func22 rfl 34 rfl _ fz2 (fun g=> ?_)
 refine Ad<|rA rfl fun k=>rz rfl<|Ad<|rm 3 [0] rfl<|kB a fun h i a=>gV _ (cF pn) (fun o w z_=>eW N m.2.2.1 inst _ i z_.view mv.2.1 ((Au hm.2.1) o w z_))<|rz rfl<|BR (fun tt ll=>(Jg m inst h  =some r)∧Is [(1,vI inst),(2,vP k 0),(7,vI h.1)] [(k,35,(Ac m mv))] tt ll) ?_ ?_
 ·refine Aa fun n d=>Ag<|rn 3 rfl ?_
  rcases e:(!(h.2))with _|_
  ·replace a:=ifp (CN e) a
   refine rn 1 rfl<|r_y rfl<|rm 2 [0] rfl<|r_y rfl<|kC a fun b a=>rI (Rd.shp hm.2.1) b rfl<|r_y rfl<|rF (Rd.shp hm.2.1) (Bb b) rfl<|r_y rfl<|rE (Au hm.2.1) b 2 rfl<|rz rfl<|d _ _ ?_
   refine aE a rfl (fun f a=> ?_) (fun f a=> ?_)
   ·refine AZ rfl ?_
    cases a
    exact aR eV3
   refine Ab<|fg _ (Sub.of (suK _ suN)) ?_
   exact⟨a,Af rfl rfl⟩
  replace a:=ifn (Bool.eq_false_iff.1 (CM e)) a
  refine rz rfl<|d _ _ ?_
  refine Lq rfl ?_
  refine AZ rfl ?_
  cases a
  exact aR eV3
 clear a;rintro t l ⟨a,⟨T,rfl⟩,rfl⟩
 unfold Jg at a
 refine Aa fun p j=>Hb [] (by decide+kernel) (fun q=>AH)<|rm 4 [0] rfl<|kC a fun c a=>rI (Rd.shp hm.2.1) c rfl<|rF (Rd.shp hm.2.1) (Bb c) rfl<|rE (Au hm.2.1) c 2 rfl<|rz rfl<|j _ _ ?_
 cases a
 exact aR eV3
def QY(N:Nat)(c:An)(_:Int)(a:Int)(b:Int):Option Int:=if a=0 then(Uc N c.2.2.1 b).bind fun d=>if d.2.2=true then ck (0≤d.1∧d.1<(c.2.2.1.length:Int)) ((Ao N ((((c.2.2.1)[(d.1).toNat]!).2.2:Int)==0) 5).bind fun g=>some g)else(Ao N false 5).bind fun j=>some j else if a=1 then(GY N c b).bind fun f=>(Ao N f.2.2 5).bind fun e=>some e else if a=2 then(AE N b 1 64).bind fun h=>(Ao N h 7).bind fun i=>some i else some 10
theorem cO(N c x x_0 x_1 r)(a:QY N c x x_0 x_1=some r)(ro)(cv:Ay)(hc:Aa2 ro cv c):Does prog 183 #[vA (Ac c cv),vI x,vA #[vI x_0,vI x_1]] ro [] (pV (vI r)):=by
 unfold QY at a
 refine Aj follows func183 rfl 58 rfl _ fz3 (fun p=> ?_)
 refine Ad<|rA rfl fun D=>rA rfl fun E=>rz rfl<|Aa fun F q=>AY [0] rfl<|Ah<|AZ rfl<|aE a rfl (fun s a=> ?_) (fun s a=> ?_)
 ·refine Ad<|rm 5 [1,0] rfl<|kB a fun z f a=>gV _ (cF VG) (fun o w z_=>ci N c.2.2.1 x_1 _ f z_.view cv.2.1 ((Au hc.2.1) o w z_))<|rz rfl<|Aa fun A d=>Ag<|rn 2 rfl ?_
  rcases e:z.2.2 with _|_
  ·replace a:=iB e a
   refine rn 9 rfl<|kB a fun t g a=>rc _ (cF Bg) (Ax N false 5 _ g)<|rz rfl<|d _ _ ?_
   refine Gm [(6,vI t)] rfl (fun T=> ?_)
   cases a
   exact aR eV1
  replace a:=ifp e a
  refine rn 2 rfl<|r_y rfl<|rm 2 [1] rfl<|r_y rfl<|kC a fun b a=>rI (Rd.shp hc.2.1) b rfl<|r_y rfl<|rF (Rd.shp hc.2.1) (Bb b) rfl<|r_y rfl<|rE (Au hc.2.1) b 2 rfl<|rn 2 rfl<|kB a fun u h a=>rc _ (cF Bg) (Ax N ((((c.2.2.1)[(z.1).toNat]!).2.2:Int)==0) 5 _ h)<|rz rfl<|d _ _ ?_
  refine Gm [(6,vI u)] rfl (fun T=> ?_)
  cases a
  exact aR eV1
 refine AZ rfl<|aE a rfl (fun i a=> ?_) (fun i a=> ?_)
 ·refine Ad<|rm 4 [1,0] rfl<|kB a fun v j a=>gV _ (cF Zp) (fun o w z_=>Me N c x_1 _ j z_.view cv (Aa2.mono z_.ro_cell hc))<|rz rfl<|Ad<|rn 1 rfl<|kB a fun B k a=>rc _ (cF Bg) (Ax N v.2.2 5 _ k)<|rz rfl ?_
  cases a
  exact aR eV1
 refine AZ rfl<|aE a rfl (fun l a=> ?_) (fun l a=> ?_)
 ·refine Ad<|rm 2 [0] rfl<|kB a fun y m a=>rc _ (cF Dg) (AO N x_1 1 64 _ m)<|kB a fun C n a=>rc _ (cF Bg) (Ax N y 7 _ n)<|rz rfl ?_
  cases a
  exact aR eV1
 refine Ab<|q _ _ ?_
 refine AZ rfl ?_
 cases a
 exact aR eV1
def JU(N:Nat)(c:List (Int×Int))(b:An):Nat→Int→Option (Int×Int)
  |0,_=>none
  |e+1,a=>if a<(c.length:Int)then ck (0≤a∧a<(c.length:Int)) ((QY N b a ((c[a.toNat]!).1) ((c[a.toNat]!).2)).bind fun d=>if(d:Int)≠0 then some (a,d)else ck (R64 (a+1)) ((JU N c b e) (a+1)))else some (0,0)
def PM(N:Nat)(c:List (Int×Int))(b:Int)(a:An):Option (Int×Int):=if(c.length:Int)>b then some (0,2)else JU N c a N 0
theorem aC(N l' most a r)(c:PM N l' most a=some r)(ro l'v)(hl':Rd Af2 ro l'v l')(b:Ay)(e:Aa2 ro b a):Does prog 182 #[l'v,vI most,vF 183 #[vA (Ac a b)] #[]] ro [] (pV (vT #[vI r.1,vI r.2])):=by
 unfold PM at c
 refine Aj follows func182 rfl 31 rfl _ fz3 (fun p=> ?_)
 refine AZ rfl<|Aa fun A q=>Ad<|rn 1 rfl<|rL (Rd.shp hl') rfl<|rz rfl<|aD c rfl (fun s c=> ?_) (fun s c=> ?_)
 ·refine AZ rfl ?_
  cases c
  exact aR eV2
 refine Ab<|q _ _ ?_
 refine Aa fun B u=>Ad<|rn 1 rfl<|rL (Rd.shp hl') rfl<|rz rfl<|Ah<|AC (fun tt ll nn=> ∃(g:Nat) (d:Int),(JU N l' a g d=some r)∧Is [(2,vF 183 #[vA (Ac a b)] #[]),(15,l'v),(16,vI (l'.length:Int)),(17,vI d)] [] tt ll∧nn=g+1) (N+1) ?_ ?_
 ·exact⟨N,0,c,Af rfl rfl,rfl⟩
 clear c;rintro t l _ ⟨g,d,c,⟨⟨T,rfl⟩,rfl⟩,rfl⟩
 rcases g with _|g
 ·exact absurd c (by simp [JU])
 rw [JU] at c
 refine AZ rfl<|Aa fun v h=>aD c rfl (fun i c=> ?_) (fun i c=> ?_)
 ·refine Ab<|h _ _ ?_
  refine Aa fun x j=>Ah<|Ad<|rn 1 rfl<|kC c fun f c=>rI (Rd.shp hl') f rfl<|rE (Au hl') f 0 rfl<|rA rfl fun y=>ry [0] rfl<|Ad<|rm 3 [0] rfl<|kB c fun z k c=>gV _ (PX (bd:=[vA (Ac a b)]) (caps:=[]) rfl lf rfl) (fun o w z_=>cO N a d ((l'[d.toNat]!).1) ((l'[d.toNat]!).2) _ k z_.view b (Aa2.mono z_.ro_cell e))<|rz rfl<|AZ rfl<|aN c rfl (fun m c=> ?_) (fun m c=> ?_)
  ·refine AZ rfl ?_
   cases c
   exact aR eV2
  refine Ab<|j _ _ ?_
  refine Ag<|kC c fun n c=>rX n rfl<|rz rfl<|fg _ (Sub.of (suC _ suN)) ?_
  exact⟨g+1,by omega,g,(d+1),c,Af rfl rfl,rfl⟩
 refine AD<|u _ _ ?_
 refine AZ rfl ?_
 cases c
 exact aR eV2
def SE(_:Nat)(s:List UInt8):Option (List UInt8):=if(s.length:Int)=0 then some ([])else ck (0≤(s.length:Int)∧(s.length:Int)≤140737488355328) (ck (0≤(0:Int)∧(0:Int)<((((s).take ((List.replicate ((s.length:Int)).toNat (0:UInt8))).length++((List.replicate ((s.length:Int)).toNat (0:UInt8))).drop (s).length)).length:Int)) (ck ((((s).take ((List.replicate ((s.length:Int)).toNat (0:UInt8))).length++((List.replicate ((s.length:Int)).toNat (0:UInt8))).drop (s).length)).length≤140737488355328) (some (((s).take ((List.replicate ((s.length:Int)).toNat (0:UInt8))).length++((List.replicate ((s.length:Int)).toNat (0:UInt8))).drop (s).length)))))
theorem fC(N s r)(b:SE N s=some r):Gives prog 260 #[vS s] (vS r):=by
 unfold SE at b
 refine As follows func260 rfl 18 rfl _ fz1 (fun f=> ?_)
 refine AZ rfl<|Aa fun m g=>Ad<|rn 1 rfl<|r_W (vI (s.length:Int)) rfl (LI rfl rfl rfl)<|rz rfl<|aE b rfl (fun h b=> ?_) (fun h b=> ?_)
 ·refine AZ rfl ?_
  cases b
  exact aR eE1
 refine Ab<|g _ _ ?_
 refine Ad<|rn 1 rfl<|r_W (vI (s.length:Int)) rfl (LI rfl rfl rfl)<|kC b fun i b=>cB 9<|Sq (Ls:=[]) 5 encY (0:UInt8) (s.length:Int) rfl rfl rfl rfl rfl rfl rfl rfl rfl rfl 140737488355328 rfl i (fun _ _ _ _ _=>Iff.rfl) (fun k l j=> ?_)
 refine rz rfl<|Ad<|rn 2 rfl<|cA 12 (p:=(pUp (fun v_ U_=>v_= .int .i64 ((min (s).length ((List.replicate ((s.length:Int)).toNat (0:UInt8))).length:Nat):Int)∧Sl 5 encY k ((s).take ((List.replicate ((s.length:Int)).toNat (0:UInt8))).length++((List.replicate ((s.length:Int)).toNat (0:UInt8))).drop (s).length) U_∧U_.map (·.1)=l.map (·.1))))<|qy (Lo:=True) (Ls:=[l]) 0 s rfl rfl rfl rfl rfl rfl j rfl rfl rfl (fun _ _ _ _ _=>Iff.rfl) (fun d c=> ?_)
 refine Ak<|Ad<|rn 1 rfl<|kC b fun a b=>rI (Sl.shp c) a rfl<|rn 1 rfl<|rL (Sl.shp c) rfl<|kC b fun e b=>cA 17 (p:=(pUp (fun v_ U_=>v_= .string ⟨(((s).take ((List.replicate ((s.length:Int)).toNat (0:UInt8))).length++((List.replicate ((s.length:Int)).toNat (0:UInt8))).drop (s).length)).toArray⟩∧U_=MQ d)))<|gF (Ls:=[d]) 0 (xs:=((s).take ((List.replicate ((s.length:Int)).toNat (0:UInt8))).length++((List.replicate ((s.length:Int)).toNat (0:UInt8))).drop (s).length)) rfl rfl rfl rfl rfl rfl (Sl.strict c (Bb a)) (qq k (Sl.strict c (Bb a)) (Bb a)) rfl (by kernel_rfl) rfl e (fun _ _ _ _ _=>Iff.rfl)<|Db (Ls:=[MQ d]) (Ls':=[]) [] rfl rfl ?_
 refine rz rfl ?_
 cases b
 exact aR eE1
def Qh(N:Nat)(s:List UInt8):Option (List UInt8):=(SE N s).bind fun a=>some a
theorem Xl(N s r)(a:Qh N s=some r):Gives prog 254 #[vS s] (vS r):=by
 unfold Qh at a
 refine As follows func254 rfl 5 rfl _ fz1 (fun b=> ?_)
 refine AZ rfl<|Ad<|rn 1 rfl<|kB a fun d c a=>rc _ (cF jJ) (fC N s _ c)<|rz rfl ?_
 cases a
 exact aR eE1
def FA(_:Nat)(s:List (List UInt8×Int)):Option (List (List UInt8×Int)):=ck ((([]:List (List UInt8×Int))).length+(s).length≤5864062014805) (some (([]:List (List UInt8×Int))++s))
theorem Jp(N s r)(a:FA N s=some r)(ro sv)(hs:Rd Ab4 ro sv s):Does prog 255 #[sv] ro [] (p1 (fun s_=>s_) 104 Ab4 r):=by
 unfold FA at a
 refine Aj follows func255 rfl 8 rfl _ fz1 (fun d=> ?_)
 refine AZ rfl<|Aa fun n e=>Aa fun o c=>Ag<|rn 1 rfl ?_
 rcases nH (Rd.shp hs)with⟨f,g⟩|hne6
 ·obtain rfl:=f;obtain rfl:=List.eq_nil_of_length_eq_zero g
  replace a:(some ([]))=some r:=(by first|exact a|(simp at a ⊢;exact a))
  refine rz rfl<|c _ _ ?_
  refine Lq rfl ?_
  refine AZ rfl ?_
  cases a
  refine Bi (fun l=>Ha (v0:=nS) Sl.nil (Sub.nil _) rfl (Gj rfl))
 refine r_W (.bool false) rfl (fF rfl rfl rfl (Rd.shp hs) hne6)<|Ak<|c _ _ ?_
 refine Ca rfl ?_
 refine Ab<|e _ _ ?_
 refine Ad<|gB (Ls:=[]) 104 Ab4 ([]:List (List UInt8×Int)) (fun p m h=> ?_)
 refine rn 1 rfl<|kC a fun b a=>cC 7<|JB (cs0:=[]) (Ls:=[m]) 0 (En:=Ab4) rfl rfl rfl rfl rfl h rfl (Au hs) rfl rfl rfl rfl rfl (Ke b rfl) (Kc b rfl) rfl (fun i j k=> ?_)
 refine rz rfl ?_
 cases a
 refine Bi (fun l=>Ha (v0:=i) k (EK (Sub.pick [j] [0] rfl)) rfl (Gj rfl))
def IX(N:Nat)(f:Int)(e:Int)(c:Int)(d:Int)(j:List UInt8)(g:List (List UInt8×Int)):Nat→Int→List (List UInt8×Int)→Option ((List UInt8)×(List (List UInt8×Int))×Int×Int×Int×Int)
  |0,_,_=>none
  |h+1,a,b=>if a<(g.length:Int)then ck (0≤a∧a<(b.length:Int)) ((Qh N ((b[a.toNat]!).1)).bind fun i=>ck (0≤a∧a<(b.length:Int)) (ck (R64 (a+1)) ((IX N f e c d j g h) (a+1) ((b).set (a.toNat) (i,(b[a.toNat]!).2)))))else some (j,b,f,e,c,d)
def Oh(N:Nat)(f:List UInt8)(c:List (List UInt8×Int))(g:Int)(e:Int)(a:Int)(d:Int):Option ((List UInt8)×(List (List UInt8×Int))×Int×Int×Int×Int):=(Qh N f).bind fun h=>(FA N c).bind fun b=>IX N g e a d h b N 0 b
theorem Yd(N h_0 h_1 h_2 h_3 h_4 h_5 r)(c:Oh N h_0 h_1 h_2 h_3 h_4 h_5=some r)(ro h_1v)(hh_1:Rd Ab4 ro h_1v h_1):Does prog 245 #[vA #[vS h_0,h_1v,vI h_2,vI h_3,vI h_4,vI h_5]] ro [] (p1 (fun s_=>vA #[vS r.1,s_,vI r.2.2.1,vI r.2.2.2.1,vI r.2.2.2.2.1,vI r.2.2.2.2.2]) 104 Ab4 r.2.1):=by
 unfold Oh at c
 refine Aj follows func245 rfl 32 rfl _ fz1 (fun C=> ?_)
 refine Ad<|rA rfl fun m=>rA rfl fun n=>Ak<|Ad<|rm 2 [1] rfl<|kB c fun g D c=>rc _ (cF bm) (Xl N h_0 _ D)<|ry [1] rfl<|Ad<|rm 2 [1] rfl<|kB c fun E F c=>gS (Ls:=[(Iu n (Value.string (⟨#[]⟩)) nS 0 0 0 0),(GQ m g h_1v h_2 h_3 h_4 h_5)]) (cF jM) (fun o w z_=>Jp N h_1 _ F z_.view h_1v (z_.r hh_1)) (fun a q p=> ?_)
 refine rn 1 rfl<|r_s (List.flatten [(Iu n (Value.string (⟨#[]⟩)) nS 0 0 0 0),(GQ m g a h_2 h_3 h_4 h_5),q]) 1 _ _ _ _ _ (#[vS g,a,vI h_2,vI h_3,vI h_4,vI h_5]) rfl rfl rfl (FM rfl (Sl.shp p)) (.ofS rfl rfl (Ae (Shp.one (Sl.shp p)) Bt)) rfl rfl<|Ak<|Aa fun I s=>Ad<|rm 2 [1] rfl<|rL (Sl.shp p) rfl<|rz rfl<|Ah ?_
 refine Bo _ (Sub.pick [(Iu n (Value.string (⟨#[]⟩)) nS 0 0 0 0),(GQ m g a h_2 h_3 h_4 h_5),q] [0,1,2] rfl)<|AC (fun tt ll nn=> ∃(h:Nat) (e:Int) (f:List (List UInt8×Int)),(IX N h_2 h_3 h_4 h_5 g E h e f=some r)∧ ∃(d:List Bl),Sl 104 Ab4 a f d∧Is [(1,vP m 0),(2,vP n 0),(14,vI (E.length:Int)),(15,vI e)] (List.flatten [(Iu n (Value.string (⟨#[]⟩)) nS 0 0 0 0),(GQ m g a h_2 h_3 h_4 h_5),d]) tt ll∧nn=h+1) (N+1) ?_ ?_
 ·exact⟨N,0,E,c,q,p,Af rfl rfl,rfl⟩
 clear c;rintro t l _ ⟨h,e,f,c,d,b,⟨⟨T,rfl⟩,rfl⟩,rfl⟩
 rcases h with _|h
 ·exact absurd c (by simp [IX])
 rw [IX] at c
 refine AZ rfl<|Aa fun J u=>aD c rfl (fun v c=> ?_) (fun v c=> ?_)
 ·refine Ab<|u _ _ ?_
  refine Aa fun K x=>Ah<|AZ rfl<|Hb [] (by decide+kernel) (fun H=>AH)<|rm 6 [1,1] rfl<|kC c fun i c=>rI (Sl.shp b) i rfl<|rF (Sl.shp b) (Bb i) rfl<|rE (Av b (Ai (Ls:=[(Iu n (Value.string (⟨#[]⟩)) nS 0 0 0 0),(GQ m g a h_2 h_3 h_4 h_5),d]) (k:=2) rfl rfl)) i 0 rfl<|kB c fun y z c=>rc _ (cF bm) (Xl N ((f[e.toNat]!).1) _ z)<|kC c fun j c=>rI (Sl.shp b) j rfl<|rF (Sl.shp b) (Bb j) rfl<|QS (Ls:=[(Iu n (Value.string (⟨#[]⟩)) nS 0 0 0 0),(GQ m g a h_2 h_3 h_4 h_5),d]) 2 (En:=Ab4) (f[e.toNat]!) (y,(f[e.toNat]!).2) (e.toNat) 0 rfl rfl rfl b (De j) rfl rfl rfl (HN rfl) rfl (fun A G=> ?_)
  refine Ak<|x _ _ ?_
  refine Ag<|kC c fun B c=>rX B rfl<|rz rfl<|fg _ (Sub.pick [(Iu n (Value.string (⟨#[]⟩)) nS 0 0 0 0),(GQ m g a h_2 h_3 h_4 h_5),A] [0,1,2] rfl) ?_
  exact⟨h+1,by omega,h,(e+1),(f).set (e.toNat) (y,(f[e.toNat]!).2),c,A,G,Af rfl rfl,rfl⟩
 refine AD<|s _ _ ?_
 refine Ad<|rm 1 [1] rfl<|r_s (List.flatten [(GQ n g a h_2 h_3 h_4 h_5),(GQ m g a h_2 h_3 h_4 h_5),d]) 0 _ _ _ _ _ (#[vS g,a,vI h_2,vI h_3,vI h_4,vI h_5]) rfl rfl rfl rfl (.ofS rfl rfl (Ae rfl (Ae (Shp.one (Sl.shp b)) (Ae rfl (Ae rfl (Ae rfl (Ae rfl Bt))))))) rfl rfl<|Ak ?_
 cases c
 refine Bi (fun H=>Ha (v0:=vA #[vS g,a,vI h_2,vI h_3,vI h_4,vI h_5]) b (EK (Sub.pick [(GQ n g a h_2 h_3 h_4 h_5),(GQ m g a h_2 h_3 h_4 h_5),d] [2] rfl)) rfl (Gj (AT H 0 rfl rfl rfl)))
def Pk(N:Nat)(a:List ((List UInt8)×(List (List UInt8×Int))×Int×Int×Int×Int))(d:List (List UInt8×Int×Int))(b:Int×Int×Bool):Option ((List UInt8)×(List (List UInt8×Int))×Int×Int×Int×Int×Bool):=ck (0≤b.1∧b.1<(d.length:Int)) (ck (0≤(d[(b.1).toNat]!).2.1∧(d[(b.1).toNat]!).2.1<(a.length:Int)) ((Oh N (a[((d[(b.1).toNat]!).2.1).toNat]!.1) (a[((d[(b.1).toNat]!).2.1).toNat]!.2.1) (a[((d[(b.1).toNat]!).2.1).toNat]!.2.2.1) (a[((d[(b.1).toNat]!).2.1).toNat]!.2.2.2.1) (a[((d[(b.1).toNat]!).2.1).toNat]!.2.2.2.2.1) (a[((d[(b.1).toNat]!).2.1).toNat]!.2.2.2.2.2)).bind fun c=>some (c.1,c.2.1,c.2.2.1,c.2.2.2.1,c.2.2.2.2.1,c.2.2.2.2.2,true)))
def QO(N:Nat)(a:List ((List UInt8)×(List (List UInt8×Int))×Int×Int×Int×Int))(c:List (List UInt8×Int×Int))(d:Int):Option ((List UInt8)×(List (List UInt8×Int))×Int×Int×Int×Int×Bool):=(Uc N c d).bind fun b=>if b.2.2=true then ck (0≤b.1∧b.1<(c.length:Int)) (ck ((R64 ((a.length:Int) - 1))) ((FB N ((c[(b.1).toNat]!).2.1) 0 ((a.length:Int) - 1)).bind fun e=>if e=true then Pk N a c b  else some ([],[],0,0,0,0,false)))else some ([],[],0,0,0,0,false)
theorem cm(N headers l' slot r)(b:QO N headers l' slot=some r)(ro headersv)(hheaders:RdN Ad4 ro headersv headers)(l'v)(hl':Rd Ad5 ro l'v l'):Does prog 217 #[headersv,l'v,vI slot] ro [] (p1 (fun s_=>vT #[vA #[vS r.1,s_,vI r.2.2.1,vI r.2.2.2.1,vI r.2.2.2.2.1,vI r.2.2.2.2.2.1],vB r.2.2.2.2.2.2]) 104 Ab4 r.2.1):=by
 unfold QO at b
 refine Aj follows func217 rfl 42 rfl _ fz3 (fun x=> ?_)
 refine Ad<|rA rfl fun f=>rz rfl<|Ad<|rn 2 rfl<|kB b fun c y b=>gV _ (cF VG) (fun o w z_=>ci N l' slot _ y z_.view l'v ((Au hl') o w z_))<|rz rfl<|BR (fun tt ll=>(Pk N headers l' c  =some r)∧Is [(0,headersv),(1,l'v),(6,vP f 0),(8,vI c.1)] (Iu f (Value.string (⟨#[]⟩)) nS 0 0 0 0) tt ll) ?_ ?_
 ·refine Aa fun A h=>Ag<|rn 3 rfl ?_
  rcases i:(!(c.2.2))with _|_
  ·replace b:=ifp (CN i) b
   refine rn 2 rfl<|r_y rfl<|kC b fun d b=>rI (Rd.shp hl') d rfl<|r_y rfl<|rF (Rd.shp hl') (Bb d) rfl<|r_y rfl<|rE (Au hl') d 1 rfl<|rn 1 rfl<|r_y rfl<|rL (RdN.shp hheaders) rfl<|r_y rfl<|kC b fun k b=>rX k rfl<|r_y rfl<|kB b fun B m b=>rc _ (cF KG) (Hr N ((l'[(c.1).toNat]!).2.1) 0 ((headers.length:Int) - 1) _ m)<|rz rfl<|h _ _ ?_
   refine Bv _ rfl (fun e=> ?_) (fun e=> ?_)
   ·replace b:=ifn (Bool.eq_false_iff.1 (CM e)) b
    refine Ad<|r_W (vA #[Value.string (⟨#[]⟩),nS,vI 0,vI 0,vI 0,vI 0]) rfl (Ap rfl rfl rfl rfl)<|r_s (Iu f (Value.string (⟨#[]⟩)) nS 0 0 0 0) 0 _ _ _ _ _ (#[Value.string (⟨#[]⟩),nS,vI 0,vI 0,vI 0,vI 0]) rfl rfl rfl rfl (.ofS rfl rfl (Ae rfl (Ae (Shp.one (.inl ⟨rfl,rfl⟩)) (Ae rfl (Ae rfl (Ae rfl (Ae rfl Bt))))))) rfl rfl<|rz rfl<|Gm [(6,vP f 0),(7,vB false)] rfl (fun T=> ?_)
    cases b
    refine Bi (fun n=>Ha (v0:=vT #[vA #[Value.string (⟨#[]⟩),nS,vI 0,vI 0,vI 0,vI 0],vB false]) Sl.nil (Sub.nil _) rfl (Jz (AT n 0 rfl rfl rfl) rfl))
   replace b:=ifp (CN e) b
   refine Ab<|fg _ (Sub.of (suK _ suN)) ?_
   exact⟨b,Af rfl rfl⟩
  replace b:=ifn (Bool.eq_false_iff.1 (CM i)) b
  refine rz rfl<|h _ _ ?_
  refine Lq rfl ?_
  refine Ad<|r_W (vA #[Value.string (⟨#[]⟩),nS,vI 0,vI 0,vI 0,vI 0]) rfl (Ap rfl rfl rfl rfl)<|r_s (Iu f (Value.string (⟨#[]⟩)) nS 0 0 0 0) 0 _ _ _ _ _ (#[Value.string (⟨#[]⟩),nS,vI 0,vI 0,vI 0,vI 0]) rfl rfl rfl rfl (.ofS rfl rfl (Ae rfl (Ae (Shp.one (.inl ⟨rfl,rfl⟩)) (Ae rfl (Ae rfl (Ae rfl (Ae rfl Bt))))))) rfl rfl<|rz rfl<|Gm [(6,vP f 0),(7,vB false)] rfl (fun T=> ?_)
  cases b
  refine Bi (fun n=>Ha (v0:=vT #[vA #[Value.string (⟨#[]⟩),nS,vI 0,vI 0,vI 0,vI 0],vB false]) Sl.nil (Sub.nil _) rfl (Jz (AT n 0 rfl rfl rfl) rfl))
 clear b;rintro t l ⟨b,⟨T,rfl⟩,rfl⟩
 unfold Pk at b
 refine Ad<|rn 3 rfl<|kC b fun j b=>rI (Rd.shp hl') j rfl<|rF (Rd.shp hl') (Bb j) rfl<|rE (Au hl') j 1 rfl<|kC b fun p b=> ?_
 obtain⟨_,⟨z,q,rfl⟩,hat11⟩:=RdN.at (E:=Ad4) hheaders (De p)
 refine rI (RdN.shp hheaders) p rfl ?_
 refine MG (vA #[vS (headers[((l'[(c.1).toNat]!).2.1).toNat]!.1),z,vI (headers[((l'[(c.1).toNat]!).2.1).toNat]!.2.2.1),vI (headers[((l'[(c.1).toNat]!).2.1).toNat]!.2.2.2.1),vI (headers[((l'[(c.1).toNat]!).2.1).toNat]!.2.2.2.2.1),vI (headers[((l'[(c.1).toNat]!).2.1).toNat]!.2.2.2.2.2)]) (vs:=[vS (headers[((l'[(c.1).toNat]!).2.1).toNat]!.1),z,vI (headers[((l'[(c.1).toNat]!).2.1).toNat]!.2.2.1),vI (headers[((l'[(c.1).toNat]!).2.1).toNat]!.2.2.2.1),vI (headers[((l'[(c.1).toNat]!).2.1).toNat]!.2.2.2.2.1),vI (headers[((l'[(c.1).toNat]!).2.1).toNat]!.2.2.2.2.2)]) (((l'[(c.1).toNat]!).2.1).toNat*6) 0 rfl rfl (fun o w z_=>At.mono z_.ro_cell hat11) rfl<|kB b fun a s b=>gS (Ls:=[(Iu f (Value.string (⟨#[]⟩)) nS 0 0 0 0)]) (cF jT) (fun o w z_=>Yd N (headers[((l'[(c.1).toNat]!).2.1).toNat]!.1) (headers[((l'[(c.1).toNat]!).2.1).toNat]!.2.1) (headers[((l'[(c.1).toNat]!).2.1).toNat]!.2.2.1) (headers[((l'[(c.1).toNat]!).2.1).toNat]!.2.2.2.1) (headers[((l'[(c.1).toNat]!).2.1).toNat]!.2.2.2.2.1) (headers[((l'[(c.1).toNat]!).2.1).toNat]!.2.2.2.2.2) _ s z_.view z (z_.r q)) (fun g u v=> ?_)
 refine r_s (List.flatten [(GQ f a.1 g a.2.2.1 a.2.2.2.1 a.2.2.2.2.1 a.2.2.2.2.2),u]) 0 _ _ _ _ _ (#[vS a.1,g,vI a.2.2.1,vI a.2.2.2.1,vI a.2.2.2.2.1,vI a.2.2.2.2.2]) rfl rfl rfl rfl (.ofS rfl rfl (Ae rfl (Ae (Shp.one (Sl.shp v)) (Ae rfl (Ae rfl (Ae rfl (Ae rfl Bt))))))) rfl rfl<|rz rfl ?_
 cases b
 refine Bi (fun n=>Ha (v0:=vT #[vA #[vS a.1,g,vI a.2.2.1,vI a.2.2.2.1,vI a.2.2.2.2.1,vI a.2.2.2.2.2],vB true]) v (EK (Sub.pick [(GQ f a.1 g a.2.2.1 a.2.2.2.1 a.2.2.2.2.1 a.2.2.2.2.2),u] [1] rfl)) rfl (Jz (AT n 0 rfl rfl rfl) rfl))
end Go.Proofs.YthmpbldidnmenaaGreatDoor
