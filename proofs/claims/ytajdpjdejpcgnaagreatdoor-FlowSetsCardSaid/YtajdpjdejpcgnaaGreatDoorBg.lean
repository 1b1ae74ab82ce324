import Derived.Test.YtajdpjdejpcgnaaGreatDoorBf
namespace Go.Proofs.YtajdpjdejpcgnaaGreatDoor
open Go Go.RowKit Go.Eng _root_.Go.Proofs.Tryz
set_option maxRecDepth 100000
set_option maxHeartbeats 80000000
abbrev AK(b:Nat)(x0:List UInt8)(x1:Value)(x2:Value)(x3:Value)(x4:Value)(x5:Value)(x6:Value)(x7:Value)(x8:Value)(x9:Value)(x10:Value)(x11:Value)(x12:Value)(x13:Value)(x14:Value)(x15:Int)(x16:Int)(x17:Int)(x18:Value):List Bl:=[(b,70, #[vS x0,x1,x2,x3,x4,x5,x6,x7,x8,x9,x10,x11,x12,x13,x14,vI x15,vI x16,vI x17,x18])]
abbrev BQ(b:Nat)(x0:Bool)(x1:BitVec 64):List Bl:=[(b,76, #[vB x0,U x1])]
abbrev Ix(b:Nat)(x0:Int)(x1:Int):List Bl:=[(b,108, #[vI x0,vI x1])]
abbrev JL(b:Nat)(x0:Int)(x1:Int):List Bl:=[(b,110, #[vI x0,vI x1])]
abbrev VI(b:Nat)  :List Bl:=[(b,112, #[])]
abbrev Uh(b:Nat)(x0:Int)(x1:Int)(x2:Int):List Bl:=[(b,96, #[vI x0,vI x1,vI x2])]
def EN(_:Nat)(x:BitVec 64)(y:BitVec 64):Option ((BitVec 64)×(BitVec 64)):=some (((((x>>>32)*(y>>>32))+((((x>>>32)*(y&&&4294967295#64))+(((x&&&4294967295#64)*(y&&&4294967295#64))>>>32))>>>32))+((((((x>>>32)*(y&&&4294967295#64))+(((x&&&4294967295#64)*(y&&&4294967295#64))>>>32))&&&4294967295#64)+((x&&&4294967295#64)*(y>>>32)))>>>32)),(x*y))
theorem Lv(N x y r)(b:EN N x y=some r):Gives prog 109 #[U x,U y] (vT #[U r.1,U r.2]):=by
 unfold EN at b
 refine Ao follows func109 rfl 51 rfl _ fz2 (fun a=> ?_)
 refine AZ rfl<|Aa<|rn 1 rfl<|r_X (U (x&&&4294967295#64)) rfl (OP x (4294967295#64)) rfl<|rz rfl<|Aa<|rn 1 rfl<|r_v (U (x>>>32)) rfl rfl (Tn x 32) (Ok rfl rfl)<|rz rfl<|Aa<|rn 1 rfl<|r_X (U (y&&&4294967295#64)) rfl (OP y (4294967295#64)) rfl<|rz rfl<|Aa<|rn 1 rfl<|r_v (U (y>>>32)) rfl rfl (Tn y 32) (Ok rfl rfl)<|rz rfl<|Aa<|rn 2 rfl ?_
 refine r_X (U ((x&&&4294967295#64)*(y&&&4294967295#64))) rfl (To (x&&&4294967295#64) (y&&&4294967295#64)) rfl<|rz rfl<|Aa<|rn 2 rfl<|r_X (U ((x>>>32)*(y&&&4294967295#64))) rfl (To (x>>>32) (y&&&4294967295#64)) rfl<|rn 1 rfl<|r_v (U (((x&&&4294967295#64)*(y&&&4294967295#64))>>>32)) rfl rfl (Tn ((x&&&4294967295#64)*(y&&&4294967295#64)) 32) (Ok rfl rfl) ?_
 refine r_X (U ((((x>>>32)*(y&&&4294967295#64))+(((x&&&4294967295#64)*(y&&&4294967295#64))>>>32)))) rfl (UE ((x>>>32)*(y&&&4294967295#64)) (((x&&&4294967295#64)*(y&&&4294967295#64))>>>32)) rfl<|rz rfl<|Aa<|rn 1 rfl ?_
 refine r_X (U (((((x>>>32)*(y&&&4294967295#64))+(((x&&&4294967295#64)*(y&&&4294967295#64))>>>32))&&&4294967295#64))) rfl (OP ((((x>>>32)*(y&&&4294967295#64))+(((x&&&4294967295#64)*(y&&&4294967295#64))>>>32))) (4294967295#64)) rfl<|rz rfl<|Aa<|rn 1 rfl ?_
 refine r_v (U (((((x>>>32)*(y&&&4294967295#64))+(((x&&&4294967295#64)*(y&&&4294967295#64))>>>32))>>>32))) rfl rfl (Tn ((((x>>>32)*(y&&&4294967295#64))+(((x&&&4294967295#64)*(y&&&4294967295#64))>>>32))) 32) (Ok rfl rfl)<|rz rfl ?_
 refine Cx [(0,U x),(1,U y),(6,U (x&&&4294967295#64)),(7,U (x>>>32)),(9,U (y>>>32)),(12,U (((((x>>>32)*(y&&&4294967295#64))+(((x&&&4294967295#64)*(y&&&4294967295#64))>>>32))&&&4294967295#64))),(13,U (((((x>>>32)*(y&&&4294967295#64))+(((x&&&4294967295#64)*(y&&&4294967295#64))>>>32))>>>32)))] rfl (fun T=> ?_)
 refine Aa<|rn 3 rfl<|r_X (U ((x&&&4294967295#64)*(y>>>32))) rfl (To (x&&&4294967295#64) (y>>>32)) rfl<|r_X (U ((((((x>>>32)*(y&&&4294967295#64))+(((x&&&4294967295#64)*(y&&&4294967295#64))>>>32))&&&4294967295#64)+((x&&&4294967295#64)*(y>>>32))))) rfl (UE (((((x>>>32)*(y&&&4294967295#64))+(((x&&&4294967295#64)*(y&&&4294967295#64))>>>32))&&&4294967295#64)) ((x&&&4294967295#64)*(y>>>32))) rfl ?_
 refine rz rfl<|Aa<|rn 2 rfl<|r_X (U ((x>>>32)*(y>>>32))) rfl (To (x>>>32) (y>>>32)) rfl<|rn 1 rfl ?_
 refine r_X (U ((((x>>>32)*(y>>>32))+((((x>>>32)*(y&&&4294967295#64))+(((x&&&4294967295#64)*(y&&&4294967295#64))>>>32))>>>32)))) rfl (UE ((x>>>32)*(y>>>32)) (((((x>>>32)*(y&&&4294967295#64))+(((x&&&4294967295#64)*(y&&&4294967295#64))>>>32))>>>32))) rfl<|rn 1 rfl ?_
 refine r_v (U (((((((x>>>32)*(y&&&4294967295#64))+(((x&&&4294967295#64)*(y&&&4294967295#64))>>>32))&&&4294967295#64)+((x&&&4294967295#64)*(y>>>32)))>>>32))) rfl rfl (Tn ((((((x>>>32)*(y&&&4294967295#64))+(((x&&&4294967295#64)*(y&&&4294967295#64))>>>32))&&&4294967295#64)+((x&&&4294967295#64)*(y>>>32)))) 32) (Ok rfl rfl) ?_
 refine r_X (U (((((x>>>32)*(y>>>32))+((((x>>>32)*(y&&&4294967295#64))+(((x&&&4294967295#64)*(y&&&4294967295#64))>>>32))>>>32))+((((((x>>>32)*(y&&&4294967295#64))+(((x&&&4294967295#64)*(y&&&4294967295#64))>>>32))&&&4294967295#64)+((x&&&4294967295#64)*(y>>>32)))>>>32)))) rfl (UE ((((x>>>32)*(y>>>32))+((((x>>>32)*(y&&&4294967295#64))+(((x&&&4294967295#64)*(y&&&4294967295#64))>>>32))>>>32))) (((((((x>>>32)*(y&&&4294967295#64))+(((x&&&4294967295#64)*(y&&&4294967295#64))>>>32))&&&4294967295#64)+((x&&&4294967295#64)*(y>>>32)))>>>32))) rfl ?_
 refine rz rfl<|Aa<|rn 2 rfl<|r_X (U (x*y)) rfl (To x y) rfl<|rz rfl ?_
 cases b
 exact aR eE2
def Ga(N:Nat)(x:BitVec 64)(y:BitVec 64):Option ((BitVec 64)×(BitVec 64)):=(EN N x y).bind fun r4=>some (r4.1,r4.2)
theorem MK(N x y r)(a:Ga N x y=some r):Gives prog 61 #[U x,U y] (vT #[U r.1,U r.2]):=by
 unfold Ga at a
 refine Ao follows func61 rfl 30 rfl _ fz2 (fun b=> ?_)
 refine AZ rfl<|Ae fun e c=>Ai false rfl (fun h_=>nomatch h_) (fun _=> ?_)
 refine Ac<|c _ _ ?_
 refine Aa<|rn 2 rfl<|kB a fun f d a=>rc _ (cF XH) (Lv N x y _ d)<|rz rfl<|AZ rfl ?_
 cases a
 exact aR eE2
def BN  :Nat→List Int→Int→Option (List Int)
  |0,_,_=>none
  |n15+1,s3_,n4_=>if n4_<(s3_.length:Int)then ck (0≤n4_∧n4_≤(s3_.length:Int)) (ck (0≤n4_∧n4_≤(s3_.length:Int)) (ck ((R64 (n4_+((min (n4_.toNat) ((s3_).length - (n4_.toNat)):Nat):Int)))) ((BN n15) (LI s3_ (n4_.toNat) (n4_.toNat)) ((n4_+((min (n4_.toNat) ((s3_).length - (n4_.toNat)):Nat):Int))))))else some s3_
def Dg(N:Nat)(x:List Int)(r3:(BitVec 64)×(BitVec 64)):Option (List Int):=ck ((((r3.2).toNat:Nat):Int)≤9223372036854775807) (ck (0≤(((r3.2).toNat:Nat):Int)∧(((r3.2).toNat:Nat):Int)≤17592186044416) (BN N (((x).take ((List.replicate ((((r3.2).toNat:Nat):Int)).toNat (0:Int))).length++((List.replicate ((((r3.2).toNat:Nat):Int)).toNat (0:Int))).drop (x).length)) (((min (x).length ((List.replicate ((((r3.2).toNat:Nat):Int)).toNat (0:Int))).length:Nat):Int))))
def Dh(N:Nat)(x:List Int)(count:Int):Option (List Int):=(Ga N (BitVec.ofInt 64 (x.length:Int)) (BitVec.ofInt 64 count)).bind fun r3=>if(0#64)<r3.1 then none else if(9223372036854775807#64)<r3.2 then none else Dg N x r3 
def Dy(N:Nat)(x:List Int)(count:Int):Option (List Int):=if count<0 then none else Dh N x count 
theorem Ju(N x count r)(a:Dy N x count=some r)(ro xv)(hx:Rd AX ro xv x):Does prog 31 #[xv,vI count] ro [] (p1 (fun s_=>s_) 3 AX r):=by
 unfold Dy at a
 refine Ag follows func31 rfl 48 rfl _ fz2 (fun A=> ?_)
 refine AZ rfl<|BW (fun tt ll=>(Dh N x count  =some r)∧Is [(0,xv),(1,vI count)] [] tt ll) ?_ ?_
 ·refine AZ rfl<|aD a rfl (fun n a=> ?_) (fun n a=> ?_)
  ·refine An<|rn 1 rfl ?_
   cases a
  refine Ac<|fg _ (Sub.of suN) ?_
  exact⟨a,Aj rfl rfl⟩
 clear a;rintro t l ⟨a,⟨T,rfl⟩,rfl⟩
 unfold Dh at a
 refine Aa<|rn 1 rfl<|rL (Rd.shp hx) rfl<|r_w (U (BitVec.ofInt 64 (x.length:Int))) rfl rfl (UD (x.length:Int)) (fun _=>rfl)<|rn 1 rfl<|r_w (U (BitVec.ofInt 64 count)) rfl rfl (UD count) (fun _=>rfl)<|kB a fun f B a=>rc _ (cF Zh) (MK N (BitVec.ofInt 64 (x.length:Int)) (BitVec.ofInt 64 count) _ B)<|rz rfl<|BW (fun tt ll=>(Dg N x f  =some r)∧Is [(0,xv),(6,U f.2)] [] tt ll) ?_ ?_
 ·refine Ae fun I h=>An<|rn 1 rfl<|r_X (vB (decide ((0#64)<f.1))) rfl (bI (0#64) f.1) rfl<|rn 1 rfl ?_
  rcases i:(decide ((0#64)<f.1))with _|_
  ·replace a:=iF i a
   refine rn 1 rfl<|r_y rfl<|r_X (vB (decide ((9223372036854775807#64)<f.2))) rfl (bI (9223372036854775807#64) f.2) rfl<|rz rfl<|h _ _ ?_
   refine aD a rfl (fun q a=> ?_) (fun q a=> ?_)
   ·refine An<|rn 1 rfl ?_
    cases a
   refine Ac<|fg _ (Sub.of suN) ?_
   exact⟨a,Aj rfl rfl⟩
  replace a:=iD i a
  refine rz rfl<|h _ _ ?_
  refine Ai true rfl (fun _=> ?_) (fun h_=>nomatch h_)
  refine An<|rn 1 rfl ?_
  cases a
 clear a;rintro t l ⟨a,⟨T,rfl⟩,rfl⟩
 unfold Dg at a
 refine Aa<|rn 1 rfl<|kC a fun C a=>r_w (vI (((f.2).toNat:Nat):Int)) rfl rfl (IJ rfl (by omega) C) (fun _=>rfl)<|kC a fun D a=>cB 30<|LX (Ls:=[]) 3 AX 0 (((f.2).toNat:Nat):Int) rfl rfl rfl rfl rfl rfl rfl rfl rfl rfl 17592186044416 rfl D (fun _ _ _ _ _=>Iff.rfl) (fun m H E=> ?_)
 refine rz rfl<|Aa<|rn 2 rfl<|cA 33 (p:=(pUp (fun v_ U_=>v_= .int .i64 ((min (x).length ((List.replicate ((((f.2).toNat:Nat):Int)).toNat (0:Int))).length:Nat):Int)∧Sl 3 AX m ((x).take ((List.replicate ((((f.2).toNat:Nat):Int)).toNat (0:Int))).length++((List.replicate ((((f.2).toNat:Nat):Int)).toNat (0:Int))).drop (x).length) U_∧U_.map (·.1)=H.map (·.1))))<|ZY (Ls:=[H]) 0 (En:=AX) (ys:=x) rfl rfl rfl rfl rfl rfl E (Rd.shp hx) (AA hx) rfl rfl rfl rfl (fun _ _ _ _ _=>Iff.rfl) (fun s F=> ?_)
 refine rz rfl<|Ae fun J u=>Am<|BH _ (Sub.pick [s] [0] rfl)<|AS (fun tt ll nn=> ∃(g:Nat) (d:List Int) (b:Int),(BN g d b=some r)∧ ∃(c:List Bl),Sl 3 AX m d c∧Is [(7,m),(8,vI b)] (List.flatten [c]) tt ll∧nn=g+1) (N+1) ?_ ?_
 ·exact⟨N,((x).take ((List.replicate ((((f.2).toNat:Nat):Int)).toNat (0:Int))).length++((List.replicate ((((f.2).toNat:Nat):Int)).toNat (0:Int))).drop (x).length),((min (x).length ((List.replicate ((((f.2).toNat:Nat):Int)).toNat (0:Int))).length:Nat):Int),a,s,F,Aj rfl rfl,rfl⟩
 clear a;rintro t l _ ⟨g,d,b,a,c,e,⟨⟨T,rfl⟩,rfl⟩,rfl⟩
 rcases g with _|g
 ·exact absurd a (by simp [BN])
 rw [BN] at a
 refine Ae fun K v=>Aa<|rn 2 rfl<|rL (Sl.shp e) rfl<|rz rfl<|aD a rfl (fun w a=> ?_) (fun w a=> ?_)
 ·refine Ac<|v _ _ ?_
  refine Am<|Bt [(some 45,true)] (conG prog [(45,fun _ _ v_ L_ U_=>(pUp (fun v_ U_=>v_= .int .i64 ((min (b.toNat) ((d).length - (b.toNat)):Nat):Int)∧Sl 3 AX m (LI d (b.toNat) (b.toNat)) U_∧U_.map (·.1)=c.map (·.1))) v_ L_ U_)]) [] (by decide+kernel) (fun L=>AW)<|rn 3 rfl<|kC a fun j a=>r_W (Ch m (b.toNat) ((d).length) 1) rfl (Cf (PY rfl rfl rfl rfl (Sl.shp e) j))<|rn 2 rfl<|kC a fun k a=>r_W (Ch m 0 (b.toNat) 1) rfl (Cf (EI rfl rfl rfl rfl (Sl.shp e) k))<|ax (Ls:=[c]) 0 (En:=AX) (o:=b.toNat) (p:=b.toNat) rfl rfl rfl rfl rfl rfl e (Ee j.2) (Ee k.2) rfl rfl rfl rfl (fun _ _ _ _ _=>Iff.rfl) (fun y G=> ?_)
  refine kC a fun z a=>rX z rfl<|rz rfl<|fg _ (Sub.pick [y] [0] rfl) ?_
  exact⟨g+1,by omega,g,(LI d (b.toNat) (b.toNat)),(b+((min (b.toNat) ((d).length - (b.toNat)):Nat):Int)),a,y,G,Aj rfl rfl,rfl⟩
 refine AT<|u _ _ ?_
 refine AZ rfl ?_
 cases a
 refine AO (fun L=>De (v0:=m) e (Cb (Sub.pick [c] [0] rfl)) rfl (BP rfl))
def CZ(N:Nat):Option (List Int):=(Dy N ([1]) 8).bind fun r6=>some r6
theorem Mr(N r)(a:CZ N=some r)(ro:Ro):Does prog 20 #[] ro [] (p1 (fun s_=>s_) 3 AX r):=by
 unfold CZ at a
 refine Ag follows func20 rfl 3 rfl _ fz0 (fun b=> ?_)
 refine AZ rfl<|Aa<|gB (Ls:=[]) 3 AX [1] (fun f c g=> ?_)
 refine kB a fun j d a=>gS (Ls:=[c]) (cF ZG) (fun o w z_=>Ju N ([1]) 8 _ d z_.view f ((Ar g (Af (Ls:=[c]) (k:=0) rfl rfl)) o w z_)) (fun h i e=> ?_)
 refine rz rfl ?_
 cases a
 refine AO (fun l=>De (v0:=h) e (Cb (Sub.pick [c,i] [1] rfl)) rfl (BP rfl))
def Cm(w_1:List (Bool×BitVec 64))(at':Int)(s1_:BitVec 64):Option (List (Bool×BitVec 64)):=ck (0≤at'∧at'<(w_1.length:Int)) (some ((w_1).set (at'.toNat) (true,s1_)))
def Bn(N:Nat)(_:AF)(w_1:List (Bool×BitVec 64))(at':Int)(s:BitVec 64):Option (List (Bool×BitVec 64)):=ck (0≤at'∧at'<(w_1.length:Int)) (if((w_1[at'.toNat]!).1)=true then ck (0≤at'∧at'<(w_1.length:Int)) ((BU N s ((w_1[at'.toNat]!).2)).bind fun r10=>Cm w_1 at' r10)else Cm w_1 at' s)
theorem Ct(N w_0 w_1 at' s r)(a:Bn N w_0 w_1 at' s=some r)(ro:Ro)(w_0v:AE)(_hw_0:Bun59R ro w_0v w_0)(w_1v:Value)(Sw_1:List Bl)(hw_1:Sl 76 Gs w_1v w_1 Sw_1):Does prog 22 #[vA #[vS w_0.1,w_0v.1,w_0v.2.1,w_0v.2.2.1,w_0v.2.2.2.1,w_0v.2.2.2.2.1,w_0v.2.2.2.2.2.1,w_0v.2.2.2.2.2.2.1,w_0v.2.2.2.2.2.2.2.1,w_0v.2.2.2.2.2.2.2.2.1,w_0v.2.2.2.2.2.2.2.2.2.1,w_0v.2.2.2.2.2.2.2.2.2.2.1,w_0v.2.2.2.2.2.2.2.2.2.2.2.1,w_0v.2.2.2.2.2.2.2.2.2.2.2.2.1,w_0v.2.2.2.2.2.2.2.2.2.2.2.2.2,vI w_0.2.2.2.2.2.2.2.2.2.2.2.2.2.2.2.1,vI w_0.2.2.2.2.2.2.2.2.2.2.2.2.2.2.2.2.1,vI w_0.2.2.2.2.2.2.2.2.2.2.2.2.2.2.2.2.2,w_1v],vI at',U s] ro (List.flatten [Sw_1]) (pO (List.flatten [Sw_1]) (oI 76 Gs w_1v r (oE (vT #[]) []))):=by
 unfold Bn at a
 refine BA follows func22 rfl 26 rfl _ fz3 (fun _ _ h_ _=>h_) (fun h=> ?_)
 refine Aa<|rA rfl fun c=>Ah<|BW (fun tt ll=> ∃(b:BitVec 64),(Cm w_1 at' b=some r)∧Is [(1,vI at'),(2,U b),(3,vP c 0)] (List.flatten [(AK c w_0.1 w_0v.1 w_0v.2.1 w_0v.2.2.1 w_0v.2.2.2.1 w_0v.2.2.2.2.1 w_0v.2.2.2.2.2.1 w_0v.2.2.2.2.2.2.1 w_0v.2.2.2.2.2.2.2.1 w_0v.2.2.2.2.2.2.2.2.1 w_0v.2.2.2.2.2.2.2.2.2.1 w_0v.2.2.2.2.2.2.2.2.2.2.1 w_0v.2.2.2.2.2.2.2.2.2.2.2.1 w_0v.2.2.2.2.2.2.2.2.2.2.2.2.1 w_0v.2.2.2.2.2.2.2.2.2.2.2.2.2 w_0.2.2.2.2.2.2.2.2.2.2.2.2.2.2.2.1 w_0.2.2.2.2.2.2.2.2.2.2.2.2.2.2.2.2.1 w_0.2.2.2.2.2.2.2.2.2.2.2.2.2.2.2.2.2 w_1v),Sw_1]) tt ll) ?_ ?_
 ·refine Aa<|rm 3 [0] rfl<|kC a fun d a=>rI (Sl.shp hw_1) d rfl<|rF (Sl.shp hw_1) (Di d) rfl ?_
  refine rE (Ar hw_1 (Af (Ls:=[(AK c w_0.1 w_0v.1 w_0v.2.1 w_0v.2.2.1 w_0v.2.2.2.1 w_0v.2.2.2.2.1 w_0v.2.2.2.2.2.1 w_0v.2.2.2.2.2.2.1 w_0v.2.2.2.2.2.2.2.1 w_0v.2.2.2.2.2.2.2.2.1 w_0v.2.2.2.2.2.2.2.2.2.1 w_0v.2.2.2.2.2.2.2.2.2.2.1 w_0v.2.2.2.2.2.2.2.2.2.2.2.1 w_0v.2.2.2.2.2.2.2.2.2.2.2.2.1 w_0v.2.2.2.2.2.2.2.2.2.2.2.2.2 w_0.2.2.2.2.2.2.2.2.2.2.2.2.2.2.2.1 w_0.2.2.2.2.2.2.2.2.2.2.2.2.2.2.2.2.1 w_0.2.2.2.2.2.2.2.2.2.2.2.2.2.2.2.2.2 w_1v),Sw_1]) (k:=1) rfl rfl)) d 0 rfl<|Ah ?_
  refine aB a rfl (fun i a=> ?_) (fun i a=> ?_)
  ·refine An<|rm 4 [0] rfl<|kC a fun e a=>rI (Sl.shp hw_1) e rfl<|rF (Sl.shp hw_1) (Di e) rfl ?_
   refine rE (Ar hw_1 (Af (Ls:=[(AK c w_0.1 w_0v.1 w_0v.2.1 w_0v.2.2.1 w_0v.2.2.2.1 w_0v.2.2.2.2.1 w_0v.2.2.2.2.2.1 w_0v.2.2.2.2.2.2.1 w_0v.2.2.2.2.2.2.2.1 w_0v.2.2.2.2.2.2.2.2.1 w_0v.2.2.2.2.2.2.2.2.2.1 w_0v.2.2.2.2.2.2.2.2.2.2.1 w_0v.2.2.2.2.2.2.2.2.2.2.2.1 w_0v.2.2.2.2.2.2.2.2.2.2.2.2.1 w_0v.2.2.2.2.2.2.2.2.2.2.2.2.2 w_0.2.2.2.2.2.2.2.2.2.2.2.2.2.2.2.1 w_0.2.2.2.2.2.2.2.2.2.2.2.2.2.2.2.2.1 w_0.2.2.2.2.2.2.2.2.2.2.2.2.2.2.2.2.2 w_1v),Sw_1]) (k:=1) rfl rfl)) e 1 rfl<|kB a fun j f a=>rc _ (cF Rv) (EB N s ((w_1[at'.toNat]!).2) _ f)<|rz rfl<|fg _ (Sub.pick [(AK c w_0.1 w_0v.1 w_0v.2.1 w_0v.2.2.1 w_0v.2.2.2.1 w_0v.2.2.2.2.1 w_0v.2.2.2.2.2.1 w_0v.2.2.2.2.2.2.1 w_0v.2.2.2.2.2.2.2.1 w_0v.2.2.2.2.2.2.2.2.1 w_0v.2.2.2.2.2.2.2.2.2.1 w_0v.2.2.2.2.2.2.2.2.2.2.1 w_0v.2.2.2.2.2.2.2.2.2.2.2.1 w_0v.2.2.2.2.2.2.2.2.2.2.2.2.1 w_0v.2.2.2.2.2.2.2.2.2.2.2.2.2 w_0.2.2.2.2.2.2.2.2.2.2.2.2.2.2.2.1 w_0.2.2.2.2.2.2.2.2.2.2.2.2.2.2.2.2.1 w_0.2.2.2.2.2.2.2.2.2.2.2.2.2.2.2.2.2 w_1v),Sw_1] [0,1] rfl) ?_
   exact⟨j,a,Aj rfl rfl⟩
  refine Ac<|fg _ (Sub.pick [(AK c w_0.1 w_0v.1 w_0v.2.1 w_0v.2.2.1 w_0v.2.2.2.1 w_0v.2.2.2.2.1 w_0v.2.2.2.2.2.1 w_0v.2.2.2.2.2.2.1 w_0v.2.2.2.2.2.2.2.1 w_0v.2.2.2.2.2.2.2.2.1 w_0v.2.2.2.2.2.2.2.2.2.1 w_0v.2.2.2.2.2.2.2.2.2.2.1 w_0v.2.2.2.2.2.2.2.2.2.2.2.1 w_0v.2.2.2.2.2.2.2.2.2.2.2.2.1 w_0v.2.2.2.2.2.2.2.2.2.2.2.2.2 w_0.2.2.2.2.2.2.2.2.2.2.2.2.2.2.2.1 w_0.2.2.2.2.2.2.2.2.2.2.2.2.2.2.2.2.1 w_0.2.2.2.2.2.2.2.2.2.2.2.2.2.2.2.2.2 w_1v),Sw_1] [0,1] rfl) ?_
  exact⟨s,a,Aj rfl rfl⟩
 clear a;rintro t l ⟨b,a,⟨T,rfl⟩,rfl⟩
 unfold Cm at a
 refine An<|r_V (vP c 18) rfl<|rl w_1v 0<|r_R [vI at',U b] rfl<|r_W (vA #[vB true,U b]) rfl (Aq rfl rfl rfl rfl)<|kC a fun g a=>rI (Sl.shp hw_1) g rfl ?_
 refine MI (Ls:=[(AK c w_0.1 w_0v.1 w_0v.2.1 w_0v.2.2.1 w_0v.2.2.2.1 w_0v.2.2.2.2.1 w_0v.2.2.2.2.2.1 w_0v.2.2.2.2.2.2.1 w_0v.2.2.2.2.2.2.2.1 w_0v.2.2.2.2.2.2.2.2.1 w_0v.2.2.2.2.2.2.2.2.2.1 w_0v.2.2.2.2.2.2.2.2.2.2.1 w_0v.2.2.2.2.2.2.2.2.2.2.2.1 w_0v.2.2.2.2.2.2.2.2.2.2.2.2.1 w_0v.2.2.2.2.2.2.2.2.2.2.2.2.2 w_0.2.2.2.2.2.2.2.2.2.2.2.2.2.2.2.1 w_0.2.2.2.2.2.2.2.2.2.2.2.2.2.2.2.2.1 w_0.2.2.2.2.2.2.2.2.2.2.2.2.2.2.2.2.2 w_1v),Sw_1]) 1 (En:=Gs) (w_1[at'.toNat]!) (true,b) (at'.toNat) 0 rfl rfl rfl hw_1 (Cs g) rfl rfl rfl (Ew rfl) rfl (fun m n=> ?_)
 refine Ah ?_
 cases a
 refine Oo (v0:=vT #[]) (O:=[m]) rfl (Sub.pick [(AK c w_0.1 w_0v.1 w_0v.2.1 w_0v.2.2.1 w_0v.2.2.2.1 w_0v.2.2.2.2.1 w_0v.2.2.2.2.2.1 w_0v.2.2.2.2.2.2.1 w_0v.2.2.2.2.2.2.2.1 w_0v.2.2.2.2.2.2.2.2.1 w_0v.2.2.2.2.2.2.2.2.2.1 w_0v.2.2.2.2.2.2.2.2.2.2.1 w_0v.2.2.2.2.2.2.2.2.2.2.2.1 w_0v.2.2.2.2.2.2.2.2.2.2.2.2.1 w_0v.2.2.2.2.2.2.2.2.2.2.2.2.2 w_0.2.2.2.2.2.2.2.2.2.2.2.2.2.2.2.1 w_0.2.2.2.2.2.2.2.2.2.2.2.2.2.2.2.2.1 w_0.2.2.2.2.2.2.2.2.2.2.2.2.2.2.2.2.2 w_1v),m] [1] rfl) ⟨m,_,n,⟨rfl,rfl⟩,rfl⟩
def In(N:Nat)(x_0:Int)(x_1:Int)(s:BitVec 64):Option (BitVec 64):=if x_0=25 then(Bv N s x_1).bind fun r8=>some r8 else if x_0=26 then(Bh N s x_1).bind fun r13=>some r13 else some s
theorem PA(N x_0 x_1 s r)(a:In N x_0 x_1 s=some r):Gives prog 64 #[vA #[vI x_0,vI x_1],U s] (U r):=by
 unfold In at a
 refine Ao follows func64 rfl 20 rfl _ fz2 (fun d=> ?_)
 refine Aa<|rA rfl fun i=>rz rfl<|Ae fun j e=>AY [0] rfl<|Am<|AZ rfl<|aE a rfl (fun f a=> ?_) (fun f a=> ?_)
 ·refine Aa<|rm 3 [0] rfl<|kB a fun k g a=>rc _ (cF Mt) (CI N s x_1 _ g)<|rz rfl ?_
  cases a
  exact aR eE1
 refine AZ rfl<|aE a rfl (fun b a=> ?_) (fun b a=> ?_)
 ·refine Aa<|rm 3 [0] rfl<|kB a fun h c a=>rc _ (cF OD) (CB N s x_1 _ c)<|rz rfl ?_
  cases a
  exact aR eE1
 refine Ac<|e _ _ ?_
 refine AZ rfl ?_
 cases a
 exact aR eE1
def Jh(_:Nat)(x_0:Int)(_:Int)(x_2:Int):Option Int:=if x_0=28 then ck (R64 (0 - x_2)) (some (0 - x_2))else some x_2
theorem TG(N x_0 x_1 x_2 r)(a:Jh N x_0 x_1 x_2=some r):Gives prog 66 #[vA #[vI x_0,vI x_1,vI x_2]] (vI r):=by
 unfold Jh at a
 refine Ao follows func66 rfl 11 rfl _ fz1 (fun b=> ?_)
 refine Aa<|rA rfl fun f=>rz rfl<|Ae fun g c=>AY [0] rfl<|aE a rfl (fun d a=> ?_) (fun d a=> ?_)
 ·refine Aa<|rm 2 [0] rfl<|kC a fun e a=>rX e rfl<|rz rfl ?_
  cases a
  exact aR eE1
 refine Ac<|c _ _ ?_
 refine AY [0] rfl ?_
 cases a
 exact aR eE1
def EC(N:Nat)(r4:Int×Int×Bool)(x2_:Int)(rec_flow_Move_v1_l3:BitVec 64→Int→Option (BitVec 64))(r22:BitVec 64)(b28:Bool):Option (BitVec 64):=if b28=true then ck (R64 (r4.1+x2_)) ((Bv N r22 (r4.1+x2_)).bind fun r31=>ck (R64 (x2_+1)) (rec_flow_Move_v1_l3 r31 (x2_+1)))else ck (R64 (x2_+1)) (rec_flow_Move_v1_l3 r22 (x2_+1))
def ED(N:Nat)(n:Int)(s:BitVec 64)(r4:Int×Int×Bool)(x2_:Int)(rec_flow_Move_v1_l3:BitVec 64→Int→Option (BitVec 64))(r22:BitVec 64)(b27:Bool):Option (BitVec 64):=if b27=true then ck ((R64 (r4.1+(x2_ - max (-4) (min n 4))))) ((BR N s (r4.1+(x2_ - max (-4) (min n 4)))).bind fun r37=>EC N r4 x2_ rec_flow_Move_v1_l3 r22 r37)else EC N r4 x2_ rec_flow_Move_v1_l3 r22 false
def BV(N:Nat)(n:Int)(s:BitVec 64)(r4:Int×Int×Bool):Nat→BitVec 64→Int→Option (BitVec 64)
  |0,_,_=>none
  |n14+1,moved1_,x2_=>if x2_<r4.2.1 then ck (R64 (r4.1+x2_)) ((Bh N moved1_ (r4.1+x2_)).bind fun r22=>ck (R64 (x2_ - max (-4) (min n 4))) (if((x2_ - max (-4) (min n 4)):Int)≥0 then ED N n s r4 x2_ (BV N n s r4 n14) r22 (decide (((x2_ - max (-4) (min n 4)):Int)<r4.2.1))else ED N n s r4 x2_ (BV N n s r4 n14) r22 false))else some moved1_
def Fh(N:Nat)(m:AF)(inst:Int)(n:Int)(s:BitVec 64):Option (BitVec 64):=(DL N m inst).bind fun r4=>if r4.2.2=true then BV N n s r4 N s 0 else some s
theorem Oh(N m inst n s r)(a:Fh N m inst n s=some r)(ro)(mv:AE)(hm:Bun59R ro mv m):Does prog 65 #[vA (Ab m mv),vI inst,vI n,U s] ro [] (pV (U r)):=by
 unfold Fh at a
 refine Ag follows func65 rfl 62 rfl _ fz4 (fun H=> ?_)
 refine Aa<|rA rfl fun V=>rz rfl<|Aa<|rm 2 [0] rfl<|kB a fun e I a=>gV _ (cF Ry) (fun o w z_=>GT N m inst _ I z_.view mv (Bun59R.mono z_.ro_cell hm))<|rz rfl<|Ae fun W J=>AZ rfl<|Ai _ rfl (fun j=> ?_) (fun j=> ?_)
 ·replace a:=ifn (Bool.eq_false_iff.1 (Cd j)) a
  refine AZ rfl ?_
  cases a
  exact aR eV1
 replace a:=ifp (Ce j) a
 refine Ac<|J _ _ ?_
 refine Aa<|rn 1 rfl<|r_W (vI (min n 4)) rfl (VQ rfl rfl)<|r_W (vI (max (-4) (min n 4))) rfl (TK rfl rfl)<|rz rfl<|AZ rfl<|Ae fun M k=>AZ rfl<|Am<|BH [] (Sub.of (suC _ suN))<|AS (fun tt ll nn=> ∃(d:Nat) (c:BitVec 64) (b:Int),(BV N n s e d c b=some r)∧Is [(2,vI (max (-4) (min n 4))),(3,U s),(9,vI e.1),(10,vI e.2.1),(12,U c),(29,vI e.2.1),(30,vI b)] [] tt ll∧nn=d+1) (N+1) ?_ ?_
 ·exact⟨N,s,0,a,Aj rfl rfl,rfl⟩
 clear a;rintro t l _ ⟨d,c,b,a,⟨⟨T,rfl⟩,rfl⟩,rfl⟩
 rcases d with _|d
 ·exact absurd a (by simp [BV])
 rw [BV] at a
 refine AZ rfl<|Ae fun O p=>aD a rfl (fun q a=> ?_) (fun q a=> ?_)
 ·refine Ac<|p _ _ ?_
  refine Ae fun P g=>Am<|AZ rfl<|Aa<|rn 3 rfl<|kC a fun u a=>rX u rfl<|kB a fun f v a=>rc _ (cF OD) (CB N c (e.1+b) _ v)<|rz rfl<|Aa<|rn 2 rfl<|kC a fun x a=>rX x rfl<|rz rfl<|Ae fun Q y=>An<|rn 3 rfl<|MB 4 47 [(2,vI (max (-4) (min n 4))),(3,U s),(9,vI e.1),(10,vI e.2.1),(12,U f),(13,vI b),(14,vI (b - max (-4) (min n 4))),(29,vI e.2.1),(30,vI b)] vB (fun b_=>ED N n s e b (BV N n s e d) f b_=some r) (fun K a T=> ?_) (fun z=> ?_)
  ·unfold ED at a
   refine rn 1 rfl<|MB 6 54 [(2,vI (max (-4) (min n 4))),(3,U s),(9,vI e.1),(10,vI e.2.1),(12,U f),(13,vI b),(29,vI e.2.1),(30,vI b)] vB (fun b_=>EC N e b (BV N n s e d) f b_=some r) (fun R a T=> ?_) (fun z=> ?_)
   ·unfold EC at a
    refine Ah<|y _ _ ?_
    refine aB a rfl (fun A a=> ?_) (fun A a=> ?_)
    ·refine An<|rn 3 rfl<|kC a fun B a=>rX B rfl<|kB a fun L C a=>rc _ (cF Mt) (CI N f (e.1+b) _ C)<|rz rfl<|g _ _ ?_
     refine An<|kC a fun D a=>rX D rfl<|rz rfl<|fg _ (Sub.of suN) ?_
     exact⟨d+1,by omega,d,L,(b+1),a,Aj rfl rfl,rfl⟩
    refine Ac<|g _ _ ?_
    refine An<|kC a fun E a=>rX E rfl<|rz rfl<|fg _ (Sub.of suN) ?_
    exact⟨d+1,by omega,d,f,(b+1),a,Aj rfl rfl,rfl⟩
   rcases h:K with _|_
   ·replace a:=iB h a
    refine rn 6 rfl ?_
    exact z _ _ a rfl rfl
   replace a:=ifp h a
   refine rn 3 rfl<|r_y rfl<|kC a fun F a=>rX F rfl<|r_y rfl<|kB a fun S G a=>rc _ (cF OE) (DX N s (e.1+(b - max (-4) (min n 4))) _ G)<|rn 1 rfl ?_
   exact z _ _ a rfl rfl
  rcases i:(decide (((b - max (-4) (min n 4)):Int)≥0))with _|_
  ·replace a:=iF i a
   refine rn 4 rfl ?_
   exact z _ _ a rfl rfl
  replace a:=iD i a
  refine rn 4 rfl ?_
  exact z _ _ a rfl rfl
 refine AT<|k _ _ ?_
 refine AZ rfl ?_
 cases a
 exact aR eV1
def FG(N:Nat)(m:AF)(x:Sum74)(s:BitVec 64):Option ((BitVec 64)×Int):=Sum74.on x (some (s,0)) (fun _ _=>some (s,0)) (fun x9_0 _=>(Bv N s x9_0).bind fun r34=>some (r34,0)) (some (s,0)) (fun _ x12_1 _=>(BR N s x12_1).bind fun r31=>if r31=true then some (s,0)else some (0#64,11)) (fun x14_0 x15_1=>(In N x14_0 x15_1 s).bind fun r32=>some (r32,0)) (fun x16_0 x17_1 x18_2=>(Jh N x16_0 x17_1 x18_2).bind fun r33=>(Fh N m x17_1 r33 s).bind fun r35=>some (r35,0)) (fun _ _=>some (s,0)) (fun _ _=>some (s,0)) (fun _ _=>some (s,0)) (fun _ _=>some (s,0)) (fun _=>some (s,0))
theorem Mq(N m x s r)(b:FG N m x s=some r)(ro)(mv:AE)(hm:Bun59R ro mv m):Does prog 33 #[vA (Ab m mv),Sum74.v x,U s] ro [] (pV (vT #[U r.1,vI r.2])):=by
 unfold FG at b
 refine Ag follows func33 rfl 45 rfl _ fz3 (fun p=> ?_)
 refine Aa<|rA rfl fun F=>rz rfl<|Ae fun G d=>AZ rfl<|Am<|Ae fun H c=>An ?_
 rcases Sum74.cases x with a|⟨x7_0,x8_1,a⟩|⟨x9_0,x10_1,a⟩|a|⟨x11_0,x12_1,x13_2,a⟩|⟨x14_0,x15_1,a⟩|⟨x16_0,x17_1,x18_2,a⟩|⟨x19_0,x20_1,a⟩|⟨x21_0,x22_1,a⟩|⟨x23_0,x24_1,a⟩|⟨x25_0,x26_1,a⟩|⟨x27_0,a⟩
 ·replace b:=Sum74.on_nil a b
  refine r_W (vT #[vA #[vI 0,vI 0,vI 0],vB false]) rfl (As ((rfl:_=Sum74.v x).trans (show Sum74.v x=Value.nilIface from by rw [a];rfl)) rfl) ?_
  refine rz rfl<|c _ _ ?_
  refine Ai false rfl (fun h_=>nomatch h_) (fun _=> ?_)
  refine Aa<|r_W (vT #[vA #[vI 0,vI 0],vB false]) rfl (As ((rfl:_=Sum74.v x).trans (show Sum74.v x=Value.nilIface from by rw [a];rfl)) rfl) ?_
  refine rz rfl<|Ai false rfl (fun h_=>nomatch h_) (fun _=> ?_)
  refine Aa<|r_W (vT #[vA #[vI 0,vI 0,vI 0],vB false]) rfl (As ((rfl:_=Sum74.v x).trans (show Sum74.v x=Value.nilIface from by rw [a];rfl)) rfl) ?_
  refine rz rfl<|Ai false rfl (fun h_=>nomatch h_) (fun _=> ?_)
  refine Aa<|r_W (vT #[vA #[vI 0,vI 0],vB false]) rfl (As ((rfl:_=Sum74.v x).trans (show Sum74.v x=Value.nilIface from by rw [a];rfl)) rfl) ?_
  refine rz rfl<|Ai false rfl (fun h_=>nomatch h_) (fun _=> ?_)
  refine Ac<|d _ _ ?_
  refine AZ rfl ?_
  cases b
  exact aR eV2
 ·replace b:=Sum74.on_t108 a b
  refine r_W (vT #[vA #[vI 0,vI 0,vI 0],vB false]) rfl (As ((rfl:_=Sum74.v x).trans (show Sum74.v x=Value.iface 108 (vA #[vI x7_0,vI x8_1])from by rw [a];rfl)) rfl) ?_
  refine rz rfl<|c _ _ ?_
  refine Ai false rfl (fun h_=>nomatch h_) (fun _=> ?_)
  refine Aa<|r_W (vT #[vA #[vI 0,vI 0],vB false]) rfl (As ((rfl:_=Sum74.v x).trans (show Sum74.v x=Value.iface 108 (vA #[vI x7_0,vI x8_1])from by rw [a];rfl)) rfl) ?_
  refine rz rfl<|Ai false rfl (fun h_=>nomatch h_) (fun _=> ?_)
  refine Aa<|r_W (vT #[vA #[vI 0,vI 0,vI 0],vB false]) rfl (As ((rfl:_=Sum74.v x).trans (show Sum74.v x=Value.iface 108 (vA #[vI x7_0,vI x8_1])from by rw [a];rfl)) rfl) ?_
  refine rz rfl<|Ai false rfl (fun h_=>nomatch h_) (fun _=> ?_)
  refine Aa<|r_W (vT #[vA #[vI 0,vI 0],vB false]) rfl (As ((rfl:_=Sum74.v x).trans (show Sum74.v x=Value.iface 108 (vA #[vI x7_0,vI x8_1])from by rw [a];rfl)) rfl) ?_
  refine rz rfl<|Ai false rfl (fun h_=>nomatch h_) (fun _=> ?_)
  refine Ac<|d _ _ ?_
  refine AZ rfl ?_
  cases b
  exact aR eV2
 ·replace b:=Sum74.on_t110 a b
  refine r_W (vT #[vA #[vI 0,vI 0,vI 0],vB false]) rfl (As ((rfl:_=Sum74.v x).trans (show Sum74.v x=Value.iface 110 (vA #[vI x9_0,vI x10_1])from by rw [a];rfl)) rfl) ?_
  refine rz rfl<|c _ _ ?_
  refine Ai false rfl (fun h_=>nomatch h_) (fun _=> ?_)
  refine Aa<|r_W (vT #[vA #[vI 0,vI 0],vB false]) rfl (As ((rfl:_=Sum74.v x).trans (show Sum74.v x=Value.iface 110 (vA #[vI x9_0,vI x10_1])from by rw [a];rfl)) rfl) ?_
  refine rz rfl<|Ai false rfl (fun h_=>nomatch h_) (fun _=> ?_)
  refine Aa<|r_W (vT #[vA #[vI 0,vI 0,vI 0],vB false]) rfl (As ((rfl:_=Sum74.v x).trans (show Sum74.v x=Value.iface 110 (vA #[vI x9_0,vI x10_1])from by rw [a];rfl)) rfl) ?_
  refine rz rfl<|Ai false rfl (fun h_=>nomatch h_) (fun _=> ?_)
  refine Aa<|r_W (vT #[vA #[vI x9_0,vI x10_1],vB true]) rfl (As ((rfl:_=Sum74.v x).trans (show Sum74.v x=Value.iface 110 (vA #[vI x9_0,vI x10_1])from by rw [a];rfl)) rfl) ?_
  refine rz rfl<|Ai true rfl (fun _=> ?_) (fun h_=>nomatch h_)
  refine Aa<|rA rfl fun t=>ry [0] rfl<|Aa<|rm 3 [0] rfl<|kB b fun u h b=>rc _ (cF Mt) (CI N s x9_0 _ h)<|rz rfl ?_
  cases b
  exact aR eV2
 ·replace b:=Sum74.on_t112 a b
  refine r_W (vT #[vA #[vI 0,vI 0,vI 0],vB false]) rfl (As ((rfl:_=Sum74.v x).trans (show Sum74.v x=Value.iface 112 (vA #[])from by rw [a];rfl)) rfl) ?_
  refine rz rfl<|c _ _ ?_
  refine Ai false rfl (fun h_=>nomatch h_) (fun _=> ?_)
  refine Aa<|r_W (vT #[vA #[vI 0,vI 0],vB false]) rfl (As ((rfl:_=Sum74.v x).trans (show Sum74.v x=Value.iface 112 (vA #[])from by rw [a];rfl)) rfl) ?_
  refine rz rfl<|Ai false rfl (fun h_=>nomatch h_) (fun _=> ?_)
  refine Aa<|r_W (vT #[vA #[vI 0,vI 0,vI 0],vB false]) rfl (As ((rfl:_=Sum74.v x).trans (show Sum74.v x=Value.iface 112 (vA #[])from by rw [a];rfl)) rfl) ?_
  refine rz rfl<|Ai false rfl (fun h_=>nomatch h_) (fun _=> ?_)
  refine Aa<|r_W (vT #[vA #[vI 0,vI 0],vB false]) rfl (As ((rfl:_=Sum74.v x).trans (show Sum74.v x=Value.iface 112 (vA #[])from by rw [a];rfl)) rfl) ?_
  refine rz rfl<|Ai false rfl (fun h_=>nomatch h_) (fun _=> ?_)
  refine Ac<|d _ _ ?_
  refine AZ rfl ?_
  cases b
  exact aR eV2
 ·replace b:=Sum74.on_t140 a b
  refine r_W (vT #[vA #[vI x11_0,vI x12_1,vI x13_2],vB true]) rfl (As ((rfl:_=Sum74.v x).trans (show Sum74.v x=Value.iface 140 (vA #[vI x11_0,vI x12_1,vI x13_2])from by rw [a];rfl)) rfl) ?_
  refine rz rfl<|c _ _ ?_
  refine Ai true rfl (fun _=> ?_) (fun h_=>nomatch h_)
  refine Aa<|rA rfl fun y=>ry [0] rfl<|Aa<|rm 3 [0] rfl<|kB b fun z i b=>rc _ (cF OE) (DX N s x12_1 _ i)<|rz rfl<|Ai _ rfl (fun e=> ?_) (fun e=> ?_)
  ·replace b:=ifn (Bool.eq_false_iff.1 (Cd e)) b
   refine AZ rfl ?_
   cases b
   exact aR eV2
  replace b:=ifp (Ce e) b
  refine Ac<|d _ _ ?_
  refine AZ rfl ?_
  cases b
  exact aR eV2
 ·replace b:=Sum74.on_t142 a b
  refine r_W (vT #[vA #[vI 0,vI 0,vI 0],vB false]) rfl (As ((rfl:_=Sum74.v x).trans (show Sum74.v x=Value.iface 142 (vA #[vI x14_0,vI x15_1])from by rw [a];rfl)) rfl) ?_
  refine rz rfl<|c _ _ ?_
  refine Ai false rfl (fun h_=>nomatch h_) (fun _=> ?_)
  refine Aa<|r_W (vT #[vA #[vI x14_0,vI x15_1],vB true]) rfl (As ((rfl:_=Sum74.v x).trans (show Sum74.v x=Value.iface 142 (vA #[vI x14_0,vI x15_1])from by rw [a];rfl)) rfl) ?_
  refine rz rfl<|Ai true rfl (fun _=> ?_) (fun h_=>nomatch h_)
  refine Aa<|rA rfl fun A=>ry [0] rfl<|Aa<|rm 2 [0] rfl<|kB b fun B j b=>rc _ (cF Ze) (PA N x14_0 x15_1 s _ j)<|rz rfl ?_
  cases b
  exact aR eV2
 ·replace b:=Sum74.on_t145 a b
  refine r_W (vT #[vA #[vI 0,vI 0,vI 0],vB false]) rfl (As ((rfl:_=Sum74.v x).trans (show Sum74.v x=Value.iface 145 (vA #[vI x16_0,vI x17_1,vI x18_2])from by rw [a];rfl)) rfl) ?_
  refine rz rfl<|c _ _ ?_
  refine Ai false rfl (fun h_=>nomatch h_) (fun _=> ?_)
  refine Aa<|r_W (vT #[vA #[vI 0,vI 0],vB false]) rfl (As ((rfl:_=Sum74.v x).trans (show Sum74.v x=Value.iface 145 (vA #[vI x16_0,vI x17_1,vI x18_2])from by rw [a];rfl)) rfl) ?_
  refine rz rfl<|Ai false rfl (fun h_=>nomatch h_) (fun _=> ?_)
  refine Aa<|r_W (vT #[vA #[vI x16_0,vI x17_1,vI x18_2],vB true]) rfl (As ((rfl:_=Sum74.v x).trans (show Sum74.v x=Value.iface 145 (vA #[vI x16_0,vI x17_1,vI x18_2])from by rw [a];rfl)) rfl) ?_
  refine rz rfl<|Ai true rfl (fun _=> ?_) (fun h_=>nomatch h_)
  refine Aa<|rA rfl fun C=>ry [0] rfl<|Ae fun D k=>Bt [(some 36,false)] (conG prog [(36,fun _ _ v_ L_ U_=> ∀l,Jh N x16_0 x17_1 x18_2=some l→ ∀n,Fh N m x17_1 l s=some n→(pV (U n)) v_ L_ U_)]) [] (by decide+kernel) (fun I=>AW)<|rm 4 [1,0,0] rfl<|kB b fun q f b=>rc _ (cF Zc) (TG N x16_0 x17_1 x18_2 _ f)<|rn 1 rfl<|kB b fun E g b=>rg _ (cF Zd) (fun o w z_=>Oh N m x17_1 q s _ g z_.view mv (Bun59R.mono z_.ro_cell hm)) (fun _ _ v_ L_ U_=>⟨fun h_=>h_ _ f _ g,fun h_=>by intro _ e_;cases Option.some.inj (e_.symm.trans f);intro _ e_;cases Option.some.inj (e_.symm.trans g);exact h_⟩) ?_
  refine rz rfl<|k _ _ ?_
  cases b
  exact aR eV2
 ·replace b:=Sum74.on_t209 a b
  refine r_W (vT #[vA #[vI 0,vI 0,vI 0],vB false]) rfl (As ((rfl:_=Sum74.v x).trans (show Sum74.v x=Value.iface 209 (vA #[vI x19_0,U (hi x20_1),U (lo x20_1)])from by rw [a];rfl)) rfl) ?_
  refine rz rfl<|c _ _ ?_
  refine Ai false rfl (fun h_=>nomatch h_) (fun _=> ?_)
  refine Aa<|r_W (vT #[vA #[vI 0,vI 0],vB false]) rfl (As ((rfl:_=Sum74.v x).trans (show Sum74.v x=Value.iface 209 (vA #[vI x19_0,U (hi x20_1),U (lo x20_1)])from by rw [a];rfl)) rfl) ?_
  refine rz rfl<|Ai false rfl (fun h_=>nomatch h_) (fun _=> ?_)
  refine Aa<|r_W (vT #[vA #[vI 0,vI 0,vI 0],vB false]) rfl (As ((rfl:_=Sum74.v x).trans (show Sum74.v x=Value.iface 209 (vA #[vI x19_0,U (hi x20_1),U (lo x20_1)])from by rw [a];rfl)) rfl) ?_
  refine rz rfl<|Ai false rfl (fun h_=>nomatch h_) (fun _=> ?_)
  refine Aa<|r_W (vT #[vA #[vI 0,vI 0],vB false]) rfl (As ((rfl:_=Sum74.v x).trans (show Sum74.v x=Value.iface 209 (vA #[vI x19_0,U (hi x20_1),U (lo x20_1)])from by rw [a];rfl)) rfl) ?_
  refine rz rfl<|Ai false rfl (fun h_=>nomatch h_) (fun _=> ?_)
  refine Ac<|d _ _ ?_
  refine AZ rfl ?_
  cases b
  exact aR eV2
 ·replace b:=Sum74.on_t210 a b
  refine r_W (vT #[vA #[vI 0,vI 0,vI 0],vB false]) rfl (As ((rfl:_=Sum74.v x).trans (show Sum74.v x=Value.iface 210 (vA #[vI x21_0,vI x22_1])from by rw [a];rfl)) rfl) ?_
  refine rz rfl<|c _ _ ?_
  refine Ai false rfl (fun h_=>nomatch h_) (fun _=> ?_)
  refine Aa<|r_W (vT #[vA #[vI 0,vI 0],vB false]) rfl (As ((rfl:_=Sum74.v x).trans (show Sum74.v x=Value.iface 210 (vA #[vI x21_0,vI x22_1])from by rw [a];rfl)) rfl) ?_
  refine rz rfl<|Ai false rfl (fun h_=>nomatch h_) (fun _=> ?_)
  refine Aa<|r_W (vT #[vA #[vI 0,vI 0,vI 0],vB false]) rfl (As ((rfl:_=Sum74.v x).trans (show Sum74.v x=Value.iface 210 (vA #[vI x21_0,vI x22_1])from by rw [a];rfl)) rfl) ?_
  refine rz rfl<|Ai false rfl (fun h_=>nomatch h_) (fun _=> ?_)
  refine Aa<|r_W (vT #[vA #[vI 0,vI 0],vB false]) rfl (As ((rfl:_=Sum74.v x).trans (show Sum74.v x=Value.iface 210 (vA #[vI x21_0,vI x22_1])from by rw [a];rfl)) rfl) ?_
  refine rz rfl<|Ai false rfl (fun h_=>nomatch h_) (fun _=> ?_)
  refine Ac<|d _ _ ?_
  refine AZ rfl ?_
  cases b
  exact aR eV2
 ·replace b:=Sum74.on_t211 a b
  refine r_W (vT #[vA #[vI 0,vI 0,vI 0],vB false]) rfl (As ((rfl:_=Sum74.v x).trans (show Sum74.v x=Value.iface 211 (vA #[vI x23_0,vI x24_1])from by rw [a];rfl)) rfl) ?_
  refine rz rfl<|c _ _ ?_
  refine Ai false rfl (fun h_=>nomatch h_) (fun _=> ?_)
  refine Aa<|r_W (vT #[vA #[vI 0,vI 0],vB false]) rfl (As ((rfl:_=Sum74.v x).trans (show Sum74.v x=Value.iface 211 (vA #[vI x23_0,vI x24_1])from by rw [a];rfl)) rfl) ?_
  refine rz rfl<|Ai false rfl (fun h_=>nomatch h_) (fun _=> ?_)
  refine Aa<|r_W (vT #[vA #[vI 0,vI 0,vI 0],vB false]) rfl (As ((rfl:_=Sum74.v x).trans (show Sum74.v x=Value.iface 211 (vA #[vI x23_0,vI x24_1])from by rw [a];rfl)) rfl) ?_
  refine rz rfl<|Ai false rfl (fun h_=>nomatch h_) (fun _=> ?_)
  refine Aa<|r_W (vT #[vA #[vI 0,vI 0],vB false]) rfl (As ((rfl:_=Sum74.v x).trans (show Sum74.v x=Value.iface 211 (vA #[vI x23_0,vI x24_1])from by rw [a];rfl)) rfl) ?_
  refine rz rfl<|Ai false rfl (fun h_=>nomatch h_) (fun _=> ?_)
  refine Ac<|d _ _ ?_
  refine AZ rfl ?_
  cases b
  exact aR eV2
 ·replace b:=Sum74.on_t213 a b
  refine r_W (vT #[vA #[vI 0,vI 0,vI 0],vB false]) rfl (As ((rfl:_=Sum74.v x).trans (show Sum74.v x=Value.iface 213 (vA #[vI x25_0,vI x26_1])from by rw [a];rfl)) rfl) ?_
  refine rz rfl<|c _ _ ?_
  refine Ai false rfl (fun h_=>nomatch h_) (fun _=> ?_)
  refine Aa<|r_W (vT #[vA #[vI 0,vI 0],vB false]) rfl (As ((rfl:_=Sum74.v x).trans (show Sum74.v x=Value.iface 213 (vA #[vI x25_0,vI x26_1])from by rw [a];rfl)) rfl) ?_
  refine rz rfl<|Ai false rfl (fun h_=>nomatch h_) (fun _=> ?_)
  refine Aa<|r_W (vT #[vA #[vI 0,vI 0,vI 0],vB false]) rfl (As ((rfl:_=Sum74.v x).trans (show Sum74.v x=Value.iface 213 (vA #[vI x25_0,vI x26_1])from by rw [a];rfl)) rfl) ?_
  refine rz rfl<|Ai false rfl (fun h_=>nomatch h_) (fun _=> ?_)
  refine Aa<|r_W (vT #[vA #[vI 0,vI 0],vB false]) rfl (As ((rfl:_=Sum74.v x).trans (show Sum74.v x=Value.iface 213 (vA #[vI x25_0,vI x26_1])from by rw [a];rfl)) rfl) ?_
  refine rz rfl<|Ai false rfl (fun h_=>nomatch h_) (fun _=> ?_)
  refine Ac<|d _ _ ?_
  refine AZ rfl ?_
  cases b
  exact aR eV2
 replace b:=Sum74.on_t215 a b
 refine r_W (vT #[vA #[vI 0,vI 0,vI 0],vB false]) rfl (As ((rfl:_=Sum74.v x).trans (show Sum74.v x=Value.iface 215 (vA #[vI x27_0])from by rw [a];rfl)) rfl) ?_
 refine rz rfl<|c _ _ ?_
 refine Ai false rfl (fun h_=>nomatch h_) (fun _=> ?_)
 refine Aa<|r_W (vT #[vA #[vI 0,vI 0],vB false]) rfl (As ((rfl:_=Sum74.v x).trans (show Sum74.v x=Value.iface 215 (vA #[vI x27_0])from by rw [a];rfl)) rfl) ?_
 refine rz rfl<|Ai false rfl (fun h_=>nomatch h_) (fun _=> ?_)
 refine Aa<|r_W (vT #[vA #[vI 0,vI 0,vI 0],vB false]) rfl (As ((rfl:_=Sum74.v x).trans (show Sum74.v x=Value.iface 215 (vA #[vI x27_0])from by rw [a];rfl)) rfl) ?_
 refine rz rfl<|Ai false rfl (fun h_=>nomatch h_) (fun _=> ?_)
 refine Aa<|r_W (vT #[vA #[vI 0,vI 0],vB false]) rfl (As ((rfl:_=Sum74.v x).trans (show Sum74.v x=Value.iface 215 (vA #[vI x27_0])from by rw [a];rfl)) rfl) ?_
 refine rz rfl<|Ai false rfl (fun h_=>nomatch h_) (fun _=> ?_)
 refine Ac<|d _ _ ?_
 refine AZ rfl ?_
 cases b
 exact aR eV2
def AD(N:Nat)(w_0:AF)(r11:(BitVec 64)×Int)(next1_:Int)(wv2_:List (Bool×BitVec 64)):Option (Int×(List (Bool×BitVec 64))):=(Bn N w_0 wv2_ next1_ r11.1).bind fun r20=>ck ((r20).length=(wv2_).length) (some (0,r20))
def CF(N:Nat)(w_0:AF)(w_1:List (Bool×BitVec 64))(at':Int)(x:Sum74):Option (Int×(List (Bool×BitVec 64))):=ck (0≤at'∧at'<(w_1.length:Int)) (if((w_1[at'.toNat]!).1)=true then(FG N w_0 x ((w_1[at'.toNat]!).2)).bind fun r11=>if(r11.2:Int)≠0 then some (r11.2,w_1)else ck (R64 (at'+1)) (Sum74.on x (AD N w_0 r11 (at'+1) w_1) (fun x29_0 x30_1=>(Bn N w_0 w_1 x30_1 r11.1).bind fun r53=>ck ((r53).length=(w_1).length) (if x29_0=31 then some (0,r53)else AD N w_0 r11 (at'+1) r53)) (fun x31_0 x32_1=>(Bh N ((w_1[at'.toNat]!).2) x31_0).bind fun r53=>(Bn N w_0 w_1 x32_1 r53).bind fun r55=>ck ((r55).length=(w_1).length) (AD N w_0 r11 (at'+1) r55)) (ck ((R64 ((w_1.length:Int) - 1))) (AD N w_0 r11 ((w_1.length:Int) - 1) w_1)) (fun _ _ _=>AD N w_0 r11 (at'+1) w_1) (fun _ _=>AD N w_0 r11 (at'+1) w_1) (fun _ _ _=>AD N w_0 r11 (at'+1) w_1) (fun _ _=>AD N w_0 r11 (at'+1) w_1) (fun _ _=>AD N w_0 r11 (at'+1) w_1) (fun _ _=>AD N w_0 r11 (at'+1) w_1) (fun _ _=>AD N w_0 r11 (at'+1) w_1) (fun _=>AD N w_0 r11 (at'+1) w_1))else some (0,w_1))
theorem Jw(N w_0 w_1 at' x r)(b:CF N w_0 w_1 at' x=some r)(ro)(w_0v:AE)(hw_0:Bun59R ro w_0v w_0)(w_1v:Value)(Sw_1:List Bl)(hw_1:Sl 76 Gs w_1v w_1 Sw_1):Does prog 23 #[vA #[vS w_0.1,w_0v.1,w_0v.2.1,w_0v.2.2.1,w_0v.2.2.2.1,w_0v.2.2.2.2.1,w_0v.2.2.2.2.2.1,w_0v.2.2.2.2.2.2.1,w_0v.2.2.2.2.2.2.2.1,w_0v.2.2.2.2.2.2.2.2.1,w_0v.2.2.2.2.2.2.2.2.2.1,w_0v.2.2.2.2.2.2.2.2.2.2.1,w_0v.2.2.2.2.2.2.2.2.2.2.2.1,w_0v.2.2.2.2.2.2.2.2.2.2.2.2.1,w_0v.2.2.2.2.2.2.2.2.2.2.2.2.2,vI w_0.2.2.2.2.2.2.2.2.2.2.2.2.2.2.2.1,vI w_0.2.2.2.2.2.2.2.2.2.2.2.2.2.2.2.2.1,vI w_0.2.2.2.2.2.2.2.2.2.2.2.2.2.2.2.2.2,w_1v],vI at',Sum74.v x] ro (List.flatten [Sw_1]) (pO (List.flatten [Sw_1]) (oI 76 Gs w_1v r.2 (oE (vI r.1) []))):=by
 unfold CF at b
 refine BA follows func23 rfl 71 rfl _ fz3 (fun _ _ h_ _=>h_) (fun P=> ?_)
 refine Aa<|rA rfl fun d=>rz rfl<|Aa<|rm 3 [0] rfl<|kC b fun B b=>rI (Sl.shp hw_1) B rfl ?_
 refine rE (Ar hw_1 (Af (Ls:=[(AK d w_0.1 w_0v.1 w_0v.2.1 w_0v.2.2.1 w_0v.2.2.2.1 w_0v.2.2.2.2.1 w_0v.2.2.2.2.2.1 w_0v.2.2.2.2.2.2.1 w_0v.2.2.2.2.2.2.2.1 w_0v.2.2.2.2.2.2.2.2.1 w_0v.2.2.2.2.2.2.2.2.2.1 w_0v.2.2.2.2.2.2.2.2.2.2.1 w_0v.2.2.2.2.2.2.2.2.2.2.2.1 w_0v.2.2.2.2.2.2.2.2.2.2.2.2.1 w_0v.2.2.2.2.2.2.2.2.2.2.2.2.2 w_0.2.2.2.2.2.2.2.2.2.2.2.2.2.2.2.1 w_0.2.2.2.2.2.2.2.2.2.2.2.2.2.2.2.2.1 w_0.2.2.2.2.2.2.2.2.2.2.2.2.2.2.2.2.2 w_1v),Sw_1]) (k:=1) rfl rfl)) B 0 rfl ?_
 refine rA rfl fun f=>ry [0] rfl ?_
 refine Ae fun K6 S=>AY [0] rfl<|Ai _ rfl (fun y=> ?_) (fun y=> ?_)
 ·replace b:=ifn (Bool.eq_false_iff.1 (Cd y)) b
  refine AZ rfl ?_
  cases b
  refine AO (fun Q=>Cw (v0:=vI 0) (O:=[Sw_1]) (BP rfl) (Sub.pick [(BQ f ((w_1[at'.toNat]!).1) ((w_1[at'.toNat]!).2)),(AK d w_0.1 w_0v.1 w_0v.2.1 w_0v.2.2.1 w_0v.2.2.2.1 w_0v.2.2.2.2.1 w_0v.2.2.2.2.2.1 w_0v.2.2.2.2.2.2.1 w_0v.2.2.2.2.2.2.2.1 w_0v.2.2.2.2.2.2.2.2.1 w_0v.2.2.2.2.2.2.2.2.2.1 w_0v.2.2.2.2.2.2.2.2.2.2.1 w_0v.2.2.2.2.2.2.2.2.2.2.2.1 w_0v.2.2.2.2.2.2.2.2.2.2.2.2.1 w_0v.2.2.2.2.2.2.2.2.2.2.2.2.2 w_0.2.2.2.2.2.2.2.2.2.2.2.2.2.2.2.1 w_0.2.2.2.2.2.2.2.2.2.2.2.2.2.2.2.2.1 w_0.2.2.2.2.2.2.2.2.2.2.2.2.2.2.2.2.2 w_1v),Sw_1] [2] rfl) ⟨Sw_1,_,hw_1,⟨rfl,rfl⟩,rfl⟩)
 replace b:=ifp (Ce y) b
 refine Ac<|S _ _ ?_
 refine Aa<|rm 5 [1,0] rfl<|kB b fun i C b=>gV _ (cF ZE) (fun o w z_=>Mq N w_0 x ((w_1[at'.toNat]!).2) _ C z_.view w_0v (Bun59R.mono z_.ro_cell hw_0))<|rz rfl<|Ae fun ab D=>AZ rfl<|aN b rfl (fun E b=> ?_) (fun E b=> ?_)
 ·refine AZ rfl<|Cx [(6,vI i.2)] rfl (fun T=> ?_)
  cases b
  refine AO (fun Q=>Cw (v0:=vI i.2) (O:=[Sw_1]) (BP rfl) (Sub.pick [(BQ f ((w_1[at'.toNat]!).1) ((w_1[at'.toNat]!).2)),(AK d w_0.1 w_0v.1 w_0v.2.1 w_0v.2.2.1 w_0v.2.2.2.1 w_0v.2.2.2.2.1 w_0v.2.2.2.2.2.1 w_0v.2.2.2.2.2.2.1 w_0v.2.2.2.2.2.2.2.1 w_0v.2.2.2.2.2.2.2.2.1 w_0v.2.2.2.2.2.2.2.2.2.1 w_0v.2.2.2.2.2.2.2.2.2.2.1 w_0v.2.2.2.2.2.2.2.2.2.2.2.1 w_0v.2.2.2.2.2.2.2.2.2.2.2.2.1 w_0v.2.2.2.2.2.2.2.2.2.2.2.2.2 w_0.2.2.2.2.2.2.2.2.2.2.2.2.2.2.2.1 w_0.2.2.2.2.2.2.2.2.2.2.2.2.2.2.2.2.1 w_0.2.2.2.2.2.2.2.2.2.2.2.2.2.2.2.2.2 w_1v),Sw_1] [2] rfl) ⟨Sw_1,_,hw_1,⟨rfl,rfl⟩,rfl⟩)
 refine Ac<|D _ _ ?_
 refine Aa<|rn 1 rfl<|kC b fun F b=>rX F rfl<|rz rfl ?_
 refine BW (fun tt ll=> ∃(g:Int) (m:List (Bool×BitVec 64)),(AD N w_0 i g m=some r)∧ ∃(e:List Bl),Sl 76 Gs w_1v m e∧Is [(3,vP d 0),(8,U i.1),(10,vI g)] (List.flatten [(AK d w_0.1 w_0v.1 w_0v.2.1 w_0v.2.2.1 w_0v.2.2.2.1 w_0v.2.2.2.2.1 w_0v.2.2.2.2.2.1 w_0v.2.2.2.2.2.2.1 w_0v.2.2.2.2.2.2.2.1 w_0v.2.2.2.2.2.2.2.2.1 w_0v.2.2.2.2.2.2.2.2.2.1 w_0v.2.2.2.2.2.2.2.2.2.2.1 w_0v.2.2.2.2.2.2.2.2.2.2.2.1 w_0v.2.2.2.2.2.2.2.2.2.2.2.2.1 w_0v.2.2.2.2.2.2.2.2.2.2.2.2.2 w_0.2.2.2.2.2.2.2.2.2.2.2.2.2.2.2.1 w_0.2.2.2.2.2.2.2.2.2.2.2.2.2.2.2.2.1 w_0.2.2.2.2.2.2.2.2.2.2.2.2.2.2.2.2.2 w_1v),e]) tt ll) ?_ ?_
 ·refine AZ rfl<|Cx [(3,vP d 0),(7,vP f 0),(8,U i.1),(10,vI (at'+1)),(36,Sum74.v x)] rfl (fun T=> ?_)
  refine Am<|Ae fun ac c=>An ?_
  rcases Sum74.cases x with a|⟨x29_0,x30_1,a⟩|⟨x31_0,x32_1,a⟩|a|⟨x33_0,x34_1,x35_2,a⟩|⟨x36_0,x37_1,a⟩|⟨x38_0,x39_1,x40_2,a⟩|⟨x41_0,x42_1,a⟩|⟨x43_0,x44_1,a⟩|⟨x45_0,x46_1,a⟩|⟨x47_0,x48_1,a⟩|⟨x49_0,a⟩
  ·replace b:=Sum74.on_nil a b
   refine r_W (vT #[vA #[vI 0,vI 0],vB false]) rfl (As ((rfl:_=Sum74.v x).trans (show Sum74.v x=Value.nilIface from by rw [a];rfl)) rfl) ?_
   refine rz rfl<|c _ _ ?_
   refine Ai false rfl (fun h_=>nomatch h_) (fun _=> ?_)
   refine Aa<|r_W (vT #[vA #[vI 0,vI 0],vB false]) rfl (As ((rfl:_=Sum74.v x).trans (show Sum74.v x=Value.nilIface from by rw [a];rfl)) rfl) ?_
   refine rz rfl<|Ai false rfl (fun h_=>nomatch h_) (fun _=> ?_)
   refine Aa<|r_W (vT #[vA #[],vB false]) rfl (As ((rfl:_=Sum74.v x).trans (show Sum74.v x=Value.nilIface from by rw [a];rfl)) rfl) ?_
   refine rz rfl<|Ai false rfl (fun h_=>nomatch h_) (fun _=> ?_)
   refine Ac<|fg _ (Sub.pick [(BQ f ((w_1[at'.toNat]!).1) ((w_1[at'.toNat]!).2)),(AK d w_0.1 w_0v.1 w_0v.2.1 w_0v.2.2.1 w_0v.2.2.2.1 w_0v.2.2.2.2.1 w_0v.2.2.2.2.2.1 w_0v.2.2.2.2.2.2.1 w_0v.2.2.2.2.2.2.2.1 w_0v.2.2.2.2.2.2.2.2.1 w_0v.2.2.2.2.2.2.2.2.2.1 w_0v.2.2.2.2.2.2.2.2.2.2.1 w_0v.2.2.2.2.2.2.2.2.2.2.2.1 w_0v.2.2.2.2.2.2.2.2.2.2.2.2.1 w_0v.2.2.2.2.2.2.2.2.2.2.2.2.2 w_0.2.2.2.2.2.2.2.2.2.2.2.2.2.2.2.1 w_0.2.2.2.2.2.2.2.2.2.2.2.2.2.2.2.2.1 w_0.2.2.2.2.2.2.2.2.2.2.2.2.2.2.2.2.2 w_1v),Sw_1] [1,2] rfl) ?_
   exact⟨(at'+1),w_1,b,Sw_1,hw_1,Aj rfl rfl⟩
  ·replace b:=Sum74.on_t108 a b
   refine r_W (vT #[vA #[vI x29_0,vI x30_1],vB true]) rfl (As ((rfl:_=Sum74.v x).trans (show Sum74.v x=Value.iface 108 (vA #[vI x29_0,vI x30_1])from by rw [a];rfl)) rfl) ?_
   refine rz rfl<|c _ _ ?_
   refine Ai true rfl (fun _=> ?_) (fun h_=>nomatch h_)
   refine Aa<|rA rfl fun n=>ry [0] rfl<|Aa ?_
   refine rm 4 [2,0] rfl<|kB b fun z h b=>kC b fun Z b=>gM (Ls:=[(Ix n x29_0 x30_1),(BQ f ((w_1[at'.toNat]!).1) ((w_1[at'.toNat]!).2)),(AK d w_0.1 w_0v.1 w_0v.2.1 w_0v.2.2.1 w_0v.2.2.2.1 w_0v.2.2.2.2.1 w_0v.2.2.2.2.2.1 w_0v.2.2.2.2.2.2.1 w_0v.2.2.2.2.2.2.2.1 w_0v.2.2.2.2.2.2.2.2.1 w_0v.2.2.2.2.2.2.2.2.2.1 w_0v.2.2.2.2.2.2.2.2.2.2.1 w_0v.2.2.2.2.2.2.2.2.2.2.2.1 w_0v.2.2.2.2.2.2.2.2.2.2.2.2.1 w_0v.2.2.2.2.2.2.2.2.2.2.2.2.2 w_0.2.2.2.2.2.2.2.2.2.2.2.2.2.2.2.1 w_0.2.2.2.2.2.2.2.2.2.2.2.2.2.2.2.2.1 w_0.2.2.2.2.2.2.2.2.2.2.2.2.2.2.2.2.2 w_1v),Sw_1]) (FL:=[Sw_1]) [3] (cF Nk) (fun o w hn_ z_=>Ct N w_0 w_1 x30_1 i.1 _ h _ w_0v (Bun59R.mono (Ht (Ls:=[(Ix n x29_0 x30_1),(BQ f ((w_1[at'.toNat]!).1) ((w_1[at'.toNat]!).2)),(AK d w_0.1 w_0v.1 w_0v.2.1 w_0v.2.2.1 w_0v.2.2.2.1 w_0v.2.2.2.2.1 w_0v.2.2.2.2.2.1 w_0v.2.2.2.2.2.2.1 w_0v.2.2.2.2.2.2.2.1 w_0v.2.2.2.2.2.2.2.2.1 w_0v.2.2.2.2.2.2.2.2.2.1 w_0v.2.2.2.2.2.2.2.2.2.2.1 w_0v.2.2.2.2.2.2.2.2.2.2.2.1 w_0v.2.2.2.2.2.2.2.2.2.2.2.2.1 w_0v.2.2.2.2.2.2.2.2.2.2.2.2.2 w_0.2.2.2.2.2.2.2.2.2.2.2.2.2.2.2.1 w_0.2.2.2.2.2.2.2.2.2.2.2.2.2.2.2.2.1 w_0.2.2.2.2.2.2.2.2.2.2.2.2.2.2.2.2.2 w_1v),Sw_1]) (is:=[3]) rfl z_) hw_0) w_1v Sw_1 hw_1) ?_
   rintro _ _ ⟨j,_,G,⟨rfl,rfl⟩,rfl⟩
   refine BC (Ls:=[(Ix n x29_0 x30_1),(BQ f ((w_1[at'.toNat]!).1) ((w_1[at'.toNat]!).2)),(AK d w_0.1 w_0v.1 w_0v.2.1 w_0v.2.2.1 w_0v.2.2.2.1 w_0v.2.2.2.2.1 w_0v.2.2.2.2.2.1 w_0v.2.2.2.2.2.2.1 w_0v.2.2.2.2.2.2.2.1 w_0v.2.2.2.2.2.2.2.2.1 w_0v.2.2.2.2.2.2.2.2.2.1 w_0v.2.2.2.2.2.2.2.2.2.2.1 w_0v.2.2.2.2.2.2.2.2.2.2.2.1 w_0v.2.2.2.2.2.2.2.2.2.2.2.2.1 w_0v.2.2.2.2.2.2.2.2.2.2.2.2.2 w_0.2.2.2.2.2.2.2.2.2.2.2.2.2.2.2.1 w_0.2.2.2.2.2.2.2.2.2.2.2.2.2.2.2.2.1 w_0.2.2.2.2.2.2.2.2.2.2.2.2.2.2.2.2.2 w_1v),j]) (Ls':=[(Ix n x29_0 x30_1),(BQ f ((w_1[at'.toNat]!).1) ((w_1[at'.toNat]!).2)),(AK d w_0.1 w_0v.1 w_0v.2.1 w_0v.2.2.1 w_0v.2.2.2.1 w_0v.2.2.2.2.1 w_0v.2.2.2.2.2.1 w_0v.2.2.2.2.2.2.1 w_0v.2.2.2.2.2.2.2.1 w_0v.2.2.2.2.2.2.2.2.1 w_0v.2.2.2.2.2.2.2.2.2.1 w_0v.2.2.2.2.2.2.2.2.2.2.1 w_0v.2.2.2.2.2.2.2.2.2.2.2.1 w_0v.2.2.2.2.2.2.2.2.2.2.2.2.1 w_0v.2.2.2.2.2.2.2.2.2.2.2.2.2 w_0.2.2.2.2.2.2.2.2.2.2.2.2.2.2.2.1 w_0.2.2.2.2.2.2.2.2.2.2.2.2.2.2.2.2.1 w_0.2.2.2.2.2.2.2.2.2.2.2.2.2.2.2.2.2 w_1v),j]) [0,1,2,3] rfl rfl ?_
   refine Ah<|AY [0] rfl<|aE b rfl (fun H b=> ?_) (fun H b=> ?_)
   ·refine AZ rfl ?_
    cases b
    refine AO (fun Q=>Cw (v0:=vI 0) (O:=[j]) (BP rfl) (Sub.pick [(Ix n x29_0 x30_1),(BQ f ((w_1[at'.toNat]!).1) ((w_1[at'.toNat]!).2)),(AK d w_0.1 w_0v.1 w_0v.2.1 w_0v.2.2.1 w_0v.2.2.2.1 w_0v.2.2.2.2.1 w_0v.2.2.2.2.2.1 w_0v.2.2.2.2.2.2.1 w_0v.2.2.2.2.2.2.2.1 w_0v.2.2.2.2.2.2.2.2.1 w_0v.2.2.2.2.2.2.2.2.2.1 w_0v.2.2.2.2.2.2.2.2.2.2.1 w_0v.2.2.2.2.2.2.2.2.2.2.2.1 w_0v.2.2.2.2.2.2.2.2.2.2.2.2.1 w_0v.2.2.2.2.2.2.2.2.2.2.2.2.2 w_0.2.2.2.2.2.2.2.2.2.2.2.2.2.2.2.1 w_0.2.2.2.2.2.2.2.2.2.2.2.2.2.2.2.2.1 w_0.2.2.2.2.2.2.2.2.2.2.2.2.2.2.2.2.2 w_1v),j] [3] rfl) ⟨j,_,G,⟨rfl,rfl⟩,rfl⟩)
   refine Ac<|fg _ (Sub.pick [(Ix n x29_0 x30_1),(BQ f ((w_1[at'.toNat]!).1) ((w_1[at'.toNat]!).2)),(AK d w_0.1 w_0v.1 w_0v.2.1 w_0v.2.2.1 w_0v.2.2.2.1 w_0v.2.2.2.2.1 w_0v.2.2.2.2.2.1 w_0v.2.2.2.2.2.2.1 w_0v.2.2.2.2.2.2.2.1 w_0v.2.2.2.2.2.2.2.2.1 w_0v.2.2.2.2.2.2.2.2.2.1 w_0v.2.2.2.2.2.2.2.2.2.2.1 w_0v.2.2.2.2.2.2.2.2.2.2.2.1 w_0v.2.2.2.2.2.2.2.2.2.2.2.2.1 w_0v.2.2.2.2.2.2.2.2.2.2.2.2.2 w_0.2.2.2.2.2.2.2.2.2.2.2.2.2.2.2.1 w_0.2.2.2.2.2.2.2.2.2.2.2.2.2.2.2.2.1 w_0.2.2.2.2.2.2.2.2.2.2.2.2.2.2.2.2.2 w_1v),j] [2,3] rfl) ?_
   exact⟨(at'+1),z,b,j,G,Aj rfl rfl⟩
  ·replace b:=Sum74.on_t110 a b
   refine r_W (vT #[vA #[vI 0,vI 0],vB false]) rfl (As ((rfl:_=Sum74.v x).trans (show Sum74.v x=Value.iface 110 (vA #[vI x31_0,vI x32_1])from by rw [a];rfl)) rfl) ?_
   refine rz rfl<|c _ _ ?_
   refine Ai false rfl (fun h_=>nomatch h_) (fun _=> ?_)
   refine Aa<|r_W (vT #[vA #[vI x31_0,vI x32_1],vB true]) rfl (As ((rfl:_=Sum74.v x).trans (show Sum74.v x=Value.iface 110 (vA #[vI x31_0,vI x32_1])from by rw [a];rfl)) rfl) ?_
   refine rz rfl<|Ai true rfl (fun _=> ?_) (fun h_=>nomatch h_)
   refine Aa<|rA rfl fun p=>ry [0] rfl ?_
   refine Bt [(some 59,true)] (conG prog [(59,fun _ _ v_ L_ U_=> ∀I,Bh N ((w_1[at'.toNat]!).2) x31_0=some I→ ∀J,Bn N w_0 w_1 x32_1 I=some J→(pO (List.flatten [Sw_1]) (oI 76 Gs w_1v J (oE (vT #[]) []))) v_ L_ U_)]) [] (by decide+kernel) (fun Q=>AW) ?_
   refine rm 6 [2,0,1] rfl ?_
   refine rm 1 [0] rfl<|kB b fun z h b=>rc _ (cF OD) (CB N ((w_1[at'.toNat]!).2) x31_0 _ h)<|kB b fun V q b=>kC b fun K b=>UN (Ls:=[(JL p x31_0 x32_1),(BQ f ((w_1[at'.toNat]!).1) ((w_1[at'.toNat]!).2)),(AK d w_0.1 w_0v.1 w_0v.2.1 w_0v.2.2.1 w_0v.2.2.2.1 w_0v.2.2.2.2.1 w_0v.2.2.2.2.2.1 w_0v.2.2.2.2.2.2.1 w_0v.2.2.2.2.2.2.2.1 w_0v.2.2.2.2.2.2.2.2.1 w_0v.2.2.2.2.2.2.2.2.2.1 w_0v.2.2.2.2.2.2.2.2.2.2.1 w_0v.2.2.2.2.2.2.2.2.2.2.2.1 w_0v.2.2.2.2.2.2.2.2.2.2.2.2.1 w_0v.2.2.2.2.2.2.2.2.2.2.2.2.2 w_0.2.2.2.2.2.2.2.2.2.2.2.2.2.2.2.1 w_0.2.2.2.2.2.2.2.2.2.2.2.2.2.2.2.2.1 w_0.2.2.2.2.2.2.2.2.2.2.2.2.2.2.2.2.2 w_1v),Sw_1]) (FL:=[Sw_1]) [3] _ (some 59) 22 _ rfl rfl rfl rfl rfl (cF Nk) (fun o w hn_ z_=>Ct N w_0 w_1 x32_1 z _ q _ w_0v (Bun59R.mono (Ht (Ls:=[(JL p x31_0 x32_1),(BQ f ((w_1[at'.toNat]!).1) ((w_1[at'.toNat]!).2)),(AK d w_0.1 w_0v.1 w_0v.2.1 w_0v.2.2.1 w_0v.2.2.2.1 w_0v.2.2.2.2.1 w_0v.2.2.2.2.2.1 w_0v.2.2.2.2.2.2.1 w_0v.2.2.2.2.2.2.2.1 w_0v.2.2.2.2.2.2.2.2.1 w_0v.2.2.2.2.2.2.2.2.2.1 w_0v.2.2.2.2.2.2.2.2.2.2.1 w_0v.2.2.2.2.2.2.2.2.2.2.2.1 w_0v.2.2.2.2.2.2.2.2.2.2.2.2.1 w_0v.2.2.2.2.2.2.2.2.2.2.2.2.2 w_0.2.2.2.2.2.2.2.2.2.2.2.2.2.2.2.1 w_0.2.2.2.2.2.2.2.2.2.2.2.2.2.2.2.2.1 w_0.2.2.2.2.2.2.2.2.2.2.2.2.2.2.2.2.2 w_1v),Sw_1]) (is:=[3]) rfl z_) hw_0) w_1v Sw_1 hw_1) (fun _ _ v_ L_ U_=>⟨fun h_=>h_ _ h _ q,fun h_=>by intro _ e_;cases Option.some.inj (e_.symm.trans h);intro _ e_;cases Option.some.inj (e_.symm.trans q);exact h_⟩) (fun _=>(NiceO.sub (R:=(Sw_1++ [])) (ZZ hw_1 K (PN rfl)) (Sub.pick [Sw_1] [0] rfl))) ?_
   rintro _ _ ⟨u,_,W,⟨rfl,rfl⟩,rfl⟩
   refine BC (Ls:=[(JL p x31_0 x32_1),(BQ f ((w_1[at'.toNat]!).1) ((w_1[at'.toNat]!).2)),(AK d w_0.1 w_0v.1 w_0v.2.1 w_0v.2.2.1 w_0v.2.2.2.1 w_0v.2.2.2.2.1 w_0v.2.2.2.2.2.1 w_0v.2.2.2.2.2.2.1 w_0v.2.2.2.2.2.2.2.1 w_0v.2.2.2.2.2.2.2.2.1 w_0v.2.2.2.2.2.2.2.2.2.1 w_0v.2.2.2.2.2.2.2.2.2.2.1 w_0v.2.2.2.2.2.2.2.2.2.2.2.1 w_0v.2.2.2.2.2.2.2.2.2.2.2.2.1 w_0v.2.2.2.2.2.2.2.2.2.2.2.2.2 w_0.2.2.2.2.2.2.2.2.2.2.2.2.2.2.2.1 w_0.2.2.2.2.2.2.2.2.2.2.2.2.2.2.2.2.1 w_0.2.2.2.2.2.2.2.2.2.2.2.2.2.2.2.2.2 w_1v),u]) (Ls':=[(JL p x31_0 x32_1),(BQ f ((w_1[at'.toNat]!).1) ((w_1[at'.toNat]!).2)),(AK d w_0.1 w_0v.1 w_0v.2.1 w_0v.2.2.1 w_0v.2.2.2.1 w_0v.2.2.2.2.1 w_0v.2.2.2.2.2.1 w_0v.2.2.2.2.2.2.1 w_0v.2.2.2.2.2.2.2.1 w_0v.2.2.2.2.2.2.2.2.1 w_0v.2.2.2.2.2.2.2.2.2.1 w_0v.2.2.2.2.2.2.2.2.2.2.1 w_0v.2.2.2.2.2.2.2.2.2.2.2.1 w_0v.2.2.2.2.2.2.2.2.2.2.2.2.1 w_0v.2.2.2.2.2.2.2.2.2.2.2.2.2 w_0.2.2.2.2.2.2.2.2.2.2.2.2.2.2.2.1 w_0.2.2.2.2.2.2.2.2.2.2.2.2.2.2.2.2.1 w_0.2.2.2.2.2.2.2.2.2.2.2.2.2.2.2.2.2 w_1v),u]) [0,1,2,3] rfl rfl ?_
   refine Ah<|fg _ (Sub.pick [(JL p x31_0 x32_1),(BQ f ((w_1[at'.toNat]!).1) ((w_1[at'.toNat]!).2)),(AK d w_0.1 w_0v.1 w_0v.2.1 w_0v.2.2.1 w_0v.2.2.2.1 w_0v.2.2.2.2.1 w_0v.2.2.2.2.2.1 w_0v.2.2.2.2.2.2.1 w_0v.2.2.2.2.2.2.2.1 w_0v.2.2.2.2.2.2.2.2.1 w_0v.2.2.2.2.2.2.2.2.2.1 w_0v.2.2.2.2.2.2.2.2.2.2.1 w_0v.2.2.2.2.2.2.2.2.2.2.2.1 w_0v.2.2.2.2.2.2.2.2.2.2.2.2.1 w_0v.2.2.2.2.2.2.2.2.2.2.2.2.2 w_0.2.2.2.2.2.2.2.2.2.2.2.2.2.2.2.1 w_0.2.2.2.2.2.2.2.2.2.2.2.2.2.2.2.2.1 w_0.2.2.2.2.2.2.2.2.2.2.2.2.2.2.2.2.2 w_1v),u] [2,3] rfl) ?_
   exact⟨(at'+1),V,b,u,W,Aj rfl rfl⟩
  ·replace b:=Sum74.on_t112 a b
   refine r_W (vT #[vA #[vI 0,vI 0],vB false]) rfl (As ((rfl:_=Sum74.v x).trans (show Sum74.v x=Value.iface 112 (vA #[])from by rw [a];rfl)) rfl) ?_
   refine rz rfl<|c _ _ ?_
   refine Ai false rfl (fun h_=>nomatch h_) (fun _=> ?_)
   refine Aa<|r_W (vT #[vA #[vI 0,vI 0],vB false]) rfl (As ((rfl:_=Sum74.v x).trans (show Sum74.v x=Value.iface 112 (vA #[])from by rw [a];rfl)) rfl) ?_
   refine rz rfl<|Ai false rfl (fun h_=>nomatch h_) (fun _=> ?_)
   refine Aa<|r_W (vT #[vA #[],vB true]) rfl (As ((rfl:_=Sum74.v x).trans (show Sum74.v x=Value.iface 112 (vA #[])from by rw [a];rfl)) rfl) ?_
   refine rz rfl<|Ai true rfl (fun _=> ?_) (fun h_=>nomatch h_)
   refine Aa<|rA rfl fun X=>ry [0] rfl<|An<|rn 1 rfl ?_
   refine rm 1 [2] rfl<|rL (Sl.shp hw_1) rfl<|kC b fun L b=>rX L rfl<|rz rfl ?_
   refine fg _ (Sub.pick [(VI X),(BQ f ((w_1[at'.toNat]!).1) ((w_1[at'.toNat]!).2)),(AK d w_0.1 w_0v.1 w_0v.2.1 w_0v.2.2.1 w_0v.2.2.2.1 w_0v.2.2.2.2.1 w_0v.2.2.2.2.2.1 w_0v.2.2.2.2.2.2.1 w_0v.2.2.2.2.2.2.2.1 w_0v.2.2.2.2.2.2.2.2.1 w_0v.2.2.2.2.2.2.2.2.2.1 w_0v.2.2.2.2.2.2.2.2.2.2.1 w_0v.2.2.2.2.2.2.2.2.2.2.2.1 w_0v.2.2.2.2.2.2.2.2.2.2.2.2.1 w_0v.2.2.2.2.2.2.2.2.2.2.2.2.2 w_0.2.2.2.2.2.2.2.2.2.2.2.2.2.2.2.1 w_0.2.2.2.2.2.2.2.2.2.2.2.2.2.2.2.2.1 w_0.2.2.2.2.2.2.2.2.2.2.2.2.2.2.2.2.2 w_1v),Sw_1] [2,3] rfl) ?_
   exact⟨((w_1.length:Int) - 1),w_1,b,Sw_1,hw_1,Aj rfl rfl⟩
  ·replace b:=Sum74.on_t140 a b
   refine r_W (vT #[vA #[vI 0,vI 0],vB false]) rfl (As ((rfl:_=Sum74.v x).trans (show Sum74.v x=Value.iface 140 (vA #[vI x33_0,vI x34_1,vI x35_2])from by rw [a];rfl)) rfl) ?_
   refine rz rfl<|c _ _ ?_
   refine Ai false rfl (fun h_=>nomatch h_) (fun _=> ?_)
   refine Aa<|r_W (vT #[vA #[vI 0,vI 0],vB false]) rfl (As ((rfl:_=Sum74.v x).trans (show Sum74.v x=Value.iface 140 (vA #[vI x33_0,vI x34_1,vI x35_2])from by rw [a];rfl)) rfl) ?_
   refine rz rfl<|Ai false rfl (fun h_=>nomatch h_) (fun _=> ?_)
   refine Aa<|r_W (vT #[vA #[],vB false]) rfl (As ((rfl:_=Sum74.v x).trans (show Sum74.v x=Value.iface 140 (vA #[vI x33_0,vI x34_1,vI x35_2])from by rw [a];rfl)) rfl) ?_
   refine rz rfl<|Ai false rfl (fun h_=>nomatch h_) (fun _=> ?_)
   refine Ac<|fg _ (Sub.pick [(BQ f ((w_1[at'.toNat]!).1) ((w_1[at'.toNat]!).2)),(AK d w_0.1 w_0v.1 w_0v.2.1 w_0v.2.2.1 w_0v.2.2.2.1 w_0v.2.2.2.2.1 w_0v.2.2.2.2.2.1 w_0v.2.2.2.2.2.2.1 w_0v.2.2.2.2.2.2.2.1 w_0v.2.2.2.2.2.2.2.2.1 w_0v.2.2.2.2.2.2.2.2.2.1 w_0v.2.2.2.2.2.2.2.2.2.2.1 w_0v.2.2.2.2.2.2.2.2.2.2.2.1 w_0v.2.2.2.2.2.2.2.2.2.2.2.2.1 w_0v.2.2.2.2.2.2.2.2.2.2.2.2.2 w_0.2.2.2.2.2.2.2.2.2.2.2.2.2.2.2.1 w_0.2.2.2.2.2.2.2.2.2.2.2.2.2.2.2.2.1 w_0.2.2.2.2.2.2.2.2.2.2.2.2.2.2.2.2.2 w_1v),Sw_1] [1,2] rfl) ?_
   exact⟨(at'+1),w_1,b,Sw_1,hw_1,Aj rfl rfl⟩
  ·replace b:=Sum74.on_t142 a b
   refine r_W (vT #[vA #[vI 0,vI 0],vB false]) rfl (As ((rfl:_=Sum74.v x).trans (show Sum74.v x=Value.iface 142 (vA #[vI x36_0,vI x37_1])from by rw [a];rfl)) rfl) ?_
   refine rz rfl<|c _ _ ?_
   refine Ai false rfl (fun h_=>nomatch h_) (fun _=> ?_)
   refine Aa<|r_W (vT #[vA #[vI 0,vI 0],vB false]) rfl (As ((rfl:_=Sum74.v x).trans (show Sum74.v x=Value.iface 142 (vA #[vI x36_0,vI x37_1])from by rw [a];rfl)) rfl) ?_
   refine rz rfl<|Ai false rfl (fun h_=>nomatch h_) (fun _=> ?_)
   refine Aa<|r_W (vT #[vA #[],vB false]) rfl (As ((rfl:_=Sum74.v x).trans (show Sum74.v x=Value.iface 142 (vA #[vI x36_0,vI x37_1])from by rw [a];rfl)) rfl) ?_
   refine rz rfl<|Ai false rfl (fun h_=>nomatch h_) (fun _=> ?_)
   refine Ac<|fg _ (Sub.pick [(BQ f ((w_1[at'.toNat]!).1) ((w_1[at'.toNat]!).2)),(AK d w_0.1 w_0v.1 w_0v.2.1 w_0v.2.2.1 w_0v.2.2.2.1 w_0v.2.2.2.2.1 w_0v.2.2.2.2.2.1 w_0v.2.2.2.2.2.2.1 w_0v.2.2.2.2.2.2.2.1 w_0v.2.2.2.2.2.2.2.2.1 w_0v.2.2.2.2.2.2.2.2.2.1 w_0v.2.2.2.2.2.2.2.2.2.2.1 w_0v.2.2.2.2.2.2.2.2.2.2.2.1 w_0v.2.2.2.2.2.2.2.2.2.2.2.2.1 w_0v.2.2.2.2.2.2.2.2.2.2.2.2.2 w_0.2.2.2.2.2.2.2.2.2.2.2.2.2.2.2.1 w_0.2.2.2.2.2.2.2.2.2.2.2.2.2.2.2.2.1 w_0.2.2.2.2.2.2.2.2.2.2.2.2.2.2.2.2.2 w_1v),Sw_1] [1,2] rfl) ?_
   exact⟨(at'+1),w_1,b,Sw_1,hw_1,Aj rfl rfl⟩
  ·replace b:=Sum74.on_t145 a b
   refine r_W (vT #[vA #[vI 0,vI 0],vB false]) rfl (As ((rfl:_=Sum74.v x).trans (show Sum74.v x=Value.iface 145 (vA #[vI x38_0,vI x39_1,vI x40_2])from by rw [a];rfl)) rfl) ?_
   refine rz rfl<|c _ _ ?_
   refine Ai false rfl (fun h_=>nomatch h_) (fun _=> ?_)
   refine Aa<|r_W (vT #[vA #[vI 0,vI 0],vB false]) rfl (As ((rfl:_=Sum74.v x).trans (show Sum74.v x=Value.iface 145 (vA #[vI x38_0,vI x39_1,vI x40_2])from by rw [a];rfl)) rfl) ?_
   refine rz rfl<|Ai false rfl (fun h_=>nomatch h_) (fun _=> ?_)
   refine Aa<|r_W (vT #[vA #[],vB false]) rfl (As ((rfl:_=Sum74.v x).trans (show Sum74.v x=Value.iface 145 (vA #[vI x38_0,vI x39_1,vI x40_2])from by rw [a];rfl)) rfl) ?_
   refine rz rfl<|Ai false rfl (fun h_=>nomatch h_) (fun _=> ?_)
   refine Ac<|fg _ (Sub.pick [(BQ f ((w_1[at'.toNat]!).1) ((w_1[at'.toNat]!).2)),(AK d w_0.1 w_0v.1 w_0v.2.1 w_0v.2.2.1 w_0v.2.2.2.1 w_0v.2.2.2.2.1 w_0v.2.2.2.2.2.1 w_0v.2.2.2.2.2.2.1 w_0v.2.2.2.2.2.2.2.1 w_0v.2.2.2.2.2.2.2.2.1 w_0v.2.2.2.2.2.2.2.2.2.1 w_0v.2.2.2.2.2.2.2.2.2.2.1 w_0v.2.2.2.2.2.2.2.2.2.2.2.1 w_0v.2.2.2.2.2.2.2.2.2.2.2.2.1 w_0v.2.2.2.2.2.2.2.2.2.2.2.2.2 w_0.2.2.2.2.2.2.2.2.2.2.2.2.2.2.2.1 w_0.2.2.2.2.2.2.2.2.2.2.2.2.2.2.2.2.1 w_0.2.2.2.2.2.2.2.2.2.2.2.2.2.2.2.2.2 w_1v),Sw_1] [1,2] rfl) ?_
   exact⟨(at'+1),w_1,b,Sw_1,hw_1,Aj rfl rfl⟩
  ·replace b:=Sum74.on_t209 a b
   refine r_W (vT #[vA #[vI 0,vI 0],vB false]) rfl (As ((rfl:_=Sum74.v x).trans (show Sum74.v x=Value.iface 209 (vA #[vI x41_0,U (hi x42_1),U (lo x42_1)])from by rw [a];rfl)) rfl) ?_
   refine rz rfl<|c _ _ ?_
   refine Ai false rfl (fun h_=>nomatch h_) (fun _=> ?_)
   refine Aa<|r_W (vT #[vA #[vI 0,vI 0],vB false]) rfl (As ((rfl:_=Sum74.v x).trans (show Sum74.v x=Value.iface 209 (vA #[vI x41_0,U (hi x42_1),U (lo x42_1)])from by rw [a];rfl)) rfl) ?_
   refine rz rfl<|Ai false rfl (fun h_=>nomatch h_) (fun _=> ?_)
   refine Aa<|r_W (vT #[vA #[],vB false]) rfl (As ((rfl:_=Sum74.v x).trans (show Sum74.v x=Value.iface 209 (vA #[vI x41_0,U (hi x42_1),U (lo x42_1)])from by rw [a];rfl)) rfl) ?_
   refine rz rfl<|Ai false rfl (fun h_=>nomatch h_) (fun _=> ?_)
   refine Ac<|fg _ (Sub.pick [(BQ f ((w_1[at'.toNat]!).1) ((w_1[at'.toNat]!).2)),(AK d w_0.1 w_0v.1 w_0v.2.1 w_0v.2.2.1 w_0v.2.2.2.1 w_0v.2.2.2.2.1 w_0v.2.2.2.2.2.1 w_0v.2.2.2.2.2.2.1 w_0v.2.2.2.2.2.2.2.1 w_0v.2.2.2.2.2.2.2.2.1 w_0v.2.2.2.2.2.2.2.2.2.1 w_0v.2.2.2.2.2.2.2.2.2.2.1 w_0v.2.2.2.2.2.2.2.2.2.2.2.1 w_0v.2.2.2.2.2.2.2.2.2.2.2.2.1 w_0v.2.2.2.2.2.2.2.2.2.2.2.2.2 w_0.2.2.2.2.2.2.2.2.2.2.2.2.2.2.2.1 w_0.2.2.2.2.2.2.2.2.2.2.2.2.2.2.2.2.1 w_0.2.2.2.2.2.2.2.2.2.2.2.2.2.2.2.2.2 w_1v),Sw_1] [1,2] rfl) ?_
   exact⟨(at'+1),w_1,b,Sw_1,hw_1,Aj rfl rfl⟩
  ·replace b:=Sum74.on_t210 a b
   refine r_W (vT #[vA #[vI 0,vI 0],vB false]) rfl (As ((rfl:_=Sum74.v x).trans (show Sum74.v x=Value.iface 210 (vA #[vI x43_0,vI x44_1])from by rw [a];rfl)) rfl) ?_
   refine rz rfl<|c _ _ ?_
   refine Ai false rfl (fun h_=>nomatch h_) (fun _=> ?_)
   refine Aa<|r_W (vT #[vA #[vI 0,vI 0],vB false]) rfl (As ((rfl:_=Sum74.v x).trans (show Sum74.v x=Value.iface 210 (vA #[vI x43_0,vI x44_1])from by rw [a];rfl)) rfl) ?_
   refine rz rfl<|Ai false rfl (fun h_=>nomatch h_) (fun _=> ?_)
   refine Aa<|r_W (vT #[vA #[],vB false]) rfl (As ((rfl:_=Sum74.v x).trans (show Sum74.v x=Value.iface 210 (vA #[vI x43_0,vI x44_1])from by rw [a];rfl)) rfl) ?_
   refine rz rfl<|Ai false rfl (fun h_=>nomatch h_) (fun _=> ?_)
   refine Ac<|fg _ (Sub.pick [(BQ f ((w_1[at'.toNat]!).1) ((w_1[at'.toNat]!).2)),(AK d w_0.1 w_0v.1 w_0v.2.1 w_0v.2.2.1 w_0v.2.2.2.1 w_0v.2.2.2.2.1 w_0v.2.2.2.2.2.1 w_0v.2.2.2.2.2.2.1 w_0v.2.2.2.2.2.2.2.1 w_0v.2.2.2.2.2.2.2.2.1 w_0v.2.2.2.2.2.2.2.2.2.1 w_0v.2.2.2.2.2.2.2.2.2.2.1 w_0v.2.2.2.2.2.2.2.2.2.2.2.1 w_0v.2.2.2.2.2.2.2.2.2.2.2.2.1 w_0v.2.2.2.2.2.2.2.2.2.2.2.2.2 w_0.2.2.2.2.2.2.2.2.2.2.2.2.2.2.2.1 w_0.2.2.2.2.2.2.2.2.2.2.2.2.2.2.2.2.1 w_0.2.2.2.2.2.2.2.2.2.2.2.2.2.2.2.2.2 w_1v),Sw_1] [1,2] rfl) ?_
   exact⟨(at'+1),w_1,b,Sw_1,hw_1,Aj rfl rfl⟩
  ·replace b:=Sum74.on_t211 a b
   refine r_W (vT #[vA #[vI 0,vI 0],vB false]) rfl (As ((rfl:_=Sum74.v x).trans (show Sum74.v x=Value.iface 211 (vA #[vI x45_0,vI x46_1])from by rw [a];rfl)) rfl) ?_
   refine rz rfl<|c _ _ ?_
   refine Ai false rfl (fun h_=>nomatch h_) (fun _=> ?_)
   refine Aa<|r_W (vT #[vA #[vI 0,vI 0],vB false]) rfl (As ((rfl:_=Sum74.v x).trans (show Sum74.v x=Value.iface 211 (vA #[vI x45_0,vI x46_1])from by rw [a];rfl)) rfl) ?_
   refine rz rfl<|Ai false rfl (fun h_=>nomatch h_) (fun _=> ?_)
   refine Aa<|r_W (vT #[vA #[],vB false]) rfl (As ((rfl:_=Sum74.v x).trans (show Sum74.v x=Value.iface 211 (vA #[vI x45_0,vI x46_1])from by rw [a];rfl)) rfl) ?_
   refine rz rfl<|Ai false rfl (fun h_=>nomatch h_) (fun _=> ?_)
   refine Ac<|fg _ (Sub.pick [(BQ f ((w_1[at'.toNat]!).1) ((w_1[at'.toNat]!).2)),(AK d w_0.1 w_0v.1 w_0v.2.1 w_0v.2.2.1 w_0v.2.2.2.1 w_0v.2.2.2.2.1 w_0v.2.2.2.2.2.1 w_0v.2.2.2.2.2.2.1 w_0v.2.2.2.2.2.2.2.1 w_0v.2.2.2.2.2.2.2.2.1 w_0v.2.2.2.2.2.2.2.2.2.1 w_0v.2.2.2.2.2.2.2.2.2.2.1 w_0v.2.2.2.2.2.2.2.2.2.2.2.1 w_0v.2.2.2.2.2.2.2.2.2.2.2.2.1 w_0v.2.2.2.2.2.2.2.2.2.2.2.2.2 w_0.2.2.2.2.2.2.2.2.2.2.2.2.2.2.2.1 w_0.2.2.2.2.2.2.2.2.2.2.2.2.2.2.2.2.1 w_0.2.2.2.2.2.2.2.2.2.2.2.2.2.2.2.2.2 w_1v),Sw_1] [1,2] rfl) ?_
   exact⟨(at'+1),w_1,b,Sw_1,hw_1,Aj rfl rfl⟩
  ·replace b:=Sum74.on_t213 a b
   refine r_W (vT #[vA #[vI 0,vI 0],vB false]) rfl (As ((rfl:_=Sum74.v x).trans (show Sum74.v x=Value.iface 213 (vA #[vI x47_0,vI x48_1])from by rw [a];rfl)) rfl) ?_
   refine rz rfl<|c _ _ ?_
   refine Ai false rfl (fun h_=>nomatch h_) (fun _=> ?_)
   refine Aa<|r_W (vT #[vA #[vI 0,vI 0],vB false]) rfl (As ((rfl:_=Sum74.v x).trans (show Sum74.v x=Value.iface 213 (vA #[vI x47_0,vI x48_1])from by rw [a];rfl)) rfl) ?_
   refine rz rfl<|Ai false rfl (fun h_=>nomatch h_) (fun _=> ?_)
   refine Aa<|r_W (vT #[vA #[],vB false]) rfl (As ((rfl:_=Sum74.v x).trans (show Sum74.v x=Value.iface 213 (vA #[vI x47_0,vI x48_1])from by rw [a];rfl)) rfl) ?_
   refine rz rfl<|Ai false rfl (fun h_=>nomatch h_) (fun _=> ?_)
   refine Ac<|fg _ (Sub.pick [(BQ f ((w_1[at'.toNat]!).1) ((w_1[at'.toNat]!).2)),(AK d w_0.1 w_0v.1 w_0v.2.1 w_0v.2.2.1 w_0v.2.2.2.1 w_0v.2.2.2.2.1 w_0v.2.2.2.2.2.1 w_0v.2.2.2.2.2.2.1 w_0v.2.2.2.2.2.2.2.1 w_0v.2.2.2.2.2.2.2.2.1 w_0v.2.2.2.2.2.2.2.2.2.1 w_0v.2.2.2.2.2.2.2.2.2.2.1 w_0v.2.2.2.2.2.2.2.2.2.2.2.1 w_0v.2.2.2.2.2.2.2.2.2.2.2.2.1 w_0v.2.2.2.2.2.2.2.2.2.2.2.2.2 w_0.2.2.2.2.2.2.2.2.2.2.2.2.2.2.2.1 w_0.2.2.2.2.2.2.2.2.2.2.2.2.2.2.2.2.1 w_0.2.2.2.2.2.2.2.2.2.2.2.2.2.2.2.2.2 w_1v),Sw_1] [1,2] rfl) ?_
   exact⟨(at'+1),w_1,b,Sw_1,hw_1,Aj rfl rfl⟩
  replace b:=Sum74.on_t215 a b
  refine r_W (vT #[vA #[vI 0,vI 0],vB false]) rfl (As ((rfl:_=Sum74.v x).trans (show Sum74.v x=Value.iface 215 (vA #[vI x49_0])from by rw [a];rfl)) rfl) ?_
  refine rz rfl<|c _ _ ?_
  refine Ai false rfl (fun h_=>nomatch h_) (fun _=> ?_)
  refine Aa<|r_W (vT #[vA #[vI 0,vI 0],vB false]) rfl (As ((rfl:_=Sum74.v x).trans (show Sum74.v x=Value.iface 215 (vA #[vI x49_0])from by rw [a];rfl)) rfl) ?_
  refine rz rfl<|Ai false rfl (fun h_=>nomatch h_) (fun _=> ?_)
  refine Aa<|r_W (vT #[vA #[],vB false]) rfl (As ((rfl:_=Sum74.v x).trans (show Sum74.v x=Value.iface 215 (vA #[vI x49_0])from by rw [a];rfl)) rfl) ?_
  refine rz rfl<|Ai false rfl (fun h_=>nomatch h_) (fun _=> ?_)
  refine Ac<|fg _ (Sub.pick [(BQ f ((w_1[at'.toNat]!).1) ((w_1[at'.toNat]!).2)),(AK d w_0.1 w_0v.1 w_0v.2.1 w_0v.2.2.1 w_0v.2.2.2.1 w_0v.2.2.2.2.1 w_0v.2.2.2.2.2.1 w_0v.2.2.2.2.2.2.1 w_0v.2.2.2.2.2.2.2.1 w_0v.2.2.2.2.2.2.2.2.1 w_0v.2.2.2.2.2.2.2.2.2.1 w_0v.2.2.2.2.2.2.2.2.2.2.1 w_0v.2.2.2.2.2.2.2.2.2.2.2.1 w_0v.2.2.2.2.2.2.2.2.2.2.2.2.1 w_0v.2.2.2.2.2.2.2.2.2.2.2.2.2 w_0.2.2.2.2.2.2.2.2.2.2.2.2.2.2.2.1 w_0.2.2.2.2.2.2.2.2.2.2.2.2.2.2.2.2.1 w_0.2.2.2.2.2.2.2.2.2.2.2.2.2.2.2.2.2 w_1v),Sw_1] [1,2] rfl) ?_
  exact⟨(at'+1),w_1,b,Sw_1,hw_1,Aj rfl rfl⟩
 clear b;rintro t l ⟨g,m,b,e,A,⟨T,rfl⟩,rfl⟩
 unfold AD at b
 refine Aa<|rm 3 [0] rfl<|kB b fun ad M b=>kC b fun aa b=>gM (Ls:=[(AK d w_0.1 w_0v.1 w_0v.2.1 w_0v.2.2.1 w_0v.2.2.2.1 w_0v.2.2.2.2.1 w_0v.2.2.2.2.2.1 w_0v.2.2.2.2.2.2.1 w_0v.2.2.2.2.2.2.2.1 w_0v.2.2.2.2.2.2.2.2.1 w_0v.2.2.2.2.2.2.2.2.2.1 w_0v.2.2.2.2.2.2.2.2.2.2.1 w_0v.2.2.2.2.2.2.2.2.2.2.2.1 w_0v.2.2.2.2.2.2.2.2.2.2.2.2.1 w_0v.2.2.2.2.2.2.2.2.2.2.2.2.2 w_0.2.2.2.2.2.2.2.2.2.2.2.2.2.2.2.1 w_0.2.2.2.2.2.2.2.2.2.2.2.2.2.2.2.2.1 w_0.2.2.2.2.2.2.2.2.2.2.2.2.2.2.2.2.2 w_1v),e]) (FL:=[e]) [1] (cF Nk) (fun o w hn_ z_=>Ct N w_0 m g i.1 _ M _ w_0v (Bun59R.mono (Ht (Ls:=[(AK d w_0.1 w_0v.1 w_0v.2.1 w_0v.2.2.1 w_0v.2.2.2.1 w_0v.2.2.2.2.1 w_0v.2.2.2.2.2.1 w_0v.2.2.2.2.2.2.1 w_0v.2.2.2.2.2.2.2.1 w_0v.2.2.2.2.2.2.2.2.1 w_0v.2.2.2.2.2.2.2.2.2.1 w_0v.2.2.2.2.2.2.2.2.2.2.1 w_0v.2.2.2.2.2.2.2.2.2.2.2.1 w_0v.2.2.2.2.2.2.2.2.2.2.2.2.1 w_0v.2.2.2.2.2.2.2.2.2.2.2.2.2 w_0.2.2.2.2.2.2.2.2.2.2.2.2.2.2.2.1 w_0.2.2.2.2.2.2.2.2.2.2.2.2.2.2.2.2.1 w_0.2.2.2.2.2.2.2.2.2.2.2.2.2.2.2.2.2 w_1v),e]) (is:=[1]) rfl z_) hw_0) w_1v e A) ?_
 rintro _ _ ⟨s,_,Y,⟨rfl,rfl⟩,rfl⟩
 refine BC (Ls:=[(AK d w_0.1 w_0v.1 w_0v.2.1 w_0v.2.2.1 w_0v.2.2.2.1 w_0v.2.2.2.2.1 w_0v.2.2.2.2.2.1 w_0v.2.2.2.2.2.2.1 w_0v.2.2.2.2.2.2.2.1 w_0v.2.2.2.2.2.2.2.2.1 w_0v.2.2.2.2.2.2.2.2.2.1 w_0v.2.2.2.2.2.2.2.2.2.2.1 w_0v.2.2.2.2.2.2.2.2.2.2.2.1 w_0v.2.2.2.2.2.2.2.2.2.2.2.2.1 w_0v.2.2.2.2.2.2.2.2.2.2.2.2.2 w_0.2.2.2.2.2.2.2.2.2.2.2.2.2.2.2.1 w_0.2.2.2.2.2.2.2.2.2.2.2.2.2.2.2.2.1 w_0.2.2.2.2.2.2.2.2.2.2.2.2.2.2.2.2.2 w_1v),s]) (Ls':=[(AK d w_0.1 w_0v.1 w_0v.2.1 w_0v.2.2.1 w_0v.2.2.2.1 w_0v.2.2.2.2.1 w_0v.2.2.2.2.2.1 w_0v.2.2.2.2.2.2.1 w_0v.2.2.2.2.2.2.2.1 w_0v.2.2.2.2.2.2.2.2.1 w_0v.2.2.2.2.2.2.2.2.2.1 w_0v.2.2.2.2.2.2.2.2.2.2.1 w_0v.2.2.2.2.2.2.2.2.2.2.2.1 w_0v.2.2.2.2.2.2.2.2.2.2.2.2.1 w_0v.2.2.2.2.2.2.2.2.2.2.2.2.2 w_0.2.2.2.2.2.2.2.2.2.2.2.2.2.2.2.1 w_0.2.2.2.2.2.2.2.2.2.2.2.2.2.2.2.2.1 w_0.2.2.2.2.2.2.2.2.2.2.2.2.2.2.2.2.2 w_1v),s]) [0,1] rfl rfl ?_
 refine Ah<|AZ rfl ?_
 cases b
 refine AO (fun Q=>Cw (v0:=vI 0) (O:=[s]) (BP rfl) (Sub.pick [(AK d w_0.1 w_0v.1 w_0v.2.1 w_0v.2.2.1 w_0v.2.2.2.1 w_0v.2.2.2.2.1 w_0v.2.2.2.2.2.1 w_0v.2.2.2.2.2.2.1 w_0v.2.2.2.2.2.2.2.1 w_0v.2.2.2.2.2.2.2.2.1 w_0v.2.2.2.2.2.2.2.2.2.1 w_0v.2.2.2.2.2.2.2.2.2.2.1 w_0v.2.2.2.2.2.2.2.2.2.2.2.1 w_0v.2.2.2.2.2.2.2.2.2.2.2.2.1 w_0v.2.2.2.2.2.2.2.2.2.2.2.2.2 w_0.2.2.2.2.2.2.2.2.2.2.2.2.2.2.2.1 w_0.2.2.2.2.2.2.2.2.2.2.2.2.2.2.2.2.1 w_0.2.2.2.2.2.2.2.2.2.2.2.2.2.2.2.2.2 w_1v),s] [1] rfl) ⟨s,_,Y,⟨rfl,rfl⟩,rfl⟩)
def Dt(N:Nat)(m:AF)(r4:(List Sum74)×Int×Int):Nat→Int→List (Bool×BitVec 64)→Option ((BitVec 64)×Int×Int)
  |0,_,_=>none
  |n24+1,x2_,s3_=>if x2_<r4.2.1 then ck (0≤x2_∧x2_<(r4.1.length:Int)) ((CF N m s3_ x2_ ((r4.1)[x2_.toNat]!)).bind fun r32=>ck ((r32.2).length=(s3_).length) (if(r32.1:Int)≠0 then some (0#64,x2_,r32.1)else ck (R64 (x2_+1)) ((Dt N m r4 n24) (x2_+1) r32.2)))else ck (0≤r4.2.1∧r4.2.1<(s3_.length:Int)) (some ((s3_[(r4.2.1).toNat]!).2,0,0))
def Gr(N:Nat)(m:AF)(l':List (Int×Int×Int×Int×BitVec 128))(s:BitVec 64):Option ((BitVec 64)×Int×Int):=(Ni N l').bind fun r4=>ck (R64 (r4.2.1+1)) (ck (0≤(r4.2.1+1)∧(r4.2.1+1)≤8796093022208) ((Bn N m (List.replicate ((r4.2.1+1)).toNat (false,0#64)) 0 s).bind fun r17=>ck ((r17).length=((List.replicate ((r4.2.1+1)).toNat (false,0#64))).length) (Dt N m r4 N 0 r17)))
def DZ(N:Nat)(m:AF)(l':List (Int×Int×Int×Int×BitVec 128))(s:BitVec 64):Option ((BitVec 64)×Int×Int):=(Gx N m).bind fun r44=>Sum62.on r44 ((CZ N).bind fun r50=>(EG N m r50 l').bind fun r55=>if(r55:Int)≠0 then some (0#64,0,1)else Gr N m l' s) (fun _ _ _=>some (0#64,0,1))
theorem Kf(N m l' s r)(a:DZ N m l' s=some r)(ro)(mv:AE)(hm:Bun59R ro mv m)(l'v)(hl':Rd Dz ro l'v l'):DoesI prog 16 #[vA (Ab m mv),l'v,U s] CR ro [] (pV (vT #[U r.1,vI r.2.1,vI r.2.2])):=by
 unfold DZ at a
 refine AC follows func16 rfl 61 rfl _ fz3 AG (fun ad=> ?_)
 refine Aa<|rA rfl fun g=>rz rfl<|BW (fun tt ll=>(Gr N m l' s  =some r)∧Is [(1,l'v),(2,U s),(3,vP g 0)] [(g,59,(Ab m mv))] tt ll) ?_ ?_
 ·refine Ae fun ap C=>Bt [(some 16,true),(some 20,false),(some 22,false)] (conG prog [(16,fun _ _ v_ L_ U_=> ∀f,Gx N m=some f→(pO (List.flatten []) (Sum62.onP f (oE Value.nilIface []) (fun y0_0 y0_1 y0_2=>(oB 96 #[vI y0_0,vI y0_1,vI y0_2] fun bs_0=>(oE (Value.iface 94 (vP bs_0 0)) []))))) v_ L_ U_),(20,fun _ _ v_ L_ U_=> ∀f,CZ N  =some f→(p1 (fun s_=>s_) 3 AX f) v_ L_ U_),(22,fun _ _ v_ L_ U_=> ∀f,CZ N  =some f→ ∀J,EG N m f l'=some J→(pV (vI J)) v_ L_ U_)]) [] (by decide+kernel) (fun hn=>AW) ?_
  refine rm 1 [0] rfl<|kB a fun ae D a=>UN (Ls:=[[(g,59,(Ab m mv))]]) (FL:=[]) [] _ (some 16) 18 _ rfl rfl rfl rfl rfl (cF ZO) (fun o w hn_ z_=>QA N m _ D _ mv (Bun59R.mono (Ht (Ls:=[[(g,59,(Ab m mv))]]) (is:=[]) rfl z_) hm)) (DA D) (fun _=>(NiceO.sub (R:=[]) (Sum62.niceP (PN rfl) (fun _ _ _=>(Ue fun _=>(PN rfl)))) (Sub.pick [] [] rfl))) ?_
  rintro _ _ hp_
  rcases Sum62.cases ae with h|⟨x47_0,x48_1,x49_2,h⟩
  ·obtain⟨rfl,rfl⟩:=Sum62.onP_nil h hp_
   replace a:=Sum62.on_nil h a
   refine BC (Ls:=[[(g,59,(Ab m mv))]]) (Ls':=[[(g,59,(Ab m mv))]]) [0] rfl rfl<|rn 2 rfl<|r_y rfl<|rm 1 [0] rfl<|r_y rfl<|kB a fun K q a=>bk (Ls:=[[(g,59,(Ab m mv))]]) (fun H=>H) 3 AX K 20 _ rfl rfl rfl (cF ZN) (fun o w z_=>(Does.inv (Mr N  _ q z_.view) _)) (DA q) (fun H L af=> ?_)
   refine rn 1 rfl<|r_y rfl<|kB a fun aq u a=>rg _ (cF RB) (fun o w z_=>JO N m K l' _ u z_.view mv (Bun59R.mono z_.ro_cell hm) H ((Ar af (Af (Ls:=[[(g,59,(Ab m mv))],L]) (k:=1) rfl rfl)) o w z_) l'v ((AA hl') o w z_)) (fun _ _ v_ L_ U_=>⟨fun h_=>h_ _ q _ u,fun h_=>by intro _ e_;cases Option.some.inj (e_.symm.trans q);intro _ e_;cases Option.some.inj (e_.symm.trans u);exact h_⟩) ?_
   refine rz rfl<|C _ _ ?_
   refine aN a rfl (fun M a=> ?_) (fun M a=> ?_)
   ·refine AZ rfl ?_
    cases a
    exact aR eV3
   refine Ac<|fg _ (Sub.pick [[(g,59,(Ab m mv))],L] [0] rfl) ?_
   exact⟨a,Aj rfl rfl⟩
  obtain⟨O,_,⟨rfl,rfl⟩,rfl⟩:=Sum62.onP_t94 h hp_
  replace a:=Sum62.on_t94 h a
  refine BC (Ls:=[[(g,59,(Ab m mv))],(Uh O x47_0 x48_1 x49_2)]) (Ls':=[[(g,59,(Ab m mv))],(Uh O x47_0 x48_1 x49_2)]) [0,1] rfl rfl<|rz rfl<|C _ _ ?_
  refine Ai true rfl (fun _=> ?_) (fun h_=>nomatch h_)
  refine AZ rfl ?_
  cases a
  exact aR eV3
 clear a;rintro t l ⟨a,⟨T,rfl⟩,rfl⟩
 unfold Gr at a
 refine Aa<|rn 1 rfl<|kB a fun E ag a=>gS (Ls:=[[(g,59,(Ab m mv))]]) (cF Uw) (fun o w z_=>(Does.inv (Us N l' _ ag z_.view l'v ((AA hl') o w z_)) _)) (fun s6 n H8=> ?_)
 refine rz rfl<|Ae fun K9 ah=>Bt [(some 34,false)] (conG prog [(34,fun _ _ v_ L_ U_=>(p1 (fun v=>v) 76 Gs (List.replicate ((E.2.1+1)).toNat (false,0#64))) v_ L_ U_)]) [] (by decide+kernel) (fun hn=>AW)<|rm 2 [0] rfl<|kC a fun P a=>rX P rfl<|kC a fun Q a=>LX (Ls:=[[(g,59,(Ab m mv))],n]) 76 Gs (false,0#64) (E.2.1+1) rfl rfl rfl rfl rfl rfl rfl rfl rfl rfl 8796093022208 rfl Q (fun _ _ _ _ _=>Iff.rfl) (fun b x I=> ?_)
 refine r_W (vA #[vS m.1,mv.1,mv.2.1,mv.2.2.1,mv.2.2.2.1,mv.2.2.2.2.1,mv.2.2.2.2.2.1,mv.2.2.2.2.2.2.1,mv.2.2.2.2.2.2.2.1,mv.2.2.2.2.2.2.2.2.1,mv.2.2.2.2.2.2.2.2.2.1,mv.2.2.2.2.2.2.2.2.2.2.1,mv.2.2.2.2.2.2.2.2.2.2.2.1,mv.2.2.2.2.2.2.2.2.2.2.2.2.1,mv.2.2.2.2.2.2.2.2.2.2.2.2.2,vI m.2.2.2.2.2.2.2.2.2.2.2.2.2.2.2.1,vI m.2.2.2.2.2.2.2.2.2.2.2.2.2.2.2.2.1,vI m.2.2.2.2.2.2.2.2.2.2.2.2.2.2.2.2.2,b]) rfl (Ji rfl rfl rfl (DC (c:=(Ab m mv)) rfl (DC (BZ rfl (Sl.shp I)) KZ)) (by kernel_rfl))<|rA rfl fun e=>Yd (List.flatten [(AK e m.1 mv.1 mv.2.1 mv.2.2.1 mv.2.2.2.1 mv.2.2.2.2.1 mv.2.2.2.2.2.1 mv.2.2.2.2.2.2.1 mv.2.2.2.2.2.2.2.1 mv.2.2.2.2.2.2.2.2.1 mv.2.2.2.2.2.2.2.2.2.1 mv.2.2.2.2.2.2.2.2.2.2.1 mv.2.2.2.2.2.2.2.2.2.2.2.1 mv.2.2.2.2.2.2.2.2.2.2.2.2.1 mv.2.2.2.2.2.2.2.2.2.2.2.2.2 m.2.2.2.2.2.2.2.2.2.2.2.2.2.2.2.1 m.2.2.2.2.2.2.2.2.2.2.2.2.2.2.2.2.1 m.2.2.2.2.2.2.2.2.2.2.2.2.2.2.2.2.2 b),[(g,59,(Ab m mv))],n,x]) 0 _ _ _ (#[Value.string (⟨#[]⟩),nS,nS,nS,nS,nS,nS,nS,nS,nS,nS,nS,nS,nS,nS,vI 0,vI 0,vI 0,nS]) (#[vS m.1,mv.1,mv.2.1,mv.2.2.1,mv.2.2.2.1,mv.2.2.2.2.1,mv.2.2.2.2.2.1,mv.2.2.2.2.2.2.1,mv.2.2.2.2.2.2.2.1,mv.2.2.2.2.2.2.2.2.1,mv.2.2.2.2.2.2.2.2.2.1,mv.2.2.2.2.2.2.2.2.2.2.1,mv.2.2.2.2.2.2.2.2.2.2.2.1,mv.2.2.2.2.2.2.2.2.2.2.2.2.1,mv.2.2.2.2.2.2.2.2.2.2.2.2.2,vI m.2.2.2.2.2.2.2.2.2.2.2.2.2.2.2.1,vI m.2.2.2.2.2.2.2.2.2.2.2.2.2.2.2.2.1,vI m.2.2.2.2.2.2.2.2.2.2.2.2.2.2.2.2.2,b]) (#[vS m.1,mv.1,mv.2.1,mv.2.2.1,mv.2.2.2.1,mv.2.2.2.2.1,mv.2.2.2.2.2.1,mv.2.2.2.2.2.2.1,mv.2.2.2.2.2.2.2.1,mv.2.2.2.2.2.2.2.2.1,mv.2.2.2.2.2.2.2.2.2.1,mv.2.2.2.2.2.2.2.2.2.2.1,mv.2.2.2.2.2.2.2.2.2.2.2.1,mv.2.2.2.2.2.2.2.2.2.2.2.2.1,mv.2.2.2.2.2.2.2.2.2.2.2.2.2,vI m.2.2.2.2.2.2.2.2.2.2.2.2.2.2.2.1,vI m.2.2.2.2.2.2.2.2.2.2.2.2.2.2.2.2.1,vI m.2.2.2.2.2.2.2.2.2.2.2.2.2.2.2.2.2,b]) rfl rfl rfl rfl rfl (.ofS rfl rfl (Ad rfl (Ad (Shp.one (RdN.shp hm.1)) (Ad (Shp.one (Rd.shp hm.2.1)) (Ad (Shp.one (Rd.shp hm.2.2.1)) (Ad (Shp.one (RdN.shp hm.2.2.2.1)) (Ad (Shp.one (RdN.shp hm.2.2.2.2.1)) (Ad (Shp.one (RdN.shp hm.2.2.2.2.2.1)) (Ad (Shp.one (RdN.shp hm.2.2.2.2.2.2.1)) (Ad (Shp.one (RdN.shp hm.2.2.2.2.2.2.2.1)) (Ad (Shp.one (Rd.shp hm.2.2.2.2.2.2.2.2.1)) (Ad (Shp.one (Rd.shp hm.2.2.2.2.2.2.2.2.2.1)) (Ad (Shp.one (Rd.shp hm.2.2.2.2.2.2.2.2.2.2.1)) (Ad (Shp.one (Rd.shp hm.2.2.2.2.2.2.2.2.2.2.2.1)) (Ad (Shp.one (Rd.shp hm.2.2.2.2.2.2.2.2.2.2.2.2.1)) (Ad (Shp.one (Rd.shp hm.2.2.2.2.2.2.2.2.2.2.2.2.2)) (Ad rfl (Ad rfl (Ad rfl (Ad (Shp.one (Sl.shp I)) Bf)))))))))))))))))))) rfl rfl ?_
 refine Ah<|ah _ _ ?_
 refine Aa<|rm 2 [0] rfl<|kB a fun ai S a=>kC a fun ao a=>gM (Ls:=[(AK e m.1 mv.1 mv.2.1 mv.2.2.1 mv.2.2.2.1 mv.2.2.2.2.1 mv.2.2.2.2.2.1 mv.2.2.2.2.2.2.1 mv.2.2.2.2.2.2.2.1 mv.2.2.2.2.2.2.2.2.1 mv.2.2.2.2.2.2.2.2.2.1 mv.2.2.2.2.2.2.2.2.2.2.1 mv.2.2.2.2.2.2.2.2.2.2.2.1 mv.2.2.2.2.2.2.2.2.2.2.2.2.1 mv.2.2.2.2.2.2.2.2.2.2.2.2.2 m.2.2.2.2.2.2.2.2.2.2.2.2.2.2.2.1 m.2.2.2.2.2.2.2.2.2.2.2.2.2.2.2.2.1 m.2.2.2.2.2.2.2.2.2.2.2.2.2.2.2.2.2 b),[(g,59,(Ab m mv))],n,x]) (FL:=[x]) [3] (cF Nk) (fun o w hn_ z_=>(Does.inv (Ct N m (List.replicate ((E.2.1+1)).toNat (false,0#64)) 0 s _ S _ mv (Bun59R.mono (Ht (Ls:=[(AK e m.1 mv.1 mv.2.1 mv.2.2.1 mv.2.2.2.1 mv.2.2.2.2.1 mv.2.2.2.2.2.1 mv.2.2.2.2.2.2.1 mv.2.2.2.2.2.2.2.1 mv.2.2.2.2.2.2.2.2.1 mv.2.2.2.2.2.2.2.2.2.1 mv.2.2.2.2.2.2.2.2.2.2.1 mv.2.2.2.2.2.2.2.2.2.2.2.1 mv.2.2.2.2.2.2.2.2.2.2.2.2.1 mv.2.2.2.2.2.2.2.2.2.2.2.2.2 m.2.2.2.2.2.2.2.2.2.2.2.2.2.2.2.1 m.2.2.2.2.2.2.2.2.2.2.2.2.2.2.2.2.1 m.2.2.2.2.2.2.2.2.2.2.2.2.2.2.2.2.2 b),[(g,59,(Ab m mv))],n,x]) (is:=[3]) rfl z_) hm) b x I) _)) ?_
 rintro _ _ ⟨A,_,aj,⟨rfl,rfl⟩,rfl⟩
 refine BC (Ls:=[(AK e m.1 mv.1 mv.2.1 mv.2.2.1 mv.2.2.2.1 mv.2.2.2.2.1 mv.2.2.2.2.2.1 mv.2.2.2.2.2.2.1 mv.2.2.2.2.2.2.2.1 mv.2.2.2.2.2.2.2.2.1 mv.2.2.2.2.2.2.2.2.2.1 mv.2.2.2.2.2.2.2.2.2.2.1 mv.2.2.2.2.2.2.2.2.2.2.2.1 mv.2.2.2.2.2.2.2.2.2.2.2.2.1 mv.2.2.2.2.2.2.2.2.2.2.2.2.2 m.2.2.2.2.2.2.2.2.2.2.2.2.2.2.2.1 m.2.2.2.2.2.2.2.2.2.2.2.2.2.2.2.2.1 m.2.2.2.2.2.2.2.2.2.2.2.2.2.2.2.2.2 b),[(g,59,(Ab m mv))],n,A]) (Ls':=[(AK e m.1 mv.1 mv.2.1 mv.2.2.1 mv.2.2.2.1 mv.2.2.2.2.1 mv.2.2.2.2.2.1 mv.2.2.2.2.2.2.1 mv.2.2.2.2.2.2.2.1 mv.2.2.2.2.2.2.2.2.1 mv.2.2.2.2.2.2.2.2.2.1 mv.2.2.2.2.2.2.2.2.2.2.1 mv.2.2.2.2.2.2.2.2.2.2.2.1 mv.2.2.2.2.2.2.2.2.2.2.2.2.1 mv.2.2.2.2.2.2.2.2.2.2.2.2.2 m.2.2.2.2.2.2.2.2.2.2.2.2.2.2.2.1 m.2.2.2.2.2.2.2.2.2.2.2.2.2.2.2.2.1 m.2.2.2.2.2.2.2.2.2.2.2.2.2.2.2.2.2 b),[(g,59,(Ab m mv))],n,A]) [0,1,2,3] rfl rfl ?_
 refine Ah<|Ae fun au V=>AZ rfl<|Am<|BH _ (Sub.pick [(AK e m.1 mv.1 mv.2.1 mv.2.2.1 mv.2.2.2.1 mv.2.2.2.2.1 mv.2.2.2.2.2.1 mv.2.2.2.2.2.2.1 mv.2.2.2.2.2.2.2.1 mv.2.2.2.2.2.2.2.2.1 mv.2.2.2.2.2.2.2.2.2.1 mv.2.2.2.2.2.2.2.2.2.2.1 mv.2.2.2.2.2.2.2.2.2.2.2.1 mv.2.2.2.2.2.2.2.2.2.2.2.2.1 mv.2.2.2.2.2.2.2.2.2.2.2.2.2 m.2.2.2.2.2.2.2.2.2.2.2.2.2.2.2.1 m.2.2.2.2.2.2.2.2.2.2.2.2.2.2.2.2.1 m.2.2.2.2.2.2.2.2.2.2.2.2.2.2.2.2.2 b),[(g,59,(Ab m mv))],n,A] [0,2,3] rfl) ?_
 refine AS (fun tt ll nn=> ∃(p:Nat) (i:Int) (y:List (Bool×BitVec 64)),(Dt N m E p i y=some r)∧ ∃(d:List Bl),Sl 76 Gs b y d∧Is [(9,s6),(10,vI E.2.1),(12,vP e 0),(39,vI E.2.1),(40,vI i)] (List.flatten [(AK e m.1 mv.1 mv.2.1 mv.2.2.1 mv.2.2.2.1 mv.2.2.2.2.1 mv.2.2.2.2.2.1 mv.2.2.2.2.2.2.1 mv.2.2.2.2.2.2.2.1 mv.2.2.2.2.2.2.2.2.1 mv.2.2.2.2.2.2.2.2.2.1 mv.2.2.2.2.2.2.2.2.2.2.1 mv.2.2.2.2.2.2.2.2.2.2.2.1 mv.2.2.2.2.2.2.2.2.2.2.2.2.1 mv.2.2.2.2.2.2.2.2.2.2.2.2.2 m.2.2.2.2.2.2.2.2.2.2.2.2.2.2.2.1 m.2.2.2.2.2.2.2.2.2.2.2.2.2.2.2.2.1 m.2.2.2.2.2.2.2.2.2.2.2.2.2.2.2.2.2 b),n,d]) tt ll∧nn=p+1) (N+1) ?_ ?_
 ·exact⟨N,0,ai,a,A,aj,Aj rfl rfl,rfl⟩
 clear a;rintro t l _ ⟨p,i,y,a,d,j,⟨⟨T,rfl⟩,rfl⟩,rfl⟩
 rcases p with _|p
 ·exact absurd a (by simp [Dt])
 rw [Dt] at a
 refine AZ rfl<|Ae fun av W=>aD a rfl (fun X a=> ?_) (fun X a=> ?_)
 ·refine Ac<|W _ _ ?_
  refine Ae fun aw Y=>Am<|AZ rfl<|Ae fun ax Z=>Bt [(some 49,true)] (conG prog [(49,fun _ _ v_ L_ U_=> ∀f,CF N m y i ((E.1)[i.toNat]!)=some f→(pO (List.flatten [d]) (oI 76 Gs b f.2 (oE (vI f.1) []))) v_ L_ U_)]) [] (by decide+kernel) (fun hn=>AW) ?_
  refine rm 4 [0] rfl<|kC a fun F a=>rI (Sl.shp H8) F rfl<|rE (Ar H8 (Af (Ls:=[(AK e m.1 mv.1 mv.2.1 mv.2.2.1 mv.2.2.2.1 mv.2.2.2.2.1 mv.2.2.2.2.2.1 mv.2.2.2.2.2.2.1 mv.2.2.2.2.2.2.2.1 mv.2.2.2.2.2.2.2.2.1 mv.2.2.2.2.2.2.2.2.2.1 mv.2.2.2.2.2.2.2.2.2.2.1 mv.2.2.2.2.2.2.2.2.2.2.2.1 mv.2.2.2.2.2.2.2.2.2.2.2.2.1 mv.2.2.2.2.2.2.2.2.2.2.2.2.2 m.2.2.2.2.2.2.2.2.2.2.2.2.2.2.2.1 m.2.2.2.2.2.2.2.2.2.2.2.2.2.2.2.2.1 m.2.2.2.2.2.2.2.2.2.2.2.2.2.2.2.2.2 b),n,d]) (k:=1) rfl rfl)) F 0 rfl<|kB a fun ak G a=>kC a fun aa a=>UN (Ls:=[(AK e m.1 mv.1 mv.2.1 mv.2.2.1 mv.2.2.2.1 mv.2.2.2.2.1 mv.2.2.2.2.2.1 mv.2.2.2.2.2.2.1 mv.2.2.2.2.2.2.2.1 mv.2.2.2.2.2.2.2.2.1 mv.2.2.2.2.2.2.2.2.2.1 mv.2.2.2.2.2.2.2.2.2.2.1 mv.2.2.2.2.2.2.2.2.2.2.2.1 mv.2.2.2.2.2.2.2.2.2.2.2.2.1 mv.2.2.2.2.2.2.2.2.2.2.2.2.2 m.2.2.2.2.2.2.2.2.2.2.2.2.2.2.2.1 m.2.2.2.2.2.2.2.2.2.2.2.2.2.2.2.2.1 m.2.2.2.2.2.2.2.2.2.2.2.2.2.2.2.2.2 b),n,d]) (FL:=[d]) [2] _ (some 49) 23 _ rfl rfl rfl rfl rfl (cF ZM) (fun o w hn_ z_=>(Does.inv (Jw N m y i ((E.1)[i.toNat]!) _ G _ mv (Bun59R.mono (Ht (Ls:=[(AK e m.1 mv.1 mv.2.1 mv.2.2.1 mv.2.2.2.1 mv.2.2.2.2.1 mv.2.2.2.2.2.1 mv.2.2.2.2.2.2.1 mv.2.2.2.2.2.2.2.1 mv.2.2.2.2.2.2.2.2.1 mv.2.2.2.2.2.2.2.2.2.1 mv.2.2.2.2.2.2.2.2.2.2.1 mv.2.2.2.2.2.2.2.2.2.2.2.1 mv.2.2.2.2.2.2.2.2.2.2.2.2.1 mv.2.2.2.2.2.2.2.2.2.2.2.2.2 m.2.2.2.2.2.2.2.2.2.2.2.2.2.2.2.1 m.2.2.2.2.2.2.2.2.2.2.2.2.2.2.2.2.1 m.2.2.2.2.2.2.2.2.2.2.2.2.2.2.2.2.2 b),n,d]) (is:=[2]) rfl z_) hm) b d j) _)) (DA G) (fun _=>(NiceO.sub (R:=(d++ [])) (ZZ j aa (PN rfl)) (Sub.pick [d] [0] rfl))) ?_
  rintro _ _ ⟨B,_,al,⟨rfl,rfl⟩,rfl⟩
  refine BC (Ls:=[(AK e m.1 mv.1 mv.2.1 mv.2.2.1 mv.2.2.2.1 mv.2.2.2.2.1 mv.2.2.2.2.2.1 mv.2.2.2.2.2.2.1 mv.2.2.2.2.2.2.2.1 mv.2.2.2.2.2.2.2.2.1 mv.2.2.2.2.2.2.2.2.2.1 mv.2.2.2.2.2.2.2.2.2.2.1 mv.2.2.2.2.2.2.2.2.2.2.2.1 mv.2.2.2.2.2.2.2.2.2.2.2.2.1 mv.2.2.2.2.2.2.2.2.2.2.2.2.2 m.2.2.2.2.2.2.2.2.2.2.2.2.2.2.2.1 m.2.2.2.2.2.2.2.2.2.2.2.2.2.2.2.2.1 m.2.2.2.2.2.2.2.2.2.2.2.2.2.2.2.2.2 b),n,B]) (Ls':=[(AK e m.1 mv.1 mv.2.1 mv.2.2.1 mv.2.2.2.1 mv.2.2.2.2.1 mv.2.2.2.2.2.1 mv.2.2.2.2.2.2.1 mv.2.2.2.2.2.2.2.1 mv.2.2.2.2.2.2.2.2.1 mv.2.2.2.2.2.2.2.2.2.1 mv.2.2.2.2.2.2.2.2.2.2.1 mv.2.2.2.2.2.2.2.2.2.2.2.1 mv.2.2.2.2.2.2.2.2.2.2.2.2.1 mv.2.2.2.2.2.2.2.2.2.2.2.2.2 m.2.2.2.2.2.2.2.2.2.2.2.2.2.2.2.1 m.2.2.2.2.2.2.2.2.2.2.2.2.2.2.2.2.1 m.2.2.2.2.2.2.2.2.2.2.2.2.2.2.2.2.2 b),n,B]) [0,1,2] rfl rfl ?_
  refine rz rfl<|Z _ _ ?_
  refine AZ rfl<|aN a rfl (fun ab a=> ?_) (fun ab a=> ?_)
  ·refine AZ rfl ?_
   cases a
   exact aR eV3
  refine Ac<|Y _ _ ?_
  refine An<|kC a fun ac a=>rX ac rfl<|rz rfl<|fg _ (Sub.pick [(AK e m.1 mv.1 mv.2.1 mv.2.2.1 mv.2.2.2.1 mv.2.2.2.2.1 mv.2.2.2.2.2.1 mv.2.2.2.2.2.2.1 mv.2.2.2.2.2.2.2.1 mv.2.2.2.2.2.2.2.2.1 mv.2.2.2.2.2.2.2.2.2.1 mv.2.2.2.2.2.2.2.2.2.2.1 mv.2.2.2.2.2.2.2.2.2.2.2.1 mv.2.2.2.2.2.2.2.2.2.2.2.2.1 mv.2.2.2.2.2.2.2.2.2.2.2.2.2 m.2.2.2.2.2.2.2.2.2.2.2.2.2.2.2.1 m.2.2.2.2.2.2.2.2.2.2.2.2.2.2.2.2.1 m.2.2.2.2.2.2.2.2.2.2.2.2.2.2.2.2.2 b),n,B] [0,1,2] rfl) ?_
  exact⟨p+1,by omega,p,(i+1),ak.2,a,B,al,Aj rfl rfl,rfl⟩
 refine AT<|V _ _ ?_
 refine Aa<|rm 3 [0] rfl<|kC a fun z a=>rI (Sl.shp j) z rfl<|rF (Sl.shp j) (Di z) rfl ?_
 refine rE (Ar j (Af (Ls:=[(AK e m.1 mv.1 mv.2.1 mv.2.2.1 mv.2.2.2.1 mv.2.2.2.2.1 mv.2.2.2.2.2.1 mv.2.2.2.2.2.2.1 mv.2.2.2.2.2.2.2.1 mv.2.2.2.2.2.2.2.2.1 mv.2.2.2.2.2.2.2.2.2.1 mv.2.2.2.2.2.2.2.2.2.2.1 mv.2.2.2.2.2.2.2.2.2.2.2.1 mv.2.2.2.2.2.2.2.2.2.2.2.2.1 mv.2.2.2.2.2.2.2.2.2.2.2.2.2 m.2.2.2.2.2.2.2.2.2.2.2.2.2.2.2.1 m.2.2.2.2.2.2.2.2.2.2.2.2.2.2.2.2.1 m.2.2.2.2.2.2.2.2.2.2.2.2.2.2.2.2.2 b),n,d]) (k:=2) rfl rfl)) z 1 rfl<|rz rfl ?_
 cases a
 exact aR eV3
theorem Qc {c:Addr→Option Value}{x}{vs:List Value}(h:(HA).V c x vs):(EE).R c x vs:=by obtain⟨_,_,rfl,⟨_,_,⟨a,rfl,b⟩,⟨_,_,rfl,⟨_,_,rfl,⟨_,_,rfl,rfl,rfl⟩,rfl⟩,rfl⟩,rfl⟩,rfl⟩:=h;exact⟨a,b,rfl⟩
theorem Qb {c:Addr→Option Value}{x}{vs:List Value}(h:(Hz).V c x vs):(Fj).R c x vs:=by obtain⟨_,_,rfl,⟨_,_,⟨a,rfl,b⟩,⟨_,_,⟨d,rfl,e⟩,⟨_,_,⟨f,rfl,g⟩,rfl,rfl⟩,rfl⟩,rfl⟩,rfl⟩:=h;exact⟨a,d,f,b,e,g,rfl⟩
theorem Ot {c:Addr→Option Value}{x}{vs:List Value}(h:(Ov).V c x vs):(Dv).R c x vs:=by obtain⟨_,_,rfl,⟨_,_,⟨a,rfl,b⟩,⟨d,rfl,e⟩,rfl⟩,rfl⟩:=h;exact⟨a,d,b,e,rfl⟩
theorem Oq {c:Addr→Option Value}{x}{vs:List Value}(h:(Ou).V c x vs):(Ea).R c x vs:=by obtain⟨_,_,rfl,⟨_,_,rfl,⟨_,_,⟨a,rfl,b⟩,⟨_,_,⟨d,rfl,e⟩,⟨_,_,rfl,⟨_,_,⟨f,rfl,g⟩,rfl,rfl⟩,rfl⟩,rfl⟩,rfl⟩,rfl⟩,rfl⟩:=h;exact⟨a,d,f,b,e,g,rfl⟩
theorem Jj {c:Addr→Option Value}{x}{vs:List Value}(h:(Ki).V c x vs):(CM).R c x vs:=by obtain⟨_,_,rfl,⟨_,_,rfl,⟨_,_,⟨a,rfl,b⟩,⟨_,_,⟨d,rfl,e⟩,⟨_,_,rfl,rfl,rfl⟩,rfl⟩,rfl⟩,rfl⟩,rfl⟩:=h;exact⟨a,d,b,e,rfl⟩
def CD(N:Nat)(b103:Bool):Option Bool:=if b103=true then(BR N (5#64) 2).bind fun r105=>some r105 else some false
def CE(N:Nat)(r99:(BitVec 64)×Int×Int)(b102:Bool):Option Bool:=if b102=true then CD N (r99.2.2==11)else CD N false
def CJ(N:Nat):Option Bool:=(BD N).bind fun r7=>(DZ N r7 ([(33,0,3,0,(0#64)++(0#64)),(1,0,0,0,(0#64)++(0#64)),(23,1,0,0,(0#64)++(0#64))]) (0#64)).bind fun r51=>(BD N).bind fun r54=>ck (0≤(1:Int)∧(1:Int)≤(([(33,0,3,0,(0#64)++(0#64)),(1,0,0,0,(0#64)++(0#64)),(23,1,0,0,(0#64)++(0#64))]).length:Int)) ((DZ N r54 ((([(33,0,3,0,(0#64)++(0#64)),(1,0,0,0,(0#64)++(0#64)),(23,1,0,0,(0#64)++(0#64))]).take (([(33,0,3,0,(0#64)++(0#64)),(1,0,0,0,(0#64)++(0#64)),(23,1,0,0,(0#64)++(0#64))]).length)).drop (((1:Int)).toNat)) (0#64)).bind fun r99=>if r51.2.2=0 then CE N r99 (r99.2.1==0)else CE N r99 false)
theorem JA(N r)(t:CJ N=some r)(ro:Ro):DoesI prog 14 #[] CR ro [] (pV (vB r)):=by
 unfold CJ at t
 refine AC follows func14 rfl 40 rfl _ fz0 AG (fun ac=> ?_)
 refine AZ rfl<|Aa<|r_W (vA #[vI 33,vI 0,vI 3,vI 0,U (0#64),U (0#64)]) rfl (Aq rfl rfl rfl rfl)<|r_W (vA #[vI 1,vI 0,vI 0,vI 0,U (0#64),U (0#64)]) rfl (Aq rfl rfl rfl rfl)<|r_W (vA #[vI 23,vI 1,vI 0,vI 0,U (0#64),U (0#64)]) rfl (Aq rfl rfl rfl rfl)<|cD 11 ?_
 refine FY (cs0:=[]) (Ls:=[]) 42 Dz [(33,0,3,0,(0#64)++(0#64)),(1,0,0,0,(0#64)++(0#64)),(23,1,0,0,(0#64)++(0#64))] [vI 33,vI 0,vI 3,vI 0,U (0#64),U (0#64),vI 1,vI 0,vI 0,vI 0,U (0#64),U (0#64),vI 23,vI 1,vI 0,vI 0,U (0#64),U (0#64)] [vI 0,vI 0,vI 0,vI 0,U (0#64),U (0#64),vI 0,vI 0,vI 0,vI 0,U (0#64),U (0#64),vI 0,vI 0,vI 0,vI 0,U (0#64),U (0#64)] rfl rfl rfl rfl rfl rfl rfl (by kernel_rfl) (by kernel_rfl) (show [vI 33,vI 0,vI 3,vI 0,U (0#64),U (0#64),vI 1,vI 0,vI 0,vI 0,U (0#64),U (0#64),vI 23,vI 1,vI 0,vI 0,U (0#64),U (0#64)]=[vI 33,vI 0,vI 3,vI 0,U (hi ((0#64)++(0#64))),U (lo ((0#64)++(0#64))),vI 1,vI 0,vI 0,vI 0,U (hi ((0#64)++(0#64))),U (lo ((0#64)++(0#64))),vI 23,vI 1,vI 0,vI 0,U (hi ((0#64)++(0#64))),U (lo ((0#64)++(0#64)))] by simp only [CC]) rfl rfl (fun s3 s H5=> ?_)
 refine rz rfl<|Aa<|kB t fun r7 af t=>gM (Ls:=[s]) (FL:=[]) [] (cF Ux) (fun o w hn_ z_=>(Does.inv (Fo N  _ af _) _)) ?_
 rintro _ _ ⟨ag,a,_,ah,⟨ai,b,_,aj,⟨ak,c,_,al,⟨am,d,_,an,⟨ao,e,_,ap,⟨aq,f,_,ar,⟨au,g,_,av,⟨aw,h,_,ax,⟨ay,i,_,az,⟨ba,j,_,bb,⟨bc,l,_,bd,⟨be,m,_,bf,⟨bg,n,_,bh,⟨s9,p,_,bi,⟨rfl,rfl⟩,rfl⟩,rfl⟩,rfl⟩,rfl⟩,rfl⟩,rfl⟩,rfl⟩,rfl⟩,rfl⟩,rfl⟩,rfl⟩,rfl⟩,rfl⟩,rfl⟩
 refine BC (Ls:=[s,a,b,c,d,e,f,g,h,i,j,l,m,n,p]) (Ls':=[s,a,b,c,d,e,f,g,h,i,j,l,m,n,p]) [0,1,2,3,4,5,6,7,8,9,10,11,12,13,14] rfl rfl<|rn 1 rfl<|kB t fun bj W t=>gV _ (cF Uy) (fun o w z_=>Kf N r7 ([(33,0,3,0,(0#64)++(0#64)),(1,0,0,0,(0#64)++(0#64)),(23,1,0,0,(0#64)++(0#64))]) (0#64) _ W z_.view (ag,ai,ak,am,ao,aq,au,aw,ay,ba,bc,be,bg,s9) ⟨(RdN.map (E':=EE) (SlO.view ah (Dk (Af (Ls:=[s,a,b,c,d,e,f,g,h,i,j,l,m,n,p]) (k:=1) rfl rfl) o w z_)) rfl (fun _ _ h_=>Qc h_)),((Ar aj (Af (Ls:=[s,a,b,c,d,e,f,g,h,i,j,l,m,n,p]) (k:=2) rfl rfl)) o w z_),((Ar al (Af (Ls:=[s,a,b,c,d,e,f,g,h,i,j,l,m,n,p]) (k:=3) rfl rfl)) o w z_),(RdN.map (E':=Fj) (SlO.view an (Dk (Af (Ls:=[s,a,b,c,d,e,f,g,h,i,j,l,m,n,p]) (k:=4) rfl rfl) o w z_)) rfl (fun _ _ h_=>Qb h_)),(RdN.map (E':=Dv) (SlO.view ap (Dk (Af (Ls:=[s,a,b,c,d,e,f,g,h,i,j,l,m,n,p]) (k:=5) rfl rfl) o w z_)) rfl (fun _ _ h_=>Ot h_)),(RdN.map (E':=Ea) (SlO.view ar (Dk (Af (Ls:=[s,a,b,c,d,e,f,g,h,i,j,l,m,n,p]) (k:=6) rfl rfl) o w z_)) rfl (fun _ _ h_=>Oq h_)),(RdN.map (E':=CM) (SlO.view av (Dk (Af (Ls:=[s,a,b,c,d,e,f,g,h,i,j,l,m,n,p]) (k:=7) rfl rfl) o w z_)) rfl (fun _ _ h_=>Jj h_)),(RdN.map (E':=CM) (SlO.view ax (Dk (Af (Ls:=[s,a,b,c,d,e,f,g,h,i,j,l,m,n,p]) (k:=8) rfl rfl) o w z_)) rfl (fun _ _ h_=>Jj h_)),((Ar az (Af (Ls:=[s,a,b,c,d,e,f,g,h,i,j,l,m,n,p]) (k:=9) rfl rfl)) o w z_),((Ar bb (Af (Ls:=[s,a,b,c,d,e,f,g,h,i,j,l,m,n,p]) (k:=10) rfl rfl)) o w z_),((Ar bd (Af (Ls:=[s,a,b,c,d,e,f,g,h,i,j,l,m,n,p]) (k:=11) rfl rfl)) o w z_),((Ar bf (Af (Ls:=[s,a,b,c,d,e,f,g,h,i,j,l,m,n,p]) (k:=12) rfl rfl)) o w z_),((Ar bh (Af (Ls:=[s,a,b,c,d,e,f,g,h,i,j,l,m,n,p]) (k:=13) rfl rfl)) o w z_),((Ar bi (Af (Ls:=[s,a,b,c,d,e,f,g,h,i,j,l,m,n,p]) (k:=14) rfl rfl)) o w z_)⟩ s3 ((Ar H5 (Af (Ls:=[s,a,b,c,d,e,f,g,h,i,j,l,m,n,p]) (k:=0) rfl rfl)) o w z_)) ?_
 refine rz rfl<|Ae fun cs X=> ?_
 refine Bt [(some 20,true),(some 23,false)] (conG prog [(20,fun _ _ v_ L_ U_=> ∀q,BD N  =some q→(pO (List.flatten []) (oSO 80 HA q.2.1 fun s_0=>(oS 82 FH q.2.2.1 fun s_1=>(oS 78 BG q.2.2.2.1 fun s_2=>(oSO 87 Hz q.2.2.2.2.1 fun s_3=>(oSO 166 Ov q.2.2.2.2.2.1 fun s_4=>(oSO 175 Ou q.2.2.2.2.2.2.1 fun s_5=>(oSO 254 Ki q.2.2.2.2.2.2.2.1 fun s_6=>(oSO 254 Ki q.2.2.2.2.2.2.2.2.1 fun s_7=>(oS 3 AX q.2.2.2.2.2.2.2.2.2.1 fun s_8=>(oS 261 FO q.2.2.2.2.2.2.2.2.2.2.1 fun s_9=>(oS 261 FO q.2.2.2.2.2.2.2.2.2.2.2.1 fun s_10=>(oS 122 HD q.2.2.2.2.2.2.2.2.2.2.2.2.1 fun s_11=>(oS 125 HC q.2.2.2.2.2.2.2.2.2.2.2.2.2.1 fun s_12=>(oS 128 HB q.2.2.2.2.2.2.2.2.2.2.2.2.2.2.1 fun s_13=>(oE (vA #[vS q.1,s_0,s_1,s_2,s_3,s_4,s_5,s_6,s_7,s_8,s_9,s_10,s_11,s_12,s_13,vI q.2.2.2.2.2.2.2.2.2.2.2.2.2.2.2.1,vI q.2.2.2.2.2.2.2.2.2.2.2.2.2.2.2.2.1,vI q.2.2.2.2.2.2.2.2.2.2.2.2.2.2.2.2.2]) [])))))))))))))))) v_ L_ U_),(23,fun _ _ v_ L_ U_=> ∀q,BD N  =some q→ ∀Q,DZ N q ((([(33,0,3,0,(0#64)++(0#64)),(1,0,0,0,(0#64)++(0#64)),(23,1,0,0,(0#64)++(0#64))]).take (([(33,0,3,0,(0#64)++(0#64)),(1,0,0,0,(0#64)++(0#64)),(23,1,0,0,(0#64)++(0#64))]).length)).drop (((1:Int)).toNat)) (0#64)=some Q→(pV (vT #[U Q.1,vI Q.2.1,vI Q.2.2])) v_ L_ U_)]) [] (by decide+kernel) (fun hn=>AW)<|kB t fun bk K t=>UN (Ls:=[s,a,b,c,d,e,f,g,h,i,j,l,m,n,p]) (FL:=[]) [] _ (some 20) 17 _ rfl rfl rfl rfl rfl (cF Ux) (fun o w hn_ z_=>(Does.inv (Fo N  _ K _) _)) (DA K) (fun _=>(NiceO.sub (R:=[]) (Ma fun s_0=>(MA fun s_1=>(MA fun s_2=>(Ma fun s_3=>(Ma fun s_4=>(Ma fun s_5=>(Ma fun s_6=>(Ma fun s_7=>(MA fun s_8=>(MA fun s_9=>(MA fun s_10=>(MA fun s_11=>(MA fun s_12=>(MA fun s_13=>(PN rfl))))))))))))))) (Sub.pick [] [] rfl))) ?_
 rintro _ _ ⟨bl,u,_,bm,⟨bn,v,_,bo,⟨bp,x,_,bq,⟨br,y,_,bs,⟨bt,z,_,bu,⟨bv,A,_,bw,⟨bx,B,_,bz,⟨ca,C,_,cb,⟨cc,D,_,cd,⟨ce,E,_,cf,⟨cg,F,_,ch,⟨ci,G,_,cj,⟨ck,H,_,cl,⟨cm,I,_,cn,⟨rfl,rfl⟩,rfl⟩,rfl⟩,rfl⟩,rfl⟩,rfl⟩,rfl⟩,rfl⟩,rfl⟩,rfl⟩,rfl⟩,rfl⟩,rfl⟩,rfl⟩,rfl⟩
 refine BC (Ls:=[s,a,b,c,d,e,f,g,h,i,j,l,m,n,p,u,v,x,y,z,A,B,C,D,E,F,G,H,I]) (Ls':=[s,a,b,c,d,e,f,g,h,i,j,l,m,n,p,u,v,x,y,z,A,B,C,D,E,F,G,H,I]) [0,1,2,3,4,5,6,7,8,9,10,11,12,13,14,15,16,17,18,19,20,21,22,23,24,25,26,27,28] rfl rfl<|rn 1 rfl<|kC t fun S t=>r_W (Ch s3 (((1:Int)).toNat) (([(33,0,3,0,(0#64)++(0#64)),(1,0,0,0,(0#64)++(0#64)),(23,1,0,0,(0#64)++(0#64))]).length) 6) rfl (Cf (PY rfl rfl rfl rfl (Sl.shp H5) S))<|kB t fun Y J t=>rg _ (cF Uy) (fun o w z_=>Kf N bk ((([(33,0,3,0,(0#64)++(0#64)),(1,0,0,0,(0#64)++(0#64)),(23,1,0,0,(0#64)++(0#64))]).take (([(33,0,3,0,(0#64)++(0#64)),(1,0,0,0,(0#64)++(0#64)),(23,1,0,0,(0#64)++(0#64))]).length)).drop (((1:Int)).toNat)) (0#64) _ J z_.view (bl,bn,bp,br,bt,bv,bx,ca,cc,ce,cg,ci,ck,cm) ⟨(RdN.map (E':=EE) (SlO.view bm (Dk (Af (Ls:=[s,a,b,c,d,e,f,g,h,i,j,l,m,n,p,u,v,x,y,z,A,B,C,D,E,F,G,H,I]) (k:=15) rfl rfl) o w z_)) rfl (fun _ _ h_=>Qc h_)),((Ar bo (Af (Ls:=[s,a,b,c,d,e,f,g,h,i,j,l,m,n,p,u,v,x,y,z,A,B,C,D,E,F,G,H,I]) (k:=16) rfl rfl)) o w z_),((Ar bq (Af (Ls:=[s,a,b,c,d,e,f,g,h,i,j,l,m,n,p,u,v,x,y,z,A,B,C,D,E,F,G,H,I]) (k:=17) rfl rfl)) o w z_),(RdN.map (E':=Fj) (SlO.view bs (Dk (Af (Ls:=[s,a,b,c,d,e,f,g,h,i,j,l,m,n,p,u,v,x,y,z,A,B,C,D,E,F,G,H,I]) (k:=18) rfl rfl) o w z_)) rfl (fun _ _ h_=>Qb h_)),(RdN.map (E':=Dv) (SlO.view bu (Dk (Af (Ls:=[s,a,b,c,d,e,f,g,h,i,j,l,m,n,p,u,v,x,y,z,A,B,C,D,E,F,G,H,I]) (k:=19) rfl rfl) o w z_)) rfl (fun _ _ h_=>Ot h_)),(RdN.map (E':=Ea) (SlO.view bw (Dk (Af (Ls:=[s,a,b,c,d,e,f,g,h,i,j,l,m,n,p,u,v,x,y,z,A,B,C,D,E,F,G,H,I]) (k:=20) rfl rfl) o w z_)) rfl (fun _ _ h_=>Oq h_)),(RdN.map (E':=CM) (SlO.view bz (Dk (Af (Ls:=[s,a,b,c,d,e,f,g,h,i,j,l,m,n,p,u,v,x,y,z,A,B,C,D,E,F,G,H,I]) (k:=21) rfl rfl) o w z_)) rfl (fun _ _ h_=>Jj h_)),(RdN.map (E':=CM) (SlO.view cb (Dk (Af (Ls:=[s,a,b,c,d,e,f,g,h,i,j,l,m,n,p,u,v,x,y,z,A,B,C,D,E,F,G,H,I]) (k:=22) rfl rfl) o w z_)) rfl (fun _ _ h_=>Jj h_)),((Ar cd (Af (Ls:=[s,a,b,c,d,e,f,g,h,i,j,l,m,n,p,u,v,x,y,z,A,B,C,D,E,F,G,H,I]) (k:=23) rfl rfl)) o w z_),((Ar cf (Af (Ls:=[s,a,b,c,d,e,f,g,h,i,j,l,m,n,p,u,v,x,y,z,A,B,C,D,E,F,G,H,I]) (k:=24) rfl rfl)) o w z_),((Ar ch (Af (Ls:=[s,a,b,c,d,e,f,g,h,i,j,l,m,n,p,u,v,x,y,z,A,B,C,D,E,F,G,H,I]) (k:=25) rfl rfl)) o w z_),((Ar cj (Af (Ls:=[s,a,b,c,d,e,f,g,h,i,j,l,m,n,p,u,v,x,y,z,A,B,C,D,E,F,G,H,I]) (k:=26) rfl rfl)) o w z_),((Ar cl (Af (Ls:=[s,a,b,c,d,e,f,g,h,i,j,l,m,n,p,u,v,x,y,z,A,B,C,D,E,F,G,H,I]) (k:=27) rfl rfl)) o w z_),((Ar cn (Af (Ls:=[s,a,b,c,d,e,f,g,h,i,j,l,m,n,p,u,v,x,y,z,A,B,C,D,E,F,G,H,I]) (k:=28) rfl rfl)) o w z_)⟩ (Ch s3 (((1:Int)).toNat) (([(33,0,3,0,(0#64)++(0#64)),(1,0,0,0,(0#64)++(0#64)),(23,1,0,0,(0#64)++(0#64))]).length) 6) ((KX (Ar H5 (Af (Ls:=[s,a,b,c,d,e,f,g,h,i,j,l,m,n,p,u,v,x,y,z,A,B,C,D,E,F,G,H,I]) (k:=0) rfl rfl)) (Ee S.2) (Nat.le_refl _)) o w z_)) (fun _ _ v_ L_ U_=>⟨fun h_=>h_ _ K _ J,fun h_=>by intro _ e_;cases Option.some.inj (e_.symm.trans K);intro _ e_;cases Option.some.inj (e_.symm.trans J);exact h_⟩) ?_
 refine rz rfl<|X _ _ ?_
 refine Ae fun co L=>An<|rn 3 rfl<|MB 3 32 [(0,vB false),(7,vI Y.2.2)] vB (fun b_=>CE N Y b_=some r) (fun Z t T=> ?_) (fun HJ=> ?_)
 ·unfold CE at t
  refine rn 1 rfl<|MB 3 36 [(0,vB false)] vB (fun b_=>CD N b_=some r) (fun ab t T=> ?_) (fun HJ=> ?_)
  ·unfold CD at t
   refine rn 1 rfl ?_
   rcases M:ab with _|_
   ·replace t:=iB M t
    refine rz rfl<|L _ _ ?_
    cases t
    exact aR eV1
   replace t:=ifp M t
   refine r_y rfl<|kB t fun cp V t=>rc _ (cF OE) (DX N (5#64) 2 _ V)<|rz rfl<|L _ _ ?_
   cases t
   exact aR eV1
  rcases O:Z with _|_
  ·replace t:=iB O t
   refine rn 3 rfl ?_
   exact HJ _ _ t rfl rfl
  replace t:=ifp O t
  refine rn 3 rfl ?_
  exact HJ _ _ t rfl rfl
 rcases P:(bj.2.2==0)with _|_
 ·replace t:=iG P t
  refine rn 3 rfl ?_
  exact HJ _ _ t rfl rfl
 replace t:=iE P t
 refine rn 3 rfl ?_
 exact HJ _ _ t rfl rfl
end Go.Proofs.YtajdpjdejpcgnaaGreatDoor
