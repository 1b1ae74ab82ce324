import Derived.Test.YtajdpjdejpcgnaaGreatDoorBg
namespace Go.Proofs.YtajdpjdejpcgnaaGreatDoor
open Go Go.RowKit Go.Eng _root_.Go.Proofs.Tryz
set_option maxRecDepth 100000
set_option maxHeartbeats 80000000
theorem Qd  :prog.eqGuardType prog.depth 25=false:=by kernel_rfl
set_option maxRecDepth 100000 in
theorem IF {c:Addr→Option Value}(x y:BitVec 64):ev prog c (Op.equal 25 (.agg (Nr x)) (.agg (Nr y)))=some (x==y):=by
 rw [←XW]
 exact TM _ _ _ 1 rfl rfl rfl _ (fun j hj=>⟨_,_,Du (P:=prog) (t:=4) rfl (by intro fs h;cases h) (by intro n e h;cases h) _ _ (by rw [Nat.mul_one];exact RI _ hj),
   Du (P:=prog) (t:=4) rfl (by intro fs h;cases h) (by intro n e h;cases h) _ _ (by rw [Nat.mul_one];exact RI _ hj),PZ _ _ _ rfl⟩)
def Bg(r4:BitVec 64)(l6_:List Int)(i7_:Int)(rec_shunterlaw15_FlowSets_l8:Bool→List Int→Int→Option Bool)(b26:Bool):Option Bool:=ck (0≤i7_∧i7_<64) (if((r4).getLsbD (i7_.toNat))=true then ck ((l6_).length+([i7_]).length≤17592186044416) (ck (R64 (i7_+1)) (rec_shunterlaw15_FlowSets_l8 b26 (l6_++([i7_])) (i7_+1)))else ck (R64 (i7_+1)) (rec_shunterlaw15_FlowSets_l8 b26 l6_ (i7_+1)))
def Bm(N:Nat)(a:BitVec 64)(l6_:List Int):Option Bool:=(ID N l6_).bind fun r53=>if r53=a then ck (([-1,64]).length+(l6_).length≤17592186044416) ((ID N (([-1,64])++l6_)).bind fun r63=>if r63=a then(CJ N).bind fun r66=>some r66 else some false)else some false
def AJ(N:Nat)(a:BitVec 64)(b:BitVec 64)(slot:Int)(r4:BitVec 64)(r6:BitVec 64)(b11:Bool)(m2_:BitVec 64)(m3_:BitVec 64):Nat→Bool→List Int→Int→Option Bool
  |0,_,_,_=>none
  |n20+1,within5_,l6_,i7_=>if i7_<64 then if within5_=true then ck (0≤i7_∧i7_<64) (if((r4).getLsbD (i7_.toNat))=true then ck (0≤i7_∧i7_<64) (Bg r4 l6_ i7_ (AJ N a b slot r4 r6 b11 m2_ m3_ n20) ((r6).getLsbD (i7_.toNat)))else Bg r4 l6_ i7_ (AJ N a b slot r4 r6 b11 m2_ m3_ n20) true)else Bg r4 l6_ i7_ (AJ N a b slot r4 r6 b11 m2_ m3_ n20) false else(EA N a).bind fun r47=>(BR N a slot).bind fun r69=>if b11=true then ck (0≤max 0 (min slot 63)∧max 0 (min slot 63)<64) (if r69≠((r4).getLsbD ((max 0 (min slot 63)).toNat))then some false else(Bv N a slot).bind fun r105=>(Be N r105).bind fun r107=>if r107=m3_ then(Bh N a slot).bind fun r110=>(Be N r110).bind fun r112=>if r112=m2_ then(BU N a b).bind fun r115=>(Be N r115).bind fun r117=>(Cq N r4 r6).bind fun r119=>if r117=r119 then(Cn N a b).bind fun r122=>if r122≠within5_ then some false else(Bz N r47 l6_).bind fun r125=>if r125=true then Bm N a l6_  else some false else some false else some false else some false)else if r69≠false then some false else(Bv N a slot).bind fun r73=>(Be N r73).bind fun r75=>if r75=m3_ then(Bh N a slot).bind fun r78=>(Be N r78).bind fun r80=>if r80=m2_ then(BU N a b).bind fun r83=>(Be N r83).bind fun r85=>(Cq N r4 r6).bind fun r87=>if r85=r87 then(Cn N a b).bind fun r90=>if r90≠within5_ then some false else(Bz N r47 l6_).bind fun r93=>if r93=true then Bm N a l6_  else some false else some false else some false else some false
def BE(N:Nat)(a:BitVec 64)(b:BitVec 64)(slot:Int)(r4:BitVec 64)(r6:BitVec 64)(b11:Bool)(m2_:BitVec 64)(m3_:BitVec 64):Option Bool:=AJ N a b slot r4 r6 b11 m2_ m3_ N true ([]) 0
def Bp(N:Nat)(a:BitVec 64)(b:BitVec 64)(slot:Int)(r4:BitVec 64)(r6:BitVec 64)(b11:Bool):Option Bool:=if b11=true then ck (0≤max 0 (min slot 63)∧max 0 (min slot 63)<64) (ck (0≤max 0 (min slot 63)∧max 0 (min slot 63)<64) (BE N a b slot r4 r6 b11 (DB r4 ((max 0 (min slot 63)).toNat) false) (DB r4 ((max 0 (min slot 63)).toNat) true)))else BE N a b slot r4 r6 b11 r4 r4
def Ci(N:Nat)(a:BitVec 64)(b:BitVec 64)(slot:Int):Option Bool:=(Be N a).bind fun r4=>(Be N b).bind fun r6=>if slot≥0 then Bp N a b slot r4 r6 (decide (slot<64))else Bp N a b slot r4 r6 false
theorem Iq(N a b slot r)(d:Ci N a b slot=some r)(ro:Ro):DoesI prog 3 #[U a,U b,vI slot] CR ro [] (pV (vB r)):=by
 unfold Ci at d
 refine AC follows func3 rfl 130 rfl _ fz3 AG (fun dc=> ?_)
 refine AZ rfl<|AZ rfl<|Aa<|rn 1 rfl<|kB d fun n dd d=>rc _ (cF Kl) (BB N a _ dd)<|rn 1 rfl<|kB d fun v de d=>rc _ (cF Kl) (BB N b _ de)<|r_a (25,(⟨Av (0#64)⟩:Array Value)) rfl rfl FP (fun s=> ?_) (.inr rfl)
 refine r_a (25,(⟨Av (0#64)⟩:Array Value)) rfl rfl FP (fun u=> ?_) (.inr rfl)
 refine ry [1,0] rfl<|Ae fun ds bu=>An<|rn 3 rfl<|MB 3 30 [(2,vI slot),(7,U a),(8,U b),(9,vP s 0),(10,vP u 0)] vB (fun b_=>Bp N a b slot n v b_=some r) (fun C d T=> ?_) (fun HJ=> ?_)
 ·unfold Bp at d
  refine rz rfl<|bu _ _ ?_
  refine Aa<|rn 1 rfl<|r_W (vI (min slot 63)) rfl (VQ rfl rfl)<|r_W (vI (max 0 (min slot 63))) rfl (TK rfl rfl)<|rz rfl<|Ae fun dt bv=>Js [] (by decide+kernel) (fun hn=>AW)<|rm 2 [1,1] rfl<|r_a (25,(⟨Av (0#64)⟩:Array Value)) rfl rfl FP (fun m=> ?_) (.inl rfl)
  refine r_a (25,(⟨Av (0#64)⟩:Array Value)) rfl rfl FP (fun i=> ?_) (.inl rfl)
  refine Yd [(i,25,(⟨Av (0#64)⟩:Array Value)),(m,25,(⟨Av n⟩:Array Value)),(u,25,(⟨Av v⟩:Array Value)),(s,25,(⟨Av n⟩:Array Value))] 1 _ _ _ (⟨Av (0#64)⟩:Array Value) (⟨Av n⟩:Array Value) (⟨Av n⟩:Array Value) rfl rfl rfl rfl rfl (.of rfl rfl) rfl rfl<|Yd [(i,25,(⟨Av n⟩:Array Value)),(m,25,(⟨Av n⟩:Array Value)),(u,25,(⟨Av v⟩:Array Value)),(s,25,(⟨Av n⟩:Array Value))] 0 _ _ _ (⟨Av (0#64)⟩:Array Value) (⟨Av n⟩:Array Value) (⟨Av n⟩:Array Value) rfl rfl rfl rfl rfl (.of rfl rfl) rfl rfl<|Ah<|bv _ _ ?_
  refine BW (fun tt ll=> ∃(j:BitVec 64) (h:BitVec 64),(BE N a b slot n v C j h=some r)∧Is [(2,vI slot),(7,U a),(8,U b),(9,vP s 0),(10,vP u 0),(11,vB C),(12,vI (max 0 (min slot 63))),(13,vP m 0),(14,vP i 0)] [(i,25,(⟨Av j⟩:Array Value)),(m,25,(⟨Av h⟩:Array Value)),(u,25,(⟨Av v⟩:Array Value)),(s,25,(⟨Av n⟩:Array Value))] tt ll) ?_ ?_
  ·refine AZ rfl<|aB d rfl (fun az d=> ?_) (fun az d=> ?_)
   ·refine Aa<|rn 1 rfl<|kC d fun ba d=> ?_
    have L:=fun c=>Cf (Fi (P:=prog) (c:=c) (t:=25) (b:=m) (off:=0) (k:= .i64) rfl rfl rfl ba)
    simp only [Nat.zero_add] at L
    have E:(max 0 (min slot 63)).toNat<64:=by omega
    refine r_W (Value.pointer (some ⟨m,(max 0 (min slot 63)).toNat,none⟩)) rfl (L _)<|r_s [(i,25,(⟨Av n⟩:Array Value)),(m,25,(⟨Av (DB n ((max 0 (min slot 63)).toNat) true)⟩:Array Value)),(u,25,(⟨Av v⟩:Array Value)),(s,25,(⟨Av n⟩:Array Value))] 1 _ _ _ _ _ ((⟨Av (DB n ((max 0 (min slot 63)).toNat) true)⟩:Array Value)) rfl rfl rfl rfl (Lj rfl rfl _ _ E) (IK _ _ _ E) rfl<|Ah<|An<|rn 1 rfl<|kC d fun bb d=> ?_
    have M:=fun c=>Cf (Fi (P:=prog) (c:=c) (t:=25) (b:=i) (off:=0) (k:= .i64) rfl rfl rfl bb)
    simp only [Nat.zero_add] at M
    have F:(max 0 (min slot 63)).toNat<64:=by omega
    refine r_W (Value.pointer (some ⟨i,(max 0 (min slot 63)).toNat,none⟩)) rfl (M _)<|r_s [(i,25,(⟨Av (DB n ((max 0 (min slot 63)).toNat) false)⟩:Array Value)),(m,25,(⟨Av (DB n ((max 0 (min slot 63)).toNat) true)⟩:Array Value)),(u,25,(⟨Av v⟩:Array Value)),(s,25,(⟨Av n⟩:Array Value))] 0 _ _ _ _ _ ((⟨Av (DB n ((max 0 (min slot 63)).toNat) false)⟩:Array Value)) rfl rfl rfl rfl (Lj rfl rfl _ _ F) (IK _ _ _ F) rfl<|Ah<|fg _ (Sub.of (suK _ (suK _ (suK _ (suK _ suN))))) ?_
    exact⟨DB n ((max 0 (min slot 63)).toNat) false,DB n ((max 0 (min slot 63)).toNat) true,d,Aj rfl rfl⟩
   refine Ac<|fg _ (Sub.of (suK _ (suK _ (suK _ (suK _ suN))))) ?_
   exact⟨n,n,d,Aj rfl rfl⟩
  clear d;rintro t l ⟨j,h,d,⟨T,rfl⟩,rfl⟩
  unfold BE at d
  refine AZ rfl<|AZ rfl<|Ae fun dv bw=>AZ rfl<|Am<|BH _ (Sub.pickE (Ls:=[[(i,25,(⟨Av j⟩:Array Value))],[(m,25,(⟨Av h⟩:Array Value))],[(u,25,(⟨Av v⟩:Array Value))],[(s,25,(⟨Av n⟩:Array Value))],[]]) (Ls0:=[[(i,25,(⟨Av j⟩:Array Value))],[(m,25,(⟨Av h⟩:Array Value))],[(u,25,(⟨Av v⟩:Array Value))],[(s,25,(⟨Av n⟩:Array Value))]]) rfl [0,1,2,3,4] rfl) ?_
  refine AS (fun tt ll nn=> ∃(z:Nat) (e:Bool) (y:List Int) (p:Int),(AJ N a b slot n v C j h z e y p=some r)∧ ∃(g:Value) (f:List Bl),Sl 3 AX g y f∧Is [(2,vI slot),(7,U a),(8,U b),(9,vP s 0),(10,vP u 0),(11,vB C),(12,vI (max 0 (min slot 63))),(13,vP m 0),(14,vP i 0),(15,vB e),(16,g),(17,vI p)] (List.flatten [[(i,25,(⟨Av j⟩:Array Value))],[(m,25,(⟨Av h⟩:Array Value))],[(u,25,(⟨Av v⟩:Array Value))],[(s,25,(⟨Av n⟩:Array Value))],f]) tt ll∧nn=z+1) (N+1) ?_ ?_
  ·exact⟨N,true,[],0,d,nS,[],Sl.nil,Aj rfl rfl,rfl⟩
  clear d;rintro t l _ ⟨z,e,y,p,d,g,f,A,⟨⟨T,rfl⟩,rfl⟩,rfl⟩
  rcases z with _|z
  ·exact absurd d (by simp [AJ])
  rw [AJ] at d
  refine Ae fun dw bx=>AZ rfl<|aD d rfl (fun bz d=> ?_) (fun bz d=> ?_)
  ·refine Ac<|bx _ _ ?_
   refine Ae fun dx ah=>Am<|Ae fun dy ca=>An<|rn 2 rfl<|MB 10 56 [(2,vI slot),(7,U a),(8,U b),(9,vP s 0),(10,vP u 0),(11,vB C),(12,vI (max 0 (min slot 63))),(13,vP m 0),(14,vP i 0),(15,vB e),(16,g),(17,vI p)] vB (fun b_=>Bg n y p (AJ N a b slot n v C j h z) b_=some r) (fun cb d T=> ?_) (fun HJ=> ?_)
   ·unfold Bg at d
    refine rz rfl<|ca _ _ ?_
    refine Aa<|rn 1 rfl<|kC d fun cc d=> ?_
    have ai:=fun c=>Cf (Fi (P:=prog) (c:=c) (t:=25) (b:=s) (off:=0) (k:= .i64) rfl rfl rfl cc)
    simp only [Nat.zero_add] at ai
    have bc:p.toNat<64:=by omega
    refine r_W (Value.pointer (some ⟨s,p.toNat,none⟩)) rfl (ai _)<|r_l (vB ((n).getLsbD (p.toNat))) 3 _ _ _ _ rfl rfl rfl rfl (Md rfl _ bc)<|Ah<|aB d rfl (fun cd d=> ?_) (fun cd d=> ?_)
    ·refine An<|rn 2 rfl<|gB (Ls:=[[(i,25,(⟨Av j⟩:Array Value))],[(m,25,(⟨Av h⟩:Array Value))],[(u,25,(⟨Av v⟩:Array Value))],[(s,25,(⟨Av n⟩:Array Value))],f]) 3 AX [p] (fun dz bd df=> ?_)
     refine kC d fun aj d=>cC 63<|KK (cs0:=[]) (Ls:=[[(i,25,(⟨Av j⟩:Array Value))],[(m,25,(⟨Av h⟩:Array Value))],[(u,25,(⟨Av v⟩:Array Value))],[(s,25,(⟨Av n⟩:Array Value))],f,bd]) 4 (En:=AX) rfl rfl rfl rfl rfl A rfl (Ar df (Af (Ls:=[[(i,25,(⟨Av j⟩:Array Value))],[(m,25,(⟨Av h⟩:Array Value))],[(u,25,(⟨Av v⟩:Array Value))],[(s,25,(⟨Av n⟩:Array Value))],f,bd]) (k:=5) rfl rfl)) rfl rfl rfl rfl rfl (KQ aj rfl) (KP aj rfl) rfl (fun dg ce dh=> ?_)
     refine rz rfl<|ah _ _ ?_
     refine An<|rn 1 rfl<|kC d fun cf d=>rX cf rfl<|rz rfl<|fg _ (Sub.pick [[(i,25,(⟨Av j⟩:Array Value))],[(m,25,(⟨Av h⟩:Array Value))],[(u,25,(⟨Av v⟩:Array Value))],[(s,25,(⟨Av n⟩:Array Value))],ce,bd] [0,1,2,3,4] rfl) ?_
     exact⟨z+1,by omega,z,cb,(y++([p])),(p+1),d,dg,ce,dh,Aj rfl rfl,rfl⟩
    refine Ac<|ah _ _ ?_
    refine An<|rn 1 rfl<|kC d fun cg d=>rX cg rfl<|rz rfl<|fg _ (Sub.pick [[(i,25,(⟨Av j⟩:Array Value))],[(m,25,(⟨Av h⟩:Array Value))],[(u,25,(⟨Av v⟩:Array Value))],[(s,25,(⟨Av n⟩:Array Value))],f] [0,1,2,3,4] rfl) ?_
    exact⟨z+1,by omega,z,cb,y,(p+1),d,g,f,A,Aj rfl rfl,rfl⟩
   rcases x:e with _|_
   ·replace d:=iB x d
    refine rn 5 rfl<|JH rfl rfl<|JH rfl rfl<|JH rfl rfl<|rn 2 rfl ?_
    exact HJ _ _ d rfl (by first|rfl|(simp only [x];done)|(simp only [x];rfl))
   replace d:=ifp x d
   refine rn 1 rfl<|r_y rfl<|kC d fun ch d=> ?_
   have ak:=fun c=>Cf (Fi (P:=prog) (c:=c) (t:=25) (b:=s) (off:=0) (k:= .i64) rfl rfl rfl ch)
   simp only [Nat.zero_add] at ak
   have be:p.toNat<64:=by omega
   refine r_W (Value.pointer (some ⟨s,p.toNat,none⟩)) rfl (ak _)<|r_y rfl<|r_l (vB ((n).getLsbD (p.toNat))) 3 _ _ _ _ rfl rfl rfl rfl (Md rfl _ be)<|rn 2 rfl ?_
   rcases B:(!((n).getLsbD (p.toNat)))with _|_
   ·replace d:=ifp (Ce B) d
    refine rn 1 rfl<|r_y rfl<|kC d fun ci d=> ?_
    have al:=fun c=>Cf (Fi (P:=prog) (c:=c) (t:=25) (b:=u) (off:=0) (k:= .i64) rfl rfl rfl ci)
    simp only [Nat.zero_add] at al
    have bf:p.toNat<64:=by omega
    refine r_W (Value.pointer (some ⟨u,p.toNat,none⟩)) rfl (al _)<|r_y rfl<|r_l (vB ((v).getLsbD (p.toNat))) 2 _ _ _ _ rfl rfl rfl rfl (Md rfl _ bf)<|rn 2 rfl ?_
    exact HJ _ _ d rfl (by first|rfl|(simp only [x,B];done)|(simp only [x,B];rfl))
   replace d:=ifn (Bool.eq_false_iff.1 (Cd B)) d
   refine rn 5 rfl ?_
   exact HJ _ _ d rfl (by first|rfl|(simp only [x,B];done)|(simp only [x,B];rfl))
  refine AT<|bw _ _ ?_
  refine Aa<|rn 1 rfl<|kB d fun bg cj d=>gS (Ls:=[[(i,25,(⟨Av j⟩:Array Value))],[(m,25,(⟨Av h⟩:Array Value))],[(u,25,(⟨Av v⟩:Array Value))],[(s,25,(⟨Av n⟩:Array Value))],f]) (cF aV) (fun o w z_=>(Does.inv (Na N a _ cj z_.view) _)) (fun J K ck=> ?_)
  refine rz rfl<|BW (fun tt ll=>(Bm N a y  =some r)∧Is [(7,U a),(16,g)] (List.flatten [f]) tt ll) ?_ ?_
  ·refine Ae fun ea q=>Bt [(some 112,false)] (conG prog [(112,cV (Bz N bg y) fun di=>vB di)]) [] (by decide+kernel) (fun hn=>AW)<|rn 2 rfl<|kB d fun ac cl d=>rc _ (cF OE) (DX N a slot _ cl)<|rn 2 rfl ?_
   rcases am:C with _|_
   ·replace d:=iB am d
    refine rn 4 rfl<|r_W (vB (ac !=false)) rfl (LG rfl rfl rfl)<|rn 1 rfl ?_
    rcases an:(ac !=false)with _|_
    ·replace d:=iM an d
     refine rn 2 rfl<|r_y rfl<|kB d fun dj cm d=>rc _ (cF Mt) (CI N a slot _ cm)<|r_y rfl<|kB d fun ad cn d=>rc _ (cF Kl) (BB N dj _ cn)<|r_y rfl<|rm 1 [1] rfl<|r_y rfl<|r_W (vB (!(ad==h))) rfl (IE rfl rfl Qd (IF ad h))<|rn 2 rfl<|Mb [(2,vI slot),(7,U a),(8,U b),(9,vP s 0),(10,vP u 0),(14,vP i 0),(15,vB e),(16,g),(18,J),(84,vB (!(ad==h)))] rfl (fun T=> ?_)
     rcases ao:(!(ad==h))with _|_
     ·replace d:=ifp (eq_of_beq (Ce ao)) d
      refine rn 2 rfl<|r_y rfl<|kB d fun dk co d=>rc _ (cF OD) (CB N a slot _ co)<|r_y rfl<|kB d fun bh cp d=>rc _ (cF Kl) (BB N dk _ cp)<|r_y rfl<|rm 1 [0] rfl<|r_y rfl<|r_W (vB (!(bh==j))) rfl (IE rfl rfl Qd (IF bh j))<|rn 2 rfl ?_
      rcases ap:(!(bh==j))with _|_
      ·replace d:=ifp (eq_of_beq (Ce ap)) d
       refine rn 2 rfl<|r_y rfl<|kB d fun dl cq d=>rc _ (cF Rv) (EB N a b _ cq)<|r_y rfl<|kB d fun ae cr d=>rc _ (cF Kl) (BB N dl _ cr)<|r_y rfl<|rm 1 [3] rfl<|r_y rfl<|rm 1 [2] rfl<|r_y rfl<|kB d fun af cs d=>rc _ (cF UC) (Gt N n v _ cs)<|r_y rfl<|r_W (vB (!(ae==af))) rfl (IE rfl rfl Qd (IF ae af))<|rn 2 rfl<|Mb [(7,U a),(8,U b),(15,vB e),(16,g),(18,J),(102,vB (!(ae==af)))] rfl (fun T=> ?_)
       rcases aq:(!(ae==af))with _|_
       ·replace d:=ifp (eq_of_beq (Ce aq)) d
        refine rn 2 rfl<|r_y rfl<|kB d fun ct cu d=>rc _ (cF UB) (Hy N a b _ cu)<|rn 1 rfl<|r_y rfl<|r_W (vB (ct !=e)) rfl (LG rfl rfl rfl)<|rn 2 rfl ?_
        rcases ar:(ct !=e)with _|_
        ·replace d:=iM ar d
         refine rn 2 rfl<|r_y rfl<|kB d fun eb au d=>rg _ (cF UA) (fun o w z_=>(Does.inv (Gu N bg y _ au z_.view J ((Ar ck (Af (Ls:=[[(i,25,(⟨Av j⟩:Array Value))],[(m,25,(⟨Av h⟩:Array Value))],[(u,25,(⟨Av v⟩:Array Value))],[(s,25,(⟨Av n⟩:Array Value))],f,K]) (k:=5) rfl rfl)) o w z_) g ((Ar A (Af (Ls:=[[(i,25,(⟨Av j⟩:Array Value))],[(m,25,(⟨Av h⟩:Array Value))],[(u,25,(⟨Av v⟩:Array Value))],[(s,25,(⟨Av n⟩:Array Value))],f,K]) (k:=4) rfl rfl)) o w z_)) _)) (DA au)<|rn 2 rfl ?_
         refine Ah<|q _ _ ?_
         refine Ai _ rfl (fun O=> ?_) (fun O=> ?_)
         ·replace d:=ifn (Bool.eq_false_iff.1 (Cd O)) d
          refine AZ rfl ?_
          cases d
          exact aR eV1
         replace d:=ifp (Ce O) d
         refine Ac<|fg _ (Sub.pick [[(i,25,(⟨Av j⟩:Array Value))],[(m,25,(⟨Av h⟩:Array Value))],[(u,25,(⟨Av v⟩:Array Value))],[(s,25,(⟨Av n⟩:Array Value))],f,K] [4] rfl) ?_
         exact⟨d,Aj rfl rfl⟩
        replace d:=iN ar d
        refine rz rfl<|q _ _ ?_
        refine Ai true rfl (fun _=> ?_) (fun h_=>nomatch h_)
        refine AZ rfl ?_
        cases d
        exact aR eV1
       replace d:=ifn (ne_of_beq_false (Cd aq)) d
       refine rz rfl<|q _ _ ?_
       refine Ai true rfl (fun _=> ?_) (fun h_=>nomatch h_)
       refine AZ rfl ?_
       cases d
       exact aR eV1
      replace d:=ifn (ne_of_beq_false (Cd ap)) d
      refine rz rfl<|q _ _ ?_
      refine Cx [(7,U a),(16,g),(114,vB true)] rfl (fun T=> ?_)
      refine Ai true rfl (fun _=> ?_) (fun h_=>nomatch h_)
      refine AZ rfl ?_
      cases d
      exact aR eV1
     replace d:=ifn (ne_of_beq_false (Cd ao)) d
     refine rz rfl<|q _ _ ?_
     refine Cx [(7,U a),(16,g),(114,vB true)] rfl (fun T=> ?_)
     refine Ai true rfl (fun _=> ?_) (fun h_=>nomatch h_)
     refine AZ rfl ?_
     cases d
     exact aR eV1
    replace d:=iN an d
    refine rz rfl<|q _ _ ?_
    refine Cx [(7,U a),(16,g),(114,vB true)] rfl (fun T=> ?_)
    refine Ai true rfl (fun _=> ?_) (fun h_=>nomatch h_)
    refine AZ rfl ?_
    cases d
    exact aR eV1
   replace d:=ifp am d
   refine rn 1 rfl<|r_y rfl<|kC d fun bi d=> ?_
   have Q:=fun c=>Cf (Fi (P:=prog) (c:=c) (t:=25) (b:=s) (off:=0) (k:= .i64) rfl rfl rfl bi)
   simp only [Nat.zero_add] at Q
   have ag:(max 0 (min slot 63)).toNat<64:=by omega
   refine r_W (Value.pointer (some ⟨s,(max 0 (min slot 63)).toNat,none⟩)) rfl (Q _)<|r_y rfl<|r_l (vB ((n).getLsbD ((max 0 (min slot 63)).toNat))) 3 _ _ _ _ rfl rfl rfl rfl (Md rfl _ ag)<|rn 1 rfl<|r_W (vB (ac !=((n).getLsbD ((max 0 (min slot 63)).toNat)))) rfl (LG rfl rfl rfl)<|rn 1 rfl ?_
   rcases R:(ac !=((n).getLsbD ((max 0 (min slot 63)).toNat)))with _|_
   ·replace d:=iM R d
    refine rn 2 rfl<|r_y rfl<|kB d fun cv bj d=>rc _ (cF Mt) (CI N a slot _ bj)<|r_y rfl<|kB d fun G bk d=>rc _ (cF Kl) (BB N cv _ bk)<|r_y rfl<|rm 1 [1] rfl<|r_y rfl<|r_W (vB (!(G==h))) rfl (IE rfl rfl Qd (IF G h))<|rn 2 rfl<|Mb [(2,vI slot),(7,U a),(8,U b),(9,vP s 0),(10,vP u 0),(14,vP i 0),(15,vB e),(16,g),(18,J),(84,vB (!(G==h)))] rfl (fun T=> ?_)
    rcases S:(!(G==h))with _|_
    ·replace d:=ifp (eq_of_beq (Ce S)) d
     refine rn 2 rfl<|r_y rfl<|kB d fun cw bl d=>rc _ (cF OD) (CB N a slot _ bl)<|r_y rfl<|kB d fun V bm d=>rc _ (cF Kl) (BB N cw _ bm)<|r_y rfl<|rm 1 [0] rfl<|r_y rfl<|r_W (vB (!(V==j))) rfl (IE rfl rfl Qd (IF V j))<|rn 2 rfl ?_
     rcases W:(!(V==j))with _|_
     ·replace d:=ifp (eq_of_beq (Ce W)) d
      refine rn 2 rfl<|r_y rfl<|kB d fun cx bn d=>rc _ (cF Rv) (EB N a b _ bn)<|r_y rfl<|kB d fun H bo d=>rc _ (cF Kl) (BB N cx _ bo)<|r_y rfl<|rm 1 [3] rfl<|r_y rfl<|rm 1 [2] rfl<|r_y rfl<|kB d fun I bp d=>rc _ (cF UC) (Gt N n v _ bp)<|r_y rfl<|r_W (vB (!(H==I))) rfl (IE rfl rfl Qd (IF H I))<|rn 2 rfl<|Mb [(7,U a),(8,U b),(15,vB e),(16,g),(18,J),(102,vB (!(H==I)))] rfl (fun T=> ?_)
      rcases X:(!(H==I))with _|_
      ·replace d:=ifp (eq_of_beq (Ce X)) d
       refine rn 2 rfl<|r_y rfl<|kB d fun av bq d=>rc _ (cF UB) (Hy N a b _ bq)<|rn 1 rfl<|r_y rfl<|r_W (vB (av !=e)) rfl (LG rfl rfl rfl)<|rn 2 rfl ?_
       rcases Y:(av !=e)with _|_
       ·replace d:=iM Y d
        refine rn 2 rfl<|r_y rfl<|kB d fun dr Z d=>rg _ (cF UA) (fun o w z_=>(Does.inv (Gu N bg y _ Z z_.view J ((Ar ck (Af (Ls:=[[(i,25,(⟨Av j⟩:Array Value))],[(m,25,(⟨Av h⟩:Array Value))],[(u,25,(⟨Av v⟩:Array Value))],[(s,25,(⟨Av n⟩:Array Value))],f,K]) (k:=5) rfl rfl)) o w z_) g ((Ar A (Af (Ls:=[[(i,25,(⟨Av j⟩:Array Value))],[(m,25,(⟨Av h⟩:Array Value))],[(u,25,(⟨Av v⟩:Array Value))],[(s,25,(⟨Av n⟩:Array Value))],f,K]) (k:=4) rfl rfl)) o w z_)) _)) (DA Z) ?_
        refine rz rfl<|q _ _ ?_
        refine Ai _ rfl (fun D=> ?_) (fun D=> ?_)
        ·replace d:=ifn (Bool.eq_false_iff.1 (Cd D)) d
         refine AZ rfl ?_
         cases d
         exact aR eV1
        replace d:=ifp (Ce D) d
        refine Ac<|fg _ (Sub.pick [[(i,25,(⟨Av j⟩:Array Value))],[(m,25,(⟨Av h⟩:Array Value))],[(u,25,(⟨Av v⟩:Array Value))],[(s,25,(⟨Av n⟩:Array Value))],f,K] [4] rfl) ?_
        exact⟨d,Aj rfl rfl⟩
       replace d:=iN Y d
       refine rz rfl<|q _ _ ?_
       refine Ai true rfl (fun _=> ?_) (fun h_=>nomatch h_)
       refine AZ rfl ?_
       cases d
       exact aR eV1
      replace d:=ifn (ne_of_beq_false (Cd X)) d
      refine rz rfl<|q _ _ ?_
      refine Ai true rfl (fun _=> ?_) (fun h_=>nomatch h_)
      refine AZ rfl ?_
      cases d
      exact aR eV1
     replace d:=ifn (ne_of_beq_false (Cd W)) d
     refine rz rfl<|q _ _ ?_
     refine Cx [(7,U a),(16,g),(114,vB true)] rfl (fun T=> ?_)
     refine Ai true rfl (fun _=> ?_) (fun h_=>nomatch h_)
     refine AZ rfl ?_
     cases d
     exact aR eV1
    replace d:=ifn (ne_of_beq_false (Cd S)) d
    refine rz rfl<|q _ _ ?_
    refine Cx [(7,U a),(16,g),(114,vB true)] rfl (fun T=> ?_)
    refine Ai true rfl (fun _=> ?_) (fun h_=>nomatch h_)
    refine AZ rfl ?_
    cases d
    exact aR eV1
   replace d:=iN R d
   refine rz rfl<|q _ _ ?_
   refine Cx [(7,U a),(16,g),(114,vB true)] rfl (fun T=> ?_)
   refine Ai true rfl (fun _=> ?_) (fun h_=>nomatch h_)
   refine AZ rfl ?_
   cases d
   exact aR eV1
  clear d;rintro t l ⟨d,⟨T,rfl⟩,rfl⟩
  unfold Bm at d
  refine Ae fun ec aa=>An<|rn 1 rfl<|kB d fun br cy d=>gV _ (cF Uz) (fun o w z_=>(Does.inv (PX N y _ cy z_.view g ((Ar A (Af (Ls:=[f]) (k:=0) rfl rfl)) o w z_)) _))<|rn 1 rfl<|r_X (vB (br==a)) rfl (Vd br a) rfl<|rn 1 rfl ?_
  rcases aw:(br==a)with _|_
  ·replace d:=iG aw d
   refine rz rfl<|aa _ _ ?_
   cases d
   exact aR eV1
  replace d:=iE aw d
  refine r_y rfl<|gB (Ls:=[f]) 3 AX [-1,64] (fun ed cz dm=> ?_)
  refine rn 1 rfl<|r_y rfl<|kC d fun ax d=>cC 122<|KK (cs0:=[]) (Ls:=[f,cz]) 1 (En:=AX) rfl rfl rfl rfl rfl dm rfl (Ar A (Af (Ls:=[f,cz]) (k:=0) rfl rfl)) rfl rfl rfl rfl rfl (KQ ax rfl) (KP ax rfl) rfl (fun dn dp dq=> ?_)
  refine r_y rfl<|kB d fun bs da d=>gV _ (cF Uz) (fun o w z_=>(Does.inv (PX N (([-1,64])++y) _ da z_.view dn ((Ar dq (Af (Ls:=[f,dp]) (k:=1) rfl rfl)) o w z_)) _))<|rn 1 rfl<|r_y rfl<|r_X (vB (bs==a)) rfl (Vd bs a) rfl<|rn 2 rfl ?_
  rcases ay:(bs==a)with _|_
  ·replace d:=iG ay d
   refine rz rfl<|aa _ _ ?_
   cases d
   exact aR eV1
  replace d:=iE ay d
  refine r_y rfl<|kB d fun ee db d=>gV _ (cF ZP) (fun o w z_=>JA N  _ db z_.view)<|rz rfl<|aa _ _ ?_
  cases d
  exact aR eV1
 rcases ab:(decide (slot≥0))with _|_
 ·replace d:=iF ab d
  refine rn 3 rfl ?_
  exact HJ _ _ d rfl rfl
 replace d:=iD ab d
 refine rn 3 rfl ?_
 exact HJ _ _ d rfl rfl
end Go.Proofs.YtajdpjdejpcgnaaGreatDoor
