import Derived.Test.YthmpbldidnmenaaGreatDoorBl
namespace Go.Proofs.YthmpbldidnmenaaGreatDoor
open Go Go.RowKit Go.Eng _root_.Go.Proofs.Tryz
set_option linter.unusedSimpArgs false
set_option linter.unusedVariables false
set_option maxRecDepth 100000
set_option maxHeartbeats 80000000
abbrev Tl(b:Nat)(x0:Int)(x1:Int)(x2:Int):List Bl:=[(b,42, #[vI x0,vI x1,vI x2])]
theorem qh  :prog.eqGuardType prog.depth 50=false:=by kernel_rfl
set_option maxRecDepth 100000 in
theorem aV {c:Addr→Option Value}(x y:BitVec 64):ev prog c (Op.equal 50 (.agg (Ud x)) (.agg (Ud y)))=some (x==y):=by
 rw [←mO]
 exact db _ _ _ 1 rfl rfl rfl _ (fun j hj=>⟨_,_,Ib (P:=prog) (t:=4) rfl (by intro fs h;cases h) (by intro n e h;cases h) _ _ (by rw [Nat.mul_one];exact ZG _ hj),
   Ib (P:=prog) (t:=4) rfl (by intro fs h;cases h) (by intro n e h;cases h) _ _ (by rw [Nat.mul_one];exact ZG _ hj),XC _ _ _ rfl⟩)
def Dd(N:Nat)(m:An)(c:Int)(a:Int)(b:Int):Option Bool:=(Gz N m a b (BitVec.ofInt 64 c)).bind fun h=>(DD N h).bind fun e=>(DD N (BitVec.ofInt 64 c)).bind fun i=>(Ce N m a (max (-4) (min b 4)) i).bind fun d=>if e=d then(Cf N m.2.2.1).bind fun f=>(Jd N m).bind fun j=>if j=(((1#64<<<(BitVec.ofInt 64 (f.length:Int)).toNat) - 1#64))then(Gw N).bind fun g=>some g else some false else some false
def BI(N:Nat)(m:An)(f:Int)(d:Int)(e:Int)(a:(BitVec 64)×Int)(g:Int)(c:BitVec 64):Option Bool:=if(a.2:Int)≠g then some false else(DD N a.1).bind fun b=>if b=c then Dd N m f d e  else some false
def Fs(N:Nat)(m:An)(f:Int)(h:Int)(c:Int)(b:Int)(i:BitVec 128)(a:Int)(d:Int)(e:Int):Option Bool:=(CK N m).bind fun o=>if o=true then(JZ N m f h c b i (BitVec.ofInt 64 a)).bind fun g=>(Qk N f h c b i).bind fun l=>if(l:Int)≠0 then BI N m a d e g 1 (0#64)else(DD N (BitVec.ofInt 64 a)).bind fun k=>(El N m f h c b i k).bind fun j=>if j.2.2=true then BI N m a d e g 0 j.1 else BI N m a d e g 11 (0#64)else(Gw N).bind fun n=>some n
theorem LC(N m x_0 x_1 x_2 x_3 x_4 n_0 n_1 n_2 r)(a:Fs N m x_0 x_1 x_2 x_3 x_4 n_0 n_1 n_2=some r)(ro)(mv:Ay)(hm:Aa2 ro mv m):DoesI prog 3 #[vA (Ac m mv),vA #[vI x_0,vI x_1,vI x_2,vI x_3,U (hi x_4),U (lo x_4)],vA #[vI n_0,vI n_1,vI n_2]] GC ro [] (pV (vB r)):=by
 unfold Fs at a
 refine AW follows func3 rfl 89 rfl _ fz3 Be (fun Z=> ?_)
 refine Ad<|rA rfl fun s=>rA rfl fun b3=>rA rfl fun v=>rz rfl<|Aa fun K5 aa=>Ad<|rm 1 [2] rfl<|kB a fun r7 ab a=>gV _ (cF rx) (fun o w z_=>(Does.inv (NG N m _ ab z_.view mv (Aa2.mono z_.ro_cell hm)) _))<|rz rfl<|Bv _ rfl (fun C=> ?_) (fun C=> ?_)
 ·replace a:=ifn (Bool.eq_false_iff.1 (CM C)) a
  refine Ad<|kB a fun ai F a=>gV _ (cF jH) (fun o w z_=>KJ N  _ F z_.view)<|rz rfl ?_
  cases a
  exact aR eV1
 replace a:=ifp (CN C) a
 refine Ab<|aa _ _ ?_
 refine Ad<|rm 2 [0] rfl<|r_w (U (BitVec.ofInt 64 n_0)) rfl rfl (TU n_0) (fun _=>rfl)<|rz rfl<|Ad<|rm 3 [2,1] rfl<|kB a fun d G a=>gV _ (cF rv) (fun o w z_=>(Does.inv (Vg N m x_0 x_1 x_2 x_3 x_4 (BitVec.ofInt 64 n_0) _ G z_.view mv (Aa2.mono z_.ro_cell hm)) _))<|rz rfl<|Ad<|r_W (vA (⟨Aw (0#64)⟩:Array Value)) rfl (AS rfl rfl rfl rfl)<|r_a (50,(⟨Aw (0#64)⟩:Array Value)) rfl rfl Ig (fun g=> ?_) (.inr rfl)
 refine ry [0] rfl<|BR (fun tt ll=> ∃(u:Int) (h:BitVec 64),(BI N m n_0 n_1 n_2 d u h=some r)∧Is [(3,vP s 0),(5,vP v 0),(7,U (BitVec.ofInt 64 n_0)),(8,U d.1),(9,vI d.2),(10,vP g 0),(11,vI u)] [(g,50,(⟨Aw h⟩:Array Value)),(v,42, #[vI n_0,vI n_1,vI n_2]),(s,35,(Ac m mv))] tt ll) ?_ ?_
 ·refine Ad<|rm 1 [2] rfl<|kB a fun aj H a=>rc _ (cF jG) (dI N x_0 x_1 x_2 x_3 x_4 _ H)<|rz rfl<|aN a rfl (fun I a=> ?_) (fun I a=> ?_)
  ·refine Ag<|rz rfl<|fg _ (Sub.of (suK _ (suK _ (suC _ (suK _ suN))))) ?_
   exact⟨1,0#64,a,Af rfl rfl⟩
  refine Aa fun ak J=>Bw [(some 40,false)] (conG prog [(40,fun _ _ v_ L_ U_=> ∀e,DD N (BitVec.ofInt 64 n_0)=some e→ ∀f,El N m x_0 x_1 x_2 x_3 x_4 e=some f→(pV (vT #[vA (⟨Aw f.1⟩:Array Value),vA (⟨Aw f.2.1⟩:Array Value),vB f.2.2])) v_ L_ U_)]) [] (by decide+kernel) (fun hn=>AH)<|rm 3 [3,2] rfl<|kB a fun ac i a=>rc _ (cF Zg) (If N (BitVec.ofInt 64 n_0) _ i)<|kB a fun c j a=>rg _ (cF ru) (fun o w z_=>(Does.inv (Od N m x_0 x_1 x_2 x_3 x_4 ac _ j z_.view mv (Aa2.mono z_.ro_cell hm)) _)) (fun _ _ v_ L_ U_=>⟨fun h_=>h_ _ i _ j,fun h_=>by intro _ e_;cases q1 (e_.symm.trans i);intro _ e_;cases q1 (e_.symm.trans j);exact h_⟩) ?_
  refine rn 4 rfl<|r_a (50,(⟨Aw (0#64)⟩:Array Value)) rfl rfl Ig (fun D=> ?_) (.inl rfl)
  refine r_a (50,(⟨Aw (0#64)⟩:Array Value)) rfl rfl Ig (fun K=> ?_) (.inl rfl)
  refine Yl [(K,50,(⟨Aw (0#64)⟩:Array Value)),(D,50,(⟨Aw c.1⟩:Array Value)),(g,50,(⟨Aw (0#64)⟩:Array Value)),(v,42, #[vI n_0,vI n_1,vI n_2]),(b3,41, #[vI x_0,vI x_1,vI x_2,vI x_3,U (hi x_4),U (lo x_4)]),(s,35,(Ac m mv))] 1 _ _ _ (⟨Aw (0#64)⟩:Array Value) (⟨Aw c.1⟩:Array Value) (⟨Aw c.1⟩:Array Value) rfl rfl rfl rfl rfl (.of rfl rfl) rfl rfl ?_
  refine Yl [(K,50,(⟨Aw c.2.1⟩:Array Value)),(D,50,(⟨Aw c.1⟩:Array Value)),(g,50,(⟨Aw (0#64)⟩:Array Value)),(v,42, #[vI n_0,vI n_1,vI n_2]),(b3,41, #[vI x_0,vI x_1,vI x_2,vI x_3,U (hi x_4),U (lo x_4)]),(s,35,(Ac m mv))] 0 _ _ _ (⟨Aw (0#64)⟩:Array Value) (⟨Aw c.2.1⟩:Array Value) (⟨Aw c.2.1⟩:Array Value) rfl rfl rfl rfl rfl (.of rfl rfl) rfl rfl<|rz rfl<|J _ _ ?_
  refine Gm [(3,vP s 0),(5,vP v 0),(7,U (BitVec.ofInt 64 n_0)),(8,U d.1),(9,vI d.2),(10,vP g 0),(11,vI 0),(12,vP D 0),(14,vB c.2.2)] rfl (fun T=> ?_)
  refine AZ rfl<|aB a rfl (fun L a=> ?_) (fun L a=> ?_)
  ·refine Ag<|ry [1,2] rfl<|fg _ (Sub.of (suC _ (suC _ (suK _ (suK _ (suC _ (suK _ suN))))))) ?_
   exact⟨0,c.1,a,Af rfl rfl⟩
  refine Ag<|rz rfl<|fg _ (Sub.of (suC _ (suC _ (suK _ (suK _ (suC _ (suK _ suN))))))) ?_
  exact⟨11,0#64,a,Af rfl rfl⟩
 clear a;rintro t l ⟨u,h,a,⟨T,rfl⟩,rfl⟩
 unfold BI at a
 refine BR (fun tt ll=>(Dd N m n_0 n_1 n_2  =some r)∧Is [(3,vP s 0),(5,vP v 0),(7,U (BitVec.ofInt 64 n_0))] [(v,42, #[vI n_0,vI n_1,vI n_2]),(s,35,(Ac m mv))] tt ll) ?_ ?_
 ·refine Aa fun al x=>Hb [] (by decide+kernel) (fun hn=>AH)<|rn 4 rfl ?_
  rcases y:(d.2 !=u)with _|_
  ·replace a:=iM y a
   refine rn 1 rfl<|r_y rfl<|kB a fun M O a=>rc _ (cF Zg) (If N d.1 _ O)<|r_y rfl<|rm 1 [0] rfl<|r_y rfl<|r_W (vB (!(M==h))) rfl (RN rfl rfl qh (aV M h))<|rz rfl<|x _ _ ?_
   refine Bv _ rfl (fun k=> ?_) (fun k=> ?_)
   ·replace a:=ifn (ne_of_beq_false (CM k)) a
    refine AZ rfl ?_
    cases a
    exact aR eV1
   replace a:=ifp (eq_of_beq (CN k)) a
   refine Ab<|fg _ (Sub.of (suC _ (suK _ (suK _ suN)))) ?_
   exact⟨a,Af rfl rfl⟩
  replace a:=iN y a
  refine rz rfl<|x _ _ ?_
  refine Lq rfl ?_
  refine AZ rfl ?_
  cases a
  exact aR eV1
 clear a;rintro t l ⟨a,⟨T,rfl⟩,rfl⟩
 unfold Dd at a
 refine Ad<|rm 2 [0] rfl<|r_W (vI (min n_2 4)) rfl (cX rfl rfl)<|r_W (vI (max (-4) (min n_2 4))) rfl (cY rfl rfl)<|rz rfl<|Aa fun am P=>Aa fun an Q=> ?_
 refine Bw [(some 65,false),(some 73,false)] (conG prog [(65,cV (Gz N m n_1 n_2 (BitVec.ofInt 64 n_0)) fun e=>U e),(73,fun _ _ v_ L_ U_=> ∀e,DD N (BitVec.ofInt 64 n_0)=some e→ ∀f,Ce N m n_1 (max (-4) (min n_2 4)) e=some f→(pV (vA (⟨Aw f⟩:Array Value))) v_ L_ U_)]) [] (by decide+kernel) (fun hn=>AH)<|rm 6 [1,0,0] rfl<|kB a fun ad z a=>rg _ (cF eO) (fun o w z_=>(Does.inv (PT N m n_1 n_2 (BitVec.ofInt 64 n_0) _ z z_.view mv (Aa2.mono z_.ro_cell hm)) _)) (GB z)<|kB a fun R S a=>rc _ (cF Zg) (If N ad _ S)<|rm 5 [1,0] rfl<|kB a fun ae n a=>rc _ (cF Zg) (If N (BitVec.ofInt 64 n_0) _ n)<|kB a fun V p a=>rg _ (cF Zr) (fun o w z_=>(Does.inv (HK N m n_1 (max (-4) (min n_2 4)) ae _ p z_.view mv (Aa2.mono z_.ro_cell hm)) _)) (fun _ _ v_ L_ U_=>⟨fun h_=>h_ _ n _ p,fun h_=>by intro _ e_;cases q1 (e_.symm.trans n);intro _ e_;cases q1 (e_.symm.trans p);exact h_⟩) ?_
 refine r_W (vB (!(R==V))) rfl (RN rfl rfl qh (aV R V))<|Ak<|Q _ _ ?_
 refine Bv _ rfl (fun q=> ?_) (fun q=> ?_)
 ·replace a:=ifn (ne_of_beq_false (CM q)) a
  refine AZ rfl ?_
  cases a
  exact aR eV1
 replace a:=ifp (eq_of_beq (CN q)) a
 refine Ab<|P _ _ ?_
 refine Ad<|rm 2 [1] rfl<|kB a fun b W a=>gS (Ls:=[(Tl v n_0 n_1 n_2),[(s,35,(Ac m mv))]]) (cF RX) (fun o w z_=>(Does.inv (Gq N m.2.2.1 _ W z_.view mv.2.1 ((Au hm.2.1) o w z_)) _)) (fun ao ap af=> ?_)
 refine rL (Sl.shp af) rfl<|rz rfl<|Gm [(3,vP s 0),(16,vI (b.length:Int))] rfl (fun T=> ?_)
 refine Aa fun aq A=>Ag<|rm 1 [1] rfl<|kB a fun E X a=>gV _ (cF pC) (fun o w z_=>(Does.inv (WG N m _ X z_.view mv (Aa2.mono z_.ro_cell hm)) _))<|rn 1 rfl<|r_w (U (BitVec.ofInt 64 (b.length:Int))) rfl rfl (TU (b.length:Int)) (fun _=>rfl)<|r_v (U ((1#64<<<(BitVec.ofInt 64 (b.length:Int)).toNat))) rfl rfl (ql (1#64) (BitVec.ofInt 64 (b.length:Int)).toNat) (jd rfl rfl)<|r_X (U (((1#64<<<(BitVec.ofInt 64 (b.length:Int)).toNat) - 1#64))) rfl (sA ((1#64<<<(BitVec.ofInt 64 (b.length:Int)).toNat)) (1#64)) rfl ?_
 refine r_X (vB (E==(((1#64<<<(BitVec.ofInt 64 (b.length:Int)).toNat) - 1#64)))) rfl (fT E (((1#64<<<(BitVec.ofInt 64 (b.length:Int)).toNat) - 1#64))) rfl<|rn 1 rfl ?_
 rcases B:(E==(((1#64<<<(BitVec.ofInt 64 (b.length:Int)).toNat) - 1#64)))with _|_
 ·replace a:=iG B a
  refine rz rfl<|A _ _ ?_
  cases a
  exact aR eV1
 replace a:=iE B a
 refine r_y rfl<|kB a fun ar Y a=>gV _ (cF jH) (fun o w z_=>KJ N  _ Y z_.view)<|rz rfl<|A _ _ ?_
 cases a
 exact aR eV1
end Go.Proofs.YthmpbldidnmenaaGreatDoor
