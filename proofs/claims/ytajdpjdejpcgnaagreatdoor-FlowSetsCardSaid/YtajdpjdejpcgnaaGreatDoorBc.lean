import Derived.Test.YtajdpjdejpcgnaaGreatDoorBb
namespace Go.Proofs.YtajdpjdejpcgnaaGreatDoor
open Go Go.RowKit Go.Eng _root_.Go.Proofs.Tryz
set_option maxRecDepth 100000
set_option maxHeartbeats 80000000
abbrev Ez(b:Nat)(x0:Value)(x1:Value)(x2:Int)(x3:Int)(x4:Int)(x5:Int):List Bl:=[(b,80, #[x0,x1,vI x2,vI x3,vI x4,vI x5])]
abbrev Cj(b:Nat)(x0:List UInt8)(x1:Value)(x2:Int)(x3:Int)(x4:Int)(x5:Int):List Bl:=[(b,80, #[vS x0,x1,vI x2,vI x3,vI x4,vI x5])]
abbrev Kv(b:Nat)(x0:Value):List Bl:=[(b,84, #[x0])]
abbrev Mf(b:Nat)(x0:Int):List Bl:=[(b,3, #[vI x0])]
abbrev Lz(b:Nat)(x0:BitVec 64)(x1:BitVec 64):List Bl:=[(b,288, #[U x0,U x1])]
abbrev LA(b:Nat)(x0:Int)(x1:BitVec 64)(x2:BitVec 64)(x3:Int)(x4:BitVec 64)(x5:BitVec 64)(x6:Int):List Bl:=[(b,237, #[vI x0,U x1,U x2,vI x3,U x4,U x5,vI x6])]
abbrev RV(b:Nat)(x0:Int)(x1:Int)(x2:Int):List Bl:=[(b,295, #[vI x0,vI x1,vI x2])]
abbrev RW(b:Nat)(x0:Int):List Bl:=[(b,241, #[vI x0])]
abbrev Ey(b:Nat)(x0:List UInt8)(x1:Value)(x2:Value)(x3:Value)(x4:Int):List Bl:=[(b,87, #[vS x0,x1,x2,x3,vI x4])]
abbrev NI(b:Nat)(x0:Value):List Bl:=[(b,163, #[x0])]
abbrev PU(b:Nat)(x0:Value):List Bl:=[(b,149, #[x0])]
def Kr(N:Nat)(s:List UInt8):Option (List UInt8):=(Mi N s).bind fun r3=>some r3
theorem PI(N s r)(a:Kr N s=some r):Gives prog 208 #[vS s] (vS r):=by
 unfold Kr at a
 refine Ao follows func208 rfl 5 rfl _ fz1 (fun b=> ?_)
 refine AZ rfl<|Aa<|rn 1 rfl<|kB a fun d c a=>rc _ (cF Wi) (US N s _ c)<|rz rfl ?_
 cases a
 exact aR eE1
def BO(_:Nat)(s:List (List UInt8×Int)):Option (List (List UInt8×Int)):=ck ((([]:List (List UInt8×Int))).length+(s).length≤5864062014805) (some (([]:List (List UInt8×Int))++s))
theorem EJ(N s r)(a:BO N s=some r)(ro sv)(hs:Rd BG ro sv s):Does prog 209 #[sv] ro [] (p1 (fun s_=>s_) 78 BG r):=by
 unfold BO at a
 refine Ag follows func209 rfl 8 rfl _ fz1 (fun d=> ?_)
 refine AZ rfl<|Ae fun n e=>Ae fun o c=>An<|rn 1 rfl ?_
 rcases Yk (Rd.shp hs)with⟨f,g⟩|hne6
 ·obtain rfl:=f;obtain rfl:=List.eq_nil_of_length_eq_zero g
  replace a:(some ([]))=some r:=(by first|exact a|(simp at a ⊢;exact a))
  refine rz rfl<|c _ _ ?_
  refine Ai true rfl (fun _=> ?_) (fun h_=>nomatch h_)
  refine AZ rfl ?_
  cases a
  refine AO (fun l=>De (v0:=nS) Sl.nil (Sub.nil _) rfl (BP rfl))
 refine r_W (.bool false) rfl (UW rfl rfl rfl (Rd.shp hs) hne6)<|Ah<|c _ _ ?_
 refine Ai false rfl (fun h_=>nomatch h_) (fun _=> ?_)
 refine Ac<|e _ _ ?_
 refine Aa<|gB (Ls:=[]) 78 BG ([]:List (List UInt8×Int)) (fun p m h=> ?_)
 refine rn 1 rfl<|kC a fun b a=>cC 7<|KK (cs0:=[]) (Ls:=[m]) 0 (En:=BG) rfl rfl rfl rfl rfl h rfl (AA hs) rfl rfl rfl rfl rfl (KQ b rfl) (KP b rfl) rfl (fun i j k=> ?_)
 refine rz rfl ?_
 cases a
 refine AO (fun l=>De (v0:=i) k (Cb (Sub.pick [j] [0] rfl)) rfl (BP rfl))
def Eo(N:Nat)(h_2:Int)(h_3:Int)(h_4:Int)(h_5:Int)(r5:List UInt8)(r8:List (List UInt8×Int)):Nat→Int→List (List UInt8×Int)→Option ((List UInt8)×(List (List UInt8×Int))×Int×Int×Int×Int)
  |0,_,_=>none
  |n15+1,x1_,s2_=>if x1_<(r8.length:Int)then ck (0≤x1_∧x1_<(s2_.length:Int)) ((Kr N ((s2_[x1_.toNat]!).1)).bind fun r22=>ck (0≤x1_∧x1_<(s2_.length:Int)) (ck (R64 (x1_+1)) ((Eo N h_2 h_3 h_4 h_5 r5 r8 n15) (x1_+1) ((s2_).set (x1_.toNat) (r22,(s2_[x1_.toNat]!).2)))))else some (r5,s2_,h_2,h_3,h_4,h_5)
def IM(N:Nat)(h_0:List UInt8)(h_1:List (List UInt8×Int))(h_2:Int)(h_3:Int)(h_4:Int)(h_5:Int):Option ((List UInt8)×(List (List UInt8×Int))×Int×Int×Int×Int):=(Kr N h_0).bind fun r5=>(BO N h_1).bind fun r8=>Eo N h_2 h_3 h_4 h_5 r5 r8 N 0 r8
theorem Ql(N h_0 h_1 h_2 h_3 h_4 h_5 r)(c:IM N h_0 h_1 h_2 h_3 h_4 h_5=some r)(ro h_1v)(hh_1:Rd BG ro h_1v h_1):Does prog 197 #[vA #[vS h_0,h_1v,vI h_2,vI h_3,vI h_4,vI h_5]] ro [] (p1 (fun s_=>vA #[vS r.1,s_,vI r.2.2.1,vI r.2.2.2.1,vI r.2.2.2.2.1,vI r.2.2.2.2.2]) 78 BG r.2.1):=by
 unfold IM at c
 refine Ag follows func197 rfl 32 rfl _ fz1 (fun C=> ?_)
 refine Aa<|rA rfl fun m=>rA rfl fun n=>Ah<|Aa<|rm 2 [1] rfl<|kB c fun g D c=>rc _ (cF SP) (PI N h_0 _ D)<|ry [1] rfl<|Aa<|rm 2 [1] rfl<|kB c fun E F c=>gS (Ls:=[(Ez n (Value.string (⟨#[]⟩)) nS 0 0 0 0),(Cj m g h_1v h_2 h_3 h_4 h_5)]) (cF Wl) (fun o w z_=>EJ N h_1 _ F z_.view h_1v (z_.r hh_1)) (fun a q p=> ?_)
 refine rn 1 rfl<|r_s (List.flatten [(Ez n (Value.string (⟨#[]⟩)) nS 0 0 0 0),(Cj m g a h_2 h_3 h_4 h_5),q]) 1 _ _ _ _ _ (#[vS g,a,vI h_2,vI h_3,vI h_4,vI h_5]) rfl rfl rfl (BZ rfl (Sl.shp p)) (.ofS rfl rfl (Ad (Shp.one (Sl.shp p)) Bf)) rfl rfl<|Ah<|Ae fun I s=>Aa<|rm 2 [1] rfl<|rL (Sl.shp p) rfl<|rz rfl<|Am ?_
 refine BH _ (Sub.pick [(Ez n (Value.string (⟨#[]⟩)) nS 0 0 0 0),(Cj m g a h_2 h_3 h_4 h_5),q] [0,1,2] rfl)<|AS (fun tt ll nn=> ∃(h:Nat) (e:Int) (f:List (List UInt8×Int)),(Eo N h_2 h_3 h_4 h_5 g E h e f=some r)∧ ∃(d:List Bl),Sl 78 BG a f d∧Is [(1,vP m 0),(2,vP n 0),(14,vI (E.length:Int)),(15,vI e)] (List.flatten [(Ez n (Value.string (⟨#[]⟩)) nS 0 0 0 0),(Cj m g a h_2 h_3 h_4 h_5),d]) tt ll∧nn=h+1) (N+1) ?_ ?_
 ·exact⟨N,0,E,c,q,p,Aj rfl rfl,rfl⟩
 clear c;rintro t l _ ⟨h,e,f,c,d,b,⟨⟨T,rfl⟩,rfl⟩,rfl⟩
 rcases h with _|h
 ·exact absurd c (by simp [Eo])
 rw [Eo] at c
 refine AZ rfl<|Ae fun J u=>aD c rfl (fun v c=> ?_) (fun v c=> ?_)
 ·refine Ac<|u _ _ ?_
  refine Ae fun K x=>Am<|AZ rfl<|Js [] (by decide+kernel) (fun H=>AW)<|rm 6 [1,1] rfl<|kC c fun i c=>rI (Sl.shp b) i rfl<|rF (Sl.shp b) (Di i) rfl<|rE (Ar b (Af (Ls:=[(Ez n (Value.string (⟨#[]⟩)) nS 0 0 0 0),(Cj m g a h_2 h_3 h_4 h_5),d]) (k:=2) rfl rfl)) i 0 rfl<|kB c fun y z c=>rc _ (cF SP) (PI N ((f[e.toNat]!).1) _ z)<|kC c fun j c=>rI (Sl.shp b) j rfl<|rF (Sl.shp b) (Di j) rfl<|MI (Ls:=[(Ez n (Value.string (⟨#[]⟩)) nS 0 0 0 0),(Cj m g a h_2 h_3 h_4 h_5),d]) 2 (En:=BG) (f[e.toNat]!) (y,(f[e.toNat]!).2) (e.toNat) 0 rfl rfl rfl b (Cs j) rfl rfl rfl (Ew rfl) rfl (fun A G=> ?_)
  refine Ah<|x _ _ ?_
  refine An<|kC c fun B c=>rX B rfl<|rz rfl<|fg _ (Sub.pick [(Ez n (Value.string (⟨#[]⟩)) nS 0 0 0 0),(Cj m g a h_2 h_3 h_4 h_5),A] [0,1,2] rfl) ?_
  exact⟨h+1,by omega,h,(e+1),(f).set (e.toNat) (y,(f[e.toNat]!).2),c,A,G,Aj rfl rfl,rfl⟩
 refine AT<|s _ _ ?_
 refine Aa<|rm 1 [1] rfl<|r_s (List.flatten [(Cj n g a h_2 h_3 h_4 h_5),(Cj m g a h_2 h_3 h_4 h_5),d]) 0 _ _ _ _ _ (#[vS g,a,vI h_2,vI h_3,vI h_4,vI h_5]) rfl rfl rfl rfl (.ofS rfl rfl (Ad rfl (Ad (Shp.one (Sl.shp b)) (Ad rfl (Ad rfl (Ad rfl (Ad rfl Bf))))))) rfl rfl<|Ah ?_
 cases c
 refine AO (fun H=>De (v0:=vA #[vS g,a,vI h_2,vI h_3,vI h_4,vI h_5]) b (Cb (Sub.pick [(Cj n g a h_2 h_3 h_4 h_5),(Cj m g a h_2 h_3 h_4 h_5),d] [2] rfl)) rfl (BP (AP H 0 rfl rfl rfl)))
def JC(N:Nat)(headers:List ((List UInt8)×(List (List UInt8×Int))×Int×Int×Int×Int))(l':List (List UInt8×Int×Int))(r4:Int×Int×Bool):Option ((List UInt8)×(List (List UInt8×Int))×Int×Int×Int×Int×Bool):=ck (0≤r4.1∧r4.1<(l'.length:Int)) (ck (0≤(l'[(r4.1).toNat]!).2.1∧(l'[(r4.1).toNat]!).2.1<(headers.length:Int)) ((IM N (headers[((l'[(r4.1).toNat]!).2.1).toNat]!.1) (headers[((l'[(r4.1).toNat]!).2.1).toNat]!.2.1) (headers[((l'[(r4.1).toNat]!).2.1).toNat]!.2.2.1) (headers[((l'[(r4.1).toNat]!).2.1).toNat]!.2.2.2.1) (headers[((l'[(r4.1).toNat]!).2.1).toNat]!.2.2.2.2.1) (headers[((l'[(r4.1).toNat]!).2.1).toNat]!.2.2.2.2.2)).bind fun r12=>some (r12.1,r12.2.1,r12.2.2.1,r12.2.2.2.1,r12.2.2.2.2.1,r12.2.2.2.2.2,true)))
def KV(N:Nat)(headers:List ((List UInt8)×(List (List UInt8×Int))×Int×Int×Int×Int))(l':List (List UInt8×Int×Int))(slot:Int):Option ((List UInt8)×(List (List UInt8×Int))×Int×Int×Int×Int×Bool):=(Nq N l' slot).bind fun r4=>if r4.2.2=true then ck (0≤r4.1∧r4.1<(l'.length:Int)) (ck ((R64 ((headers.length:Int) - 1))) ((Cp N ((l'[(r4.1).toNat]!).2.1) 0 ((headers.length:Int) - 1)).bind fun r21=>if r21=true then JC N headers l' r4  else some ([],[],0,0,0,0,false)))else some ([],[],0,0,0,0,false)
theorem Tu(N headers l' slot r)(b:KV N headers l' slot=some r)(ro headersv)(hheaders:RdN EE ro headersv headers)(l'v)(hl':Rd FH ro l'v l'):Does prog 167 #[headersv,l'v,vI slot] ro [] (p1 (fun s_=>vT #[vA #[vS r.1,s_,vI r.2.2.1,vI r.2.2.2.1,vI r.2.2.2.2.1,vI r.2.2.2.2.2.1],vB r.2.2.2.2.2.2]) 78 BG r.2.1):=by
 unfold KV at b
 refine Ag follows func167 rfl 42 rfl _ fz3 (fun x=> ?_)
 refine Aa<|rA rfl fun f=>rz rfl<|Aa<|rn 2 rfl<|kB b fun c y b=>gV _ (cF OM) (fun o w z_=>Ts N l' slot _ y z_.view l'v ((AA hl') o w z_))<|rz rfl<|BW (fun tt ll=>(JC N headers l' c  =some r)∧Is [(0,headersv),(1,l'v),(6,vP f 0),(8,vI c.1)] (Ez f (Value.string (⟨#[]⟩)) nS 0 0 0 0) tt ll) ?_ ?_
 ·refine Ae fun A h=>An<|rn 3 rfl ?_
  rcases i:(!(c.2.2))with _|_
  ·replace b:=ifp (Ce i) b
   refine rn 2 rfl<|r_y rfl<|kC b fun d b=>rI (Rd.shp hl') d rfl<|r_y rfl<|rF (Rd.shp hl') (Di d) rfl<|r_y rfl<|rE (AA hl') d 1 rfl<|rn 1 rfl<|r_y rfl<|rL (RdN.shp hheaders) rfl<|r_y rfl<|kC b fun k b=>rX k rfl<|r_y rfl<|kB b fun B m b=>rc _ (cF Ev) (CP N ((l'[(c.1).toNat]!).2.1) 0 ((headers.length:Int) - 1) _ m)<|rz rfl<|h _ _ ?_
   refine Ai _ rfl (fun e=> ?_) (fun e=> ?_)
   ·replace b:=ifn (Bool.eq_false_iff.1 (Cd e)) b
    refine Aa<|r_W (vA #[Value.string (⟨#[]⟩),nS,vI 0,vI 0,vI 0,vI 0]) rfl (Aq rfl rfl rfl rfl)<|r_s (Ez f (Value.string (⟨#[]⟩)) nS 0 0 0 0) 0 _ _ _ _ _ (#[Value.string (⟨#[]⟩),nS,vI 0,vI 0,vI 0,vI 0]) rfl rfl rfl rfl (.ofS rfl rfl (Ad rfl (Ad (Shp.one (.inl ⟨rfl,rfl⟩)) (Ad rfl (Ad rfl (Ad rfl (Ad rfl Bf))))))) rfl rfl<|rz rfl<|Cx [(6,vP f 0),(7,vB false)] rfl (fun T=> ?_)
    cases b
    refine AO (fun n=>De (v0:=vT #[vA #[Value.string (⟨#[]⟩),nS,vI 0,vI 0,vI 0,vI 0],vB false]) Sl.nil (Sub.nil _) rfl (Iu (AP n 0 rfl rfl rfl) rfl))
   replace b:=ifp (Ce e) b
   refine Ac<|fg _ (Sub.of (suK _ suN)) ?_
   exact⟨b,Aj rfl rfl⟩
  replace b:=ifn (Bool.eq_false_iff.1 (Cd i)) b
  refine rz rfl<|h _ _ ?_
  refine Ai true rfl (fun _=> ?_) (fun h_=>nomatch h_)
  refine Aa<|r_W (vA #[Value.string (⟨#[]⟩),nS,vI 0,vI 0,vI 0,vI 0]) rfl (Aq rfl rfl rfl rfl)<|r_s (Ez f (Value.string (⟨#[]⟩)) nS 0 0 0 0) 0 _ _ _ _ _ (#[Value.string (⟨#[]⟩),nS,vI 0,vI 0,vI 0,vI 0]) rfl rfl rfl rfl (.ofS rfl rfl (Ad rfl (Ad (Shp.one (.inl ⟨rfl,rfl⟩)) (Ad rfl (Ad rfl (Ad rfl (Ad rfl Bf))))))) rfl rfl<|rz rfl<|Cx [(6,vP f 0),(7,vB false)] rfl (fun T=> ?_)
  cases b
  refine AO (fun n=>De (v0:=vT #[vA #[Value.string (⟨#[]⟩),nS,vI 0,vI 0,vI 0,vI 0],vB false]) Sl.nil (Sub.nil _) rfl (Iu (AP n 0 rfl rfl rfl) rfl))
 clear b;rintro t l ⟨b,⟨T,rfl⟩,rfl⟩
 unfold JC at b
 refine Aa<|rn 3 rfl<|kC b fun j b=>rI (Rd.shp hl') j rfl<|rF (Rd.shp hl') (Di j) rfl<|rE (AA hl') j 1 rfl<|kC b fun p b=> ?_
 obtain⟨_,⟨z,q,rfl⟩,hat11⟩:=RdN.at (E:=EE) hheaders (Cs p)
 refine rI (RdN.shp hheaders) p rfl ?_
 refine Nt (vA #[vS (headers[((l'[(c.1).toNat]!).2.1).toNat]!.1),z,vI (headers[((l'[(c.1).toNat]!).2.1).toNat]!.2.2.1),vI (headers[((l'[(c.1).toNat]!).2.1).toNat]!.2.2.2.1),vI (headers[((l'[(c.1).toNat]!).2.1).toNat]!.2.2.2.2.1),vI (headers[((l'[(c.1).toNat]!).2.1).toNat]!.2.2.2.2.2)]) (vs:=[vS (headers[((l'[(c.1).toNat]!).2.1).toNat]!.1),z,vI (headers[((l'[(c.1).toNat]!).2.1).toNat]!.2.2.1),vI (headers[((l'[(c.1).toNat]!).2.1).toNat]!.2.2.2.1),vI (headers[((l'[(c.1).toNat]!).2.1).toNat]!.2.2.2.2.1),vI (headers[((l'[(c.1).toNat]!).2.1).toNat]!.2.2.2.2.2)]) (((l'[(c.1).toNat]!).2.1).toNat*6) 0 rfl rfl (fun o w z_=>At.mono z_.ro_cell hat11) rfl<|kB b fun a s b=>gS (Ls:=[(Ez f (Value.string (⟨#[]⟩)) nS 0 0 0 0)]) (cF Wu) (fun o w z_=>Ql N (headers[((l'[(c.1).toNat]!).2.1).toNat]!.1) (headers[((l'[(c.1).toNat]!).2.1).toNat]!.2.1) (headers[((l'[(c.1).toNat]!).2.1).toNat]!.2.2.1) (headers[((l'[(c.1).toNat]!).2.1).toNat]!.2.2.2.1) (headers[((l'[(c.1).toNat]!).2.1).toNat]!.2.2.2.2.1) (headers[((l'[(c.1).toNat]!).2.1).toNat]!.2.2.2.2.2) _ s z_.view z (z_.r q)) (fun g u v=> ?_)
 refine r_s (List.flatten [(Cj f a.1 g a.2.2.1 a.2.2.2.1 a.2.2.2.2.1 a.2.2.2.2.2),u]) 0 _ _ _ _ _ (#[vS a.1,g,vI a.2.2.1,vI a.2.2.2.1,vI a.2.2.2.2.1,vI a.2.2.2.2.2]) rfl rfl rfl rfl (.ofS rfl rfl (Ad rfl (Ad (Shp.one (Sl.shp v)) (Ad rfl (Ad rfl (Ad rfl (Ad rfl Bf))))))) rfl rfl<|rz rfl ?_
 cases b
 refine AO (fun n=>De (v0:=vT #[vA #[vS a.1,g,vI a.2.2.1,vI a.2.2.2.1,vI a.2.2.2.2.1,vI a.2.2.2.2.2],vB true]) v (Cb (Sub.pick [(Cj f a.1 g a.2.2.1 a.2.2.2.1 a.2.2.2.2.1 a.2.2.2.2.2),u] [1] rfl)) rfl (Iu (AP n 0 rfl rfl rfl) rfl))
def Hu(N:Nat)(m:AF)(slot:Int):Option ((List UInt8)×(List (List UInt8×Int))×Int×Int×Int×Int×Bool):=(KV N m.2.1 m.2.2.1 slot).bind fun r5=>some (r5.1,r5.2.1,r5.2.2.1,r5.2.2.2.1,r5.2.2.2.2.1,r5.2.2.2.2.2.1,r5.2.2.2.2.2.2)
theorem MC(N m slot r)(b:Hu N m slot=some r)(ro)(mv:AE)(hm:Bun59R ro mv m):Does prog 103 #[vA (Ab m mv),vI slot] ro [] (p1 (fun s_=>vT #[vA #[vS r.1,s_,vI r.2.2.1,vI r.2.2.2.1,vI r.2.2.2.2.1,vI r.2.2.2.2.2.1],vB r.2.2.2.2.2.2]) 78 BG r.2.1):=by
 unfold Hu at b
 refine Ag follows func103 rfl 14 rfl _ fz2 (fun c=> ?_)
 refine Aa<|rA rfl fun e=>rA rfl fun f=>rz rfl<|Aa<|rm 5 [1,1] rfl<|kB b fun a g b=>gS (Ls:=[(Ez f (Value.string (⟨#[]⟩)) nS 0 0 0 0),[(e,59,(Ab m mv))]]) (cF WN) (fun o w z_=>Tu N m.2.1 m.2.2.1 slot _ g z_.view mv.1 (RdN.mono z_.ro_cell hm.1) mv.2.1 ((AA hm.2.1) o w z_)) (fun d h i=> ?_)
 refine rn 2 rfl<|r_s (List.flatten [(Cj f a.1 d a.2.2.1 a.2.2.2.1 a.2.2.2.2.1 a.2.2.2.2.2.1),[(e,59,(Ab m mv))],h]) 0 _ _ _ _ _ (#[vS a.1,d,vI a.2.2.1,vI a.2.2.2.1,vI a.2.2.2.2.1,vI a.2.2.2.2.2.1]) rfl rfl rfl rfl (.ofS rfl rfl (Ad rfl (Ad (Shp.one (Sl.shp i)) (Ad rfl (Ad rfl (Ad rfl (Ad rfl Bf))))))) rfl rfl<|rz rfl ?_
 cases b
 refine AO (fun j=>De (v0:=vT #[vA #[vS a.1,d,vI a.2.2.1,vI a.2.2.2.1,vI a.2.2.2.2.1,vI a.2.2.2.2.2.1],vB a.2.2.2.2.2.2]) i (Cb (Sub.pick [(Cj f a.1 d a.2.2.1 a.2.2.2.1 a.2.2.2.2.1 a.2.2.2.2.2.1),[(e,59,(Ab m mv))],h] [2] rfl)) rfl (Iu (AP j 0 rfl rfl rfl) rfl))
def GX(N:Nat)(l':List (List UInt8×Int))(i:Int):Option Bool:=ck ((R64 ((l'.length:Int) - 1))) ((Au N i 0 ((l'.length:Int) - 1)).bind fun r4=>some r4)
theorem NR(N l' i r)(a:GX N l' i=some r)(ro l'v)(hl':Rd BG ro l'v l'):Does prog 104 #[l'v,vI i] ro [] (pV (vB r)):=by
 unfold GX at a
 refine Ag follows func104 rfl 10 rfl _ fz2 (fun b=> ?_)
 refine AZ rfl<|Aa<|rn 2 rfl<|rL (Rd.shp hl') rfl<|kC a fun c a=>rX c rfl<|kB a fun e d a=>rc _ (cF BI) (Ax N i 0 ((l'.length:Int) - 1) _ d)<|rz rfl ?_
 cases a
 exact aR eV1
def HQ(f:Int)(r4:(List UInt8)×(List (List UInt8×Int))×Int×Int×Int×Int×Bool):Option (Int×Bool):=ck (0≤f∧f<(r4.2.1.length:Int)) (some (((r4.2.1)[f.toNat]!).2,true))
def EP(N:Nat)(m:AF)(slot:Int)(f:Int):Option (Int×Bool):=(Hu N m slot).bind fun r4=>if r4.2.2.2.2.2.2=true then(GX N r4.2.1 f).bind fun r14=>if r14=true then HQ f r4  else some (0,false)else some (0,false)
theorem IW(N m slot f r)(b:EP N m slot f=some r)(ro)(mv:AE)(hm:Bun59R ro mv m):Does prog 51 #[vA (Ab m mv),vI slot,vI f] ro [] (pV (vT #[vI r.1,vB r.2])):=by
 unfold EP at b
 refine Ag follows func51 rfl 31 rfl _ fz3 (fun q=> ?_)
 refine Aa<|rA rfl fun s=>rz rfl<|Aa<|rm 2 [0] rfl<|kB b fun a u b=>gS (Ls:=[[(s,59,(Ab m mv))]]) (cF Th) (fun o w z_=>MC N m slot _ u z_.view mv (Bun59R.mono z_.ro_cell hm)) (fun h j n=> ?_)
 refine rn 3 rfl<|rA rfl fun i=>r_s (List.flatten [(Cj i a.1 h a.2.2.1 a.2.2.2.1 a.2.2.2.2.1 a.2.2.2.2.2.1),[(s,59,(Ab m mv))],j]) 0 _ _ _ _ _ (#[vS a.1,h,vI a.2.2.1,vI a.2.2.2.1,vI a.2.2.2.2.1,vI a.2.2.2.2.2.1]) rfl rfl rfl rfl (.ofS rfl rfl (Ad rfl (Ad (Shp.one (Sl.shp n)) (Ad rfl (Ad rfl (Ad rfl (Ad rfl Bf))))))) rfl rfl<|rz rfl<|BW (fun tt ll=>(HQ f a  =some r)∧Is [(2,vI f),(8,vP i 0)] (List.flatten [(Cj i a.1 h a.2.2.1 a.2.2.2.1 a.2.2.2.2.1 a.2.2.2.2.2.1),j]) tt ll) ?_ ?_
 ·refine Ae fun v e=>An<|rn 3 rfl ?_
  rcases g:(!(a.2.2.2.2.2.2))with _|_
  ·replace b:=ifp (Ce g) b
   refine rn 1 rfl<|r_y rfl<|rm 2 [0] rfl<|r_y rfl<|kB b fun x p b=>gV _ (cF XK) (fun o w z_=>NR N a.2.1 f _ p z_.view h ((Ar n (Af (Ls:=[(Cj i a.1 h a.2.2.1 a.2.2.2.1 a.2.2.2.2.1 a.2.2.2.2.2.1),[(s,59,(Ab m mv))],j]) (k:=2) rfl rfl)) o w z_))<|rz rfl<|e _ _ ?_
   refine Ai _ rfl (fun c=> ?_) (fun c=> ?_)
   ·replace b:=ifn (Bool.eq_false_iff.1 (Cd c)) b
    refine AZ rfl ?_
    cases b
    exact aR eV2
   replace b:=ifp (Ce c) b
   refine Ac<|fg _ (Sub.pick [(Cj i a.1 h a.2.2.1 a.2.2.2.1 a.2.2.2.2.1 a.2.2.2.2.2.1),[(s,59,(Ab m mv))],j] [0,2] rfl) ?_
   exact⟨b,Aj rfl rfl⟩
  replace b:=ifn (Bool.eq_false_iff.1 (Cd g)) b
  refine rz rfl<|e _ _ ?_
  refine Ai true rfl (fun _=> ?_) (fun h_=>nomatch h_)
  refine AZ rfl ?_
  cases b
  exact aR eV2
 clear b;rintro t l ⟨b,⟨T,rfl⟩,rfl⟩
 unfold HQ at b
 refine Aa<|rm 3 [0] rfl<|kC b fun d b=>rI (Sl.shp n) d rfl<|rF (Sl.shp n) (Di d) rfl<|rE (Ar n (Af (Ls:=[(Cj i a.1 h a.2.2.1 a.2.2.2.1 a.2.2.2.2.1 a.2.2.2.2.2.1),j]) (k:=1) rfl rfl)) d 1 rfl<|rz rfl ?_
 cases b
 exact aR eV2
def Hv(N:Nat)(m:AF)(i:Int):Option (Int×Bool):=(Au N i 0 7).bind fun r5=>if r5=true then ck (0≤i∧i<8) (some ((BY[i.toNat]!),true))else ck ((R64 (8+(m.2.2.2.1.length:Int)))) (ck ((R64 ((8+(m.2.2.2.1.length:Int)) - 1))) ((Au N i 8 ((8+(m.2.2.2.1.length:Int)) - 1)).bind fun r14=>if r14=true then ck (R64 (i - 8)) (ck (0≤(i - 8)∧(i - 8)<(m.2.2.2.1.length:Int)) (some (((m.2.2.2.1)[((i - 8)).toNat]!).2,true)))else some (0,false)))
theorem MD(N m i r)(a:Hv N m i=some r)(ro)(mv:AE)(hm:Bun59R ro mv m):DoesI prog 52 #[vA (Ab m mv),vI i] CR ro [] (pV (vT #[vI r.1,vB r.2])):=by
 unfold Hv at a
 refine AC follows func52 rfl 27 rfl _ fz2 AG (fun o=> ?_)
 refine Aa<|rA rfl fun w=>rz rfl<|Ae fun x p=>Am<|Aa<|rn 1 rfl<|kB a fun y q a=>rc _ (cF BI) (Ax N i 0 7 _ q)<|rz rfl<|aB a rfl (fun s a=> ?_) (fun s a=> ?_)
 ·refine Aa<|rn 1 rfl<|kC a fun u a=> ?_
  have e:=fun c=>Cf (Fi (P:=prog) (c:=c) (t:=194) (b:=0) (off:=0) (k:= .i64) rfl rfl rfl u)
  simp only [Nat.zero_add] at e
  have f:i.toNat<8:=by omega
  refine r_W (Value.pointer (some ⟨0,i.toNat,none⟩)) rfl (e _)<|cB 11<|bi (vI (BY[i.toNat]!)) rfl rfl rfl rfl rfl (fun _ h_=>KG h_ _ f) (fun _ _ _ _ _=>Iff.rfl)<|rz rfl ?_
  cases a
  exact aR eV2
 refine Aa<|rm 3 [0] rfl<|rL (Rd.shp hm.2.2.1) rfl<|kC a fun g a=>rX g rfl<|kC a fun h a=>rX h rfl<|kB a fun v j a=>rc _ (cF BI) (Ax N i 8 ((8+(m.2.2.2.1.length:Int)) - 1) _ j)<|rz rfl<|aB a rfl (fun l a=> ?_) (fun l a=> ?_)
 ·refine Aa<|rm 3 [0] rfl<|kC a fun n a=>rX n rfl<|kC a fun d a=>rI (Rd.shp hm.2.2.1) d rfl<|rF (Rd.shp hm.2.2.1) (Di d) rfl<|rE (AA hm.2.2.1) d 1 rfl<|rz rfl ?_
  cases a
  exact aR eV2
 refine Ac<|p _ _ ?_
 refine AZ rfl ?_
 cases a
 exact aR eV2
def Ei(N:Nat)(m:AF)(k_0:Int)(k_1:Int)(k_2:Int):Option (Int×Bool):=if k_0=0 then(EP N m k_1 k_2).bind fun r9=>some (r9.1,r9.2)else if k_0=1 then(Hv N m k_1).bind fun r14=>some (r14.1,r14.2)else if k_0=2 then some (k_2,true)else some (0,false)
theorem IC(N m k_0 k_1 k_2 r)(a:Ei N m k_0 k_1 k_2=some r)(ro)(mv:AE)(hm:Bun59R ro mv m):DoesI prog 207 #[vA (Ab m mv),vA #[vI k_0,vI k_1,vI k_2]] CR ro [] (pV (vT #[vI r.1,vB r.2])):=by
 unfold Ei at a
 refine AC follows func207 rfl 30 rfl _ fz2 AG (fun f=> ?_)
 refine Aa<|rA rfl fun j=>rA rfl fun k=>rz rfl<|Ae fun l g=>AY [0] rfl<|Am<|AZ rfl<|aE a rfl (fun h a=> ?_) (fun h a=> ?_)
 ·refine Aa<|rm 5 [1,0,0] rfl<|kB a fun n b a=>gV _ (cF RA) (fun o w z_=>(Does.inv (IW N m k_1 k_2 _ b z_.view mv (Bun59R.mono z_.ro_cell hm)) _))<|rz rfl ?_
  cases a
  exact aR eV2
 refine AZ rfl<|aE a rfl (fun c a=> ?_) (fun c a=> ?_)
 ·refine Aa<|rm 3 [1,0] rfl<|kB a fun i d a=>gV _ (cF Uv) (fun o w z_=>MD N m k_1 _ d z_.view mv (Bun59R.mono z_.ro_cell hm))<|rz rfl ?_
  cases a
  exact aR eV2
 refine AZ rfl<|aE a rfl (fun e a=> ?_) (fun e a=> ?_)
 ·refine AY [0] rfl ?_
  cases a
  exact aR eV2
 refine Ac<|g _ _ ?_
 refine AZ rfl ?_
 cases a
 exact aR eV2
def FV(N:Nat)(m:AF)(l':List (Int×Int×Int)):Nat→Int→Int→Option (Int×Bool)
  |0,_,_=>none
  |n6+1,total1_,x2_=>if x2_<(l'.length:Int)then ck (0≤x2_∧x2_<(l'.length:Int)) ((Ei N m ((l'[x2_.toNat]!).1) ((l'[x2_.toNat]!).2.1) ((l'[x2_.toNat]!).2.2)).bind fun r15=>if r15.2=true then ck (R64 (128 - total1_)) ((Au N r15.1 1 (128 - total1_)).bind fun r21=>if r21=true then ck (R64 (total1_+r15.1)) (ck (R64 (x2_+1)) ((FV N m l' n6) (total1_+r15.1) (x2_+1)))else some (0,false))else some (0,false))else some (total1_,true)
def IV(N:Nat)(m:AF)(l':List (Int×Int×Int)):Option (Int×Bool):=FV N m l' N 0 0
theorem NL(N m l' r)(b:IV N m l'=some r)(ro)(mv:AE)(hm:Bun59R ro mv m)(l'v)(hl':Rd CN ro l'v l'):DoesI prog 180 #[vA (Ab m mv),l'v] CR ro [] (pV (vT #[vI r.1,vB r.2])):=by
 unfold IV at b
 refine AC follows func180 rfl 37 rfl _ fz2 AG (fun v=> ?_)
 refine Aa<|rA rfl fun A=>rz rfl<|AZ rfl<|Ae fun G x=>Aa<|rn 1 rfl<|rL (Rd.shp hl') rfl<|rz rfl<|Am<|AS (fun tt ll nn=> ∃(h:Nat) (a:Int) (c:Int),(FV N m l' h a c=some r)∧Is [(2,vP A 0),(6,vI a),(11,l'v),(12,vI (l'.length:Int)),(13,vI c)] [(A,59,(Ab m mv))] tt ll∧nn=h+1) (N+1) ?_ ?_
 ·exact⟨N,0,0,b,Aj rfl rfl,rfl⟩
 clear b;rintro t l _ ⟨h,a,c,b,⟨⟨T,rfl⟩,rfl⟩,rfl⟩
 rcases h with _|h
 ·exact absurd b (by simp [FV])
 rw [FV] at b
 refine AZ rfl<|Ae fun H y=>aD b rfl (fun z b=> ?_) (fun z b=> ?_)
 ·refine Ac<|y _ _ ?_
  refine Ae fun B j=>Am<|Aa<|kC b fun f b=>rI (Rd.shp hl') f rfl<|rE (AA hl') f 0 rfl<|rA rfl fun C=>ry [0] rfl<|Aa<|rm 2 [1,0] rfl<|kB b fun i k b=>gV _ (cF SQ) (fun o w z_=>IC N m ((l'[c.toNat]!).1) ((l'[c.toNat]!).2.1) ((l'[c.toNat]!).2.2) _ k z_.view mv (Bun59R.mono z_.ro_cell hm))<|rz rfl<|Ae fun D n=>Ae fun E g=>An<|rn 3 rfl ?_
  rcases d:(!(i.2))with _|_
  ·replace b:=ifp (Ce d) b
   refine rn 2 rfl<|r_y rfl<|kC b fun p b=>rX p rfl<|r_y rfl<|kB b fun F q b=>rc _ (cF BI) (Ax N i.1 1 (128 - a) _ q)<|rz rfl<|g _ _ ?_
   refine Ai _ rfl (fun e=> ?_) (fun e=> ?_)
   ·replace b:=ifn (Bool.eq_false_iff.1 (Cd e)) b
    refine AZ rfl<|Cx [(4,vI 0),(5,vB false)] rfl (fun T=> ?_)
    cases b
    exact aR eV2
   replace b:=ifp (Ce e) b
   refine Ac<|n _ _ ?_
   refine An<|rn 2 rfl<|kC b fun s b=>rX s rfl<|rz rfl<|j _ _ ?_
   refine An<|kC b fun u b=>rX u rfl<|rz rfl<|fg _ (Sub.of (suC _ (suK _ suN))) ?_
   exact⟨h+1,by omega,h,(a+i.1),(c+1),b,Aj (by first|rfl|(simp only [d];done)|(simp only [d];rfl)|(simp only [CC];rfl)) rfl,rfl⟩
  replace b:=ifn (Bool.eq_false_iff.1 (Cd d)) b
  refine rz rfl<|g _ _ ?_
  refine Ai true rfl (fun _=> ?_) (fun h_=>nomatch h_)
  refine AZ rfl<|Cx [(4,vI 0),(5,vB false)] rfl (fun T=> ?_)
  cases b
  exact aR eV2
 refine AT<|x _ _ ?_
 refine AZ rfl ?_
 cases b
 exact aR eV2
def Dw(N:Nat)(c:AF)(key:List (Int×Int×Int)):Option Int:=(IV N c key).bind fun r5=>some r5.1
theorem Px(N c key r)(e:Dw N c key=some r)(ro)(cv:AE)(hc:Bun59R ro cv c)(keyv)(hkey:Rd CN ro keyv key):DoesI prog 135 #[vA (Ab c cv),keyv] CR ro [] (pO [] (oB 84 #[keyv] fun b_0=>(oB 3 #[vI r] fun b_1=>(oB 90 (Ab c cv) fun b_2=>(oE (vF 181 #[] #[vP b_0 0,vP b_1 0,vP b_2 0]) []))))):=by
 unfold Dw at e
 refine BA follows func135 rfl 15 rfl _ fz2 AG (fun f=> ?_)
 refine Aa<|rA rfl fun a=>r_a (84, #[keyv]) rfl rfl (Hp rfl (Rd.shp hkey)) (fun b=> ?_) (.inr rfl)
 refine rz rfl<|Aa<|rm 3 [1,0] rfl<|kB e fun h g e=>gV _ (cF SR) (fun o w z_=>NL N c key _ g z_.view cv (Bun59R.mono z_.ro_cell hc) keyv (z_.r hkey))<|rn 3 rfl<|rA rfl fun d=>ry [0] rfl<|Aa<|r_W (vF 181 #[] #[vP b 0,vP d 0,vP a 0]) rfl (Db rfl)<|rz rfl ?_
 cases e
 refine AO (fun i=>Cw (v0:=vF 181 #[] #[vP b 0,vP d 0,vP a 0]) (O:=[(Kv b keyv),(Mf d h.1),[(a,90,(Ab c cv))]]) (BP rfl) (Sub.pick [(Mf d h.1),(Kv b keyv),[(a,90,(Ab c cv))]] [1,0,2] rfl) ⟨b,_,⟨d,_,⟨a,_,⟨rfl,rfl⟩,rfl⟩,rfl⟩,rfl⟩)
def GF(_:Nat)(_:Int)(v_1:BitVec 128):Option (BitVec 128):=some v_1
theorem KT(N v_0 v_1 r)(b:GF N v_0 v_1=some r):Gives prog 183 #[vA #[vI v_0,U (hi v_1),U (lo v_1)]] (vA #[U (hi r),U (lo r)]):=by
 unfold GF at b
 refine Ao follows func183 rfl 8 rfl _ fz1 (fun a=> ?_)
 refine Aa<|rA rfl fun c=>rA rfl fun e=>Ah<|Aa<|r_V (vP c 1) rfl<|rl (U (hi v_1)) 1<|r_V (vP c 2) rfl<|rl (U (lo v_1)) 1<|r_W (vA #[U (hi v_1),U (lo v_1)]) rfl (Aq rfl rfl rfl rfl)<|ry [0] rfl ?_
 cases b
 refine AO (fun d=>Co (v0:=vA #[U (hi v_1),U (lo v_1)]) rfl (BP (AP d 0 rfl rfl rfl)))
def KR(_:Nat)(a:BitVec 128):Option (BitVec 128):=some ((~~~(hi a))++(~~~(lo a)))
theorem Tq(N a r)(c:KR N a=some r):Gives prog 184 #[vA #[U (hi a),U (lo a)]] (vA #[U (hi r),U (lo r)]):=by
 unfold KR at c
 refine Ao follows func184 rfl 10 rfl _ fz1 (fun b=> ?_)
 refine Aa<|rA rfl fun e=>rA rfl fun f=>Ah<|Aa<|rm 2 [1] rfl<|r_X (U (~~~(hi a))) rfl (ak (hi a)) rfl<|rm 2 [1] rfl<|r_X (U (~~~(lo a))) rfl (ak (lo a)) rfl<|r_W (vA #[U (~~~(hi a)),U (~~~(lo a))]) rfl (Aq rfl rfl rfl rfl)<|ry [0] rfl ?_
 cases c
 refine AO (fun d=>Co (v0:=vA #[U (~~~(hi a)),U (~~~(lo a))]) (by first|rfl|(simp only [CC];done)|simp only [CC]) (BP (AP d 0 rfl rfl rfl)))
def KS(_:Nat)(a:BitVec 128)(b:BitVec 128):Option (BitVec 128):=some ((hi a&&&hi b)++(lo a&&&lo b))
theorem Tr(N a b r)(d:KS N a b=some r):Gives prog 182 #[vA #[U (hi a),U (lo a)],vA #[U (hi b),U (lo b)]] (vA #[U (hi r),U (lo r)]):=by
 unfold KS at d
 refine Ao follows func182 rfl 16 rfl _ fz2 (fun c=> ?_)
 refine Aa<|rA rfl fun f=>rA rfl fun g=>rA rfl fun h=>Ah<|Aa<|rm 4 [2,1] rfl<|r_X (U (hi a&&&hi b)) rfl (OP (hi a) (hi b)) rfl<|rm 4 [2,1] rfl<|r_X (U (lo a&&&lo b)) rfl (OP (lo a) (lo b)) rfl<|r_W (vA #[U (hi a&&&hi b),U (lo a&&&lo b)]) rfl (Aq rfl rfl rfl rfl) ?_
 refine ry [0] rfl ?_
 cases d
 refine AO (fun e=>Co (v0:=vA #[U (hi a&&&hi b),U (lo a&&&lo b)]) (by first|rfl|(simp only [CC];done)|simp only [CC]) (BP (AP e 0 rfl rfl rfl)))
def GE(_:Nat)(w:Int):Option Bool:=if w≥1 then some (decide (w≤128))else some false
theorem Nl(N w r)(a:GE N w=some r):Gives prog 198 #[vI w] (vB r):=by
 unfold GE at a
 refine Ao follows func198 rfl 9 rfl _ fz1 (fun d=> ?_)
 refine AZ rfl<|Ae fun e b=>An<|rn 3 rfl ?_
 rcases c:(decide (w≥1))with _|_
 ·replace a:=iF c a
  refine rz rfl<|b _ _ ?_
  cases a
  exact aR eE1
 replace a:=iD c a
 refine rz rfl<|b _ _ ?_
 cases a
 exact aR eE1
def Km(N:Nat)(v_0:Int)(v_1:BitVec 128):Option Bool:=(GE N v_0).bind fun r4=>if r4=true then(GF N v_0 v_1).bind fun r7=>some (decide ((((len128 r7:Nat):Int):Int)≤v_0))else some false
theorem PD(N v_0 v_1 r)(a:Km N v_0 v_1=some r):Gives prog 170 #[vA #[vI v_0,U (hi v_1),U (lo v_1)]] (vB r):=by
 unfold Km at a
 refine Ao follows func170 rfl 14 rfl _ fz1 (fun d=> ?_)
 refine Aa<|rA rfl fun i=>rz rfl<|Ae fun j b=>Js [] (by decide+kernel) (fun k=>AW)<|rm 2 [0] rfl<|kB a fun g e a=>rc _ (cF Wt) (Nl N v_0 _ e)<|rn 1 rfl ?_
 rcases c:g with _|_
 ·replace a:=iB c a
  refine rz rfl<|b _ _ ?_
  cases a
  exact aR eE1
 replace a:=ifp c a
 refine r_y rfl<|rm 1 [0] rfl<|r_y rfl<|kB a fun h f a=>rc _ (cF OJ) (KT N v_0 v_1 _ f)<|r_y rfl<|rc _ (cF Ws) (bp h)<|rn 1 rfl<|r_y rfl<|ry [0] rfl<|b _ _ ?_
 cases a
 exact aR eE1
def Cu(N:Nat)(v_0:Int)(v_1:BitVec 128)(w:Int):Option Bool:=if v_0=w then(Km N v_0 v_1).bind fun r5=>some r5 else some false
theorem HP(N v_0 v_1 w r)(a:Cu N v_0 v_1 w=some r):Gives prog 185 #[vA #[vI v_0,U (hi v_1),U (lo v_1)],vI w] (vB r):=by
 unfold Cu at a
 refine Ao follows func185 rfl 13 rfl _ fz2 (fun d=> ?_)
 refine Aa<|rA rfl fun f=>rz rfl<|Ae fun g b=>An<|rm 5 [0] rfl ?_
 rcases c:(v_0==w)with _|_
 ·replace a:=iG c a
  refine rz rfl<|b _ _ ?_
  cases a
  exact aR eE1
 replace a:=iE c a
 refine r_y rfl<|rm 1 [0] rfl<|r_y rfl<|kB a fun h e a=>rc _ (cF SW) (PD N v_0 v_1 _ e)<|rz rfl<|b _ _ ?_
 cases a
 exact aR eE1
def GV(N:Nat)(l':List ((List UInt8)×(List (Int×Int))×(List (Int×Int×Int))×(List (Int×BitVec 128×Int×BitVec 128×Int))×Int))(i:Int):Option Bool:=ck ((R64 ((l'.length:Int) - 1))) ((Au N i 0 ((l'.length:Int) - 1)).bind fun r4=>some r4)
theorem NP(N l' i r)(a:GV N l' i=some r)(ro l'v)(hl':RdN Fj ro l'v l'):Does prog 190 #[l'v,vI i] ro [] (pV (vB r)):=by
 unfold GV at a
 refine Ag follows func190 rfl 10 rfl _ fz2 (fun b=> ?_)
 refine AZ rfl<|Aa<|rn 2 rfl<|rL (RdN.shp hl') rfl<|kC a fun c a=>rX c rfl<|kB a fun e d a=>rc _ (cF BI) (Ax N i 0 ((l'.length:Int) - 1) _ d)<|rz rfl ?_
 cases a
 exact aR eV1
def Cv(N:Nat)(c:AF)(n:Int):Option Int:=(GV N c.2.2.2.2.1 n).bind fun r4=>if r4=true then(Al N true 5).bind fun r12=>some r12 else if n= -1 then(Al N true 5).bind fun r10=>some r10 else(Al N (n== -2) 5).bind fun r8=>some r8
theorem Kb(N c n r)(a:Cv N c n=some r)(ro)(cv:AE)(hc:Bun59R ro cv c):Does prog 137 #[vA (Ab c cv),vI n] ro [] (pV (vI r)):=by
 unfold Cv at a
 refine Ag follows func137 rfl 19 rfl _ fz2 (fun h=> ?_)
 refine Aa<|rA rfl fun p=>rz rfl<|Ae fun q b=>An<|rm 4 [0] rfl<|kB a fun k i a=>gV _ (cF WA) (fun o w z_=>NP N c.2.2.2.2.1 n _ i z_.view cv.2.2.2.1 (RdN.mono z_.ro_cell hc.2.2.2.1))<|rn 1 rfl ?_
 rcases d:k with _|_
 ·replace a:=iB d a
  refine rn 4 rfl ?_
  rcases e:(n== -1)with _|_
  ·replace a:=iG e a
   refine rn 3 rfl<|kB a fun s j a=>rc _ (cF AI) (Ap N (n== -2) 5 _ j)<|rz rfl<|b _ _ ?_
   cases a
   exact aR eV1
  replace a:=iE e a
  refine rn 3 rfl<|kB a fun l f a=>rc _ (cF AI) (Ap N true 5 _ f)<|rz rfl<|b _ _ ?_
  cases a
  exact aR eV1
 replace a:=ifp d a
 refine rn 7 rfl<|kB a fun m g a=>rc _ (cF AI) (Ap N true 5 _ g)<|rz rfl<|b _ _ ?_
 cases a
 exact aR eV1
def Gq(N:Nat)(_:Int)(x_0:Int)(x_1:BitVec 128)(x_2:Int)(x_3:BitVec 128)(x_4:Int)(c2_:List (Int×Int×Int))(c3_:Int)(c4_:AF):Option Int:=(GF N x_0 x_1).bind fun r4=>(GF N x_2 x_3).bind fun r6=>(KR N r6).bind fun r8=>(KS N r4 r8).bind fun r10=>(Al N (decide ((c2_.length:Int)>0)) 4).bind fun r14=>(Cu N x_0 x_1 c3_).bind fun r16=>if r16=true then(Cu N x_2 x_3 c3_).bind fun r30=>(Al N r30 9).bind fun r32=>(Al N (r10==((0#64)++(0#64))) 14).bind fun r34=>(Cv N c4_ x_4).bind fun r36=>(Ay N ([r14,r32,r34,r36])).bind fun r41=>some r41 else(Al N false 9).bind fun r19=>(Al N (r10==((0#64)++(0#64))) 14).bind fun r21=>(Cv N c4_ x_4).bind fun r23=>(Ay N ([r14,r19,r21,r23])).bind fun r28=>some r28
theorem MZ(N x x_0 x_1 x_2 x_3 x_4 B g f r)(b:Gq N x x_0 x_1 x_2 x_3 x_4 B g f=some r)(ro)(K:Nat)(n)(aa:Rd CN ro n B)(Q:Blk ro K [n])(L:Nat)(C:Blk ro L [vI g])(M:Nat)(e:AE)(O:Bun59R ro e f)(D:Blk ro M (Ca f e)):Does prog 181 #[vI x,vA #[vI x_0,U (hi x_1),U (lo x_1),vI x_2,U (hi x_3),U (lo x_3),vI x_4],vP K 0,vP L 0,vP M 0] ro [] (pV (vI r)):=by
 unfold Gq at b
 refine Ag follows func181 rfl 42 rfl _ fz5 (fun ae=> ?_)
 refine Aa<|rA rfl fun b2=>rz rfl<|Ae fun K3 af=>Js [] (by decide+kernel) (fun hn=>AW)<|rm 2 [0] rfl<|kB b fun r4 ag b=>rc _ (cF OJ) (KT N x_0 x_1 _ ag)<|rm 2 [0] rfl<|kB b fun r6 ah b=>rc _ (cF OJ) (KT N x_2 x_3 _ ah)<|kB b fun r8 ai b=>rc _ (cF WF) (Tq N r6 _ ai)<|kB b fun a ac b=>rc _ (cF WG) (Tr N r4 r8 _ ac)<|rA rfl fun E=>Yd [(E,288, #[U (hi a),U (lo a)]),(b2,237, #[vI x_0,U (hi x_1),U (lo x_1),vI x_2,U (hi x_3),U (lo x_3),vI x_4])] 0 _ _ _ (#[U (0#64),U (0#64)]) (#[U (hi a),U (lo a)]) (#[U (hi a),U (lo a)]) rfl rfl rfl rfl rfl (.of rfl rfl) rfl rfl<|Ah<|af _ _ ?_
 refine Ae fun ay P=> ?_
 refine Bt [(some 39,false),(some 40,false),(some 41,false)] (conG prog [(39,cV (Cv N f x_4) fun m=>vI m),(41,fun _ _ v_ L_ U_=>(∀m,Al N (decide ((B.length:Int)>0)) 4=some m→ ∀F,Cu N x_0 x_1 g=some F→(if F=true then(1:Nat)else 0)=0→ ∀G,Al N false 9=some G→ ∀H,Al N (a==((0#64)++(0#64))) 14=some H→ ∀I,Cv N f x_4=some I→ ∀J,Ay N ([m,G,H,I])=some J→(pV (vI J)) v_ L_ U_)∧(∀m,Al N (decide ((B.length:Int)>0)) 4=some m→ ∀F,Cu N x_0 x_1 g=some F→(if F=true then(1:Nat)else 0)=1→ ∀G,Cu N x_2 x_3 g=some G→ ∀H,Al N G 9=some H→ ∀I,Al N (a==((0#64)++(0#64))) 14=some I→ ∀J,Cv N f x_4=some J→ ∀ad,Ay N ([m,H,I,J])=some ad→(pV (vI ad)) v_ L_ U_))]) [] (by decide+kernel) (fun hn=>AW) ?_
 refine Cz n (vs:=[n]) (o:=0) rfl rfl (Az Q) rfl<|rL (Rd.shp aa) rfl<|rn 1 rfl<|kB b fun A h b=>rc _ (cF AI) (Ap N (decide ((B.length:Int)>0)) 4 _ h)<|rm 2 [1] rfl<|Cz (vI g) (vs:=[vI g]) (o:=0) rfl rfl (Az C) rfl<|kB b fun R i b=>rc _ (cF OI) (HP N x_0 x_1 g _ i)<|rn 1 rfl ?_
 rcases p:R with _|_
 ·replace b:=iB p b
  have d:(if R=true then(1:Nat)else 0)=0:=(if_neg (Bool.eq_false_iff.1 p))
  refine rn 5 rfl<|kB b fun S q b=>rc _ (cF AI) (Ap N false 9 _ q)<|rl (vA #[U (hi a),U (lo a)]) 0<|r_W (vA #[U (0#64),U (0#64)]) rfl (Aq rfl rfl rfl rfl)<|r_W (vB (a==((0#64)++(0#64)))) rfl (Om rfl rfl VY (by have h_:=fun c=>On (c:=c) a ((0#64)++(0#64));simp only [CC] at h_;exact h_ _))<|kB b fun V s b=>rc _ (cF AI) (Ap N (a==((0#64)++(0#64))) 14 _ s)<|Cz (vA (Ab f e)) (vs:=(Ca f e)) (o:=0) rfl rfl (Az D) rfl<|rm 2 [1] rfl<|kB b fun W j b=>rg _ (cF OL) (fun o w z_=>Kb N f x_4 _ j z_.view e (Bun59R.mono z_.ro_cell O)) (DA j) ?_
  refine FY (Ls:=[(Lz E (hi a) (lo a)),(LA b2 x_0 (hi x_1) (lo x_1) x_2 (hi x_3) (lo x_3) x_4)]) 44 AX [A,S,V,W] [vI A,vI S,vI V,vI W] [vI 0,vI 0,vI 0,vI 0] rfl rfl rfl rfl rfl rfl rfl (by kernel_rfl) (by kernel_rfl) rfl rfl rfl (fun aj ak al=> ?_)
  refine kB b fun am t b=>rg _ (cF Bx) (fun o w z_=>Bc N ([A,S,V,W]) _ t z_.view aj ((Ar al (Af (Ls:=[(Lz E (hi a) (lo a)),(LA b2 x_0 (hi x_1) (lo x_1) x_2 (hi x_3) (lo x_3) x_4),ak]) (k:=2) rfl rfl)) o w z_)) (fun _ _ v_ L_ U_=>⟨fun h_=>h_.1 _ h _ i d _ q _ s _ j _ t,fun h_=>⟨by intro _ e_;cases Option.some.inj (e_.symm.trans h);intro _ e_;cases Option.some.inj (e_.symm.trans i);intro e_;first|(cases(e_.symm.trans d);done)|(cases(e_.symm.trans d);intro _ e_;cases Option.some.inj (e_.symm.trans q);intro _ e_;cases Option.some.inj (e_.symm.trans s);intro _ e_;cases Option.some.inj (e_.symm.trans j);intro _ e_;cases Option.some.inj (e_.symm.trans t);exact h_),by intro _ e_;cases Option.some.inj (e_.symm.trans h);intro _ e_;cases Option.some.inj (e_.symm.trans i);intro e_;first|(cases(e_.symm.trans d);done)|(cases(e_.symm.trans d);intro _ e_;cases Option.some.inj (e_.symm.trans u);intro _ e_;cases Option.some.inj (e_.symm.trans v);intro _ e_;cases Option.some.inj (e_.symm.trans y);intro _ e_;cases Option.some.inj (e_.symm.trans l);intro _ e_;cases Option.some.inj (e_.symm.trans z);exact h_)⟩⟩) ?_
  refine rz rfl<|P _ _ ?_
  refine Cx [(7,vI am)] rfl (fun T=> ?_)
  cases b
  exact aR eV1
 replace b:=ifp p b
 have d:(if R=true then(1:Nat)else 0)=1:=(if_pos p)
 refine rn 1 rfl<|r_y rfl<|rm 1 [1] rfl<|r_y rfl<|Cz (vI g) (vs:=[vI g]) (o:=0) rfl rfl (Az C) rfl<|r_y rfl<|kB b fun an u b=>rc _ (cF OI) (HP N x_2 x_3 g _ u)<|rn 1 rfl<|kB b fun X v b=>rc _ (cF AI) (Ap N an 9 _ v)<|rl (vA #[U (hi a),U (lo a)]) 0<|r_W (vA #[U (0#64),U (0#64)]) rfl (Aq rfl rfl rfl rfl)<|r_W (vB (a==((0#64)++(0#64)))) rfl (Om rfl rfl VY (by have h_:=fun c=>On (c:=c) a ((0#64)++(0#64));simp only [CC] at h_;exact h_ _))<|kB b fun Y y b=>rc _ (cF AI) (Ap N (a==((0#64)++(0#64))) 14 _ y)<|Cz (vA (Ab f e)) (vs:=(Ca f e)) (o:=0) rfl rfl (Az D) rfl<|rm 2 [1] rfl<|kB b fun Z l b=>rg _ (cF OL) (fun o w z_=>Kb N f x_4 _ l z_.view e (Bun59R.mono z_.ro_cell O)) (DA l) ?_
 refine FY (Ls:=[(Lz E (hi a) (lo a)),(LA b2 x_0 (hi x_1) (lo x_1) x_2 (hi x_3) (lo x_3) x_4)]) 44 AX [A,X,Y,Z] [vI A,vI X,vI Y,vI Z] [vI 0,vI 0,vI 0,vI 0] rfl rfl rfl rfl rfl rfl rfl (by kernel_rfl) (by kernel_rfl) rfl rfl rfl (fun ao ap aq=> ?_)
 refine kB b fun ar z b=>rg _ (cF Bx) (fun o w z_=>Bc N ([A,X,Y,Z]) _ z z_.view ao ((Ar aq (Af (Ls:=[(Lz E (hi a) (lo a)),(LA b2 x_0 (hi x_1) (lo x_1) x_2 (hi x_3) (lo x_3) x_4),ap]) (k:=2) rfl rfl)) o w z_)) (fun _ _ v_ L_ U_=>⟨fun h_=>h_.2 _ h _ i d _ u _ v _ y _ l _ z,fun h_=>⟨by intro _ e_;cases Option.some.inj (e_.symm.trans h);intro _ e_;cases Option.some.inj (e_.symm.trans i);intro e_;first|(cases(e_.symm.trans d);done)|(cases(e_.symm.trans d);intro _ e_;cases Option.some.inj (e_.symm.trans q);intro _ e_;cases Option.some.inj (e_.symm.trans s);intro _ e_;cases Option.some.inj (e_.symm.trans j);intro _ e_;cases Option.some.inj (e_.symm.trans t);exact h_),by intro _ e_;cases Option.some.inj (e_.symm.trans h);intro _ e_;cases Option.some.inj (e_.symm.trans i);intro e_;first|(cases(e_.symm.trans d);done)|(cases(e_.symm.trans d);intro _ e_;cases Option.some.inj (e_.symm.trans u);intro _ e_;cases Option.some.inj (e_.symm.trans v);intro _ e_;cases Option.some.inj (e_.symm.trans y);intro _ e_;cases Option.some.inj (e_.symm.trans l);intro _ e_;cases Option.some.inj (e_.symm.trans z);exact h_)⟩⟩) ?_
 refine rz rfl<|P _ _ ?_
 refine Cx [(7,vI ar)] rfl (fun T=> ?_)
 cases b
 exact aR eV1
def Er(N:Nat)(l':List (Int×BitVec 128×Int×BitVec 128×Int))(ask0_:List (Int×Int×Int))(ask1_:Int)(ask2_:AF):Nat→Int→Option (Int×Int)
  |0,_=>none
  |n8+1,x1_=>if x1_<(l'.length:Int)then ck (0≤x1_∧x1_<(l'.length:Int)) ((Gq N x1_ ((l'[x1_.toNat]!).1) ((l'[x1_.toNat]!).2.1) ((l'[x1_.toNat]!).2.2.1) ((l'[x1_.toNat]!).2.2.2.1) ((l'[x1_.toNat]!).2.2.2.2) ask0_ ask1_ ask2_).bind fun r17=>if(r17:Int)≠0 then some (x1_,r17)else ck (R64 (x1_+1)) ((Er N l' ask0_ ask1_ ask2_ n8) (x1_+1)))else some (0,0)
def Gy(N:Nat)(l':List (Int×BitVec 128×Int×BitVec 128×Int))(most:Int)(ask0_:List (Int×Int×Int))(ask1_:Int)(ask2_:AF):Option (Int×Int):=if(l'.length:Int)>most then some (0,2)else Er N l' ask0_ ask1_ ask2_ N 0
theorem QD(N l' most g h e r)(d:Gy N l' most g h e=some r)(ro l'v)(hl':Rd Jk ro l'v l')(a:Nat)(i)(p:Rd CN ro i g)(k:Blk ro a [i])(b:Nat)(m:Blk ro b [vI h])(c:Nat)(j:AE)(q:Bun59R ro j e)(n:Blk ro c (Ca e j)):Does prog 134 #[l'v,vI most,vF 181 #[] #[vP a 0,vP b 0,vP c 0]] ro [] (pV (vT #[vI r.1,vI r.2])):=by
 unfold Gy at d
 refine Ag follows func134 rfl 31 rfl _ fz3 (fun C=> ?_)
 refine AZ rfl<|Ae fun K D=>Aa<|rn 1 rfl<|rL (Rd.shp hl') rfl<|rz rfl<|aD d rfl (fun E d=> ?_) (fun E d=> ?_)
 ·refine AZ rfl ?_
  cases d
  exact aR eV2
 refine Ac<|D _ _ ?_
 refine Ae fun L F=>Aa<|rn 1 rfl<|rL (Rd.shp hl') rfl<|rz rfl<|Am<|AS (fun tt ll nn=> ∃(u:Nat) (f:Int),(Er N l' g h e u f=some r)∧Is [(2,vF 181 #[] #[vP a 0,vP b 0,vP c 0]),(15,l'v),(16,vI (l'.length:Int)),(17,vI f)] [] tt ll∧nn=u+1) (N+1) ?_ ?_
 ·exact⟨N,0,d,Aj rfl rfl,rfl⟩
 clear d;rintro t l _ ⟨u,f,d,⟨⟨T,rfl⟩,rfl⟩,rfl⟩
 rcases u with _|u
 ·exact absurd d (by simp [Er])
 rw [Er] at d
 refine AZ rfl<|Ae fun G v=>aD d rfl (fun x d=> ?_) (fun x d=> ?_)
 ·refine Ac<|v _ _ ?_
  refine Ae fun H y=>Am<|Aa<|rn 1 rfl<|kC d fun s d=>rI (Rd.shp hl') s rfl<|rE (AA hl') s 0 rfl<|rA rfl fun I=>ry [0] rfl<|Aa ?_
  refine rm 3 [0] rfl<|kB d fun J z d=>gV _ (AV (caps:=[vP a 0,vP b 0,vP c 0]) rfl WH rfl) (fun o w z_=>MZ N f ((l'[f.toNat]!).1) ((l'[f.toNat]!).2.1) ((l'[f.toNat]!).2.2.1) ((l'[f.toNat]!).2.2.2.1) ((l'[f.toNat]!).2.2.2.2) g h e _ z z_.view a i (z_.r p) (Az k o w z_) b (Az m o w z_) c j (Bun59R.mono z_.ro_cell q) (Az n o w z_))<|rz rfl<|AZ rfl ?_
  refine aN d rfl (fun A d=> ?_) (fun A d=> ?_)
  ·refine AZ rfl ?_
   cases d
   exact aR eV2
  refine Ac<|y _ _ ?_
  refine An<|kC d fun B d=>rX B rfl<|rz rfl<|fg _ (Sub.of (suC _ suN)) ?_
  exact⟨u+1,by omega,u,(f+1),d,Aj rfl rfl,rfl⟩
 refine AT<|F _ _ ?_
 refine AZ rfl ?_
 cases d
 exact aR eV2
def Cl(_:Nat)(n:Int)(least:Int)(most:Int):Option Bool:=if n≥least then some (decide (n≤most))else some false
theorem IB(N n least most r)(a:Cl N n least most=some r):Gives prog 188 #[vI n,vI least,vI most] (vB r):=by
 unfold Cl at a
 refine Ao follows func188 rfl 15 rfl _ fz3 (fun d=> ?_)
 refine AZ rfl<|Ae fun e b=>An<|rn 4 rfl ?_
 rcases c:(decide (n≥least))with _|_
 ·replace a:=iF c a
  refine rz rfl<|b _ _ ?_
  cases a
  exact aR eE1
 replace a:=iD c a
 refine rz rfl<|b _ _ ?_
 cases a
 exact aR eE1
def CH(N:Nat)(r5:Int×Bool)(inRange1_:Bool):Option Int:=(Al N r5.2 5).bind fun r9=>(Al N inRange1_ 7).bind fun r11=>(Ay N ([r9,r11])).bind fun r16=>some r16
def DV(N:Nat)(c:AF)(k_0:Int)(k_1:Int)(k_2:Int):Option Int:=(Ei N c k_0 k_1 k_2).bind fun r5=>if k_0=1 then CH N r5 (k_2==0)else if k_0=2 then(Au N k_1 0 1024).bind fun r23=>if r23=true then(Au N k_2 1 64).bind fun r26=>CH N r5 r26 else CH N r5 false else CH N r5 true
theorem Oa(N c k_0 k_1 k_2 r)(b:DV N c k_0 k_1 k_2=some r)(ro)(cv:AE)(hc:Bun59R ro cv c):DoesI prog 189 #[vA (Ab c cv),vA #[vI k_0,vI k_1,vI k_2]] CR ro [] (pV (vI r)):=by
 unfold DV at b
 refine AC follows func189 rfl 38 rfl _ fz2 AG (fun p=> ?_)
 refine Aa<|rA rfl fun C=>rA rfl fun D=>rz rfl<|Aa<|rm 3 [1,0] rfl<|kB b fun q s b=>gV _ (cF SQ) (fun o w z_=>IC N c k_0 k_1 k_2 _ s z_.view cv (Bun59R.mono z_.ro_cell hc))<|rz rfl<|AZ rfl<|BW (fun tt ll=> ∃(a:Bool),(CH N q a=some r)∧Is [(6,vB q.2),(7,vB a)] [] tt ll) ?_ ?_
 ·refine AY [0] rfl<|Am<|AZ rfl<|aE b rfl (fun e b=> ?_) (fun e b=> ?_)
  ·refine An<|ry [0] rfl<|fg _ (Sub.of (suC _ (suC _ suN))) ?_
   exact⟨(k_2==0),b,Aj rfl rfl⟩
  refine AZ rfl<|aE b rfl (fun f b=> ?_) (fun f b=> ?_)
  ·refine An<|rm 2 [0] rfl<|kB b fun u g b=>rc _ (cF BI) (Ax N k_1 0 1024 _ g)<|rn 1 rfl ?_
   rcases d:u with _|_
   ·replace b:=iB d b
    refine rz rfl<|fg _ (Sub.of (suC _ (suC _ suN))) ?_
    exact⟨false,b,Aj (by first|rfl|(simp only [d];done)|(simp only [d];rfl)|(simp only [CC];rfl)) rfl⟩
   replace b:=ifp d b
   refine rn 1 rfl<|r_y rfl<|rm 1 [0] rfl<|r_y rfl<|kB b fun v h b=>rc _ (cF BI) (Ax N k_2 1 64 _ h)<|rz rfl<|fg _ (Sub.of (suC _ (suC _ suN))) ?_
   exact⟨v,b,Aj (by first|rfl|(simp only [d];done)|(simp only [d];rfl)|(simp only [CC];rfl)) rfl⟩
  refine Ac<|fg _ (Sub.of (suC _ (suC _ suN))) ?_
  exact⟨true,b,Aj rfl rfl⟩
 clear b;rintro t l ⟨a,b,⟨T,rfl⟩,rfl⟩
 unfold CH at b
 refine Aa<|rn 1 rfl<|kB b fun A i b=>rc _ (cF AI) (Ap N q.2 5 _ i)<|rn 1 rfl<|kB b fun j m b=>rc _ (cF AI) (Ap N a 7 _ m)<|gB (Ls:=[]) 44 AX [A,j] (fun x y z=> ?_)
 refine kB b fun B n b=>gV _ (cF Bx) (fun o w z_=>(Does.inv (Bc N ([A,j]) _ n z_.view x ((Ar z (Af (Ls:=[y]) (k:=0) rfl rfl)) o w z_)) _))<|rz rfl ?_
 cases b
 exact aR eV1
def Jd(N:Nat)(_:Int)(k_0:Int)(k_1:Int)(k_2:Int)(c2_:Int)(c3_:AF):Option Int:=ck (R64 (c2_ - 1)) ((Cl N k_0 0 (c2_ - 1)).bind fun r5=>(Al N r5 10).bind fun r7=>(DV N c3_ k_0 k_1 k_2).bind fun r9=>(Ay N ([r7,r9])).bind fun r14=>some r14)
theorem QK(N x k_0 k_1 k_2 d a r)(e:Jd N x k_0 k_1 k_2 d a=some r)(ro)(h:Nat)(j:Blk ro h [vI d])(i:Nat)(b:AE)(p:Bun59R ro b a)(l:Blk ro i (Ca a b)):DoesI prog 187 #[vI x,vA #[vI k_0,vI k_1,vI k_2],vP h 0,vP i 0] CR ro [] (pV (vI r)):=by
 unfold Jd at e
 refine AC follows func187 rfl 18 rfl _ fz4 AG (fun u=> ?_)
 refine Aa<|rA rfl fun E=>rz rfl<|Ae fun H v=>Bt [(some 15,false),(some 16,false),(some 17,false)] (conG prog [(15,cV (DV N a k_0 k_1 k_2) fun g=>vI g),(17,fun _ _ v_ L_ U_=> ∀g,Cl N k_0 0 (d - 1)=some g→ ∀q,Al N g 10=some q→ ∀s,DV N a k_0 k_1 k_2=some s→ ∀t,Ay N ([q,s])=some t→(pV (vI t)) v_ L_ U_)]) [] (by decide+kernel) (fun I=>AW)<|rm 2 [0] rfl ?_
 refine Cz (vI d) (vs:=[vI d]) (o:=0) rfl rfl (Az j) rfl<|kC e fun y e=>rX y rfl<|kB e fun F m e=>rc _ (cF WC) (IB N k_0 0 (d - 1) _ m)<|kB e fun z n e=>rc _ (cF AI) (Ap N F 10 _ n)<|Cz (vA (Ab a b)) (vs:=(Ca a b)) (o:=0) rfl rfl (Az l) rfl<|rm 1 [0] rfl<|kB e fun A c e=>rg _ (cF WB) (fun o w z_=>Oa N a k_0 k_1 k_2 _ c z_.view b (Bun59R.mono z_.ro_cell p)) (DA c) ?_
 refine FY (Ls:=[(RV E k_0 k_1 k_2)]) 44 AX [z,A] [vI z,vI A] [vI 0,vI 0] rfl rfl rfl rfl rfl rfl rfl (by kernel_rfl) (by kernel_rfl) rfl rfl rfl (fun B C D=> ?_)
 refine kB e fun G f e=>rg _ (cF Bx) (fun o w z_=>(Does.inv (Bc N ([z,A]) _ f z_.view B ((Ar D (Af (Ls:=[(RV E k_0 k_1 k_2),C]) (k:=1) rfl rfl)) o w z_)) _)) (fun _ _ v_ L_ U_=>⟨fun h_=>h_ _ m _ n _ c _ f,fun h_=>by intro _ e_;cases Option.some.inj (e_.symm.trans m);intro _ e_;cases Option.some.inj (e_.symm.trans n);intro _ e_;cases Option.some.inj (e_.symm.trans c);intro _ e_;cases Option.some.inj (e_.symm.trans f);exact h_⟩) ?_
 refine rz rfl<|v _ _ ?_
 cases e
 exact aR eV1
def Fa(N:Nat)(l':List (Int×Int×Int))(ask0_:Int)(ask1_:AF):Nat→Int→Option (Int×Int)
  |0,_=>none
  |n8+1,x1_=>if x1_<(l'.length:Int)then ck (0≤x1_∧x1_<(l'.length:Int)) ((Jd N x1_ ((l'[x1_.toNat]!).1) ((l'[x1_.toNat]!).2.1) ((l'[x1_.toNat]!).2.2) ask0_ ask1_).bind fun r17=>if(r17:Int)≠0 then some (x1_,r17)else ck (R64 (x1_+1)) ((Fa N l' ask0_ ask1_ n8) (x1_+1)))else some (0,0)
def JY(N:Nat)(l':List (Int×Int×Int))(most:Int)(ask0_:Int)(ask1_:AF):Option (Int×Int):=if(l'.length:Int)>most then some (0,2)else Fa N l' ask0_ ask1_ N 0
theorem Sk(N l' most e d r)(c:JY N l' most e d=some r)(ro l'v)(hl':Rd CN ro l'v l')(a:Nat)(h:Blk ro a [vI e])(b:Nat)(f:AE)(j:Bun59R ro f d)(i:Blk ro b (Ca d f)):DoesI prog 186 #[l'v,vI most,vF 187 #[] #[vP a 0,vP b 0]] CR ro [] (pV (vT #[vI r.1,vI r.2])):=by
 unfold JY at c
 refine AC follows func186 rfl 31 rfl _ fz3 AG (fun x=> ?_)
 refine AZ rfl<|Ae fun F y=>Aa<|rn 1 rfl<|rL (Rd.shp hl') rfl<|rz rfl<|aD c rfl (fun z c=> ?_) (fun z c=> ?_)
 ·refine AZ rfl ?_
  cases c
  exact aR eV2
 refine Ac<|y _ _ ?_
 refine Ae fun G A=>Aa<|rn 1 rfl<|rL (Rd.shp hl') rfl<|rz rfl<|Am<|AS (fun tt ll nn=> ∃(m:Nat) (g:Int),(Fa N l' e d m g=some r)∧Is [(2,vF 187 #[] #[vP a 0,vP b 0]),(15,l'v),(16,vI (l'.length:Int)),(17,vI g)] [] tt ll∧nn=m+1) (N+1) ?_ ?_
 ·exact⟨N,0,c,Aj rfl rfl,rfl⟩
 clear c;rintro t l _ ⟨m,g,c,⟨⟨T,rfl⟩,rfl⟩,rfl⟩
 rcases m with _|m
 ·exact absurd c (by simp [Fa])
 rw [Fa] at c
 refine AZ rfl<|Ae fun B n=>aD c rfl (fun p c=> ?_) (fun p c=> ?_)
 ·refine Ac<|n _ _ ?_
  refine Ae fun C q=>Am<|Aa<|rn 1 rfl<|kC c fun k c=>rI (Rd.shp hl') k rfl<|rE (AA hl') k 0 rfl<|rA rfl fun D=>ry [0] rfl<|Aa<|rm 3 [0] rfl<|kB c fun E s c=>gV _ (AV (caps:=[vP a 0,vP b 0]) rfl WD rfl) (fun o w z_=>QK N g ((l'[g.toNat]!).1) ((l'[g.toNat]!).2.1) ((l'[g.toNat]!).2.2) e d _ s z_.view a (Az h o w z_) b f (Bun59R.mono z_.ro_cell j) (Az i o w z_))<|rz rfl<|AZ rfl<|aN c rfl (fun u c=> ?_) (fun u c=> ?_)
  ·refine AZ rfl ?_
   cases c
   exact aR eV2
  refine Ac<|q _ _ ?_
  refine An<|kC c fun v c=>rX v rfl<|rz rfl<|fg _ (Sub.of (suC _ suN)) ?_
  exact⟨m+1,by omega,m,(g+1),c,Aj rfl rfl,rfl⟩
 refine AT<|A _ _ ?_
 refine AZ rfl ?_
 cases c
 exact aR eV2
def DU(N:Nat)(c:AF)(l':List (Int×Int×Int))(kinds:Int):Option Int:=(JY N l' 4 kinds c).bind fun r5=>(IV N c l').bind fun r8=>(Al N r8.2 9).bind fun r11=>(Ay N ([r5.2,r11])).bind fun r16=>some r16
theorem NZ(N c l' kinds r)(a:DU N c l' kinds=some r)(ro)(cv:AE)(hc:Bun59R ro cv c)(l'v)(hl':Rd CN ro l'v l'):DoesI prog 136 #[vA (Ab c cv),l'v,vI kinds] CR ro [] (pV (vI r)):=by
 unfold DU at a
 refine AC follows func136 rfl 29 rfl _ fz3 AG (fun f=> ?_)
 refine Aa<|rA rfl fun g=>rA rfl fun h=>rz rfl<|Aa<|rn 1 rfl<|r_W (vF 187 #[] #[vP h 0,vP g 0]) rfl (Db rfl)<|kB a fun q i a=>gV _ (cF WE) (fun o w z_=>Sk N l' 4 kinds c _ i z_.view l'v ((AA hl') o w z_) h (Bi 0 rfl rfl o w z_) g cv (Bun59R.mono z_.ro_cell hc) (Bi 1 rfl rfl o w z_))<|rz rfl<|Aa<|rm 3 [1] rfl<|kB a fun s j a=>gV _ (cF SR) (fun o w z_=>NL N c l' _ j z_.view cv (Bun59R.mono z_.ro_cell hc) l'v ((AA hl') o w z_))<|rz rfl<|Aa<|rn 2 rfl<|kB a fun b d a=>rc _ (cF AI) (Ap N s.2 9 _ d)<|gB (Ls:=[(RW h kinds),[(g,90,(Ab c cv))]]) 44 AX [q.2,b] (fun l m n=> ?_)
 refine kB a fun p e a=>gV _ (cF Bx) (fun o w z_=>(Does.inv (Bc N ([q.2,b]) _ e z_.view l ((Ar n (Af (Ls:=[(RW h kinds),[(g,90,(Ab c cv))],m]) (k:=2) rfl rfl)) o w z_)) _))<|rz rfl<|Cx [(6,vI p)] rfl (fun T=> ?_)
 cases a
 exact aR eV1
def Fd(N:Nat)(c:AF)(_:List UInt8)(s_1:List (Int×Int))(s_2:List (Int×Int×Int))(s_3:List (Int×BitVec 128×Int×BitVec 128×Int))(s_4:Int):Option Int:=(JZ N s_1 4 c).bind fun r5=>(Dw N c s_2).bind fun r8=>(Gy N s_3 8 s_2 r8 c).bind fun r13=>(DU N c s_2 3).bind fun r16=>(Cv N c s_4).bind fun r18=>(Ay N ([r5.2,r16,r13.2,r18])).bind fun r23=>some r23
theorem QF(N c s_0 s_1 s_2 s_3 s_4 r)(b:Fd N c s_0 s_1 s_2 s_3 s_4=some r)(ro)(cv:AE)(hc:Bun59R ro cv c)(s_1v)(hs_1:Rd Jl ro s_1v s_1)(s_2v)(hs_2:Rd CN ro s_2v s_2)(s_3v)(hs_3:Rd Jk ro s_3v s_3):DoesI prog 81 #[vA (Ab c cv),vA #[vS s_0,s_1v,s_2v,s_3v,vI s_4]] CR ro [] (pV (vI r)):=by
 unfold Fd at b
 refine AC follows func81 rfl 39 rfl _ fz2 AG (fun A=> ?_)
 refine Aa<|rA rfl fun p=>rA rfl fun g=>rz rfl<|Aa<|rm 3 [0,1] rfl<|r_W (vF 133 #[vA (Ab c cv)] #[]) rfl (Dj rfl rfl)<|kB b fun B C b=>gV _ (cF Xt) (fun o w z_=>(Does.inv (Sm N s_1 4 c _ C z_.view s_1v (z_.r hs_1) cv (Bun59R.mono z_.ro_cell hc)) _))<|rz rfl<|Ae fun K D=> ?_
 refine UF (Ls:=[(Ey g s_0 s_1v s_2v s_3v s_4),[(p,90,(Ab c cv))]]) [(some 23,true),(some 24,false),(some 1000000024,true)] [(23,fun _ _ v_ L_ U_=>(pH ((List.flatten ([]:List (List Bl))).map (·.1)) (fun v_ L_ U_=> ∀a,Dw N c s_2=some a→(pO (List.flatten []) (oB 84 #[s_2v] fun b_0=>(oB 3 #[vI a] fun b_1=>(oB 90 (Ab c cv) fun b_2=>(oE (vF 181 #[] #[vP b_0 0,vP b_1 0,vP b_2 0]) []))))) v_ L_ U_) v_ L_ U_)),(24,fun _ _ v_ L_ U_=> ∀a,Dw N c s_2=some a→ ∀f,Gy N s_3 8 s_2 a c=some f→(pV (vT #[vI f.1,vI f.2])) v_ L_ U_)] [] [0,1] [] (by decide+kernel) (fun I=>AW) (by decide+kernel) rfl (⟨.inr (fun _ _ _ _ _ h_=>aA (VA (Ls:=[(Ey g s_0 s_1v s_2v s_3v s_4),[(p,90,(Ab c cv))]]) (is:=[]) (js:=[]) rfl) h_),⟨.inl rfl,trivial⟩⟩) (fun hnb_=> ?_)
 refine rn 1 rfl<|Yf s_3v 0 _ _ _ _ rfl rfl rfl rfl rfl (hnb_ g (List.mem_of_getElem? (i:=0) rfl))<|Yf (vA (Ab c cv)) 1 _ _ _ _ rfl rfl rfl rfl rfl (hnb_ p (List.mem_of_getElem? (i:=1) rfl))<|rn 1 rfl<|Yf s_2v 0 _ _ _ _ rfl rfl rfl rfl rfl (hnb_ g (List.mem_of_getElem? (i:=0) rfl))<|kB b fun x s b=>UN (Ls:=[(Ey g s_0 s_1v s_2v s_3v s_4),[(p,90,(Ab c cv))]]) (FL:=[]) [] _ (some 23) 135 _ rfl rfl rfl rfl rfl (cF Xq) (fun o w hn_ z_=>Px N c s_2 _ s _ cv (Bun59R.mono (Ht (Ls:=[(Ey g s_0 s_1v s_2v s_3v s_4),[(p,90,(Ab c cv))]]) (is:=[]) rfl z_) hc) s_2v (Rd.mono (Ht (Ls:=[(Ey g s_0 s_1v s_2v s_3v s_4),[(p,90,(Ab c cv))]]) (is:=[]) rfl z_) hs_2)) (fun a_ c_ v_ L_ U_=>az (q:=fun v_ L_ U_=> ∀a,Dw N c s_2=some a→(pO (List.flatten []) (oB 84 #[s_2v] fun b_0=>(oB 3 #[vI a] fun b_1=>(oB 90 (Ab c cv) fun b_2=>(oE (vF 181 #[] #[vP b_0 0,vP b_1 0,vP b_2 0]) []))))) v_ L_ U_) ((DA s) a_ c_ v_ L_ U_)) (fun _=>(NiceO.sub (R:=[]) (Ue fun b_0=>(Ue fun b_1=>(Ue fun b_2=>(PN rfl)))) (Sub.pick [] [] rfl))) ?_
 rintro _ _ ⟨h,_,⟨j,_,⟨l,_,⟨rfl,rfl⟩,rfl⟩,rfl⟩,rfl⟩
 refine BC (Ls:=[(Ey g s_0 s_1v s_2v s_3v s_4),[(p,90,(Ab c cv))],(Kv h s_2v),(Mf j x),[(l,90,(Ab c cv))]]) (Ls':=[(Ey g s_0 s_1v s_2v s_3v s_4),[(p,90,(Ab c cv))],(Kv h s_2v),(Mf j x),[(l,90,(Ab c cv))]]) [0,1,2,3,4] rfl rfl<|kB b fun t m b=>rg _ (cF Xr) (fun o w z_=>(Does.inv (QD N s_3 8 s_2 x c _ m z_.view s_3v (z_.r hs_3) h s_2v (z_.r hs_2) (Bi 2 rfl rfl o w z_) j (Bi 3 rfl rfl o w z_) l cv (Bun59R.mono z_.ro_cell hc) (Bi 4 rfl rfl o w z_)) _)) (fun _ _ v_ L_ U_=>⟨fun h_=>h_ _ s _ m,fun h_=>by intro _ e_;cases Option.some.inj (e_.symm.trans s);intro _ e_;cases Option.some.inj (e_.symm.trans m);exact h_⟩) ?_
 refine rz rfl<|D _ _ ?_
 refine Ae fun J y=>Bt [(some 31,false),(some 36,false),(some 37,false),(some 38,false)] (conG prog [(31,cV (DU N c s_2 3) fun a=>vI a),(36,cV (Cv N c s_4) fun a=>vI a),(38,fun _ _ v_ L_ U_=> ∀a,DU N c s_2 3=some a→ ∀f,Cv N c s_4=some f→ ∀z,Ay N ([B.2,a,t.2,f])=some z→(pV (vI z)) v_ L_ U_)]) [] (by decide+kernel) (fun I=>AW)<|rm 2 [1] rfl ?_
 refine rm 2 [0] rfl<|kB b fun u d b=>rg _ (cF SY) (fun o w z_=>NZ N c s_2 3 _ d z_.view cv (Bun59R.mono z_.ro_cell hc) s_2v (z_.r hs_2)) (DA d)<|rm 4 [1,0] rfl<|kB b fun v e b=>rg _ (cF OL) (fun o w z_=>(Does.inv (Kb N c s_4 _ e z_.view cv (Bun59R.mono z_.ro_cell hc)) _)) (DA e) ?_
 refine FY (Ls:=[(Ey g s_0 s_1v s_2v s_3v s_4),[(p,90,(Ab c cv))],(Kv h s_2v),(Mf j x),[(l,90,(Ab c cv))]]) 44 AX [B.2,u,t.2,v] [vI B.2,vI u,vI t.2,vI v] [vI 0,vI 0,vI 0,vI 0] rfl rfl rfl rfl rfl rfl rfl (by kernel_rfl) (by kernel_rfl) rfl rfl rfl (fun E F G=> ?_)
 refine kB b fun H n b=>rg _ (cF Bx) (fun o w z_=>(Does.inv (Bc N ([B.2,u,t.2,v]) _ n z_.view E ((Ar G (Af (Ls:=[(Ey g s_0 s_1v s_2v s_3v s_4),[(p,90,(Ab c cv))],(Kv h s_2v),(Mf j x),[(l,90,(Ab c cv))],F]) (k:=5) rfl rfl)) o w z_)) _)) (fun _ _ v_ L_ U_=>⟨fun h_=>h_ _ d _ e _ n,fun h_=>by intro _ e_;cases Option.some.inj (e_.symm.trans d);intro _ e_;cases Option.some.inj (e_.symm.trans e);intro _ e_;cases Option.some.inj (e_.symm.trans n);exact h_⟩) ?_
 refine rz rfl<|y _ _ ?_
 refine Cx [(4,vI H)] rfl (fun T=> ?_)
 cases b
 exact aR eV1
def Ge(N:Nat)(i:Int)(x_0:List UInt8)(x_1:List (Int×Int))(x_2:List (Int×Int×Int))(x_3:List (Int×BitVec 128×Int×BitVec 128×Int))(x_4:Int)(c2_:List (List UInt8))(c3_p0_0_:AF):Option Int:=ck (0≤i∧i<(c2_.length:Int)) ((BT N (c2_[i.toNat]!)).bind fun r5=>(Al N r5 4).bind fun r7=>(AH N c2_ i).bind fun r9=>(Fd N c3_p0_0_ x_0 x_1 x_2 x_3 x_4).bind fun r11=>(Ay N ([r7,r9,r11])).bind fun r16=>some r16)
theorem MM(N i x_0 x_1 x_2 x_3 x_4 b c3_p0_0_ r)(c:Ge N i x_0 x_1 x_2 x_3 x_4 b c3_p0_0_=some r)(ro x_1v)(hx_1:Rd Jl ro x_1v x_1)(x_2v)(hx_2:Rd CN ro x_2v x_2)(x_3v)(hx_3:Rd Jk ro x_3v x_3)(l:Nat)(a)(g:Rd By ro a b)(h:Blk ro l [a])(m:Nat)(c3_p0_0_v:AE)(hc3_p0_0_:Bun59R ro c3_p0_0_v c3_p0_0_)(n:Blk ro m [vF 81 #[vA (Ab c3_p0_0_ c3_p0_0_v)] #[]]):DoesI prog 131 #[vI i,vA #[vS x_0,x_1v,x_2v,x_3v,vI x_4],vP l 0,vP m 0] CR ro [] (pV (vI r)):=by
 unfold Ge at c
 refine AC follows func131 rfl 21 rfl _ fz4 AG (fun z=> ?_)
 refine Aa<|rA rfl fun G=>rz rfl<|Ae fun J A=> ?_
 refine Bt [(some 15,false),(some 18,false),(some 19,false),(some 20,false)] (conG prog [(15,cV (AH N b i) fun f=>vI f),(18,cV (Fd N c3_p0_0_ x_0 x_1 x_2 x_3 x_4) fun f=>vI f),(20,fun _ _ v_ L_ U_=> ∀f,BT N (b[i.toNat]!)=some f→ ∀t,Al N f 4=some t→ ∀u,AH N b i=some u→ ∀v,Fd N c3_p0_0_ x_0 x_1 x_2 x_3 x_4=some v→ ∀x,Ay N ([t,u,v])=some x→(pV (vI x)) v_ L_ U_)]) [] (by decide+kernel) (fun K=>AW) ?_
 refine Cz a (vs:=[a]) (o:=0) rfl rfl (Az h) rfl<|rn 1 rfl<|kC c fun y c=>rI (Rd.shp g) y rfl<|rE (AA g) y 0 rfl<|kB c fun H p c=>rc _ (cF Ho) (Fy N (b[i.toNat]!) _ p)<|kB c fun B q c=>rc _ (cF AI) (Ap N H 4 _ q)<|Cz a (vs:=[a]) (o:=0) rfl rfl (Az h) rfl<|rn 1 rfl<|kB c fun C d c=>rg _ (cF HF) (fun o w z_=>(Does.inv (CL N b i _ d z_.view a (z_.r g)) _)) (DA d)<|Cz (vF 81 #[vA (Ab c3_p0_0_ c3_p0_0_v)] #[]) (vs:=[vF 81 #[vA (Ab c3_p0_0_ c3_p0_0_v)] #[]]) (o:=0) rfl rfl (Az n) rfl<|rm 1 [0] rfl<|kB c fun s e c=>rg _ (BS (bd:=[vA (Ab c3_p0_0_ c3_p0_0_v)]) (caps:=[]) rfl YQ rfl) (fun o w z_=>QF N c3_p0_0_ x_0 x_1 x_2 x_3 x_4 _ e z_.view c3_p0_0_v (Bun59R.mono z_.ro_cell hc3_p0_0_) x_1v (z_.r hx_1) x_2v (z_.r hx_2) x_3v (z_.r hx_3)) (DA e) ?_
 refine FY (Ls:=[(Ey G x_0 x_1v x_2v x_3v x_4)]) 44 AX [B,C,s] [vI B,vI C,vI s] [vI 0,vI 0,vI 0] rfl rfl rfl rfl rfl rfl rfl (by kernel_rfl) (by kernel_rfl) rfl rfl rfl (fun D E F=> ?_)
 refine kB c fun I j c=>rg _ (cF Bx) (fun o w z_=>(Does.inv (Bc N ([B,C,s]) _ j z_.view D ((Ar F (Af (Ls:=[(Ey G x_0 x_1v x_2v x_3v x_4),E]) (k:=1) rfl rfl)) o w z_)) _)) (fun _ _ v_ L_ U_=>⟨fun h_=>h_ _ p _ q _ d _ e _ j,fun h_=>by intro _ e_;cases Option.some.inj (e_.symm.trans p);intro _ e_;cases Option.some.inj (e_.symm.trans q);intro _ e_;cases Option.some.inj (e_.symm.trans d);intro _ e_;cases Option.some.inj (e_.symm.trans e);intro _ e_;cases Option.some.inj (e_.symm.trans j);exact h_⟩) ?_
 refine rz rfl<|A _ _ ?_
 cases c
 exact aR eV1
def DR(N:Nat)(l':List ((List UInt8)×(List (Int×Int))×(List (Int×Int×Int))×(List (Int×BitVec 128×Int×BitVec 128×Int))×Int))(ask0_:List (List UInt8))(ask1_p0_0_:AF):Nat→Int→Option (Int×Int)
  |0,_=>none
  |n8+1,x1_=>if x1_<(l'.length:Int)then ck (0≤x1_∧x1_<(l'.length:Int)) ((Ge N x1_ (l'[x1_.toNat]!.1) (l'[x1_.toNat]!.2.1) (l'[x1_.toNat]!.2.2.1) (l'[x1_.toNat]!.2.2.2.1) (l'[x1_.toNat]!.2.2.2.2) ask0_ ask1_p0_0_).bind fun r24=>if(r24:Int)≠0 then some (x1_,r24)else ck (R64 (x1_+1)) ((DR N l' ask0_ ask1_p0_0_ n8) (x1_+1)))else some (0,0)
def Ic(N:Nat)(l':List ((List UInt8)×(List (Int×Int))×(List (Int×Int×Int))×(List (Int×BitVec 128×Int×BitVec 128×Int))×Int))(most:Int)(ask0_:List (List UInt8))(ask1_p0_0_:AF):Option (Int×Int):=if(l'.length:Int)>most then some (0,2)else DR N l' ask0_ ask1_p0_0_ N 0
theorem Pn(N l' most e ask1_p0_0_ r)(d:Ic N l' most e ask1_p0_0_=some r)(ro l'v)(hl':RdN Fj ro l'v l')(b:Nat)(f)(m:Rd By ro f e)(g:Blk ro b [f])(c:Nat)(ask1_p0_0_v:AE)(hask1_p0_0_:Bun59R ro ask1_p0_0_v ask1_p0_0_)(h:Blk ro c [vF 81 #[vA (Ab ask1_p0_0_ ask1_p0_0_v)] #[]]):DoesI prog 130 #[l'v,vI most,vF 131 #[] #[vP b 0,vP c 0]] CR ro [] (pV (vT #[vI r.1,vI r.2])):=by
 unfold Ic at d
 refine AC follows func130 rfl 31 rfl _ fz3 AG (fun C=> ?_)
 refine AZ rfl<|Ae fun L D=>Aa<|rn 1 rfl<|rL (RdN.shp hl') rfl<|rz rfl<|aD d rfl (fun F d=> ?_) (fun F d=> ?_)
 ·refine AZ rfl ?_
  cases d
  exact aR eV2
 refine Ac<|D _ _ ?_
 refine Ae fun M G=>Aa<|rn 1 rfl<|rL (RdN.shp hl') rfl<|rz rfl<|Am<|AS (fun tt ll nn=> ∃(u:Nat) (a:Int),(DR N l' e ask1_p0_0_ u a=some r)∧Is [(2,vF 131 #[] #[vP b 0,vP c 0]),(15,l'v),(16,vI (l'.length:Int)),(17,vI a)] [] tt ll∧nn=u+1) (N+1) ?_ ?_
 ·exact⟨N,0,d,Aj rfl rfl,rfl⟩
 clear d;rintro t l _ ⟨u,a,d,⟨⟨T,rfl⟩,rfl⟩,rfl⟩
 rcases u with _|u
 ·exact absurd d (by simp [DR])
 rw [DR] at d
 refine AZ rfl<|Ae fun I v=>aD d rfl (fun x d=> ?_) (fun x d=> ?_)
 ·refine Ac<|v _ _ ?_
  refine Ae fun J y=>Am<|Aa<|rn 1 rfl<|kC d fun n d=> ?_
  obtain⟨_,⟨i,j,k,p,q,s,rfl⟩,hat21⟩:=RdN.at (E:=Fj) hl' (Cs n)
  refine rI (RdN.shp hl') n rfl<|Nt (vA #[vS (l'[a.toNat]!.1),i,j,k,vI (l'[a.toNat]!.2.2.2.2)]) (vs:=[vS (l'[a.toNat]!.1),i,j,k,vI (l'[a.toNat]!.2.2.2.2)]) (a.toNat*5) 0 rfl rfl (fun o w z_=>At.mono z_.ro_cell hat21) rfl<|rA rfl fun H=>rn 1 rfl<|r_s (Ey H (l'[a.toNat]!.1) i j k (l'[a.toNat]!.2.2.2.2)) 0 _ _ _ _ _ (#[vS (l'[a.toNat]!.1),i,j,k,vI (l'[a.toNat]!.2.2.2.2)]) rfl rfl rfl rfl (.ofS rfl rfl (Ad rfl (Ad (Shp.one (Rd.shp p)) (Ad (Shp.one (Rd.shp q)) (Ad (Shp.one (Rd.shp s)) (Ad rfl Bf)))))) rfl rfl<|Ah<|Aa<|rm 3 [0] rfl<|kB d fun K z d=>gV _ (AV (caps:=[vP b 0,vP c 0]) rfl Xu rfl) (fun o w z_=>MM N a (l'[a.toNat]!.1) (l'[a.toNat]!.2.1) (l'[a.toNat]!.2.2.1) (l'[a.toNat]!.2.2.2.1) (l'[a.toNat]!.2.2.2.2) e ask1_p0_0_ _ z z_.view i (z_.r p) j (z_.r q) k (z_.r s) b f (z_.r m) (Az g o w z_) c ask1_p0_0_v (Bun59R.mono z_.ro_cell hask1_p0_0_) (Az h o w z_))<|rz rfl<|Aa ?_
  refine rz rfl<|aN d rfl (fun A d=> ?_) (fun A d=> ?_)
  ·refine AZ rfl ?_
   cases d
   exact aR eV2
  refine Ac<|y _ _ ?_
  refine An<|kC d fun B d=>rX B rfl<|rz rfl<|fg _ (Sub.of (suC _ suN)) ?_
  exact⟨u+1,by omega,u,(a+1),d,Aj rfl rfl,rfl⟩
 refine AT<|G _ _ ?_
 refine AZ rfl ?_
 cases d
 exact aR eV2
def HT(N:Nat)(l':List ((List UInt8)×(List (Int×Int))×(List (Int×Int×Int))×(List (Int×BitVec 128×Int×BitVec 128×Int))×Int))(most:Int)(ask0_:AF):Option (Int×Int):=(HY N l').bind fun r4=>(Ic N l' most r4 ask0_).bind fun r11=>some (r11.1,r11.2)
theorem Pe(N l' most b r)(d:HT N l' most b=some r)(ro l'v)(hl':RdN Fj ro l'v l')(a:AE)(c:Bun59R ro a b):DoesI prog 79 #[l'v,vI most,vF 80 #[] #[],vF 81 #[vA (Ab b a)] #[]] CR ro [] (pV (vT #[vI r.1,vI r.2])):=by
 unfold HT at d
 refine AC follows func79 rfl 20 rfl _ fz4 AG (fun g=> ?_)
 refine Aa<|rA rfl fun e=>rz rfl<|Aa<|rn 2 rfl<|kB d fun n j d=>gS (Ls:=[(NI e (vF 81 #[vA (Ab b a)] #[]))]) (cF Xw) (fun o w z_=>(Does.inv (Pj N l' _ j z_.view l'v (RdN.mono z_.ro_cell hl')) _)) (fun h m l=> ?_)
 refine rA rfl fun i=>r_s (List.flatten [(PU i h),(NI e (vF 81 #[vA (Ab b a)] #[])),m]) 0 _ _ _ _ _ (#[h]) rfl rfl rfl (BZ rfl (Sl.shp l)) (.ofS rfl rfl (Ad (Shp.one (Sl.shp l)) Bf)) rfl rfl<|Ah<|Aa<|rn 2 rfl<|r_W (vF 131 #[] #[vP i 0,vP e 0]) rfl (Db rfl)<|kB d fun p f d=>gV _ (cF Xv) (fun o w z_=>Pn N l' most n b _ f z_.view l'v (RdN.mono z_.ro_cell hl') i h ((Ar l (Af (Ls:=[(PU i h),(NI e (vF 81 #[vA (Ab b a)] #[])),m]) (k:=2) rfl rfl)) o w z_) (Bi 0 rfl rfl o w z_) e a (Bun59R.mono z_.ro_cell c) (Bi 1 rfl rfl o w z_))<|rz rfl ?_
 cases d
 exact aR eV2
def Ii(N:Nat)(c:AF):Option (Int×Int):=if(c.2.2.2.2.1.length:Int)=0 then some (0,5)else(HT N c.2.2.2.2.1 16 c).bind fun r8=>some (r8.1,r8.2)
theorem Ps(N c r)(a:Ii N c=some r)(ro)(cv:AE)(hc:Bun59R ro cv c):DoesI prog 38 #[vA (Ab c cv)] CR ro [] (pV (vT #[vI r.1,vI r.2])):=by
 unfold Ii at a
 refine AC follows func38 rfl 17 rfl _ fz1 AG (fun b=> ?_)
 refine Aa<|rA rfl fun g=>rz rfl<|Ae fun h d=>Aa<|rm 3 [0] rfl<|rL (RdN.shp hc.2.2.2.1) rfl<|rz rfl<|aE a rfl (fun e a=> ?_) (fun e a=> ?_)
 ·refine AZ rfl ?_
  cases a
  exact aR eV2
 refine Ac<|d _ _ ?_
 refine Aa<|rm 4 [0,0] rfl<|r_W (vF 81 #[vA (Ab c cv)] #[]) rfl (Dj rfl rfl)<|kB a fun i f a=>gV _ (cF YS) (fun o w z_=>Pe N c.2.2.2.2.1 16 c _ f z_.view cv.2.2.2.1 (RdN.mono z_.ro_cell hc.2.2.2.1) cv (Bun59R.mono z_.ro_cell hc))<|rz rfl ?_
 cases a
 exact aR eV2
def FF(_:Nat)(x_0:List UInt8)(_:List Int)(_:List (Int×Int×Int×Int×BitVec 128)):Option (List UInt8):=some x_0
theorem Mp(N x_0 x_1 x_2 r)(b:FF N x_0 x_1 x_2=some r)(ro:Ro)(x_1v:Value)(_hx_1:Rd AX ro x_1v x_1)(x_2v:Value)(_hx_2:Rd Dz ro x_2v x_2):Does prog 83 #[vA #[vS x_0,x_1v,x_2v]] ro [] (pV (vS r)):=by
 unfold FF at b
 refine Ag follows func83 rfl 5 rfl _ fz1 (fun a=> ?_)
 refine Aa<|rA rfl fun c=>rz rfl<|AY [0] rfl ?_
 cases b
 exact aR eV1
end Go.Proofs.YtajdpjdejpcgnaaGreatDoor
