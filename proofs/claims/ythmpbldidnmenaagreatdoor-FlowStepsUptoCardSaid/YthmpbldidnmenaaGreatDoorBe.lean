import Derived.Test.YthmpbldidnmenaaGreatDoorBd
namespace Go.Proofs.YthmpbldidnmenaaGreatDoor
open Go Go.RowKit Go.Eng _root_.Go.Proofs.Tryz
set_option linter.unusedSimpArgs false
set_option linter.unusedVariables false
set_option maxRecDepth 100000
set_option maxHeartbeats 80000000
abbrev IN(b:Nat)(x0:Value)(x1:Value)(x2:Value)(x3:Value)(x4:Value)(x5:Value)(x6:Value)(x7:Value)(x8:Value)(x9:Value)(x10:Value)(x11:Value)(x12:Value)(x13:Value)(x14:Value)(x15:Int)(x16:Int)(x17:Int):List Bl:=[(b,35, #[x0,x1,x2,x3,x4,x5,x6,x7,x8,x9,x10,x11,x12,x13,x14,vI x15,vI x16,vI x17])]
abbrev UH(b:Nat)(x0:List UInt8)(x1:Value)(x2:Int)(x3:Int)(x4:Int)(x5:Int):List Bl:=[(b,106, #[vS x0,x1,vI x2,vI x3,vI x4,vI x5])]
abbrev ef(b:Nat)(x0:Value):List Bl:=[(b,24, #[x0])]
abbrev Aq(b:Nat)(x0:Value)(x1:Value):List Bl:=[(b,356, #[x0,x1])]
def BP(N:Nat)(m:An):Nat→Int→Option (Int×Int×Int)
  |0,_=>none
  |c+1,a=>if a<15 then(FC N m a).bind fun b=>if(b.2:Int)≠0 then some (a,b.1,b.2)else ck (R64 (a+1)) ((BP N m c) (a+1))else some (0,0,0)
def GE(N:Nat)(m:An):Option (Int×Int×Int):=BP N m N 0
theorem NF(N m r)(a:GE N m=some r)(ro)(mv:Ay)(hm:Aa2 ro mv m):Does prog 14 #[vA (Ac m mv)] ro [] (pV (vT #[vI r.1,vI r.2.1,vI r.2.2])):=by
 unfold GE at a
 refine Aj follows func14 rfl 23 rfl _ fz1 (fun g=> ?_)
 refine Ad<|rA rfl fun n=>rz rfl<|Aa fun q h=>AZ rfl<|Ah<|AC (fun tt ll nn=> ∃(c:Nat) (b:Int),(BP N m c b=some r)∧Is [(1,vP n 0),(5,vI b)] [(n,35,(Ac m mv))] tt ll∧nn=c+1) (N+1) ?_ ?_
 ·exact⟨N,0,a,Af rfl rfl,rfl⟩
 clear a;rintro t l _ ⟨c,b,a,⟨⟨T,rfl⟩,rfl⟩,rfl⟩
 rcases c with _|c
 ·exact absurd a (by simp [BP])
 rw [BP] at a
 refine Aa fun s i=>AZ rfl<|aD a rfl (fun j a=> ?_) (fun j a=> ?_)
 ·refine Ab<|i _ _ ?_
  refine Aa fun u k=>Ah<|Ad<|rm 2 [0] rfl<|kB a fun p d a=>gV _ (cF pA) (fun o w z_=>Oe N m b _ d z_.view mv (Aa2.mono z_.ro_cell hm))<|rz rfl<|AZ rfl<|aN a rfl (fun e a=> ?_) (fun e a=> ?_)
  ·refine AZ rfl ?_
   cases a
   exact aR eV3
  refine Ab<|k _ _ ?_
  refine Ag<|rn 1 rfl<|kC a fun f a=>rX f rfl<|rz rfl<|fg _ (Sub.of (suK _ suN)) ?_
  exact⟨c+1,by omega,c,(b+1),a,Af rfl rfl,rfl⟩
 refine AD<|h _ _ ?_
 refine AZ rfl ?_
 cases a
 exact aR eV3
def CK(N:Nat)(m:An):Option Bool:=ck ((R64 ((m.2.1.length:Int)+(m.2.2.1.length:Int)))) (ck ((R64 (((m.2.1.length:Int)+(m.2.2.1.length:Int))+(m.2.2.2.2.1.length:Int)))) (ck ((R64 ((((m.2.1.length:Int)+(m.2.2.1.length:Int))+(m.2.2.2.2.1.length:Int))+(m.2.2.2.2.2.1.length:Int)))) (ck ((R64 (((((m.2.1.length:Int)+(m.2.2.1.length:Int))+(m.2.2.2.2.1.length:Int))+(m.2.2.2.2.2.1.length:Int))+(m.2.2.2.2.2.2.1.length:Int)))) (ck ((R64 ((((((m.2.1.length:Int)+(m.2.2.1.length:Int))+(m.2.2.2.2.1.length:Int))+(m.2.2.2.2.2.1.length:Int))+(m.2.2.2.2.2.2.1.length:Int))+(m.2.2.2.2.2.2.2.1.length:Int)))) (ck ((R64 (((((((m.2.1.length:Int)+(m.2.2.1.length:Int))+(m.2.2.2.2.1.length:Int))+(m.2.2.2.2.2.1.length:Int))+(m.2.2.2.2.2.2.1.length:Int))+(m.2.2.2.2.2.2.2.1.length:Int))+(m.2.2.2.2.2.2.2.2.1.length:Int)))) (if((((((((m.2.1.length:Int)+(m.2.2.1.length:Int))+(m.2.2.2.2.1.length:Int))+(m.2.2.2.2.2.1.length:Int))+(m.2.2.2.2.2.2.1.length:Int))+(m.2.2.2.2.2.2.2.1.length:Int))+(m.2.2.2.2.2.2.2.2.1.length:Int)):Int)>150 then some false else(GE N m).bind fun a=>some (a.2.2==0)))))))
theorem NG(N m r)(a:CK N m=some r)(ro)(mv:Ay)(hm:Aa2 ro mv m):Does prog 4 #[vA (Ac m mv)] ro [] (pV (vB r)):=by
 unfold CK at a
 refine Aj follows func4 rfl 42 rfl _ fz1 (fun e=> ?_)
 refine Ad<|rA rfl fun l=>rz rfl<|Aa fun p f=>Ad<|rm 2 [0] rfl<|rL (RdN.shp hm.1) rfl<|rm 2 [0] rfl<|rL (Rd.shp hm.2.1) rfl<|kC a fun g a=>rX g rfl<|rm 2 [0] rfl<|rL (RdN.shp hm.2.2.2.1) rfl<|kC a fun h a=>rX h rfl<|rm 2 [0] rfl<|rL (RdN.shp hm.2.2.2.2.1) rfl<|kC a fun i a=>rX i rfl<|rm 2 [0] rfl<|rL (RdN.shp hm.2.2.2.2.2.1) rfl<|kC a fun j a=>rX j rfl<|rm 2 [0] rfl<|rL (RdN.shp hm.2.2.2.2.2.2.1) rfl<|kC a fun k a=>rX k rfl<|rm 2 [0] rfl<|rL (RdN.shp hm.2.2.2.2.2.2.2.1) rfl<|kC a fun b a=>rX b rfl<|rz rfl ?_
 refine Gm [(1,vP l 0),(33,vB (decide (((((((((m.2.1.length:Int)+(m.2.2.1.length:Int))+(m.2.2.2.2.1.length:Int))+(m.2.2.2.2.2.1.length:Int))+(m.2.2.2.2.2.2.1.length:Int))+(m.2.2.2.2.2.2.2.1.length:Int))+(m.2.2.2.2.2.2.2.2.1.length:Int)):Int)>150)))] rfl (fun T=> ?_)
 refine aD a rfl (fun c a=> ?_) (fun c a=> ?_)
 ·refine AZ rfl ?_
  cases a
  exact aR eV1
 refine Ab<|f _ _ ?_
 refine Ad<|rm 1 [0] rfl<|kB a fun n d a=>gV _ (cF pB) (fun o w z_=>NF N m _ d z_.view mv (Aa2.mono z_.ro_cell hm))<|rz rfl<|AZ rfl ?_
 cases a
 exact aR eV1
abbrev PY:EncO (Int×Int×(List (Int×Int×Int×Int×BitVec 128))×(List (Int×BitVec 128))×Int×Int):=(II (KR BJ) (II (KR BJ) (II (OS 41 Ac9) (II (OS 39 Ac8) (II (KR BJ) (KR BJ))))))
abbrev Vt:EncO ((List UInt8)×Int×(List (Int×Int×Int))×(List Int)×Int×(List (Int×BitVec 128))×Int):=(II (KR Aa4) (II (KR BJ) (II (OS 278 Ad0) (II (OS 3 BJ) (II (KR BJ) (II (OS 39 Ac8) (KR BJ)))))))
abbrev Vu:EncO ((List UInt8)×(List Int)×(List (Int×Int×Int×Int×BitVec 128))):=(II (KR Aa4) (II (OS 3 BJ) (OS 41 Ac9)))
abbrev KP:EncO ((List UInt8)×(List (Int×Int))×(List (Int×Int×Int))×(List (Int×BitVec 128×Int×BitVec 128×Int))×Int):=(II (KR Aa4) (II (OS 223 Af2) (II (OS 278 Ad0) (II (OS 227 Af3) (KR BJ)))))
abbrev KQ:EncO ((List UInt8)×(List (List UInt8×Int))×Int×Int×Int×Int):=(II (KR Aa4) (II (OS 104 Ab4) (II (KR BJ) (II (KR BJ) (II (KR BJ) (KR BJ))))))
def EQ(_:Nat):Option ((List UInt8)×(List ((List UInt8)×(List (List UInt8×Int))×Int×Int×Int×Int))×(List (List UInt8×Int×Int))×(List (List UInt8×Int))×(List ((List UInt8)×(List (Int×Int))×(List (Int×Int×Int))×(List (Int×BitVec 128×Int×BitVec 128×Int))×Int))×(List ((List UInt8)×(List Int)×(List (Int×Int×Int×Int×BitVec 128))))×(List ((List UInt8)×Int×(List (Int×Int×Int))×(List Int)×Int×(List (Int×BitVec 128))×Int))×(List (Int×Int×(List (Int×Int×Int×Int×BitVec 128))×(List (Int×BitVec 128))×Int×Int))×(List (Int×Int×(List (Int×Int×Int×Int×BitVec 128))×(List (Int×BitVec 128))×Int×Int))×(List Int)×(List (Int×Int))×(List (Int×Int))×(List (List UInt8×Int×Int))×(List (List UInt8×Int))×(List (List UInt8×Int×Int×Int))×Int×Int×Int):=some (([109]:List UInt8),[(([104]:List UInt8),[(([97]:List UInt8),8)],0,0,0,0)],[(([120]:List UInt8),0,0)],[],[(([115]:List UInt8),[],[],[],-1)],[],[],[],[],[],[],[],[],[],[],1,1,0)
theorem Ki(N r)(u:EQ N=some r)(ro:Ro):Does prog 16 #[] ro [] (pO [] (oSO 106 KQ r.2.1 fun s_0=>(oS 84 Ad5 r.2.2.1 fun s_1=>(oS 104 Ab4 r.2.2.2.1 fun s_2=>(oSO 111 KP r.2.2.2.2.1 fun s_3=>(oSO 188 Vu r.2.2.2.2.2.1 fun s_4=>(oSO 193 Vt r.2.2.2.2.2.2.1 fun s_5=>(oSO 182 PY r.2.2.2.2.2.2.2.1 fun s_6=>(oSO 182 PY r.2.2.2.2.2.2.2.2.1 fun s_7=>(oS 3 BJ r.2.2.2.2.2.2.2.2.2.1 fun s_8=>(oS 185 Ae3 r.2.2.2.2.2.2.2.2.2.2.1 fun s_9=>(oS 185 Ae3 r.2.2.2.2.2.2.2.2.2.2.2.1 fun s_10=>(oS 195 Ae8 r.2.2.2.2.2.2.2.2.2.2.2.2.1 fun s_11=>(oS 197 Ae9 r.2.2.2.2.2.2.2.2.2.2.2.2.2.1 fun s_12=>(oS 199 Af0 r.2.2.2.2.2.2.2.2.2.2.2.2.2.2.1 fun s_13=>(oE (vA #[vS r.1,s_0,s_1,s_2,s_3,s_4,s_5,s_6,s_7,s_8,s_9,s_10,s_11,s_12,s_13,vI r.2.2.2.2.2.2.2.2.2.2.2.2.2.2.2.1,vI r.2.2.2.2.2.2.2.2.2.2.2.2.2.2.2.2.1,vI r.2.2.2.2.2.2.2.2.2.2.2.2.2.2.2.2.2]) [])))))))))))))))):=by
 unfold EQ at u
 refine Ek follows func16 rfl 10 rfl _ fz0 (fun _ _ h_ _=>h_) (fun n=> ?_)
 refine Ad<|rA rfl fun f=>Ak<|Ad<|r_W (vA #[Value.string (⟨#[97]⟩),vI 8]) rfl (Ap rfl rfl rfl rfl)<|gB (Ls:=[(IN f (Value.string (⟨#[]⟩)) nS nS nS nS nS nS nS nS nS nS nS nS nS nS 0 0 0)]) 104 Ab4 [(([97]:List UInt8),8)] (fun o i v=> ?_)
 refine r_W (vA #[Value.string (⟨#[104]⟩),o,vI 0,vI 0,vI 0,vI 0]) rfl (My rfl rfl rfl (HL rfl (HL (FM rfl (Sl.shp v)) Pw)) rfl) ?_
 have hR7:(KQ).R (([104]:List UInt8),[(([97]:List UInt8),8)],0,0,0,0) [Value.string (⟨#[104]⟩),o,vI 0,vI 0,vI 0,vI 0] i:=(by have h_:=(Ka (Mz (E:=Aa4) ([104]:List UInt8)) (Ka (RO (e:=104) (E:=Ab4) v) (Ka (Mz (E:=BJ) 0) (Ka (Mz (E:=BJ) 0) (Ka (Mz (E:=BJ) 0) (Mz (E:=BJ) 0))))));exact EncO.cast h_ (by first|rfl|simp only [j7,List.append_nil,zu]))
 refine cD 4<|IW (cs0:=[]) (Ls:=[(IN f (Value.string (⟨#[]⟩)) nS nS nS nS nS nS nS nS nS nS nS nS nS nS 0 0 0),i]) 106 (EncO.raw KQ) [EncO.of KQ hR7] [Value.string (⟨#[104]⟩),o,vI 0,vI 0,vI 0,vI 0] [Value.string (⟨#[]⟩),nS,vI 0,vI 0,vI 0,vI 0] rfl rfl rfl rfl rfl rfl rfl (by kernel_rfl) ((PV _ _ _ _ (HL rfl Pw)).trans (by kernel_rfl)) rfl rfl rfl (fun h m q=> ?_)
 refine Db (Ls:=[(IN f (Value.string (⟨#[]⟩)) nS nS nS nS nS nS nS nS nS nS nS nS nS nS 0 0 0),i,m]) (Ls':=[(IN f (Value.string (⟨#[]⟩)) nS nS nS nS nS nS nS nS nS nS nS nS nS nS 0 0 0),m,i]) [0,2,1] rfl rfl<|qb (Ls:=[(IN f (Value.string (⟨#[]⟩)) nS nS nS nS nS nS nS nS nS nS nS nS nS nS 0 0 0),m,i]) (Ls':=[(IN f (Value.string (⟨#[]⟩)) nS nS nS nS nS nS nS nS nS nS nS nS nS nS 0 0 0),(m++i)]) (by simp only [List.flatten_cons,List.flatten_nil,List.append_nil,zu]) ?_
 refine Yt (Ls:=[(IN f (Value.string (⟨#[]⟩)) nS nS nS nS nS nS nS nS nS nS nS nS nS nS 0 0 0),(m++i)]) (p:=fun S_=>SlO 106 KQ h ([(([104]:List UInt8),[(([97]:List UInt8),8)],0,0,0,0)]) S_) 1 rfl (SlO.cast (⟨_,_,_,q,(Items.one hR7),rfl⟩:SlO 106 KQ h [(([104]:List UInt8),[(([97]:List UInt8),8)],0,0,0,0)] _) (by first|rfl|simp only [j7,List.append_nil,zu])) (fun b j=> ?_)
 refine r_W (vA #[Value.string (⟨#[120]⟩),vI 0,vI 0]) rfl (Ap rfl rfl rfl rfl)<|gB (Ls:=[(IN f (Value.string (⟨#[]⟩)) nS nS nS nS nS nS nS nS nS nS nS nS nS nS 0 0 0),b]) 84 Ad5 [(([120]:List UInt8),0,0)] (fun c d k=> ?_)
 refine r_W (vA #[Value.string (⟨#[115]⟩),nS,nS,nS,vI (-1)]) rfl (Ap rfl rfl rfl rfl) ?_
 have hR16:(KP).R (([115]:List UInt8),[],[],[],-1) [Value.string (⟨#[115]⟩),nS,nS,nS,vI (-1)] ([]):=(by have h_:=(Ka (Mz (E:=Aa4) ([115]:List UInt8)) (Ka (RO (e:=223) (E:=Af2) Sl.nil) (Ka (RO (e:=278) (E:=Ad0) Sl.nil) (Ka (RO (e:=227) (E:=Af3) Sl.nil) (Mz (E:=BJ) (-1))))));exact EncO.cast h_ (by first|rfl|simp only [j7,List.append_nil,zu]))
 refine cD 8<|IW (cs0:=[]) (Ls:=[(IN f (Value.string (⟨#[]⟩)) nS nS nS nS nS nS nS nS nS nS nS nS nS nS 0 0 0),b,d]) 111 (EncO.raw KP) [EncO.of KP hR16] [Value.string (⟨#[115]⟩),nS,nS,nS,vI (-1)] [Value.string (⟨#[]⟩),nS,nS,nS,vI 0] rfl rfl rfl rfl rfl rfl rfl (by kernel_rfl) ((PV _ _ _ _ (HL rfl Pw)).trans (by kernel_rfl)) rfl rfl rfl (fun a s t=> ?_)
 refine Yt (Ls:=[(IN f (Value.string (⟨#[]⟩)) nS nS nS nS nS nS nS nS nS nS nS nS nS nS 0 0 0),b,d,s]) (p:=fun S_=>SlO 111 KP a ([(([115]:List UInt8),[],[],[],-1)]) S_) 3 rfl (SlO.cast (⟨_,_,_,t,(Items.one hR16),rfl⟩:SlO 111 KP a [(([115]:List UInt8),[],[],[],-1)] _) (by first|rfl|simp only [j7,List.append_nil,zu])) (fun g l=> ?_)
 refine r_W (vA #[Value.string (⟨#[109]⟩),h,c,nS,a,nS,nS,nS,nS,nS,nS,nS,nS,nS,nS,vI 1,vI 1,vI 0]) rfl (My rfl rfl rfl (HL rfl (HL (FM rfl (SlO.shp j)) (HL (FM rfl (Sl.shp k)) (HL (FM rfl (SlO.shp l)) (HL rfl (HL rfl Pw)))))) rfl) ?_
 refine r_s (List.flatten [(IN f (Value.string (⟨#[109]⟩)) h c nS a nS nS nS nS nS nS nS nS nS nS 1 1 0),b,d,g]) 0 _ _ _ _ _ (#[Value.string (⟨#[109]⟩),h,c,nS,a,nS,nS,nS,nS,nS,nS,nS,nS,nS,nS,vI 1,vI 1,vI 0]) rfl rfl rfl rfl (.ofS rfl rfl (Ae rfl (Ae (Shp.one (SlO.shp j)) (Ae (Shp.one (Sl.shp k)) (Ae (Shp.one (.inl ⟨rfl,rfl⟩)) (Ae (Shp.one (SlO.shp l)) (Ae (Shp.one (.inl ⟨rfl,rfl⟩)) (Ae (Shp.one (.inl ⟨rfl,rfl⟩)) (Ae (Shp.one (.inl ⟨rfl,rfl⟩)) (Ae (Shp.one (.inl ⟨rfl,rfl⟩)) (Ae (Shp.one (.inl ⟨rfl,rfl⟩)) (Ae (Shp.one (.inl ⟨rfl,rfl⟩)) (Ae (Shp.one (.inl ⟨rfl,rfl⟩)) (Ae (Shp.one (.inl ⟨rfl,rfl⟩)) (Ae (Shp.one (.inl ⟨rfl,rfl⟩)) (Ae (Shp.one (.inl ⟨rfl,rfl⟩)) (Ae rfl (Ae rfl (Ae rfl Bt))))))))))))))))))) rfl rfl ?_
 refine Ak ?_
 cases u
 refine Bi (fun w=>Je (v0:=vA #[Value.string (⟨#[109]⟩),h,c,nS,a,nS,nS,nS,nS,nS,nS,nS,nS,nS,nS,vI 1,vI 1,vI 0]) (O:=[b,d,[],g,[],[],[],[],[],[],[],[],[],[]]) (Gj (AT w 0 rfl rfl rfl)) (Sub.pickE (Ls:=[(IN f (Value.string (⟨#[109]⟩)) h c nS a nS nS nS nS nS nS nS nS nS nS 1 1 0),b,d,g,[],[],[],[],[],[],[],[],[],[],[]]) (Ls0:=[(IN f (Value.string (⟨#[109]⟩)) h c nS a nS nS nS nS nS nS nS nS nS nS 1 1 0),b,d,g]) rfl [1,2,4,3,5,6,7,8,9,10,11,12,13,14] rfl) ⟨h,b,_,j,⟨c,d,_,k,⟨nS,[],_,Sl.nil,⟨a,g,_,l,⟨nS,[],_,SlO.nil,⟨nS,[],_,SlO.nil,⟨nS,[],_,SlO.nil,⟨nS,[],_,SlO.nil,⟨nS,[],_,Sl.nil,⟨nS,[],_,Sl.nil,⟨nS,[],_,Sl.nil,⟨nS,[],_,Sl.nil,⟨nS,[],_,Sl.nil,⟨nS,[],_,Sl.nil,⟨rfl,rfl⟩,rfl⟩,rfl⟩,rfl⟩,rfl⟩,rfl⟩,rfl⟩,rfl⟩,rfl⟩,rfl⟩,rfl⟩,rfl⟩,rfl⟩,rfl⟩,rfl⟩)
def QF(a:Value):List Fv:=[⟨vF 77 #[a] #[],rfl⟩,⟨vF 78 #[a] #[],rfl⟩,⟨vF 79 #[a] #[],rfl⟩,⟨vF 80 #[a] #[],rfl⟩,⟨vF 81 #[a] #[],rfl⟩,⟨vF 82 #[a] #[],rfl⟩,⟨vF 83 #[a] #[],rfl⟩,⟨vF 84 #[a] #[],rfl⟩,⟨vF 85 #[a] #[],rfl⟩,⟨vF 86 #[a] #[],rfl⟩,⟨vF 87 #[a] #[],rfl⟩,⟨vF 88 #[a] #[],rfl⟩,⟨vF 89 #[a] #[],rfl⟩,⟨vF 90 #[a] #[],rfl⟩,⟨vF 91 #[a] #[],rfl⟩]
def OC(_:Nat)(_:An):Option Unit:=some ()
theorem YF(N c r)(b:OC N c=some r)(ro:Ro)(cv:Ay)(_hc:Aa2 ro cv c):DoesI prog 52 #[vA (Ac c cv)] GC ro [] (p1 (fun s_=>s_) 145 KS (QF (vA (Ac c cv)))):=by
 unfold OC at b
 refine AW follows func52 rfl 34 rfl _ fz1 Be (fun a=> ?_)
 refine Ad<|rA rfl fun d=>rz rfl<|Ad<|rm 1 [0] rfl<|r_W (vF 77 #[vA (Ac c cv)] #[]) rfl (HO rfl rfl)<|rm 1 [0] rfl<|r_W (vF 78 #[vA (Ac c cv)] #[]) rfl (HO rfl rfl)<|rm 1 [0] rfl<|r_W (vF 79 #[vA (Ac c cv)] #[]) rfl (HO rfl rfl)<|rm 1 [0] rfl<|r_W (vF 80 #[vA (Ac c cv)] #[]) rfl (HO rfl rfl)<|rm 1 [0] rfl ?_
 refine r_W (vF 81 #[vA (Ac c cv)] #[]) rfl (HO rfl rfl)<|rm 1 [0] rfl<|r_W (vF 82 #[vA (Ac c cv)] #[]) rfl (HO rfl rfl)<|rm 1 [0] rfl<|r_W (vF 83 #[vA (Ac c cv)] #[]) rfl (HO rfl rfl)<|rm 1 [0] rfl<|r_W (vF 84 #[vA (Ac c cv)] #[]) rfl (HO rfl rfl)<|rm 1 [0] rfl<|r_W (vF 85 #[vA (Ac c cv)] #[]) rfl (HO rfl rfl) ?_
 refine rm 1 [0] rfl<|r_W (vF 86 #[vA (Ac c cv)] #[]) rfl (HO rfl rfl)<|rm 1 [0] rfl<|r_W (vF 87 #[vA (Ac c cv)] #[]) rfl (HO rfl rfl)<|rm 1 [0] rfl<|r_W (vF 88 #[vA (Ac c cv)] #[]) rfl (HO rfl rfl)<|rm 1 [0] rfl<|r_W (vF 89 #[vA (Ac c cv)] #[]) rfl (HO rfl rfl)<|rm 1 [0] rfl ?_
 refine r_W (vF 90 #[vA (Ac c cv)] #[]) rfl (HO rfl rfl)<|rm 1 [0] rfl<|r_W (vF 91 #[vA (Ac c cv)] #[]) rfl (HO rfl rfl)<|cD 33 ?_
 refine IW (cs0:=[]) (Ls:=[[(d,143,(Ac c cv))]]) 145 KS (QF (vA (Ac c cv))) [vF 77 #[vA (Ac c cv)] #[],vF 78 #[vA (Ac c cv)] #[],vF 79 #[vA (Ac c cv)] #[],vF 80 #[vA (Ac c cv)] #[],vF 81 #[vA (Ac c cv)] #[],vF 82 #[vA (Ac c cv)] #[],vF 83 #[vA (Ac c cv)] #[],vF 84 #[vA (Ac c cv)] #[],vF 85 #[vA (Ac c cv)] #[],vF 86 #[vA (Ac c cv)] #[],vF 87 #[vA (Ac c cv)] #[],vF 88 #[vA (Ac c cv)] #[],vF 89 #[vA (Ac c cv)] #[],vF 90 #[vA (Ac c cv)] #[],vF 91 #[vA (Ac c cv)] #[]] [Value.nilFunc,Value.nilFunc,Value.nilFunc,Value.nilFunc,Value.nilFunc,Value.nilFunc,Value.nilFunc,Value.nilFunc,Value.nilFunc,Value.nilFunc,Value.nilFunc,Value.nilFunc,Value.nilFunc,Value.nilFunc,Value.nilFunc] rfl rfl rfl rfl rfl rfl rfl (by kernel_rfl) (by kernel_rfl) rfl rfl rfl (fun e f g=> ?_)
 refine rz rfl<|Gm [(2,e)] rfl (fun T=> ?_)
 cases b
 refine Bi (fun h=>Ha (v0:=e) g (EK (Sub.pick [[(d,143,(Ac c cv))],f] [1] rfl)) rfl (Gj rfl))
def AE(_:Nat)(n:Int)(a:Int)(b:Int):Option Bool:=if n≥a then some (decide (n≤b))else some false
theorem AO(N n least most r)(a:AE N n least most=some r):Gives prog 102 #[vI n,vI least,vI most] (vB r):=by
 unfold AE at a
 refine As follows func102 rfl 15 rfl _ fz3 (fun d=> ?_)
 refine AZ rfl<|Aa fun e b=>Ag<|rn 4 rfl ?_
 rcases c:(decide (n≥least))with _|_
 ·replace a:=iF c a
  refine rz rfl<|b _ _ ?_
  cases a
  exact aR eE1
 replace a:=iD c a
 refine rz rfl<|b _ _ ?_
 cases a
 exact aR eE1
def Dz(_:Nat)(c:Int)(a:Int)(b:Int):Option Bool:=if c≥a then some (decide (c≤b))else some false
theorem ES(N c first last r)(a:Dz N c first last=some r):Gives prog 246 #[Value.int .i32 c,Value.int .i32 first,Value.int .i32 last] (vB r):=by
 unfold Dz at a
 refine As follows func246 rfl 15 rfl _ fz3 (fun e=> ?_)
 refine AZ rfl<|Aa fun f b=>Ag<|rn 4 rfl ?_
 rcases d:(decide (c≥first))with _|_
 ·replace a:=iF d a
  refine rz rfl<|b _ _ ?_
  cases a
  exact aR eE1
 replace a:=iD d a
 refine rz rfl<|b _ _ ?_
 cases a
 exact aR eE1
def It(N:Nat)(c:Int):Option Bool:=(Dz N c 65 90).bind fun e=>if e=true then some true else(Dz N c 97 122).bind fun f=>if f=true then some true else if c=95 then some true else(Dz N c 192 591).bind fun a=>if a=true then some true else(Dz N c 913 969).bind fun d=>if d=true then some true else(Dz N c 1024 1279).bind fun b=>some b
def KD(N:Nat)(c:Int):Option Bool:=if c=215 then if c=215 then some false else It N c  else if c=247 then if c=247 then some false else It N c  else if c=930 then some false else It N c 
theorem QE(N c r)(a:KD N c=some r):Gives prog 220 #[Value.int .i32 c] (vB r):=by
 unfold KD at a
 refine As follows func220 rfl 30 rfl _ fz1 (fun v=> ?_)
 refine AZ rfl<|BR (fun tt ll=>(It N c  =some r)∧Is [(0,Value.int .i32 c)] [] tt ll) ?_ ?_
 ·refine AZ rfl<|Ah<|Aa fun z d=>AZ rfl<|aE a rfl (fun g a=> ?_) (fun g a=> ?_)
  ·refine Ab<|d _ _ ?_
   refine aE a rfl (fun h a=> ?_) (fun h a=> ?_)
   ·refine AZ rfl ?_
    cases a
    exact aR eE1
   refine Ab<|fg _ (Sub.of suN) ?_
   exact⟨a,Af rfl rfl⟩
  refine AZ rfl<|aE a rfl (fun i a=> ?_) (fun i a=> ?_)
  ·refine Ab<|d _ _ ?_
   refine aE a rfl (fun j a=> ?_) (fun j a=> ?_)
   ·refine AZ rfl ?_
    cases a
    exact aR eE1
   refine Ab<|fg _ (Sub.of suN) ?_
   exact⟨a,Af rfl rfl⟩
  refine Ag<|rz rfl<|d _ _ ?_
  refine aE a rfl (fun k a=> ?_) (fun k a=> ?_)
  ·refine AZ rfl ?_
   cases a
   exact aR eE1
  refine Ab<|fg _ (Sub.of suN) ?_
  exact⟨a,Af rfl rfl⟩
 clear a;rintro t l ⟨a,⟨T,rfl⟩,rfl⟩
 unfold It at a
 refine Aa fun D b=>Ag<|rn 1 rfl<|kB a fun A w a=>rc _ (cF IJ) (ES N c 65 90 _ w)<|rn 1 rfl ?_
 rcases m:A with _|_
 ·replace a:=iB m a
  refine rn 1 rfl<|r_y rfl<|kB a fun B x a=>rc _ (cF IJ) (ES N c 97 122 _ x)<|rn 2 rfl ?_
  rcases n:B with _|_
  ·replace a:=iB n a
   refine rn 4 rfl ?_
   rcases o:(c==95)with _|_
   ·replace a:=iG o a
    refine rn 1 rfl<|r_y rfl<|kB a fun p q a=>rc _ (cF IJ) (ES N c 192 591 _ q)<|rn 2 rfl<|cG [(0,Value.int .i32 c),(22,vB p)] rfl (fun T=> ?_)
    rcases e:p with _|_
    ·replace a:=iB e a
     refine rn 1 rfl<|r_y rfl<|kB a fun y s a=>rc _ (cF IJ) (ES N c 913 969 _ s)<|rn 2 rfl ?_
     rcases f:y with _|_
     ·replace a:=iB f a
      refine rn 1 rfl<|r_y rfl<|kB a fun C u a=>rc _ (cF IJ) (ES N c 1024 1279 _ u)<|rz rfl<|b _ _ ?_
      cases a
      exact aR eE1
     replace a:=ifp f a
     refine rz rfl<|b _ _ ?_
     cases a
     exact aR eE1
    replace a:=ifp e a
    refine rz rfl<|b _ _ ?_
    cases a
    exact aR eE1
   replace a:=iE o a
   refine rz rfl<|b _ _ ?_
   cases a
   exact aR eE1
  replace a:=ifp n a
  refine rz rfl<|b _ _ ?_
  cases a
  exact aR eE1
 replace a:=ifp m a
 refine rz rfl<|b _ _ ?_
 cases a
 exact aR eE1
def Ov(N:Nat)(c:Int):Option Bool:=(Dz N c 48 57).bind fun a=>some a
theorem Yq(N c r)(a:Ov N c=some r):Gives prog 221 #[Value.int .i32 c] (vB r):=by
 unfold Ov at a
 refine As follows func221 rfl 5 rfl _ fz1 (fun b=> ?_)
 refine AZ rfl<|Ad<|rn 1 rfl<|kB a fun e d a=>rc _ (cF IJ) (ES N c 48 57 _ d)<|rz rfl ?_
 cases a
 exact aR eE1
def KW(N:Nat)(c:Int)(a:Int):Option Bool:=(KD N c).bind fun b=>if b=true then some true else if a>0 then(Ov N c).bind fun d=>if d=true then some true else if c=45 then some true else some (c==46)else some false
theorem Ti(N c ahead r)(a:KW N c ahead=some r):Gives prog 167 #[Value.int .i32 c,vI ahead] (vB r):=by
 unfold KW at a
 refine As follows func167 rfl 23 rfl _ fz2 (fun h=> ?_)
 refine AZ rfl<|Aa fun m b=>Ag<|rn 1 rfl<|kB a fun k i a=>rc _ (cF bt) (QE N c _ i)<|rn 1 rfl ?_
 rcases e:k with _|_
 ·replace a:=iB e a
  refine rn 3 rfl ?_
  rcases f:(decide (ahead>0))with _|_
  ·replace a:=iF f a
   refine rn 3 rfl<|BT rfl rfl<|BT rfl rfl<|rn 2 rfl<|BT rfl rfl<|BT rfl rfl<|rz rfl<|b _ _ ?_
   cases a
   exact aR eE1
  replace a:=iD f a
  refine rn 1 rfl<|r_y rfl<|kB a fun l j a=>rc _ (cF kq) (Yq N c _ j)<|rn 1 rfl ?_
  rcases g:l with _|_
  ·replace a:=iB g a
   refine rn 4 rfl ?_
   rcases d:(c==45)with _|_
   ·replace a:=iG d a
    refine rz rfl<|b _ _ ?_
    cases a
    exact aR eE1
   replace a:=iE d a
   refine rz rfl<|b _ _ ?_
   cases a
   exact aR eE1
  replace a:=ifp g a
  refine rz rfl<|b _ _ ?_
  cases a
  exact aR eE1
 replace a:=ifp e a
 refine rn 3 rfl<|BT rfl rfl<|BT rfl rfl<|BT rfl rfl<|BT rfl rfl<|BT rfl rfl<|BT rfl rfl<|BT rfl rfl<|BT rfl rfl<|BT rfl rfl<|BT rfl rfl<|rz rfl<|b _ _ ?_
 cases a
 exact aR eE1
def KL(N:Nat)(s:List UInt8):Nat→Int→Nat→Option Bool
  |0,_,_=>none
  |d+1,a,b=>if b<(s).length then ck (b<(s).length) (if a=24 then some false else(KW N ((runeAt s b:Nat):Int) a).bind fun c=>if c=true then ck (R64 (a+1)) ((KL N s d) (a+1) (JD s b))else some false)else some (decide (a>0))
def LY(N:Nat)(s:List UInt8):Option Bool:=KL N s N 0 0
theorem QU(N s r)(b:LY N s=some r):Gives prog 116 #[vS s] (vB r):=by
 unfold LY at b
 refine As follows func116 rfl 23 rfl _ fz1 (fun n=> ?_)
 refine AZ rfl<|AZ rfl<|Aa fun y o=>Ad<|rn 1 rfl<|cB 7 (p:=(pIt s))<|dM s rfl rfl rfl rfl rfl (fun _ _ _ _ _=>Iff.rfl) (fun h=> ?_)
 refine Ak<|Ah<|AC (fun tt ll nn=> ∃(g:Nat) (a:Int) (c:Nat),(KL N s g a c=some r)∧Is [(3,vI a),(7,vP h 0)] [(h,(itT s c), #[])] tt ll∧nn=g+1) (N+1) ?_ ?_
 ·exact⟨N,0,0,b,Af rfl rfl,rfl⟩
 clear b;rintro t l _ ⟨g,a,c,b,⟨⟨T,rfl⟩,rfl⟩,rfl⟩
 rcases g with _|g
 ·exact absurd b (by simp [KL])
 rw [KL] at b
 refine Ad<|cA 8 (p:=(pNx h s c))<|gG (lN:=[(h,(itT s (JD s c)), #[])]) 0 h s c rfl rfl rfl rfl rfl rfl (fun _ _ _ _ _=>Iff.rfl) rfl<|r_W (vB (decide (c<(s).length))) rfl (ET (aO s c))<|Ak<|Aa fun z q=>aD b rfl (fun u b=> ?_) (fun u b=> ?_)
 ·refine Ab<|q _ _ ?_
  refine Ah<|Ad<|kC b fun i b=>r_W (Value.int .i32 ((runeAt s c:Nat):Int)) rfl (ET (aM i))<|rz rfl<|Aa fun v j=>Aa fun w f=>Ag<|rn 3 rfl ?_
  rcases d:(a==24)with _|_
  ·replace b:=iG d b
   refine rn 2 rfl<|r_y rfl<|kB b fun x k b=>rc _ (cF lu) (Ti N ((runeAt s c:Nat):Int) a _ k)<|rz rfl<|f _ _ ?_
   refine Bv _ rfl (fun e=> ?_) (fun e=> ?_)
   ·replace b:=ifn (Bool.eq_false_iff.1 (CM e)) b
    refine AZ rfl ?_
    cases b
    exact aR eE1
   replace b:=ifp (CN e) b
   refine Ab<|j _ _ ?_
   refine Ag<|rn 1 rfl<|kC b fun m b=>rX m rfl<|rz rfl<|fg _ (Sub.of (suK _ suN)) ?_
   exact⟨g+1,by omega,g,(a+1),JD s c,b,Af (by first|rfl|(simp only [d];done)|(simp only [d];rfl)|(simp only [Bn];rfl)) rfl,rfl⟩
  replace b:=iE d b
  refine rz rfl<|f _ _ ?_
  refine Lq rfl ?_
  refine AZ rfl ?_
  cases b
  exact aR eE1
 refine AD<|o _ _ ?_
 refine AZ rfl ?_
 cases b
 exact aR eE1
def Ao(_:Nat)(b:Bool)(a:Int):Option Int:=if b=true then some 0 else some a
theorem Ax(N so e' r)(a:Ao N so e'=some r):Gives prog 56 #[vB so,vI e'] (vI r):=by
 unfold Ao at a
 refine As follows func56 rfl 7 rfl _ fz2 (fun b=> ?_)
 refine AZ rfl<|Aa fun e c=>AZ rfl<|aB a rfl (fun d a=> ?_) (fun d a=> ?_)
 ·refine AZ rfl ?_
  cases a
  exact aR eE1
 refine Ab<|c _ _ ?_
 refine AZ rfl ?_
 cases a
 exact aR eE1
def PA(_:Nat)(a:Int):Option Bool:=some (a !=0)
theorem am(N e' r)(b:PA N e'=some r):Gives prog 93 #[vI e'] (vB r):=by
 unfold PA at b
 refine As follows func93 rfl 5 rfl _ fz1 (fun a=> ?_)
 refine AZ rfl<|AZ rfl ?_
 cases b
 exact aR eE1
def go(N:Nat)(s:List Int):Nat→Int→Option Int
  |0,_=>none
  |c+1,a=>if a<(s.length:Int)then ck (0≤a∧a<(s.length:Int)) ((PA N (s[a.toNat]!)).bind fun b=>if b=true then some a else ck (R64 (a+1)) ((go N s c) (a+1)))else some (-1)
def sFm(N:Nat)(s:List Int):Option Int:=go N s N 0
theorem sFg(N s r)(a:sFm N s=some r)(ro sv)(hs:Rd BJ ro sv s):Does prog 92 #[sv,vF 93 #[] #[]] ro [] (pV (vI r)):=by
 unfold sFm at a
 refine Aj follows func92 rfl 19 rfl _ fz2 (fun h=> ?_)
 refine AZ rfl<|Aa fun o i=>Ad<|rn 1 rfl<|rL (Rd.shp hs) rfl<|rz rfl<|Ah<|AC (fun tt ll nn=> ∃(d:Nat) (b:Int),(go N s d b=some r)∧Is [(0,sv),(1,vF 93 #[] #[]),(7,vI (s.length:Int)),(8,vI b)] [] tt ll∧nn=d+1) (N+1) ?_ ?_
 ·exact⟨N,0,a,Af rfl rfl,rfl⟩
 clear a;rintro t l _ ⟨d,b,a,⟨⟨T,rfl⟩,rfl⟩,rfl⟩
 rcases d with _|d
 ·exact absurd a (by simp [go])
 rw [go] at a
 refine AZ rfl<|Aa fun p j=>aD a rfl (fun k a=> ?_) (fun k a=> ?_)
 ·refine Ab<|j _ _ ?_
  refine Aa fun q m=>Ah<|AZ rfl<|Ad<|rn 3 rfl<|kC a fun c a=>rI (Rd.shp hs) c rfl<|rE (Au hs) c 0 rfl<|kB a fun n e a=>rc _ (BG (caps:=[]) rfl ou rfl) (am N (s[b.toNat]!) _ e)<|Ak<|aB a rfl (fun f a=> ?_) (fun f a=> ?_)
  ·refine AZ rfl ?_
   cases a
   exact aR eV1
  refine Ab<|m _ _ ?_
  refine Ag<|kC a fun g a=>rX g rfl<|rz rfl<|fg _ (Sub.of suN) ?_
  exact⟨d+1,by omega,d,(b+1),a,Af rfl rfl,rfl⟩
 refine AD<|i _ _ ?_
 refine AZ rfl ?_
 cases a
 exact aR eV1
def AP(N:Nat)(b:List Int):Option Int:=(sFm N b).bind fun a=>if a<0 then some 0 else ck (0≤a∧a<(b.length:Int)) (some (b[a.toNat]!))
theorem BS(N l' r)(a:AP N l'=some r)(ro l'v)(hl':Rd BJ ro l'v l'):Does prog 55 #[l'v] ro [] (pV (vI r)):=by
 unfold AP at a
 refine Aj follows func55 rfl 12 rfl _ fz1 (fun c=> ?_)
 refine AZ rfl<|Ad<|rn 1 rfl<|kB a fun g d a=>gV _ (cF ow) (fun o w z_=>sFg N l' _ d z_.view l'v ((Au hl') o w z_))<|rz rfl<|Aa fun h e=>AZ rfl<|aD a rfl (fun f a=> ?_) (fun f a=> ?_)
 ·refine AZ rfl ?_
  cases a
  exact aR eV1
 refine Ab<|e _ _ ?_
 refine Ad<|rn 2 rfl<|kC a fun b a=>rI (Rd.shp hl') b rfl<|rE (Au hl') b 0 rfl<|rz rfl ?_
 cases a
 exact aR eV1
def Ja(N:Nat)(c:An)(a:Bool):Option (Int×Int):=(LY N c.1).bind fun e=>(Ao N e 4).bind fun f=>(Ao N a 7).bind fun d=>(AP N ([f,d])).bind fun b=>some (0,b)
def OI(N:Nat)(c:An):Option (Int×Int):=(AE N c.2.2.2.2.2.2.2.2.2.2.2.2.2.2.2.1 1 64).bind fun b=>if b=true then(AE N c.2.2.2.2.2.2.2.2.2.2.2.2.2.2.2.2.1 1 32).bind fun a=>if a=true then(AE N c.2.2.2.2.2.2.2.2.2.2.2.2.2.2.2.2.2 0 4).bind fun d=>Ja N c d else Ja N c false else Ja N c false
theorem YL(N c r)(b:OI N c=some r)(ro:Ro)(cv:Ay)(_hc:Aa2 ro cv c):Does prog 77 #[vA (Ac c cv)] ro [] (pV (vT #[vI r.1,vI r.2])):=by
 unfold OI at b
 refine Aj follows func77 rfl 30 rfl _ fz1 (fun j=> ?_)
 refine Ad<|rA rfl fun m=>rz rfl<|BR (fun tt ll=> ∃(a:Bool),(Ja N c a=some r)∧Is [(1,vP m 0),(4,vB a)] [(m,143,(Ac c cv))] tt ll) ?_ ?_
 ·refine Ag<|rm 3 [0] rfl<|kB b fun n f b=>rc _ (cF Dg) (AO N c.2.2.2.2.2.2.2.2.2.2.2.2.2.2.2.1 1 64 _ f)<|rn 1 rfl ?_
  rcases d:n with _|_
  ·replace b:=iB d b
   refine rz rfl<|fg _ (Sub.of (suK _ suN)) ?_
   exact⟨false,b,Af (by first|rfl|(simp only [d];done)|(simp only [d];rfl)|(simp only [Bn];rfl)) rfl⟩
  replace b:=ifp d b
  refine rn 2 rfl<|r_y rfl<|rm 1 [0] rfl<|r_y rfl<|kB b fun p g b=>rc _ (cF Dg) (AO N c.2.2.2.2.2.2.2.2.2.2.2.2.2.2.2.2.1 1 32 _ g)<|rn 2 rfl ?_
  rcases e:p with _|_
  ·replace b:=iB e b
   refine rz rfl<|fg _ (Sub.of (suK _ suN)) ?_
   exact⟨false,b,Af (by first|rfl|(simp only [d,e];done)|(simp only [d,e];rfl)|(simp only [Bn];rfl)) rfl⟩
  replace b:=ifp e b
  refine rn 2 rfl<|r_y rfl<|rm 1 [0] rfl<|r_y rfl<|kB b fun q h b=>rc _ (cF Dg) (AO N c.2.2.2.2.2.2.2.2.2.2.2.2.2.2.2.2.2 0 4 _ h)<|rz rfl<|fg _ (Sub.of (suK _ suN)) ?_
  exact⟨q,b,Af (by first|rfl|(simp only [d,e];done)|(simp only [d,e];rfl)|(simp only [Bn];rfl)) rfl⟩
 clear b;rintro t l ⟨a,b,⟨T,rfl⟩,rfl⟩
 unfold Ja at b
 refine Ad<|rm 3 [0] rfl<|kB b fun C s b=>rc _ (cF VK) (QU N c.1 _ s)<|kB b fun A u b=>rc _ (cF Bg) (Ax N C 4 _ u)<|rn 1 rfl<|kB b fun B v b=>rc _ (cF Bg) (Ax N a 7 _ v)<|gB (Ls:=[[(m,143,(Ac c cv))]]) 46 BJ [A,B] (fun x y z=> ?_)
 refine kB b fun D i b=>gV _ (cF EG) (fun o w z_=>BS N ([A,B]) _ i z_.view x ((Av z (Ai (Ls:=[[(m,143,(Ac c cv))],y]) (k:=1) rfl rfl)) o w z_))<|rz rfl ?_
 cases b
 exact aR eV2
def Kw(_:Nat)(a:List UInt8)(_:List (List UInt8×Int))(_:Int)(_:Int)(_:Int)(_:Int):Option (List UInt8):=some a
theorem SJ(N h_0 h_1 h_2 h_3 h_4 h_5 r)(b:Kw N h_0 h_1 h_2 h_3 h_4 h_5=some r)(ro:Ro)(h_1v:Value)(_hh_1:Rd Ab4 ro h_1v h_1):Does prog 118 #[vA #[vS h_0,h_1v,vI h_2,vI h_3,vI h_4,vI h_5]] ro [] (pV (vS r)):=by
 unfold Kw at b
 refine Aj follows func118 rfl 5 rfl _ fz1 (fun a=> ?_)
 refine Ad<|rA rfl fun c=>rz rfl<|AY [0] rfl ?_
 cases b
 exact aR eV1
def HU(N:Nat)(b:List ((List UInt8)×(List (List UInt8×Int))×Int×Int×Int×Int)):Nat→List (List UInt8)→Int→Option (List (List UInt8))
  |0,_,_=>none
  |e+1,c,a=>if a<(b.length:Int)then ck (0≤a∧a<(b.length:Int)) ((Kw N (b[a.toNat]!.1) (b[a.toNat]!.2.1) (b[a.toNat]!.2.2.1) (b[a.toNat]!.2.2.2.1) (b[a.toNat]!.2.2.2.2.1) (b[a.toNat]!.2.2.2.2.2)).bind fun d=>ck (0≤a∧a<(c.length:Int)) (ck (R64 (a+1)) ((HU N b e) ((c).set (a.toNat) d) (a+1))))else some c
def Mk(N:Nat)(a:List ((List UInt8)×(List (List UInt8×Int))×Int×Int×Int×Int)):Option (List (List UInt8)):=ck (0≤(a.length:Int)∧(a.length:Int)≤8796093022208) (HU N a N ((List.replicate ((a.length:Int)).toNat ([]))) 0)
theorem UR(N l' r)(b:Mk N l'=some r)(ro l'v)(hl':RdN Ad4 ro l'v l'):Does prog 117 #[l'v,vF 118 #[] #[]] ro [] (p1 (fun s_=>s_) 9 Aa4 r):=by
 unfold Mk at b
 refine Aj follows func117 rfl 26 rfl _ fz2 (fun x=> ?_)
 refine AZ rfl<|Ad<|rn 1 rfl<|rL (RdN.shp hl') rfl<|kC b fun y b=>cB 10<|Sq (Ls:=[]) 9 Aa4 ([]) (l'.length:Int) rfl rfl rfl rfl rfl rfl rfl rfl rfl rfl 8796093022208 rfl y (fun _ _ _ _ _=>Iff.rfl) (fun z C D=> ?_)
 refine rz rfl<|Aa fun H A=>Ad<|rn 1 rfl<|rL (RdN.shp hl') rfl<|rz rfl<|Ah<|Bo _ (Sub.pick [C] [0] rfl)<|AC (fun tt ll nn=> ∃(j:Nat) (e:List (List UInt8)) (a:Int),(HU N l' j e a=some r)∧ ∃(c:List Bl),Sl 9 Aa4 z e c∧Is [(1,vF 118 #[] #[]),(5,z),(11,l'v),(12,vI (l'.length:Int)),(13,vI a)] (List.flatten [c]) tt ll∧nn=j+1) (N+1) ?_ ?_
 ·exact⟨N,(List.replicate ((l'.length:Int)).toNat ([])),0,b,C,D,Af rfl rfl,rfl⟩
 clear b;rintro t l _ ⟨j,e,a,b,c,f,⟨⟨T,rfl⟩,rfl⟩,rfl⟩
 rcases j with _|j
 ·exact absurd b (by simp [HU])
 rw [HU] at b
 refine AZ rfl<|Aa fun F m=>aD b rfl (fun n b=> ?_) (fun n b=> ?_)
 ·refine Ab<|m _ _ ?_
  refine Aa fun G p=>Ah<|Ad<|rn 1 rfl<|kC b fun g b=> ?_
  obtain⟨_,⟨d,h,rfl⟩,hat18⟩:=RdN.at (E:=Ad4) hl' (De g)
  refine rI (RdN.shp hl') g rfl<|MG (vA #[vS (l'[a.toNat]!.1),d,vI (l'[a.toNat]!.2.2.1),vI (l'[a.toNat]!.2.2.2.1),vI (l'[a.toNat]!.2.2.2.2.1),vI (l'[a.toNat]!.2.2.2.2.2)]) (vs:=[vS (l'[a.toNat]!.1),d,vI (l'[a.toNat]!.2.2.1),vI (l'[a.toNat]!.2.2.2.1),vI (l'[a.toNat]!.2.2.2.2.1),vI (l'[a.toNat]!.2.2.2.2.2)]) (a.toNat*6) 0 rfl rfl (fun o w z_=>At.mono z_.ro_cell hat18) rfl<|rA rfl fun k=>rn 1 rfl<|r_s (List.flatten [(UH k (l'[a.toNat]!.1) d (l'[a.toNat]!.2.2.1) (l'[a.toNat]!.2.2.2.1) (l'[a.toNat]!.2.2.2.2.1) (l'[a.toNat]!.2.2.2.2.2)),c]) 0 _ _ _ _ _ (#[vS (l'[a.toNat]!.1),d,vI (l'[a.toNat]!.2.2.1),vI (l'[a.toNat]!.2.2.2.1),vI (l'[a.toNat]!.2.2.2.2.1),vI (l'[a.toNat]!.2.2.2.2.2)]) rfl rfl rfl rfl (.ofS rfl rfl (Ae rfl (Ae (Shp.one (Rd.shp h)) (Ae rfl (Ae rfl (Ae rfl (Ae rfl Bt))))))) rfl rfl<|Ak<|Ag<|rn 3 rfl ?_
  refine rm 1 [0] rfl<|kB b fun q s b=>gV _ (BG (caps:=[]) rfl mf rfl) (fun o w z_=>SJ N (l'[a.toNat]!.1) (l'[a.toNat]!.2.1) (l'[a.toNat]!.2.2.1) (l'[a.toNat]!.2.2.2.1) (l'[a.toNat]!.2.2.2.2.1) (l'[a.toNat]!.2.2.2.2.2) _ s z_.view d (z_.r h))<|kC b fun i b=>rI (Sl.shp f) i rfl<|QS (Ls:=[(UH k (l'[a.toNat]!.1) d (l'[a.toNat]!.2.2.1) (l'[a.toNat]!.2.2.2.1) (l'[a.toNat]!.2.2.2.2.1) (l'[a.toNat]!.2.2.2.2.2)),c]) 1 (En:=Aa4) (e[a.toNat]!) q (a.toNat) 0 rfl rfl rfl f (De i) rfl rfl rfl (HN rfl) rfl (fun u B=> ?_)
  refine Ak<|p _ _ ?_
  refine Ag<|kC b fun v b=>rX v rfl<|rz rfl<|fg _ (Sub.pick [(UH k (l'[a.toNat]!.1) d (l'[a.toNat]!.2.2.1) (l'[a.toNat]!.2.2.2.1) (l'[a.toNat]!.2.2.2.2.1) (l'[a.toNat]!.2.2.2.2.2)),u] [1] rfl) ?_
  exact⟨j+1,by omega,j,(e).set (a.toNat) q,(a+1),b,u,B,Af rfl rfl,rfl⟩
 refine AD<|A _ _ ?_
 refine AZ rfl ?_
 cases b
 refine Bi (fun I=>Ha (v0:=z) f (EK (Sub.pick [c] [0] rfl)) rfl (Gj rfl))
def Sg(_:Nat)(s:List UInt8)(a:List UInt8):Option Int:=ck ((a).length=1) (some (Lib.index s a))
theorem eX(N s substr r)(a:Sg N s substr=some r):Gives prog 247 #[vS s,vS substr] (vI r):=by
 unfold Sg at a
 refine As follows func247 rfl 8 rfl _ fz2 (fun b=> ?_)
 refine AZ rfl<|Ad<|rn 2 rfl<|kC a fun c a=>rc _ (cF jL) (iR s substr c)<|rz rfl ?_
 cases a
 exact aR eE1
def LD(N:Nat)(s:List UInt8)(a:List UInt8):Option Bool:=(Sg N s a).bind fun b=>some (decide (b≥0))
theorem Rm(N s substr r)(a:LD N s substr=some r):Gives prog 222 #[vS s,vS substr] (vB r):=by
 unfold LD at a
 refine As follows func222 rfl 9 rfl _ fz2 (fun b=> ?_)
 refine AZ rfl<|Ad<|rn 2 rfl<|kB a fun d c a=>rc _ (cF jS) (eX N s substr _ c)<|rz rfl ?_
 cases a
 exact aR eE1
def Qg(N:Nat)(s:List UInt8):Option Bool:=(LY N s).bind fun a=>if a=true then(LD N s ([46]:List UInt8)).bind fun b=>some (!(b))else some false
theorem Xk(N s r)(a:Qg N s=some r):Gives prog 168 #[vS s] (vB r):=by
 unfold Qg at a
 refine As follows func168 rfl 10 rfl _ fz1 (fun d=> ?_)
 refine AZ rfl<|Aa fun h b=>Ag<|rn 1 rfl<|kB a fun g e a=>rc _ (cF VK) (QU N s _ e)<|rn 1 rfl ?_
 rcases c:g with _|_
 ·replace a:=iB c a
  refine rz rfl<|b _ _ ?_
  cases a
  exact aR eE1
 replace a:=ifp c a
 refine rn 1 rfl<|r_y rfl<|kB a fun i f a=>rc _ (cF br) (Rm N s ([46]:List UInt8) _ f)<|rz rfl<|b _ _ ?_
 cases a
 exact aR eE1
def IV(_:Nat)(i:Int)(a:List (List UInt8×Int)):Option (List UInt8):=ck (0≤i∧i<(a.length:Int)) (some ((a[i.toNat]!).1))
theorem Qw(N i f r)(g:IV N i f=some r)(ro)(c:Nat)(a)(b:Rd Ab4 ro a f)(d:Blk ro c [a]):Does prog 248 #[vI i,vP c 0] ro [] (pV (vS r)):=by
 unfold IV at g
 refine Aj follows func248 rfl 9 rfl _ fz2 (fun h=> ?_)
 refine AZ rfl<|Ad<|GX a (vs:=[a]) (o:=0) rfl rfl (AQ d) rfl<|rn 1 rfl<|kC g fun e g=>rI (Rd.shp b) e rfl<|rF (Rd.shp b) (Bb e) rfl<|rE (Au b) e 0 rfl<|rz rfl ?_
 cases g
 exact aR eV1
def Ip(N:Nat)(b:Int)(d:List (List UInt8×Int)):Nat→List (List UInt8)→Int→Option (List (List UInt8))
  |0,_,_=>none
  |f+1,c,a=>if a<b then(IV N a d).bind fun e=>ck (0≤a∧a<(c.length:Int)) (ck (R64 (a+1)) ((Ip N b d f) ((c).set (a.toNat) e) (a+1)))else some c
def MW(N:Nat)(a:Int)(b:List (List UInt8×Int)):Option (List (List UInt8)):=ck (0≤a∧a≤8796093022208) (Ip N a b N (List.replicate a.toNat ([])) 0)
theorem VX(N count f r)(b:MW N count f=some r)(ro)(a:Nat)(e)(k:Rd Ab4 ro e f)(i:Blk ro a [e]):Does prog 227 #[vI count,vF 248 #[] #[vP a 0]] ro [] (p1 (fun s_=>s_) 9 Aa4 r):=by
 unfold MW at b
 refine Aj follows func227 rfl 21 rfl _ fz2 (fun y=> ?_)
 refine AZ rfl<|Ad<|rn 1 rfl<|kC b fun z b=>cB 8<|Sq (Ls:=[]) 9 Aa4 ([]) count rfl rfl rfl rfl rfl rfl rfl rfl rfl rfl 8796093022208 rfl z (fun _ _ _ _ _=>Iff.rfl) (fun A D E=> ?_)
 refine rz rfl<|Aa fun H B=>AZ rfl<|Ah<|Bo _ (Sub.pick [D] [0] rfl)<|AC (fun tt ll nn=> ∃(m:Nat) (g:List (List UInt8)) (c:Int),(Ip N count f m g c=some r)∧ ∃(d:List Bl),Sl 9 Aa4 A g d∧Is [(1,vF 248 #[] #[vP a 0]),(5,A),(9,vI count),(10,vI c)] (List.flatten [d]) tt ll∧nn=m+1) (N+1) ?_ ?_
 ·exact⟨N,(List.replicate count.toNat ([])),0,b,D,E,Af rfl rfl,rfl⟩
 clear b;rintro t l _ ⟨m,g,c,b,d,h,⟨⟨T,rfl⟩,rfl⟩,rfl⟩
 rcases m with _|m
 ·exact absurd b (by simp [Ip])
 rw [Ip] at b
 refine AZ rfl<|Aa fun F n=>aD b rfl (fun p b=> ?_) (fun p b=> ?_)
 ·refine Ab<|n _ _ ?_
  refine Aa fun G q=>Ah<|AZ rfl<|Ag<|rn 4 rfl<|kB b fun s u b=>gV _ (BG (caps:=[vP a 0]) rfl jR rfl) (fun o w z_=>Qw N c f _ u z_.view a e (z_.r k) (AQ i o w z_))<|kC b fun j b=>rI (Sl.shp h) j rfl<|QS (Ls:=[d]) 0 (En:=Aa4) (g[c.toNat]!) s (c.toNat) 0 rfl rfl rfl h (De j) rfl rfl rfl (HN rfl) rfl (fun v C=> ?_)
  refine Ak<|q _ _ ?_
  refine Ag<|kC b fun x b=>rX x rfl<|rz rfl<|fg _ (Sub.pick [v] [0] rfl) ?_
  exact⟨m+1,by omega,m,(g).set (c.toNat) s,(c+1),b,v,C,Af rfl rfl,rfl⟩
 refine AD<|B _ _ ?_
 refine AZ rfl ?_
 cases b
 refine Bi (fun I=>Ha (v0:=A) h (EK (Sub.pick [d] [0] rfl)) rfl (Gj rfl))
def LR(N:Nat)(a:List (List UInt8×Int)):Option (List (List UInt8)):=(MW N (a.length:Int) a).bind fun b=>some b
theorem Ua(N l' r)(a:LR N l'=some r)(ro l'v)(hl':Rd Ab4 ro l'v l'):Does prog 223 #[l'v] ro [] (p1 (fun s_=>s_) 9 Aa4 r):=by
 unfold LR at a
 refine Aj follows func223 rfl 7 rfl _ fz1 (fun b=> ?_)
 refine Ad<|r_a (24, #[l'v]) rfl rfl (MF rfl (Rd.shp hl')) (fun c=> ?_) (.inr rfl)
 refine rz rfl<|Ad<|rm 1 [0] rfl<|rL (Rd.shp hl') rfl<|r_W (vF 248 #[] #[vP c 0]) rfl (HD rfl)<|kB a fun h d a=>gS (Ls:=[(ef c l'v)]) (cF bp) (fun o w z_=>VX N (l'.length:Int) l' _ d z_.view c l'v ((Au hl') o w z_) (Cw 0 rfl rfl o w z_)) (fun e f g=> ?_)
 refine rz rfl ?_
 cases a
 refine Bi (fun i=>Ha (v0:=e) g (EK (Sub.pick [(ef c l'v),f] [1] rfl)) rfl (Gj rfl))
def Kp(_:Nat):Option Unit:=some ()
theorem Sk(N r)(b:Kp N=some r)(ro:Ro)(bb:Nat):Does prog 257 #[vP bb 0] ro (Aq bb (Value.pointer none) nS) (pO (Aq bb (Value.pointer none) nS) (oE (vT #[]) [(Aq bb (vP bb 0) nS)])):=by
 unfold Kp at b
 refine Ek follows func257 rfl 20 rfl _ fz1 (fun _ _ h_ _=>h_) (fun a=> ?_)
 refine AY [0] rfl<|Lq rfl ?_
 refine Ag<|rn 2 rfl<|cA 9 (p:=(pUp (fun v_ U_=>v_=vP bb 0∧U_=(Aq bb (Value.pointer none) nS))))<|fo (Ls:=[(Aq bb (Value.pointer none) nS)]) (vP bb 0) 0 rfl rfl rfl rfl rfl (dD (TB:=356) (cs:= #[Value.pointer none,nS]) rfl rfl rfl rfl rfl rfl rfl (List.mem_singleton.2 rfl)) (fun _ _ _ _ _=>Iff.rfl)<|cA 10 (p:=(pUp (fun v_ U_=>v_=vP bb 0∧U_=(Aq bb (Value.pointer none) nS)))) ?_
 refine fo (Ls:=[(Aq bb (Value.pointer none) nS)]) (vP bb 0) 0 rfl rfl rfl rfl rfl (fun w_ _=>Yf (args:= #[vP bb 0]) (e:=Extern.AbiNoEscape.same) (w':=w_) (Za rfl) func265 (by kernel_rfl) (by kernel_rfl) (by kernel_rfl) (by kernel_rfl) rfl) (fun _ _ _ _ _=>Iff.rfl)<|cA 11 (p:=(pUp (fun v_ U_=>v_=vP bb 0∧U_=(Aq bb (Value.pointer none) nS))))<|fo (Ls:=[(Aq bb (Value.pointer none) nS)]) (vP bb 0) 0 rfl rfl rfl rfl rfl (Xp (TB:=356) (cs:= #[Value.pointer none,nS]) 2 rfl rfl rfl rfl rfl (List.mem_singleton.2 rfl) rfl (by kernel_rfl)) (fun _ _ _ _ _=>Iff.rfl)<|rn 2 rfl ?_
 refine ry [0] rfl ?_
 cases b
 refine Vo (v0:=vT #[]) (O:=[(Aq bb (vP bb 0) nS)]) rfl (Sub.pick [(Aq bb (vP bb 0) nS)] [0] rfl) ⟨rfl,rfl⟩
def Pn(_:Nat)(n:Int):Option (List UInt8):=ck (R64 (0+n)) (ck (0≤(0+n)∧(0+n)≤140737488355328) (some ((([]:List UInt8)).take (([]:List UInt8)).length++(([]:List UInt8)).drop (([]:List UInt8)).length)))
theorem ZK(N n r)(c:Pn N n=some r)(ro:Ro)(bb:Nat):Does prog 258 #[vP bb 0,vI n] ro (Aq bb (vP bb 0) nS) (pO (Aq bb (vP bb 0) nS) (oS 5 Ab9 r fun s_0=>(oE (vT #[]) [(Aq bb (vP bb 0) s_0)]))):=by
 unfold Pn at c
 refine Ek follows func258 rfl 30 rfl _ fz2 (fun _ _ h_ _=>h_) (fun d=> ?_)
 refine Aa fun k f=>Bw [(some 13,false)] (conG prog [(13,fun _ _ v_ L_ U_=>(nc 5 ((0+n)).toNat) v_ L_ U_)]) [] (by decide+kernel) (fun l=>AH)<|rm 4 [0] rfl<|r_W (vI 0) rfl (er rfl rfl rfl)<|r_X (vI 0) rfl (Qu rfl (by decide) (by decide)) rfl<|rn 1 rfl<|kC c fun g c=>rX g rfl<|kC c fun h c=>rR (Ls:=[(Aq bb (vP bb 0) nS)]) (ps:= #[3]) (t:=354) 5 (0+n) rfl rfl rfl (Za rfl) func266 (by kernel_rfl) (by kernel_rfl) (by kernel_rfl) (by kernel_rfl) rfl h (fun _ _ _ _ _=>Iff.rfl) (fun a i xs4 _ j=> ?_)
 refine rm 4 [0] rfl<|rL (.inl ⟨rfl,rfl⟩) rfl<|r_W (Fy a 0 ((((([]:List UInt8)).length:Int)).toNat) 1) rfl (ET (HC rfl rfl rfl rfl (Sl.shp j) (by exact⟨by decide,Int.natCast_nonneg _⟩)))<|rz rfl<|f _ _ ?_
 refine Ad<|rm 5 [0] rfl<|cA 25 (p:=(pUp (fun v_ U_=>v_= .int .i64 ((min (([]:List UInt8)).length (([]:List UInt8)).length:Nat):Int)∧Sl 5 Ab9 (Fy a 0 ((((([]:List UInt8)).length:Int)).toNat) 1) ((([]:List UInt8)).take (([]:List UInt8)).length++(([]:List UInt8)).drop (([]:List UInt8)).length) U_∧U_.map (·.1)=i.map (·.1)))) ?_
 refine pX (Ls:=[(Aq bb (vP bb 0) nS),i]) 1 (En:=Ab9) (ys:=([]:List UInt8)) rfl rfl rfl rfl rfl rfl (Sl.take00 j) (.inl ⟨rfl,rfl⟩) (fun _ _ _=> .inl ⟨rfl,rfl⟩) rfl rfl rfl rfl (fun _ _ _ _ _=>Iff.rfl) (fun e b=> ?_)
 refine Ak<|Ag<|rn 4 rfl<|r_s (List.flatten [(Aq bb (vP bb 0) (Fy a 0 ((((([]:List UInt8)).length:Int)).toNat) 1)),e]) 0 _ _ _ _ _ (#[vP bb 0,Fy a 0 ((((([]:List UInt8)).length:Int)).toNat) 1]) rfl rfl rfl (FM rfl (Sl.shp b)) (.ofS rfl rfl (Ae (Shp.one (Sl.shp b)) Bt)) rfl rfl<|Ak ?_
 cases c
 refine Vo (v0:=vT #[]) (O:=[e,(Aq bb (vP bb 0) (Fy a 0 ((((([]:List UInt8)).length:Int)).toNat) 1))]) rfl (Sub.pick [(Aq bb (vP bb 0) (Fy a 0 ((((([]:List UInt8)).length:Int)).toNat) 1)),e] [1,0] rfl) ⟨Fy a 0 ((((([]:List UInt8)).length:Int)).toNat) 1,e,_,b,⟨rfl,rfl⟩,rfl⟩
def Oj(N:Nat)(n:Int):Option (List UInt8):=ck ((R64 (0 - ((([]:List UInt8)).length:Int)))) (if((0 - ((([]:List UInt8)).length:Int)):Int)<n then(Pn N n).bind fun a=>some a else some ([]:List UInt8))
def Pp(N:Nat)(n:Int):Option (List UInt8):=(Kp N).bind fun a=>if n<0 then none else Oj N n 
theorem ZL(N n r)(a:Pp N n=some r)(ro:Ro)(bb:Nat):Does prog 249 #[vP bb 0,vI n] ro (Aq bb (Value.pointer none) nS) (pO (Aq bb (Value.pointer none) nS) (oS 5 Ab9 r fun s_0=>(oE (vT #[]) [(Aq bb (vP bb 0) s_0)]))):=by
 unfold Pp at a
 refine Ek follows func249 rfl 25 rfl _ fz2 (fun _ _ h_ _=>h_) (fun e=> ?_)
 refine Ad<|rn 1 rfl<|kB a fun m f a=>gM (Ls:=[(Aq bb (Value.pointer none) nS)]) (FL:=[(Aq bb (Value.pointer none) nS)]) [0] (cF VA) (fun o w hn_ z_=>Sk N  _ f _ bb) ?_
 rintro _ _ ⟨rfl,rfl⟩
 refine Db (Ls:=[(Aq bb (vP bb 0) nS)]) (Ls':=[(Aq bb (vP bb 0) nS)]) [0] rfl rfl<|Ak<|BR (fun tt ll=>(Oj N n  =some r)∧Is [(0,vP bb 0),(1,vI n)] (Aq bb (vP bb 0) nS) tt ll) ?_ ?_
 ·refine AZ rfl<|aD a rfl (fun c a=> ?_) (fun c a=> ?_)
  ·refine Ag<|rn 1 rfl ?_
   cases a
  refine Ab<|fg _ (Sub.of (suK _ suN)) ?_
  exact⟨a,Af rfl rfl⟩
 clear a;rintro t l ⟨a,⟨T,rfl⟩,rfl⟩
 unfold Oj at a
 refine Aa fun p g=>Hb [] (by decide+kernel) (fun q=>AH)<|rm 4 [0] rfl<|r_W (vI 0) rfl (er rfl rfl rfl)<|rm 4 [0] rfl<|rL (.inl ⟨rfl,rfl⟩) rfl<|kC a fun h a=>rX h rfl<|rz rfl<|g _ _ ?_
 refine aD a rfl (fun i a=> ?_) (fun i a=> ?_)
 ·refine Ag<|rn 2 rfl<|kB a fun s j a=>gM (Ls:=[(Aq bb (vP bb 0) nS)]) (FL:=[(Aq bb (vP bb 0) nS)]) [0] (cF jK) (fun o w hn_ z_=>ZK N n _ j _ bb) ?_
  rintro _ _ ⟨d,b,_,k,⟨rfl,rfl⟩,rfl⟩
  refine Db (Ls:=[b,(Aq bb (vP bb 0) d)]) (Ls':=[(Aq bb (vP bb 0) d),b]) [1,0] rfl rfl<|Ak ?_
  cases a
  refine Vo (v0:=vT #[]) (O:=[b,(Aq bb (vP bb 0) d)]) rfl (Sub.pick [(Aq bb (vP bb 0) d),b] [1,0] rfl) ⟨d,b,_,k,⟨rfl,rfl⟩,rfl⟩
 refine Ab ?_
 cases a
 refine Vo (v0:=vT #[]) (O:=[[],(Aq bb (vP bb 0) nS)]) rfl (Sub.pickE (Ls:=[(Aq bb (vP bb 0) nS),[]]) (Ls0:=[(Aq bb (vP bb 0) nS)]) rfl [1,0] rfl) ⟨nS,[],_,Sl.nil,⟨rfl,rfl⟩,rfl⟩
def IM(N:Nat)(c:Int)(a:Bool):Option Int:=if a=true then some (IntKind.i32.wrap (c+32))else(Dz N c 1024 1039).bind fun b=>if b=true then some (IntKind.i32.wrap (c+80))else if c=962 then some 963 else some c
def Px(N:Nat)(c:Int):Option Int:=(KD N c).bind fun f=>if f=true then(Dz N c 65 90).bind fun d=>if d=true then IM N c d else(Dz N c 192 222).bind fun b=>if b=true then IM N c b else(Dz N c 913 937).bind fun a=>if a=true then IM N c a else(Dz N c 1040 1071).bind fun e=>IM N c e else some c
theorem ZW(N c r)(a:Px N c=some r):Gives prog 251 #[Value.int .i32 c] (Value.int .i32 r):=by
 unfold Px at a
 refine As follows func251 rfl 28 rfl _ fz1 (fun p=> ?_)
 refine AZ rfl<|Aa fun A q=>Ah<|Ad<|rn 1 rfl<|kB a fun B s a=>rc _ (cF bt) (QE N c _ s)<|rz rfl<|Bv _ rfl (fun b=> ?_) (fun b=> ?_)
 ·replace a:=ifn (Bool.eq_false_iff.1 (CM b)) a
  refine AZ rfl ?_
  cases a
  exact aR eE1
 replace a:=ifp (CN b) a
 refine BR (fun tt ll=> ∃(d:Bool),(IM N c d=some r)∧Is [(0,Value.int .i32 c),(8,vB d)] [] tt ll) ?_ ?_
 ·refine Ad<|rn 1 rfl<|kB a fun u e a=>rc _ (cF IJ) (ES N c 65 90 _ e)<|rz rfl<|aB a rfl (fun f a=> ?_) (fun f a=> ?_)
  ·refine Ab<|fg _ (Sub.of suN) ?_
   exact⟨u,a,Af rfl rfl⟩
  refine Ad<|rn 1 rfl<|kB a fun v g a=>rc _ (cF IJ) (ES N c 192 222 _ g)<|rz rfl<|aB a rfl (fun h a=> ?_) (fun h a=> ?_)
  ·refine Ab<|fg _ (Sub.of suN) ?_
   exact⟨v,a,Af rfl rfl⟩
  refine Ad<|rn 1 rfl<|kB a fun w i a=>rc _ (cF IJ) (ES N c 913 937 _ i)<|rz rfl<|aB a rfl (fun j a=> ?_) (fun j a=> ?_)
  ·refine Ab<|fg _ (Sub.of suN) ?_
   exact⟨w,a,Af rfl rfl⟩
  refine Ag<|rn 1 rfl<|kB a fun x k a=>rc _ (cF IJ) (ES N c 1040 1071 _ k)<|rz rfl<|fg _ (Sub.of suN) ?_
  exact⟨x,a,Af rfl rfl⟩
 clear a;rintro t l ⟨d,a,⟨T,rfl⟩,rfl⟩
 unfold IM at a
 refine aB a rfl (fun y a=> ?_) (fun y a=> ?_)
 ·refine AZ rfl ?_
  cases a
  exact aR eE1
 refine Ad<|rn 1 rfl<|kB a fun z m a=>rc _ (cF IJ) (ES N c 1024 1039 _ m)<|rz rfl<|aB a rfl (fun n a=> ?_) (fun n a=> ?_)
 ·refine AZ rfl ?_
  cases a
  exact aR eE1
 refine AZ rfl<|aE a rfl (fun o a=> ?_) (fun o a=> ?_)
 ·refine AZ rfl ?_
  cases a
  exact aR eE1
 refine Ab<|q _ _ ?_
 refine AZ rfl ?_
 cases a
 exact aR eE1
def Ko(_:Nat)(b:List UInt8):Option (List UInt8):=some b
theorem Sj(N b r)(c:Ko N b=some r)(ro:Ro)(bb:Nat)(bv:Value)(Sb:List Bl)(hb:Sl 5 Ab9 bv b Sb):Does prog 257 #[vP bb 0] ro (List.flatten [(Aq bb (Value.pointer none) bv),Sb]) (pO (List.flatten [(Aq bb (Value.pointer none) bv),Sb]) (oI 5 Ab9 bv r (oE (vT #[]) [(Aq bb (vP bb 0) bv)]))):=by
 unfold Ko at c
 refine Ek follows func257 rfl 20 rfl _ fz1 (fun _ _ h_ _=>h_) (fun a=> ?_)
 refine AY [0] rfl<|Lq rfl ?_
 refine Ag<|rn 2 rfl<|cA 9 (p:=(pUp (fun v_ U_=>v_=vP bb 0∧U_=(Aq bb (Value.pointer none) bv))))<|fo (Ls:=[(Aq bb (Value.pointer none) bv),Sb]) (vP bb 0) 0 rfl rfl rfl rfl rfl (dD (TB:=356) (cs:= #[Value.pointer none,bv]) rfl rfl rfl rfl rfl rfl rfl (List.mem_singleton.2 rfl)) (fun _ _ _ _ _=>Iff.rfl)<|cA 10 (p:=(pUp (fun v_ U_=>v_=vP bb 0∧U_=(Aq bb (Value.pointer none) bv)))) ?_
 refine fo (Ls:=[(Aq bb (Value.pointer none) bv),Sb]) (vP bb 0) 0 rfl rfl rfl rfl rfl (fun w_ _=>Yf (args:= #[vP bb 0]) (e:=Extern.AbiNoEscape.same) (w':=w_) (Za rfl) func265 (by kernel_rfl) (by kernel_rfl) (by kernel_rfl) (by kernel_rfl) rfl) (fun _ _ _ _ _=>Iff.rfl)<|cA 11 (p:=(pUp (fun v_ U_=>v_=vP bb 0∧U_=(Aq bb (Value.pointer none) bv))))<|fo (Ls:=[(Aq bb (Value.pointer none) bv),Sb]) (vP bb 0) 0 rfl rfl rfl rfl rfl (Xp (TB:=356) (cs:= #[Value.pointer none,bv]) 2 rfl rfl rfl rfl rfl (List.mem_singleton.2 rfl) rfl (by kernel_rfl)) (fun _ _ _ _ _=>Iff.rfl)<|rn 2 rfl ?_
 refine ry [0] rfl ?_
 cases c
 refine Vo (v0:=vT #[]) (O:=[Sb,(Aq bb (vP bb 0) bv)]) rfl (Sub.pick [(Aq bb (vP bb 0) bv),Sb] [1,0] rfl) ⟨Sb,_,hb,⟨rfl,rfl⟩,rfl⟩
def mL(p:List UInt8)(a:Int)(b:Bool):Option (List UInt8):=if b=true then ck ((0:Int)≤((18#64).toNat:Int)) (ck ((0:Int)≤((12#64).toNat:Int)) (ck ((0:Int)≤((6#64).toNat:Int)) (ck ((p).length+([((240:UInt8)|||(Bs (Fu a 18))),((128:UInt8)|||((Bs (Fu a 12))&&&(63:UInt8))),((128:UInt8)|||((Bs (Fu a 6))&&&(63:UInt8))),((128:UInt8)|||((Bs a)&&&(63:UInt8)))]).length≤140737488355328) (some ((p++([((240:UInt8)|||(Bs (Fu a 18))),((128:UInt8)|||((Bs (Fu a 12))&&&(63:UInt8))),((128:UInt8)|||((Bs (Fu a 6))&&&(63:UInt8))),((128:UInt8)|||((Bs a)&&&(63:UInt8)))])))))))else ck ((p).length+([(239:UInt8),(191:UInt8),(189:UInt8)]).length≤140737488355328) (some (p++([(239:UInt8),(191:UInt8),(189:UInt8)])))
def ge(p:List UInt8)(a:Int)(b:Bool):Option (List UInt8):=if b=true then ck ((0:Int)≤((12#64).toNat:Int)) (ck ((0:Int)≤((6#64).toNat:Int)) (ck ((p).length+([((224:UInt8)|||(Bs (Fu a 12))),((128:UInt8)|||((Bs (Fu a 6))&&&(63:UInt8))),((128:UInt8)|||((Bs a)&&&(63:UInt8)))]).length≤140737488355328) (some ((p++([((224:UInt8)|||(Bs (Fu a 12))),((128:UInt8)|||((Bs (Fu a 6))&&&(63:UInt8))),((128:UInt8)|||((Bs a)&&&(63:UInt8)))]))))))else if((((Kk a).toNat:Nat):Int):Int)>65535 then mL p a (decide (((((Kk a).toNat:Nat):Int):Int)≤1114111))else mL p a false
def uNm(_:Nat)(p:List UInt8)(a:Int):Option (List UInt8):=if((((Kk a).toNat:Nat):Int):Int)≤2047 then ck ((0:Int)≤((6#64).toNat:Int)) (ck ((p).length+([((192:UInt8)|||(Bs (Fu a 6))),((128:UInt8)|||((Bs a)&&&(63:UInt8)))]).length≤140737488355328) (some ((p++([((192:UInt8)|||(Bs (Fu a 6))),((128:UInt8)|||((Bs a)&&&(63:UInt8)))])))))else if((((Kk a).toNat:Nat):Int):Int)<55296 then ge p a (decide (((((Kk a).toNat:Nat):Int):Int)<55296))else if(57343:Int)<(((Kk a).toNat:Nat):Int)then ge p a (decide (((((Kk a).toNat:Nat):Int):Int)≤65535))else ge p a false
theorem uNg(N p r' r)(a:uNm N p r'=some r)(ro:Ro)(pv:Value)(Sp:List Bl)(hp:Sl 5 Ab9 pv p Sp):Does prog 267 #[pv,Value.int .i32 r'] ro (List.flatten [Sp]) (pO (List.flatten [Sp]) (oS 5 Ab9 r fun s_0=>(oE s_0 []))):=by
 unfold uNm at a
 refine Ek follows func267 rfl 78 rfl _ fz2 (fun _ _ h_ _=>h_) (fun F=> ?_)
 refine AZ rfl<|Ad<|rn 1 rfl<|r_w (Value.int .u32 (((Kk r').toNat:Nat):Int)) rfl rfl (bT r') (fun _=>rfl)<|rz rfl<|Ah<|AZ rfl<|aD a rfl (fun G a=> ?_) (fun G a=> ?_)
 ·refine Ad<|rn 2 rfl<|kC a fun Y a=>r_W (Value.int .i32 (Fu r' 6)) rfl (Qp (x:=r') 6 rfl rfl)<|r_w (Value.int .u8 ((((Bs (Fu r' 6)).toNat:Nat):Int))) rfl rfl (KC (Fu r' 6)) (fun _=>rfl)<|r_X (Value.int .u8 (((((192:UInt8)|||(Bs (Fu r' 6))).toNat:Nat):Int))) rfl (Zw (192:UInt8) (Bs (Fu r' 6))) rfl<|rn 1 rfl<|r_w (Value.int .u8 (((Bs r').toNat:Nat):Int)) rfl rfl (KC r') (fun _=>rfl)<|r_X (Value.int .u8 (((((Bs r')&&&(63:UInt8)).toNat:Nat):Int))) rfl (XZ (Bs r') (63:UInt8)) rfl ?_
  refine r_X (Value.int .u8 (((((128:UInt8)|||((Bs r')&&&(63:UInt8))).toNat:Nat):Int))) rfl (Zw (128:UInt8) ((Bs r')&&&(63:UInt8))) rfl<|gB (Ls:=[Sp]) 5 encY [((192:UInt8)|||(Bs (Fu r' 6))),((128:UInt8)|||((Bs r')&&&(63:UInt8)))] (fun s7 H Z=> ?_)
  refine kC a fun d a=>cC 24<|JB (cs0:=[]) (Ls:=[Sp,H]) 0 (En:=Ab9) rfl rfl rfl rfl rfl hp rfl (fun o w z_=>NK ((Av Z (Ai (Ls:=[Sp,H]) (k:=1) rfl rfl)) o w z_)) rfl rfl rfl rfl rfl (Ke d rfl) (Kc d rfl) rfl (fun y h I=> ?_)
  refine rz rfl ?_
  cases a
  refine Bi (fun J=>Je (v0:=y) (O:=[h]) (Gj rfl) (Sub.pick [h,H] [0] rfl) ⟨y,h,_,I,⟨rfl,rfl⟩,rfl⟩)
 refine BR (fun tt ll=> ∃(i:Bool),(ge p r' i=some r)∧Is [(0,pv),(1,Value.int .i32 r'),(5,Value.int .u32 (((Kk r').toNat:Nat):Int)),(25,vB i)] (List.flatten [Sp]) tt ll) ?_ ?_
 ·refine AZ rfl<|aD a rfl (fun z a=> ?_) (fun z a=> ?_)
  ·refine Ab<|fg _ (Sub.pick [Sp] [0] rfl) ?_
   exact⟨decide (((((Kk r').toNat:Nat):Int):Int)<55296),a,Af rfl rfl⟩
  refine Ag<|rn 3 rfl ?_
  rcases b:(decide ((57343:Int)<(((Kk r').toNat:Nat):Int)))with _|_
  ·replace a:=iF b a
   refine rz rfl<|fg _ (Sub.pick [Sp] [0] rfl) ?_
   exact⟨false,a,Af (by first|rfl|(simp only [b];done)|(simp only [b];rfl)|(simp only [Bn];rfl)) rfl⟩
  replace a:=iD b a
  refine rz rfl<|fg _ (Sub.pick [Sp] [0] rfl) ?_
  exact⟨decide (((((Kk r').toNat:Nat):Int):Int)≤65535),a,Af (by first|rfl|(simp only [b];done)|(simp only [b];rfl)|(simp only [Bn];rfl)) rfl⟩
 clear a;rintro t l ⟨i,a,⟨T,rfl⟩,rfl⟩
 unfold ge at a
 refine aB a rfl (fun A a=> ?_) (fun A a=> ?_)
 ·refine Ad<|rn 2 rfl<|kC a fun S a=>r_W (Value.int .i32 (Fu r' 12)) rfl (Qp (x:=r') 12 rfl rfl)<|r_w (Value.int .u8 ((((Bs (Fu r' 12)).toNat:Nat):Int))) rfl rfl (KC (Fu r' 12)) (fun _=>rfl)<|r_X (Value.int .u8 (((((224:UInt8)|||(Bs (Fu r' 12))).toNat:Nat):Int))) rfl (Zw (224:UInt8) (Bs (Fu r' 12))) rfl<|rn 1 rfl<|kC a fun U a=>r_W (Value.int .i32 (Fu r' 6)) rfl (Qp (x:=r') 6 rfl rfl)<|r_w (Value.int .u8 ((((Bs (Fu r' 6)).toNat:Nat):Int))) rfl rfl (KC (Fu r' 6)) (fun _=>rfl)<|r_X (Value.int .u8 (((((Bs (Fu r' 6))&&&(63:UInt8)).toNat:Nat):Int))) rfl (XZ (Bs (Fu r' 6)) (63:UInt8)) rfl<|r_X (Value.int .u8 (((((128:UInt8)|||((Bs (Fu r' 6))&&&(63:UInt8))).toNat:Nat):Int))) rfl (Zw (128:UInt8) ((Bs (Fu r' 6))&&&(63:UInt8))) rfl<|rn 1 rfl<|r_w (Value.int .u8 (((Bs r').toNat:Nat):Int)) rfl rfl (KC r') (fun _=>rfl) ?_
  refine r_X (Value.int .u8 (((((Bs r')&&&(63:UInt8)).toNat:Nat):Int))) rfl (XZ (Bs r') (63:UInt8)) rfl<|r_X (Value.int .u8 (((((128:UInt8)|||((Bs r')&&&(63:UInt8))).toNat:Nat):Int))) rfl (Zw (128:UInt8) ((Bs r')&&&(63:UInt8))) rfl<|cD 48 ?_
  refine IW (cs0:=[]) (Ls:=[Sp]) 5 encY [((224:UInt8)|||(Bs (Fu r' 12))),((128:UInt8)|||((Bs (Fu r' 6))&&&(63:UInt8))),((128:UInt8)|||((Bs r')&&&(63:UInt8)))] [Value.int .u8 (((((224:UInt8)|||(Bs (Fu r' 12))).toNat:Nat):Int)),Value.int .u8 (((((128:UInt8)|||((Bs (Fu r' 6))&&&(63:UInt8))).toNat:Nat):Int)),Value.int .u8 (((((128:UInt8)|||((Bs r')&&&(63:UInt8))).toNat:Nat):Int))] [Value.int .u8 0,Value.int .u8 0,Value.int .u8 0] rfl rfl rfl rfl rfl rfl rfl (by kernel_rfl) (by kernel_rfl) rfl rfl rfl (fun aa j K=> ?_)
  refine kC a fun e a=>cC 49<|JB (cs0:=[]) (Ls:=[Sp,j]) 0 (En:=Ab9) rfl rfl rfl rfl rfl hp rfl (fun o w z_=>NK ((Av K (Ai (Ls:=[Sp,j]) (k:=1) rfl rfl)) o w z_)) rfl rfl rfl rfl rfl (Ke e rfl) (Kc e rfl) rfl (fun B m L=> ?_)
  refine rz rfl ?_
  cases a
  refine Bi (fun J=>Je (v0:=B) (O:=[m]) (Gj rfl) (Sub.pick [m,j] [0] rfl) ⟨B,m,_,L,⟨rfl,rfl⟩,rfl⟩)
 refine BR (fun tt ll=> ∃(n:Bool),(mL p r' n=some r)∧Is [(0,pv),(1,Value.int .i32 r'),(50,vB n)] (List.flatten [Sp]) tt ll) ?_ ?_
 ·refine Ag<|rn 3 rfl ?_
  rcases c:(decide (((((Kk r').toNat:Nat):Int):Int)>65535))with _|_
  ·replace a:=iF c a
   refine rz rfl<|fg _ (Sub.pick [Sp] [0] rfl) ?_
   exact⟨false,a,Af (by first|rfl|(simp only [c];done)|(simp only [c];rfl)|(simp only [Bn];rfl)) rfl⟩
  replace a:=iD c a
  refine rz rfl<|fg _ (Sub.pick [Sp] [0] rfl) ?_
  exact⟨decide (((((Kk r').toNat:Nat):Int):Int)≤1114111),a,Af (by first|rfl|(simp only [c];done)|(simp only [c];rfl)|(simp only [Bn];rfl)) rfl⟩
 clear a;rintro t l ⟨n,a,⟨T,rfl⟩,rfl⟩
 unfold mL at a
 refine aB a rfl (fun C a=> ?_) (fun C a=> ?_)
 ·refine Ad<|rn 2 rfl<|kC a fun V a=>r_W (Value.int .i32 (Fu r' 18)) rfl (Qp (x:=r') 18 rfl rfl)<|r_w (Value.int .u8 ((((Bs (Fu r' 18)).toNat:Nat):Int))) rfl rfl (KC (Fu r' 18)) (fun _=>rfl)<|r_X (Value.int .u8 (((((240:UInt8)|||(Bs (Fu r' 18))).toNat:Nat):Int))) rfl (Zw (240:UInt8) (Bs (Fu r' 18))) rfl<|rn 1 rfl<|kC a fun W a=>r_W (Value.int .i32 (Fu r' 12)) rfl (Qp (x:=r') 12 rfl rfl)<|r_w (Value.int .u8 ((((Bs (Fu r' 12)).toNat:Nat):Int))) rfl rfl (KC (Fu r' 12)) (fun _=>rfl)<|r_X (Value.int .u8 (((((Bs (Fu r' 12))&&&(63:UInt8)).toNat:Nat):Int))) rfl (XZ (Bs (Fu r' 12)) (63:UInt8)) rfl<|r_X (Value.int .u8 (((((128:UInt8)|||((Bs (Fu r' 12))&&&(63:UInt8))).toNat:Nat):Int))) rfl (Zw (128:UInt8) ((Bs (Fu r' 12))&&&(63:UInt8))) rfl<|rn 1 rfl<|kC a fun X a=>r_W (Value.int .i32 (Fu r' 6)) rfl (Qp (x:=r') 6 rfl rfl)<|r_w (Value.int .u8 ((((Bs (Fu r' 6)).toNat:Nat):Int))) rfl rfl (KC (Fu r' 6)) (fun _=>rfl)<|r_X (Value.int .u8 (((((Bs (Fu r' 6))&&&(63:UInt8)).toNat:Nat):Int))) rfl (XZ (Bs (Fu r' 6)) (63:UInt8)) rfl<|r_X (Value.int .u8 (((((128:UInt8)|||((Bs (Fu r' 6))&&&(63:UInt8))).toNat:Nat):Int))) rfl (Zw (128:UInt8) ((Bs (Fu r' 6))&&&(63:UInt8))) rfl<|rn 1 rfl<|r_w (Value.int .u8 (((Bs r').toNat:Nat):Int)) rfl rfl (KC r') (fun _=>rfl) ?_
  refine r_X (Value.int .u8 (((((Bs r')&&&(63:UInt8)).toNat:Nat):Int))) rfl (XZ (Bs r') (63:UInt8)) rfl<|r_X (Value.int .u8 (((((128:UInt8)|||((Bs r')&&&(63:UInt8))).toNat:Nat):Int))) rfl (Zw (128:UInt8) ((Bs r')&&&(63:UInt8))) rfl<|cD 76 ?_
  refine IW (cs0:=[]) (Ls:=[Sp]) 5 encY [((240:UInt8)|||(Bs (Fu r' 18))),((128:UInt8)|||((Bs (Fu r' 12))&&&(63:UInt8))),((128:UInt8)|||((Bs (Fu r' 6))&&&(63:UInt8))),((128:UInt8)|||((Bs r')&&&(63:UInt8)))] [Value.int .u8 (((((240:UInt8)|||(Bs (Fu r' 18))).toNat:Nat):Int)),Value.int .u8 (((((128:UInt8)|||((Bs (Fu r' 12))&&&(63:UInt8))).toNat:Nat):Int)),Value.int .u8 (((((128:UInt8)|||((Bs (Fu r' 6))&&&(63:UInt8))).toNat:Nat):Int)),Value.int .u8 (((((128:UInt8)|||((Bs r')&&&(63:UInt8))).toNat:Nat):Int))] [Value.int .u8 0,Value.int .u8 0,Value.int .u8 0,Value.int .u8 0] rfl rfl rfl rfl rfl rfl rfl (by kernel_rfl) (by kernel_rfl) rfl rfl rfl (fun ab q M=> ?_)
  refine kC a fun f a=>cC 77<|JB (cs0:=[]) (Ls:=[Sp,q]) 0 (En:=Ab9) rfl rfl rfl rfl rfl hp rfl (fun o w z_=>NK ((Av M (Ai (Ls:=[Sp,q]) (k:=1) rfl rfl)) o w z_)) rfl rfl rfl rfl rfl (Ke f rfl) (Kc f rfl) rfl (fun D s P=> ?_)
  refine rz rfl ?_
  cases a
  refine Bi (fun J=>Je (v0:=D) (O:=[s]) (Gj rfl) (Sub.pick [s,q] [0] rfl) ⟨D,s,_,P,⟨rfl,rfl⟩,rfl⟩)
 refine Ad<|rn 1 rfl<|gB (Ls:=[Sp]) 5 encY [(239:UInt8),(191:UInt8),(189:UInt8)] (fun ac u Q=> ?_)
 refine kC a fun g a=>cC 10<|JB (cs0:=[]) (Ls:=[Sp,u]) 0 (En:=Ab9) rfl rfl rfl rfl rfl hp rfl (fun o w z_=>NK ((Av Q (Ai (Ls:=[Sp,u]) (k:=1) rfl rfl)) o w z_)) rfl rfl rfl rfl rfl (Ke g rfl) (Kc g rfl) rfl (fun E v R=> ?_)
 refine rz rfl ?_
 cases a
 refine Bi (fun J=>Je (v0:=E) (O:=[v]) (Gj rfl) (Sub.pick [v,u] [0] rfl) ⟨E,v,_,R,⟨rfl,rfl⟩,rfl⟩)
def Yc(N:Nat)(p:List UInt8)(a:Int):Option (List UInt8):=if((((Kk a).toNat:Nat):Int):Int)≤127 then ck ((p).length+([(Bs a)]).length≤140737488355328) (some (p++([(Bs a)])))else(uNm N p a).bind fun b=>some b
theorem gf(N p r' r)(b:Yc N p r'=some r)(ro:Ro)(pv:Value)(Sp:List Bl)(hp:Sl 5 Ab9 pv p Sp):Does prog 259 #[pv,Value.int .i32 r'] ro (List.flatten [Sp]) (pO (List.flatten [Sp]) (oS 5 Ab9 r fun s_0=>(oE s_0 []))):=by
 unfold Yc at b
 refine Ek follows func259 rfl 16 rfl _ fz2 (fun _ _ h_ _=>h_) (fun h=> ?_)
 refine AZ rfl<|Aa fun u i=>Ad<|rn 1 rfl<|r_w (Value.int .u32 (((Kk r').toNat:Nat):Int)) rfl rfl (bT r') (fun _=>rfl)<|rz rfl<|aD b rfl (fun j b=> ?_) (fun j b=> ?_)
 ·refine Ad<|rn 2 rfl<|r_w (Value.int .u8 (((Bs r').toNat:Nat):Int)) rfl rfl (KC r') (fun _=>rfl)<|gB (Ls:=[Sp]) 5 encY [(Bs r')] (fun v l q=> ?_)
  refine kC b fun d b=>cC 12<|JB (cs0:=[]) (Ls:=[Sp,l]) 0 (En:=Ab9) rfl rfl rfl rfl rfl hp rfl (fun o w z_=>NK ((Av q (Ai (Ls:=[Sp,l]) (k:=1) rfl rfl)) o w z_)) rfl rfl rfl rfl rfl (Ke d rfl) (Kc d rfl) rfl (fun e c m=> ?_)
  refine rz rfl ?_
  cases b
  refine Bi (fun s=>Je (v0:=e) (O:=[c]) (Gj rfl) (Sub.pick [c,l] [0] rfl) ⟨e,c,_,m,⟨rfl,rfl⟩,rfl⟩)
 refine Ab<|i _ _ ?_
 refine Ad<|rn 2 rfl<|kB b fun t f b=>gM (Ls:=[Sp]) (FL:=[Sp]) [0] (cF jI) (fun o w hn_ z_=>uNg N p r' _ f _ pv Sp hp) ?_
 rintro g _ ⟨_,a,_,n,⟨rfl,rfl⟩,rfl⟩
 refine Db (Ls:=[a]) (Ls':=[a]) [0] rfl rfl<|rz rfl ?_
 cases b
 refine Bi (fun s=>Je (v0:=g) (O:=[a]) (Gj rfl) (Sub.pick [a] [0] rfl) ⟨g,a,_,n,⟨rfl,rfl⟩,rfl⟩)
def NJ(N:Nat)(b:List UInt8)(d:Int):Option (Int×(List UInt8)):=(Ko N b).bind fun c=>ck ((c).length=(b).length) ((Yc N c d).bind fun a=>ck ((R64 ((a.length:Int) - (c.length:Int)))) (some (((a.length:Int) - (c.length:Int)),a)))
theorem Sn(N b r' r)(d:NJ N b r'=some r)(ro:Ro)(bb:Nat)(bv:Value)(Sb:List Bl)(hb:Sl 5 Ab9 bv b Sb):Does prog 250 #[vP bb 0,Value.int .i32 r'] ro (List.flatten [(Aq bb (Value.pointer none) bv),Sb]) (pO (List.flatten [(Aq bb (Value.pointer none) bv),Sb]) (oS 5 Ab9 r.2 fun s_0=>(oE (vT #[vI r.1,Value.nilIface]) [(Aq bb (vP bb 0) s_0)]))):=by
 unfold NJ at d
 refine Ek follows func250 rfl 30 rfl _ fz2 (fun _ _ h_ _=>h_) (fun j=> ?_)
 refine AZ rfl<|Ad<|rn 1 rfl<|kB d fun k l d=>kC d fun n d=>gM (Ls:=[(Aq bb (Value.pointer none) bv),Sb]) (FL:=[(Aq bb (Value.pointer none) bv),Sb]) [0,1] (cF VA) (fun o w hn_ z_=>Sj N b _ l _ bb bv Sb hb) ?_
 rintro _ _ ⟨f,_,m,⟨rfl,rfl⟩,rfl⟩
 refine Db (Ls:=[f,(Aq bb (vP bb 0) bv)]) (Ls':=[(Aq bb (vP bb 0) bv),f]) [1,0] rfl rfl<|Ak<|Ad<|rm 4 [0] rfl<|rL (Sl.shp m) rfl<|rz rfl<|Ad<|rm 6 [0] rfl<|kB d fun g h d=>gM (Ls:=[(Aq bb (vP bb 0) bv),f]) (FL:=[f]) [1] (cF bk) (fun o w hn_ z_=>gf N k r' _ h _ bv f m) ?_
 rintro c _ ⟨_,a,_,e,⟨rfl,rfl⟩,rfl⟩
 refine Db (Ls:=[(Aq bb (vP bb 0) bv),a]) (Ls':=[(Aq bb (vP bb 0) bv),a]) [0,1] rfl rfl<|rn 2 rfl<|r_s (List.flatten [(Aq bb (vP bb 0) c),a]) 0 _ _ _ _ _ (#[vP bb 0,c]) rfl rfl rfl (FM rfl (Sl.shp e)) (.ofS rfl rfl (Ae (Shp.one (Sl.shp e)) Bt)) rfl rfl<|Ak<|Ad<|rm 4 [0] rfl<|rL (Sl.shp e) rfl<|rn 1 rfl<|kC d fun i d=>rX i rfl<|rz rfl<|Gm [(4,vI ((g.length:Int) - (k.length:Int))),(5,Value.nilIface)] rfl (fun T=> ?_)
 cases d
 refine Bi (fun p=>Je (v0:=vT #[vI ((g.length:Int) - (k.length:Int)),Value.nilIface]) (O:=[a,(Aq bb (vP bb 0) c)]) (Jz rfl rfl) (Sub.pick [(Aq bb (vP bb 0) c),a] [1,0] rfl) ⟨c,a,_,e,⟨rfl,rfl⟩,rfl⟩)
def Kn(_:Nat)(b:List UInt8):Option (List UInt8):=some b
theorem Sh(N b r)(c:Kn N b=some r)(ro:Ro)(bb:Nat)(bv:Value)(Sb:List Bl)(hb:Sl 5 Ab9 bv b Sb):Does prog 257 #[vP bb 0] ro (List.flatten [(Aq bb (vP bb 0) bv),Sb]) (pO (List.flatten [(Aq bb (vP bb 0) bv),Sb]) (oI 5 Ab9 bv r (oE (vT #[]) [(Aq bb (vP bb 0) bv)]))):=by
 unfold Kn at c
 refine Ek follows func257 rfl 20 rfl _ fz1 (fun _ _ h_ _=>h_) (fun a=> ?_)
 refine AY [0] rfl<|Ca rfl ?_
 refine Ad<|rm 5 [0] rfl<|r_W (vB false) rfl (ob rfl rfl rfl rfl rfl)<|Ak<|Ca rfl ?_
 refine Ab ?_
 cases c
 refine Vo (v0:=vT #[]) (O:=[Sb,(Aq bb (vP bb 0) bv)]) rfl (Sub.pick [(Aq bb (vP bb 0) bv),Sb] [1,0] rfl) ⟨Sb,_,hb,⟨rfl,rfl⟩,rfl⟩
def Kq(N:Nat)(b:List UInt8)(d:Int):Option (Int×(List UInt8)):=(Kn N b).bind fun c=>ck ((c).length=(b).length) ((Yc N c d).bind fun a=>ck ((R64 ((a.length:Int) - (c.length:Int)))) (some (((a.length:Int) - (c.length:Int)),a)))
theorem Sm(N b r' r)(d:Kq N b r'=some r)(ro:Ro)(bb:Nat)(bv:Value)(Sb:List Bl)(hb:Sl 5 Ab9 bv b Sb):Does prog 250 #[vP bb 0,Value.int .i32 r'] ro (List.flatten [(Aq bb (vP bb 0) bv),Sb]) (pO (List.flatten [(Aq bb (vP bb 0) bv),Sb]) (oS 5 Ab9 r.2 fun s_0=>(oE (vT #[vI r.1,Value.nilIface]) [(Aq bb (vP bb 0) s_0)]))):=by
 unfold Kq at d
 refine Ek follows func250 rfl 30 rfl _ fz2 (fun _ _ h_ _=>h_) (fun j=> ?_)
 refine AZ rfl<|Ad<|rn 1 rfl<|kB d fun k l d=>kC d fun n d=>gM (Ls:=[(Aq bb (vP bb 0) bv),Sb]) (FL:=[(Aq bb (vP bb 0) bv),Sb]) [0,1] (cF VA) (fun o w hn_ z_=>Sh N b _ l _ bb bv Sb hb) ?_
 rintro _ _ ⟨f,_,m,⟨rfl,rfl⟩,rfl⟩
 refine Db (Ls:=[f,(Aq bb (vP bb 0) bv)]) (Ls':=[(Aq bb (vP bb 0) bv),f]) [1,0] rfl rfl<|Ak<|Ad<|rm 4 [0] rfl<|rL (Sl.shp m) rfl<|rz rfl<|Ad<|rm 6 [0] rfl<|kB d fun g h d=>gM (Ls:=[(Aq bb (vP bb 0) bv),f]) (FL:=[f]) [1] (cF bk) (fun o w hn_ z_=>gf N k r' _ h _ bv f m) ?_
 rintro c _ ⟨_,a,_,e,⟨rfl,rfl⟩,rfl⟩
 refine Db (Ls:=[(Aq bb (vP bb 0) bv),a]) (Ls':=[(Aq bb (vP bb 0) bv),a]) [0,1] rfl rfl<|rn 2 rfl<|r_s (List.flatten [(Aq bb (vP bb 0) c),a]) 0 _ _ _ _ _ (#[vP bb 0,c]) rfl rfl rfl (FM rfl (Sl.shp e)) (.ofS rfl rfl (Ae (Shp.one (Sl.shp e)) Bt)) rfl rfl<|Ak<|Ad<|rm 4 [0] rfl<|rL (Sl.shp e) rfl<|rn 1 rfl<|kC d fun i d=>rX i rfl<|rz rfl<|Gm [(4,vI ((g.length:Int) - (k.length:Int))),(5,Value.nilIface)] rfl (fun T=> ?_)
 cases d
 refine Bi (fun p=>Je (v0:=vT #[vI ((g.length:Int) - (k.length:Int)),Value.nilIface]) (O:=[a,(Aq bb (vP bb 0) c)]) (Jz rfl rfl) (Sub.pick [(Aq bb (vP bb 0) c),a] [1,0] rfl) ⟨c,a,_,e,⟨rfl,rfl⟩,rfl⟩)
def MJ(N:Nat)(b:List UInt8)(a:Int):Option (Int×(List UInt8)):=Kq N b a
set_option maxRecDepth 100000 in
theorem Rp(N b r' r)(d:MJ N b r'=some r)(ro:Ro)(vb_:Value)(Sb_:List Bl)(Hb_:Bd 356 5 vb_ b Sb_):Does prog 250 #[vb_,Value.int .i32 r'] ro (List.flatten [Sb_]) (pO (List.flatten [Sb_]) (oIB 356 5 vb_ r.2 (oE (vT #[vI r.1,Value.nilIface]) []))):=by
 rw [aK]
 obtain⟨b_,f_,s_,a,rfl,c,rfl⟩:=Hb_
 cases f_
 ·exact sx (f:=true) (Sn N b r' r d ro b_ s_ a c)
 exact sx (f:=true) (Sm N b r' r d ro b_ s_ a c)
def QB(_:Nat)(b:List UInt8):Option (List UInt8):=ck ((b).length≤140737488355328) (some b)
theorem Wb(N b r)(a:QB N b=some r)(ro:Ro)(bb:Nat)(bv:Value)(Sb:List Bl)(hb:Sl 5 Ab9 bv b Sb):Does prog 252 #[vP bb 0] ro (List.flatten [(Aq bb (Value.pointer none) bv),Sb]) (pO (List.flatten [(Aq bb (Value.pointer none) bv),Sb]) (oE (vS r) [])):=by
 unfold QB at a
 refine Ek follows func252 rfl 14 rfl _ fz1 (fun _ _ h_ _=>h_) (fun c=> ?_)
 refine AZ rfl<|Aa fun h d=>Bw [(some 7,false),(some 13,true)] (conG prog [(7,fun _ _ v_ L_ U_=>(fun v_ L_ U_=>bV bv v_∧L_=[]∧U_=[]) v_ L_ U_),(13,fun _ _ v_ L_ U_=>(pUp (fun v_ U_=>v_= .string ⟨(b).toArray⟩∧U_=MQ Sb)) v_ L_ U_)]) [] (by decide+kernel) (fun g=>AH)<|rm 4 [0] rfl<|pW (Ls:=[(Aq bb (Value.pointer none) bv),Sb]) 1 rfl rfl rfl rfl rfl hb rfl rfl (fun _ _ _ _ _=>Iff.rfl) (fun i e=> ?_)
 refine rm 4 [0] rfl<|rL (Sl.shp hb) rfl<|kC a fun f a=>gF (Ls:=[(Aq bb (Value.pointer none) bv),Sb]) 1 (xs:=b) rfl rfl rfl rfl rfl rfl hb e rfl (by kernel_rfl) rfl f (fun _ _ _ _ _=>Iff.rfl)<|Db (Ls:=[(Aq bb (Value.pointer none) bv),MQ Sb]) (Ls':=[(Aq bb (Value.pointer none) bv)]) [0] rfl rfl<|rz rfl<|d _ _ ?_
 cases a
 refine Bi (fun g=>Je (v0:=vS b) (O:=[]) (Gj rfl) (Sub.nil _) ⟨rfl,rfl⟩)
def MY(_:Nat)(b:List UInt8):Option (List UInt8):=ck ((b).length≤140737488355328) (some b)
theorem Wa(N b r)(a:MY N b=some r)(ro:Ro)(bb:Nat)(bv:Value)(Sb:List Bl)(hb:Sl 5 Ab9 bv b Sb):Does prog 252 #[vP bb 0] ro (List.flatten [(Aq bb (vP bb 0) bv),Sb]) (pO (List.flatten [(Aq bb (vP bb 0) bv),Sb]) (oE (vS r) [])):=by
 unfold MY at a
 refine Ek follows func252 rfl 14 rfl _ fz1 (fun _ _ h_ _=>h_) (fun c=> ?_)
 refine AZ rfl<|Aa fun h d=>Bw [(some 7,false),(some 13,true)] (conG prog [(7,fun _ _ v_ L_ U_=>(fun v_ L_ U_=>bV bv v_∧L_=[]∧U_=[]) v_ L_ U_),(13,fun _ _ v_ L_ U_=>(pUp (fun v_ U_=>v_= .string ⟨(b).toArray⟩∧U_=MQ Sb)) v_ L_ U_)]) [] (by decide+kernel) (fun g=>AH)<|rm 4 [0] rfl<|pW (Ls:=[(Aq bb (vP bb 0) bv),Sb]) 1 rfl rfl rfl rfl rfl hb rfl rfl (fun _ _ _ _ _=>Iff.rfl) (fun i e=> ?_)
 refine rm 4 [0] rfl<|rL (Sl.shp hb) rfl<|kC a fun f a=>gF (Ls:=[(Aq bb (vP bb 0) bv),Sb]) 1 (xs:=b) rfl rfl rfl rfl rfl rfl hb e rfl (by kernel_rfl) rfl f (fun _ _ _ _ _=>Iff.rfl)<|Db (Ls:=[(Aq bb (vP bb 0) bv),MQ Sb]) (Ls':=[(Aq bb (vP bb 0) bv)]) [0] rfl rfl<|rz rfl<|d _ _ ?_
 cases a
 refine Bi (fun g=>Je (v0:=vS b) (O:=[]) (Gj rfl) (Sub.nil _) ⟨rfl,rfl⟩)
def Po(N:Nat)(b:List UInt8):Option (List UInt8):=MY N b
set_option maxRecDepth 100000 in
theorem Ue(N b r)(d:Po N b=some r)(ro:Ro)(vb_:Value)(Sb_:List Bl)(Hb_:Bd 356 5 vb_ b Sb_):Does prog 252 #[vb_] ro (List.flatten [Sb_]) (pO (List.flatten [Sb_]) (oE (vS r) [])):=by
 rw [aK]
 obtain⟨b_,f_,s_,a,rfl,c,rfl⟩:=Hb_
 cases f_
 ·exact Wb N b r d ro b_ s_ a c 
 exact Wa N b r d ro b_ s_ a c 
def KM(N:Nat)(s:List UInt8):Nat→List UInt8→Nat→Option (List UInt8)
  |0,_,_=>none
  |f+1,a,b=>if b<(s).length then ck (b<(s).length) ((Px N ((runeAt s b:Nat):Int)).bind fun e=>(MJ N a e).bind fun c=>(KM N s f) c.2 (JD s b))else(Po N a).bind fun d=>some d
def Ou(N:Nat)(s:List UInt8):Option (List UInt8):=(Pp N (s.length:Int)).bind fun a=>KM N s N a 0
theorem Ur(N s r)(g:Ou N s=some r):Gives prog 224 #[vS s] (vS r):=by
 unfold Ou at g
 refine As follows func224 rfl 18 rfl _ fz1 (fun A=> ?_)
 refine AZ rfl<|Ad<|rA rfl fun e=>Ak<|Ad<|rn 1 rfl<|r_W (vI (s.length:Int)) rfl (LI rfl rfl rfl)<|kB g fun G B g=>gM (Ls:=[(Aq e (Value.pointer none) nS)]) (FL:=[(Aq e (Value.pointer none) nS)]) [0] (cF jQ) (fun o w hn_ z_=>ZL N (s.length:Int) _ B _ e) ?_
 rintro _ _ ⟨k,m,_,H,⟨rfl,rfl⟩,rfl⟩
 refine Db (Ls:=[m,(Aq e (vP e 0) k)]) (Ls':=[(Aq e (vP e 0) k),m]) [1,0] rfl rfl<|Db (Ls:=[(Aq e (vP e 0) k),m]) (Ls':=[(Aq e (vP e 0) k),m]) [0,1] rfl rfl<|qb (Ls:=[(Aq e (vP e 0) k),m]) (Ls':=[(List.flatten [(Aq e (vP e 0) k),m])]) (by simp only [List.flatten_cons,List.flatten_nil,List.append_nil,zu])<|Yt (Ls:=[(List.flatten [(Aq e (vP e 0) k),m])]) (p:=fun S_=>Bd 356 5 (vP e 0) G S_) 0 rfl ⟨e,true,_,_,rfl,H,rfl⟩ (fun i C=> ?_)
 refine Ak<|Aa fun I n=>Ad<|rn 1 rfl<|cB 10 (p:=(pIt s))<|dM s rfl rfl rfl rfl rfl (fun _ _ _ _ _=>Iff.rfl) (fun d=> ?_)
 refine nP (Ls:=[i])<|Db (Ls:=[i,[(d,(itT s 0), #[])]]) (Ls':=[[(d,(itT s 0), #[])],i]) [1,0] rfl rfl<|Ak<|Ah<|Bo _ (Sub.pick [[(d,(itT s 0), #[])],i] [0,1] rfl)<|AC (fun tt ll nn=> ∃(h:Nat) (b:List UInt8) (c:Nat),(KM N s h b c=some r)∧ ∃(a:List Bl),Bd 356 5 (vP e 0) b a∧Is [(3,vP e 0),(10,vP d 0)] (List.flatten [[(d,(itT s c), #[])],a]) tt ll∧nn=h+1) (N+1) ?_ ?_
 ·exact⟨N,G,0,g,i,C,Af rfl rfl,rfl⟩
 clear g;rintro t l _ ⟨h,b,c,g,a,f,⟨⟨T,rfl⟩,rfl⟩,rfl⟩
 rcases h with _|h
 ·exact absurd g (by simp [KM])
 rw [KM] at g
 refine Ad<|cA 11 (p:=(pNx d s c))<|gG (lN:=(List.flatten [[(d,(itT s (JD s c)), #[])],a])) 0 d s c rfl rfl rfl rfl rfl rfl (fun _ _ _ _ _=>Iff.rfl) rfl<|r_W (vB (decide (c<(s).length))) rfl (ET (aO s c))<|Ak<|Aa fun J q=>aD g rfl (fun u g=> ?_) (fun u g=> ?_)
 ·refine Ab<|q _ _ ?_
  refine Ah<|Ad<|kC g fun v g=>r_W (Value.int .i32 ((runeAt s c:Nat):Int)) rfl (ET (aM v))<|rz rfl<|Ag<|rn 1 rfl<|kB g fun D x g=>rc _ (cF jO) (ZW N ((runeAt s c:Nat):Int) _ x)<|kB g fun E y g=>gM (Ls:=[[(d,(itT s (JD s c)), #[])],a]) (FL:=[a]) [1] (cF jP) (fun o w hn_ z_=>Rp N b D _ y _ (vP e 0) a f) ?_
  rintro _ _ ⟨j,_,F,⟨rfl,rfl⟩,rfl⟩
  refine Db (Ls:=[[(d,(itT s (JD s c)), #[])],j]) (Ls':=[[(d,(itT s (JD s c)), #[])],j]) [0,1] rfl rfl<|Ak<|fg _ (Sub.pick [[(d,(itT s (JD s c)), #[])],j] [0,1] rfl) ?_
  exact⟨h+1,by omega,h,E.2,JD s c,g,j,F,Af rfl rfl,rfl⟩
 refine AD<|n _ _ ?_
 refine Ad<|kB g fun K z g=>gM (Ls:=[[(d,(itT s (JD s c)), #[])],a]) (FL:=[a]) [1] (cF jN) (fun o w hn_ z_=>Ue N b _ z _ (vP e 0) a f) ?_
 rintro _ _ ⟨rfl,rfl⟩
 refine Db (Ls:=[[(d,(itT s (JD s c)), #[])]]) (Ls':=[[(d,(itT s (JD s c)), #[])]]) [0] rfl rfl<|rz rfl ?_
 cases g
 exact aR eE1
def JE(N:Nat)(a:List UInt8)(b:List UInt8):Option Bool:=(Ou N a).bind fun c=>some (c==b)
theorem Rx(N other a r)(d:JE N other a=some r)(ro:Ro)(b:Nat)(c:Blk ro b [vS a]):Does prog 226 #[vS other,vP b 0] ro [] (pV (vB r)):=by
 unfold JE at d
 refine Aj follows func226 rfl 8 rfl _ fz2 (fun e=> ?_)
 refine AZ rfl<|Aa fun i f=>Hb [] (by decide+kernel) (fun j=>AH)<|rn 1 rfl<|kB d fun h g d=>rc _ (cF bq) (Ur N other _ g)<|GX (vS a) (vs:=[vS a]) (o:=0) rfl rfl (AQ c) rfl<|r_W (vB (h==a)) rfl (Df rfl rfl)<|rz rfl<|f _ _ ?_
 cases d
 exact aR eV1
def gl(N:Nat)(s:List (List UInt8))(b:List UInt8):Nat→Int→Option Int
  |0,_=>none
  |d+1,a=>if a<(s.length:Int)then ck (0≤a∧a<(s.length:Int)) ((JE N (s[a.toNat]!) b).bind fun c=>if c=true then some a else ck (R64 (a+1)) ((gl N s b d) (a+1)))else some (-1)
def sfm(N:Nat)(s:List (List UInt8))(a:List UInt8):Option Int:=gl N s a N 0
theorem sfg(N s d r)(a:sfm N s d=some r)(ro sv)(hs:Rd Aa4 ro sv s)(b:Nat)(f:Blk ro b [vS d]):Does prog 225 #[sv,vF 226 #[] #[vP b 0]] ro [] (pV (vI r)):=by
 unfold sfm at a
 refine Aj follows func225 rfl 19 rfl _ fz2 (fun k=> ?_)
 refine AZ rfl<|Aa fun v m=>Ad<|rn 1 rfl<|rL (Rd.shp hs) rfl<|rz rfl<|Ah<|AC (fun tt ll nn=> ∃(g:Nat) (c:Int),(gl N s d g c=some r)∧Is [(0,sv),(1,vF 226 #[] #[vP b 0]),(7,vI (s.length:Int)),(8,vI c)] [] tt ll∧nn=g+1) (N+1) ?_ ?_
 ·exact⟨N,0,a,Af rfl rfl,rfl⟩
 clear a;rintro t l _ ⟨g,c,a,⟨⟨T,rfl⟩,rfl⟩,rfl⟩
 rcases g with _|g
 ·exact absurd a (by simp [gl])
 rw [gl] at a
 refine AZ rfl<|Aa fun x n=>aD a rfl (fun p a=> ?_) (fun p a=> ?_)
 ·refine Ab<|n _ _ ?_
  refine Aa fun y q=>Ah<|AZ rfl<|Ad<|rn 3 rfl<|kC a fun e a=>rI (Rd.shp hs) e rfl<|rE (Au hs) e 0 rfl<|kB a fun u h a=>gV _ (BG (caps:=[vP b 0]) rfl kn rfl) (fun o w z_=>Rx N (s[c.toNat]!) d _ h z_.view b (AQ f o w z_))<|Ak<|aB a rfl (fun i a=> ?_) (fun i a=> ?_)
  ·refine AZ rfl ?_
   cases a
   exact aR eV1
  refine Ab<|q _ _ ?_
  refine Ag<|kC a fun j a=>rX j rfl<|rz rfl<|fg _ (Sub.of suN) ?_
  exact⟨g+1,by omega,g,(c+1),a,Af rfl rfl,rfl⟩
 refine AD<|m _ _ ?_
 refine AZ rfl ?_
 cases a
 exact aR eV1
def IL(N:Nat)(a:List (List UInt8))(s:List UInt8):Option Int:=(Ou N s).bind fun b=>(sfm N a b).bind fun c=>some c
theorem Rw(N l' s r)(a:IL N l' s=some r)(ro l'v)(hl':Rd Aa4 ro l'v l'):Does prog 172 #[l'v,vS s] ro [] (pV (vI r)):=by
 unfold IL at a
 refine Aj follows func172 rfl 11 rfl _ fz2 (fun b=> ?_)
 refine AZ rfl<|Ad<|rn 1 rfl<|kB a fun f c a=>rc _ (cF bq) (Ur N s _ c)<|rA rfl fun e=>ry [0] rfl<|Ad<|rn 1 rfl<|r_W (vF 226 #[] #[vP e 0]) rfl (HD rfl)<|kB a fun g d a=>gV _ (cF ko) (fun o w z_=>sfg N l' f _ d z_.view l'v ((Au hl') o w z_) e (Cw 0 rfl rfl o w z_))<|rz rfl ?_
 cases a
 exact aR eV1
end Go.Proofs.YthmpbldidnmenaaGreatDoor
