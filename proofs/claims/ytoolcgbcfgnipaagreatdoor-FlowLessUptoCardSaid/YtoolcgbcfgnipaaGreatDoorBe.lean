import Derived.Test.YtoolcgbcfgnipaaGreatDoorBd
namespace Go.Proofs.YtoolcgbcfgnipaaGreatDoor
open Go Go.RowKit Go.Eng _root_.Go.Proofs.Tryz
set_option linter.unusedSimpArgs false
set_option linter.unusedVariables false
set_option maxRecDepth 100000
set_option maxHeartbeats 80000000
abbrev JT(b:Nat)(x0:Value)(x1:Value)(x2:Value)(x3:Value)(x4:Value)(x5:Value)(x6:Value)(x7:Value)(x8:Value)(x9:Value)(x10:Value)(x11:Value)(x12:Value)(x13:Value)(x14:Value)(x15:Int)(x16:Int)(x17:Int):List Bl:=[(b,35, #[x0,x1,x2,x3,x4,x5,x6,x7,x8,x9,x10,x11,x12,x13,x14,vI x15,vI x16,vI x17])]
abbrev Yo(b:Nat)(x0:List UInt8)(x1:Value)(x2:Int)(x3:Int)(x4:Int)(x5:Int):List Bl:=[(b,79, #[vS x0,x1,vI x2,vI x3,vI x4,vI x5])]
abbrev fk(b:Nat)(x0:Value):List Bl:=[(b,24, #[x0])]
abbrev As(b:Nat)(x0:Value)(x1:Value):List Bl:=[(b,348, #[x0,x1])]
abbrev fj(b:Nat)(x0:List UInt8)(x1:Int):List Bl:=[(b,77, #[vS x0,vI x1])]
abbrev Qm:EncO (Int×Int×(List (Int×Int×Int×Int×BitVec 128))×(List (Int×BitVec 128))×Int×Int):=(JM (Mo BI) (JM (Mo BI) (JM (Py 53 Ac7) (JM (Py 51 Ac8) (JM (Mo BI) (Mo BI))))))
abbrev VB:EncO ((List UInt8)×Int×(List (Int×Int×Int))×(List Int)×Int×(List (Int×BitVec 128))×Int):=(JM (Mo Aa3) (JM (Mo BI) (JM (Py 310 Ac9) (JM (Py 3 BI) (JM (Mo BI) (JM (Py 51 Ac8) (Mo BI)))))))
abbrev VC:EncO ((List UInt8)×(List Int)×(List (Int×Int×Int×Int×BitVec 128))):=(JM (Mo Aa3) (JM (Py 3 BI) (Py 53 Ac7)))
abbrev NZ:EncO ((List UInt8)×(List (Int×Int))×(List (Int×Int×Int))×(List (Int×BitVec 128×Int×BitVec 128×Int))×Int):=(JM (Mo Aa3) (JM (Py 242 Ae9) (JM (Py 310 Ac9) (JM (Py 246 Af0) (Mo BI)))))
abbrev Oa:EncO ((List UInt8)×(List (List UInt8×Int))×Int×Int×Int×Int):=(JM (Mo Aa3) (JM (Py 77 Ab2) (JM (Mo BI) (JM (Mo BI) (JM (Mo BI) (Mo BI))))))
def EP(_:Nat):Option ((List UInt8)×(List ((List UInt8)×(List (List UInt8×Int))×Int×Int×Int×Int))×(List (List UInt8×Int×Int))×(List (List UInt8×Int))×(List ((List UInt8)×(List (Int×Int))×(List (Int×Int×Int))×(List (Int×BitVec 128×Int×BitVec 128×Int))×Int))×(List ((List UInt8)×(List Int)×(List (Int×Int×Int×Int×BitVec 128))))×(List ((List UInt8)×Int×(List (Int×Int×Int))×(List Int)×Int×(List (Int×BitVec 128))×Int))×(List (Int×Int×(List (Int×Int×Int×Int×BitVec 128))×(List (Int×BitVec 128))×Int×Int))×(List (Int×Int×(List (Int×Int×Int×Int×BitVec 128))×(List (Int×BitVec 128))×Int×Int))×(List Int)×(List (Int×Int))×(List (Int×Int))×(List (List UInt8×Int×Int))×(List (List UInt8×Int))×(List (List UInt8×Int×Int×Int))×Int×Int×Int):=some (([109]:List UInt8),[(([104]:List UInt8),[(([97]:List UInt8),8)],0,0,0,0)],[(([120]:List UInt8),0,0)],[],[(([115]:List UInt8),[],[],[],-1)],[],[],[],[],[],[],[],[],[],[],1,1,0)
theorem LI(N r)(u:EP N=some r)(ro:Ro):Does prog 9 #[] ro [] (pO [] (oSO 79 Oa r.2.1 fun s_0=>(oS 81 Ad6 r.2.2.1 fun s_1=>(oS 77 Ab2 r.2.2.2.1 fun s_2=>(oSO 86 NZ r.2.2.2.2.1 fun s_3=>(oSO 172 VC r.2.2.2.2.2.1 fun s_4=>(oSO 177 VB r.2.2.2.2.2.2.1 fun s_5=>(oSO 166 Qm r.2.2.2.2.2.2.2.1 fun s_6=>(oSO 166 Qm r.2.2.2.2.2.2.2.2.1 fun s_7=>(oS 3 BI r.2.2.2.2.2.2.2.2.2.1 fun s_8=>(oS 169 Ae3 r.2.2.2.2.2.2.2.2.2.2.1 fun s_9=>(oS 169 Ae3 r.2.2.2.2.2.2.2.2.2.2.2.1 fun s_10=>(oS 132 Ae6 r.2.2.2.2.2.2.2.2.2.2.2.2.1 fun s_11=>(oS 135 Ae7 r.2.2.2.2.2.2.2.2.2.2.2.2.2.1 fun s_12=>(oS 138 Ae8 r.2.2.2.2.2.2.2.2.2.2.2.2.2.2.1 fun s_13=>(oE (vA #[vS r.1,s_0,s_1,s_2,s_3,s_4,s_5,s_6,s_7,s_8,s_9,s_10,s_11,s_12,s_13,vI r.2.2.2.2.2.2.2.2.2.2.2.2.2.2.2.1,vI r.2.2.2.2.2.2.2.2.2.2.2.2.2.2.2.2.1,vI r.2.2.2.2.2.2.2.2.2.2.2.2.2.2.2.2.2]) [])))))))))))))))):=by
 unfold EP at u
 refine Eg follows func9 rfl 10 rfl _ fz0 (fun _ _ h_ _=>h_) (fun n=> ?_)
 refine Ad<|rA rfl fun f=>Af<|Ad<|r_W (vA #[Value.string (⟨#[97]⟩),vI 8]) rfl (Ap rfl rfl rfl rfl)<|gB (Ls:=[(JT f (Value.string (⟨#[]⟩)) nS nS nS nS nS nS nS nS nS nS nS nS nS nS 0 0 0)]) 77 Ab2 [(([97]:List UInt8),8)] (fun o i v=> ?_)
 refine r_W (vA #[Value.string (⟨#[104]⟩),o,vI 0,vI 0,vI 0,vI 0]) rfl (Nt rfl rfl rfl (IN rfl (IN (Ga rfl (Sl.shp v)) PZ)) rfl) ?_
 have hR7:(Oa).R (([104]:List UInt8),[(([97]:List UInt8),8)],0,0,0,0) [Value.string (⟨#[104]⟩),o,vI 0,vI 0,vI 0,vI 0] i:=(by have h_:=(LB (Nu (E:=Aa3) ([104]:List UInt8)) (LB (RW (e:=77) (E:=Ab2) v) (LB (Nu (E:=BI) 0) (LB (Nu (E:=BI) 0) (LB (Nu (E:=BI) 0) (Nu (E:=BI) 0))))));exact EncO.cast h_ (by first|rfl|simp only [j7,List.append_nil,zu]))
 refine cD 4<|Kq (cs0:=[]) (Ls:=[(JT f (Value.string (⟨#[]⟩)) nS nS nS nS nS nS nS nS nS nS nS nS nS nS 0 0 0),i]) 79 (EncO.raw Oa) [EncO.of Oa hR7] [Value.string (⟨#[104]⟩),o,vI 0,vI 0,vI 0,vI 0] [Value.string (⟨#[]⟩),nS,vI 0,vI 0,vI 0,vI 0] rfl rfl rfl rfl rfl rfl rfl (by kernel_rfl) ((Qk _ _ _ _ (IN rfl PZ)).trans (by kernel_rfl)) rfl rfl rfl (fun h m q=> ?_)
 refine CZ (Ls:=[(JT f (Value.string (⟨#[]⟩)) nS nS nS nS nS nS nS nS nS nS nS nS nS nS 0 0 0),i,m]) (Ls':=[(JT f (Value.string (⟨#[]⟩)) nS nS nS nS nS nS nS nS nS nS nS nS nS nS 0 0 0),m,i]) [0,2,1] rfl rfl<|sc (Ls:=[(JT f (Value.string (⟨#[]⟩)) nS nS nS nS nS nS nS nS nS nS nS nS nS nS 0 0 0),m,i]) (Ls':=[(JT f (Value.string (⟨#[]⟩)) nS nS nS nS nS nS nS nS nS nS nS nS nS nS 0 0 0),(m++i)]) (by simp only [List.flatten_cons,List.flatten_nil,List.append_nil,zu]) ?_
 refine Yg (Ls:=[(JT f (Value.string (⟨#[]⟩)) nS nS nS nS nS nS nS nS nS nS nS nS nS nS 0 0 0),(m++i)]) (p:=fun S_=>SlO 79 Oa h ([(([104]:List UInt8),[(([97]:List UInt8),8)],0,0,0,0)]) S_) 1 rfl (SlO.cast (⟨_,_,_,q,(Items.one hR7),rfl⟩:SlO 79 Oa h [(([104]:List UInt8),[(([97]:List UInt8),8)],0,0,0,0)] _) (by first|rfl|simp only [j7,List.append_nil,zu])) (fun b j=> ?_)
 refine r_W (vA #[Value.string (⟨#[120]⟩),vI 0,vI 0]) rfl (Ap rfl rfl rfl rfl)<|gB (Ls:=[(JT f (Value.string (⟨#[]⟩)) nS nS nS nS nS nS nS nS nS nS nS nS nS nS 0 0 0),b]) 81 Ad6 [(([120]:List UInt8),0,0)] (fun c d k=> ?_)
 refine r_W (vA #[Value.string (⟨#[115]⟩),nS,nS,nS,vI (-1)]) rfl (Ap rfl rfl rfl rfl) ?_
 have hR16:(NZ).R (([115]:List UInt8),[],[],[],-1) [Value.string (⟨#[115]⟩),nS,nS,nS,vI (-1)] ([]):=(by have h_:=(LB (Nu (E:=Aa3) ([115]:List UInt8)) (LB (RW (e:=242) (E:=Ae9) Sl.nil) (LB (RW (e:=310) (E:=Ac9) Sl.nil) (LB (RW (e:=246) (E:=Af0) Sl.nil) (Nu (E:=BI) (-1))))));exact EncO.cast h_ (by first|rfl|simp only [j7,List.append_nil,zu]))
 refine cD 8<|Kq (cs0:=[]) (Ls:=[(JT f (Value.string (⟨#[]⟩)) nS nS nS nS nS nS nS nS nS nS nS nS nS nS 0 0 0),b,d]) 86 (EncO.raw NZ) [EncO.of NZ hR16] [Value.string (⟨#[115]⟩),nS,nS,nS,vI (-1)] [Value.string (⟨#[]⟩),nS,nS,nS,vI 0] rfl rfl rfl rfl rfl rfl rfl (by kernel_rfl) ((Qk _ _ _ _ (IN rfl PZ)).trans (by kernel_rfl)) rfl rfl rfl (fun a s t=> ?_)
 refine Yg (Ls:=[(JT f (Value.string (⟨#[]⟩)) nS nS nS nS nS nS nS nS nS nS nS nS nS nS 0 0 0),b,d,s]) (p:=fun S_=>SlO 86 NZ a ([(([115]:List UInt8),[],[],[],-1)]) S_) 3 rfl (SlO.cast (⟨_,_,_,t,(Items.one hR16),rfl⟩:SlO 86 NZ a [(([115]:List UInt8),[],[],[],-1)] _) (by first|rfl|simp only [j7,List.append_nil,zu])) (fun g l=> ?_)
 refine r_W (vA #[Value.string (⟨#[109]⟩),h,c,nS,a,nS,nS,nS,nS,nS,nS,nS,nS,nS,nS,vI 1,vI 1,vI 0]) rfl (Nt rfl rfl rfl (IN rfl (IN (Ga rfl (SlO.shp j)) (IN (Ga rfl (Sl.shp k)) (IN (Ga rfl (SlO.shp l)) (IN rfl (IN rfl PZ)))))) rfl) ?_
 refine r_s (List.flatten [(JT f (Value.string (⟨#[109]⟩)) h c nS a nS nS nS nS nS nS nS nS nS nS 1 1 0),b,d,g]) 0 _ _ _ _ _ (#[Value.string (⟨#[109]⟩),h,c,nS,a,nS,nS,nS,nS,nS,nS,nS,nS,nS,nS,vI 1,vI 1,vI 0]) rfl rfl rfl rfl (.ofS rfl rfl (Ae rfl (Ae (Shp.one (SlO.shp j)) (Ae (Shp.one (Sl.shp k)) (Ae (Shp.one (.inl ⟨rfl,rfl⟩)) (Ae (Shp.one (SlO.shp l)) (Ae (Shp.one (.inl ⟨rfl,rfl⟩)) (Ae (Shp.one (.inl ⟨rfl,rfl⟩)) (Ae (Shp.one (.inl ⟨rfl,rfl⟩)) (Ae (Shp.one (.inl ⟨rfl,rfl⟩)) (Ae (Shp.one (.inl ⟨rfl,rfl⟩)) (Ae (Shp.one (.inl ⟨rfl,rfl⟩)) (Ae (Shp.one (.inl ⟨rfl,rfl⟩)) (Ae (Shp.one (.inl ⟨rfl,rfl⟩)) (Ae (Shp.one (.inl ⟨rfl,rfl⟩)) (Ae (Shp.one (.inl ⟨rfl,rfl⟩)) (Ae rfl (Ae rfl (Ae rfl Bv))))))))))))))))))) rfl rfl ?_
 refine Af ?_
 cases u
 refine Bb (fun w=>GP (v0:=vA #[Value.string (⟨#[109]⟩),h,c,nS,a,nS,nS,nS,nS,nS,nS,nS,nS,nS,nS,vI 1,vI 1,vI 0]) (O:=[b,d,[],g,[],[],[],[],[],[],[],[],[],[]]) (EJ (Bh w 0 rfl rfl rfl)) (Sub.pickE (Ls:=[(JT f (Value.string (⟨#[109]⟩)) h c nS a nS nS nS nS nS nS nS nS nS nS 1 1 0),b,d,g,[],[],[],[],[],[],[],[],[],[],[]]) (Ls0:=[(JT f (Value.string (⟨#[109]⟩)) h c nS a nS nS nS nS nS nS nS nS nS nS 1 1 0),b,d,g]) rfl [1,2,4,3,5,6,7,8,9,10,11,12,13,14] rfl) ⟨h,b,_,j,⟨c,d,_,k,⟨nS,[],_,Sl.nil,⟨a,g,_,l,⟨nS,[],_,SlO.nil,⟨nS,[],_,SlO.nil,⟨nS,[],_,SlO.nil,⟨nS,[],_,SlO.nil,⟨nS,[],_,Sl.nil,⟨nS,[],_,Sl.nil,⟨nS,[],_,Sl.nil,⟨nS,[],_,Sl.nil,⟨nS,[],_,Sl.nil,⟨nS,[],_,Sl.nil,⟨rfl,rfl⟩,rfl⟩,rfl⟩,rfl⟩,rfl⟩,rfl⟩,rfl⟩,rfl⟩,rfl⟩,rfl⟩,rfl⟩,rfl⟩,rfl⟩,rfl⟩,rfl⟩)
def QQ(a:Value):List Fv:=[⟨vF 40 #[a] #[],rfl⟩,⟨vF 41 #[a] #[],rfl⟩,⟨vF 42 #[a] #[],rfl⟩,⟨vF 43 #[a] #[],rfl⟩,⟨vF 44 #[a] #[],rfl⟩,⟨vF 45 #[a] #[],rfl⟩,⟨vF 46 #[a] #[],rfl⟩,⟨vF 47 #[a] #[],rfl⟩,⟨vF 48 #[a] #[],rfl⟩,⟨vF 49 #[a] #[],rfl⟩,⟨vF 50 #[a] #[],rfl⟩,⟨vF 51 #[a] #[],rfl⟩,⟨vF 52 #[a] #[],rfl⟩,⟨vF 53 #[a] #[],rfl⟩,⟨vF 54 #[a] #[],rfl⟩]
def MM(_:Nat)(_:Ao):Option Unit:=some ()
theorem Yy(N c r)(b:MM N c=some r)(ro:Ro)(cv:AD)(_hc:Aa1 ro cv c):DoesI prog 20 #[vA (Ac c cv)] Ie ro [] (p1 (fun s_=>s_) 92 Mp (QQ (vA (Ac c cv)))):=by
 unfold MM at b
 refine AX follows func20 rfl 34 rfl _ fz1 Bg (fun a=> ?_)
 refine Ad<|rA rfl fun d=>rz rfl<|Ad<|rm 1 [0] rfl<|r_W (vF 40 #[vA (Ac c cv)] #[]) rfl (IU rfl rfl)<|rm 1 [0] rfl<|r_W (vF 41 #[vA (Ac c cv)] #[]) rfl (IU rfl rfl)<|rm 1 [0] rfl<|r_W (vF 42 #[vA (Ac c cv)] #[]) rfl (IU rfl rfl)<|rm 1 [0] rfl<|r_W (vF 43 #[vA (Ac c cv)] #[]) rfl (IU rfl rfl)<|rm 1 [0] rfl ?_
 refine r_W (vF 44 #[vA (Ac c cv)] #[]) rfl (IU rfl rfl)<|rm 1 [0] rfl<|r_W (vF 45 #[vA (Ac c cv)] #[]) rfl (IU rfl rfl)<|rm 1 [0] rfl<|r_W (vF 46 #[vA (Ac c cv)] #[]) rfl (IU rfl rfl)<|rm 1 [0] rfl<|r_W (vF 47 #[vA (Ac c cv)] #[]) rfl (IU rfl rfl)<|rm 1 [0] rfl<|r_W (vF 48 #[vA (Ac c cv)] #[]) rfl (IU rfl rfl) ?_
 refine rm 1 [0] rfl<|r_W (vF 49 #[vA (Ac c cv)] #[]) rfl (IU rfl rfl)<|rm 1 [0] rfl<|r_W (vF 50 #[vA (Ac c cv)] #[]) rfl (IU rfl rfl)<|rm 1 [0] rfl<|r_W (vF 51 #[vA (Ac c cv)] #[]) rfl (IU rfl rfl)<|rm 1 [0] rfl<|r_W (vF 52 #[vA (Ac c cv)] #[]) rfl (IU rfl rfl)<|rm 1 [0] rfl ?_
 refine r_W (vF 53 #[vA (Ac c cv)] #[]) rfl (IU rfl rfl)<|rm 1 [0] rfl<|r_W (vF 54 #[vA (Ac c cv)] #[]) rfl (IU rfl rfl)<|cD 33 ?_
 refine Kq (cs0:=[]) (Ls:=[[(d,90,(Ac c cv))]]) 92 Mp (QQ (vA (Ac c cv))) [vF 40 #[vA (Ac c cv)] #[],vF 41 #[vA (Ac c cv)] #[],vF 42 #[vA (Ac c cv)] #[],vF 43 #[vA (Ac c cv)] #[],vF 44 #[vA (Ac c cv)] #[],vF 45 #[vA (Ac c cv)] #[],vF 46 #[vA (Ac c cv)] #[],vF 47 #[vA (Ac c cv)] #[],vF 48 #[vA (Ac c cv)] #[],vF 49 #[vA (Ac c cv)] #[],vF 50 #[vA (Ac c cv)] #[],vF 51 #[vA (Ac c cv)] #[],vF 52 #[vA (Ac c cv)] #[],vF 53 #[vA (Ac c cv)] #[],vF 54 #[vA (Ac c cv)] #[]] [Value.nilFunc,Value.nilFunc,Value.nilFunc,Value.nilFunc,Value.nilFunc,Value.nilFunc,Value.nilFunc,Value.nilFunc,Value.nilFunc,Value.nilFunc,Value.nilFunc,Value.nilFunc,Value.nilFunc,Value.nilFunc,Value.nilFunc] rfl rfl rfl rfl rfl rfl rfl (by kernel_rfl) (by kernel_rfl) rfl rfl rfl (fun e f g=> ?_)
 refine rz rfl<|GQ [(2,e)] rfl (fun T=> ?_)
 cases b
 refine Bb (fun h=>Hw (v0:=e) g (EH (Sub.pick [[(d,90,(Ac c cv))],f] [1] rfl)) rfl (EJ rfl))
def Az(_:Nat)(n:Int)(a:Int)(b:Int):Option Bool:=if n≥a then some (decide (n≤b))else some false
theorem AP(N n least most r)(a:Az N n least most=some r):Gives prog 66 #[vI n,vI least,vI most] (vB r):=by
 unfold Az at a
 refine Av follows func66 rfl 15 rfl _ fz3 (fun d=> ?_)
 refine AZ rfl<|Aa fun e b=>Ag<|rn 4 rfl ?_
 rcases c:(decide (n≥least))with _|_
 ·replace a:=iF c a
  refine rz rfl<|b _ _ ?_
  cases a
  exact aR eE1
 replace a:=iD c a
 refine rz rfl<|b _ _ ?_
 cases a
 exact aR eE1
def Cm(_:Nat)(c:Int)(a:Int)(b:Int):Option Bool:=if c≥a then some (decide (c≤b))else some false
theorem ES(N c first last r)(a:Cm N c first last=some r):Gives prog 241 #[Value.int .i32 c,Value.int .i32 first,Value.int .i32 last] (vB r):=by
 unfold Cm at a
 refine Av follows func241 rfl 15 rfl _ fz3 (fun e=> ?_)
 refine AZ rfl<|Aa fun f b=>Ag<|rn 4 rfl ?_
 rcases d:(decide (c≥first))with _|_
 ·replace a:=iF d a
  refine rz rfl<|b _ _ ?_
  cases a
  exact aR eE1
 replace a:=iD d a
 refine rz rfl<|b _ _ ?_
 cases a
 exact aR eE1
def Hs(N:Nat)(c:Int):Option Bool:=(Cm N c 65 90).bind fun e=>if e=true then some true else(Cm N c 97 122).bind fun f=>if f=true then some true else if c=95 then some true else(Cm N c 192 591).bind fun a=>if a=true then some true else(Cm N c 913 969).bind fun d=>if d=true then some true else(Cm N c 1024 1279).bind fun b=>some b
def Jf(N:Nat)(c:Int):Option Bool:=if c=215 then if c=215 then some false else Hs N c  else if c=247 then if c=247 then some false else Hs N c  else if c=930 then some false else Hs N c 
theorem QP(N c r)(a:Jf N c=some r):Gives prog 211 #[Value.int .i32 c] (vB r):=by
 unfold Jf at a
 refine Av follows func211 rfl 30 rfl _ fz1 (fun v=> ?_)
 refine AZ rfl<|Cb (fun tt ll=>(Hs N c  =some r)∧Is [(0,Value.int .i32 c)] [] tt ll) ?_ ?_
 ·refine AZ rfl<|Ai<|Aa fun z d=>AZ rfl<|aE a rfl (fun g a=> ?_) (fun g a=> ?_)
  ·refine Ab<|d _ _ ?_
   refine aE a rfl (fun h a=> ?_) (fun h a=> ?_)
   ·refine AZ rfl ?_
    cases a
    exact aR eE1
   refine Ab<|fg _ (Sub.of suN) ?_
   exact⟨a,Ah rfl rfl⟩
  refine AZ rfl<|aE a rfl (fun i a=> ?_) (fun i a=> ?_)
  ·refine Ab<|d _ _ ?_
   refine aE a rfl (fun j a=> ?_) (fun j a=> ?_)
   ·refine AZ rfl ?_
    cases a
    exact aR eE1
   refine Ab<|fg _ (Sub.of suN) ?_
   exact⟨a,Ah rfl rfl⟩
  refine Ag<|rz rfl<|d _ _ ?_
  refine aE a rfl (fun k a=> ?_) (fun k a=> ?_)
  ·refine AZ rfl ?_
   cases a
   exact aR eE1
  refine Ab<|fg _ (Sub.of suN) ?_
  exact⟨a,Ah rfl rfl⟩
 clear a;rintro t l ⟨a,⟨T,rfl⟩,rfl⟩
 unfold Hs at a
 refine Aa fun D b=>Ag<|rn 1 rfl<|kB a fun A w a=>rc _ (cF JN) (ES N c 65 90 _ w)<|rn 1 rfl ?_
 rcases m:A with _|_
 ·replace a:=iB m a
  refine rn 1 rfl<|r_y rfl<|kB a fun B x a=>rc _ (cF JN) (ES N c 97 122 _ x)<|rn 2 rfl ?_
  rcases n:B with _|_
  ·replace a:=iB n a
   refine rn 4 rfl ?_
   rcases o:(c==95)with _|_
   ·replace a:=iG o a
    refine rn 1 rfl<|r_y rfl<|kB a fun p q a=>rc _ (cF JN) (ES N c 192 591 _ q)<|rn 2 rfl<|dw [(0,Value.int .i32 c),(22,vB p)] rfl (fun T=> ?_)
    rcases e:p with _|_
    ·replace a:=iB e a
     refine rn 1 rfl<|r_y rfl<|kB a fun y s a=>rc _ (cF JN) (ES N c 913 969 _ s)<|rn 2 rfl ?_
     rcases f:y with _|_
     ·replace a:=iB f a
      refine rn 1 rfl<|r_y rfl<|kB a fun C u a=>rc _ (cF JN) (ES N c 1024 1279 _ u)<|rz rfl<|b _ _ ?_
      cases a
      exact aR eE1
     replace a:=ifp f a
     refine rz rfl<|b _ _ ?_
     cases a
     exact aR eE1
    replace a:=ifp e a
    refine rz rfl<|b _ _ ?_
    cases a
    exact aR eE1
   replace a:=iE o a
   refine rz rfl<|b _ _ ?_
   cases a
   exact aR eE1
  replace a:=ifp n a
  refine rz rfl<|b _ _ ?_
  cases a
  exact aR eE1
 replace a:=ifp m a
 refine rz rfl<|b _ _ ?_
 cases a
 exact aR eE1
def Lk(N:Nat)(c:Int):Option Bool:=(Cm N c 48 57).bind fun a=>some a
theorem Ye(N c r)(a:Lk N c=some r):Gives prog 212 #[Value.int .i32 c] (vB r):=by
 unfold Lk at a
 refine Av follows func212 rfl 5 rfl _ fz1 (fun b=> ?_)
 refine AZ rfl<|Ad<|rn 1 rfl<|kB a fun e d a=>rc _ (cF JN) (ES N c 48 57 _ d)<|rz rfl ?_
 cases a
 exact aR eE1
def IY(N:Nat)(c:Int)(a:Int):Option Bool:=(Jf N c).bind fun b=>if b=true then some true else if a>0 then(Lk N c).bind fun d=>if d=true then some true else if c=45 then some true else some (c==46)else some false
theorem Ts(N c ahead r)(a:IY N c ahead=some r):Gives prog 145 #[Value.int .i32 c,vI ahead] (vB r):=by
 unfold IY at a
 refine Av follows func145 rfl 23 rfl _ fz2 (fun h=> ?_)
 refine AZ rfl<|Aa fun m b=>Ag<|rn 1 rfl<|kB a fun k i a=>rc _ (cF bT) (QP N c _ i)<|rn 1 rfl ?_
 rcases e:k with _|_
 ·replace a:=iB e a
  refine rn 3 rfl ?_
  rcases f:(decide (ahead>0))with _|_
  ·replace a:=iF f a
   refine rn 3 rfl<|BR rfl rfl<|BR rfl rfl<|rn 2 rfl<|BR rfl rfl<|BR rfl rfl<|rz rfl<|b _ _ ?_
   cases a
   exact aR eE1
  replace a:=iD f a
  refine rn 1 rfl<|r_y rfl<|kB a fun l j a=>rc _ (cF mc) (Ye N c _ j)<|rn 1 rfl ?_
  rcases g:l with _|_
  ·replace a:=iB g a
   refine rn 4 rfl ?_
   rcases d:(c==45)with _|_
   ·replace a:=iG d a
    refine rz rfl<|b _ _ ?_
    cases a
    exact aR eE1
   replace a:=iE d a
   refine rz rfl<|b _ _ ?_
   cases a
   exact aR eE1
  replace a:=ifp g a
  refine rz rfl<|b _ _ ?_
  cases a
  exact aR eE1
 replace a:=ifp e a
 refine rn 3 rfl<|BR rfl rfl<|BR rfl rfl<|BR rfl rfl<|BR rfl rfl<|BR rfl rfl<|BR rfl rfl<|BR rfl rfl<|BR rfl rfl<|BR rfl rfl<|BR rfl rfl<|rz rfl<|b _ _ ?_
 cases a
 exact aR eE1
def IF(N:Nat)(s:List UInt8):Nat→Int→Nat→Option Bool
  |0,_,_=>none
  |d+1,a,b=>if b<(s).length then ck (b<(s).length) (if a=24 then some false else(IY N ((runeAt s b:Nat):Int) a).bind fun c=>if c=true then ck (R64 (a+1)) ((IF N s d) (a+1) (Il s b))else some false)else some (decide (a>0))
def KJ(N:Nat)(s:List UInt8):Option Bool:=IF N s N 0 0
theorem Re(N s r)(b:KJ N s=some r):Gives prog 85 #[vS s] (vB r):=by
 unfold KJ at b
 refine Av follows func85 rfl 23 rfl _ fz1 (fun n=> ?_)
 refine AZ rfl<|AZ rfl<|Aa fun y o=>Ad<|rn 1 rfl<|cB 7 (p:=(pIt s))<|eR s rfl rfl rfl rfl rfl (fun _ _ _ _ _=>Iff.rfl) (fun h=> ?_)
 refine Af<|Ai<|AH (fun tt ll nn=> ∃(g:Nat) (a:Int) (c:Nat),(IF N s g a c=some r)∧Is [(3,vI a),(7,vP h 0)] [(h,(itT s c), #[])] tt ll∧nn=g+1) (N+1) ?_ ?_
 ·exact⟨N,0,0,b,Ah rfl rfl,rfl⟩
 clear b;rintro t l _ ⟨g,a,c,b,⟨⟨T,rfl⟩,rfl⟩,rfl⟩
 rcases g with _|g
 ·exact absurd b (by simp [IF])
 rw [IF] at b
 refine Ad<|cA 8 (p:=(pNx h s c))<|ji (lN:=[(h,(itT s (Il s c)), #[])]) 0 h s c rfl rfl rfl rfl rfl rfl (fun _ _ _ _ _=>Iff.rfl) rfl<|r_W (vB (decide (c<(s).length))) rfl (Ef (bp s c))<|Af<|Aa fun z q=>aD b rfl (fun u b=> ?_) (fun u b=> ?_)
 ·refine Ab<|q _ _ ?_
  refine Ai<|Ad<|kC b fun i b=>r_W (Value.int .i32 ((runeAt s c:Nat):Int)) rfl (Ef (bo i))<|rz rfl<|Aa fun v j=>Aa fun w f=>Ag<|rn 3 rfl ?_
  rcases d:(a==24)with _|_
  ·replace b:=iG d b
   refine rn 2 rfl<|r_y rfl<|kB b fun x k b=>rc _ (cF nd) (Ts N ((runeAt s c:Nat):Int) a _ k)<|rz rfl<|f _ _ ?_
   refine Bf _ rfl (fun e=> ?_) (fun e=> ?_)
   ·replace b:=ifn (Bool.eq_false_iff.1 (Da e)) b
    refine AZ rfl ?_
    cases b
    exact aR eE1
   replace b:=ifp (Db e) b
   refine Ab<|j _ _ ?_
   refine Ag<|rn 1 rfl<|kC b fun m b=>rX m rfl<|rz rfl<|fg _ (Sub.of (suK _ suN)) ?_
   exact⟨g+1,by omega,g,(a+1),Il s c,b,Ah (by first|rfl|(simp only [d];done)|(simp only [d];rfl)|(simp only [Bo];rfl)) rfl,rfl⟩
  replace b:=iE d b
  refine rz rfl<|f _ _ ?_
  refine MP rfl ?_
  refine AZ rfl ?_
  cases b
  exact aR eE1
 refine AI<|o _ _ ?_
 refine AZ rfl ?_
 cases b
 exact aR eE1
def Aq(_:Nat)(b:Bool)(a:Int):Option Int:=if b=true then some 0 else some a
theorem Ay(N so e' r)(a:Aq N so e'=some r):Gives prog 24 #[vB so,vI e'] (vI r):=by
 unfold Aq at a
 refine Av follows func24 rfl 7 rfl _ fz2 (fun b=> ?_)
 refine AZ rfl<|Aa fun e c=>AZ rfl<|aB a rfl (fun d a=> ?_) (fun d a=> ?_)
 ·refine AZ rfl ?_
  cases a
  exact aR eE1
 refine Ab<|c _ _ ?_
 refine AZ rfl ?_
 cases a
 exact aR eE1
def NK(_:Nat)(a:Int):Option Bool:=some (a !=0)
theorem aF(N e' r)(b:NK N e'=some r):Gives prog 56 #[vI e'] (vB r):=by
 unfold NK at b
 refine Av follows func56 rfl 5 rfl _ fz1 (fun a=> ?_)
 refine AZ rfl<|AZ rfl ?_
 cases b
 exact aR eE1
def ZQ(N:Nat)(s:List Int):Nat→Int→Option Int
  |0,_=>none
  |c+1,a=>if a<(s.length:Int)then ck (0≤a∧a<(s.length:Int)) ((NK N (s[a.toNat]!)).bind fun b=>if b=true then some a else ck (R64 (a+1)) ((ZQ N s c) (a+1)))else some (-1)
def sFm(N:Nat)(s:List Int):Option Int:=ZQ N s N 0
theorem sFg(N s r)(a:sFm N s=some r)(ro sv)(hs:Rd BI ro sv s):Does prog 55 #[sv,vF 56 #[] #[]] ro [] (pV (vI r)):=by
 unfold sFm at a
 refine Al follows func55 rfl 19 rfl _ fz2 (fun h=> ?_)
 refine AZ rfl<|Aa fun o i=>Ad<|rn 1 rfl<|rL (Rd.shp hs) rfl<|rz rfl<|Ai<|AH (fun tt ll nn=> ∃(d:Nat) (b:Int),(ZQ N s d b=some r)∧Is [(0,sv),(1,vF 56 #[] #[]),(7,vI (s.length:Int)),(8,vI b)] [] tt ll∧nn=d+1) (N+1) ?_ ?_
 ·exact⟨N,0,a,Ah rfl rfl,rfl⟩
 clear a;rintro t l _ ⟨d,b,a,⟨⟨T,rfl⟩,rfl⟩,rfl⟩
 rcases d with _|d
 ·exact absurd a (by simp [ZQ])
 rw [ZQ] at a
 refine AZ rfl<|Aa fun p j=>aD a rfl (fun k a=> ?_) (fun k a=> ?_)
 ·refine Ab<|j _ _ ?_
  refine Aa fun q m=>Ai<|AZ rfl<|Ad<|rn 3 rfl<|kC a fun c a=>rI (Rd.shp hs) c rfl<|rE (Aw hs) c 0 rfl<|kB a fun n e a=>rc _ (BF (caps:=[]) rfl qI rfl) (aF N (s[b.toNat]!) _ e)<|Af<|aB a rfl (fun f a=> ?_) (fun f a=> ?_)
  ·refine AZ rfl ?_
   cases a
   exact aR eV1
  refine Ab<|m _ _ ?_
  refine Ag<|kC a fun g a=>rX g rfl<|rz rfl<|fg _ (Sub.of suN) ?_
  exact⟨d+1,by omega,d,(b+1),a,Ah rfl rfl,rfl⟩
 refine AI<|i _ _ ?_
 refine AZ rfl ?_
 cases a
 exact aR eV1
def AE(N:Nat)(b:List Int):Option Int:=(sFm N b).bind fun a=>if a<0 then some 0 else ck (0≤a∧a<(b.length:Int)) (some (b[a.toNat]!))
theorem BQ(N l' r)(a:AE N l'=some r)(ro l'v)(hl':Rd BI ro l'v l'):Does prog 23 #[l'v] ro [] (pV (vI r)):=by
 unfold AE at a
 refine Al follows func23 rfl 12 rfl _ fz1 (fun c=> ?_)
 refine AZ rfl<|Ad<|rn 1 rfl<|kB a fun g d a=>gV _ (cF qJ) (fun o w z_=>sFg N l' _ d z_.view l'v ((Aw hl') o w z_))<|rz rfl<|Aa fun h e=>AZ rfl<|aD a rfl (fun f a=> ?_) (fun f a=> ?_)
 ·refine AZ rfl ?_
  cases a
  exact aR eV1
 refine Ab<|e _ _ ?_
 refine Ad<|rn 2 rfl<|kC a fun b a=>rI (Rd.shp hl') b rfl<|rE (Aw hl') b 0 rfl<|rz rfl ?_
 cases a
 exact aR eV1
def HZ(N:Nat)(c:Ao)(a:Bool):Option (Int×Int):=(KJ N c.1).bind fun f=>(Aq N f 4).bind fun e=>(Aq N a 7).bind fun d=>(AE N ([e,d])).bind fun b=>some (0,b)
def IT(N:Nat)(c:Ao):Option (Int×Int):=(Az N c.2.2.2.2.2.2.2.2.2.2.2.2.2.2.2.1 1 64).bind fun b=>if b=true then(Az N c.2.2.2.2.2.2.2.2.2.2.2.2.2.2.2.2.1 1 32).bind fun a=>if a=true then(Az N c.2.2.2.2.2.2.2.2.2.2.2.2.2.2.2.2.2 0 4).bind fun d=>HZ N c d else HZ N c false else HZ N c false
theorem YE(N c r)(b:IT N c=some r)(ro:Ro)(cv:AD)(_hc:Aa1 ro cv c):Does prog 40 #[vA (Ac c cv)] ro [] (pV (vT #[vI r.1,vI r.2])):=by
 unfold IT at b
 refine Al follows func40 rfl 30 rfl _ fz1 (fun j=> ?_)
 refine Ad<|rA rfl fun m=>rz rfl<|Cb (fun tt ll=> ∃(a:Bool),(HZ N c a=some r)∧Is [(1,vP m 0),(4,vB a)] [(m,90,(Ac c cv))] tt ll) ?_ ?_
 ·refine Ag<|rm 3 [0] rfl<|kB b fun n f b=>rc _ (cF EV) (AP N c.2.2.2.2.2.2.2.2.2.2.2.2.2.2.2.1 1 64 _ f)<|rn 1 rfl ?_
  rcases d:n with _|_
  ·replace b:=iB d b
   refine rz rfl<|fg _ (Sub.of (suK _ suN)) ?_
   exact⟨false,b,Ah (by first|rfl|(simp only [d];done)|(simp only [d];rfl)|(simp only [Bo];rfl)) rfl⟩
  replace b:=ifp d b
  refine rn 2 rfl<|r_y rfl<|rm 1 [0] rfl<|r_y rfl<|kB b fun p g b=>rc _ (cF EV) (AP N c.2.2.2.2.2.2.2.2.2.2.2.2.2.2.2.2.1 1 32 _ g)<|rn 2 rfl ?_
  rcases e:p with _|_
  ·replace b:=iB e b
   refine rz rfl<|fg _ (Sub.of (suK _ suN)) ?_
   exact⟨false,b,Ah (by first|rfl|(simp only [d,e];done)|(simp only [d,e];rfl)|(simp only [Bo];rfl)) rfl⟩
  replace b:=ifp e b
  refine rn 2 rfl<|r_y rfl<|rm 1 [0] rfl<|r_y rfl<|kB b fun q h b=>rc _ (cF EV) (AP N c.2.2.2.2.2.2.2.2.2.2.2.2.2.2.2.2.2 0 4 _ h)<|rz rfl<|fg _ (Sub.of (suK _ suN)) ?_
  exact⟨q,b,Ah (by first|rfl|(simp only [d,e];done)|(simp only [d,e];rfl)|(simp only [Bo];rfl)) rfl⟩
 clear b;rintro t l ⟨a,b,⟨T,rfl⟩,rfl⟩
 unfold HZ at b
 refine Ad<|rm 3 [0] rfl<|kB b fun C s b=>rc _ (cF Zn) (Re N c.1 _ s)<|kB b fun A u b=>rc _ (cF Bj) (Ay N C 4 _ u)<|rn 1 rfl<|kB b fun B v b=>rc _ (cF Bj) (Ay N a 7 _ v)<|gB (Ls:=[[(m,90,(Ac c cv))]]) 42 BI [A,B] (fun x y z=> ?_)
 refine kB b fun D i b=>gV _ (cF ED) (fun o w z_=>BQ N ([A,B]) _ i z_.view x ((Ax z (Ak (Ls:=[[(m,90,(Ac c cv))],y]) (k:=1) rfl rfl)) o w z_))<|rz rfl ?_
 cases b
 exact aR eV2
def LO(_:Nat)(a:List UInt8)(_:List (List UInt8×Int))(_:Int)(_:Int)(_:Int)(_:Int):Option (List UInt8):=some a
theorem ST(N h_0 h_1 h_2 h_3 h_4 h_5 r)(b:LO N h_0 h_1 h_2 h_3 h_4 h_5=some r)(ro:Ro)(h_1v:Value)(_hh_1:Rd Ab2 ro h_1v h_1):Does prog 87 #[vA #[vS h_0,h_1v,vI h_2,vI h_3,vI h_4,vI h_5]] ro [] (pV (vS r)):=by
 unfold LO at b
 refine Al follows func87 rfl 5 rfl _ fz1 (fun a=> ?_)
 refine Ad<|rA rfl fun c=>rz rfl<|AY [0] rfl ?_
 cases b
 exact aR eV1
def HC(N:Nat)(b:List ((List UInt8)×(List (List UInt8×Int))×Int×Int×Int×Int)):Nat→List (List UInt8)→Int→Option (List (List UInt8))
  |0,_,_=>none
  |e+1,c,a=>if a<(b.length:Int)then ck (0≤a∧a<(b.length:Int)) ((LO N (b[a.toNat]!.1) (b[a.toNat]!.2.1) (b[a.toNat]!.2.2.1) (b[a.toNat]!.2.2.2.1) (b[a.toNat]!.2.2.2.2.1) (b[a.toNat]!.2.2.2.2.2)).bind fun d=>ck (0≤a∧a<(c.length:Int)) (ck (R64 (a+1)) ((HC N b e) ((c).set (a.toNat) d) (a+1))))else some c
def Lv(N:Nat)(a:List ((List UInt8)×(List (List UInt8×Int))×Int×Int×Int×Int)):Option (List (List UInt8)):=ck (0≤(a.length:Int)∧(a.length:Int)≤8796093022208) (HC N a N ((List.replicate ((a.length:Int)).toNat ([]))) 0)
theorem Vb(N l' r)(b:Lv N l'=some r)(ro l'v)(hl':RdN Ad4 ro l'v l'):Does prog 86 #[l'v,vF 87 #[] #[]] ro [] (p1 (fun s_=>s_) 9 Aa3 r):=by
 unfold Lv at b
 refine Al follows func86 rfl 26 rfl _ fz2 (fun x=> ?_)
 refine AZ rfl<|Ad<|rn 1 rfl<|rL (RdN.shp hl') rfl<|kC b fun y b=>cB 10<|SC (Ls:=[]) 9 Aa3 ([]) (l'.length:Int) rfl rfl rfl rfl rfl rfl rfl rfl rfl rfl 8796093022208 rfl y (fun _ _ _ _ _=>Iff.rfl) (fun z C D=> ?_)
 refine rz rfl<|Aa fun H A=>Ad<|rn 1 rfl<|rL (RdN.shp hl') rfl<|rz rfl<|Ai<|Bw _ (Sub.pick [C] [0] rfl)<|AH (fun tt ll nn=> ∃(j:Nat) (e:List (List UInt8)) (a:Int),(HC N l' j e a=some r)∧ ∃(c:List Bl),Sl 9 Aa3 z e c∧Is [(1,vF 87 #[] #[]),(5,z),(11,l'v),(12,vI (l'.length:Int)),(13,vI a)] (List.flatten [c]) tt ll∧nn=j+1) (N+1) ?_ ?_
 ·exact⟨N,(List.replicate ((l'.length:Int)).toNat ([])),0,b,C,D,Ah rfl rfl,rfl⟩
 clear b;rintro t l _ ⟨j,e,a,b,c,f,⟨⟨T,rfl⟩,rfl⟩,rfl⟩
 rcases j with _|j
 ·exact absurd b (by simp [HC])
 rw [HC] at b
 refine AZ rfl<|Aa fun F m=>aD b rfl (fun n b=> ?_) (fun n b=> ?_)
 ·refine Ab<|m _ _ ?_
  refine Aa fun G p=>Ai<|Ad<|rn 1 rfl<|kC b fun g b=> ?_
  obtain⟨_,⟨d,h,rfl⟩,hat18⟩:=RdN.at (E:=Ad4) hl' (Dc g)
  refine rI (RdN.shp hl') g rfl<|NB (vA #[vS (l'[a.toNat]!.1),d,vI (l'[a.toNat]!.2.2.1),vI (l'[a.toNat]!.2.2.2.1),vI (l'[a.toNat]!.2.2.2.2.1),vI (l'[a.toNat]!.2.2.2.2.2)]) (vs:=[vS (l'[a.toNat]!.1),d,vI (l'[a.toNat]!.2.2.1),vI (l'[a.toNat]!.2.2.2.1),vI (l'[a.toNat]!.2.2.2.2.1),vI (l'[a.toNat]!.2.2.2.2.2)]) (a.toNat*6) 0 rfl rfl (fun o w z_=>At.mono z_.ro_cell hat18) rfl<|rA rfl fun k=>rn 1 rfl<|r_s (List.flatten [(Yo k (l'[a.toNat]!.1) d (l'[a.toNat]!.2.2.1) (l'[a.toNat]!.2.2.2.1) (l'[a.toNat]!.2.2.2.2.1) (l'[a.toNat]!.2.2.2.2.2)),c]) 0 _ _ _ _ _ (#[vS (l'[a.toNat]!.1),d,vI (l'[a.toNat]!.2.2.1),vI (l'[a.toNat]!.2.2.2.1),vI (l'[a.toNat]!.2.2.2.2.1),vI (l'[a.toNat]!.2.2.2.2.2)]) rfl rfl rfl rfl (.ofS rfl rfl (Ae rfl (Ae (Shp.one (Rd.shp h)) (Ae rfl (Ae rfl (Ae rfl (Ae rfl Bv))))))) rfl rfl<|Af<|Ag<|rn 3 rfl ?_
  refine rm 1 [0] rfl<|kB b fun q s b=>gV _ (BF (caps:=[]) rfl qr rfl) (fun o w z_=>ST N (l'[a.toNat]!.1) (l'[a.toNat]!.2.1) (l'[a.toNat]!.2.2.1) (l'[a.toNat]!.2.2.2.1) (l'[a.toNat]!.2.2.2.2.1) (l'[a.toNat]!.2.2.2.2.2) _ s z_.view d (z_.r h))<|kC b fun i b=>rI (Sl.shp f) i rfl<|Rb (Ls:=[(Yo k (l'[a.toNat]!.1) d (l'[a.toNat]!.2.2.1) (l'[a.toNat]!.2.2.2.1) (l'[a.toNat]!.2.2.2.2.1) (l'[a.toNat]!.2.2.2.2.2)),c]) 1 (En:=Aa3) (e[a.toNat]!) q (a.toNat) 0 rfl rfl rfl f (Dc i) rfl rfl rfl (IP rfl) rfl (fun u B=> ?_)
  refine Af<|p _ _ ?_
  refine Ag<|kC b fun v b=>rX v rfl<|rz rfl<|fg _ (Sub.pick [(Yo k (l'[a.toNat]!.1) d (l'[a.toNat]!.2.2.1) (l'[a.toNat]!.2.2.2.1) (l'[a.toNat]!.2.2.2.2.1) (l'[a.toNat]!.2.2.2.2.2)),u] [1] rfl) ?_
  exact⟨j+1,by omega,j,(e).set (a.toNat) q,(a+1),b,u,B,Ah rfl rfl,rfl⟩
 refine AI<|A _ _ ?_
 refine AZ rfl ?_
 cases b
 refine Bb (fun I=>Hw (v0:=z) f (EH (Sub.pick [c] [0] rfl)) rfl (EJ rfl))
def Qt(_:Nat)(s:List UInt8)(a:List UInt8):Option Int:=ck ((a).length=1) (some (Lib.index s a))
theorem gb(N s substr r)(a:Qt N s substr=some r):Gives prog 242 #[vS s,vS substr] (vI r):=by
 unfold Qt at a
 refine Av follows func242 rfl 8 rfl _ fz2 (fun b=> ?_)
 refine AZ rfl<|Ad<|rn 2 rfl<|kC a fun c a=>rc _ (cF lw) (kf s substr c)<|rz rfl ?_
 cases a
 exact aR eE1
def Ld(N:Nat)(s:List UInt8)(a:List UInt8):Option Bool:=(Qt N s a).bind fun b=>some (decide (b≥0))
theorem Ru(N s substr r)(a:Ld N s substr=some r):Gives prog 213 #[vS s,vS substr] (vB r):=by
 unfold Ld at a
 refine Av follows func213 rfl 9 rfl _ fz2 (fun b=> ?_)
 refine AZ rfl<|Ad<|rn 2 rfl<|kB a fun d c a=>rc _ (cF lF) (gb N s substr _ c)<|rz rfl ?_
 cases a
 exact aR eE1
def MS(N:Nat)(s:List UInt8):Option Bool:=(KJ N s).bind fun a=>if a=true then(Ld N s ([46]:List UInt8)).bind fun b=>some (!(b))else some false
theorem WT(N s r)(a:MS N s=some r):Gives prog 146 #[vS s] (vB r):=by
 unfold MS at a
 refine Av follows func146 rfl 10 rfl _ fz1 (fun d=> ?_)
 refine AZ rfl<|Aa fun h b=>Ag<|rn 1 rfl<|kB a fun g e a=>rc _ (cF Zn) (Re N s _ e)<|rn 1 rfl ?_
 rcases c:g with _|_
 ·replace a:=iB c a
  refine rz rfl<|b _ _ ?_
  cases a
  exact aR eE1
 replace a:=ifp c a
 refine rn 1 rfl<|r_y rfl<|kB a fun i f a=>rc _ (cF bS) (Ru N s ([46]:List UInt8) _ f)<|rz rfl<|b _ _ ?_
 cases a
 exact aR eE1
def If(_:Nat)(i:Int)(a:List (List UInt8×Int)):Option (List UInt8):=ck (0≤i∧i<(a.length:Int)) (some ((a[i.toNat]!).1))
theorem QF(N i f r)(g:If N i f=some r)(ro)(c:Nat)(a)(b:Rd Ab2 ro a f)(d:Blk ro c [a]):Does prog 243 #[vI i,vP c 0] ro [] (pV (vS r)):=by
 unfold If at g
 refine Al follows func243 rfl 9 rfl _ fz2 (fun h=> ?_)
 refine AZ rfl<|Ad<|Hr a (vs:=[a]) (o:=0) rfl rfl (AS d) rfl<|rn 1 rfl<|kC g fun e g=>rI (Rd.shp b) e rfl<|rF (Rd.shp b) (Be e) rfl<|rE (Aw b) e 0 rfl<|rz rfl ?_
 cases g
 exact aR eV1
def FV(N:Nat)(b:Int)(c:List (List UInt8×Int)):Nat→List (List UInt8)→Int→Option (List (List UInt8))
  |0,_,_=>none
  |f+1,d,a=>if a<b then(If N a c).bind fun e=>ck (0≤a∧a<(d.length:Int)) (ck (R64 (a+1)) ((FV N b c f) ((d).set (a.toNat) e) (a+1)))else some d
def LX(N:Nat)(a:Int)(b:List (List UInt8×Int)):Option (List (List UInt8)):=ck (0≤a∧a≤8796093022208) (FV N a b N (List.replicate a.toNat ([])) 0)
theorem We(N count f r)(b:LX N count f=some r)(ro)(a:Nat)(e)(k:Rd Ab2 ro e f)(i:Blk ro a [e]):Does prog 218 #[vI count,vF 243 #[] #[vP a 0]] ro [] (p1 (fun s_=>s_) 9 Aa3 r):=by
 unfold LX at b
 refine Al follows func218 rfl 21 rfl _ fz2 (fun y=> ?_)
 refine AZ rfl<|Ad<|rn 1 rfl<|kC b fun z b=>cB 8<|SC (Ls:=[]) 9 Aa3 ([]) count rfl rfl rfl rfl rfl rfl rfl rfl rfl rfl 8796093022208 rfl z (fun _ _ _ _ _=>Iff.rfl) (fun A D E=> ?_)
 refine rz rfl<|Aa fun H B=>AZ rfl<|Ai<|Bw _ (Sub.pick [D] [0] rfl)<|AH (fun tt ll nn=> ∃(m:Nat) (g:List (List UInt8)) (c:Int),(FV N count f m g c=some r)∧ ∃(d:List Bl),Sl 9 Aa3 A g d∧Is [(1,vF 243 #[] #[vP a 0]),(5,A),(9,vI count),(10,vI c)] (List.flatten [d]) tt ll∧nn=m+1) (N+1) ?_ ?_
 ·exact⟨N,(List.replicate count.toNat ([])),0,b,D,E,Ah rfl rfl,rfl⟩
 clear b;rintro t l _ ⟨m,g,c,b,d,h,⟨⟨T,rfl⟩,rfl⟩,rfl⟩
 rcases m with _|m
 ·exact absurd b (by simp [FV])
 rw [FV] at b
 refine AZ rfl<|Aa fun F n=>aD b rfl (fun p b=> ?_) (fun p b=> ?_)
 ·refine Ab<|n _ _ ?_
  refine Aa fun G q=>Ai<|AZ rfl<|Ag<|rn 4 rfl<|kB b fun s u b=>gV _ (BF (caps:=[vP a 0]) rfl lE rfl) (fun o w z_=>QF N c f _ u z_.view a e (z_.r k) (AS i o w z_))<|kC b fun j b=>rI (Sl.shp h) j rfl<|Rb (Ls:=[d]) 0 (En:=Aa3) (g[c.toNat]!) s (c.toNat) 0 rfl rfl rfl h (Dc j) rfl rfl rfl (IP rfl) rfl (fun v C=> ?_)
  refine Af<|q _ _ ?_
  refine Ag<|kC b fun x b=>rX x rfl<|rz rfl<|fg _ (Sub.pick [v] [0] rfl) ?_
  exact⟨m+1,by omega,m,(g).set (c.toNat) s,(c+1),b,v,C,Ah rfl rfl,rfl⟩
 refine AI<|B _ _ ?_
 refine AZ rfl ?_
 cases b
 refine Bb (fun I=>Hw (v0:=A) h (EH (Sub.pick [d] [0] rfl)) rfl (EJ rfl))
def JA(N:Nat)(a:List (List UInt8×Int)):Option (List (List UInt8)):=(LX N (a.length:Int) a).bind fun b=>some b
theorem Ui(N l' r)(a:JA N l'=some r)(ro l'v)(hl':Rd Ab2 ro l'v l'):Does prog 214 #[l'v] ro [] (p1 (fun s_=>s_) 9 Aa3 r):=by
 unfold JA at a
 refine Al follows func214 rfl 7 rfl _ fz1 (fun b=> ?_)
 refine Ad<|r_a (24, #[l'v]) rfl rfl (NA rfl (Rd.shp hl')) (fun c=> ?_) (.inr rfl)
 refine rz rfl<|Ad<|rm 1 [0] rfl<|rL (Rd.shp hl') rfl<|r_W (vF 243 #[] #[vP c 0]) rfl (IA rfl)<|kB a fun h d a=>gS (Ls:=[(fk c l'v)]) (cF bQ) (fun o w z_=>We N (l'.length:Int) l' _ d z_.view c l'v ((Aw hl') o w z_) (Cw 0 rfl rfl o w z_)) (fun e f g=> ?_)
 refine rz rfl ?_
 cases a
 refine Bb (fun i=>Hw (v0:=e) g (EH (Sub.pick [(fk c l'v),f] [1] rfl)) rfl (EJ rfl))
def JR(_:Nat):Option Unit:=some ()
theorem Sw(N r)(b:JR N=some r)(ro:Ro)(bb:Nat):Does prog 253 #[vP bb 0] ro (As bb (Value.pointer none) nS) (pO (As bb (Value.pointer none) nS) (oE (vT #[]) [(As bb (vP bb 0) nS)])):=by
 unfold JR at b
 refine Eg follows func253 rfl 20 rfl _ fz1 (fun _ _ h_ _=>h_) (fun a=> ?_)
 refine AY [0] rfl<|MP rfl ?_
 refine Ag<|rn 2 rfl<|cA 9 (p:=(pUp (fun v_ U_=>v_=vP bb 0∧U_=(As bb (Value.pointer none) nS))))<|gr (Ls:=[(As bb (Value.pointer none) nS)]) (vP bb 0) 0 rfl rfl rfl rfl rfl (eK (TB:=348) (cs:= #[Value.pointer none,nS]) rfl rfl rfl rfl rfl rfl rfl (List.mem_singleton.2 rfl)) (fun _ _ _ _ _=>Iff.rfl)<|cA 10 (p:=(pUp (fun v_ U_=>v_=vP bb 0∧U_=(As bb (Value.pointer none) nS)))) ?_
 refine gr (Ls:=[(As bb (Value.pointer none) nS)]) (vP bb 0) 0 rfl rfl rfl rfl rfl (fun w_ _=>XR (args:= #[vP bb 0]) (e:=Extern.AbiNoEscape.same) (w':=w_) (Zh rfl) func261 (by kernel_rfl) (by kernel_rfl) (by kernel_rfl) (by kernel_rfl) rfl) (fun _ _ _ _ _=>Iff.rfl)<|cA 11 (p:=(pUp (fun v_ U_=>v_=vP bb 0∧U_=(As bb (Value.pointer none) nS))))<|gr (Ls:=[(As bb (Value.pointer none) nS)]) (vP bb 0) 0 rfl rfl rfl rfl rfl (Xc (TB:=348) (cs:= #[Value.pointer none,nS]) 2 rfl rfl rfl rfl rfl (List.mem_singleton.2 rfl) rfl (by kernel_rfl)) (fun _ _ _ _ _=>Iff.rfl)<|rn 2 rfl ?_
 refine ry [0] rfl ?_
 cases b
 refine Vy (v0:=vT #[]) (O:=[(As bb (vP bb 0) nS)]) rfl (Sub.pick [(As bb (vP bb 0) nS)] [0] rfl) ⟨rfl,rfl⟩
def NG(_:Nat)(n:Int):Option (List UInt8):=ck (R64 (0+n)) (ck (0≤(0+n)∧(0+n)≤140737488355328) (some ((([]:List UInt8)).take (([]:List UInt8)).length++(([]:List UInt8)).drop (([]:List UInt8)).length)))
theorem ZR(N n r)(c:NG N n=some r)(ro:Ro)(bb:Nat):Does prog 254 #[vP bb 0,vI n] ro (As bb (vP bb 0) nS) (pO (As bb (vP bb 0) nS) (oS 5 Ab9 r fun s_0=>(oE (vT #[]) [(As bb (vP bb 0) s_0)]))):=by
 unfold NG at c
 refine Eg follows func254 rfl 30 rfl _ fz2 (fun _ _ h_ _=>h_) (fun d=> ?_)
 refine Aa fun k f=>BE [(some 13,false)] (conG prog [(13,fun _ _ v_ L_ U_=>(oT 5 ((0+n)).toNat) v_ L_ U_)]) [] (by decide+kernel) (fun l=>AQ)<|rm 4 [0] rfl<|r_W (vI 0) rfl (fA rfl rfl rfl)<|r_X (vI 0) rfl (KS rfl (by decide) (by decide)) rfl<|rn 1 rfl<|kC c fun g c=>rX g rfl<|kC c fun h c=>uu (Ls:=[(As bb (vP bb 0) nS)]) (ps:= #[3]) (t:=346) 5 (0+n) rfl rfl rfl (Zh rfl) func262 (by kernel_rfl) (by kernel_rfl) (by kernel_rfl) (by kernel_rfl) rfl h (fun _ _ _ _ _=>Iff.rfl) (fun a i xs4 _ j=> ?_)
 refine rm 4 [0] rfl<|rL (.inl ⟨rfl,rfl⟩) rfl<|r_W (FG a 0 ((((([]:List UInt8)).length:Int)).toNat) 1) rfl (Ef (Iz rfl rfl rfl rfl (Sl.shp j) (by exact⟨by decide,Int.natCast_nonneg _⟩)))<|rz rfl<|f _ _ ?_
 refine Ad<|rm 5 [0] rfl<|cA 25 (p:=(pUp (fun v_ U_=>v_= .int .i64 ((min (([]:List UInt8)).length (([]:List UInt8)).length:Nat):Int)∧Sl 5 Ab9 (FG a 0 ((((([]:List UInt8)).length:Int)).toNat) 1) ((([]:List UInt8)).take (([]:List UInt8)).length++(([]:List UInt8)).drop (([]:List UInt8)).length) U_∧U_.map (·.1)=i.map (·.1)))) ?_
 refine rW (Ls:=[(As bb (vP bb 0) nS),i]) 1 (En:=Ab9) (ys:=([]:List UInt8)) rfl rfl rfl rfl rfl rfl (Sl.take00 j) (.inl ⟨rfl,rfl⟩) (fun _ _ _=> .inl ⟨rfl,rfl⟩) rfl rfl rfl rfl (fun _ _ _ _ _=>Iff.rfl) (fun e b=> ?_)
 refine Af<|Ag<|rn 4 rfl<|r_s (List.flatten [(As bb (vP bb 0) (FG a 0 ((((([]:List UInt8)).length:Int)).toNat) 1)),e]) 0 _ _ _ _ _ (#[vP bb 0,FG a 0 ((((([]:List UInt8)).length:Int)).toNat) 1]) rfl rfl rfl (Ga rfl (Sl.shp b)) (.ofS rfl rfl (Ae (Shp.one (Sl.shp b)) Bv)) rfl rfl<|Af ?_
 cases c
 refine Vy (v0:=vT #[]) (O:=[e,(As bb (vP bb 0) (FG a 0 ((((([]:List UInt8)).length:Int)).toNat) 1))]) rfl (Sub.pick [(As bb (vP bb 0) (FG a 0 ((((([]:List UInt8)).length:Int)).toNat) 1)),e] [1,0] rfl) ⟨FG a 0 ((((([]:List UInt8)).length:Int)).toNat) 1,e,_,b,⟨rfl,rfl⟩,rfl⟩
def MJ(N:Nat)(n:Int):Option (List UInt8):=ck ((R64 (0 - ((([]:List UInt8)).length:Int)))) (if((0 - ((([]:List UInt8)).length:Int)):Int)<n then(NG N n).bind fun a=>some a else some ([]:List UInt8))
def Mj(N:Nat)(n:Int):Option (List UInt8):=(JR N).bind fun a=>if n<0 then none else MJ N n 
theorem ZS(N n r)(a:Mj N n=some r)(ro:Ro)(bb:Nat):Does prog 244 #[vP bb 0,vI n] ro (As bb (Value.pointer none) nS) (pO (As bb (Value.pointer none) nS) (oS 5 Ab9 r fun s_0=>(oE (vT #[]) [(As bb (vP bb 0) s_0)]))):=by
 unfold Mj at a
 refine Eg follows func244 rfl 25 rfl _ fz2 (fun _ _ h_ _=>h_) (fun e=> ?_)
 refine Ad<|rn 1 rfl<|kB a fun m f a=>gM (Ls:=[(As bb (Value.pointer none) nS)]) (FL:=[(As bb (Value.pointer none) nS)]) [0] (cF VH) (fun o w hn_ z_=>Sw N  _ f _ bb) ?_
 rintro _ _ ⟨rfl,rfl⟩
 refine CZ (Ls:=[(As bb (vP bb 0) nS)]) (Ls':=[(As bb (vP bb 0) nS)]) [0] rfl rfl<|Af<|Cb (fun tt ll=>(MJ N n  =some r)∧Is [(0,vP bb 0),(1,vI n)] (As bb (vP bb 0) nS) tt ll) ?_ ?_
 ·refine AZ rfl<|aD a rfl (fun c a=> ?_) (fun c a=> ?_)
  ·refine Ag<|rn 1 rfl ?_
   cases a
  refine Ab<|fg _ (Sub.of (suK _ suN)) ?_
  exact⟨a,Ah rfl rfl⟩
 clear a;rintro t l ⟨a,⟨T,rfl⟩,rfl⟩
 unfold MJ at a
 refine Aa fun p g=>IE [] (by decide+kernel) (fun q=>AQ)<|rm 4 [0] rfl<|r_W (vI 0) rfl (fA rfl rfl rfl)<|rm 4 [0] rfl<|rL (.inl ⟨rfl,rfl⟩) rfl<|kC a fun h a=>rX h rfl<|rz rfl<|g _ _ ?_
 refine aD a rfl (fun i a=> ?_) (fun i a=> ?_)
 ·refine Ag<|rn 2 rfl<|kB a fun s j a=>gM (Ls:=[(As bb (vP bb 0) nS)]) (FL:=[(As bb (vP bb 0) nS)]) [0] (cF lv) (fun o w hn_ z_=>ZR N n _ j _ bb) ?_
  rintro _ _ ⟨d,b,_,k,⟨rfl,rfl⟩,rfl⟩
  refine CZ (Ls:=[b,(As bb (vP bb 0) d)]) (Ls':=[(As bb (vP bb 0) d),b]) [1,0] rfl rfl<|Af ?_
  cases a
  refine Vy (v0:=vT #[]) (O:=[b,(As bb (vP bb 0) d)]) rfl (Sub.pick [(As bb (vP bb 0) d),b] [1,0] rfl) ⟨d,b,_,k,⟨rfl,rfl⟩,rfl⟩
 refine Ab ?_
 cases a
 refine Vy (v0:=vT #[]) (O:=[[],(As bb (vP bb 0) nS)]) rfl (Sub.pickE (Ls:=[(As bb (vP bb 0) nS),[]]) (Ls0:=[(As bb (vP bb 0) nS)]) rfl [1,0] rfl) ⟨nS,[],_,Sl.nil,⟨rfl,rfl⟩,rfl⟩
def HO(N:Nat)(c:Int)(b:Bool):Option Int:=if b=true then some (IntKind.i32.wrap (c+32))else(Cm N c 1024 1039).bind fun a=>if a=true then some (IntKind.i32.wrap (c+80))else if c=962 then some 963 else some c
def Mm(N:Nat)(c:Int):Option Int:=(Jf N c).bind fun f=>if f=true then(Cm N c 65 90).bind fun b=>if b=true then HO N c b else(Cm N c 192 222).bind fun a=>if a=true then HO N c a else(Cm N c 913 937).bind fun d=>if d=true then HO N c d else(Cm N c 1040 1071).bind fun e=>HO N c e else some c
theorem ai(N c r)(a:Mm N c=some r):Gives prog 246 #[Value.int .i32 c] (Value.int .i32 r):=by
 unfold Mm at a
 refine Av follows func246 rfl 28 rfl _ fz1 (fun p=> ?_)
 refine AZ rfl<|Aa fun A q=>Ai<|Ad<|rn 1 rfl<|kB a fun B s a=>rc _ (cF bT) (QP N c _ s)<|rz rfl<|Bf _ rfl (fun b=> ?_) (fun b=> ?_)
 ·replace a:=ifn (Bool.eq_false_iff.1 (Da b)) a
  refine AZ rfl ?_
  cases a
  exact aR eE1
 replace a:=ifp (Db b) a
 refine Cb (fun tt ll=> ∃(d:Bool),(HO N c d=some r)∧Is [(0,Value.int .i32 c),(8,vB d)] [] tt ll) ?_ ?_
 ·refine Ad<|rn 1 rfl<|kB a fun u e a=>rc _ (cF JN) (ES N c 65 90 _ e)<|rz rfl<|aB a rfl (fun f a=> ?_) (fun f a=> ?_)
  ·refine Ab<|fg _ (Sub.of suN) ?_
   exact⟨u,a,Ah rfl rfl⟩
  refine Ad<|rn 1 rfl<|kB a fun v g a=>rc _ (cF JN) (ES N c 192 222 _ g)<|rz rfl<|aB a rfl (fun h a=> ?_) (fun h a=> ?_)
  ·refine Ab<|fg _ (Sub.of suN) ?_
   exact⟨v,a,Ah rfl rfl⟩
  refine Ad<|rn 1 rfl<|kB a fun w i a=>rc _ (cF JN) (ES N c 913 937 _ i)<|rz rfl<|aB a rfl (fun j a=> ?_) (fun j a=> ?_)
  ·refine Ab<|fg _ (Sub.of suN) ?_
   exact⟨w,a,Ah rfl rfl⟩
  refine Ag<|rn 1 rfl<|kB a fun x k a=>rc _ (cF JN) (ES N c 1040 1071 _ k)<|rz rfl<|fg _ (Sub.of suN) ?_
  exact⟨x,a,Ah rfl rfl⟩
 clear a;rintro t l ⟨d,a,⟨T,rfl⟩,rfl⟩
 unfold HO at a
 refine aB a rfl (fun y a=> ?_) (fun y a=> ?_)
 ·refine AZ rfl ?_
  cases a
  exact aR eE1
 refine Ad<|rn 1 rfl<|kB a fun z m a=>rc _ (cF JN) (ES N c 1024 1039 _ m)<|rz rfl<|aB a rfl (fun n a=> ?_) (fun n a=> ?_)
 ·refine AZ rfl ?_
  cases a
  exact aR eE1
 refine AZ rfl<|aE a rfl (fun o a=> ?_) (fun o a=> ?_)
 ·refine AZ rfl ?_
  cases a
  exact aR eE1
 refine Ab<|q _ _ ?_
 refine AZ rfl ?_
 cases a
 exact aR eE1
def LK(_:Nat)(b:List UInt8):Option (List UInt8):=some b
theorem Sv(N b r)(c:LK N b=some r)(ro:Ro)(bb:Nat)(bv:Value)(Sb:List Bl)(hb:Sl 5 Ab9 bv b Sb):Does prog 253 #[vP bb 0] ro (List.flatten [(As bb (Value.pointer none) bv),Sb]) (pO (List.flatten [(As bb (Value.pointer none) bv),Sb]) (oI 5 Ab9 bv r (oE (vT #[]) [(As bb (vP bb 0) bv)]))):=by
 unfold LK at c
 refine Eg follows func253 rfl 20 rfl _ fz1 (fun _ _ h_ _=>h_) (fun a=> ?_)
 refine AY [0] rfl<|MP rfl ?_
 refine Ag<|rn 2 rfl<|cA 9 (p:=(pUp (fun v_ U_=>v_=vP bb 0∧U_=(As bb (Value.pointer none) bv))))<|gr (Ls:=[(As bb (Value.pointer none) bv),Sb]) (vP bb 0) 0 rfl rfl rfl rfl rfl (eK (TB:=348) (cs:= #[Value.pointer none,bv]) rfl rfl rfl rfl rfl rfl rfl (List.mem_singleton.2 rfl)) (fun _ _ _ _ _=>Iff.rfl)<|cA 10 (p:=(pUp (fun v_ U_=>v_=vP bb 0∧U_=(As bb (Value.pointer none) bv)))) ?_
 refine gr (Ls:=[(As bb (Value.pointer none) bv),Sb]) (vP bb 0) 0 rfl rfl rfl rfl rfl (fun w_ _=>XR (args:= #[vP bb 0]) (e:=Extern.AbiNoEscape.same) (w':=w_) (Zh rfl) func261 (by kernel_rfl) (by kernel_rfl) (by kernel_rfl) (by kernel_rfl) rfl) (fun _ _ _ _ _=>Iff.rfl)<|cA 11 (p:=(pUp (fun v_ U_=>v_=vP bb 0∧U_=(As bb (Value.pointer none) bv))))<|gr (Ls:=[(As bb (Value.pointer none) bv),Sb]) (vP bb 0) 0 rfl rfl rfl rfl rfl (Xc (TB:=348) (cs:= #[Value.pointer none,bv]) 2 rfl rfl rfl rfl rfl (List.mem_singleton.2 rfl) rfl (by kernel_rfl)) (fun _ _ _ _ _=>Iff.rfl)<|rn 2 rfl ?_
 refine ry [0] rfl ?_
 cases c
 refine Vy (v0:=vT #[]) (O:=[Sb,(As bb (vP bb 0) bv)]) rfl (Sub.pick [(As bb (vP bb 0) bv),Sb] [1,0] rfl) ⟨Sb,_,hb,⟨rfl,rfl⟩,rfl⟩
def iw(p:List UInt8)(a:Int)(b:Bool):Option (List UInt8):=if b=true then ck ((0:Int)≤((18#64).toNat:Int)) (ck ((0:Int)≤((12#64).toNat:Int)) (ck ((0:Int)≤((6#64).toNat:Int)) (ck ((p).length+([((240:UInt8)|||(Br (ET a 18))),((128:UInt8)|||((Br (ET a 12))&&&(63:UInt8))),((128:UInt8)|||((Br (ET a 6))&&&(63:UInt8))),((128:UInt8)|||((Br a)&&&(63:UInt8)))]).length≤140737488355328) (some ((p++([((240:UInt8)|||(Br (ET a 18))),((128:UInt8)|||((Br (ET a 12))&&&(63:UInt8))),((128:UInt8)|||((Br (ET a 6))&&&(63:UInt8))),((128:UInt8)|||((Br a)&&&(63:UInt8)))])))))))else ck ((p).length+([(239:UInt8),(191:UInt8),(189:UInt8)]).length≤140737488355328) (some (p++([(239:UInt8),(191:UInt8),(189:UInt8)])))
def ZG(p:List UInt8)(a:Int)(b:Bool):Option (List UInt8):=if b=true then ck ((0:Int)≤((12#64).toNat:Int)) (ck ((0:Int)≤((6#64).toNat:Int)) (ck ((p).length+([((224:UInt8)|||(Br (ET a 12))),((128:UInt8)|||((Br (ET a 6))&&&(63:UInt8))),((128:UInt8)|||((Br a)&&&(63:UInt8)))]).length≤140737488355328) (some ((p++([((224:UInt8)|||(Br (ET a 12))),((128:UInt8)|||((Br (ET a 6))&&&(63:UInt8))),((128:UInt8)|||((Br a)&&&(63:UInt8)))]))))))else if((((KO a).toNat:Nat):Int):Int)>65535 then iw p a (decide (((((KO a).toNat:Nat):Int):Int)≤1114111))else iw p a false
def uNm(_:Nat)(p:List UInt8)(a:Int):Option (List UInt8):=if((((KO a).toNat:Nat):Int):Int)≤2047 then ck ((0:Int)≤((6#64).toNat:Int)) (ck ((p).length+([((192:UInt8)|||(Br (ET a 6))),((128:UInt8)|||((Br a)&&&(63:UInt8)))]).length≤140737488355328) (some ((p++([((192:UInt8)|||(Br (ET a 6))),((128:UInt8)|||((Br a)&&&(63:UInt8)))])))))else if((((KO a).toNat:Nat):Int):Int)<55296 then ZG p a (decide (((((KO a).toNat:Nat):Int):Int)<55296))else if(57343:Int)<(((KO a).toNat:Nat):Int)then ZG p a (decide (((((KO a).toNat:Nat):Int):Int)≤65535))else ZG p a false
theorem uNg(N p r' r)(a:uNm N p r'=some r)(ro:Ro)(pv:Value)(Sp:List Bl)(hp:Sl 5 Ab9 pv p Sp):Does prog 263 #[pv,Value.int .i32 r'] ro (List.flatten [Sp]) (pO (List.flatten [Sp]) (oS 5 Ab9 r fun s_0=>(oE s_0 []))):=by
 unfold uNm at a
 refine Eg follows func263 rfl 78 rfl _ fz2 (fun _ _ h_ _=>h_) (fun F=> ?_)
 refine AZ rfl<|Ad<|rn 1 rfl<|r_w (Value.int .u32 (((KO r').toNat:Nat):Int)) rfl rfl (cJ r') (fun _=>rfl)<|rz rfl<|Ai<|AZ rfl<|aD a rfl (fun G a=> ?_) (fun G a=> ?_)
 ·refine Ad<|rn 2 rfl<|kC a fun Y a=>r_W (Value.int .i32 (ET r' 6)) rfl (Qz (x:=r') 6 rfl rfl)<|r_w (Value.int .u8 ((((Br (ET r' 6)).toNat:Nat):Int))) rfl rfl (LV (ET r' 6)) (fun _=>rfl)<|r_X (Value.int .u8 (((((192:UInt8)|||(Br (ET r' 6))).toNat:Nat):Int))) rfl (ZD (192:UInt8) (Br (ET r' 6))) rfl<|rn 1 rfl<|r_w (Value.int .u8 (((Br r').toNat:Nat):Int)) rfl rfl (LV r') (fun _=>rfl)<|r_X (Value.int .u8 (((((Br r')&&&(63:UInt8)).toNat:Nat):Int))) rfl (XK (Br r') (63:UInt8)) rfl ?_
  refine r_X (Value.int .u8 (((((128:UInt8)|||((Br r')&&&(63:UInt8))).toNat:Nat):Int))) rfl (ZD (128:UInt8) ((Br r')&&&(63:UInt8))) rfl<|gB (Ls:=[Sp]) 5 encY [((192:UInt8)|||(Br (ET r' 6))),((128:UInt8)|||((Br r')&&&(63:UInt8)))] (fun s7 H Z=> ?_)
  refine kC a fun d a=>cC 24<|Li (cs0:=[]) (Ls:=[Sp,H]) 0 (En:=Ab9) rfl rfl rfl rfl rfl hp rfl (fun o w z_=>OE ((Ax Z (Ak (Ls:=[Sp,H]) (k:=1) rfl rfl)) o w z_)) rfl rfl rfl rfl rfl (LE d rfl) (LD d rfl) rfl (fun y h I=> ?_)
  refine rz rfl ?_
  cases a
  refine Bb (fun J=>GP (v0:=y) (O:=[h]) (EJ rfl) (Sub.pick [h,H] [0] rfl) ⟨y,h,_,I,⟨rfl,rfl⟩,rfl⟩)
 refine Cb (fun tt ll=> ∃(i:Bool),(ZG p r' i=some r)∧Is [(0,pv),(1,Value.int .i32 r'),(5,Value.int .u32 (((KO r').toNat:Nat):Int)),(25,vB i)] (List.flatten [Sp]) tt ll) ?_ ?_
 ·refine AZ rfl<|aD a rfl (fun z a=> ?_) (fun z a=> ?_)
  ·refine Ab<|fg _ (Sub.pick [Sp] [0] rfl) ?_
   exact⟨decide (((((KO r').toNat:Nat):Int):Int)<55296),a,Ah rfl rfl⟩
  refine Ag<|rn 3 rfl ?_
  rcases b:(decide ((57343:Int)<(((KO r').toNat:Nat):Int)))with _|_
  ·replace a:=iF b a
   refine rz rfl<|fg _ (Sub.pick [Sp] [0] rfl) ?_
   exact⟨false,a,Ah (by first|rfl|(simp only [b];done)|(simp only [b];rfl)|(simp only [Bo];rfl)) rfl⟩
  replace a:=iD b a
  refine rz rfl<|fg _ (Sub.pick [Sp] [0] rfl) ?_
  exact⟨decide (((((KO r').toNat:Nat):Int):Int)≤65535),a,Ah (by first|rfl|(simp only [b];done)|(simp only [b];rfl)|(simp only [Bo];rfl)) rfl⟩
 clear a;rintro t l ⟨i,a,⟨T,rfl⟩,rfl⟩
 unfold ZG at a
 refine aB a rfl (fun A a=> ?_) (fun A a=> ?_)
 ·refine Ad<|rn 2 rfl<|kC a fun S a=>r_W (Value.int .i32 (ET r' 12)) rfl (Qz (x:=r') 12 rfl rfl)<|r_w (Value.int .u8 ((((Br (ET r' 12)).toNat:Nat):Int))) rfl rfl (LV (ET r' 12)) (fun _=>rfl)<|r_X (Value.int .u8 (((((224:UInt8)|||(Br (ET r' 12))).toNat:Nat):Int))) rfl (ZD (224:UInt8) (Br (ET r' 12))) rfl<|rn 1 rfl<|kC a fun U a=>r_W (Value.int .i32 (ET r' 6)) rfl (Qz (x:=r') 6 rfl rfl)<|r_w (Value.int .u8 ((((Br (ET r' 6)).toNat:Nat):Int))) rfl rfl (LV (ET r' 6)) (fun _=>rfl)<|r_X (Value.int .u8 (((((Br (ET r' 6))&&&(63:UInt8)).toNat:Nat):Int))) rfl (XK (Br (ET r' 6)) (63:UInt8)) rfl<|r_X (Value.int .u8 (((((128:UInt8)|||((Br (ET r' 6))&&&(63:UInt8))).toNat:Nat):Int))) rfl (ZD (128:UInt8) ((Br (ET r' 6))&&&(63:UInt8))) rfl<|rn 1 rfl<|r_w (Value.int .u8 (((Br r').toNat:Nat):Int)) rfl rfl (LV r') (fun _=>rfl) ?_
  refine r_X (Value.int .u8 (((((Br r')&&&(63:UInt8)).toNat:Nat):Int))) rfl (XK (Br r') (63:UInt8)) rfl<|r_X (Value.int .u8 (((((128:UInt8)|||((Br r')&&&(63:UInt8))).toNat:Nat):Int))) rfl (ZD (128:UInt8) ((Br r')&&&(63:UInt8))) rfl<|cD 48 ?_
  refine Kq (cs0:=[]) (Ls:=[Sp]) 5 encY [((224:UInt8)|||(Br (ET r' 12))),((128:UInt8)|||((Br (ET r' 6))&&&(63:UInt8))),((128:UInt8)|||((Br r')&&&(63:UInt8)))] [Value.int .u8 (((((224:UInt8)|||(Br (ET r' 12))).toNat:Nat):Int)),Value.int .u8 (((((128:UInt8)|||((Br (ET r' 6))&&&(63:UInt8))).toNat:Nat):Int)),Value.int .u8 (((((128:UInt8)|||((Br r')&&&(63:UInt8))).toNat:Nat):Int))] [Value.int .u8 0,Value.int .u8 0,Value.int .u8 0] rfl rfl rfl rfl rfl rfl rfl (by kernel_rfl) (by kernel_rfl) rfl rfl rfl (fun aa j K=> ?_)
  refine kC a fun e a=>cC 49<|Li (cs0:=[]) (Ls:=[Sp,j]) 0 (En:=Ab9) rfl rfl rfl rfl rfl hp rfl (fun o w z_=>OE ((Ax K (Ak (Ls:=[Sp,j]) (k:=1) rfl rfl)) o w z_)) rfl rfl rfl rfl rfl (LE e rfl) (LD e rfl) rfl (fun B m L=> ?_)
  refine rz rfl ?_
  cases a
  refine Bb (fun J=>GP (v0:=B) (O:=[m]) (EJ rfl) (Sub.pick [m,j] [0] rfl) ⟨B,m,_,L,⟨rfl,rfl⟩,rfl⟩)
 refine Cb (fun tt ll=> ∃(n:Bool),(iw p r' n=some r)∧Is [(0,pv),(1,Value.int .i32 r'),(50,vB n)] (List.flatten [Sp]) tt ll) ?_ ?_
 ·refine Ag<|rn 3 rfl ?_
  rcases c:(decide (((((KO r').toNat:Nat):Int):Int)>65535))with _|_
  ·replace a:=iF c a
   refine rz rfl<|fg _ (Sub.pick [Sp] [0] rfl) ?_
   exact⟨false,a,Ah (by first|rfl|(simp only [c];done)|(simp only [c];rfl)|(simp only [Bo];rfl)) rfl⟩
  replace a:=iD c a
  refine rz rfl<|fg _ (Sub.pick [Sp] [0] rfl) ?_
  exact⟨decide (((((KO r').toNat:Nat):Int):Int)≤1114111),a,Ah (by first|rfl|(simp only [c];done)|(simp only [c];rfl)|(simp only [Bo];rfl)) rfl⟩
 clear a;rintro t l ⟨n,a,⟨T,rfl⟩,rfl⟩
 unfold iw at a
 refine aB a rfl (fun C a=> ?_) (fun C a=> ?_)
 ·refine Ad<|rn 2 rfl<|kC a fun V a=>r_W (Value.int .i32 (ET r' 18)) rfl (Qz (x:=r') 18 rfl rfl)<|r_w (Value.int .u8 ((((Br (ET r' 18)).toNat:Nat):Int))) rfl rfl (LV (ET r' 18)) (fun _=>rfl)<|r_X (Value.int .u8 (((((240:UInt8)|||(Br (ET r' 18))).toNat:Nat):Int))) rfl (ZD (240:UInt8) (Br (ET r' 18))) rfl<|rn 1 rfl<|kC a fun W a=>r_W (Value.int .i32 (ET r' 12)) rfl (Qz (x:=r') 12 rfl rfl)<|r_w (Value.int .u8 ((((Br (ET r' 12)).toNat:Nat):Int))) rfl rfl (LV (ET r' 12)) (fun _=>rfl)<|r_X (Value.int .u8 (((((Br (ET r' 12))&&&(63:UInt8)).toNat:Nat):Int))) rfl (XK (Br (ET r' 12)) (63:UInt8)) rfl<|r_X (Value.int .u8 (((((128:UInt8)|||((Br (ET r' 12))&&&(63:UInt8))).toNat:Nat):Int))) rfl (ZD (128:UInt8) ((Br (ET r' 12))&&&(63:UInt8))) rfl<|rn 1 rfl<|kC a fun X a=>r_W (Value.int .i32 (ET r' 6)) rfl (Qz (x:=r') 6 rfl rfl)<|r_w (Value.int .u8 ((((Br (ET r' 6)).toNat:Nat):Int))) rfl rfl (LV (ET r' 6)) (fun _=>rfl)<|r_X (Value.int .u8 (((((Br (ET r' 6))&&&(63:UInt8)).toNat:Nat):Int))) rfl (XK (Br (ET r' 6)) (63:UInt8)) rfl<|r_X (Value.int .u8 (((((128:UInt8)|||((Br (ET r' 6))&&&(63:UInt8))).toNat:Nat):Int))) rfl (ZD (128:UInt8) ((Br (ET r' 6))&&&(63:UInt8))) rfl<|rn 1 rfl<|r_w (Value.int .u8 (((Br r').toNat:Nat):Int)) rfl rfl (LV r') (fun _=>rfl) ?_
  refine r_X (Value.int .u8 (((((Br r')&&&(63:UInt8)).toNat:Nat):Int))) rfl (XK (Br r') (63:UInt8)) rfl<|r_X (Value.int .u8 (((((128:UInt8)|||((Br r')&&&(63:UInt8))).toNat:Nat):Int))) rfl (ZD (128:UInt8) ((Br r')&&&(63:UInt8))) rfl<|cD 76 ?_
  refine Kq (cs0:=[]) (Ls:=[Sp]) 5 encY [((240:UInt8)|||(Br (ET r' 18))),((128:UInt8)|||((Br (ET r' 12))&&&(63:UInt8))),((128:UInt8)|||((Br (ET r' 6))&&&(63:UInt8))),((128:UInt8)|||((Br r')&&&(63:UInt8)))] [Value.int .u8 (((((240:UInt8)|||(Br (ET r' 18))).toNat:Nat):Int)),Value.int .u8 (((((128:UInt8)|||((Br (ET r' 12))&&&(63:UInt8))).toNat:Nat):Int)),Value.int .u8 (((((128:UInt8)|||((Br (ET r' 6))&&&(63:UInt8))).toNat:Nat):Int)),Value.int .u8 (((((128:UInt8)|||((Br r')&&&(63:UInt8))).toNat:Nat):Int))] [Value.int .u8 0,Value.int .u8 0,Value.int .u8 0,Value.int .u8 0] rfl rfl rfl rfl rfl rfl rfl (by kernel_rfl) (by kernel_rfl) rfl rfl rfl (fun ab q M=> ?_)
  refine kC a fun f a=>cC 77<|Li (cs0:=[]) (Ls:=[Sp,q]) 0 (En:=Ab9) rfl rfl rfl rfl rfl hp rfl (fun o w z_=>OE ((Ax M (Ak (Ls:=[Sp,q]) (k:=1) rfl rfl)) o w z_)) rfl rfl rfl rfl rfl (LE f rfl) (LD f rfl) rfl (fun D s P=> ?_)
  refine rz rfl ?_
  cases a
  refine Bb (fun J=>GP (v0:=D) (O:=[s]) (EJ rfl) (Sub.pick [s,q] [0] rfl) ⟨D,s,_,P,⟨rfl,rfl⟩,rfl⟩)
 refine Ad<|rn 1 rfl<|gB (Ls:=[Sp]) 5 encY [(239:UInt8),(191:UInt8),(189:UInt8)] (fun ac u Q=> ?_)
 refine kC a fun g a=>cC 10<|Li (cs0:=[]) (Ls:=[Sp,u]) 0 (En:=Ab9) rfl rfl rfl rfl rfl hp rfl (fun o w z_=>OE ((Ax Q (Ak (Ls:=[Sp,u]) (k:=1) rfl rfl)) o w z_)) rfl rfl rfl rfl rfl (LE g rfl) (LD g rfl) rfl (fun E v R=> ?_)
 refine rz rfl ?_
 cases a
 refine Bb (fun J=>GP (v0:=E) (O:=[v]) (EJ rfl) (Sub.pick [v,u] [0] rfl) ⟨E,v,_,R,⟨rfl,rfl⟩,rfl⟩)
def So(N:Nat)(p:List UInt8)(a:Int):Option (List UInt8):=if((((KO a).toNat:Nat):Int):Int)≤127 then ck ((p).length+([(Br a)]).length≤140737488355328) (some (p++([(Br a)])))else(uNm N p a).bind fun b=>some b
theorem iy(N p r' r)(b:So N p r'=some r)(ro:Ro)(pv:Value)(Sp:List Bl)(hp:Sl 5 Ab9 pv p Sp):Does prog 255 #[pv,Value.int .i32 r'] ro (List.flatten [Sp]) (pO (List.flatten [Sp]) (oS 5 Ab9 r fun s_0=>(oE s_0 []))):=by
 unfold So at b
 refine Eg follows func255 rfl 16 rfl _ fz2 (fun _ _ h_ _=>h_) (fun h=> ?_)
 refine AZ rfl<|Aa fun u i=>Ad<|rn 1 rfl<|r_w (Value.int .u32 (((KO r').toNat:Nat):Int)) rfl rfl (cJ r') (fun _=>rfl)<|rz rfl<|aD b rfl (fun j b=> ?_) (fun j b=> ?_)
 ·refine Ad<|rn 2 rfl<|r_w (Value.int .u8 (((Br r').toNat:Nat):Int)) rfl rfl (LV r') (fun _=>rfl)<|gB (Ls:=[Sp]) 5 encY [(Br r')] (fun v l q=> ?_)
  refine kC b fun d b=>cC 12<|Li (cs0:=[]) (Ls:=[Sp,l]) 0 (En:=Ab9) rfl rfl rfl rfl rfl hp rfl (fun o w z_=>OE ((Ax q (Ak (Ls:=[Sp,l]) (k:=1) rfl rfl)) o w z_)) rfl rfl rfl rfl rfl (LE d rfl) (LD d rfl) rfl (fun e c m=> ?_)
  refine rz rfl ?_
  cases b
  refine Bb (fun s=>GP (v0:=e) (O:=[c]) (EJ rfl) (Sub.pick [c,l] [0] rfl) ⟨e,c,_,m,⟨rfl,rfl⟩,rfl⟩)
 refine Ab<|i _ _ ?_
 refine Ad<|rn 2 rfl<|kB b fun t f b=>gM (Ls:=[Sp]) (FL:=[Sp]) [0] (cF lr) (fun o w hn_ z_=>uNg N p r' _ f _ pv Sp hp) ?_
 rintro g _ ⟨_,a,_,n,⟨rfl,rfl⟩,rfl⟩
 refine CZ (Ls:=[a]) (Ls':=[a]) [0] rfl rfl<|rz rfl ?_
 cases b
 refine Bb (fun s=>GP (v0:=g) (O:=[a]) (EJ rfl) (Sub.pick [a] [0] rfl) ⟨g,a,_,n,⟨rfl,rfl⟩,rfl⟩)
def OD(N:Nat)(b:List UInt8)(d:Int):Option (Int×(List UInt8)):=(LK N b).bind fun c=>ck ((c).length=(b).length) ((So N c d).bind fun a=>ck ((R64 ((a.length:Int) - (c.length:Int)))) (some (((a.length:Int) - (c.length:Int)),a)))
theorem Sy(N b r' r)(d:OD N b r'=some r)(ro:Ro)(bb:Nat)(bv:Value)(Sb:List Bl)(hb:Sl 5 Ab9 bv b Sb):Does prog 245 #[vP bb 0,Value.int .i32 r'] ro (List.flatten [(As bb (Value.pointer none) bv),Sb]) (pO (List.flatten [(As bb (Value.pointer none) bv),Sb]) (oS 5 Ab9 r.2 fun s_0=>(oE (vT #[vI r.1,Value.nilIface]) [(As bb (vP bb 0) s_0)]))):=by
 unfold OD at d
 refine Eg follows func245 rfl 30 rfl _ fz2 (fun _ _ h_ _=>h_) (fun j=> ?_)
 refine AZ rfl<|Ad<|rn 1 rfl<|kB d fun k l d=>kC d fun n d=>gM (Ls:=[(As bb (Value.pointer none) bv),Sb]) (FL:=[(As bb (Value.pointer none) bv),Sb]) [0,1] (cF VH) (fun o w hn_ z_=>Sv N b _ l _ bb bv Sb hb) ?_
 rintro _ _ ⟨f,_,m,⟨rfl,rfl⟩,rfl⟩
 refine CZ (Ls:=[f,(As bb (vP bb 0) bv)]) (Ls':=[(As bb (vP bb 0) bv),f]) [1,0] rfl rfl<|Af<|Ad<|rm 4 [0] rfl<|rL (Sl.shp m) rfl<|rz rfl<|Ad<|rm 6 [0] rfl<|kB d fun g h d=>gM (Ls:=[(As bb (vP bb 0) bv),f]) (FL:=[f]) [1] (cF bL) (fun o w hn_ z_=>iy N k r' _ h _ bv f m) ?_
 rintro c _ ⟨_,a,_,e,⟨rfl,rfl⟩,rfl⟩
 refine CZ (Ls:=[(As bb (vP bb 0) bv),a]) (Ls':=[(As bb (vP bb 0) bv),a]) [0,1] rfl rfl<|rn 2 rfl<|r_s (List.flatten [(As bb (vP bb 0) c),a]) 0 _ _ _ _ _ (#[vP bb 0,c]) rfl rfl rfl (Ga rfl (Sl.shp e)) (.ofS rfl rfl (Ae (Shp.one (Sl.shp e)) Bv)) rfl rfl<|Af<|Ad<|rm 4 [0] rfl<|rL (Sl.shp e) rfl<|rn 1 rfl<|kC d fun i d=>rX i rfl<|rz rfl<|GQ [(4,vI ((g.length:Int) - (k.length:Int))),(5,Value.nilIface)] rfl (fun T=> ?_)
 cases d
 refine Bb (fun p=>GP (v0:=vT #[vI ((g.length:Int) - (k.length:Int)),Value.nilIface]) (O:=[a,(As bb (vP bb 0) c)]) (Lg rfl rfl) (Sub.pick [(As bb (vP bb 0) c),a] [1,0] rfl) ⟨c,a,_,e,⟨rfl,rfl⟩,rfl⟩)
def JQ(_:Nat)(b:List UInt8):Option (List UInt8):=some b
theorem Su(N b r)(c:JQ N b=some r)(ro:Ro)(bb:Nat)(bv:Value)(Sb:List Bl)(hb:Sl 5 Ab9 bv b Sb):Does prog 253 #[vP bb 0] ro (List.flatten [(As bb (vP bb 0) bv),Sb]) (pO (List.flatten [(As bb (vP bb 0) bv),Sb]) (oI 5 Ab9 bv r (oE (vT #[]) [(As bb (vP bb 0) bv)]))):=by
 unfold JQ at c
 refine Eg follows func253 rfl 20 rfl _ fz1 (fun _ _ h_ _=>h_) (fun a=> ?_)
 refine AY [0] rfl<|BZ rfl ?_
 refine Ad<|rm 5 [0] rfl<|r_W (vB false) rfl (pS rfl rfl rfl rfl rfl)<|Af<|BZ rfl ?_
 refine Ab ?_
 cases c
 refine Vy (v0:=vT #[]) (O:=[Sb,(As bb (vP bb 0) bv)]) rfl (Sub.pick [(As bb (vP bb 0) bv),Sb] [1,0] rfl) ⟨Sb,_,hb,⟨rfl,rfl⟩,rfl⟩
def JS(N:Nat)(b:List UInt8)(d:Int):Option (Int×(List UInt8)):=(JQ N b).bind fun c=>ck ((c).length=(b).length) ((So N c d).bind fun a=>ck ((R64 ((a.length:Int) - (c.length:Int)))) (some (((a.length:Int) - (c.length:Int)),a)))
theorem Sx(N b r' r)(d:JS N b r'=some r)(ro:Ro)(bb:Nat)(bv:Value)(Sb:List Bl)(hb:Sl 5 Ab9 bv b Sb):Does prog 245 #[vP bb 0,Value.int .i32 r'] ro (List.flatten [(As bb (vP bb 0) bv),Sb]) (pO (List.flatten [(As bb (vP bb 0) bv),Sb]) (oS 5 Ab9 r.2 fun s_0=>(oE (vT #[vI r.1,Value.nilIface]) [(As bb (vP bb 0) s_0)]))):=by
 unfold JS at d
 refine Eg follows func245 rfl 30 rfl _ fz2 (fun _ _ h_ _=>h_) (fun j=> ?_)
 refine AZ rfl<|Ad<|rn 1 rfl<|kB d fun k l d=>kC d fun n d=>gM (Ls:=[(As bb (vP bb 0) bv),Sb]) (FL:=[(As bb (vP bb 0) bv),Sb]) [0,1] (cF VH) (fun o w hn_ z_=>Su N b _ l _ bb bv Sb hb) ?_
 rintro _ _ ⟨f,_,m,⟨rfl,rfl⟩,rfl⟩
 refine CZ (Ls:=[f,(As bb (vP bb 0) bv)]) (Ls':=[(As bb (vP bb 0) bv),f]) [1,0] rfl rfl<|Af<|Ad<|rm 4 [0] rfl<|rL (Sl.shp m) rfl<|rz rfl<|Ad<|rm 6 [0] rfl<|kB d fun g h d=>gM (Ls:=[(As bb (vP bb 0) bv),f]) (FL:=[f]) [1] (cF bL) (fun o w hn_ z_=>iy N k r' _ h _ bv f m) ?_
 rintro c _ ⟨_,a,_,e,⟨rfl,rfl⟩,rfl⟩
 refine CZ (Ls:=[(As bb (vP bb 0) bv),a]) (Ls':=[(As bb (vP bb 0) bv),a]) [0,1] rfl rfl<|rn 2 rfl<|r_s (List.flatten [(As bb (vP bb 0) c),a]) 0 _ _ _ _ _ (#[vP bb 0,c]) rfl rfl rfl (Ga rfl (Sl.shp e)) (.ofS rfl rfl (Ae (Shp.one (Sl.shp e)) Bv)) rfl rfl<|Af<|Ad<|rm 4 [0] rfl<|rL (Sl.shp e) rfl<|rn 1 rfl<|kC d fun i d=>rX i rfl<|rz rfl<|GQ [(4,vI ((g.length:Int) - (k.length:Int))),(5,Value.nilIface)] rfl (fun T=> ?_)
 cases d
 refine Bb (fun p=>GP (v0:=vT #[vI ((g.length:Int) - (k.length:Int)),Value.nilIface]) (O:=[a,(As bb (vP bb 0) c)]) (Lg rfl rfl) (Sub.pick [(As bb (vP bb 0) c),a] [1,0] rfl) ⟨c,a,_,e,⟨rfl,rfl⟩,rfl⟩)
def Jo(N:Nat)(b:List UInt8)(a:Int):Option (Int×(List UInt8)):=JS N b a
set_option maxRecDepth 100000 in
theorem Rw(N b r' r)(d:Jo N b r'=some r)(ro:Ro)(vb_:Value)(Sb_:List Bl)(Hb_:Bd 348 5 vb_ b Sb_):Does prog 245 #[vb_,Value.int .i32 r'] ro (List.flatten [Sb_]) (pO (List.flatten [Sb_]) (oIB 348 5 vb_ r.2 (oE (vT #[vI r.1,Value.nilIface]) []))):=by
 rw [bm]
 obtain⟨b_,f_,s_,a,rfl,c,rfl⟩:=Hb_
 cases f_
 ·exact vr (f:=true) (Sy N b r' r d ro b_ s_ a c)
 exact vr (f:=true) (Sx N b r' r d ro b_ s_ a c)
def QM(_:Nat)(b:List UInt8):Option (List UInt8):=ck ((b).length≤140737488355328) (some b)
theorem Wi(N b r)(a:QM N b=some r)(ro:Ro)(bb:Nat)(bv:Value)(Sb:List Bl)(hb:Sl 5 Ab9 bv b Sb):Does prog 247 #[vP bb 0] ro (List.flatten [(As bb (Value.pointer none) bv),Sb]) (pO (List.flatten [(As bb (Value.pointer none) bv),Sb]) (oE (vS r) [])):=by
 unfold QM at a
 refine Eg follows func247 rfl 14 rfl _ fz1 (fun _ _ h_ _=>h_) (fun c=> ?_)
 refine AZ rfl<|Aa fun h d=>BE [(some 7,false),(some 13,true)] (conG prog [(7,fun _ _ v_ L_ U_=>(fun v_ L_ U_=>cL bv v_∧L_=[]∧U_=[]) v_ L_ U_),(13,fun _ _ v_ L_ U_=>(pUp (fun v_ U_=>v_= .string ⟨(b).toArray⟩∧U_=Oc Sb)) v_ L_ U_)]) [] (by decide+kernel) (fun g=>AQ)<|rm 4 [0] rfl<|rV (Ls:=[(As bb (Value.pointer none) bv),Sb]) 1 rfl rfl rfl rfl rfl hb rfl rfl (fun _ _ _ _ _=>Iff.rfl) (fun i e=> ?_)
 refine rm 4 [0] rfl<|rL (Sl.shp hb) rfl<|kC a fun f a=>jg (Ls:=[(As bb (Value.pointer none) bv),Sb]) 1 (xs:=b) rfl rfl rfl rfl rfl rfl hb e rfl (by kernel_rfl) rfl f (fun _ _ _ _ _=>Iff.rfl)<|CZ (Ls:=[(As bb (Value.pointer none) bv),Oc Sb]) (Ls':=[(As bb (Value.pointer none) bv)]) [0] rfl rfl<|rz rfl<|d _ _ ?_
 cases a
 refine Bb (fun g=>GP (v0:=vS b) (O:=[]) (EJ rfl) (Sub.nil _) ⟨rfl,rfl⟩)
def LY(_:Nat)(b:List UInt8):Option (List UInt8):=ck ((b).length≤140737488355328) (some b)
theorem Wh(N b r)(a:LY N b=some r)(ro:Ro)(bb:Nat)(bv:Value)(Sb:List Bl)(hb:Sl 5 Ab9 bv b Sb):Does prog 247 #[vP bb 0] ro (List.flatten [(As bb (vP bb 0) bv),Sb]) (pO (List.flatten [(As bb (vP bb 0) bv),Sb]) (oE (vS r) [])):=by
 unfold LY at a
 refine Eg follows func247 rfl 14 rfl _ fz1 (fun _ _ h_ _=>h_) (fun c=> ?_)
 refine AZ rfl<|Aa fun h d=>BE [(some 7,false),(some 13,true)] (conG prog [(7,fun _ _ v_ L_ U_=>(fun v_ L_ U_=>cL bv v_∧L_=[]∧U_=[]) v_ L_ U_),(13,fun _ _ v_ L_ U_=>(pUp (fun v_ U_=>v_= .string ⟨(b).toArray⟩∧U_=Oc Sb)) v_ L_ U_)]) [] (by decide+kernel) (fun g=>AQ)<|rm 4 [0] rfl<|rV (Ls:=[(As bb (vP bb 0) bv),Sb]) 1 rfl rfl rfl rfl rfl hb rfl rfl (fun _ _ _ _ _=>Iff.rfl) (fun i e=> ?_)
 refine rm 4 [0] rfl<|rL (Sl.shp hb) rfl<|kC a fun f a=>jg (Ls:=[(As bb (vP bb 0) bv),Sb]) 1 (xs:=b) rfl rfl rfl rfl rfl rfl hb e rfl (by kernel_rfl) rfl f (fun _ _ _ _ _=>Iff.rfl)<|CZ (Ls:=[(As bb (vP bb 0) bv),Oc Sb]) (Ls':=[(As bb (vP bb 0) bv)]) [0] rfl rfl<|rz rfl<|d _ _ ?_
 cases a
 refine Bb (fun g=>GP (v0:=vS b) (O:=[]) (EJ rfl) (Sub.nil _) ⟨rfl,rfl⟩)
def Nb(N:Nat)(b:List UInt8):Option (List UInt8):=LY N b
set_option maxRecDepth 100000 in
theorem Uk(N b r)(d:Nb N b=some r)(ro:Ro)(vb_:Value)(Sb_:List Bl)(Hb_:Bd 348 5 vb_ b Sb_):Does prog 247 #[vb_] ro (List.flatten [Sb_]) (pO (List.flatten [Sb_]) (oE (vS r) [])):=by
 rw [bm]
 obtain⟨b_,f_,s_,a,rfl,c,rfl⟩:=Hb_
 cases f_
 ·exact Wi N b r d ro b_ s_ a c 
 exact Wh N b r d ro b_ s_ a c 
def JF(N:Nat)(s:List UInt8):Nat→List UInt8→Nat→Option (List UInt8)
  |0,_,_=>none
  |c+1,a,b=>if b<(s).length then ck (b<(s).length) ((Mm N ((runeAt s b:Nat):Int)).bind fun d=>(Jo N a d).bind fun e=>(JF N s c) e.2 (Il s b))else(Nb N a).bind fun f=>some f
def LL(N:Nat)(s:List UInt8):Option (List UInt8):=(Mj N (s.length:Int)).bind fun a=>JF N s N a 0
theorem UB(N s r)(g:LL N s=some r):Gives prog 215 #[vS s] (vS r):=by
 unfold LL at g
 refine Av follows func215 rfl 18 rfl _ fz1 (fun A=> ?_)
 refine AZ rfl<|Ad<|rA rfl fun e=>Af<|Ad<|rn 1 rfl<|r_W (vI (s.length:Int)) rfl (MO rfl rfl rfl)<|kB g fun G B g=>gM (Ls:=[(As e (Value.pointer none) nS)]) (FL:=[(As e (Value.pointer none) nS)]) [0] (cF lD) (fun o w hn_ z_=>ZS N (s.length:Int) _ B _ e) ?_
 rintro _ _ ⟨k,m,_,H,⟨rfl,rfl⟩,rfl⟩
 refine CZ (Ls:=[m,(As e (vP e 0) k)]) (Ls':=[(As e (vP e 0) k),m]) [1,0] rfl rfl<|CZ (Ls:=[(As e (vP e 0) k),m]) (Ls':=[(As e (vP e 0) k),m]) [0,1] rfl rfl<|sc (Ls:=[(As e (vP e 0) k),m]) (Ls':=[(List.flatten [(As e (vP e 0) k),m])]) (by simp only [List.flatten_cons,List.flatten_nil,List.append_nil,zu])<|Yg (Ls:=[(List.flatten [(As e (vP e 0) k),m])]) (p:=fun S_=>Bd 348 5 (vP e 0) G S_) 0 rfl ⟨e,true,_,_,rfl,H,rfl⟩ (fun i C=> ?_)
 refine Af<|Aa fun I n=>Ad<|rn 1 rfl<|cB 10 (p:=(pIt s))<|eR s rfl rfl rfl rfl rfl (fun _ _ _ _ _=>Iff.rfl) (fun d=> ?_)
 refine pz (Ls:=[i])<|CZ (Ls:=[i,[(d,(itT s 0), #[])]]) (Ls':=[[(d,(itT s 0), #[])],i]) [1,0] rfl rfl<|Af<|Ai<|Bw _ (Sub.pick [[(d,(itT s 0), #[])],i] [0,1] rfl)<|AH (fun tt ll nn=> ∃(h:Nat) (b:List UInt8) (c:Nat),(JF N s h b c=some r)∧ ∃(a:List Bl),Bd 348 5 (vP e 0) b a∧Is [(3,vP e 0),(10,vP d 0)] (List.flatten [[(d,(itT s c), #[])],a]) tt ll∧nn=h+1) (N+1) ?_ ?_
 ·exact⟨N,G,0,g,i,C,Ah rfl rfl,rfl⟩
 clear g;rintro t l _ ⟨h,b,c,g,a,f,⟨⟨T,rfl⟩,rfl⟩,rfl⟩
 rcases h with _|h
 ·exact absurd g (by simp [JF])
 rw [JF] at g
 refine Ad<|cA 11 (p:=(pNx d s c))<|ji (lN:=(List.flatten [[(d,(itT s (Il s c)), #[])],a])) 0 d s c rfl rfl rfl rfl rfl rfl (fun _ _ _ _ _=>Iff.rfl) rfl<|r_W (vB (decide (c<(s).length))) rfl (Ef (bp s c))<|Af<|Aa fun J q=>aD g rfl (fun u g=> ?_) (fun u g=> ?_)
 ·refine Ab<|q _ _ ?_
  refine Ai<|Ad<|kC g fun v g=>r_W (Value.int .i32 ((runeAt s c:Nat):Int)) rfl (Ef (bo v))<|rz rfl<|Ag<|rn 1 rfl<|kB g fun D x g=>rc _ (cF lB) (ai N ((runeAt s c:Nat):Int) _ x)<|kB g fun E y g=>gM (Ls:=[[(d,(itT s (Il s c)), #[])],a]) (FL:=[a]) [1] (cF lC) (fun o w hn_ z_=>Rw N b D _ y _ (vP e 0) a f) ?_
  rintro _ _ ⟨j,_,F,⟨rfl,rfl⟩,rfl⟩
  refine CZ (Ls:=[[(d,(itT s (Il s c)), #[])],j]) (Ls':=[[(d,(itT s (Il s c)), #[])],j]) [0,1] rfl rfl<|Af<|fg _ (Sub.pick [[(d,(itT s (Il s c)), #[])],j] [0,1] rfl) ?_
  exact⟨h+1,by omega,h,E.2,Il s c,g,j,F,Ah rfl rfl,rfl⟩
 refine AI<|n _ _ ?_
 refine Ad<|kB g fun K z g=>gM (Ls:=[[(d,(itT s (Il s c)), #[])],a]) (FL:=[a]) [1] (cF lA) (fun o w hn_ z_=>Uk N b _ z _ (vP e 0) a f) ?_
 rintro _ _ ⟨rfl,rfl⟩
 refine CZ (Ls:=[[(d,(itT s (Il s c)), #[])]]) (Ls':=[[(d,(itT s (Il s c)), #[])]]) [0] rfl rfl<|rz rfl ?_
 cases g
 exact aR eE1
def Jp(N:Nat)(a:List UInt8)(b:List UInt8):Option Bool:=(LL N a).bind fun c=>some (c==b)
theorem RF(N other a r)(d:Jp N other a=some r)(ro:Ro)(b:Nat)(c:Blk ro b [vS a]):Does prog 217 #[vS other,vP b 0] ro [] (pV (vB r)):=by
 unfold Jp at d
 refine Al follows func217 rfl 8 rfl _ fz2 (fun e=> ?_)
 refine AZ rfl<|Aa fun i f=>IE [] (by decide+kernel) (fun j=>AQ)<|rn 1 rfl<|kB d fun h g d=>rc _ (cF bR) (UB N other _ g)<|Hr (vS a) (vs:=[vS a]) (o:=0) rfl rfl (AS c) rfl<|r_W (vB (h==a)) rfl (EY rfl rfl)<|rz rfl<|f _ _ ?_
 cases d
 exact aR eV1
def ZN(N:Nat)(s:List (List UInt8))(b:List UInt8):Nat→Int→Option Int
  |0,_=>none
  |d+1,a=>if a<(s.length:Int)then ck (0≤a∧a<(s.length:Int)) ((Jp N (s[a.toNat]!) b).bind fun c=>if c=true then some a else ck (R64 (a+1)) ((ZN N s b d) (a+1)))else some (-1)
def sfm(N:Nat)(s:List (List UInt8))(a:List UInt8):Option Int:=ZN N s a N 0
theorem sfg(N s d r)(a:sfm N s d=some r)(ro sv)(hs:Rd Aa3 ro sv s)(b:Nat)(f:Blk ro b [vS d]):Does prog 216 #[sv,vF 217 #[] #[vP b 0]] ro [] (pV (vI r)):=by
 unfold sfm at a
 refine Al follows func216 rfl 19 rfl _ fz2 (fun k=> ?_)
 refine AZ rfl<|Aa fun v m=>Ad<|rn 1 rfl<|rL (Rd.shp hs) rfl<|rz rfl<|Ai<|AH (fun tt ll nn=> ∃(g:Nat) (c:Int),(ZN N s d g c=some r)∧Is [(0,sv),(1,vF 217 #[] #[vP b 0]),(7,vI (s.length:Int)),(8,vI c)] [] tt ll∧nn=g+1) (N+1) ?_ ?_
 ·exact⟨N,0,a,Ah rfl rfl,rfl⟩
 clear a;rintro t l _ ⟨g,c,a,⟨⟨T,rfl⟩,rfl⟩,rfl⟩
 rcases g with _|g
 ·exact absurd a (by simp [ZN])
 rw [ZN] at a
 refine AZ rfl<|Aa fun x n=>aD a rfl (fun p a=> ?_) (fun p a=> ?_)
 ·refine Ab<|n _ _ ?_
  refine Aa fun y q=>Ai<|AZ rfl<|Ad<|rn 3 rfl<|kC a fun e a=>rI (Rd.shp hs) e rfl<|rE (Aw hs) e 0 rfl<|kB a fun u h a=>gV _ (BF (caps:=[vP b 0]) rfl lZ rfl) (fun o w z_=>RF N (s[c.toNat]!) d _ h z_.view b (AS f o w z_))<|Af<|aB a rfl (fun i a=> ?_) (fun i a=> ?_)
  ·refine AZ rfl ?_
   cases a
   exact aR eV1
  refine Ab<|q _ _ ?_
  refine Ag<|kC a fun j a=>rX j rfl<|rz rfl<|fg _ (Sub.of suN) ?_
  exact⟨g+1,by omega,g,(c+1),a,Ah rfl rfl,rfl⟩
 refine AI<|m _ _ ?_
 refine AZ rfl ?_
 cases a
 exact aR eV1
def HN(N:Nat)(b:List (List UInt8))(s:List UInt8):Option Int:=(LL N s).bind fun a=>(sfm N b a).bind fun c=>some c
theorem RE(N l' s r)(a:HN N l' s=some r)(ro l'v)(hl':Rd Aa3 ro l'v l'):Does prog 150 #[l'v,vS s] ro [] (pV (vI r)):=by
 unfold HN at a
 refine Al follows func150 rfl 11 rfl _ fz2 (fun b=> ?_)
 refine AZ rfl<|Ad<|rn 1 rfl<|kB a fun f c a=>rc _ (cF bR) (UB N s _ c)<|rA rfl fun e=>ry [0] rfl<|Ad<|rn 1 rfl<|r_W (vF 217 #[] #[vP e 0]) rfl (IA rfl)<|kB a fun g d a=>gV _ (cF ma) (fun o w z_=>sfg N l' f _ d z_.view l'v ((Aw hl') o w z_) e (Cw 0 rfl rfl o w z_))<|rz rfl ?_
 cases a
 exact aR eV1
def KN(N:Nat)(a:List (List UInt8))(i:Int):Option Int:=ck (0≤i∧i<(a.length:Int)) ((MS N (a[i.toNat]!)).bind fun c=>if c=true then ck (0≤i∧i≤(a.length:Int)) (ck (0≤i∧i<(a.length:Int)) ((HN N (((a).take (i.toNat)).drop 0) (a[i.toNat]!)).bind fun b=>if b≥0 then some 6 else some 0))else some 4)
theorem Th(N names i r)(a:KN N names i=some r)(ro namesv)(hnames:Rd Aa3 ro namesv names):Does prog 152 #[namesv,vI i] ro [] (pV (vI r)):=by
 unfold KN at a
 refine Al follows func152 rfl 22 rfl _ fz2 (fun h=> ?_)
 refine AZ rfl<|Aa fun p j=>Ai<|Ad<|rn 2 rfl<|kC a fun f a=>rI (Rd.shp hnames) f rfl<|rE (Aw hnames) f 0 rfl<|kB a fun q k a=>rc _ (cF ci) (WT N (names[i.toNat]!) _ k)<|rz rfl<|Bf _ rfl (fun e=> ?_) (fun e=> ?_)
 ·replace a:=ifn (Bool.eq_false_iff.1 (Da e)) a
  refine AZ rfl ?_
  cases a
  exact aR eV1
 replace a:=ifp (Db e) a
 refine Aa fun s l=>BE [(some 20,false)] (conG prog [(20,cV (HN N (((names).take (i.toNat)).drop 0) (names[i.toNat]!)) fun m=>vI m)]) [] (by decide+kernel) (fun t=>AQ)<|rn 2 rfl<|kC a fun b a=>r_W (FG namesv 0 (i.toNat) 1) rfl (Ef (Iz rfl rfl rfl rfl (Rd.shp hnames) b))<|rn 2 rfl<|kC a fun c a=>rI (Rd.shp hnames) c rfl<|rE (Aw hnames) c 0 rfl<|kB a fun n d a=>rg _ (cF cf) (fun o w z_=>RE N (((names).take (i.toNat)).drop 0) (names[i.toNat]!) _ d z_.view (FG namesv 0 (i.toNat) 1) ((Pc (Aw hnames) (Nat.zero_le _) (GR b.2)) o w z_)) (Ha d)<|rz rfl<|l _ _ ?_
 refine aD a rfl (fun g a=> ?_) (fun g a=> ?_)
 ·refine AZ rfl ?_
  cases a
  exact aR eV1
 refine Ab<|j _ _ ?_
 refine AZ rfl ?_
 cases a
 exact aR eV1
def FI(_:Nat)(n:Int)(a:Int)(b:Int):Option Bool:=if n≥a then some (decide (n≤b))else some false
theorem HV(N n least most r)(a:FI N n least most=some r):Gives prog 153 #[vI n,vI least,vI most] (vB r):=by
 unfold FI at a
 refine Av follows func153 rfl 15 rfl _ fz3 (fun d=> ?_)
 refine AZ rfl<|Aa fun e b=>Ag<|rn 4 rfl ?_
 rcases c:(decide (n≥least))with _|_
 ·replace a:=iF c a
  refine rz rfl<|b _ _ ?_
  cases a
  exact aR eE1
 replace a:=iD c a
 refine rz rfl<|b _ _ ?_
 cases a
 exact aR eE1
def GL(N:Nat)(b:List (List UInt8×Int))(d:List (List UInt8)):Nat→Int→Option Int
  |0,_=>none
  |e+1,a=>if a<(b.length:Int)then ck (0≤a∧a<(b.length:Int)) ((KN N d a).bind fun c=>if(c:Int)≠0 then some c else(FI N ((b[a.toNat]!).2) 1 128).bind fun f=>if f=true then ck (R64 (a+1)) ((GL N b d e) (a+1))else some 9)else some 0
def Kr(N:Nat)(a:List (List UInt8×Int)):Option Int:=(JA N a).bind fun b=>GL N a b N 0
theorem Wb(N l' r)(a:Kr N l'=some r)(ro l'v)(hl':Rd Ab2 ro l'v l'):Does prog 147 #[l'v] ro [] (pV (vI r)):=by
 unfold Kr at a
 refine Al follows func147 rfl 27 rfl _ fz1 (fun s=> ?_)
 refine AZ rfl<|Ad<|rn 1 rfl<|kB a fun y v a=>gS (Ls:=[]) (cF mb) (fun o w z_=>Ui N l' _ v z_.view l'v ((Aw hl') o w z_)) (fun z u A=> ?_)
 refine rz rfl<|Aa fun G x=>Ad<|rn 1 rfl<|rL (Rd.shp hl') rfl<|rz rfl<|Ai<|Bw _ (Sub.pick [u] [0] rfl)<|AH (fun tt ll nn=> ∃(c:Nat) (b:Int),(GL N l' y c b=some r)∧Is [(3,z),(9,l'v),(10,vI (l'.length:Int)),(11,vI b)] (List.flatten [u]) tt ll∧nn=c+1) (N+1) ?_ ?_
 ·exact⟨N,0,a,Ah rfl rfl,rfl⟩
 clear a;rintro t l _ ⟨c,b,a,⟨⟨T,rfl⟩,rfl⟩,rfl⟩
 rcases c with _|c
 ·exact absurd a (by simp [GL])
 rw [GL] at a
 refine AZ rfl<|Aa fun B f=>aD a rfl (fun g a=> ?_) (fun g a=> ?_)
 ·refine Ab<|f _ _ ?_
  refine Aa fun C h=>Ai<|Ad<|rn 1 rfl<|kC a fun e a=>rI (Rd.shp hl') e rfl<|rE (Aw hl') e 0 rfl<|rA rfl fun i=>ry [0] rfl<|Aa fun D j=>Ad<|rn 2 rfl<|kB a fun E m a=>gV _ (cF ce) (fun o w z_=>Th N y b _ m z_.view z ((Ax A (Ak (Ls:=[(fj i ((l'[b.toNat]!).1) ((l'[b.toNat]!).2)),u]) (k:=1) rfl rfl)) o w z_))<|rz rfl<|AZ rfl<|aN a rfl (fun n a=> ?_) (fun n a=> ?_)
  ·refine AZ rfl ?_
   cases a
   exact aR eV1
  refine Ab<|j _ _ ?_
  refine Ad<|rm 2 [0] rfl<|kB a fun F p a=>rc _ (cF Kz) (HV N ((l'[b.toNat]!).2) 1 128 _ p)<|rz rfl<|Bf _ rfl (fun d=> ?_) (fun d=> ?_)
  ·replace a:=ifn (Bool.eq_false_iff.1 (Da d)) a
   refine AZ rfl ?_
   cases a
   exact aR eV1
  replace a:=ifp (Db d) a
  refine Ab<|h _ _ ?_
  refine Ag<|kC a fun q a=>rX q rfl<|rz rfl<|fg _ (Sub.pick [(fj i ((l'[b.toNat]!).1) ((l'[b.toNat]!).2)),u] [1] rfl) ?_
  exact⟨c+1,by omega,c,(b+1),a,Ah rfl rfl,rfl⟩
 refine AI<|x _ _ ?_
 refine AZ rfl ?_
 cases a
 exact aR eV1
def Jv(c:List (List UInt8×Int)):Nat→Int→Int→Option Int
  |0,_,_=>none
  |d+1,b,a=>if a<(c.length:Int)then ck (0≤a∧a<(c.length:Int)) (ck ((R64 (b+(c[a.toNat]!).2))) (ck (R64 (a+1)) ((Jv c d) (b+(c[a.toNat]!).2) (a+1))))else some b
def Ov(N:Nat)(a:List (List UInt8×Int)):Option Int:=Jv a N 0 0
theorem WS(N l' r)(a:Ov N l'=some r)(ro l'v)(hl':Rd Ab2 ro l'v l'):Does prog 148 #[l'v] ro [] (pV (vI r)):=by
 unfold Ov at a
 refine Al follows func148 rfl 18 rfl _ fz1 (fun h=> ?_)
 refine AZ rfl<|AZ rfl<|Aa fun o i=>Ad<|rn 1 rfl<|rL (Rd.shp hl') rfl<|rz rfl<|Ai<|AH (fun tt ll nn=> ∃(e:Nat) (c:Int) (b:Int),(Jv l' e c b=some r)∧Is [(3,vI c),(6,l'v),(7,vI (l'.length:Int)),(8,vI b)] [] tt ll∧nn=e+1) (N+1) ?_ ?_
 ·exact⟨N,0,0,a,Ah rfl rfl,rfl⟩
 clear a;rintro t l _ ⟨e,c,b,a,⟨⟨T,rfl⟩,rfl⟩,rfl⟩
 rcases e with _|e
 ·exact absurd a (by simp [Jv])
 rw [Jv] at a
 refine AZ rfl<|Aa fun p j=>aD a rfl (fun k a=> ?_) (fun k a=> ?_)
 ·refine Ab<|j _ _ ?_
  refine Aa fun q m=>Ai<|Ad<|kC a fun d a=>rI (Rd.shp hl') d rfl<|rE (Aw hl') d 0 rfl<|rA rfl fun n=>ry [0] rfl<|Ag<|rm 3 [0] rfl<|kC a fun f a=>rX f rfl<|rz rfl<|m _ _ ?_
  refine Ag<|kC a fun g a=>rX g rfl<|rz rfl<|fg _ (Sub.of (suC _ suN)) ?_
  exact⟨e+1,by omega,e,(c+(l'[b.toNat]!).2),(b+1),a,Ah rfl rfl,rfl⟩
 refine AI<|i _ _ ?_
 refine AZ rfl ?_
 cases a
 exact aR eV1
end Go.Proofs.YtoolcgbcfgnipaaGreatDoor
