import Derived.Test.YtjlomkippigejaaGreatDoorBl
namespace Go.Proofs.YtjlomkippigejaaGreatDoor
open Go Go.RowKit Go.Eng _root_.Go.Proofs.Tryz
set_option linter.unusedSimpArgs false
set_option linter.unusedVariables false
set_option maxRecDepth 100000
set_option maxHeartbeats 80000000
abbrev Dw(b:Nat)(x0:Int)(x1:Int)(x2:Int)(x3:Int)(x4:W4)(x5:W4):List Bl:=[(b,53, #[vI x0,vI x1,vI x2,vI x3,U x4,U x5])]
abbrev Fw(b:Nat)(x0:W2)(x1:Int)(x2:Int)(x3:Int)(x4:Int)(x5:Int)(x6:Int)(x7:Int)(x8:W2):List Bl:=[(b,56, #[vS x0,vI x1,vI x2,vI x3,vI x4,vI x5,vI x6,vI x7,vS x8])]
def BM(c:Int)(a:Int->Int->W4->Option Bool)(d:List Int)(b:Int)(e:W4):Option Bool:=ck (R64 (c+1)) (ck (0<=b/\b<(d.length:Int)) (a (d[b.toNat]!) (c+1) e))
def Bw(N:Nat)(m:Ao)(d:List (W1))(b:Int)(c:Int)(e:W4)(a:Int->Int->W4->Option Bool)(i:List (W0))(f:List Int)(g:Int):Option Bool:=if((i[((d[b.toNat]!).1).toNat]!).1)=([106,117,109,112,45,103,111,110,101]:W2)then ck (0<=(d[b.toNat]!).2.1/\(d[b.toNat]!).2.1<64) (if((e).getLsbD (((d[b.toNat]!).2.1).toNat))=true then BM c a f 0 e else BM c a f 1 e)else(Ge N m ((d[b.toNat]!).1) ((d[b.toNat]!).2.1) ((d[b.toNat]!).2.2.1) ((d[b.toNat]!).2.2.2.1) ((d[b.toNat]!).2.2.2.2) e).bind λh=>BM c a f g h.1
def Cm(N:Nat)(m:Ao)(g:List (W1))(c:Int)(b:Int)(f:W4)(a:Int->Int->W4->Option Bool)(d:List (W0))(e:List Int)(h:Bool):Option Bool:=if h=true then Bw N m g c b f a d e 1 else Bw N m g c b f a d e 0
def Cn(N:Nat)(m:Ao)(h:List (W1))(g:List Int)(c:Int)(b:Int)(f:W4)(a:Int->Int->W4->Option Bool)(d:List (W0))(e:List Int)(i:Bool):Option Bool:=if i=true then ck (0<=b/\b<(g.length:Int)) (Cm N m h c b f a d e ((((g[b.toNat]!).tmod 2:Int) !=0)))else Cm N m h c b f a d e false
def Cs(N:Nat)(m:Ao)(d:List (W1))(g:List Int)(b:Int)(c:Int)(f:W4)(a:Int->Int->W4->Option Bool)(h:List (W0))(i:Bool):Option Bool:=if i=true then some false else(Im N ((d[b.toNat]!).1) ((d[b.toNat]!).2.1) ((d[b.toNat]!).2.2.1) ((d[b.toNat]!).2.2.2.1) ((d[b.toNat]!).2.2.2.2) b).bind λe=>if(e.length:Int)=0 then a (d.length:Int) c f else if(e.length:Int)=2 then Cn N m d g b c f a h e (decide (c<(g.length:Int)))else Cn N m d g b c f a h e false
def Ct(N:Nat)(m:Ao)(d:List (W1))(g:List Int)(b:Int)(c:Int)(e:W4)(a:Int->Int->W4->Option Bool)(f:List (W0))(h:Bool):Option Bool:=if h=true then ck (0<=(d[b.toNat]!).2.1/\(d[b.toNat]!).2.1<64) (Cs N m d g b c e a f (!((e).getLsbD (((d[b.toNat]!).2.1).toNat))))else Cs N m d g b c e a f false
def shunterlaw15_FlowSound_v1_l7(N:Nat)(m:Ao)(b:List (W1))(e:List Int)(f:(W4)×Int×Int):Nat->Int->Int->W4->Option Bool
  |0,_,_,_=>none
  |h+1,a,c,g=>if a<(b.length:Int)then ck (0<=a/\a<(b.length:Int)) ((Gy N).bind λd=>ck (0<=(b[a.toNat]!).1/\(b[a.toNat]!).1<(d.length:Int)) (if((d[((b[a.toNat]!).1).toNat]!).1)=([102,105,101,108,100]:W2)then Ct N m b e a c g (shunterlaw15_FlowSound_v1_l7 N m b e f h) d true else Ct N m b e a c g (shunterlaw15_FlowSound_v1_l7 N m b e f h) d (((d[((b[a.toNat]!).1).toNat]!).1)==([112,117,116,45,102,105,101,108,100]:W2))))else(HU N g).bind λj=>(JR N f.1 j).bind λk=>if k=true then(EC N).bind λi=>some i else some false
def BQ(N:Nat)(m:Ao)(e:List (W1))(j:List Int)(c:List Int)(h:List Int)(d:Bool):Option Bool:=if d=true then(EC N).bind λi=>some i else(Mt N j).bind λb=>(Mt N c).bind λg=>(Hn N m e b).bind λa=>if(a.2.2:Int)≠0 then(EC N).bind λf=>some f else(JN N (b|||g)).bind λk=>shunterlaw15_FlowSound_v1_l7 N m e h a N 0 0 k
def BR(N:Nat)(m:Ao)(d:List (W1))(c:List Int)(a:List Int)(b:List Int)(e:Bool):Option Bool:=if e=true then BQ N m d c a b true else BQ N m d c a b (decide ((a.length:Int)>70))
def BS(N:Nat)(m:Ao)(d:List (W1))(a:List Int)(b:List Int)(c:List Int)(e:Bool):Option Bool:=if e=true then BR N m d a b c true else BR N m d a b c (decide ((a.length:Int)>70))
def FX(N:Nat)(m:Ao)(d:List (W1))(c:List Int)(a:List Int)(b:List Int):Option Bool:=(Db N m).bind λe=>if e=true then BS N m d c a b (decide ((d.length:Int)>100))else BS N m d c a b true
theorem Nl(N m e E F s r)(f:FX N m e E F s=some r)(ro)(B:AB)(hm:Aa1 ro B m)(v)(J:Rd Ac8 ro v e)(M)(ao:Rd BE ro M E)(O)(ap:Rd BE ro O F)(p)(Q:Rd BE ro p s):DoesI prog 3 #[vA (Ac m B),v,vA #[M,O,p]] Ho ro [] (pV (vB r)):=by
 unfold FX at f
 refine Be follows func3 Z 146 Z _ fz3 Bi (λcd=> ?_)
 refine Ad<|rA Z λx=>rA Z λb3=>rz Z<|Aa λK4 cf=>Aa λK5 cg=>Ah<|rm 1 [1] Z<|kB f λr6 ch f=>gV _ (cF vY) (λo w z_=>(Does.inv (Pf N m _ ch z_.view B (Aa1.mono z_.ro_cell hm)) _))<|rn 2 Z<|AF 4 27 [(1,v),(3,vP x 0),(5,vP b3 0)] vB (λb_=>BS N m e E F s b_=some r) (λb8 f T=> ?_) (λC=> ?_)
 ·unfold BS at f
  refine rn 1 Z<|AF 5 33 [(1,v),(3,vP x 0),(5,vP b3 0)] vB (λb_=>BR N m e E F s b_=some r) (λb9 f T=> ?_) (λC=> ?_)
  ·unfold BR at f
   refine rn 1 Z<|AF 5 39 [(1,v),(3,vP x 0),(5,vP b3 0)] vB (λb_=>BQ N m e E F s b_=some r) (λcr f T=> ?_) (λC=> ?_)
   ·unfold BQ at f
    refine Ak<|cg _ _ ?_
    refine aB f Z (λaw f=> ?_) (λaw f=> ?_)
    ·refine Ad<|kB f λcs ax f=>gV _ (cF fL) (λo w z_=>JX N  _ ax z_.view)<|rz Z ?_
     cases f
     exact aR eV1
    refine Ab<|cf _ _ ?_
    refine Aa λct ay=>BB [(some 43,false),(some 46,false)] (conG prog [(43,cV (Mt N E) λG=>U G),(46,cV (Mt N F) λG=>U G)]) [] (by decide+kernel) (λhn=>AK)<|rm 2 [0] Z<|kB f λR W f=>rg _ (cF mT) (λo w z_=>(Does.inv (YP N E _ W z_.view M (z_.r ao)) _)) (GQ W)<|rm 2 [0] Z<|kB f λaq X f=>rg _ (cF mT) (λo w z_=>(Does.inv (YP N F _ X z_.view O (z_.r ap)) _)) (GQ X)<|ry [0] Z<|ay _ _ ?_
    refine Ad<|rm 3 [1] Z<|kB f λj az f=>gV _ (cF fK) (λo w z_=>NU N m e R _ az z_.view B (Aa1.mono z_.ro_cell hm) v ((Aw J) o w z_))<|rz Z<|Aa λcv ba=>AZ Z<|aN f Z (λbb f=> ?_) (λbb f=> ?_)
    ·refine Ad<|kB f λci bc f=>gV _ (cF fL) (λo w z_=>JX N  _ bc z_.view)<|rz Z<|GS [(6,vB ci)] Z (λT=> ?_)
     cases f
     exact aR eV1
    refine Ab<|ba _ _ ?_
    refine Ad<|rn 2 Z<|r_X (U (R|||aq)) Z (xy R aq) Z<|kB f λbd be f=>rc _ (cF vX) (Sr N (R|||aq) _ be)<|r_a (47,(⟨Ay (0#64)⟩:Array Value)) Z Z Lv (λh=> ?_) (.inr Z)
    refine ry [0] Z<|GS [(1,v),(3,vP x 0),(9,p),(10,U j.1),(13,vP h 0)] Z (λT=> ?_)
    refine AZ Z<|Aa λcw bf=>Ai<|Bs [(h,47,(⟨Ay bd⟩:Array Value)),(x,35,(Ac m B))] (Sub.of (suK _ (suC _ (suK _ suN))))<|AH (λtt ll nn=> ∃(q:Nat) (a:Int) (g:Int) (i:W4),(shunterlaw15_FlowSound_v1_l7 N m e s j q a g i=some r)/\Is [(1,v),(3,vP x 0),(9,p),(10,U j.1),(13,vP h 0),(14,vI a),(15,vI g)] [(h,47,(⟨Ay i⟩:Array Value)),(x,35,(Ac m B))] tt ll/\nn=q+1) (N+1) ?_ ?_
    ·exact⟨N,0,0,bd,f,Ag Z Z,Z⟩
    clear f;rintro t l _ ⟨q,a,g,i,f,⟨⟨T,rfl⟩,rfl⟩,rfl⟩
    rcases q with _|q
    ·exact absurd f (by simp [shunterlaw15_FlowSound_v1_l7])
    rw [shunterlaw15_FlowSound_v1_l7] at f
    refine Aa λcx bg=>Ad<|rn 2 Z<|rL (Rd.shp J) Z<|rz Z<|aD f Z (λbh f=> ?_) (λbh f=> ?_)
    ·refine Ab<|bg _ _ ?_
     refine Ai<|Ad<|rn 2 Z<|kC f λY f=>rI (Rd.shp J) Y Z<|rE (Aw J) Y 0 Z<|rA Z λn=>ry [0] Z<|Aa λcy bi=> ?_
     refine BB [(some 72,false)] (conG prog [(72,λ_ _ v_ L_ U_=> ∀G,Gy N  =some G->(p1 (λs_=>s_) 56 Ae9 G) v_ L_ U_)]) [] (by decide+kernel) (λhn=>AK)<|kB f λd aa f=>Vr (Ls:=[(Dw n ((e[a.toNat]!).1) ((e[a.toNat]!).2.1) ((e[a.toNat]!).2.2.1) ((e[a.toNat]!).2.2.2.1) (hi ((e[a.toNat]!).2.2.2.2)) (lo ((e[a.toNat]!).2.2.2.2))),[(h,47,(⟨Ay i⟩:Array Value))],[(x,35,(Ac m B))]]) (λbj=>bj) 56 Ae9 d 9 _ Z Z Z (cF TY) (λo w z_=>(Does.inv (Ny N  _ aa z_.view) _)) (GQ aa) (λbj H bk=> ?_)
     refine rm 2 [0] Z<|kC f λab f=>rI (Sl.shp bk) ab Z ?_
     refine rE (Ax bk (Aj (Ls:=[(Dw n ((e[a.toNat]!).1) ((e[a.toNat]!).2.1) ((e[a.toNat]!).2.2.1) ((e[a.toNat]!).2.2.2.1) (hi ((e[a.toNat]!).2.2.2.2)) (lo ((e[a.toNat]!).2.2.2.2))),[(h,47,(⟨Ay i⟩:Array Value))],[(x,35,(Ac m B))],H]) (k:=3) Z Z)) ab 0 Z ?_
     refine rA Z λu=>Zz (List.flatten [(Fw u ((d[((e[a.toNat]!).1).toNat]!).1) ((d[((e[a.toNat]!).1).toNat]!).2.1) ((d[((e[a.toNat]!).1).toNat]!).2.2.1) ((d[((e[a.toNat]!).1).toNat]!).2.2.2.1) ((d[((e[a.toNat]!).1).toNat]!).2.2.2.2.1) ((d[((e[a.toNat]!).1).toNat]!).2.2.2.2.2.1) ((d[((e[a.toNat]!).1).toNat]!).2.2.2.2.2.2.1) ((d[((e[a.toNat]!).1).toNat]!).2.2.2.2.2.2.2.1) ((d[((e[a.toNat]!).1).toNat]!).2.2.2.2.2.2.2.2)),(Dw n ((e[a.toNat]!).1) ((e[a.toNat]!).2.1) ((e[a.toNat]!).2.2.1) ((e[a.toNat]!).2.2.2.1) (hi ((e[a.toNat]!).2.2.2.2)) (lo ((e[a.toNat]!).2.2.2.2))),[(h,47,(⟨Ay i⟩:Array Value))],[(x,35,(Ac m B))],H]) 0 _ _ _ (#[Value.string (⟨#[]⟩),vI 0,vI 0,vI 0,vI 0,vI 0,vI 0,vI 0,Value.string (⟨#[]⟩)]) (#[vS ((d[((e[a.toNat]!).1).toNat]!).1),vI ((d[((e[a.toNat]!).1).toNat]!).2.1),vI ((d[((e[a.toNat]!).1).toNat]!).2.2.1),vI ((d[((e[a.toNat]!).1).toNat]!).2.2.2.1),vI ((d[((e[a.toNat]!).1).toNat]!).2.2.2.2.1),vI ((d[((e[a.toNat]!).1).toNat]!).2.2.2.2.2.1),vI ((d[((e[a.toNat]!).1).toNat]!).2.2.2.2.2.2.1),vI ((d[((e[a.toNat]!).1).toNat]!).2.2.2.2.2.2.2.1),vS ((d[((e[a.toNat]!).1).toNat]!).2.2.2.2.2.2.2.2)]) (#[vS ((d[((e[a.toNat]!).1).toNat]!).1),vI ((d[((e[a.toNat]!).1).toNat]!).2.1),vI ((d[((e[a.toNat]!).1).toNat]!).2.2.1),vI ((d[((e[a.toNat]!).1).toNat]!).2.2.2.1),vI ((d[((e[a.toNat]!).1).toNat]!).2.2.2.2.1),vI ((d[((e[a.toNat]!).1).toNat]!).2.2.2.2.2.1),vI ((d[((e[a.toNat]!).1).toNat]!).2.2.2.2.2.2.1),vI ((d[((e[a.toNat]!).1).toNat]!).2.2.2.2.2.2.2.1),vS ((d[((e[a.toNat]!).1).toNat]!).2.2.2.2.2.2.2.2)]) Z Z Z Z Z (.of Z Z) Z Z ?_
     refine Ak<|bi _ _ ?_
     refine Aa λcz bl=>Aa λda bm=>Ah<|rm 2 [0] Z<|r_W (vB (((d[((e[a.toNat]!).1).toNat]!).1)==([102,105,101,108,100]:W2))) Z (Cr Z Z)<|rn 1 Z ?_
     refine AF 4 84 [(1,v),(3,vP x 0),(9,p),(10,U j.1),(13,vP h 0),(14,vI a),(15,vI g),(16,vP n 0),(17,vP u 0)] vB (λb_=>Ct N m e s a g i (shunterlaw15_FlowSound_v1_l7 N m e s j q) d b_=some r) (λcj f T=> ?_) (λC=> ?_)
     ·unfold Ct at f
      refine rn 1 Z<|AF 6 91 [(1,v),(3,vP x 0),(9,p),(10,U j.1),(13,vP h 0),(14,vI a),(15,vI g),(16,vP n 0),(17,vP u 0)] vB (λb_=>Cs N m e s a g i (shunterlaw15_FlowSound_v1_l7 N m e s j q) d b_=some r) (λdb f T=> ?_) (λC=> ?_)
      ·unfold Cs at f
       refine Ak<|bm _ _ ?_
       refine aB f Z (λbn f=> ?_) (λbn f=> ?_)
       ·refine AZ Z ?_
        cases f
        exact aR eV1
       refine Ab<|bl _ _ ?_
       refine Ad<|rm 2 [1] Z<|kB f λI bo f=>gS (Ls:=[(Fw u ((d[((e[a.toNat]!).1).toNat]!).1) ((d[((e[a.toNat]!).1).toNat]!).2.1) ((d[((e[a.toNat]!).1).toNat]!).2.2.1) ((d[((e[a.toNat]!).1).toNat]!).2.2.2.1) ((d[((e[a.toNat]!).1).toNat]!).2.2.2.2.1) ((d[((e[a.toNat]!).1).toNat]!).2.2.2.2.2.1) ((d[((e[a.toNat]!).1).toNat]!).2.2.2.2.2.2.1) ((d[((e[a.toNat]!).1).toNat]!).2.2.2.2.2.2.2.1) ((d[((e[a.toNat]!).1).toNat]!).2.2.2.2.2.2.2.2)),(Dw n ((e[a.toNat]!).1) ((e[a.toNat]!).2.1) ((e[a.toNat]!).2.2.1) ((e[a.toNat]!).2.2.2.1) (hi ((e[a.toNat]!).2.2.2.2)) (lo ((e[a.toNat]!).2.2.2.2))),[(h,47,(⟨Ay i⟩:Array Value))],[(x,35,(Ac m B))],H]) (cF tv) (λo w z_=>(Does.inv (Qt N ((e[a.toNat]!).1) ((e[a.toNat]!).2.1) ((e[a.toNat]!).2.2.1) ((e[a.toNat]!).2.2.2.1) ((e[a.toNat]!).2.2.2.2) a _ bo z_.view) _)) (λS A V=> ?_)
       refine rz Z<|Aa λdc bp=>Ad<|rn 1 Z<|rL (Sl.shp V) Z<|rz Z<|aE f Z (λbq f=> ?_) (λbq f=> ?_)
       ·refine Ad<|rn 1 Z<|rL (Rd.shp J) Z<|rz Z<|AG ?_
        refine fg _ (Sub.pick [(Fw u ((d[((e[a.toNat]!).1).toNat]!).1) ((d[((e[a.toNat]!).1).toNat]!).2.1) ((d[((e[a.toNat]!).1).toNat]!).2.2.1) ((d[((e[a.toNat]!).1).toNat]!).2.2.2.1) ((d[((e[a.toNat]!).1).toNat]!).2.2.2.2.1) ((d[((e[a.toNat]!).1).toNat]!).2.2.2.2.2.1) ((d[((e[a.toNat]!).1).toNat]!).2.2.2.2.2.2.1) ((d[((e[a.toNat]!).1).toNat]!).2.2.2.2.2.2.2.1) ((d[((e[a.toNat]!).1).toNat]!).2.2.2.2.2.2.2.2)),(Dw n ((e[a.toNat]!).1) ((e[a.toNat]!).2.1) ((e[a.toNat]!).2.2.1) ((e[a.toNat]!).2.2.2.1) (hi ((e[a.toNat]!).2.2.2.2)) (lo ((e[a.toNat]!).2.2.2.2))),[(h,47,(⟨Ay i⟩:Array Value))],[(x,35,(Ac m B))],H,A] [2,3] Z) ?_
        exact⟨q+1,by omega,q,(e.length:Int),g,i,f,Ag Z Z,Z⟩
       refine Ab<|bp _ _ ?_
       refine AZ Z ?_
       refine Cb (λtt ll=> ∃(y:Int),(Bw N m e a g i (shunterlaw15_FlowSound_v1_l7 N m e s j q) d I y=some r)/\Is [(1,v),(3,vP x 0),(9,p),(10,U j.1),(13,vP h 0),(15,vI g),(16,vP n 0),(17,vP u 0),(18,S),(19,vI y)] (List.flatten [(Fw u ((d[((e[a.toNat]!).1).toNat]!).1) ((d[((e[a.toNat]!).1).toNat]!).2.1) ((d[((e[a.toNat]!).1).toNat]!).2.2.1) ((d[((e[a.toNat]!).1).toNat]!).2.2.2.1) ((d[((e[a.toNat]!).1).toNat]!).2.2.2.2.1) ((d[((e[a.toNat]!).1).toNat]!).2.2.2.2.2.1) ((d[((e[a.toNat]!).1).toNat]!).2.2.2.2.2.2.1) ((d[((e[a.toNat]!).1).toNat]!).2.2.2.2.2.2.2.1) ((d[((e[a.toNat]!).1).toNat]!).2.2.2.2.2.2.2.2)),(Dw n ((e[a.toNat]!).1) ((e[a.toNat]!).2.1) ((e[a.toNat]!).2.2.1) ((e[a.toNat]!).2.2.2.1) (hi ((e[a.toNat]!).2.2.2.2)) (lo ((e[a.toNat]!).2.2.2.2))),[(h,47,(⟨Ay i⟩:Array Value))],[(x,35,(Ac m B))],A]) tt ll) ?_ ?_
       ·refine Aa λdd br=>Ah<|rn 1 Z<|rL (Sl.shp V) Z<|rn 2 Z<|AF 5 108 [(1,v),(3,vP x 0),(9,p),(10,U j.1),(13,vP h 0),(15,vI g),(16,vP n 0),(17,vP u 0),(18,S),(19,vI 0)] vB (λb_=>Cn N m e s a g i (shunterlaw15_FlowSound_v1_l7 N m e s j q) d I b_=some r) (λck f T=> ?_) (λC=> ?_)
        ·unfold Cn at f
         refine rn 1 Z<|AF 7 116 [(1,v),(3,vP x 0),(9,p),(10,U j.1),(13,vP h 0),(15,vI g),(16,vP n 0),(17,vP u 0),(18,S),(19,vI 0)] vB (λb_=>Cm N m e a g i (shunterlaw15_FlowSound_v1_l7 N m e s j q) d I b_=some r) (λde f T=> ?_) (λC=> ?_)
         ·unfold Cm at f
          refine Ak<|br _ _ ?_
          refine aB f Z (λbs f=> ?_) (λbs f=> ?_)
          ·refine Ah<|rz Z ?_
           refine fg _ (Sub.pick [(Fw u ((d[((e[a.toNat]!).1).toNat]!).1) ((d[((e[a.toNat]!).1).toNat]!).2.1) ((d[((e[a.toNat]!).1).toNat]!).2.2.1) ((d[((e[a.toNat]!).1).toNat]!).2.2.2.1) ((d[((e[a.toNat]!).1).toNat]!).2.2.2.2.1) ((d[((e[a.toNat]!).1).toNat]!).2.2.2.2.2.1) ((d[((e[a.toNat]!).1).toNat]!).2.2.2.2.2.2.1) ((d[((e[a.toNat]!).1).toNat]!).2.2.2.2.2.2.2.1) ((d[((e[a.toNat]!).1).toNat]!).2.2.2.2.2.2.2.2)),(Dw n ((e[a.toNat]!).1) ((e[a.toNat]!).2.1) ((e[a.toNat]!).2.2.1) ((e[a.toNat]!).2.2.2.1) (hi ((e[a.toNat]!).2.2.2.2)) (lo ((e[a.toNat]!).2.2.2.2))),[(h,47,(⟨Ay i⟩:Array Value))],[(x,35,(Ac m B))],H,A] [0,1,2,3,5] Z) ?_
           exact⟨1,f,Ag Z Z⟩
          refine Ab ?_
          refine fg _ (Sub.pick [(Fw u ((d[((e[a.toNat]!).1).toNat]!).1) ((d[((e[a.toNat]!).1).toNat]!).2.1) ((d[((e[a.toNat]!).1).toNat]!).2.2.1) ((d[((e[a.toNat]!).1).toNat]!).2.2.2.1) ((d[((e[a.toNat]!).1).toNat]!).2.2.2.2.1) ((d[((e[a.toNat]!).1).toNat]!).2.2.2.2.2.1) ((d[((e[a.toNat]!).1).toNat]!).2.2.2.2.2.2.1) ((d[((e[a.toNat]!).1).toNat]!).2.2.2.2.2.2.2.1) ((d[((e[a.toNat]!).1).toNat]!).2.2.2.2.2.2.2.2)),(Dw n ((e[a.toNat]!).1) ((e[a.toNat]!).2.1) ((e[a.toNat]!).2.2.1) ((e[a.toNat]!).2.2.2.1) (hi ((e[a.toNat]!).2.2.2.2)) (lo ((e[a.toNat]!).2.2.2.2))),[(h,47,(⟨Ay i⟩:Array Value))],[(x,35,(Ac m B))],H,A] [0,1,2,3,5] Z) ?_
          exact⟨0,f,Ag Z Z⟩
         rcases ac:ck with _|_
         ·replace f:=iB ac f
          refine rn 7 Z ?_
          exact C _ _ f Z Z
         replace f:=ifp ac f
         refine rn 2 Z<|r_y Z<|kC f λad f=>rI (Rd.shp Q) ad Z<|r_y Z<|rE (Aw Q) ad 0 Z<|rn 3 Z ?_
         exact C _ _ f Z Z
        rcases ae:(((I.length:Int)==2))with _|_
        ·replace f:=iG ae f
         refine rn 5 Z ?_
         exact C _ _ f Z Z
        replace f:=iE ae f
        refine rn 2 Z<|r_y Z<|rL (Rd.shp Q) Z<|rn 2 Z ?_
        exact C _ _ f Z Z
       clear f;rintro t l ⟨y,f,⟨T,rfl⟩,rfl⟩
       unfold Bw at f
       refine Cb (λtt ll=> ∃(z:Int) (D:W4),(BM g (shunterlaw15_FlowSound_v1_l7 N m e s j q) I z D=some r)/\Is [(1,v),(3,vP x 0),(9,p),(10,U j.1),(13,vP h 0),(15,vI g),(18,S),(19,vI z)] (List.flatten [[(h,47,(⟨Ay D⟩:Array Value))],[(x,35,(Ac m B))],A]) tt ll) ?_ ?_
       ·refine Ad<|rm 2 [0] Z<|r_W (vB (((d[((e[a.toNat]!).1).toNat]!).1)==([106,117,109,112,45,103,111,110,101]:W2))) Z (Cr Z Z)<|Ak<|aE f Z (λbt f=> ?_) (λbt f=> ?_)
        ·refine AZ Z<|Ad<|rm 2 [1] Z<|kC f λbu f=> ?_
         have af:=λc=>Fc (IJ (P:=prog) (c:=c) (t:=47) (b:=h) (off:=0) (k:= .i64) Z Z Z bu)
         simp only [q6] at af
         have ar:((e[a.toNat]!).2.1).toNat<64:=by omega
         refine r_W (Value.pointer (some ⟨h,((e[a.toNat]!).2.1).toNat,none⟩)) Z (af _)<|r_l (vB ((i).getLsbD (((e[a.toNat]!).2.1).toNat))) 2 _ _ _ _ Z Z Z Z (VO Z _ ar)<|rz Z<|BI _ Z (λK=> ?_) (λK=> ?_)
         ·replace f:=ifn (Bool.eq_false_iff.1 (Dk K)) f
          refine Ah<|rz Z ?_
          refine fg _ (Sub.pick [(Fw u ((d[((e[a.toNat]!).1).toNat]!).1) ((d[((e[a.toNat]!).1).toNat]!).2.1) ((d[((e[a.toNat]!).1).toNat]!).2.2.1) ((d[((e[a.toNat]!).1).toNat]!).2.2.2.1) ((d[((e[a.toNat]!).1).toNat]!).2.2.2.2.1) ((d[((e[a.toNat]!).1).toNat]!).2.2.2.2.2.1) ((d[((e[a.toNat]!).1).toNat]!).2.2.2.2.2.2.1) ((d[((e[a.toNat]!).1).toNat]!).2.2.2.2.2.2.2.1) ((d[((e[a.toNat]!).1).toNat]!).2.2.2.2.2.2.2.2)),(Dw n ((e[a.toNat]!).1) ((e[a.toNat]!).2.1) ((e[a.toNat]!).2.2.1) ((e[a.toNat]!).2.2.2.1) (hi ((e[a.toNat]!).2.2.2.2)) (lo ((e[a.toNat]!).2.2.2.2))),[(h,47,(⟨Ay i⟩:Array Value))],[(x,35,(Ac m B))],A] [2,3,4] Z) ?_
          exact⟨1,i,f,Ag Z Z⟩
         replace f:=ifp (Dl K) f
         refine Ab ?_
         refine fg _ (Sub.pick [(Fw u ((d[((e[a.toNat]!).1).toNat]!).1) ((d[((e[a.toNat]!).1).toNat]!).2.1) ((d[((e[a.toNat]!).1).toNat]!).2.2.1) ((d[((e[a.toNat]!).1).toNat]!).2.2.2.1) ((d[((e[a.toNat]!).1).toNat]!).2.2.2.2.1) ((d[((e[a.toNat]!).1).toNat]!).2.2.2.2.2.1) ((d[((e[a.toNat]!).1).toNat]!).2.2.2.2.2.2.1) ((d[((e[a.toNat]!).1).toNat]!).2.2.2.2.2.2.2.1) ((d[((e[a.toNat]!).1).toNat]!).2.2.2.2.2.2.2.2)),(Dw n ((e[a.toNat]!).1) ((e[a.toNat]!).2.1) ((e[a.toNat]!).2.2.1) ((e[a.toNat]!).2.2.2.1) (hi ((e[a.toNat]!).2.2.2.2)) (lo ((e[a.toNat]!).2.2.2.2))),[(h,47,(⟨Ay i⟩:Array Value))],[(x,35,(Ac m B))],A] [2,3,4] Z) ?_
         exact⟨0,i,f,Ag Z Z⟩
        refine Ah<|rm 3 [3,1,2] Z<|kB f λbv bw f=>gV _ (cF tu) (λo w z_=>(Does.inv (PE N m ((e[a.toNat]!).1) ((e[a.toNat]!).2.1) ((e[a.toNat]!).2.2.1) ((e[a.toNat]!).2.2.2.1) ((e[a.toNat]!).2.2.2.2) i _ bw z_.view B (Aa1.mono z_.ro_cell hm)) _))<|rn 4 Z ?_
        refine rm 1 [2] Z ?_
        refine Ak ?_
        refine fg _ (Sub.pick [(Fw u ((d[((e[a.toNat]!).1).toNat]!).1) ((d[((e[a.toNat]!).1).toNat]!).2.1) ((d[((e[a.toNat]!).1).toNat]!).2.2.1) ((d[((e[a.toNat]!).1).toNat]!).2.2.2.1) ((d[((e[a.toNat]!).1).toNat]!).2.2.2.2.1) ((d[((e[a.toNat]!).1).toNat]!).2.2.2.2.2.1) ((d[((e[a.toNat]!).1).toNat]!).2.2.2.2.2.2.1) ((d[((e[a.toNat]!).1).toNat]!).2.2.2.2.2.2.2.1) ((d[((e[a.toNat]!).1).toNat]!).2.2.2.2.2.2.2.2)),(Dw n ((e[a.toNat]!).1) ((e[a.toNat]!).2.1) ((e[a.toNat]!).2.2.1) ((e[a.toNat]!).2.2.2.1) (hi ((e[a.toNat]!).2.2.2.2)) (lo ((e[a.toNat]!).2.2.2.2))),[(h,47,(⟨Ay bv.1⟩:Array Value))],[(x,35,(Ac m B))],A] [2,3,4] Z) ?_
        exact⟨y,bv.1,f,Ag Z Z⟩
       clear f;rintro t l ⟨z,D,f,⟨T,rfl⟩,rfl⟩
       unfold BM at f
       refine Ad<|rn 1 Z<|kC f λbx f=>rX bx Z<|rz Z<|Ah<|rn 2 Z<|kC f λag f=>rI (Sl.shp V) ag Z<|rE (Ax V (Aj (Ls:=[[(h,47,(⟨Ay D⟩:Array Value))],[(x,35,(Ac m B))],A]) (k:=2) Z Z)) ag 0 Z<|rz Z<|fg _ (Sub.pick [[(h,47,(⟨Ay D⟩:Array Value))],[(x,35,(Ac m B))],A] [0,1] Z) ?_
       exact⟨q+1,by omega,q,I[z.toNat]!,(g+1),D,f,Ag Z Z,Z⟩
      rcases ah:cj with _|_
      ·replace f:=iB ah f
       refine rn 6 Z ?_
       exact C _ _ f Z Z
      replace f:=ifp ah f
      refine rn 1 Z<|r_y Z<|rm 1 [1] Z<|r_y Z<|kC f λbz f=> ?_
      have ai:=λc=>Fc (IJ (P:=prog) (c:=c) (t:=47) (b:=h) (off:=0) (k:= .i64) Z Z Z bz)
      simp only [q6] at ai
      have au:((e[a.toNat]!).2.1).toNat<64:=by omega
      refine r_W (Value.pointer (some ⟨h,((e[a.toNat]!).2.1).toNat,none⟩)) Z (ai _)<|r_y Z<|r_l (vB ((i).getLsbD (((e[a.toNat]!).2.1).toNat))) 2 _ _ _ _ Z Z Z Z (VO Z _ au)<|rn 2 Z ?_
      exact C _ _ f Z Z
     rcases aj:(((d[((e[a.toNat]!).1).toNat]!).1)==([102,105,101,108,100]:W2))with _|_
     ·replace f:=iG aj f
      refine rn 1 Z<|r_y Z<|rm 1 [0] Z<|r_y Z<|r_W (vB (((d[((e[a.toNat]!).1).toNat]!).1)==([112,117,116,45,102,105,101,108,100]:W2))) Z (Cr Z Z)<|rn 1 Z ?_
      exact C _ _ f Z Z
     replace f:=iE aj f
     refine rn 4 Z ?_
     exact C _ _ f Z Z
    refine AG<|bf _ _ ?_
    refine Aa λdf ak=>Ah<|rm 2 [0] Z<|kB f λcl ca f=>rc _ (cF tq) (Ql N i _ ca)<|kB f λcm cb f=>rc _ (cF tr) (SW N j.1 cl _ cb)<|rn 1 Z ?_
    rcases al:cm with _|_
    ·replace f:=iB al f
     refine rz Z<|ak _ _ ?_
     cases f
     exact aR eV1
    replace f:=ifp al f
    refine r_y Z<|kB f λdg cc f=>gV _ (cF fL) (λo w z_=>JX N  _ cc z_.view)<|rz Z<|ak _ _ ?_
    cases f
    exact aR eV1
   rcases am:b9 with _|_
   ·replace f:=iB am f
    refine rn 1 Z<|r_y Z<|rm 1 [0] Z<|r_y Z<|rL (Rd.shp ap) Z<|rn 2 Z ?_
    exact C _ _ f Z Z
   replace f:=ifp am f
   refine rn 5 Z ?_
   exact C _ _ f Z Z
  rcases an:b8 with _|_
  ·replace f:=iB an f
   refine rn 1 Z<|r_y Z<|rm 1 [0] Z<|r_y Z<|rL (Rd.shp ao) Z<|rn 2 Z ?_
   exact C _ _ f Z Z
  replace f:=ifp an f
  refine rn 5 Z ?_
  exact C _ _ f Z Z
 rcases L:(!(r6))with _|_
 ·replace f:=ifp (Dl L) f
  refine rn 1 Z<|r_y Z<|rL (Rd.shp J) Z<|rn 2 Z ?_
  exact C _ _ f Z Z
 replace f:=ifn (Bool.eq_false_iff.1 (Dk L)) f
 refine rn 4 Z ?_
 exact C _ _ f Z Z
end Go.Proofs.YtjlomkippigejaaGreatDoor
