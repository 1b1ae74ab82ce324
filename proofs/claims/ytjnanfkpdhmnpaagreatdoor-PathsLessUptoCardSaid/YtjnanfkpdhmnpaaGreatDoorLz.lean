import Derived.Test.YtjnanfkpdhmnpaaGreatDoorBm
import Derived.Test.YtjnanfkpdhmnpaaGreatDoorMd
import Derived.ProofKit
import Derived.Carry
import Derived.Lib.SmallJoins
import Derived.Test.YtjnanfkpdhmnpaaGreatDoorUt
import Derived.OpenShut
import Derived.Deep.Slices
import Derived.Test.YtjnanfkpdhmnpaaGreatDoorIo
import Derived.Test.YtjnanfkpdhmnpaaGreatDoorRows
import Derived.LaidMore
import Derived.Handed
import Derived.Shelf.Vars
import Derived.MakeChecks
import Derived.Stop.Joined
import Derived.SizedLaws
namespace Go.Proofs.YtjnanfkpdhmnpaaGreatDoor
open Go Go.RowKit Go.Eng _root_.Go.Proofs.Tryz
set_option linter.unusedSimpArgs false
set_option linter.unusedVariables false
set_option maxRecDepth 100000
set_option maxHeartbeats 80000000
abbrev aG(b:Nat)(x0 x1:Y2)(x2:W4)(x3:Int):Y0 Bl:=[(b,44, #[x0,x1,U x2,vI x3])]
abbrev aF(b:Nat)(x0 x1 x2 x3:Int):Y0 Bl:=[(b,58, #[vI x0,vI x1,vI x2,vI x3])]
abbrev aC(b:Nat)(x0 x1 x2:Int):Y0 Bl:=[(b,80, #[vI x0,vI x1,vI x2])]
theorem kw{c:Addr->Y1 Y2}{x}{vs:Y0 Y2}(h:(iV).V c x vs):(Ad1).R c x vs:=by obtain⟨_,_,rfl,⟨_,_,⟨s0,rfl,h0⟩,⟨_,_,rfl,⟨_,_,rfl,⟨_,_,rfl,rfl,rfl⟩,rfl⟩,rfl⟩,rfl⟩,rfl⟩:=h;exact⟨s0,h0,Z⟩
def BE(N:Nat):Y1 Y3:=(Kg N).bind λb=>(BM N b false (5#64)).bind λa=>Aa0.on a.2.2.2.2 (if a.2.2.1=(5#64)then some (a.2.2.2.1==0)else some false) (λ_ _ _ _=>some false) (λ_ _ _=>some false)
theorem Du(N r)(hM:BE N=some r)(ro:Ro):DoesI prog 5 #[] Gt ro [] (pV (vB r)):=by
 unfold BE at hM
 refine Bq follows func5 Z 20 Z _ fz0 Bm (λbase0_=> ?_)
 refine AZ Z<|Aa λK2 hK2=>Ah<|kB hM λr3 hr4 hM=>gM (Ls:=[]) (FL:=[]) [] (cF xa) (λo w hn_ z_=>(V3 (QQ N  _ hr4 _) _)) ?_
 rintro _ _ ⟨s44,S45,_,H46,⟨s41,S42,_,H43,⟨s38,S39,_,H40,⟨s35,S36,_,H37,⟨s32,S33,_,H34,⟨s29,S30,_,H31,⟨s26,S27,_,H28,⟨s23,S24,_,H25,⟨s20,S21,_,H22,⟨s17,S18,_,H19,⟨s14,S15,_,H16,⟨s11,S12,_,H13,⟨s8,S9,_,H10,⟨s5,S6,_,H7,⟨rfl,rfl⟩,rfl⟩,rfl⟩,rfl⟩,rfl⟩,rfl⟩,rfl⟩,rfl⟩,rfl⟩,rfl⟩,rfl⟩,rfl⟩,rfl⟩,rfl⟩,rfl⟩
 refine AK (Ls:=[S45,S42,S39,S36,S33,S30,S27,S24,S21,S18,S15,S12,S9,S6]) (Ls':=[S45,S42,S39,S36,S33,S30,S27,S24,S21,S18,S15,S12,S9,S6]) [0,1,2,3,4,5,6,7,8,9,10,11,12,13] Z Z<|kB hM λr47 hr48 hM=>gM (Ls:=[S45,S42,S39,S36,S33,S30,S27,S24,S21,S18,S15,S12,S9,S6]) (FL:=[]) [] (cF Xi) (λo w hn_ z_=>Ik N r3 false (5#64) _ hr48 _ (s44,s41,s38,s35,s32,s29,s26,s23,s20,s17,s14,s11,s8,s5) ⟨(RdN.map (E':=Ad1) (SlO.view H46 (Fs (Ls:=[S45,S42,S39,S36,S33,S30,S27,S24,S21,S18,S15,S12,S9,S6]) (is:=[]) 0 Z Z hn_ z_)) Z (λ_ _ h_=>kw h_)),(Ja (Ls:=[S45,S42,S39,S36,S33,S30,S27,S24,S21,S18,S15,S12,S9,S6]) (is:=[]) 1 H43 Z Z hn_ z_),(Ja (Ls:=[S45,S42,S39,S36,S33,S30,S27,S24,S21,S18,S15,S12,S9,S6]) (is:=[]) 2 H40 Z Z hn_ z_),(RdN.map (E':=Ad8) (SlO.view H37 (Fs (Ls:=[S45,S42,S39,S36,S33,S30,S27,S24,S21,S18,S15,S12,S9,S6]) (is:=[]) 3 Z Z hn_ z_)) Z (λ_ _ h_=>Uv h_)),(RdN.map (E':=Ac7) (SlO.view H34 (Fs (Ls:=[S45,S42,S39,S36,S33,S30,S27,S24,S21,S18,S15,S12,S9,S6]) (is:=[]) 4 Z Z hn_ z_)) Z (λ_ _ h_=>SL h_)),(RdN.map (E':=Ad4) (SlO.view H31 (Fs (Ls:=[S45,S42,S39,S36,S33,S30,S27,S24,S21,S18,S15,S12,S9,S6]) (is:=[]) 5 Z Z hn_ z_)) Z (λ_ _ h_=>SM h_)),(RdN.map (E':=Ab9) (SlO.view H28 (Fs (Ls:=[S45,S42,S39,S36,S33,S30,S27,S24,S21,S18,S15,S12,S9,S6]) (is:=[]) 6 Z Z hn_ z_)) Z (λ_ _ h_=>NV h_)),(RdN.map (E':=Ab9) (SlO.view H25 (Fs (Ls:=[S45,S42,S39,S36,S33,S30,S27,S24,S21,S18,S15,S12,S9,S6]) (is:=[]) 7 Z Z hn_ z_)) Z (λ_ _ h_=>NV h_)),(Ja (Ls:=[S45,S42,S39,S36,S33,S30,S27,S24,S21,S18,S15,S12,S9,S6]) (is:=[]) 8 H22 Z Z hn_ z_),(Ja (Ls:=[S45,S42,S39,S36,S33,S30,S27,S24,S21,S18,S15,S12,S9,S6]) (is:=[]) 9 H19 Z Z hn_ z_),(Ja (Ls:=[S45,S42,S39,S36,S33,S30,S27,S24,S21,S18,S15,S12,S9,S6]) (is:=[]) 10 H16 Z Z hn_ z_),(Ja (Ls:=[S45,S42,S39,S36,S33,S30,S27,S24,S21,S18,S15,S12,S9,S6]) (is:=[]) 11 H13 Z Z hn_ z_),(Ja (Ls:=[S45,S42,S39,S36,S33,S30,S27,S24,S21,S18,S15,S12,S9,S6]) (is:=[]) 12 H10 Z Z hn_ z_),(Ja (Ls:=[S45,S42,S39,S36,S33,S30,S27,S24,S21,S18,S15,S12,S9,S6]) (is:=[]) 13 H7 Z Z hn_ z_)⟩) ?_
 rcases Aa0.cases r47.2.2.2.2 with hx55|⟨x56_0,x57_1,x58_2,x59_3,hx55⟩|⟨x60_0,x61_1,x62_2,hx55⟩
 ·rintro _ _ ⟨s52,S53,_,H54,⟨s49,S50,_,H51,hp_,rfl⟩,rfl⟩
  obtain⟨rfl,rfl⟩:=Aa0.onP_nil hx55 hp_
  replace hM:=Aa0.on_nil hx55 hM
  refine AK (Ls:=[S45,S42,S39,S36,S33,S30,S27,S24,S21,S18,S15,S12,S9,S6,S53,S50]) (Ls':=[S45,S42,S39,S36,S33,S30,S27,S24,S21,S18,S15,S12,S9,S6,S53,S50]) [0,1,2,3,4,5,6,7,8,9,10,11,12,13,14,15] Z Z<|rn 3 Z<|rA Z λb63=>r_s (V2 [(aG b63 s52 s49 r47.2.2.1 r47.2.2.2.1),S45,S42,S39,S36,S33,S30,S27,S24,S21,S18,S15,S12,S9,S6,S53,S50]) 0 _ _ _ _ _ (#[s52,s49,U r47.2.2.1,vI r47.2.2.2.1]) Z Z Z Z (.ofS Z Z (sS H54 (sS H51 (Ae Z (Ae Z AD))))) Z Z<|rz Z<|hK2 _ _ ?_
  refine Aa λK64 hK64=>Ah<|rn 4 Z<|r_y Z<|rm 1 [0] Z<|r_y Z<|r_X (vB (r47.2.2.1==(5#64))) Z (kR r47.2.2.1 (5#64)) Z<|rn 2 Z ?_
  rcases hg65:(r47.2.2.1==(5#64))with _|_
  ·replace hM:=iG hg65 hM
   refine rz Z<|hK64 _ _ ?_
   cases hM
   exact aR eV1
  replace hM:=iE hg65 hM
  refine rn 1 Z<|r_y Z<|ry [0] Z<|hK64 _ _ ?_
  cases hM
  exact aR eV1
 ·rintro _ _ ⟨s52,S53,_,H54,⟨s49,S50,_,H51,hp_,rfl⟩,rfl⟩
  obtain⟨b63,_,⟨rfl,rfl⟩,rfl⟩:=Aa0.onP_t56 hx55 hp_
  replace hM:=Aa0.on_t56 hx55 hM
  refine AK (Ls:=[S45,S42,S39,S36,S33,S30,S27,S24,S21,S18,S15,S12,S9,S6,S53,S50,(aF b63 x56_0 x57_1 x58_2 x59_3)]) (Ls':=[(aF b63 x56_0 x57_1 x58_2 x59_3),S45,S42,S39,S36,S33,S30,S27,S24,S21,S18,S15,S12,S9,S6,S53,S50]) [16,0,1,2,3,4,5,6,7,8,9,10,11,12,13,14,15] Z Z<|rn 3 Z<|rA Z λb64=>r_s (V2 [(aG b64 s52 s49 r47.2.2.1 r47.2.2.2.1),(aF b63 x56_0 x57_1 x58_2 x59_3),S45,S42,S39,S36,S33,S30,S27,S24,S21,S18,S15,S12,S9,S6,S53,S50]) 0 _ _ _ _ _ (#[s52,s49,U r47.2.2.1,vI r47.2.2.2.1]) Z Z Z Z (.ofS Z Z (sS H54 (sS H51 (Ae Z (Ae Z AD))))) Z Z<|rz Z<|hK2 _ _ ?_
  refine AZ Z ?_
  cases hM
  exact aR eV1
 rintro _ _ ⟨s52,S53,_,H54,⟨s49,S50,_,H51,hp_,rfl⟩,rfl⟩
 obtain⟨b63,_,⟨rfl,rfl⟩,rfl⟩:=Aa0.onP_t78 hx55 hp_
 replace hM:=Aa0.on_t78 hx55 hM
 refine AK (Ls:=[S45,S42,S39,S36,S33,S30,S27,S24,S21,S18,S15,S12,S9,S6,S53,S50,(aC b63 x60_0 x61_1 x62_2)]) (Ls':=[(aC b63 x60_0 x61_1 x62_2),S45,S42,S39,S36,S33,S30,S27,S24,S21,S18,S15,S12,S9,S6,S53,S50]) [16,0,1,2,3,4,5,6,7,8,9,10,11,12,13,14,15] Z Z<|rn 3 Z<|rA Z λb64=>r_s (V2 [(aG b64 s52 s49 r47.2.2.1 r47.2.2.2.1),(aC b63 x60_0 x61_1 x62_2),S45,S42,S39,S36,S33,S30,S27,S24,S21,S18,S15,S12,S9,S6,S53,S50]) 0 _ _ _ _ _ (#[s52,s49,U r47.2.2.1,vI r47.2.2.2.1]) Z Z Z Z (.ofS Z Z (sS H54 (sS H51 (Ae Z (Ae Z AD))))) Z Z<|rz Z<|hK2 _ _ ?_
 refine AZ Z ?_
 cases hM
 exact aR eV1
def IQ(N:Nat)(s a:W4):Y1 Y3:=(Cr N s a).bind λb=>some (b==s)
theorem Tv(N s t' r)(hM:IQ N s t'=some r):Gives prog 7 #[U s,U t'] (vB r):=by
 unfold IQ at hM
 refine Au follows func7 Z 10 Z _ fz2 (λbase0_=> ?_)
 refine AZ Z<|Ad<|rn 2 Z<|kB hM λr3 hr4 hM=>rc _ (cF Vy) (LL N s t' _ hr4)<|rn 1 Z<|r_X (vB (r3==s)) Z (kR r3 s) Z<|rz Z ?_
 cases hM
 exact aR eE1
end Go.Proofs.YtjnanfkpdhmnpaaGreatDoor
namespace Go.Eng
open Go Go.RowKit Go.ChangeShapes Go.WideShapes Go.ChangeAt Go.Joins Go.Deep Go.WideElems
section
variable {H:Type} {enc:TypeId×Y2->H} {P:Program}
theorem Sa(hl:laidOutB P=true){W W':World}(hb:Below W.heap.size W W'): ∀{ts:Y0 TypeId} {vs:Y0 Y2} {ds:Y0 (DataW H)} {ps:Y0 MemPlace},
  ts.all (λt=>P.readableRec t&&decide (t<P.types.size))=true->DataW.TrodAll enc P W 0 (λ_=>true) true ts vs ds ps->DataW.TrodAll enc P W' 0 (λb=>decide (b<W.heap.size)) true ts vs ds ps
 | [],vs,ds,ps,_,h=>by
  obtain⟨rfl,rfl,rfl⟩:=trodAll_nil h
  rfl
 |t::ts,vs,ds,ps,hr,h=>by
  simp only [List.all_cons,Bool.and_eq_true,decide_eq_true_eq] at hr
  have hlt:=DataW.TrodAll.lt h
  obtain⟨v,vs',d,ds',p,q,rfl,rfl,rfl,h1,h2⟩:=trodAll_cons h
  exact⟨p,q,Below.trod hl hr.1.1 hr.1.2 h1 hb (λx hx=>hlt x (by simp [hx])),Sa hl hb (by simpa only [List.all_eq_true,Bool.and_eq_true,decide_eq_true_eq] using hr.2) h2,Z⟩
theorem mN{f:Func}{s:ChangeSpec}{T:TypeId}{W W':World}{args:Array Y2}{ds gs:Y0 (DataW H)}{before:Y0 MemPlace}(hl:laidOutB P=true)(hr:f.params.toList.all (λt=>P.readableRec t&&decide (t<P.types.size))=true)(hT:P.underlying T=some .bool)(hres:f.resultTypes= #[T])(hv:s.vars=[])(hW:DataW.Whole enc P f.params.toList s.vars false W args.toList ds gs before)(hs:s.fn H (ds++gs)={results:=[.lit (.bool true)],args:=ds})(hb:Below W.heap.size W W'):
  s.post enc P f false true false false W args (.bool true) W':=by
 have hW0:=hW
 obtain⟨p,q,hA,hV,rfl,hz,_⟩:=hW
 rw [hv] at hV
 obtain⟨rfl,rfl⟩:=trodVars_none hV
 refine⟨ds,[],p++ [],[],p,[],hW0, ?_, ?_, ?_, ?_,λh=>nomatch h⟩
 ·rw [hs,hres];exact trodAll_mk1 (shut_bool hT true)
 ·rw [hs];exact Sa hl hb hr hA
 ·rw [hs,hv];rfl
 ·exact hb.frame _
end
theorem TN{a:Int}(h:(Lit.int .u64 a).wf=true): ∃x:W4,a=(x.toNat:Int):=by
 simp [Lit.wf,IntKind.min,IntKind.max,IntKind.signed,IntKind.bits] at h
 refine⟨BitVec.ofNat 64 a.toNat, ?_⟩
 rw [BitVec.toNat_ofNat];omega
theorem NU{a:Int}(h:(Lit.int .i64 a).wf=true): -9223372036854775808<=a/\a<=9223372036854775807:=by
 simp [Lit.wf,IntKind.min,IntKind.max,IntKind.signed,IntKind.bits] at h
 omega
end Go.Eng
namespace Go.Eng
open Go Go.RowKit Go.ChangeShapes Go.WideShapes Go.ChangeAt Go.Joins Go.Deep
section
variable {H:Type} {enc:TypeId×Y2->H} {P:Program} {W:World} {base:Nat} {held:Y3} {r:Reach} {b0:Nat} {t e:TypeId} {v:Y2} {d:DataW H} {p:Y0 MemPlace}
theorem kL{a:Addr}{u:Y2}(h:W.cell? a=some u):a.spot=none:=by
 unfold World.cell? at h
 split at h
 ·split at h
  ·cases h
  ·rename_i hs;simpa using hs
 ·cases h
end
end Go.Eng
namespace Go.Proofs.YtjnanfkpdhmnpaaGreatDoor
open Go Go.RowKit Go.Eng
theorem sx{W:World}(h:laidMetH Tryz.prog [("shunter/image.metaWidths",Rows.laid_shunter_image_metaWidths)] W)(hs:W.ShapedOpen Tryz.prog):Gt W:=by
 rw [MakeChecks.laidMetH_plain _ _ _ (by kernel_rfl)] at h
 refine⟨?_, ?_, ?_, ?_⟩
 ·exact trivial
 ·exact trivial
 ·exact trivial
 ·exact Lib.tabIs_of_head (k:= .i64) (zs:=FE) (g:=0) (t:=362) (e:=3) (n:=8) (by kernel_rfl) (by kernel_rfl) (by kernel_rfl) (by kernel_rfl) (by kernel_rfl) (by kernel_rfl) (h)
end Go.Proofs.YtjnanfkpdhmnpaaGreatDoor
namespace Go.Eng
open Go Go.RowKit Go.ChangeShapes Go.WideShapes Go.ChangeAt Go.Joins Go.Deep
theorem gl{P:Program}{f:FuncId}{args:Array Y2}{inv:World->Prop}{v:Y2}{w:World}(h:DoesI P f args inv (λa=>w.cell? a) [] (pV v))(hi:inv w):Calls P f args w λe w'=>e= .returned v/\Below w.heap.size w w':=
 (h w hi (λ_ _ ha=>⟨ha,by simp⟩) (λ_ hx=>(nomatch hx)) List.nodup_nil).mono λe w' ⟨v',L,U,h1,h2,h3⟩=>by
  obtain⟨rfl,rfl,rfl⟩:=h3
  exact⟨h1,h2.os,h2.tape,h2.output,h2.size,λk hk=>h2.same k hk (λ_ hx=>(nomatch hx))⟩
end Go.Eng
namespace Go.Eng
open Go Go.RowKit Go.ChangeShapes Go.WideShapes Go.ChangeAt Go.Joins Go.Deep
section
variable {H:Type} {enc:TypeId×Y2->H} {P:Program} {W:World} {base:Nat} {held:Y3} {r:Reach} {b0:Nat} {t e:TypeId} {v:Y2} {d:DataW H} {p:Y0 MemPlace}
def Sd(P:Program)(t:TypeId)(d:DataW H):Prop:= ∀n∈d.weights P t,n<=reachBytes
end
end Go.Eng
