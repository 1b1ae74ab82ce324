import Derived.Test.YtjnanfkpdhmnpaaGreatDoorRun
import Derived.Laws.Externs
import Derived.Laws.StructEq
import Derived.Lib.BitFns
namespace Go.Eng
open Go Go.RowKit
def hi(x:W3):W4:=x.extractLsb' 64 64
def lo(x:W3):W4:=x.extractLsb' 0 64
theorem Tu(x:W3):(hi x).toNat=x.toNat / 2^64:=by
 have:=x.isLt
 simp [hi,BitVec.extractLsb'_toNat,Nat.shiftRight_eq_div_pow];omega
theorem Wl(x:W3):(lo x).toNat=x.toNat%2^64:=by
 simp [lo,BitVec.extractLsb'_toNat]
theorem Ux(h l:W4):(h++l:W3).toNat=h.toNat*2^64+l.toNat:=by
 rw [BitVec.toNat_append,<-Nat.shiftLeft_add_eq_or_of_lt l.isLt,Nat.shiftLeft_eq]
theorem fW(h l:W4):hi (h++l)=h:=by
 apply BitVec.eq_of_toNat_eq;rw [Tu,Ux];have:=l.isLt;omega
theorem fN(h l:W4):lo (h++l)=l:=by
 apply BitVec.eq_of_toNat_eq;rw [Wl,Ux];have:=l.isLt;omega
theorem BB:(∀h l:W4,hi (h++l)=h)/\ ∀h l:W4,lo (h++l)=l:=⟨fW,fN⟩
theorem iJ(x:W3):hi x++lo x=x:=by
 apply BitVec.eq_of_toNat_eq;rw [Ux,Tu,Wl];omega
theorem wQ{x y:W3}(h:hi x=hi y)(l:lo x=lo y):x=y:=by rw [<-iJ x,<-iJ y,h,l]
section
variable {P:Program} {c:Addr->Y1 Y2} {ρ:Operand->Y2} {d:Y1 Tmp} {t t':TypeId} {a b:Operand} {ty:TypeId} {pos:String} {af:Array Edge} {g:Y1 (Nat×Y3)} {x y:W4}
theorem wR{k:IntKind}{n:Nat}(hx:ρ a=U x)(hy:ρ b= .int k (n:Int)):ev P c (execOp ρ ⟨d, .binOp .shl t a b t',ty,pos,af,g⟩)=some (.value (.int .u64 (IntKind.u64.wrap ((x.toNat:Int)*2^(min n 64))))):=by
 refine GV (s:=do eqGuard .shl t a b (ρ a) (ρ b);binOp .shl t (ρ a) (ρ b)) ?_
 rw [hx,hy]
 have h1: ¬((n:Int)<0):=by omega
 have h2:ev P c (eqGuard .shl t a b (U x) (.int k (n:Int)))=some ():=Z
 simp only [Be,h2,q0,binOp,Op.shift,V9 h1,q4,Bv,IntKind.bits]
theorem WW{k:IntKind}{n:Nat}(hx:ρ a=U x)(hy:ρ b= .int k (n:Int)):ev P c (execOp ρ ⟨d, .binOp .shr t a b t',ty,pos,af,g⟩)=some (.value (.int .u64 ((x.toNat:Int).fdiv (2^(min n 64))))):=by
 refine GV (s:=do eqGuard .shr t a b (ρ a) (ρ b);binOp .shr t (ρ a) (ρ b)) ?_
 rw [hx,hy]
 have h1: ¬((n:Int)<0):=by omega
 have h2:ev P c (eqGuard .shr t a b (U x) (.int k (n:Int)))=some ():=Z
 simp only [Be,h2,q0,binOp,Op.shift,V9 h1,q4,Bv,IntKind.bits]
end
end Go.Eng
namespace Go.Eng
open Go Go.RowKit
def Dm(f:Nat->Y3):Array Y2:=Array.ofFn (n:=128) λi=> .bool (f i)
abbrev yN(x:W3):Array Y2:=Dm (BitVec.getLsbD x)
theorem Iw(f:Nat->Y3):(Dm f).size=128:=by simp [Dm]
theorem Ri{f g:Nat->Y3}(h: ∀j,j<128->f j=g j):Dm f=Dm g:=by
 unfold Dm;congr 1;funext i;rw [h i i.isLt]
theorem VO(f:Nat->Y3){k:Nat}(h:k<128):(Dm f)[k]? =some (.bool (f k)):=by
 simp [Dm,h]
theorem lF(f:Nat->Y3)(k:Nat)(b:Y3):(Dm f).setIfInBounds k (.bool b)=Dm (upd f k b):=by
 apply Array.ext'
 apply List.ext_getElem?
 intro j
 simp only [Array.toList_setIfInBounds,List.getElem?_set,Array.length_toList,Iw]
 by_cases hj:j<128
 ·have h1:=VO (upd f k b) hj
  have h2:=VO f hj
  rw [<-Array.getElem?_toList] at h1 h2
  rw [h1,h2]
  by_cases hkj:k=j
  ·subst hkj;simp [hj,upd]
  ·rw [V9 hkj,Cg _ _ (Ne.symm hkj)]
 ·have h1:(Dm (upd f k b)).toList[j]? =none:=by rw [List.getElem?_eq_none];rw [Array.length_toList,Iw];omega
  have h2:(Dm f).toList[j]? =none:=by rw [List.getElem?_eq_none];rw [Array.length_toList,Iw];omega
  rw [h1,h2]
  by_cases hkj:k=j
  ·subst hkj;simp [hj]
  ·rw [V9 hkj]
theorem QV(f:Nat->Y3)(k:Nat)(b:Y3):Jc (Dm f) k #[.bool b]=Dm (upd f k b):=by
 unfold Jc
 rw [V9 (by rw [Iw];simp),V8 (by simp)]
 exact lF f k b
theorem fq(cs vs:Array Y2)(h:vs.size=cs.size):Jc cs 0 vs=vs:=by
 unfold Jc;rw [V8 ⟨Z,h⟩]
theorem UB(f g:Nat->Y3):Jc (Dm f) 0 (Dm g)=Dm g:=fq _ _ (by rw [Iw,Iw])
theorem TO{P:Program}{e:TypeId}{i:TypeInfo}(hi:P.info? e=some i)(hs:i.size=1)(f:Nat->Y3){k:Nat}(b:Y3)(hk:k<128):StOk P e (Dm f) k #[.bool b]:=
 ⟨⟨i,hi,by rw [hs];rfl⟩,by rw [Iw];exact hk,λx hx=>by simp at hx;subst hx;rfl⟩
theorem YP{P:Program}{e:TypeId}{i:TypeInfo}(hi:P.info? e=some i)(hs:i.size=128)(f g:Nat->Y3):StOk P e (Dm f) 0 (Dm g):=
 ⟨⟨i,hi,by rw [hs,Iw]⟩,by rw [Iw,Iw];exact Nat.le_refl _,λx hx=>by
  obtain⟨j,hj,rfl⟩:=Array.mem_iff_getElem.1 hx
  simp [Dm];rfl⟩
theorem Vk{P:Program}{e:TypeId}(hu:P.underlying e=some .bool)(f:Nat->Y3){k:Nat}(hk:k<128):Iu P e (Dm f) k=some (.bool (f k)):=by
 unfold Iu;rw [hu];exact VO f hk
theorem ax{P:Program}{e n el:TypeId}{i:TypeInfo}(hu:P.underlying e=some (.array n el))(hi:P.info? e=some i)(hs:i.size=128)(f:Nat->Y3):Iu P e (Dm f) 0=some (.agg (Dm f)):=by
 unfold Iu;rw [hu,hi];simp only [hs,Iw,and_self,if_true]
theorem fC:(⟨List.replicate 128 (Value.bool false)⟩:Array Y2)=Dm (λ_=>false):=by
 apply Array.ext
 ·rw [Iw];exact zo
 ·intro i h1 h2
  simp only [Dm,Array.getElem_ofFn]
  exact List.getElem_replicate ..
theorem rr{P:Program}{t:TypeId}(h:((P.info? t).bind (·.zero))=some (.agg ⟨List.replicate 128 (.bool false)⟩)):((P.info? t).bind (·.zero)).map (λz=>(t,z.cells))=some (t,Dm λ_=>false):=by
 rw [h]
 show some (t,(⟨List.replicate 128 (Value.bool false)⟩:Array Y2))=_
 rw [fC]
theorem RA{P:Program}{c:Addr->Y1 Y2}(d:Nat){t:TypeId}{k k':IntKind}(a b:Int)(h:P.underlying t=some (.int k')):ev P c (Op.equalIn (d+1) t (.int k a) (.int k b))=some (a==b):=by
 simp [Op.equalIn,Be,BK h,Bv]
theorem ku{P:Program}{c:Addr->Y1 Y2}(d:Nat){t:TypeId}(a b:Y3)(h:P.underlying t=some .bool):ev P c (Op.equalIn (d+1) t (.bool a) (.bool b))=some (a==b):=by
 simp [Op.equalIn,Be,BK h,Bv]
theorem Lw{P:Program}{c:Addr->Y1 Y2}{t:TypeId}{de:TypeDesc}(h:P.underlying t=some de)(hs: ∀fs,de≠ .struct fs)(ha: ∀n e,de≠ .array n e)(cs:Array Y2)(off:Nat){v:Y2}(hv:cs[off]? =some v):ev P c (part t cs off)=some v:=by
 unfold part isAgg
 cases de<;>simp_all [Be,BK h,Bv]
theorem UK{P:Program}{c:Addr->Y1 Y2}(d:Nat){t:TypeId}{fs:Array Field}(xs ys:Array Y2)(ht:P.underlying t=some (.struct fs))(hp:P.stoodInHeld t=false)(g:Field->Y3)(h: ∀f∈fs.toList,f.name≠ "_"/\ ∃a b,ev P c (part f.type xs f.offset)=some a/\ev P c (part f.type ys f.offset)=some b/\ev P c (Op.equalIn d f.type a b)=some (g f)):
  ev P c (Op.equalIn (d+1) t (.agg xs) (.agg ys))=some (fs.toList.all g):=by
 have hst:ev P c (do pure (<-program):Sem Program)=some P:=Z
 simp only [Op.equalIn,Be,BK ht,q0]
 rw [show ev P c program=some P from Z]
 simp only [q0,hp,Bool.false_eq_true,if_false]
 rw [<-Array.forIn_toList]
 generalize fs.toList=l at h
 clear ht
 induction l with
 |nil=>simp [Bv]
 |cons f l ih=>
  obtain⟨hn,a,b,ha,hb,he⟩:=h f (by simp)
  have ih':=ih (λf hf=>h f (by simp [hf]))
  rw [Be] at ih'
  simp only [List.forIn_cons,Be,V8 hn,ha,hb,he,q0]
  cases hg:g f
  ·simp [hg,Bv]
  ·simp only [Bool.not_true,Bool.false_eq_true,if_false,Bv,q0,List.all_cons,hg,Bool.true_and]
   exact ih'
theorem bL(x y:W3):((((hi x).toNat:Int)==((hi y).toNat:Int))&&(((lo x).toNat:Int)==((lo y).toNat:Int)))=(x==y):=by
 rw [Bool.eq_iff_iff]
 simp only [Bool.and_eq_true,beq_iff_eq]
 constructor
 ·rintro⟨h1,h2⟩
  exact wQ (BitVec.eq_of_toNat_eq (by omega)) (BitVec.eq_of_toNat_eq (by omega))
 ·rintro rfl;exact⟨Z,Z⟩
theorem WY{P:Program}{c:Addr->Y1 Y2}{ρ:Operand->Y2}{d:Y1 Tmp}{t t':TypeId}{x y:Operand}{ty:TypeId}{pos:String}{af:Array Edge}{g:Y1 (Nat×Y3)}{xs ys:Array Y2}{b:Y3}(hx:ρ x= .agg xs)(hy:ρ y= .agg ys)(hg:P.eqGuardType P.depth t=false)(he:ev P c (Op.equal t (.agg xs) (.agg ys))=some b):
  ev P c (execOp ρ ⟨d, .binOp .eql t x y t',ty,pos,af,g⟩)=some (.value (.bool b)):=by
 refine GV (s:=do eqGuard .eql t x y (ρ x) (ρ y);binOp .eql t (ρ x) (ρ y)) ?_
 rw [hx,hy]
 have h1:ev P c (eqGuard .eql t x y (.agg xs) (.agg ys))=some ():=by
  simp [eqGuard,Be,program,ev,hg,Bv]
 simp only [Be,h1,q0,binOp,he,Bv]
theorem dC{P:Program}{c:Addr->Y1 Y2}{ρ:Operand->Y2}{d:Y1 Tmp}{t t':TypeId}{x y:Operand}{ty:TypeId}{pos:String}{af:Array Edge}{g:Y1 (Nat×Y3)}{xs ys:Array Y2}{b:Y3}(hx:ρ x= .agg xs)(hy:ρ y= .agg ys)(hg:P.eqGuardType P.depth t=false)(he:ev P c (Op.equal t (.agg xs) (.agg ys))=some b):
  ev P c (execOp ρ ⟨d, .binOp .neq t x y t',ty,pos,af,g⟩)=some (.value (.bool (!b))):=by
 refine GV (s:=do eqGuard .neq t x y (ρ x) (ρ y);binOp .neq t (ρ x) (ρ y)) ?_
 rw [hx,hy]
 have h1:ev P c (eqGuard .neq t x y (.agg xs) (.agg ys))=some ():=by
  simp [eqGuard,Be,program,ev,hg,Bv]
 simp only [Be,h1,q0,binOp,he,Bv]
theorem dD{P:Program}{c:Addr->Y1 Y2}{ρ:Operand->Y2}{d:Y1 Tmp}{t t':TypeId}{x y:Operand}{ty:TypeId}{pos:String}{af:Array Edge}{g:Y1 (Nat×Y3)}{a b:Y3}(ht:P.underlying t=some .bool)(hx:ρ x= .bool a)(hy:ρ y= .bool b):ev P c (execOp ρ ⟨d, .binOp .neq t x y t',ty,pos,af,g⟩)=some (.value (.bool (a !=b))):=by
 refine GV (s:=do eqGuard .neq t x y (ρ x) (ρ y);binOp .neq t (ρ x) (ρ y)) ?_
 rw [hx,hy]
 have h1:ev P c (eqGuard .neq t x y (.bool a) (.bool b))=some ():=by simp [eqGuard,Bv]
 simp only [Be,h1,q0,binOp,Op.equal,ku _ a b ht,Bv,Op.maxDepth,bne]
theorem tf{P:Program}{c:Addr->Y1 Y2}{ρ:Operand->Y2}{d:Y1 Tmp}{t t':TypeId}{x y:Operand}{ty:TypeId}{pos:String}{af:Array Edge}{g:Y1 (Nat×Y3)}{a b:ByteArray}(hx:ρ x= .string a)(hy:ρ y= .string b):ev P c (execOp ρ ⟨d, .binOp .eql t x y t',ty,pos,af,g⟩)=some (.value (.bool (a==b))):=by
 refine GV (s:=do eqGuard .eql t x y (ρ x) (ρ y);binOp .eql t (ρ x) (ρ y)) ?_
 rw [hx,hy]
 have h1:ev P c (eqGuard .eql t x y (.string a) (.string b))=some ():=by simp [eqGuard,Bv]
 simp only [Be,h1,q0,binOp,Op.stringOp,Bv,beq_toListBytes]
end Go.Eng
namespace Go.Eng
structure yG(u d y1 y0 q r:Nat):Prop where
 heq:q*y1+r=u
 hge:(u*4294967296+d) / (y1*4294967296+y0)<=q
 hr:r<4294967296
 hq:q<=4294967297
structure xi(u d y1 y0:Nat):Prop where
 hy1lo:2147483648<=y1
 hy1hi:y1<4294967296
 hy0:y0<4294967296
 hd:d<4294967296
 hu:u<y1*4294967296+y0
def qd(u d y:W4):Nat:=(u.toNat*4294967296+d.toNat) / y.toNat
structure ze(u d y1 y0 y:W4):Prop where
 hy:y.toNat=y1.toNat*4294967296+y0.toNat
 hD:xi u.toNat d.toNat y1.toNat y0.toNat
def za(u d a b q r:W4):Prop:=yG u.toNat d.toNat a.toNat b.toNat q.toNat r.toNat
section
variable {u d y1 y0 y q r:W4}
end
theorem bE: ∀(x:Nat),x<2^64->x<2^Lib.bitLen x/\(x≠0->1<=Lib.bitLen x/\2^(Lib.bitLen x - 1)<=x)/\Lib.bitLen x<=64:=by
 have key: ∀(f x:Nat),f<=64->x<2^f->x<2^Lib.bitLen x/\(x≠0->1<=Lib.bitLen x/\2^(Lib.bitLen x - 1)<=x)/\Lib.bitLen x<=f:=by
  intro f
  induction f with
  |zero=>
   intro x _ hx
   have:x=0:=by simpa using hx
   subst this
   have h0:Lib.bitLen 0=0:=by decide+kernel
   rw [h0]
   exact⟨by decide,λh=>absurd Z h,by decide⟩
  |succ f ih=>
   intro x hf hx
   by_cases h0:x=0
   ·subst h0
    have h0:Lib.bitLen 0=0:=by decide+kernel
    rw [h0]
    exact⟨by decide,λh=>absurd Z h,by omega⟩
   ·have hx64:x<2^64:=j4 hx (Nat.pow_le_pow_right (by decide) hf)
    rw [Lib.bitLen_half x h0 hx64]
    obtain⟨i1,i2,i3⟩:=ih (x / 2) (by omega) (by rw [Nat.pow_succ] at hx;omega)
    refine⟨?_,λ_=>⟨by omega, ?_⟩,by omega⟩
    ·rw [Nat.pow_add];omega
    ·rw [Nat.add_sub_cancel_left]
     by_cases h2:x / 2=0
     ·have:x=1:=by omega
      subst this;decide+kernel
     ·obtain⟨j1,j2⟩:=i2 h2
      have:2^Lib.bitLen (x / 2)=2*2^(Lib.bitLen (x / 2) - 1):=by
       rw [<-Nat.pow_succ'];congr 1;omega
      omega
 exact λx hx=>key 64 x (Nat.le_refl _) hx
def lz(y:W4):Nat:=64 - Lib.bitLen y.toNat
def sh(y:W4):W4:=BitVec.ofNat 64 (lz y)
def un(h l y:W4):W4:=h<<<(sh y).toNat|||l>>>(64#64 - sh y).toNat
def u10(l y:W4):W4:=l<<<(sh y).toNat
def d1(l y:W4):W4:=u10 l y>>>32
def d0(l y:W4):W4:=u10 l y&&&4294967295#64
end Go.Eng
namespace Go.Eng
open Go Go.RowKit
def ck{α:Type}(c:Prop)[Decidable c](k:Y1 α):Y1 α:=if c then k else none
theorem LN{α:Type}{c:Prop}[Decidable c]{k:Y1 α}{r:α}(h:ck c k=some r):c/\k=some r:=by
 unfold ck at h;split at h
 ·exact⟨by assumption,h⟩
 ·cases h
theorem Af{α:Type}{c:Prop}[Decidable c](k:Y1 α)(h:c):ck c k=k:=V8 h
theorem bF{α β:Type}{x:Y1 α}{f:α->Y1 β}{r:β}(h:x.bind f=some r): ∃y,x=some y/\f y=some r:=by
 cases x with
 |none=>cases h
 |some y=>exact⟨y,Z,h⟩
theorem ifp{α:Type}{c:Prop}[Decidable c]{a b r:α}(hc:c)(h:(if c then a else b)=r):a=r:=by rwa [V8 hc] at h
theorem ifn{α:Type}{c:Prop}[Decidable c]{a b r:α}(hc: ¬c)(h:(if c then a else b)=r):b=r:=by rwa [V9 hc] at h
theorem DG{b:Y3}(h:(!b)=true):b=false:=by cases b<;>first|rfl|cases h
theorem DH{b:Y3}(h:(!b)=false):b=true:=by cases b<;>first|rfl|cases h
theorem yx{α:Type}[BEq α][LawfulBEq α]{a b:α}(h:(a !=b)=false): ¬a≠b:=λhn=>absurd (bne_iff_ne.2 hn) (by rw [h];decide)
section
variable {P:Program} {c:Addr->Y1 Y2} {ρ:Operand->Y2} {d:Y1 Tmp} {ty t t':TypeId} {pos:String} {af:Array Edge} {g:Y1 (Nat×Y3)} {x y:Operand}
def JN(l:W2)(i:Int):Int:=((l.getD i.toNat 0).toNat:Int)
theorem HL{l:W2}{i:Int}{k:IntKind}(ht:P.underlying t=some .string)(hi:0<=i/\i<(l.length:Int)):ev P c (Instr.index t (.string ⟨l.toArray⟩) (.int k i))=some (.int .u8 (JN l i)):=by
 unfold Instr.index
 have hlt:i.toNat<l.length:=by omega
 have hget:(⟨l.toArray⟩:ByteArray)[i.toNat]? =some (l.getD i.toNat 0):=by
  have h1:i.toNat<(⟨l.toArray⟩:ByteArray).size:=by simpa [ByteArray.size] using hlt
  rw [getElem?_pos (⟨l.toArray⟩:ByteArray) i.toNat h1]
  show some (l.toArray[i.toNat])=_
  simp [zv hlt]
 simp only [Be,asIntOf,Bv,BK ht,q0,V8 hi.1,hget,JN]
theorem NN{l:W2}{ts:Array TypeId}(hts:ts= #[t])(ht:P.underlying t=some .string)(hx:ρ x= .string ⟨l.toArray⟩):
  ev P c (execOp ρ ⟨d, .call ⟨.builtin .len, #[x],ts⟩,ty,pos,af,g⟩)=some (.value (.int .i64 ((l.length:Nat):Int))):=by
 subst hts
 have h2:ev P c (Builtin.len_ #[t] ty #[V4 ⟨l.toArray⟩])=some (.int .i64 ((l.length:Nat):Int)):=by
  have h3:ev P c (do match<-underlying t,V4 ⟨l.toArray⟩with
   | .string, .string s=>pure (goInt s.size)
   |_,_=>stuck "":Sem Y2)=some (.int .i64 ((l.length:Nat):Int)):=by
   rw [Be,BK ht]
   show some (Value.int .i64 ((l.toArray.size:Nat):Int))=_
   simp
  show ev P c (underlying t>>=λu=>_)=_
  rw [Be,BK ht]
  show some (Value.int .i64 ((l.toArray.size:Nat):Int))=_
  simp
 show ev P c (do let d<-resolve ρ ⟨.builtin .len, #[x], #[t]⟩ ty;invoke d.target d.args)=_
 simp [resolve,invoke,builtin,SK,h2,hx]
theorem uI(a b:W2):((⟨a.toArray⟩:ByteArray)==⟨b.toArray⟩)=(a==b):=by
 show(a.toArray==b.toArray)=_
 simp
theorem FQ{a b:W2}(hx:ρ x= .string ⟨a.toArray⟩)(hy:ρ y= .string ⟨b.toArray⟩):ev P c (execOp ρ ⟨d, .binOp .eql t x y t',ty,pos,af,g⟩)=some (.value (.bool (a==b))):=by
 rw [tf hx hy,uI]
theorem gg{l:W2}{i:Int}{k:IntKind}(ht:P.underlying t=some .string)(h:0<=i/\i<=(l.length:Int)):ev P c (Instr.slice t (.string ⟨l.toArray⟩) (some (.int k i)) none none)=some (.string ⟨(l.drop i.toNat).toArray⟩):=by
 obtain⟨h0,h2⟩:=h
 have hs:(⟨l.toArray⟩:ByteArray).size=l.length:=by simp [ByteArray.size]
 have e:(⟨l.toArray⟩:ByteArray).extract i.toNat l.length=⟨(l.drop i.toNat).toArray⟩:=by
  apply ByteArray.ext
  rw [ByteArray.data_extract]
  apply Array.ext'
  simp [y4]
 unfold Instr.slice
 simp only [Be,BK ht,q0,Instr.sliceBounds,Instr.sliceBound,asIntOf,Bv,hs,Option.isSome_none,Bool.false_eq_true,if_false]
 rw [V8 ⟨h0,h2⟩]
 simp only [Bv,q0,e]
theorem jt(x:Int):Value.int .u64 (IntKind.u64.wrap x)=U (BitVec.ofInt 64 x):=by
 congr 1
 simp only [IntKind.wrap,IntKind.signed,IntKind.bits,BitVec.toNat_ofInt]
 simp
 omega
end
theorem Tw{P:Program}{c:Addr->Y1 Y2}{t:TypeId}{b off n:Nat}{e:TypeId}{i:TypeInfo}{k:IntKind}{j:Int}(hu:P.underlying t=some (.array n e))(hi:P.info? e=some i)(hs:i.size=1)(hj:0<=j/\j<(n:Int)):
  ev P c (Instr.indexAt t (.pointer (some ⟨b,off,none⟩)) (.int k j))=some (.pointer (some ⟨b,off+j.toNat,none⟩)):=by
 unfold Instr.indexAt
 have hadd:(⟨b,off,none⟩:Addr).add j.toNat=⟨b,off+j.toNat,none⟩:=by unfold Addr.add;split<;>simp_all
 simp only [asIntOf,Be,Bv,q0,BK hu,Instr.sureAddr]
 rw [V8 hj]
 simp only [Be,Ie hi,hs,q0,Bv,Nat.mul_one,hadd]
def bU(x:W3)(k:Nat)(b:Y3):W3:=if b then x|||BitVec.twoPow 128 k else x&&&~~~(BitVec.twoPow 128 k)
theorem lu(x:W3)(k:Nat)(b:Y3)(j:Nat)(hk:k<128):(bU x k b).getLsbD j=if j=k then b else x.getLsbD j:=by
 unfold bU
 by_cases hj:j<128
 ·by_cases h:j=k
  ·subst h;cases b<;>simp [hj]
  ·have h': ¬k=j:=λe=>h e.symm
   cases b<;>simp [h,hj]
 ·rw [BitVec.getLsbD_of_ge _ _ (by omega),V9 (by omega),BitVec.getLsbD_of_ge _ _ (by omega)]
theorem jJ(x:W3)(k:Nat)(b:Y3)(hk:k<128):Dm (upd (BitVec.getLsbD x) k b)=Dm (BitVec.getLsbD (bU x k b)):=Ri λj _=>by
 rw [lu x k b j hk];rfl
theorem bZ:Dm (λ_=>false)=Dm (BitVec.getLsbD 0#128):=Ri λj _=>by simp
end Go.Eng
