import Derived.Test.YtjlomkippigejaaGreatDoorRun
import Derived.Laws.Externs
import Derived.Laws.StructEq
import Derived.Lib.BitFns
namespace Go.Eng
open Go Go.RowKit
def hi(x:W3):W4:=x.extractLsb' 64 64
def lo(x:W3):W4:=x.extractLsb' 0 64
theorem ST(x:W3):(hi x).toNat=x.toNat / 2^64:=by
 have:=x.isLt
 simp [hi,BitVec.extractLsb'_toNat,Nat.shiftRight_eq_div_pow];omega
theorem VM(x:W3):(lo x).toNat=x.toNat%2^64:=by
 simp [lo,BitVec.extractLsb'_toNat]
theorem Ua(h l:W4):(h++l:W3).toNat=h.toNat*2^64+l.toNat:=by
 rw [BitVec.toNat_append,<-Nat.shiftLeft_add_eq_or_of_lt l.isLt,Nat.shiftLeft_eq]
theorem lP(h l:W4):hi (h++l)=h:=by
 apply BitVec.eq_of_toNat_eq;rw [ST,Ua];have:=l.isLt;omega
theorem lp(h l:W4):lo (h++l)=l:=by
 apply BitVec.eq_of_toNat_eq;rw [VM,Ua];have:=l.isLt;omega
theorem Br:(∀h l:W4,hi (h++l)=h)/\ ∀h l:W4,lo (h++l)=l:=⟨lP,lp⟩
theorem gN(x:W3):hi x++lo x=x:=by
 apply BitVec.eq_of_toNat_eq;rw [Ua,ST,VM];omega
theorem vK{x y:W3}(h:hi x=hi y)(l:lo x=lo y):x=y:=by rw [<-gN x,<-gN y,h,l]
section
variable {P:Program} {c:Addr->Option Value} {ρ:Operand->Value} {d:Option Tmp} {t t':TypeId} {a b:Operand} {ty:TypeId} {pos:String} {af:Array Edge} {g:Option (Nat×Bool)} {x y:W4}
theorem vL{k:IntKind}{n:Nat}(hx:ρ a=U x)(hy:ρ b= .int k (n:Int)):ev P c (execOp ρ ⟨d, .binOp .shl t a b t',ty,pos,af,g⟩)=some (.value (.int .u64 (IntKind.u64.wrap ((x.toNat:Int)*2^(min n 64))))):=by
 refine Fc (s:=do eqGuard .shl t a b (ρ a) (ρ b);binOp .shl t (ρ a) (ρ b)) ?_
 rw [hx,hy]
 have h1: ¬((n:Int)<0):=by omega
 have h2:ev P c (eqGuard .shl t a b (U x) (.int k (n:Int)))=some ():=Z
 simp only [AS,h2,q0,binOp,Op.shift,if_neg h1,q3,Bj,IntKind.bits]
theorem WA{k:IntKind}{n:Nat}(hx:ρ a=U x)(hy:ρ b= .int k (n:Int)):ev P c (execOp ρ ⟨d, .binOp .shr t a b t',ty,pos,af,g⟩)=some (.value (.int .u64 ((x.toNat:Int).fdiv (2^(min n 64))))):=by
 refine Fc (s:=do eqGuard .shr t a b (ρ a) (ρ b);binOp .shr t (ρ a) (ρ b)) ?_
 rw [hx,hy]
 have h1: ¬((n:Int)<0):=by omega
 have h2:ev P c (eqGuard .shr t a b (U x) (.int k (n:Int)))=some ():=Z
 simp only [AS,h2,q0,binOp,Op.shift,if_neg h1,q3,Bj,IntKind.bits]
end
end Go.Eng
namespace Go.Eng
open Go Go.RowKit
def Dc(f:Nat->Bool):Array Value:=Array.ofFn (n:=128) λi=> .bool (f i)
abbrev xI(x:W3):Array Value:=Dc (BitVec.getLsbD x)
theorem Ib(f:Nat->Bool):(Dc f).size=128:=by simp [Dc]
theorem QC{f g:Nat->Bool}(h: ∀j,j<128->f j=g j):Dc f=Dc g:=by
 unfold Dc;congr 1;funext i;rw [h i i.isLt]
theorem Vn(f:Nat->Bool){k:Nat}(h:k<128):(Dc f)[k]? =some (.bool (f k)):=by
 simp [Dc,h]
theorem kw(f:Nat->Bool)(k:Nat)(b:Bool):(Dc f).setIfInBounds k (.bool b)=Dc (upd f k b):=by
 apply Array.ext'
 apply List.ext_getElem?
 intro j
 simp only [Array.toList_setIfInBounds,List.getElem?_set,Array.length_toList,Ib]
 by_cases hj:j<128
 ·have h1:=Vn (upd f k b) hj
  have h2:=Vn f hj
  rw [<-Array.getElem?_toList] at h1 h2
  rw [h1,h2]
  by_cases hkj:k=j
  ·subst hkj;simp [hj,upd]
  ·rw [if_neg hkj,BU _ _ (Ne.symm hkj)]
 ·have h1:(Dc (upd f k b)).toList[j]? =none:=by rw [List.getElem?_eq_none];rw [Array.length_toList,Ib];omega
  have h2:(Dc f).toList[j]? =none:=by rw [List.getElem?_eq_none];rw [Array.length_toList,Ib];omega
  rw [h1,h2]
  by_cases hkj:k=j
  ·subst hkj;simp [hj]
  ·rw [if_neg hkj]
theorem Qq(f:Nat->Bool)(k:Nat)(b:Bool):HX (Dc f) k #[.bool b]=Dc (upd f k b):=by
 unfold HX
 rw [if_neg (by rw [Ib];simp),if_pos (by simp)]
 exact kw f k b
theorem eN(cs vs:Array Value)(h:vs.size=cs.size):HX cs 0 vs=vs:=by
 unfold HX;rw [if_pos ⟨Z,h⟩]
theorem Ue(f g:Nat->Bool):HX (Dc f) 0 (Dc g)=Dc g:=eN _ _ (by rw [Ib,Ib])
theorem Tm{P:Program}{e:TypeId}{i:TypeInfo}(hi:P.info? e=some i)(hs:i.size=1)(f:Nat->Bool){k:Nat}(b:Bool)(hk:k<128):StOk P e (Dc f) k #[.bool b]:=
 ⟨⟨i,hi,by rw [hs];rfl⟩,by rw [Ib];exact hk,λx hx=>by simp at hx;subst hx;rfl⟩
theorem Yr{P:Program}{e:TypeId}{i:TypeInfo}(hi:P.info? e=some i)(hs:i.size=128)(f g:Nat->Bool):StOk P e (Dc f) 0 (Dc g):=
 ⟨⟨i,hi,by rw [hs,Ib]⟩,by rw [Ib,Ib];exact Nat.le_refl _,λx hx=>by
  obtain⟨j,hj,rfl⟩:=Array.mem_iff_getElem.1 hx
  simp [Dc];rfl⟩
theorem UR{P:Program}{e:TypeId}(hu:P.underlying e=some .bool)(f:Nat->Bool){k:Nat}(hk:k<128):Ht P e (Dc f) k=some (.bool (f k)):=by
 unfold Ht;rw [hu];exact Vn f hk
theorem ZM{P:Program}{e n el:TypeId}{i:TypeInfo}(hu:P.underlying e=some (.array n el))(hi:P.info? e=some i)(hs:i.size=128)(f:Nat->Bool):Ht P e (Dc f) 0=some (.agg (Dc f)):=by
 unfold Ht;rw [hu,hi];simp only [hs,Ib,and_self,if_true]
theorem eU:(⟨List.replicate 128 (Value.bool false)⟩:Array Value)=Dc (λ_=>false):=by
 apply Array.ext
 ·rw [Ib];exact zi
 ·intro i h1 h2
  simp only [Dc,Array.getElem_ofFn]
  exact List.getElem_replicate ..
theorem qf{P:Program}{t:TypeId}(h:((P.info? t).bind (·.zero))=some (.agg ⟨List.replicate 128 (.bool false)⟩)):((P.info? t).bind (·.zero)).map (λz=>(t,z.cells))=some (t,Dc λ_=>false):=by
 rw [h]
 show some (t,(⟨List.replicate 128 (Value.bool false)⟩:Array Value))=_
 rw [eU]
theorem QV{P:Program}{c:Addr->Option Value}(d:Nat){t:TypeId}{k k':IntKind}(a b:Int)(h:P.underlying t=some (.int k')):ev P c (Op.equalIn (d+1) t (.int k a) (.int k b))=some (a==b):=by
 simp [Op.equalIn,AS,Bx h,Bj]
theorem ju{P:Program}{c:Addr->Option Value}(d:Nat){t:TypeId}(a b:Bool)(h:P.underlying t=some .bool):ev P c (Op.equalIn (d+1) t (.bool a) (.bool b))=some (a==b):=by
 simp [Op.equalIn,AS,Bx h,Bj]
theorem KU{P:Program}{c:Addr->Option Value}{t:TypeId}{de:TypeDesc}(h:P.underlying t=some de)(hs: ∀fs,de≠ .struct fs)(ha: ∀n e,de≠ .array n e)(cs:Array Value)(off:Nat){v:Value}(hv:cs[off]? =some v):ev P c (part t cs off)=some v:=by
 unfold part isAgg
 cases de<;>simp_all [AS,Bx h,Bj]
theorem Uq{P:Program}{c:Addr->Option Value}(d:Nat){t:TypeId}{fs:Array Field}(xs ys:Array Value)(ht:P.underlying t=some (.struct fs))(hp:P.stoodInHeld t=false)(g:Field->Bool)
  (h: ∀f∈fs.toList,f.name≠ "_"/\ ∃a b,ev P c (part f.type xs f.offset)=some a/\ev P c (part f.type ys f.offset)=some b/\ev P c (Op.equalIn d f.type a b)=some (g f)):
  ev P c (Op.equalIn (d+1) t (.agg xs) (.agg ys))=some (fs.toList.all g):=by
 have hst:ev P c (do pure (<-program):Sem Program)=some P:=Z
 simp only [Op.equalIn,AS,Bx ht,q0]
 rw [show ev P c program=some P from Z]
 simp only [q0,hp,Bool.false_eq_true,if_false]
 rw [<-Array.forIn_toList]
 generalize fs.toList=l at h
 clear ht
 induction l with
 |nil=>simp [Bj]
 |cons f l ih=>
  obtain⟨hn,a,b,ha,hb,he⟩:=h f (by simp)
  have ih':=ih (λf hf=>h f (by simp [hf]))
  rw [AS] at ih'
  simp only [List.forIn_cons,AS,if_pos hn,ha,hb,he,q0]
  cases hg:g f
  ·simp [hg,Bj]
  ·simp only [Bool.not_true,Bool.false_eq_true,if_false,Bj,q0,List.all_cons,hg,Bool.true_and]
   exact ih'
theorem bm(x y:W3):((((hi x).toNat:Int)==((hi y).toNat:Int))&&(((lo x).toNat:Int)==((lo y).toNat:Int)))=(x==y):=by
 rw [Bool.eq_iff_iff]
 simp only [Bool.and_eq_true,beq_iff_eq]
 constructor
 ·rintro⟨h1,h2⟩
  exact vK (BitVec.eq_of_toNat_eq (by omega)) (BitVec.eq_of_toNat_eq (by omega))
 ·rintro rfl;exact⟨Z,Z⟩
theorem WC{P:Program}{c:Addr->Option Value}{ρ:Operand->Value}{d:Option Tmp}{t t':TypeId}{x y:Operand}{ty:TypeId}{pos:String}{af:Array Edge}{g:Option (Nat×Bool)}{xs ys:Array Value}{b:Bool}
  (hx:ρ x= .agg xs) (hy:ρ y= .agg ys) (hg:P.eqGuardType P.depth t=false) (he:ev P c (Op.equal t (.agg xs) (.agg ys))=some b):
  ev P c (execOp ρ ⟨d, .binOp .eql t x y t',ty,pos,af,g⟩)=some (.value (.bool b)):=by
 refine Fc (s:=do eqGuard .eql t x y (ρ x) (ρ y);binOp .eql t (ρ x) (ρ y)) ?_
 rw [hx,hy]
 have h1:ev P c (eqGuard .eql t x y (.agg xs) (.agg ys))=some ():=by
  simp [eqGuard,AS,program,ev,hg,Bj]
 simp only [AS,h1,q0,binOp,he,Bj]
theorem cX{P:Program}{c:Addr->Option Value}{ρ:Operand->Value}{d:Option Tmp}{t t':TypeId}{x y:Operand}{ty:TypeId}{pos:String}{af:Array Edge}{g:Option (Nat×Bool)}{xs ys:Array Value}{b:Bool}
  (hx:ρ x= .agg xs) (hy:ρ y= .agg ys) (hg:P.eqGuardType P.depth t=false) (he:ev P c (Op.equal t (.agg xs) (.agg ys))=some b):
  ev P c (execOp ρ ⟨d, .binOp .neq t x y t',ty,pos,af,g⟩)=some (.value (.bool (!b))):=by
 refine Fc (s:=do eqGuard .neq t x y (ρ x) (ρ y);binOp .neq t (ρ x) (ρ y)) ?_
 rw [hx,hy]
 have h1:ev P c (eqGuard .neq t x y (.agg xs) (.agg ys))=some ():=by
  simp [eqGuard,AS,program,ev,hg,Bj]
 simp only [AS,h1,q0,binOp,he,Bj]
theorem cY{P:Program}{c:Addr->Option Value}{ρ:Operand->Value}{d:Option Tmp}{t t':TypeId}{x y:Operand}{ty:TypeId}{pos:String}{af:Array Edge}{g:Option (Nat×Bool)}{a b:Bool}(ht:P.underlying t=some .bool)
  (hx:ρ x= .bool a) (hy:ρ y= .bool b):ev P c (execOp ρ ⟨d, .binOp .neq t x y t',ty,pos,af,g⟩)=some (.value (.bool (a !=b))):=by
 refine Fc (s:=do eqGuard .neq t x y (ρ x) (ρ y);binOp .neq t (ρ x) (ρ y)) ?_
 rw [hx,hy]
 have h1:ev P c (eqGuard .neq t x y (.bool a) (.bool b))=some ():=by simp [eqGuard,Bj]
 simp only [AS,h1,q0,binOp,Op.equal,ju _ a b ht,Bj,Op.maxDepth,bne]
theorem rM{P:Program}{c:Addr->Option Value}{ρ:Operand->Value}{d:Option Tmp}{t t':TypeId}{x y:Operand}{ty:TypeId}{pos:String}{af:Array Edge}{g:Option (Nat×Bool)}{a b:ByteArray}
  (hx:ρ x= .string a) (hy:ρ y= .string b):ev P c (execOp ρ ⟨d, .binOp .eql t x y t',ty,pos,af,g⟩)=some (.value (.bool (a==b))):=by
 refine Fc (s:=do eqGuard .eql t x y (ρ x) (ρ y);binOp .eql t (ρ x) (ρ y)) ?_
 rw [hx,hy]
 have h1:ev P c (eqGuard .eql t x y (.string a) (.string b))=some ():=by simp [eqGuard,Bj]
 simp only [AS,h1,q0,binOp,Op.stringOp,Bj,beq_toListBytes]
end Go.Eng
namespace Go.Eng
structure xA(u d y1 y0 q r:Nat):Prop where
 heq:q*y1+r=u
 hge:(u*4294967296+d) / (y1*4294967296+y0)<=q
 hr:r<4294967296
 hq:q<=4294967297
structure wd(u d y1 y0:Nat):Prop where
 hy1lo:2147483648<=y1
 hy1hi:y1<4294967296
 hy0:y0<4294967296
 hd:d<4294967296
 hu:u<y1*4294967296+y0
def qd(u d y:W4):Nat:=(u.toNat*4294967296+d.toNat) / y.toNat
structure yh(u d y1 y0 y:W4):Prop where
 hy:y.toNat=y1.toNat*4294967296+y0.toNat
 hD:wd u.toNat d.toNat y1.toNat y0.toNat
def yb(u d b a q r:W4):Prop:=xA u.toNat d.toNat b.toNat a.toNat q.toNat r.toNat
section
variable {u d y1 y0 y q r:W4}
end
theorem bc: ∀(x:Nat),x<2^64->x<2^Lib.bitLen x/\(x≠0->1<=Lib.bitLen x/\2^(Lib.bitLen x - 1)<=x)/\Lib.bitLen x<=64:=by
 have key: ∀(f x:Nat),f<=64->x<2^f->x<2^Lib.bitLen x/\(x≠0->1<=Lib.bitLen x/\2^(Lib.bitLen x - 1)<=x)/\Lib.bitLen x<=f:=by
  intro f
  induction f with
  |zero=>
   intro x _ hx
   have:x=0:=by simpa using hx
   subst this
   have h0:Lib.bitLen 0=0:=by decide+kernel
   rw [h0]
   exact⟨by decide,λh=>absurd Z h,by decide⟩
  |succ f ih=>
   intro x hf hx
   by_cases h0:x=0
   ·subst h0
    have h0:Lib.bitLen 0=0:=by decide+kernel
    rw [h0]
    exact⟨by decide,λh=>absurd Z h,by omega⟩
   ·have hx64:x<2^64:=zw hx (Nat.pow_le_pow_right (by decide) hf)
    rw [Lib.bitLen_half x h0 hx64]
    obtain⟨i1,i2,i3⟩:=ih (x / 2) (by omega) (by rw [Nat.pow_succ] at hx;omega)
    refine⟨?_,λ_=>⟨by omega, ?_⟩,by omega⟩
    ·rw [Nat.pow_add];omega
    ·rw [Nat.add_sub_cancel_left]
     by_cases h2:x / 2=0
     ·have:x=1:=by omega
      subst this;decide+kernel
     ·obtain⟨j1,j2⟩:=i2 h2
      have:2^Lib.bitLen (x / 2)=2*2^(Lib.bitLen (x / 2) - 1):=by
       rw [<-Nat.pow_succ'];congr 1;omega
      omega
 exact λx hx=>key 64 x (Nat.le_refl _) hx
def lz(y:W4):Nat:=64 - Lib.bitLen y.toNat
def sh(y:W4):W4:=BitVec.ofNat 64 (lz y)
def un(h l y:W4):W4:=h<<<(sh y).toNat|||l>>>(64#64 - sh y).toNat
def u10(l y:W4):W4:=l<<<(sh y).toNat
def d1(l y:W4):W4:=u10 l y>>>32
def d0(l y:W4):W4:=u10 l y&&&4294967295#64
end Go.Eng
namespace Go.Eng
open Go Go.RowKit
def ck{α:Type}(c:Prop)[Decidable c](k:Option α):Option α:=if c then k else none
theorem Iz{α:Type}{c:Prop}[Decidable c]{k:Option α}{r:α}(h:ck c k=some r):c/\k=some r:=by
 unfold ck at h;split at h
 ·exact⟨by assumption,h⟩
 ·cases h
theorem Af{α:Type}{c:Prop}[Decidable c](k:Option α)(h:c):ck c k=k:=if_pos h
theorem be{α β:Type}{x:Option α}{f:α->Option β}{r:β}(h:x.bind f=some r): ∃y,x=some y/\f y=some r:=by
 cases x with
 |none=>cases h
 |some y=>exact⟨y,Z,h⟩
theorem ifp{α:Type}{c:Prop}[Decidable c]{a b r:α}(hc:c)(h:(if c then a else b)=r):a=r:=by rwa [if_pos hc] at h
theorem ifn{α:Type}{c:Prop}[Decidable c]{a b r:α}(hc: ¬c)(h:(if c then a else b)=r):b=r:=by rwa [if_neg hc] at h
theorem Dk{b:Bool}(h:(!b)=true):b=false:=by cases b<;>first|rfl|cases h
theorem Dl{b:Bool}(h:(!b)=false):b=true:=by cases b<;>first|rfl|cases h
theorem xp{α:Type}[BEq α][LawfulBEq α]{a b:α}(h:(a !=b)=false): ¬a≠b:=λhn=>absurd (bne_iff_ne.2 hn) (by rw [h];decide)
section
variable {P:Program} {c:Addr->Option Value} {ρ:Operand->Value} {d:Option Tmp} {ty t t':TypeId} {pos:String} {af:Array Edge} {g:Option (Nat×Bool)} {x y:Operand}
def Jx(l:W2)(i:Int):Int:=((l.getD i.toNat 0).toNat:Int)
theorem Hu{l:W2}{i:Int}{k:IntKind}(ht:P.underlying t=some .string)(hi:0<=i/\i<(l.length:Int)):ev P c (Instr.index t (.string ⟨l.toArray⟩) (.int k i))=some (.int .u8 (Jx l i)):=by
 unfold Instr.index
 have hlt:i.toNat<l.length:=by omega
 have hget:(⟨l.toArray⟩:ByteArray)[i.toNat]? =some (l.getD i.toNat 0):=by
  have h1:i.toNat<(⟨l.toArray⟩:ByteArray).size:=by simpa [ByteArray.size] using hlt
  rw [getElem?_pos (⟨l.toArray⟩:ByteArray) i.toNat h1]
  show some (l.toArray[i.toNat])=_
  simp [zo hlt]
 simp only [AS,asIntOf,Bj,Bx ht,q0,if_pos hi.1,hget,Jx]
theorem Ns{l:W2}{ts:Array TypeId}(hts:ts= #[t])(ht:P.underlying t=some .string)(hx:ρ x= .string ⟨l.toArray⟩):
  ev P c (execOp ρ ⟨d, .call ⟨.builtin .len, #[x],ts⟩,ty,pos,af,g⟩)=some (.value (.int .i64 ((l.length:Nat):Int))):=by
 subst hts
 have h2:ev P c (Builtin.len_ #[t] ty #[Value.string ⟨l.toArray⟩])=some (.int .i64 ((l.length:Nat):Int)):=by
  have h3:ev P c (do match<-underlying t,Value.string ⟨l.toArray⟩with
   | .string, .string s=>pure (goInt s.size)
   |_,_=>stuck "":Sem Value)=some (.int .i64 ((l.length:Nat):Int)):=by
   rw [AS,Bx ht]
   show some (Value.int .i64 ((l.toArray.size:Nat):Int))=_
   simp
  show ev P c (underlying t>>=λu=>_)=_
  rw [AS,Bx ht]
  show some (Value.int .i64 ((l.toArray.size:Nat):Int))=_
  simp
 show ev P c (do let d<-resolve ρ ⟨.builtin .len, #[x], #[t]⟩ ty;invoke d.target d.args)=_
 simp [resolve,invoke,builtin,Sh,h2,hx]
theorem tx(a b:W2):((⟨a.toArray⟩:ByteArray)==⟨b.toArray⟩)=(a==b):=by
 show(a.toArray==b.toArray)=_
 simp
theorem Cr{a b:W2}(hx:ρ x= .string ⟨a.toArray⟩)(hy:ρ y= .string ⟨b.toArray⟩):ev P c (execOp ρ ⟨d, .binOp .eql t x y t',ty,pos,af,g⟩)=some (.value (.bool (a==b))):=by
 rw [rM hx hy,tx]
theorem fA{l:W2}{i:Int}{k:IntKind}(ht:P.underlying t=some .string)(h:0<=i/\i<=(l.length:Int)):ev P c (Instr.slice t (.string ⟨l.toArray⟩) (some (.int k i)) none none)=some (.string ⟨(l.drop i.toNat).toArray⟩):=by
 obtain⟨h0,h2⟩:=h
 have hs:(⟨l.toArray⟩:ByteArray).size=l.length:=by simp [ByteArray.size]
 have e:(⟨l.toArray⟩:ByteArray).extract i.toNat l.length=⟨(l.drop i.toNat).toArray⟩:=by
  apply ByteArray.ext
  rw [ByteArray.data_extract]
  apply Array.ext'
  simp [j6]
 unfold Instr.slice
 simp only [AS,Bx ht,q0,Instr.sliceBounds,Instr.sliceBound,asIntOf,Bj,hs,Option.isSome_none,Bool.false_eq_true,if_false]
 rw [if_pos ⟨h0,h2⟩]
 simp only [Bj,q0,e]
theorem ir(x:Int):Value.int .u64 (IntKind.u64.wrap x)=U (BitVec.ofInt 64 x):=by
 congr 1
 simp only [IntKind.wrap,IntKind.signed,IntKind.bits,BitVec.toNat_ofInt]
 simp
 omega
end
theorem IJ{P:Program}{c:Addr->Option Value}{t:TypeId}{b off n:Nat}{e:TypeId}{i:TypeInfo}{k:IntKind}{j:Int}(hu:P.underlying t=some (.array n e))(hi:P.info? e=some i)(hs:i.size=1)(hj:0<=j/\j<(n:Int)):
  ev P c (Instr.indexAt t (.pointer (some ⟨b,off,none⟩)) (.int k j))=some (.pointer (some ⟨b,off+j.toNat,none⟩)):=by
 unfold Instr.indexAt
 have hadd:(⟨b,off,none⟩:Addr).add j.toNat=⟨b,off+j.toNat,none⟩:=by unfold Addr.add;split<;>simp_all
 simp only [asIntOf,AS,Bj,q0,Bx hu,Instr.sureAddr]
 rw [if_pos hj]
 simp only [AS,HI hi,hs,q0,Bj,Nat.mul_one,hadd]
def bx(x:W3)(k:Nat)(b:Bool):W3:=if b then x|||BitVec.twoPow 128 k else x&&&~~~(BitVec.twoPow 128 k)
theorem kj(x:W3)(k:Nat)(b:Bool)(j:Nat)(hk:k<128):(bx x k b).getLsbD j=if j=k then b else x.getLsbD j:=by
 unfold bx
 by_cases hj:j<128
 ·by_cases h:j=k
  ·subst h;cases b<;>simp [hj]
  ·have h': ¬k=j:=λe=>h e.symm
   cases b<;>simp [h,hj]
 ·rw [BitVec.getLsbD_of_ge _ _ (by omega),if_neg (by omega),BitVec.getLsbD_of_ge _ _ (by omega)]
theorem iS(x:W3)(k:Nat)(b:Bool)(hk:k<128):Dc (upd (BitVec.getLsbD x) k b)=Dc (BitVec.getLsbD (bx x k b)):=QC λj _=>by
 rw [kj x k b j hk];rfl
theorem bG:Dc (λ_=>false)=Dc (BitVec.getLsbD 0#128):=QC λj _=>by simp
end Go.Eng
