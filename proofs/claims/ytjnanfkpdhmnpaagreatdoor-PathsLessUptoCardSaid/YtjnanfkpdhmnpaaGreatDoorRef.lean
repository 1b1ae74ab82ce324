import Derived.Shelf.Strings.Builder1
import Derived.Shelf.Strings.Builder2
import Derived.Shelf.Strconv.Itoa0
import Derived.Shelf.Strings.Search1
import Derived.Shelf.Strings.Search2
import Derived.Shelf.Strings.Search3
import Derived.Shelf.LaysM
import Derived.Shelf.Strings.Shaped
import Derived.Shelf.Bits.Mul64
import Derived.Shelf.Slices.Turned
import Derived.Test.YtjnanfkpdhmnpaaGreatDoorProg
import Derived.Test.YtjnanfkpdhmnpaaGreatDoorRows
import Derived.Test.YtjnanfkpdhmnpaaGreatDoorMd
import Derived.Test.YtjnanfkpdhmnpaaGreatDoorIt
namespace Go.Proofs
open Go.Shelf
def Tryz.lays129_ren:Go.Shelf.Ren:=⟨λ|129=>277|n=>n,λ|53=>36|3=>3|4=>4|46=>346|5=>5|9=>9|n=>n,λ|n=>n⟩
theorem Tryz.lays129:Go.Proofs.Lays.n129 Tryz.prog Tryz.lays129_ren:={
 mixed:=by kernel_rfl
 f129:=Tryz.func277.trans (congrArg some (by kernel_rfl))
 t3:=Tryz.underlying3
 a3:=Tryz.isAgg3
 z3:=Tryz.sizeOf3
 v3:=Tryz.zeroValue3
 t4:=Tryz.underlying4
 a4:=Tryz.isAgg4
 z4:=Tryz.sizeOf4
 v4:=Tryz.zeroValue4
 t5:=Tryz.underlying5
 a5:=Tryz.isAgg5
 z5:=Tryz.sizeOf5
 v5:=Tryz.zeroValue5
 t9:=Tryz.underlying9
 a9:=Tryz.isAgg9
 z9:=Tryz.sizeOf9
 v9:=Tryz.zeroValue9
 t46:=Tryz.underlying346
 a46:=Tryz.isAgg346
 z46:=Tryz.sizeOf346
 v46:=Tryz.zeroValue346
 t53:=Tryz.underlying36
 a53:=Tryz.isAgg36
 z53:=Tryz.sizeOf36
 v53:=Tryz.zeroValue36}
theorem Tryz.bits_Len64(x:Int)(w:World)(h0:0<=x)(h1:x<=18446744073709551615):
  Calls Tryz.prog 277 #[.int .u64 x] w λe w'=>e= .returned (.int .i64 (Lib.bitLen x.toNat))/\w'=w:=Any.bits_Len64 Tryz.lays129 x w h0 h1
def Tryz.lays219_ren:Go.Shelf.Ren:=⟨λ|219=>257|217=>270|225=>271|224=>272|267=>273|266=>279|314=>280|n=>n,λ|9=>9|3=>3|4=>4|5=>5|46=>346|146=>364|51=>363|n=>n,λ|1=>1|n=>n⟩
theorem Tryz.lays219:Go.Proofs.Lays.n219 Tryz.prog Tryz.lays219_ren:={
 mixed:=by kernel_rfl
 f217:=Tryz.func270.trans (congrArg some (by kernel_rfl))
 f219:=Tryz.func257.trans (congrArg some (by kernel_rfl))
 f224:=Tryz.func272.trans (congrArg some (by kernel_rfl))
 f225:=Tryz.func271.trans (congrArg some (by kernel_rfl))
 f266:=Tryz.func279.trans (congrArg some (by kernel_rfl))
 f267:=Tryz.func273.trans (congrArg some (by kernel_rfl))
 f314:=Tryz.func280.trans (congrArg some (by kernel_rfl))
 t3:=Tryz.underlying3
 a3:=Tryz.isAgg3
 z3:=Tryz.sizeOf3
 v3:=Tryz.zeroValue3
 t4:=Tryz.underlying4
 a4:=Tryz.isAgg4
 z4:=Tryz.sizeOf4
 v4:=Tryz.zeroValue4
 t5:=Tryz.underlying5
 a5:=Tryz.isAgg5
 z5:=Tryz.sizeOf5
 v5:=Tryz.zeroValue5
 t9:=Tryz.underlying9
 a9:=Tryz.isAgg9
 z9:=Tryz.sizeOf9
 v9:=Tryz.zeroValue9
 t46:=Tryz.underlying346
 a46:=Tryz.isAgg346
 z46:=Tryz.sizeOf346
 v46:=Tryz.zeroValue346
 t51:=Tryz.underlying363
 a51:=Tryz.isAgg363
 z51:=Tryz.sizeOf363
 v51:=Tryz.zeroValue363
 t146:=Tryz.underlying364
 a146:=Tryz.isAgg364
 z146:=Tryz.sizeOf364
 v146:=Tryz.zeroValue364
 g1:=by kernel_rfl}
open Go.RowKit Go.Lib in
theorem Tryz.stringslite_Index_one(s:ByteArray)(c:UInt8)(w:World):
  Calls Tryz.prog 257 #[.string s, .string ⟨#[c]⟩] w λe w'=>e= .returned (.int .i64 (Lib.indexByte s.data.toList c))/\w'=w:=Any.stringslite_Index_one Tryz.lays219 s c w
end Go.Proofs
namespace Go.Proofs.YtjnanfkpdhmnpaaGreatDoor
open Go Go.RowKit Go.Eng
theorem follows:Tryz.prog.follows .mixedOrders=true:=by kernel_rfl
theorem xd:Am Tryz.prog 4=true:=by kernel_rfl
theorem RF:Am Tryz.prog 5=true:=by kernel_rfl
theorem Xi:Am Tryz.prog 6=true:=by kernel_rfl
theorem xc:Am Tryz.prog 7=true:=by kernel_rfl
theorem xb:Am Tryz.prog 8=true:=by kernel_rfl
theorem xa:Am Tryz.prog 9=true:=by kernel_rfl
theorem jp:Am Tryz.prog 10=true:=by kernel_rfl
theorem uG:Am Tryz.prog 11=true:=by kernel_rfl
theorem uF:Am Tryz.prog 12=true:=by kernel_rfl
theorem uE:Am Tryz.prog 13=true:=by kernel_rfl
theorem Vy:Am Tryz.prog 14=true:=by kernel_rfl
theorem uD:Am Tryz.prog 15=true:=by kernel_rfl
theorem uC:Am Tryz.prog 16=true:=by kernel_rfl
theorem uB:Am Tryz.prog 17=true:=by kernel_rfl
theorem uA:Am Tryz.prog 18=true:=by kernel_rfl
theorem uz:Am Tryz.prog 19=true:=by kernel_rfl
theorem jo:Am Tryz.prog 20=true:=by kernel_rfl
theorem jn:Am Tryz.prog 21=true:=by kernel_rfl
theorem uy:Am Tryz.prog 22=true:=by kernel_rfl
theorem jm:Am Tryz.prog 23=true:=by kernel_rfl
theorem TI:Am Tryz.prog 24=true:=by kernel_rfl
theorem jl:Am Tryz.prog 25=true:=by kernel_rfl
theorem ux:Am Tryz.prog 26=true:=by kernel_rfl
theorem uw:Am Tryz.prog 27=true:=by kernel_rfl
theorem uv:Am Tryz.prog 28=true:=by kernel_rfl
theorem uu:Am Tryz.prog 29=true:=by kernel_rfl
theorem ut:Am Tryz.prog 30=true:=by kernel_rfl
theorem ur:Am Tryz.prog 31=true:=by kernel_rfl
theorem uq:Am Tryz.prog 32=true:=by kernel_rfl
theorem uo:Am Tryz.prog 33=true:=by kernel_rfl
theorem um:Am Tryz.prog 34=true:=by kernel_rfl
theorem ul:Am Tryz.prog 35=true:=by kernel_rfl
theorem uk:Am Tryz.prog 36=true:=by kernel_rfl
theorem uj:Am Tryz.prog 37=true:=by kernel_rfl
theorem ui:Am Tryz.prog 38=true:=by kernel_rfl
theorem uh:Am Tryz.prog 39=true:=by kernel_rfl
theorem ug:Am Tryz.prog 40=true:=by kernel_rfl
theorem uf:Am Tryz.prog 41=true:=by kernel_rfl
theorem ue:Am Tryz.prog 42=true:=by kernel_rfl
theorem ud:Am Tryz.prog 43=true:=by kernel_rfl
theorem uc:Am Tryz.prog 44=true:=by kernel_rfl
theorem ub:Am Tryz.prog 45=true:=by kernel_rfl
theorem jk:Am Tryz.prog 46=true:=by kernel_rfl
theorem jj:Am Tryz.prog 47=true:=by kernel_rfl
theorem Vx:Am Tryz.prog 48=true:=by kernel_rfl
theorem Vw:Am Tryz.prog 49=true:=by kernel_rfl
theorem ua:Am Tryz.prog 50=true:=by kernel_rfl
theorem tZ:Am Tryz.prog 51=true:=by kernel_rfl
theorem tY:Am Tryz.prog 52=true:=by kernel_rfl
theorem bC:Am Tryz.prog 53=true:=by kernel_rfl
theorem ji:Am Tryz.prog 54=true:=by kernel_rfl
theorem jh:Am Tryz.prog 55=true:=by kernel_rfl
theorem Vv:Am Tryz.prog 56=true:=by kernel_rfl
theorem bB:Am Tryz.prog 57=true:=by kernel_rfl
theorem Vu:Am Tryz.prog 58=true:=by kernel_rfl
theorem tX:Am Tryz.prog 59=true:=by kernel_rfl
theorem bA:Am Tryz.prog 60=true:=by kernel_rfl
theorem tW:Am Tryz.prog 61=true:=by kernel_rfl
theorem tV:Am Tryz.prog 62=true:=by kernel_rfl
theorem jg:Am Tryz.prog 63=true:=by kernel_rfl
theorem tU:Am Tryz.prog 64=true:=by kernel_rfl
theorem FK:Am Tryz.prog 65=true:=by kernel_rfl
theorem Fo:Am Tryz.prog 66=true:=by kernel_rfl
theorem Bw:Am Tryz.prog 67=true:=by kernel_rfl
theorem bx:Am Tryz.prog 68=true:=by kernel_rfl
theorem tT:Am Tryz.prog 69=true:=by kernel_rfl
theorem tS:Am Tryz.prog 70=true:=by kernel_rfl
theorem tR:Am Tryz.prog 71=true:=by kernel_rfl
theorem tQ:Am Tryz.prog 72=true:=by kernel_rfl
theorem tP:Am Tryz.prog 73=true:=by kernel_rfl
theorem Pc:Am Tryz.prog 74=true:=by kernel_rfl
theorem tO:Am Tryz.prog 75=true:=by kernel_rfl
theorem tN:Am Tryz.prog 76=true:=by kernel_rfl
theorem tM:Am Tryz.prog 77=true:=by kernel_rfl
theorem tL:Am Tryz.prog 78=true:=by kernel_rfl
theorem bw:Am Tryz.prog 79=true:=by kernel_rfl
theorem tK:Am Tryz.prog 80=true:=by kernel_rfl
theorem tJ:Am Tryz.prog 81=true:=by kernel_rfl
theorem tI:Am Tryz.prog 82=true:=by kernel_rfl
theorem tH:Am Tryz.prog 83=true:=by kernel_rfl
theorem tG:Am Tryz.prog 84=true:=by kernel_rfl
theorem tF:Am Tryz.prog 85=true:=by kernel_rfl
theorem tE:Am Tryz.prog 86=true:=by kernel_rfl
theorem tD:Am Tryz.prog 87=true:=by kernel_rfl
theorem tC:Am Tryz.prog 88=true:=by kernel_rfl
theorem jf:Am Tryz.prog 89=true:=by kernel_rfl
theorem Vt:Am Tryz.prog 90=true:=by kernel_rfl
theorem tB:Am Tryz.prog 91=true:=by kernel_rfl
theorem bu:Am Tryz.prog 92=true:=by kernel_rfl
theorem bt:Am Tryz.prog 93=true:=by kernel_rfl
theorem je:Am Tryz.prog 94=true:=by kernel_rfl
theorem tA:Am Tryz.prog 95=true:=by kernel_rfl
theorem tz:Am Tryz.prog 96=true:=by kernel_rfl
theorem tx:Am Tryz.prog 97=true:=by kernel_rfl
theorem br:Am Tryz.prog 98=true:=by kernel_rfl
theorem tw:Am Tryz.prog 99=true:=by kernel_rfl
theorem qS:Am Tryz.prog 100=true:=by kernel_rfl
theorem qR:Am Tryz.prog 101=true:=by kernel_rfl
theorem qQ:Am Tryz.prog 102=true:=by kernel_rfl
theorem qP:Am Tryz.prog 103=true:=by kernel_rfl
theorem qO:Am Tryz.prog 104=true:=by kernel_rfl
theorem Xw:Am Tryz.prog 105=true:=by kernel_rfl
theorem eO:Am Tryz.prog 106=true:=by kernel_rfl
theorem qN:Am Tryz.prog 107=true:=by kernel_rfl
theorem Xv:Am Tryz.prog 108=true:=by kernel_rfl
theorem qM:Am Tryz.prog 109=true:=by kernel_rfl
theorem qL:Am Tryz.prog 110=true:=by kernel_rfl
theorem qK:Am Tryz.prog 111=true:=by kernel_rfl
theorem eN:Am Tryz.prog 112=true:=by kernel_rfl
theorem eM:Am Tryz.prog 113=true:=by kernel_rfl
theorem qJ:Am Tryz.prog 114=true:=by kernel_rfl
theorem eL:Am Tryz.prog 115=true:=by kernel_rfl
theorem eK:Am Tryz.prog 116=true:=by kernel_rfl
theorem Qc:Am Tryz.prog 117=true:=by kernel_rfl
theorem qI:Am Tryz.prog 118=true:=by kernel_rfl
theorem eJ:Am Tryz.prog 119=true:=by kernel_rfl
theorem qH:Am Tryz.prog 120=true:=by kernel_rfl
theorem qG:Am Tryz.prog 121=true:=by kernel_rfl
theorem Xu:Am Tryz.prog 122=true:=by kernel_rfl
theorem qF:Am Tryz.prog 123=true:=by kernel_rfl
theorem qE:Am Tryz.prog 124=true:=by kernel_rfl
theorem qD:Am Tryz.prog 125=true:=by kernel_rfl
theorem eI:Am Tryz.prog 126=true:=by kernel_rfl
theorem qC:Am Tryz.prog 127=true:=by kernel_rfl
theorem eH:Am Tryz.prog 128=true:=by kernel_rfl
theorem qB:Am Tryz.prog 129=true:=by kernel_rfl
theorem eG:Am Tryz.prog 130=true:=by kernel_rfl
theorem qA:Am Tryz.prog 131=true:=by kernel_rfl
theorem eF:Am Tryz.prog 132=true:=by kernel_rfl
theorem Ly:Am Tryz.prog 133=true:=by kernel_rfl
theorem eE:Am Tryz.prog 134=true:=by kernel_rfl
theorem eD:Am Tryz.prog 135=true:=by kernel_rfl
theorem qz:Am Tryz.prog 136=true:=by kernel_rfl
theorem qy:Am Tryz.prog 137=true:=by kernel_rfl
theorem qx:Am Tryz.prog 138=true:=by kernel_rfl
theorem Oy:Am Tryz.prog 139=true:=by kernel_rfl
theorem qw:Am Tryz.prog 140=true:=by kernel_rfl
theorem qv:Am Tryz.prog 141=true:=by kernel_rfl
theorem qu:Am Tryz.prog 142=true:=by kernel_rfl
theorem qt:Am Tryz.prog 143=true:=by kernel_rfl
theorem qs:Am Tryz.prog 144=true:=by kernel_rfl
theorem qr:Am Tryz.prog 145=true:=by kernel_rfl
theorem qq:Am Tryz.prog 146=true:=by kernel_rfl
theorem eC:Am Tryz.prog 147=true:=by kernel_rfl
theorem Xt:Am Tryz.prog 148=true:=by kernel_rfl
theorem qp:Am Tryz.prog 149=true:=by kernel_rfl
theorem qo:Am Tryz.prog 150=true:=by kernel_rfl
theorem qn:Am Tryz.prog 151=true:=by kernel_rfl
theorem qm:Am Tryz.prog 152=true:=by kernel_rfl
theorem Xs:Am Tryz.prog 153=true:=by kernel_rfl
theorem ql:Am Tryz.prog 154=true:=by kernel_rfl
theorem qk:Am Tryz.prog 155=true:=by kernel_rfl
theorem qj:Am Tryz.prog 156=true:=by kernel_rfl
theorem qi:Am Tryz.prog 157=true:=by kernel_rfl
theorem qh:Am Tryz.prog 158=true:=by kernel_rfl
theorem eB:Am Tryz.prog 159=true:=by kernel_rfl
theorem qg:Am Tryz.prog 160=true:=by kernel_rfl
theorem qf:Am Tryz.prog 161=true:=by kernel_rfl
theorem qe:Am Tryz.prog 162=true:=by kernel_rfl
theorem qc:Am Tryz.prog 163=true:=by kernel_rfl
theorem qb:Am Tryz.prog 164=true:=by kernel_rfl
theorem qa:Am Tryz.prog 165=true:=by kernel_rfl
theorem Xr:Am Tryz.prog 166=true:=by kernel_rfl
theorem pZ:Am Tryz.prog 167=true:=by kernel_rfl
theorem pY:Am Tryz.prog 168=true:=by kernel_rfl
theorem pX:Am Tryz.prog 169=true:=by kernel_rfl
theorem pW:Am Tryz.prog 170=true:=by kernel_rfl
theorem Xq:Am Tryz.prog 171=true:=by kernel_rfl
theorem pU:Am Tryz.prog 172=true:=by kernel_rfl
theorem pT:Am Tryz.prog 173=true:=by kernel_rfl
theorem pS:Am Tryz.prog 174=true:=by kernel_rfl
theorem pR:Am Tryz.prog 175=true:=by kernel_rfl
theorem pQ:Am Tryz.prog 176=true:=by kernel_rfl
theorem pP:Am Tryz.prog 177=true:=by kernel_rfl
theorem pN:Am Tryz.prog 178=true:=by kernel_rfl
theorem pM:Am Tryz.prog 179=true:=by kernel_rfl
theorem pL:Am Tryz.prog 180=true:=by kernel_rfl
theorem pK:Am Tryz.prog 181=true:=by kernel_rfl
theorem eA:Am Tryz.prog 182=true:=by kernel_rfl
theorem TJ:Am Tryz.prog 183=true:=by kernel_rfl
theorem pJ:Am Tryz.prog 184=true:=by kernel_rfl
theorem pI:Am Tryz.prog 185=true:=by kernel_rfl
theorem Qb:Am Tryz.prog 186=true:=by kernel_rfl
theorem pG:Am Tryz.prog 187=true:=by kernel_rfl
theorem ew:Am Tryz.prog 188=true:=by kernel_rfl
theorem eu:Am Tryz.prog 189=true:=by kernel_rfl
theorem pF:Am Tryz.prog 190=true:=by kernel_rfl
theorem et:Am Tryz.prog 191=true:=by kernel_rfl
theorem ep:Am Tryz.prog 192=true:=by kernel_rfl
theorem Xp:Am Tryz.prog 193=true:=by kernel_rfl
theorem eo:Am Tryz.prog 194=true:=by kernel_rfl
theorem ek:Am Tryz.prog 195=true:=by kernel_rfl
theorem pE:Am Tryz.prog 196=true:=by kernel_rfl
theorem ej:Am Tryz.prog 197=true:=by kernel_rfl
theorem pD:Am Tryz.prog 198=true:=by kernel_rfl
theorem eh:Am Tryz.prog 199=true:=by kernel_rfl
theorem pC:Am Tryz.prog 200=true:=by kernel_rfl
theorem pB:Am Tryz.prog 201=true:=by kernel_rfl
theorem ef:Am Tryz.prog 202=true:=by kernel_rfl
theorem pA:Am Tryz.prog 203=true:=by kernel_rfl
theorem Xo:Am Tryz.prog 204=true:=by kernel_rfl
theorem Xn:Am Tryz.prog 205=true:=by kernel_rfl
theorem ed:Am Tryz.prog 206=true:=by kernel_rfl
theorem pz:Am Tryz.prog 207=true:=by kernel_rfl
theorem py:Am Tryz.prog 208=true:=by kernel_rfl
theorem Xm:Am Tryz.prog 209=true:=by kernel_rfl
theorem px:Am Tryz.prog 210=true:=by kernel_rfl
theorem Xl:Am Tryz.prog 211=true:=by kernel_rfl
theorem pw:Am Tryz.prog 212=true:=by kernel_rfl
theorem pu:Am Tryz.prog 213=true:=by kernel_rfl
theorem pr:Am Tryz.prog 214=true:=by kernel_rfl
theorem pp:Am Tryz.prog 215=true:=by kernel_rfl
theorem po:Am Tryz.prog 216=true:=by kernel_rfl
theorem pn:Am Tryz.prog 217=true:=by kernel_rfl
theorem pm:Am Tryz.prog 218=true:=by kernel_rfl
theorem pk:Am Tryz.prog 219=true:=by kernel_rfl
theorem pj:Am Tryz.prog 220=true:=by kernel_rfl
theorem pi:Am Tryz.prog 221=true:=by kernel_rfl
theorem Xk:Am Tryz.prog 222=true:=by kernel_rfl
theorem ph:Am Tryz.prog 223=true:=by kernel_rfl
theorem pg:Am Tryz.prog 224=true:=by kernel_rfl
theorem pf:Am Tryz.prog 225=true:=by kernel_rfl
theorem pe:Am Tryz.prog 226=true:=by kernel_rfl
theorem pd:Am Tryz.prog 227=true:=by kernel_rfl
theorem pb:Am Tryz.prog 228=true:=by kernel_rfl
theorem pa:Am Tryz.prog 229=true:=by kernel_rfl
theorem oZ:Am Tryz.prog 230=true:=by kernel_rfl
theorem dZ:Am Tryz.prog 231=true:=by kernel_rfl
theorem oY:Am Tryz.prog 232=true:=by kernel_rfl
theorem oX:Am Tryz.prog 233=true:=by kernel_rfl
theorem KJ:Am Tryz.prog 234=true:=by kernel_rfl
theorem oW:Am Tryz.prog 235=true:=by kernel_rfl
theorem oV:Am Tryz.prog 236=true:=by kernel_rfl
theorem oU:Am Tryz.prog 237=true:=by kernel_rfl
theorem oT:Am Tryz.prog 238=true:=by kernel_rfl
theorem oQ:Am Tryz.prog 239=true:=by kernel_rfl
theorem oP:Am Tryz.prog 240=true:=by kernel_rfl
theorem oO:Am Tryz.prog 241=true:=by kernel_rfl
theorem dY:Am Tryz.prog 242=true:=by kernel_rfl
theorem dX:Am Tryz.prog 243=true:=by kernel_rfl
theorem dW:Am Tryz.prog 244=true:=by kernel_rfl
theorem oN:Am Tryz.prog 245=true:=by kernel_rfl
theorem oM:Am Tryz.prog 246=true:=by kernel_rfl
theorem oL:Am Tryz.prog 247=true:=by kernel_rfl
theorem oK:Am Tryz.prog 248=true:=by kernel_rfl
theorem oJ:Am Tryz.prog 249=true:=by kernel_rfl
theorem oH:Am Tryz.prog 250=true:=by kernel_rfl
theorem oG:Am Tryz.prog 251=true:=by kernel_rfl
theorem oF:Am Tryz.prog 252=true:=by kernel_rfl
theorem oD:Am Tryz.prog 253=true:=by kernel_rfl
theorem oC:Am Tryz.prog 254=true:=by kernel_rfl
theorem oA:Am Tryz.prog 255=true:=by kernel_rfl
theorem oz:Am Tryz.prog 256=true:=by kernel_rfl
theorem ow:Am Tryz.prog 257=true:=by kernel_rfl
theorem Xj:Am Tryz.prog 258=true:=by kernel_rfl
theorem ou:Am Tryz.prog 259=true:=by kernel_rfl
theorem dV:Am Tryz.prog 260=true:=by kernel_rfl
theorem ot:Am Tryz.prog 261=true:=by kernel_rfl
theorem oq:Am Tryz.prog 262=true:=by kernel_rfl
theorem oo:Am Tryz.prog 263=true:=by kernel_rfl
theorem om:Am Tryz.prog 265=true:=by kernel_rfl
theorem ol:Am Tryz.prog 266=true:=by kernel_rfl
theorem oh:Am Tryz.prog 267=true:=by kernel_rfl
theorem dU:Am Tryz.prog 268=true:=by kernel_rfl
theorem og:Am Tryz.prog 269=true:=by kernel_rfl
theorem oe:Am Tryz.prog 276=true:=by kernel_rfl
theorem dS:Am Tryz.prog 277=true:=by kernel_rfl
theorem Mz:Am Tryz.prog 278=true:=by kernel_rfl
theorem nB:Tryz.prog.eqGuardType Tryz.prog.depth 300=false:=by kernel_rfl
theorem vE:Tryz.prog.stoodInHeld 300=false:=by kernel_rfl
set_option maxRecDepth 100000 in
theorem WZ{c:Addr->Y1 Y2}(x y:W3):ev Tryz.prog c (Op.equal 300 (.agg #[U (hi x),U (lo x)]) (.agg #[U (hi y),U (lo y)]))=some (x==y):=by
 have h:=UK (P:=Tryz.prog) (c:=c) 9999 (t:=300) #[U (hi x),U (lo x)] #[U (hi y),U (lo y)] Z vE (λf=>if f.offset=0 then(((hi x).toNat:Int)==((hi y).toNat:Int))else(((lo x).toNat:Int)==((lo y).toNat:Int)))
  (λf hf=>by
   simp only [zy,List.not_mem_nil,or_false] at hf
   rcases hf with rfl|rfl
   ·exact⟨by decide,_,_,Lw (P:=Tryz.prog) (t:=36) Z (by intro fs h;cases h) (by intro n e h;cases h) _ _ Z,Lw (P:=Tryz.prog) (t:=36) Z (by intro fs h;cases h) (by intro n e h;cases h) _ _ Z,RA _ _ _ Z⟩
   ·exact⟨by decide,_,_,Lw (P:=Tryz.prog) (t:=36) Z (by intro fs h;cases h) (by intro n e h;cases h) _ _ Z,Lw (P:=Tryz.prog) (t:=36) Z (by intro fs h;cases h) (by intro n e h;cases h) _ _ Z,RA _ _ _ Z⟩)
 have h2:=bL x y
 rw [<-h2]
 rw [show Op.equal 300 (.agg #[U (hi x),U (lo x)]) (.agg #[U (hi y),U (lo y)])=Op.equalIn (9999+1) 300 (.agg #[U (hi x),U (lo x)]) (.agg #[U (hi y),U (lo y)])from Z,h]
 simp
end Go.Proofs.YtjnanfkpdhmnpaaGreatDoor
namespace Go.Proofs.YtjnanfkpdhmnpaaGreatDoor
open Go Go.RowKit Go.Eng
theorem io(y:W4):Gives Tryz.prog 277 #[U y] (.int .i64 ((Lib.bitLen y.toNat:Nat):Int)):=
 Gives.of_same (λw=>Tryz.bits_Len64 (y.toNat:Int) w (by omega) (by have:=y.isLt;omega))
set_option maxRecDepth 100000 in
set_option maxHeartbeats 400000 in
theorem yd(x:W3):Gives Tryz.prog 262 #[Value.agg #[U (hi (x)),U (lo (x))]] (Value.int .i64 (((len128 x:Nat):Int))):=by
 have hb:=(bE (hi x).toNat (hi x).isLt).2.2
 refine Au follows Tryz.func262 Z 13 Z (upd (λ_=>undef) 0 (Value.agg #[U (hi (x)),U (lo (x))])) (by funext k;match k with|0=>rfl|k+1=>rfl) (λbase=> ?_)
 refine Aa λK1 hK1=> ?_
 refine Ah ?_
 refine r_a (300, #[U (hi (x)),U (lo (x))]) Z Z Z (λb2=> ?_) (.inr Z)
 refine r_v (Value.int .i64 (0)) Z Z Z Z ?_
 refine Aj ?_
 refine hK1 _ _ ?_;try clear hK1 K1
 refine Aa λK3 hK3=> ?_
 refine Aa λK4 hK4=> ?_
 refine Ah ?_
 refine r_v (V7 (some ⟨b2,0,none⟩)) Z Z Z Z ?_
 refine r_l (U (hi (x))) 0 _ _ _ _ Z Z Z Z Z ?_
 refine r_v (Value.bool ((hi (x))==(0#64))) Z Z (kR (hi (x)) (0#64)) Z ?_
 refine Aj ?_
 refine hK4 _ _ ?_;try clear hK4 K4
 refine BS ((hi (x))==(0#64)) Z (λhc5=> ?_) (λhc5=> ?_)
 ·have hc5x:=eq_of_beq hc5
  refine Aa λK6 hK6=> ?_
  refine Ah ?_
  refine r_v (V7 (some ⟨b2,1,none⟩)) Z Z Z Z ?_
  refine r_l (U (lo (x))) 0 _ _ _ _ Z Z Z Z Z ?_
  refine r_c (Value.int .i64 (((Lib.bitLen (lo (x)).toNat:Nat):Int))) Z _ _ (WX Z dS Z) (io (lo (x))) ?_
  refine r_v (Value.int .i64 (((Lib.bitLen (lo (x)).toNat:Nat):Int))) Z Z Z Z ?_
  refine Aj ?_
  refine hK6 _ _ ?_;try clear hK6 K6
  refine AU (λhn=>EH (v0:=Value.int .i64 (((Lib.bitLen (lo (x)).toNat:Nat):Int))) (by unfold len128;rw [V8 hc5x]) (Gl Z))
 ·have hc5x:=ne_of_beq_false hc5
  refine Ac ?_
  refine hK3 _ _ ?_;try clear hK3 K3
  refine Aa λK7 hK7=> ?_
  refine Ah ?_
  refine r_v (V7 (some ⟨b2,0,none⟩)) Z Z Z Z ?_
  refine r_l (U (hi (x))) 0 _ _ _ _ Z Z Z Z Z ?_
  refine r_c (Value.int .i64 (((Lib.bitLen (hi (x)).toNat:Nat):Int))) Z _ _ (WX Z dS Z) (io (hi (x))) ?_
  refine r_v (Value.int .i64 (64+((Lib.bitLen (hi (x)).toNat:Nat):Int))) Z Z (RU (by omega) (by omega) (by omega)) Z ?_
  refine r_v (Value.int .i64 (64+((Lib.bitLen (hi (x)).toNat:Nat):Int))) Z Z Z Z ?_
  refine Aj ?_
  refine hK7 _ _ ?_;try clear hK7 K7
  refine AU (λhn=>EH (v0:=Value.int .i64 (64+((Lib.bitLen (hi (x)).toNat:Nat):Int))) (by unfold len128;rw [V9 hc5x];rfl) (Gl Z))
end Go.Proofs.YtjnanfkpdhmnpaaGreatDoor
namespace Go.Proofs.YtjnanfkpdhmnpaaGreatDoor
open Go Go.RowKit Go.Eng
theorem gG:((Tryz.prog.info? 287).bind (·.zero))=some (.agg ⟨List.replicate 128 (.bool false)⟩):=by kernel_rfl
set_option maxRecDepth 100000 in
set_option maxHeartbeats 400000 in
theorem xY(h l:W4):Gives Tryz.prog 191 #[U (h),U (l)] (Value.agg (Dm (BitVec.getLsbD (h++l)))):=by
 refine Au follows Tryz.func191 Z 27 Z (upd (upd (λ_=>undef) 1 (U (l))) 0 (U (h))) (by funext k;match k with|0=>rfl|1=>rfl|k+2=>rfl) (λbase=> ?_)
 refine Aa λK1 hK1=> ?_
 refine Ah ?_
 refine r_a (287,Dm (λ_=>false)) Z Z (rr gG) (λb2=> ?_) (.inr Z)
 refine Aj ?_
 refine hK1 _ _ ?_;try clear hK1 K1
 refine Aa λK3 hK3=> ?_
 refine Ah ?_
 refine r_a (287,Dm (λ_=>false)) Z Z (rr gG) (λb4=> ?_) (.inr Z)
 refine Aj ?_
 refine hK3 _ _ ?_;try clear hK3 K3
 refine Aa λK5 hK5=> ?_
 refine Aa λK6 hK6=> ?_
 refine Ah ?_
 refine r_v (Value.int .i64 (0)) Z Z Z Z ?_
 refine Aj ?_
 refine hK6 _ _ ?_;try clear hK6 K6
 refine Ai ?_
 refine AL (λtt ll nn=> ∃(k:Nat),(k<=64)/\Is [(0,U (h>>>(k))),(1,U (l>>>(k))),(4,V7 (some ⟨b2,0,none⟩)),(5,V7 (some ⟨b4,0,none⟩)),(6,Value.int .i64 (((k:Nat):Int)))] [(b4,287,Dm (ofP h l (k))),(b2,287,Dm (λ_=>false))] tt ll/\nn=64 - (k)) (64 - (0)) ?_ ?_
 ·exact⟨0,by omega,Ag (Z) (by rw [<-mh h l]),Z⟩
 ·rintro t l n ⟨k,hp0,⟨⟨T,rfl⟩,rfl⟩,rfl⟩
  refine Aa λK7 hK7=> ?_
  refine Aa λK8 hK8=> ?_
  refine Ah ?_
  refine r_v (Value.int .i64 (((k:Nat):Int))) Z Z Z Z ?_
  refine r_v (Value.bool (decide ((((k:Nat):Int):Int)<64))) Z Z Z Z ?_
  refine Aj ?_
  refine hK8 _ _ ?_;try clear hK8 K8
  refine BS (decide ((((k:Nat):Int):Int)<64)) Z (λhc9=> ?_) (λhc9=> ?_)
  ·have hc9x:=zj hc9
   refine Ac ?_
   refine hK7 _ _ ?_;try clear hK7 K7
   refine Aa λK10 hK10=> ?_
   refine Ai ?_
   refine Aa λK11 hK11=> ?_
   refine Ah ?_
   refine r_v (Value.int .i64 (((k:Nat):Int))) Z Z Z Z ?_
   refine r_v (U (l>>>(k))) Z Z Z Z ?_
   refine r_v (U ((l>>>(k)%2#64))) Z Z (vn (l>>>(k)) (2#64)) Z ?_
   refine r_v (Value.bool ((l).getLsbD (k))) Z Z (((kR ((l>>>(k)%2#64)) (1#64)):_=Value.bool (((l>>>(k)%2#64))==(1#64))).trans (congrArg Value.bool (qV l k))) Z ?_
   have hx15:=GV (gi (P:=Tryz.prog) (c:=λ_=>none) (t:=287) (b:=b4) (off:=0) (k) Z Z Z (by omega))
   rw [q7] at hx15
   refine r_v (V7 (some ⟨b4,k,none⟩)) Z Z Z hx15 ?_
   clear hx15
   refine r_s [(b4,287,Dm (upd (ofP h l (k)) (k) ((l).getLsbD (k)))),(b2,287,Dm (λ_=>false))] 0 _ _ _ (Dm (ofP h l (k))) (#[Value.bool ((l).getLsbD (k))]) (Dm (upd (ofP h l (k)) (k) ((l).getLsbD (k)))) Z Z Z Z (TO Z Z _ _ (by omega)) (QV _ _ _) Z ?_
   refine Aj ?_
   refine hK11 _ _ ?_;try clear hK11 K11
   refine Aa λK12 hK12=> ?_
   refine Ah ?_
   refine r_v (Value.int .i64 (((k:Nat):Int))) Z Z Z Z ?_
   refine r_v (Value.int .i64 (((k+64:Nat):Int))) Z Z (RU (by omega) (by omega) (by omega)) Z ?_
   refine r_v (U (h>>>(k))) Z Z Z Z ?_
   refine r_v (U ((h>>>(k)%2#64))) Z Z (vn (h>>>(k)) (2#64)) Z ?_
   refine r_v (Value.bool ((h).getLsbD (k))) Z Z (((kR ((h>>>(k)%2#64)) (1#64)):_=Value.bool (((h>>>(k)%2#64))==(1#64))).trans (congrArg Value.bool (qV h k))) Z ?_
   have hx21:=GV (gi (P:=Tryz.prog) (c:=λ_=>none) (t:=287) (b:=b4) (off:=0) (k+64) Z Z Z (by omega))
   rw [q7] at hx21
   refine r_v (V7 (some ⟨b4,k+64,none⟩)) Z Z Z hx21 ?_
   clear hx21
   refine r_s [(b4,287,Dm (ofP h l (k+1))),(b2,287,Dm (λ_=>false))] 0 _ _ _ (Dm (upd (ofP h l (k)) (k) ((l).getLsbD (k)))) (#[Value.bool ((h).getLsbD (k))]) (Dm (ofP h l (k+1))) Z Z Z Z (TO Z Z _ _ (by omega)) ((QV _ _ _).trans (mi h l k (by omega))) Z ?_
   refine Aj ?_
   refine hK12 _ _ ?_;try clear hK12 K12
   refine Aa λK13 hK13=> ?_
   refine Ah ?_
   refine r_v (U (l>>>(k))) Z Z Z Z ?_
   refine r_v (U (l>>>(k+1))) Z Z (((vo (l>>>(k)) (2#64)):_=U ((l>>>(k) / 2#64))).trans (congrArg U (bS l k))) Z ?_
   refine r_v (U (l>>>(k+1))) Z Z Z Z ?_
   refine Aj ?_
   refine hK13 _ _ ?_;try clear hK13 K13
   refine Ah ?_
   refine r_v (U (h>>>(k))) Z Z Z Z ?_
   refine r_v (U (h>>>(k+1))) Z Z (((vo (h>>>(k)) (2#64)):_=U ((h>>>(k) / 2#64))).trans (congrArg U (bS h k))) Z ?_
   refine r_v (U (h>>>(k+1))) Z Z Z Z ?_
   refine Aj ?_
   refine hK10 _ _ ?_;try clear hK10 K10
   refine Ah ?_
   refine r_v (Value.int .i64 (((k:Nat):Int))) Z Z Z Z ?_
   refine r_v (Value.int .i64 (((k+1:Nat):Int))) Z Z (RU (by omega) (by omega) (by omega)) Z ?_
   refine r_v (Value.int .i64 (((k+1:Nat):Int))) Z Z Z Z ?_
   refine Aj ?_
   refine fg _ (.of (List.Sublist.cons_cons _ (List.Sublist.cons_cons _ (List.Sublist.slnil)))) ?_
   exact⟨_,by omega,k+1,by omega,Ag (Z) (Z),Z⟩
  ·have hc9x:=of_decide_eq_false hc9
   refine AM ?_
   refine hK5 _ _ ?_;try clear hK5 K5
   refine Aa λK14 hK14=> ?_
   refine Ah ?_
   refine r_l (Value.agg (Dm (ofP h l (k)))) 0 _ _ _ _ Z Z Z Z (ax Z Z Z _) ?_
   refine r_s [(b4,287,Dm (ofP h l (k))),(b2,287,Dm (ofP h l (k)))] 1 _ _ _ (Dm (λ_=>false)) (Dm (ofP h l (k))) (Dm (ofP h l (k))) Z Z Z Z (YP Z Z _ _) (UB _ _) Z ?_
   refine Aj ?_
   refine hK14 _ _ ?_;try clear hK14 K14
   refine AU (λhn=>EH (v0:=Value.agg (Dm (ofP h l (k)))) (mj h l (by omega) (by omega)) (Gl (Bf hn 1 Z Z (ax Z Z Z _))))
end Go.Proofs.YtjnanfkpdhmnpaaGreatDoor
