import Derived.Shelf.Strings.Builder1
import Derived.Shelf.Strings.Builder2
import Derived.Shelf.Strconv.Itoa0
import Derived.Shelf.Strings.Search1
import Derived.Shelf.Strings.Search2
import Derived.Shelf.Strings.Search3
import Derived.Shelf.LaysM
import Derived.Shelf.Strings.Shaped
import Derived.Shelf.Bits.Mul64
import Derived.Shelf.Slices.Turned
import Derived.Test.YtjlomkippigejaaGreatDoorProg
import Derived.Test.YtjlomkippigejaaGreatDoorRows
import Derived.Test.YtjlomkippigejaaGreatDoorMd
import Derived.Test.YtjlomkippigejaaGreatDoorIt
namespace Go.Proofs
open Go.Shelf
def Tryz.lays129_ren:Go.Shelf.Ren:=⟨λ|129=>257|n=>n,λ|53=>40|3=>3|4=>4|46=>158|5=>5|9=>9|n=>n,λ|n=>n⟩
theorem Tryz.lays129:Go.Proofs.Lays.n129 Tryz.prog Tryz.lays129_ren:={
 mixed:=by kernel_rfl
 f129:=Tryz.func257.trans (congrArg some (by kernel_rfl))
 t3:=Tryz.underlying3
 a3:=Tryz.isAgg3
 z3:=Tryz.sizeOf3
 v3:=Tryz.zeroValue3
 t4:=Tryz.underlying4
 a4:=Tryz.isAgg4
 z4:=Tryz.sizeOf4
 v4:=Tryz.zeroValue4
 t5:=Tryz.underlying5
 a5:=Tryz.isAgg5
 z5:=Tryz.sizeOf5
 v5:=Tryz.zeroValue5
 t9:=Tryz.underlying9
 a9:=Tryz.isAgg9
 z9:=Tryz.sizeOf9
 v9:=Tryz.zeroValue9
 t46:=Tryz.underlying158
 a46:=Tryz.isAgg158
 z46:=Tryz.sizeOf158
 v46:=Tryz.zeroValue158
 t53:=Tryz.underlying40
 a53:=Tryz.isAgg40
 z53:=Tryz.sizeOf40
 v53:=Tryz.zeroValue40}
theorem Tryz.bits_Len64(x:Int)(w:World)(h0:0<=x)(h1:x<=18446744073709551615):
  Calls Tryz.prog 257 #[.int .u64 x] w λe w'=>e= .returned (.int .i64 (Lib.bitLen x.toNat))/\w'=w:=Any.bits_Len64 Tryz.lays129 x w h0 h1
def Tryz.lays219_ren:Go.Shelf.Ren:=⟨λ|219=>258|217=>263|225=>264|224=>265|267=>266|266=>270|314=>271|n=>n,λ|9=>9|3=>3|4=>4|5=>5|46=>158|146=>230|51=>229|n=>n,λ|1=>1|n=>n⟩
theorem Tryz.lays219:Go.Proofs.Lays.n219 Tryz.prog Tryz.lays219_ren:={
 mixed:=by kernel_rfl
 f217:=Tryz.func263.trans (congrArg some (by kernel_rfl))
 f219:=Tryz.func258.trans (congrArg some (by kernel_rfl))
 f224:=Tryz.func265.trans (congrArg some (by kernel_rfl))
 f225:=Tryz.func264.trans (congrArg some (by kernel_rfl))
 f266:=Tryz.func270.trans (congrArg some (by kernel_rfl))
 f267:=Tryz.func266.trans (congrArg some (by kernel_rfl))
 f314:=Tryz.func271.trans (congrArg some (by kernel_rfl))
 t3:=Tryz.underlying3
 a3:=Tryz.isAgg3
 z3:=Tryz.sizeOf3
 v3:=Tryz.zeroValue3
 t4:=Tryz.underlying4
 a4:=Tryz.isAgg4
 z4:=Tryz.sizeOf4
 v4:=Tryz.zeroValue4
 t5:=Tryz.underlying5
 a5:=Tryz.isAgg5
 z5:=Tryz.sizeOf5
 v5:=Tryz.zeroValue5
 t9:=Tryz.underlying9
 a9:=Tryz.isAgg9
 z9:=Tryz.sizeOf9
 v9:=Tryz.zeroValue9
 t46:=Tryz.underlying158
 a46:=Tryz.isAgg158
 z46:=Tryz.sizeOf158
 v46:=Tryz.zeroValue158
 t51:=Tryz.underlying229
 a51:=Tryz.isAgg229
 z51:=Tryz.sizeOf229
 v51:=Tryz.zeroValue229
 t146:=Tryz.underlying230
 a146:=Tryz.isAgg230
 z146:=Tryz.sizeOf230
 v146:=Tryz.zeroValue230
 g1:=by kernel_rfl}
open Go.RowKit Go.Lib in
theorem Tryz.stringslite_Index_one(s:ByteArray)(c:UInt8)(w:World):
  Calls Tryz.prog 258 #[.string s, .string ⟨#[c]⟩] w λe w'=>e= .returned (.int .i64 (Lib.indexByte s.data.toList c))/\w'=w:=Any.stringslite_Index_one Tryz.lays219 s c w
end Go.Proofs
namespace Go.Proofs.YtjlomkippigejaaGreatDoor
open Go Go.RowKit Go.Eng
theorem follows:Tryz.prog.follows .mixedOrders=true:=by kernel_rfl
theorem vY:Am Tryz.prog 4=true:=by kernel_rfl
theorem fL:Am Tryz.prog 5=true:=by kernel_rfl
theorem mT:Am Tryz.prog 6=true:=by kernel_rfl
theorem fK:Am Tryz.prog 7=true:=by kernel_rfl
theorem vX:Am Tryz.prog 8=true:=by kernel_rfl
theorem TY:Am Tryz.prog 9=true:=by kernel_rfl
theorem tv:Am Tryz.prog 10=true:=by kernel_rfl
theorem tu:Am Tryz.prog 11=true:=by kernel_rfl
theorem tr:Am Tryz.prog 12=true:=by kernel_rfl
theorem tq:Am Tryz.prog 13=true:=by kernel_rfl
theorem tp:Am Tryz.prog 14=true:=by kernel_rfl
theorem iq:Am Tryz.prog 15=true:=by kernel_rfl
theorem aZ:Am Tryz.prog 16=true:=by kernel_rfl
theorem Vb:Am Tryz.prog 17=true:=by kernel_rfl
theorem tl:Am Tryz.prog 18=true:=by kernel_rfl
theorem aY:Am Tryz.prog 19=true:=by kernel_rfl
theorem tk:Am Tryz.prog 20=true:=by kernel_rfl
theorem ip:Am Tryz.prog 21=true:=by kernel_rfl
theorem Va:Am Tryz.prog 22=true:=by kernel_rfl
theorem tj:Am Tryz.prog 23=true:=by kernel_rfl
theorem io:Am Tryz.prog 24=true:=by kernel_rfl
theorem im:Am Tryz.prog 25=true:=by kernel_rfl
theorem th:Am Tryz.prog 26=true:=by kernel_rfl
theorem aX:Am Tryz.prog 27=true:=by kernel_rfl
theorem tg:Am Tryz.prog 28=true:=by kernel_rfl
theorem tf:Am Tryz.prog 29=true:=by kernel_rfl
theorem te:Am Tryz.prog 30=true:=by kernel_rfl
theorem Fb:Am Tryz.prog 31=true:=by kernel_rfl
theorem Bk:Am Tryz.prog 32=true:=by kernel_rfl
theorem td:Am Tryz.prog 33=true:=by kernel_rfl
theorem tc:Am Tryz.prog 34=true:=by kernel_rfl
theorem ta:Am Tryz.prog 35=true:=by kernel_rfl
theorem sZ:Am Tryz.prog 36=true:=by kernel_rfl
theorem sY:Am Tryz.prog 37=true:=by kernel_rfl
theorem aW:Am Tryz.prog 38=true:=by kernel_rfl
theorem aV:Am Tryz.prog 39=true:=by kernel_rfl
theorem ik:Am Tryz.prog 40=true:=by kernel_rfl
theorem sX:Am Tryz.prog 41=true:=by kernel_rfl
theorem ij:Am Tryz.prog 42=true:=by kernel_rfl
theorem Tg:Am Tryz.prog 43=true:=by kernel_rfl
theorem ig:Am Tryz.prog 44=true:=by kernel_rfl
theorem sW:Am Tryz.prog 45=true:=by kernel_rfl
theorem sV:Am Tryz.prog 46=true:=by kernel_rfl
theorem sU:Am Tryz.prog 47=true:=by kernel_rfl
theorem sT:Am Tryz.prog 48=true:=by kernel_rfl
theorem sS:Am Tryz.prog 49=true:=by kernel_rfl
theorem sR:Am Tryz.prog 50=true:=by kernel_rfl
theorem sQ:Am Tryz.prog 51=true:=by kernel_rfl
theorem sP:Am Tryz.prog 52=true:=by kernel_rfl
theorem sO:Am Tryz.prog 53=true:=by kernel_rfl
theorem sN:Am Tryz.prog 54=true:=by kernel_rfl
theorem sM:Am Tryz.prog 55=true:=by kernel_rfl
theorem sL:Am Tryz.prog 56=true:=by kernel_rfl
theorem sK:Am Tryz.prog 57=true:=by kernel_rfl
theorem sJ:Am Tryz.prog 58=true:=by kernel_rfl
theorem sI:Am Tryz.prog 59=true:=by kernel_rfl
theorem sH:Am Tryz.prog 60=true:=by kernel_rfl
theorem sG:Am Tryz.prog 61=true:=by kernel_rfl
theorem sF:Am Tryz.prog 62=true:=by kernel_rfl
theorem sE:Am Tryz.prog 63=true:=by kernel_rfl
theorem sD:Am Tryz.prog 64=true:=by kernel_rfl
theorem sC:Am Tryz.prog 65=true:=by kernel_rfl
theorem aU:Am Tryz.prog 66=true:=by kernel_rfl
theorem ie:Am Tryz.prog 67=true:=by kernel_rfl
theorem sB:Am Tryz.prog 68=true:=by kernel_rfl
theorem sA:Am Tryz.prog 69=true:=by kernel_rfl
theorem sy:Am Tryz.prog 70=true:=by kernel_rfl
theorem sx:Am Tryz.prog 71=true:=by kernel_rfl
theorem aT:Am Tryz.prog 72=true:=by kernel_rfl
theorem aS:Am Tryz.prog 73=true:=by kernel_rfl
theorem su:Am Tryz.prog 74=true:=by kernel_rfl
theorem Fz:Am Tryz.prog 75=true:=by kernel_rfl
theorem ss:Am Tryz.prog 76=true:=by kernel_rfl
theorem sq:Am Tryz.prog 77=true:=by kernel_rfl
theorem sp:Am Tryz.prog 78=true:=by kernel_rfl
theorem sn:Am Tryz.prog 79=true:=by kernel_rfl
theorem sm:Am Tryz.prog 80=true:=by kernel_rfl
theorem sk:Am Tryz.prog 81=true:=by kernel_rfl
theorem UZ:Am Tryz.prog 82=true:=by kernel_rfl
theorem ic:Am Tryz.prog 83=true:=by kernel_rfl
theorem ib:Am Tryz.prog 84=true:=by kernel_rfl
theorem UY:Am Tryz.prog 85=true:=by kernel_rfl
theorem aQ:Am Tryz.prog 86=true:=by kernel_rfl
theorem sj:Am Tryz.prog 87=true:=by kernel_rfl
theorem aP:Am Tryz.prog 88=true:=by kernel_rfl
theorem si:Am Tryz.prog 89=true:=by kernel_rfl
theorem sg:Am Tryz.prog 90=true:=by kernel_rfl
theorem ia:Am Tryz.prog 91=true:=by kernel_rfl
theorem sf:Am Tryz.prog 92=true:=by kernel_rfl
theorem aO:Am Tryz.prog 93=true:=by kernel_rfl
theorem se:Am Tryz.prog 94=true:=by kernel_rfl
theorem sd:Am Tryz.prog 95=true:=by kernel_rfl
theorem sc:Am Tryz.prog 96=true:=by kernel_rfl
theorem sb:Am Tryz.prog 97=true:=by kernel_rfl
theorem sa:Am Tryz.prog 98=true:=by kernel_rfl
theorem OI:Am Tryz.prog 99=true:=by kernel_rfl
theorem pJ:Am Tryz.prog 100=true:=by kernel_rfl
theorem pI:Am Tryz.prog 101=true:=by kernel_rfl
theorem pG:Am Tryz.prog 102=true:=by kernel_rfl
theorem pF:Am Tryz.prog 103=true:=by kernel_rfl
theorem WX:Am Tryz.prog 104=true:=by kernel_rfl
theorem pE:Am Tryz.prog 105=true:=by kernel_rfl
theorem pD:Am Tryz.prog 106=true:=by kernel_rfl
theorem pC:Am Tryz.prog 107=true:=by kernel_rfl
theorem pB:Am Tryz.prog 108=true:=by kernel_rfl
theorem pA:Am Tryz.prog 109=true:=by kernel_rfl
theorem pz:Am Tryz.prog 110=true:=by kernel_rfl
theorem py:Am Tryz.prog 111=true:=by kernel_rfl
theorem px:Am Tryz.prog 112=true:=by kernel_rfl
theorem pw:Am Tryz.prog 113=true:=by kernel_rfl
theorem dZ:Am Tryz.prog 114=true:=by kernel_rfl
theorem Th:Am Tryz.prog 115=true:=by kernel_rfl
theorem pu:Am Tryz.prog 116=true:=by kernel_rfl
theorem WW:Am Tryz.prog 117=true:=by kernel_rfl
theorem dY:Am Tryz.prog 118=true:=by kernel_rfl
theorem pr:Am Tryz.prog 119=true:=by kernel_rfl
theorem pp:Am Tryz.prog 120=true:=by kernel_rfl
theorem po:Am Tryz.prog 121=true:=by kernel_rfl
theorem WV:Am Tryz.prog 122=true:=by kernel_rfl
theorem pn:Am Tryz.prog 123=true:=by kernel_rfl
theorem pm:Am Tryz.prog 124=true:=by kernel_rfl
theorem pk:Am Tryz.prog 125=true:=by kernel_rfl
theorem pj:Am Tryz.prog 126=true:=by kernel_rfl
theorem pi:Am Tryz.prog 127=true:=by kernel_rfl
theorem ph:Am Tryz.prog 128=true:=by kernel_rfl
theorem dX:Am Tryz.prog 129=true:=by kernel_rfl
theorem pg:Am Tryz.prog 130=true:=by kernel_rfl
theorem WU:Am Tryz.prog 131=true:=by kernel_rfl
theorem pf:Am Tryz.prog 132=true:=by kernel_rfl
theorem pe:Am Tryz.prog 133=true:=by kernel_rfl
theorem pd:Am Tryz.prog 135=true:=by kernel_rfl
theorem pb:Am Tryz.prog 136=true:=by kernel_rfl
theorem pa:Am Tryz.prog 137=true:=by kernel_rfl
theorem dW:Am Tryz.prog 138=true:=by kernel_rfl
theorem oZ:Am Tryz.prog 139=true:=by kernel_rfl
theorem oY:Am Tryz.prog 140=true:=by kernel_rfl
theorem oX:Am Tryz.prog 141=true:=by kernel_rfl
theorem dV:Am Tryz.prog 142=true:=by kernel_rfl
theorem dU:Am Tryz.prog 143=true:=by kernel_rfl
theorem oW:Am Tryz.prog 144=true:=by kernel_rfl
theorem dS:Am Tryz.prog 145=true:=by kernel_rfl
theorem dR:Am Tryz.prog 146=true:=by kernel_rfl
theorem PB:Am Tryz.prog 147=true:=by kernel_rfl
theorem oV:Am Tryz.prog 148=true:=by kernel_rfl
theorem dQ:Am Tryz.prog 149=true:=by kernel_rfl
theorem oU:Am Tryz.prog 150=true:=by kernel_rfl
theorem oT:Am Tryz.prog 151=true:=by kernel_rfl
theorem oQ:Am Tryz.prog 152=true:=by kernel_rfl
theorem dP:Am Tryz.prog 153=true:=by kernel_rfl
theorem oP:Am Tryz.prog 154=true:=by kernel_rfl
theorem dO:Am Tryz.prog 155=true:=by kernel_rfl
theorem oO:Am Tryz.prog 156=true:=by kernel_rfl
theorem dN:Am Tryz.prog 157=true:=by kernel_rfl
theorem oN:Am Tryz.prog 158=true:=by kernel_rfl
theorem dM:Am Tryz.prog 159=true:=by kernel_rfl
theorem KX:Am Tryz.prog 160=true:=by kernel_rfl
theorem dL:Am Tryz.prog 161=true:=by kernel_rfl
theorem dK:Am Tryz.prog 162=true:=by kernel_rfl
theorem oM:Am Tryz.prog 163=true:=by kernel_rfl
theorem oL:Am Tryz.prog 164=true:=by kernel_rfl
theorem oK:Am Tryz.prog 165=true:=by kernel_rfl
theorem Oc:Am Tryz.prog 166=true:=by kernel_rfl
theorem oJ:Am Tryz.prog 167=true:=by kernel_rfl
theorem oH:Am Tryz.prog 168=true:=by kernel_rfl
theorem oG:Am Tryz.prog 169=true:=by kernel_rfl
theorem oF:Am Tryz.prog 170=true:=by kernel_rfl
theorem oD:Am Tryz.prog 171=true:=by kernel_rfl
theorem oC:Am Tryz.prog 172=true:=by kernel_rfl
theorem oA:Am Tryz.prog 173=true:=by kernel_rfl
theorem dJ:Am Tryz.prog 174=true:=by kernel_rfl
theorem WT:Am Tryz.prog 175=true:=by kernel_rfl
theorem oz:Am Tryz.prog 176=true:=by kernel_rfl
theorem ow:Am Tryz.prog 177=true:=by kernel_rfl
theorem ou:Am Tryz.prog 178=true:=by kernel_rfl
theorem ot:Am Tryz.prog 179=true:=by kernel_rfl
theorem oq:Am Tryz.prog 180=true:=by kernel_rfl
theorem oo:Am Tryz.prog 181=true:=by kernel_rfl
theorem om:Am Tryz.prog 182=true:=by kernel_rfl
theorem ol:Am Tryz.prog 183=true:=by kernel_rfl
theorem oh:Am Tryz.prog 184=true:=by kernel_rfl
theorem dI:Am Tryz.prog 185=true:=by kernel_rfl
theorem og:Am Tryz.prog 186=true:=by kernel_rfl
theorem oe:Am Tryz.prog 187=true:=by kernel_rfl
theorem od:Am Tryz.prog 188=true:=by kernel_rfl
theorem oc:Am Tryz.prog 189=true:=by kernel_rfl
theorem ob:Am Tryz.prog 190=true:=by kernel_rfl
theorem oa:Am Tryz.prog 191=true:=by kernel_rfl
theorem nZ:Am Tryz.prog 192=true:=by kernel_rfl
theorem nY:Am Tryz.prog 193=true:=by kernel_rfl
theorem nX:Am Tryz.prog 194=true:=by kernel_rfl
theorem nW:Am Tryz.prog 195=true:=by kernel_rfl
theorem nV:Am Tryz.prog 196=true:=by kernel_rfl
theorem nU:Am Tryz.prog 197=true:=by kernel_rfl
theorem nT:Am Tryz.prog 198=true:=by kernel_rfl
theorem nR:Am Tryz.prog 199=true:=by kernel_rfl
theorem nQ:Am Tryz.prog 200=true:=by kernel_rfl
theorem nP:Am Tryz.prog 201=true:=by kernel_rfl
theorem nO:Am Tryz.prog 202=true:=by kernel_rfl
theorem nN:Am Tryz.prog 203=true:=by kernel_rfl
theorem nM:Am Tryz.prog 204=true:=by kernel_rfl
theorem nL:Am Tryz.prog 205=true:=by kernel_rfl
theorem WS:Am Tryz.prog 206=true:=by kernel_rfl
theorem Md:Am Tryz.prog 207=true:=by kernel_rfl
theorem dH:Am Tryz.prog 208=true:=by kernel_rfl
theorem PA:Am Tryz.prog 209=true:=by kernel_rfl
theorem nK:Am Tryz.prog 210=true:=by kernel_rfl
theorem dG:Am Tryz.prog 211=true:=by kernel_rfl
theorem nJ:Am Tryz.prog 212=true:=by kernel_rfl
theorem dE:Am Tryz.prog 213=true:=by kernel_rfl
theorem dD:Am Tryz.prog 214=true:=by kernel_rfl
theorem WR:Am Tryz.prog 215=true:=by kernel_rfl
theorem dC:Am Tryz.prog 216=true:=by kernel_rfl
theorem dB:Am Tryz.prog 217=true:=by kernel_rfl
theorem nI:Am Tryz.prog 218=true:=by kernel_rfl
theorem dA:Am Tryz.prog 219=true:=by kernel_rfl
theorem nH:Am Tryz.prog 220=true:=by kernel_rfl
theorem dz:Am Tryz.prog 221=true:=by kernel_rfl
theorem nG:Am Tryz.prog 222=true:=by kernel_rfl
theorem nF:Am Tryz.prog 223=true:=by kernel_rfl
theorem dy:Am Tryz.prog 224=true:=by kernel_rfl
theorem nE:Am Tryz.prog 225=true:=by kernel_rfl
theorem dw:Am Tryz.prog 226=true:=by kernel_rfl
theorem nD:Am Tryz.prog 227=true:=by kernel_rfl
theorem nC:Am Tryz.prog 228=true:=by kernel_rfl
theorem WQ:Am Tryz.prog 229=true:=by kernel_rfl
theorem nB:Am Tryz.prog 230=true:=by kernel_rfl
theorem WP:Am Tryz.prog 231=true:=by kernel_rfl
theorem nA:Am Tryz.prog 232=true:=by kernel_rfl
theorem nz:Am Tryz.prog 233=true:=by kernel_rfl
theorem ny:Am Tryz.prog 234=true:=by kernel_rfl
theorem nv:Am Tryz.prog 235=true:=by kernel_rfl
theorem nu:Am Tryz.prog 236=true:=by kernel_rfl
theorem nt:Am Tryz.prog 237=true:=by kernel_rfl
theorem WO:Am Tryz.prog 238=true:=by kernel_rfl
theorem nr:Am Tryz.prog 239=true:=by kernel_rfl
theorem nq:Am Tryz.prog 240=true:=by kernel_rfl
theorem np:Am Tryz.prog 241=true:=by kernel_rfl
theorem nl:Am Tryz.prog 242=true:=by kernel_rfl
theorem nk:Am Tryz.prog 243=true:=by kernel_rfl
theorem nj:Am Tryz.prog 244=true:=by kernel_rfl
theorem nh:Am Tryz.prog 245=true:=by kernel_rfl
theorem ng:Am Tryz.prog 246=true:=by kernel_rfl
theorem Ko:Am Tryz.prog 247=true:=by kernel_rfl
theorem nf:Am Tryz.prog 248=true:=by kernel_rfl
theorem nd:Am Tryz.prog 249=true:=by kernel_rfl
theorem nc:Am Tryz.prog 250=true:=by kernel_rfl
theorem nb:Am Tryz.prog 251=true:=by kernel_rfl
theorem na:Am Tryz.prog 252=true:=by kernel_rfl
theorem mZ:Am Tryz.prog 253=true:=by kernel_rfl
theorem dv:Am Tryz.prog 254=true:=by kernel_rfl
theorem du:Am Tryz.prog 255=true:=by kernel_rfl
theorem mY:Am Tryz.prog 256=true:=by kernel_rfl
theorem dt:Am Tryz.prog 257=true:=by kernel_rfl
theorem mX:Am Tryz.prog 258=true:=by kernel_rfl
theorem WN:Am Tryz.prog 259=true:=by kernel_rfl
theorem mW:Am Tryz.prog 260=true:=by kernel_rfl
theorem dq:Am Tryz.prog 261=true:=by kernel_rfl
theorem mV:Am Tryz.prog 262=true:=by kernel_rfl
theorem mU:Am Tryz.prog 269=true:=by kernel_rfl
theorem mn:Tryz.prog.eqGuardType Tryz.prog.depth 335=false:=by kernel_rfl
theorem uo:Tryz.prog.stoodInHeld 335=false:=by kernel_rfl
set_option maxRecDepth 100000 in
theorem WD{c:Addr->Option Value}(x y:W3):ev Tryz.prog c (Op.equal 335 (.agg #[U (hi x),U (lo x)]) (.agg #[U (hi y),U (lo y)]))=some (x==y):=by
 have h:=Uq (P:=Tryz.prog) (c:=c) 9999 (t:=335) #[U (hi x),U (lo x)] #[U (hi y),U (lo y)] Z uo (λf=>if f.offset=0 then(((hi x).toNat:Int)==((hi y).toNat:Int))else(((lo x).toNat:Int)==((lo y).toNat:Int)))
  (λf hf=>by
   simp only [zr,List.not_mem_nil,or_false] at hf
   rcases hf with rfl|rfl
   ·exact⟨by decide,_,_,KU (P:=Tryz.prog) (t:=40) Z (by intro fs h;cases h) (by intro n e h;cases h) _ _ Z,KU (P:=Tryz.prog) (t:=40) Z (by intro fs h;cases h) (by intro n e h;cases h) _ _ Z,QV _ _ _ Z⟩
   ·exact⟨by decide,_,_,KU (P:=Tryz.prog) (t:=40) Z (by intro fs h;cases h) (by intro n e h;cases h) _ _ Z,KU (P:=Tryz.prog) (t:=40) Z (by intro fs h;cases h) (by intro n e h;cases h) _ _ Z,QV _ _ _ Z⟩)
 have h2:=bm x y
 rw [<-h2]
 rw [show Op.equal 335 (.agg #[U (hi x),U (lo x)]) (.agg #[U (hi y),U (lo y)])=Op.equalIn (9999+1) 335 (.agg #[U (hi x),U (lo x)]) (.agg #[U (hi y),U (lo y)])from Z,h]
 simp
end Go.Proofs.YtjlomkippigejaaGreatDoor
namespace Go.Proofs.YtjlomkippigejaaGreatDoor
open Go Go.RowKit Go.Eng
theorem gD(y:W4):Gives Tryz.prog 257 #[U y] (.int .i64 ((Lib.bitLen y.toNat:Nat):Int)):=
 Gives.of_same (λw=>Tryz.bits_Len64 (y.toNat:Int) w (by omega) (by have:=y.isLt;omega))
set_option maxRecDepth 100000 in
set_option maxHeartbeats 400000 in
theorem wY(x:W3):Gives Tryz.prog 245 #[Value.agg #[U (hi (x)),U (lo (x))]] (Value.int .i64 (((len128 x:Nat):Int))):=by
 have hb:=(bc (hi x).toNat (hi x).isLt).2.2
 refine Aq follows Tryz.func245 Z 13 Z (upd (λ_=>undef) 0 (Value.agg #[U (hi (x)),U (lo (x))])) (by funext k;match k with|0=>rfl|k+1=>rfl) (λbase=> ?_)
 refine Aa λK1 hK1=> ?_
 refine Ah ?_
 refine r_a (335, #[U (hi (x)),U (lo (x))]) Z Z Z (λb2=> ?_) (.inr Z)
 refine r_v (Value.int .i64 (0)) Z Z Z Z ?_
 refine Ak ?_
 refine hK1 _ _ ?_;try clear hK1 K1
 refine Aa λK3 hK3=> ?_
 refine Aa λK4 hK4=> ?_
 refine Ah ?_
 refine r_v (Value.pointer (some ⟨b2,0,none⟩)) Z Z Z Z ?_
 refine r_l (U (hi (x))) 0 _ _ _ _ Z Z Z Z Z ?_
 refine r_v (Value.bool ((hi (x))==(0#64))) Z Z (jI (hi (x)) (0#64)) Z ?_
 refine Ak ?_
 refine hK4 _ _ ?_;try clear hK4 K4
 refine BI ((hi (x))==(0#64)) Z (λhc5=> ?_) (λhc5=> ?_)
 ·have hc5x:=eq_of_beq hc5
  refine Aa λK6 hK6=> ?_
  refine Ah ?_
  refine r_v (Value.pointer (some ⟨b2,1,none⟩)) Z Z Z Z ?_
  refine r_l (U (lo (x))) 0 _ _ _ _ Z Z Z Z Z ?_
  refine r_c (Value.int .i64 (((Lib.bitLen (lo (x)).toNat:Nat):Int))) Z _ _ (WB Z dt Z) (gD (lo (x))) ?_
  refine r_v (Value.int .i64 (((Lib.bitLen (lo (x)).toNat:Nat):Int))) Z Z Z Z ?_
  refine Ak ?_
  refine hK6 _ _ ?_;try clear hK6 K6
  refine Bh (λhn=>Eu (v0:=Value.int .i64 (((Lib.bitLen (lo (x)).toNat:Nat):Int))) (by unfold len128;rw [if_pos hc5x]) (FZ Z))
 ·have hc5x:=ne_of_beq_false hc5
  refine Ab ?_
  refine hK3 _ _ ?_;try clear hK3 K3
  refine Aa λK7 hK7=> ?_
  refine Ah ?_
  refine r_v (Value.pointer (some ⟨b2,0,none⟩)) Z Z Z Z ?_
  refine r_l (U (hi (x))) 0 _ _ _ _ Z Z Z Z Z ?_
  refine r_c (Value.int .i64 (((Lib.bitLen (hi (x)).toNat:Nat):Int))) Z _ _ (WB Z dt Z) (gD (hi (x))) ?_
  refine r_v (Value.int .i64 (64+((Lib.bitLen (hi (x)).toNat:Nat):Int))) Z Z (Rv (by omega) (by omega) (by omega)) Z ?_
  refine r_v (Value.int .i64 (64+((Lib.bitLen (hi (x)).toNat:Nat):Int))) Z Z Z Z ?_
  refine Ak ?_
  refine hK7 _ _ ?_;try clear hK7 K7
  refine Bh (λhn=>Eu (v0:=Value.int .i64 (64+((Lib.bitLen (hi (x)).toNat:Nat):Int))) (by unfold len128;rw [if_neg hc5x];rfl) (FZ Z))
end Go.Proofs.YtjlomkippigejaaGreatDoor
namespace Go.Proofs.YtjlomkippigejaaGreatDoor
open Go Go.RowKit Go.Eng
theorem fU:((Tryz.prog.info? 323).bind (·.zero))=some (.agg ⟨List.replicate 128 (.bool false)⟩):=by kernel_rfl
set_option maxRecDepth 100000 in
set_option maxHeartbeats 400000 in
theorem wT(h l:W4):Gives Tryz.prog 213 #[U (h),U (l)] (Value.agg (Dc (BitVec.getLsbD (h++l)))):=by
 refine Aq follows Tryz.func213 Z 27 Z (upd (upd (λ_=>undef) 1 (U (l))) 0 (U (h))) (by funext k;match k with|0=>rfl|1=>rfl|k+2=>rfl) (λbase=> ?_)
 refine Aa λK1 hK1=> ?_
 refine Ah ?_
 refine r_a (323,Dc (λ_=>false)) Z Z (qf fU) (λb2=> ?_) (.inr Z)
 refine Ak ?_
 refine hK1 _ _ ?_;try clear hK1 K1
 refine Aa λK3 hK3=> ?_
 refine Ah ?_
 refine r_a (323,Dc (λ_=>false)) Z Z (qf fU) (λb4=> ?_) (.inr Z)
 refine Ak ?_
 refine hK3 _ _ ?_;try clear hK3 K3
 refine Aa λK5 hK5=> ?_
 refine Aa λK6 hK6=> ?_
 refine Ah ?_
 refine r_v (Value.int .i64 (0)) Z Z Z Z ?_
 refine Ak ?_
 refine hK6 _ _ ?_;try clear hK6 K6
 refine Ai ?_
 refine AH (λtt ll nn=> ∃(k:Nat),(k<=64)/\Is [(0,U (h>>>(k))),(1,U (l>>>(k))),(4,Value.pointer (some ⟨b2,0,none⟩)),(5,Value.pointer (some ⟨b4,0,none⟩)),(6,Value.int .i64 (((k:Nat):Int)))] [(b4,323,Dc (ofP h l (k))),(b2,323,Dc (λ_=>false))] tt ll/\nn=64 - (k)) (64 - (0)) ?_ ?_
 ·exact⟨0,by omega,Ag (Z) (by rw [<-kS h l]),Z⟩
 ·rintro t l n ⟨k,hp0,⟨⟨T,rfl⟩,rfl⟩,rfl⟩
  refine Aa λK7 hK7=> ?_
  refine Aa λK8 hK8=> ?_
  refine Ah ?_
  refine r_v (Value.int .i64 (((k:Nat):Int))) Z Z Z Z ?_
  refine r_v (Value.bool (decide ((((k:Nat):Int):Int)<64))) Z Z Z Z ?_
  refine Ak ?_
  refine hK8 _ _ ?_;try clear hK8 K8
  refine BI (decide ((((k:Nat):Int):Int)<64)) Z (λhc9=> ?_) (λhc9=> ?_)
  ·have hc9x:=zd hc9
   refine Ab ?_
   refine hK7 _ _ ?_;try clear hK7 K7
   refine Aa λK10 hK10=> ?_
   refine Ai ?_
   refine Aa λK11 hK11=> ?_
   refine Ah ?_
   refine r_v (Value.int .i64 (((k:Nat):Int))) Z Z Z Z ?_
   refine r_v (U (l>>>(k))) Z Z Z Z ?_
   refine r_v (U ((l>>>(k)%2#64))) Z Z (pY (l>>>(k)) (2#64)) Z ?_
   refine r_v (Value.bool ((l).getLsbD (k))) Z Z (((jI ((l>>>(k)%2#64)) (1#64)):_=Value.bool (((l>>>(k)%2#64))==(1#64))).trans (congrArg Value.bool (pM l k))) Z ?_
   have hx15:=Fc (fC (P:=Tryz.prog) (c:=λ_=>none) (t:=323) (b:=b4) (off:=0) (k) Z Z Z (by omega))
   rw [q6] at hx15
   refine r_v (Value.pointer (some ⟨b4,k,none⟩)) Z Z Z hx15 ?_
   clear hx15
   refine r_s [(b4,323,Dc (upd (ofP h l (k)) (k) ((l).getLsbD (k)))),(b2,323,Dc (λ_=>false))] 0 _ _ _ (Dc (ofP h l (k))) (#[Value.bool ((l).getLsbD (k))]) (Dc (upd (ofP h l (k)) (k) ((l).getLsbD (k)))) Z Z Z Z (Tm Z Z _ _ (by omega)) (Qq _ _ _) Z ?_
   refine Ak ?_
   refine hK11 _ _ ?_;try clear hK11 K11
   refine Aa λK12 hK12=> ?_
   refine Ah ?_
   refine r_v (Value.int .i64 (((k:Nat):Int))) Z Z Z Z ?_
   refine r_v (Value.int .i64 (((k+64:Nat):Int))) Z Z (Rv (by omega) (by omega) (by omega)) Z ?_
   refine r_v (U (h>>>(k))) Z Z Z Z ?_
   refine r_v (U ((h>>>(k)%2#64))) Z Z (pY (h>>>(k)) (2#64)) Z ?_
   refine r_v (Value.bool ((h).getLsbD (k))) Z Z (((jI ((h>>>(k)%2#64)) (1#64)):_=Value.bool (((h>>>(k)%2#64))==(1#64))).trans (congrArg Value.bool (pM h k))) Z ?_
   have hx21:=Fc (fC (P:=Tryz.prog) (c:=λ_=>none) (t:=323) (b:=b4) (off:=0) (k+64) Z Z Z (by omega))
   rw [q6] at hx21
   refine r_v (Value.pointer (some ⟨b4,k+64,none⟩)) Z Z Z hx21 ?_
   clear hx21
   refine r_s [(b4,323,Dc (ofP h l (k+1))),(b2,323,Dc (λ_=>false))] 0 _ _ _ (Dc (upd (ofP h l (k)) (k) ((l).getLsbD (k)))) (#[Value.bool ((h).getLsbD (k))]) (Dc (ofP h l (k+1))) Z Z Z Z (Tm Z Z _ _ (by omega)) ((Qq _ _ _).trans (kT h l k (by omega))) Z ?_
   refine Ak ?_
   refine hK12 _ _ ?_;try clear hK12 K12
   refine Aa λK13 hK13=> ?_
   refine Ah ?_
   refine r_v (U (l>>>(k))) Z Z Z Z ?_
   refine r_v (U (l>>>(k+1))) Z Z (((pZ (l>>>(k)) (2#64)):_=U ((l>>>(k) / 2#64))).trans (congrArg U (bu l k))) Z ?_
   refine r_v (U (l>>>(k+1))) Z Z Z Z ?_
   refine Ak ?_
   refine hK13 _ _ ?_;try clear hK13 K13
   refine Ah ?_
   refine r_v (U (h>>>(k))) Z Z Z Z ?_
   refine r_v (U (h>>>(k+1))) Z Z (((pZ (h>>>(k)) (2#64)):_=U ((h>>>(k) / 2#64))).trans (congrArg U (bu h k))) Z ?_
   refine r_v (U (h>>>(k+1))) Z Z Z Z ?_
   refine Ak ?_
   refine hK10 _ _ ?_;try clear hK10 K10
   refine Ah ?_
   refine r_v (Value.int .i64 (((k:Nat):Int))) Z Z Z Z ?_
   refine r_v (Value.int .i64 (((k+1:Nat):Int))) Z Z (Rv (by omega) (by omega) (by omega)) Z ?_
   refine r_v (Value.int .i64 (((k+1:Nat):Int))) Z Z Z Z ?_
   refine Ak ?_
   refine fg _ (.of (List.Sublist.cons_cons _ (List.Sublist.cons_cons _ (List.Sublist.slnil)))) ?_
   exact⟨_,by omega,k+1,by omega,Ag (Z) (Z),Z⟩
  ·have hc9x:=of_decide_eq_false hc9
   refine AG ?_
   refine hK5 _ _ ?_;try clear hK5 K5
   refine Aa λK14 hK14=> ?_
   refine Ah ?_
   refine r_l (Value.agg (Dc (ofP h l (k)))) 0 _ _ _ _ Z Z Z Z (ZM Z Z Z _) ?_
   refine r_s [(b4,323,Dc (ofP h l (k))),(b2,323,Dc (ofP h l (k)))] 1 _ _ _ (Dc (λ_=>false)) (Dc (ofP h l (k))) (Dc (ofP h l (k))) Z Z Z Z (Yr Z Z _ _) (Ue _ _) Z ?_
   refine Ak ?_
   refine hK14 _ _ ?_;try clear hK14 K14
   refine Bh (λhn=>Eu (v0:=Value.agg (Dc (ofP h l (k)))) (kU h l (by omega) (by omega)) (FZ (AW hn 1 Z Z (ZM Z Z Z _))))
end Go.Proofs.YtjlomkippigejaaGreatDoor
