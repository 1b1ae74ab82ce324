import Derived.Shelf.Strings.Builder1
import Derived.Shelf.Strings.Builder2
import Derived.Shelf.Strconv.Itoa0
import Derived.Shelf.Strings.Search1
import Derived.Shelf.Strings.Search2
import Derived.Shelf.Strings.Search3
import Derived.Shelf.LaysM
import Derived.Shelf.Strings.Shaped
import Derived.Shelf.Bits.Mul64
import Derived.Shelf.Slices.Turned
import Derived.Test.YthmpbldidnmenaaGreatDoorProg
import Derived.Test.YthmpbldidnmenaaGreatDoorRows
import Derived.Test.YthmpbldidnmenaaGreatDoorMd
import Derived.Test.YthmpbldidnmenaaGreatDoorRm
namespace Go.Proofs
open Go.Shelf
def Tryz.lays129_ren:Go.Shelf.Ren:=⟨fun|129=>218|n=>n,fun|53=>37|3=>3|4=>4|46=>60|5=>5|9=>9|n=>n,fun|n=>n⟩
theorem Tryz.lays129:Go.Proofs.Lays.n129 Tryz.prog Tryz.lays129_ren:={
 mixed:=by kernel_rfl
 f129:=Tryz.func218.trans (congrArg some (by kernel_rfl))
 t3:=Tryz.underlying3
 a3:=Tryz.isAgg3
 z3:=Tryz.sizeOf3
 v3:=Tryz.zeroValue3
 t4:=Tryz.underlying4
 a4:=Tryz.isAgg4
 z4:=Tryz.sizeOf4
 v4:=Tryz.zeroValue4
 t5:=Tryz.underlying5
 a5:=Tryz.isAgg5
 z5:=Tryz.sizeOf5
 v5:=Tryz.zeroValue5
 t9:=Tryz.underlying9
 a9:=Tryz.isAgg9
 z9:=Tryz.sizeOf9
 v9:=Tryz.zeroValue9
 t46:=Tryz.underlying60
 a46:=Tryz.isAgg60
 z46:=Tryz.sizeOf60
 v46:=Tryz.zeroValue60
 t53:=Tryz.underlying37
 a53:=Tryz.isAgg37
 z53:=Tryz.sizeOf37
 v53:=Tryz.zeroValue37}
theorem Tryz.bits_Len64(x:Int)(w:World)(h0:0≤x)(h1:x≤18446744073709551615):
  Calls Tryz.prog 218 #[.int .u64 x] w fun e w'=>e= .returned (.int .i64 (Lib.bitLen x.toNat))∧w'=w:=Any.bits_Len64 Tryz.lays129 x w h0 h1
def Tryz.lays219_ren:Go.Shelf.Ren:=⟨fun|219=>256|217=>261|225=>262|224=>263|267=>264|266=>268|314=>269|n=>n,fun|9=>9|3=>3|4=>4|5=>5|46=>60|146=>266|51=>265|n=>n,fun|1=>1|n=>n⟩
theorem Tryz.lays219:Go.Proofs.Lays.n219 Tryz.prog Tryz.lays219_ren:={
 mixed:=by kernel_rfl
 f217:=Tryz.func261.trans (congrArg some (by kernel_rfl))
 f219:=Tryz.func256.trans (congrArg some (by kernel_rfl))
 f224:=Tryz.func263.trans (congrArg some (by kernel_rfl))
 f225:=Tryz.func262.trans (congrArg some (by kernel_rfl))
 f266:=Tryz.func268.trans (congrArg some (by kernel_rfl))
 f267:=Tryz.func264.trans (congrArg some (by kernel_rfl))
 f314:=Tryz.func269.trans (congrArg some (by kernel_rfl))
 t3:=Tryz.underlying3
 a3:=Tryz.isAgg3
 z3:=Tryz.sizeOf3
 v3:=Tryz.zeroValue3
 t4:=Tryz.underlying4
 a4:=Tryz.isAgg4
 z4:=Tryz.sizeOf4
 v4:=Tryz.zeroValue4
 t5:=Tryz.underlying5
 a5:=Tryz.isAgg5
 z5:=Tryz.sizeOf5
 v5:=Tryz.zeroValue5
 t9:=Tryz.underlying9
 a9:=Tryz.isAgg9
 z9:=Tryz.sizeOf9
 v9:=Tryz.zeroValue9
 t46:=Tryz.underlying60
 a46:=Tryz.isAgg60
 z46:=Tryz.sizeOf60
 v46:=Tryz.zeroValue60
 t51:=Tryz.underlying265
 a51:=Tryz.isAgg265
 z51:=Tryz.sizeOf265
 v51:=Tryz.zeroValue265
 t146:=Tryz.underlying266
 a146:=Tryz.isAgg266
 z146:=Tryz.sizeOf266
 v146:=Tryz.zeroValue266
 g1:=by kernel_rfl}
open Go.RowKit Go.Lib in
theorem Tryz.stringslite_Index_one(s:ByteArray)(c:UInt8)(w:World):
  Calls Tryz.prog 256 #[.string s, .string ⟨#[c]⟩] w fun e w'=>e= .returned (.int .i64 (Lib.indexByte s.data.toList c))∧w'=w:=Any.stringslite_Index_one Tryz.lays219 s c w
end Go.Proofs
namespace Go.Proofs.YthmpbldidnmenaaGreatDoor
open Go Go.RowKit Go.Eng
theorem follows:Tryz.prog.follows .mixedOrders=true:=by kernel_rfl
theorem rx:Al Tryz.prog 4=true:=by kernel_rfl
theorem jH:Al Tryz.prog 5=true:=by kernel_rfl
theorem rv:Al Tryz.prog 6=true:=by kernel_rfl
theorem jG:Al Tryz.prog 7=true:=by kernel_rfl
theorem ru:Al Tryz.prog 8=true:=by kernel_rfl
theorem Zg:Al Tryz.prog 9=true:=by kernel_rfl
theorem eO:Al Tryz.prog 10=true:=by kernel_rfl
theorem Zr:Al Tryz.prog 11=true:=by kernel_rfl
theorem RX:Al Tryz.prog 12=true:=by kernel_rfl
theorem pC:Al Tryz.prog 13=true:=by kernel_rfl
theorem pB:Al Tryz.prog 14=true:=by kernel_rfl
theorem eN:Al Tryz.prog 15=true:=by kernel_rfl
theorem eM:Al Tryz.prog 16=true:=by kernel_rfl
theorem Zq:Al Tryz.prog 17=true:=by kernel_rfl
theorem eL:Al Tryz.prog 18=true:=by kernel_rfl
theorem eK:Al Tryz.prog 19=true:=by kernel_rfl
theorem TS:Al Tryz.prog 20=true:=by kernel_rfl
theorem Qr:Al Tryz.prog 21=true:=by kernel_rfl
theorem Zp:Al Tryz.prog 22=true:=by kernel_rfl
theorem Zo:Al Tryz.prog 23=true:=by kernel_rfl
theorem TR:Al Tryz.prog 24=true:=by kernel_rfl
theorem Zn:Al Tryz.prog 25=true:=by kernel_rfl
theorem Zm:Al Tryz.prog 26=true:=by kernel_rfl
theorem pA:Al Tryz.prog 27=true:=by kernel_rfl
theorem pz:Al Tryz.prog 28=true:=by kernel_rfl
theorem Zl:Al Tryz.prog 29=true:=by kernel_rfl
theorem py:Al Tryz.prog 30=true:=by kernel_rfl
theorem eJ:Al Tryz.prog 31=true:=by kernel_rfl
theorem TQ:Al Tryz.prog 32=true:=by kernel_rfl
theorem px:Al Tryz.prog 33=true:=by kernel_rfl
theorem Zk:Al Tryz.prog 34=true:=by kernel_rfl
theorem pw:Al Tryz.prog 35=true:=by kernel_rfl
theorem pu:Al Tryz.prog 36=true:=by kernel_rfl
theorem pr:Al Tryz.prog 37=true:=by kernel_rfl
theorem pp:Al Tryz.prog 38=true:=by kernel_rfl
theorem po:Al Tryz.prog 39=true:=by kernel_rfl
theorem eI:Al Tryz.prog 40=true:=by kernel_rfl
theorem pn:Al Tryz.prog 41=true:=by kernel_rfl
theorem Zj:Al Tryz.prog 42=true:=by kernel_rfl
theorem eH:Al Tryz.prog 43=true:=by kernel_rfl
theorem pm:Al Tryz.prog 44=true:=by kernel_rfl
theorem eG:Al Tryz.prog 45=true:=by kernel_rfl
theorem RV:Al Tryz.prog 46=true:=by kernel_rfl
theorem eF:Al Tryz.prog 47=true:=by kernel_rfl
theorem pl:Al Tryz.prog 48=true:=by kernel_rfl
theorem pk:Al Tryz.prog 49=true:=by kernel_rfl
theorem pj:Al Tryz.prog 50=true:=by kernel_rfl
theorem pi:Al Tryz.prog 51=true:=by kernel_rfl
theorem ph:Al Tryz.prog 52=true:=by kernel_rfl
theorem pg:Al Tryz.prog 53=true:=by kernel_rfl
theorem pf:Al Tryz.prog 54=true:=by kernel_rfl
theorem EG:Al Tryz.prog 55=true:=by kernel_rfl
theorem Bg:Al Tryz.prog 56=true:=by kernel_rfl
theorem pe:Al Tryz.prog 57=true:=by kernel_rfl
theorem pd:Al Tryz.prog 58=true:=by kernel_rfl
theorem pb:Al Tryz.prog 59=true:=by kernel_rfl
theorem pa:Al Tryz.prog 60=true:=by kernel_rfl
theorem oZ:Al Tryz.prog 61=true:=by kernel_rfl
theorem oY:Al Tryz.prog 62=true:=by kernel_rfl
theorem eE:Al Tryz.prog 63=true:=by kernel_rfl
theorem oX:Al Tryz.prog 64=true:=by kernel_rfl
theorem KG:Al Tryz.prog 65=true:=by kernel_rfl
theorem eD:Al Tryz.prog 66=true:=by kernel_rfl
theorem eC:Al Tryz.prog 67=true:=by kernel_rfl
theorem eB:Al Tryz.prog 68=true:=by kernel_rfl
theorem TP:Al Tryz.prog 69=true:=by kernel_rfl
theorem Zi:Al Tryz.prog 70=true:=by kernel_rfl
theorem oW:Al Tryz.prog 71=true:=by kernel_rfl
theorem Zh:Al Tryz.prog 72=true:=by kernel_rfl
theorem oV:Al Tryz.prog 73=true:=by kernel_rfl
theorem oU:Al Tryz.prog 74=true:=by kernel_rfl
theorem eA:Al Tryz.prog 75=true:=by kernel_rfl
theorem oT:Al Tryz.prog 76=true:=by kernel_rfl
theorem oQ:Al Tryz.prog 77=true:=by kernel_rfl
theorem oP:Al Tryz.prog 78=true:=by kernel_rfl
theorem oO:Al Tryz.prog 79=true:=by kernel_rfl
theorem oN:Al Tryz.prog 80=true:=by kernel_rfl
theorem oM:Al Tryz.prog 81=true:=by kernel_rfl
theorem oL:Al Tryz.prog 82=true:=by kernel_rfl
theorem oK:Al Tryz.prog 83=true:=by kernel_rfl
theorem oJ:Al Tryz.prog 84=true:=by kernel_rfl
theorem oH:Al Tryz.prog 85=true:=by kernel_rfl
theorem oG:Al Tryz.prog 86=true:=by kernel_rfl
theorem oF:Al Tryz.prog 87=true:=by kernel_rfl
theorem oD:Al Tryz.prog 88=true:=by kernel_rfl
theorem oC:Al Tryz.prog 89=true:=by kernel_rfl
theorem oA:Al Tryz.prog 90=true:=by kernel_rfl
theorem oz:Al Tryz.prog 91=true:=by kernel_rfl
theorem ow:Al Tryz.prog 92=true:=by kernel_rfl
theorem ou:Al Tryz.prog 93=true:=by kernel_rfl
theorem Zf:Al Tryz.prog 94=true:=by kernel_rfl
theorem ez:Al Tryz.prog 95=true:=by kernel_rfl
theorem ot:Al Tryz.prog 96=true:=by kernel_rfl
theorem oq:Al Tryz.prog 97=true:=by kernel_rfl
theorem oo:Al Tryz.prog 98=true:=by kernel_rfl
theorem om:Al Tryz.prog 99=true:=by kernel_rfl
theorem VL:Al Tryz.prog 100=true:=by kernel_rfl
theorem mo:Al Tryz.prog 101=true:=by kernel_rfl
theorem Dg:Al Tryz.prog 102=true:=by kernel_rfl
theorem mn:Al Tryz.prog 103=true:=by kernel_rfl
theorem Kb:Al Tryz.prog 104=true:=by kernel_rfl
theorem bO:Al Tryz.prog 105=true:=by kernel_rfl
theorem mm:Al Tryz.prog 106=true:=by kernel_rfl
theorem ml:Al Tryz.prog 107=true:=by kernel_rfl
theorem bN:Al Tryz.prog 108=true:=by kernel_rfl
theorem bM:Al Tryz.prog 109=true:=by kernel_rfl
theorem mj:Al Tryz.prog 110=true:=by kernel_rfl
theorem bL:Al Tryz.prog 111=true:=by kernel_rfl
theorem bK:Al Tryz.prog 112=true:=by kernel_rfl
theorem mi:Al Tryz.prog 113=true:=by kernel_rfl
theorem bJ:Al Tryz.prog 114=true:=by kernel_rfl
theorem mh:Al Tryz.prog 115=true:=by kernel_rfl
theorem VK:Al Tryz.prog 116=true:=by kernel_rfl
theorem mg:Al Tryz.prog 117=true:=by kernel_rfl
theorem mf:Al Tryz.prog 118=true:=by kernel_rfl
theorem me:Al Tryz.prog 119=true:=by kernel_rfl
theorem mc:Al Tryz.prog 120=true:=by kernel_rfl
theorem mb:Al Tryz.prog 121=true:=by kernel_rfl
theorem KU:Al Tryz.prog 122=true:=by kernel_rfl
theorem ma:Al Tryz.prog 123=true:=by kernel_rfl
theorem lZ:Al Tryz.prog 124=true:=by kernel_rfl
theorem lY:Al Tryz.prog 125=true:=by kernel_rfl
theorem lX:Al Tryz.prog 126=true:=by kernel_rfl
theorem VJ:Al Tryz.prog 127=true:=by kernel_rfl
theorem lW:Al Tryz.prog 128=true:=by kernel_rfl
theorem lV:Al Tryz.prog 129=true:=by kernel_rfl
theorem lU:Al Tryz.prog 130=true:=by kernel_rfl
theorem lT:Al Tryz.prog 131=true:=by kernel_rfl
theorem lS:Al Tryz.prog 132=true:=by kernel_rfl
theorem lR:Al Tryz.prog 133=true:=by kernel_rfl
theorem lQ:Al Tryz.prog 134=true:=by kernel_rfl
theorem lP:Al Tryz.prog 135=true:=by kernel_rfl
theorem lO:Al Tryz.prog 136=true:=by kernel_rfl
theorem bI:Al Tryz.prog 137=true:=by kernel_rfl
theorem RW:Al Tryz.prog 138=true:=by kernel_rfl
theorem lM:Al Tryz.prog 139=true:=by kernel_rfl
theorem VI:Al Tryz.prog 140=true:=by kernel_rfl
theorem bH:Al Tryz.prog 141=true:=by kernel_rfl
theorem lL:Al Tryz.prog 142=true:=by kernel_rfl
theorem lK:Al Tryz.prog 143=true:=by kernel_rfl
theorem lJ:Al Tryz.prog 144=true:=by kernel_rfl
theorem VH:Al Tryz.prog 145=true:=by kernel_rfl
theorem lI:Al Tryz.prog 146=true:=by kernel_rfl
theorem lH:Al Tryz.prog 147=true:=by kernel_rfl
theorem lG:Al Tryz.prog 148=true:=by kernel_rfl
theorem lF:Al Tryz.prog 149=true:=by kernel_rfl
theorem lE:Al Tryz.prog 150=true:=by kernel_rfl
theorem lD:Al Tryz.prog 151=true:=by kernel_rfl
theorem bG:Al Tryz.prog 152=true:=by kernel_rfl
theorem lC:Al Tryz.prog 153=true:=by kernel_rfl
theorem VG:Al Tryz.prog 154=true:=by kernel_rfl
theorem lB:Al Tryz.prog 155=true:=by kernel_rfl
theorem lA:Al Tryz.prog 157=true:=by kernel_rfl
theorem ly:Al Tryz.prog 158=true:=by kernel_rfl
theorem lw:Al Tryz.prog 159=true:=by kernel_rfl
theorem VF:Al Tryz.prog 160=true:=by kernel_rfl
theorem Ob:Al Tryz.prog 161=true:=by kernel_rfl
theorem lv:Al Tryz.prog 162=true:=by kernel_rfl
theorem bF:Al Tryz.prog 163=true:=by kernel_rfl
theorem bE:Al Tryz.prog 164=true:=by kernel_rfl
theorem VE:Al Tryz.prog 165=true:=by kernel_rfl
theorem bD:Al Tryz.prog 166=true:=by kernel_rfl
theorem lu:Al Tryz.prog 167=true:=by kernel_rfl
theorem bC:Al Tryz.prog 168=true:=by kernel_rfl
theorem lr:Al Tryz.prog 169=true:=by kernel_rfl
theorem bB:Al Tryz.prog 170=true:=by kernel_rfl
theorem lq:Al Tryz.prog 171=true:=by kernel_rfl
theorem bA:Al Tryz.prog 172=true:=by kernel_rfl
theorem lp:Al Tryz.prog 173=true:=by kernel_rfl
theorem bz:Al Tryz.prog 174=true:=by kernel_rfl
theorem ln:Al Tryz.prog 175=true:=by kernel_rfl
theorem lm:Al Tryz.prog 176=true:=by kernel_rfl
theorem lk:Al Tryz.prog 177=true:=by kernel_rfl
theorem ME:Al Tryz.prog 178=true:=by kernel_rfl
theorem lj:Al Tryz.prog 179=true:=by kernel_rfl
theorem li:Al Tryz.prog 180=true:=by kernel_rfl
theorem lh:Al Tryz.prog 181=true:=by kernel_rfl
theorem lg:Al Tryz.prog 182=true:=by kernel_rfl
theorem lf:Al Tryz.prog 183=true:=by kernel_rfl
theorem ld:Al Tryz.prog 184=true:=by kernel_rfl
theorem lc:Al Tryz.prog 185=true:=by kernel_rfl
theorem bx:Al Tryz.prog 186=true:=by kernel_rfl
theorem VD:Al Tryz.prog 187=true:=by kernel_rfl
theorem la:Al Tryz.prog 188=true:=by kernel_rfl
theorem kZ:Al Tryz.prog 189=true:=by kernel_rfl
theorem kY:Al Tryz.prog 190=true:=by kernel_rfl
theorem kX:Al Tryz.prog 191=true:=by kernel_rfl
theorem kW:Al Tryz.prog 192=true:=by kernel_rfl
theorem kV:Al Tryz.prog 193=true:=by kernel_rfl
theorem kU:Al Tryz.prog 194=true:=by kernel_rfl
theorem kT:Al Tryz.prog 195=true:=by kernel_rfl
theorem kS:Al Tryz.prog 196=true:=by kernel_rfl
theorem bw:Al Tryz.prog 197=true:=by kernel_rfl
theorem kR:Al Tryz.prog 198=true:=by kernel_rfl
theorem kQ:Al Tryz.prog 199=true:=by kernel_rfl
theorem kP:Al Tryz.prog 200=true:=by kernel_rfl
theorem kO:Al Tryz.prog 201=true:=by kernel_rfl
theorem kN:Al Tryz.prog 202=true:=by kernel_rfl
theorem kM:Al Tryz.prog 203=true:=by kernel_rfl
theorem kL:Al Tryz.prog 204=true:=by kernel_rfl
theorem kK:Al Tryz.prog 205=true:=by kernel_rfl
theorem kJ:Al Tryz.prog 206=true:=by kernel_rfl
theorem kI:Al Tryz.prog 207=true:=by kernel_rfl
theorem kH:Al Tryz.prog 208=true:=by kernel_rfl
theorem kG:Al Tryz.prog 209=true:=by kernel_rfl
theorem kF:Al Tryz.prog 210=true:=by kernel_rfl
theorem kE:Al Tryz.prog 211=true:=by kernel_rfl
theorem kD:Al Tryz.prog 212=true:=by kernel_rfl
theorem kA:Al Tryz.prog 213=true:=by kernel_rfl
theorem kz:Al Tryz.prog 214=true:=by kernel_rfl
theorem kw:Al Tryz.prog 215=true:=by kernel_rfl
theorem ku:Al Tryz.prog 216=true:=by kernel_rfl
theorem kt:Al Tryz.prog 217=true:=by kernel_rfl
theorem bu:Al Tryz.prog 218=true:=by kernel_rfl
theorem kr:Al Tryz.prog 219=true:=by kernel_rfl
theorem bt:Al Tryz.prog 220=true:=by kernel_rfl
theorem kq:Al Tryz.prog 221=true:=by kernel_rfl
theorem br:Al Tryz.prog 222=true:=by kernel_rfl
theorem kp:Al Tryz.prog 223=true:=by kernel_rfl
theorem bq:Al Tryz.prog 224=true:=by kernel_rfl
theorem ko:Al Tryz.prog 225=true:=by kernel_rfl
theorem kn:Al Tryz.prog 226=true:=by kernel_rfl
theorem bp:Al Tryz.prog 227=true:=by kernel_rfl
theorem km:Al Tryz.prog 228=true:=by kernel_rfl
theorem bo:Al Tryz.prog 229=true:=by kernel_rfl
theorem kj:Al Tryz.prog 230=true:=by kernel_rfl
theorem kh:Al Tryz.prog 231=true:=by kernel_rfl
theorem kg:Al Tryz.prog 232=true:=by kernel_rfl
theorem VC:Al Tryz.prog 233=true:=by kernel_rfl
theorem kf:Al Tryz.prog 234=true:=by kernel_rfl
theorem ke:Al Tryz.prog 235=true:=by kernel_rfl
theorem kb:Al Tryz.prog 236=true:=by kernel_rfl
theorem ka:Al Tryz.prog 237=true:=by kernel_rfl
theorem jZ:Al Tryz.prog 238=true:=by kernel_rfl
theorem jY:Al Tryz.prog 239=true:=by kernel_rfl
theorem VB:Al Tryz.prog 240=true:=by kernel_rfl
theorem jX:Al Tryz.prog 241=true:=by kernel_rfl
theorem jW:Al Tryz.prog 242=true:=by kernel_rfl
theorem jV:Al Tryz.prog 243=true:=by kernel_rfl
theorem jU:Al Tryz.prog 244=true:=by kernel_rfl
theorem jT:Al Tryz.prog 245=true:=by kernel_rfl
theorem IJ:Al Tryz.prog 246=true:=by kernel_rfl
theorem jS:Al Tryz.prog 247=true:=by kernel_rfl
theorem jR:Al Tryz.prog 248=true:=by kernel_rfl
theorem jQ:Al Tryz.prog 249=true:=by kernel_rfl
theorem jP:Al Tryz.prog 250=true:=by kernel_rfl
theorem jO:Al Tryz.prog 251=true:=by kernel_rfl
theorem jN:Al Tryz.prog 252=true:=by kernel_rfl
theorem bn:Al Tryz.prog 253=true:=by kernel_rfl
theorem bm:Al Tryz.prog 254=true:=by kernel_rfl
theorem jM:Al Tryz.prog 255=true:=by kernel_rfl
theorem jL:Al Tryz.prog 256=true:=by kernel_rfl
theorem VA:Al Tryz.prog 257=true:=by kernel_rfl
theorem jK:Al Tryz.prog 258=true:=by kernel_rfl
theorem bk:Al Tryz.prog 259=true:=by kernel_rfl
theorem jJ:Al Tryz.prog 260=true:=by kernel_rfl
theorem jI:Al Tryz.prog 267=true:=by kernel_rfl
theorem jl:Tryz.prog.eqGuardType Tryz.prog.depth 272=false:=by kernel_rfl
theorem qt:Tryz.prog.stoodInHeld 272=false:=by kernel_rfl
set_option maxRecDepth 100000 in
theorem Vn{c:Addr→Option Value}(x y:BitVec 128):ev Tryz.prog c (Op.equal 272 (.agg #[U (hi x),U (lo x)]) (.agg #[U (hi y),U (lo y)]))=some (x==y):=by
 have h:=Tf (P:=Tryz.prog) (c:=c) 9999 (t:=272) #[U (hi x),U (lo x)] #[U (hi y),U (lo y)] rfl qt (fun f=>if f.offset=0 then(((hi x).toNat:Int)==((hi y).toNat:Int))else(((lo x).toNat:Int)==((lo y).toNat:Int)))
  (fun f hf=>by
   simp only [zr,List.not_mem_nil,or_false] at hf
   rcases hf with rfl|rfl
   ·exact⟨by decide,_,_,Ib (P:=Tryz.prog) (t:=37) rfl (by intro fs h;cases h) (by intro n e h;cases h) _ _ rfl,Ib (P:=Tryz.prog) (t:=37) rfl (by intro fs h;cases h) (by intro n e h;cases h) _ _ rfl,PW _ _ _ rfl⟩
   ·exact⟨by decide,_,_,Ib (P:=Tryz.prog) (t:=37) rfl (by intro fs h;cases h) (by intro n e h;cases h) _ _ rfl,Ib (P:=Tryz.prog) (t:=37) rfl (by intro fs h;cases h) (by intro n e h;cases h) _ _ rfl,PW _ _ _ rfl⟩)
 have h2:=Zy x y
 rw [←h2]
 rw [show Op.equal 272 (.agg #[U (hi x),U (lo x)]) (.agg #[U (hi y),U (lo y)])=Op.equalIn (9999+1) 272 (.agg #[U (hi x),U (lo x)]) (.agg #[U (hi y),U (lo y)])from rfl,h]
 simp
end Go.Proofs.YthmpbldidnmenaaGreatDoor
