import Derived.Shelf.Strings.Builder1
import Derived.Shelf.Strings.Builder2
import Derived.Shelf.Strconv.Itoa0
import Derived.Shelf.Strings.Search1
import Derived.Shelf.Strings.Search2
import Derived.Shelf.Strings.Search3
import Derived.Shelf.LaysM
import Derived.Shelf.Strings.Shaped
import Derived.Shelf.Bits.Mul64
import Derived.Shelf.Slices.Turned
import Derived.Test.YtoolcgbcfgnipaaGreatDoorProg
import Derived.Test.YtoolcgbcfgnipaaGreatDoorRows
import Derived.Test.YtoolcgbcfgnipaaGreatDoorMd
namespace Go.Proofs
open Go.Shelf
def Tryz.lays129_ren:Go.Shelf.Ren:=⟨fun|129=>251|n=>n,fun|53=>37|3=>3|4=>4|46=>144|5=>5|9=>9|n=>n,fun|n=>n⟩
theorem Tryz.lays129:Go.Proofs.Lays.n129 Tryz.prog Tryz.lays129_ren:={
 mixed:=by kernel_rfl
 f129:=Tryz.func251.trans (congrArg some (by kernel_rfl))
 t3:=Tryz.underlying3
 a3:=Tryz.isAgg3
 z3:=Tryz.sizeOf3
 v3:=Tryz.zeroValue3
 t4:=Tryz.underlying4
 a4:=Tryz.isAgg4
 z4:=Tryz.sizeOf4
 v4:=Tryz.zeroValue4
 t5:=Tryz.underlying5
 a5:=Tryz.isAgg5
 z5:=Tryz.sizeOf5
 v5:=Tryz.zeroValue5
 t9:=Tryz.underlying9
 a9:=Tryz.isAgg9
 z9:=Tryz.sizeOf9
 v9:=Tryz.zeroValue9
 t46:=Tryz.underlying144
 a46:=Tryz.isAgg144
 z46:=Tryz.sizeOf144
 v46:=Tryz.zeroValue144
 t53:=Tryz.underlying37
 a53:=Tryz.isAgg37
 z53:=Tryz.sizeOf37
 v53:=Tryz.zeroValue37}
theorem Tryz.bits_Len64(x:Int)(w:World)(h0:0≤x)(h1:x≤18446744073709551615):
  Calls Tryz.prog 251 #[.int .u64 x] w fun e w'=>e= .returned (.int .i64 (Lib.bitLen x.toNat))∧w'=w:=Any.bits_Len64 Tryz.lays129 x w h0 h1
def Tryz.lays219_ren:Go.Shelf.Ren:=⟨fun|219=>252|217=>257|225=>258|224=>259|267=>260|266=>264|314=>265|n=>n,fun|9=>9|3=>3|4=>4|5=>5|46=>144|146=>217|51=>216|n=>n,fun|1=>1|n=>n⟩
theorem Tryz.lays219:Go.Proofs.Lays.n219 Tryz.prog Tryz.lays219_ren:={
 mixed:=by kernel_rfl
 f217:=Tryz.func257.trans (congrArg some (by kernel_rfl))
 f219:=Tryz.func252.trans (congrArg some (by kernel_rfl))
 f224:=Tryz.func259.trans (congrArg some (by kernel_rfl))
 f225:=Tryz.func258.trans (congrArg some (by kernel_rfl))
 f266:=Tryz.func264.trans (congrArg some (by kernel_rfl))
 f267:=Tryz.func260.trans (congrArg some (by kernel_rfl))
 f314:=Tryz.func265.trans (congrArg some (by kernel_rfl))
 t3:=Tryz.underlying3
 a3:=Tryz.isAgg3
 z3:=Tryz.sizeOf3
 v3:=Tryz.zeroValue3
 t4:=Tryz.underlying4
 a4:=Tryz.isAgg4
 z4:=Tryz.sizeOf4
 v4:=Tryz.zeroValue4
 t5:=Tryz.underlying5
 a5:=Tryz.isAgg5
 z5:=Tryz.sizeOf5
 v5:=Tryz.zeroValue5
 t9:=Tryz.underlying9
 a9:=Tryz.isAgg9
 z9:=Tryz.sizeOf9
 v9:=Tryz.zeroValue9
 t46:=Tryz.underlying144
 a46:=Tryz.isAgg144
 z46:=Tryz.sizeOf144
 v46:=Tryz.zeroValue144
 t51:=Tryz.underlying216
 a51:=Tryz.isAgg216
 z51:=Tryz.sizeOf216
 v51:=Tryz.zeroValue216
 t146:=Tryz.underlying217
 a146:=Tryz.isAgg217
 z146:=Tryz.sizeOf217
 v146:=Tryz.zeroValue217
 g1:=by kernel_rfl}
open Go.RowKit Go.Lib in
theorem Tryz.stringslite_Index_one(s:ByteArray)(c:UInt8)(w:World):
  Calls Tryz.prog 252 #[.string s, .string ⟨#[c]⟩] w fun e w'=>e= .returned (.int .i64 (Lib.indexByte s.data.toList c))∧w'=w:=Any.stringslite_Index_one Tryz.lays219 s c w
end Go.Proofs
namespace Go.Proofs.YtoolcgbcfgnipaaGreatDoor
open Go Go.RowKit Go.Eng
theorem follows:Tryz.prog.follows .mixedOrders=true:=by kernel_rfl
theorem ua:Am Tryz.prog 4=true:=by kernel_rfl
theorem ef:Am Tryz.prog 5=true:=by kernel_rfl
theorem Zt:Am Tryz.prog 6=true:=by kernel_rfl
theorem tZ:Am Tryz.prog 7=true:=by kernel_rfl
theorem tY:Am Tryz.prog 8=true:=by kernel_rfl
theorem lq:Am Tryz.prog 9=true:=by kernel_rfl
theorem Zy:Am Tryz.prog 10=true:=by kernel_rfl
theorem rB:Am Tryz.prog 11=true:=by kernel_rfl
theorem Zx:Am Tryz.prog 12=true:=by kernel_rfl
theorem rx:Am Tryz.prog 13=true:=by kernel_rfl
theorem fP:Am Tryz.prog 14=true:=by kernel_rfl
theorem TX:Am Tryz.prog 15=true:=by kernel_rfl
theorem rv:Am Tryz.prog 16=true:=by kernel_rfl
theorem fO:Am Tryz.prog 17=true:=by kernel_rfl
theorem ru:Am Tryz.prog 18=true:=by kernel_rfl
theorem Zw:Am Tryz.prog 19=true:=by kernel_rfl
theorem rt:Am Tryz.prog 20=true:=by kernel_rfl
theorem rr:Am Tryz.prog 21=true:=by kernel_rfl
theorem rq:Am Tryz.prog 22=true:=by kernel_rfl
theorem ED:Am Tryz.prog 23=true:=by kernel_rfl
theorem Bj:Am Tryz.prog 24=true:=by kernel_rfl
theorem rp:Am Tryz.prog 25=true:=by kernel_rfl
theorem rk:Am Tryz.prog 26=true:=by kernel_rfl
theorem rj:Am Tryz.prog 27=true:=by kernel_rfl
theorem ri:Am Tryz.prog 28=true:=by kernel_rfl
theorem rh:Am Tryz.prog 29=true:=by kernel_rfl
theorem Zv:Am Tryz.prog 30=true:=by kernel_rfl
theorem fN:Am Tryz.prog 31=true:=by kernel_rfl
theorem rf:Am Tryz.prog 32=true:=by kernel_rfl
theorem fM:Am Tryz.prog 33=true:=by kernel_rfl
theorem Sh:Am Tryz.prog 34=true:=by kernel_rfl
theorem fL:Am Tryz.prog 35=true:=by kernel_rfl
theorem re:Am Tryz.prog 36=true:=by kernel_rfl
theorem rb:Am Tryz.prog 37=true:=by kernel_rfl
theorem ra:Am Tryz.prog 38=true:=by kernel_rfl
theorem qZ:Am Tryz.prog 39=true:=by kernel_rfl
theorem qY:Am Tryz.prog 40=true:=by kernel_rfl
theorem qX:Am Tryz.prog 41=true:=by kernel_rfl
theorem qW:Am Tryz.prog 42=true:=by kernel_rfl
theorem qV:Am Tryz.prog 43=true:=by kernel_rfl
theorem qU:Am Tryz.prog 44=true:=by kernel_rfl
theorem qT:Am Tryz.prog 45=true:=by kernel_rfl
theorem qS:Am Tryz.prog 46=true:=by kernel_rfl
theorem qR:Am Tryz.prog 47=true:=by kernel_rfl
theorem qQ:Am Tryz.prog 48=true:=by kernel_rfl
theorem qP:Am Tryz.prog 49=true:=by kernel_rfl
theorem qO:Am Tryz.prog 50=true:=by kernel_rfl
theorem qN:Am Tryz.prog 51=true:=by kernel_rfl
theorem qM:Am Tryz.prog 52=true:=by kernel_rfl
theorem qL:Am Tryz.prog 53=true:=by kernel_rfl
theorem qK:Am Tryz.prog 54=true:=by kernel_rfl
theorem qJ:Am Tryz.prog 55=true:=by kernel_rfl
theorem qI:Am Tryz.prog 56=true:=by kernel_rfl
theorem Zu:Am Tryz.prog 57=true:=by kernel_rfl
theorem fK:Am Tryz.prog 58=true:=by kernel_rfl
theorem qH:Am Tryz.prog 59=true:=by kernel_rfl
theorem qG:Am Tryz.prog 60=true:=by kernel_rfl
theorem qF:Am Tryz.prog 61=true:=by kernel_rfl
theorem qE:Am Tryz.prog 62=true:=by kernel_rfl
theorem Zs:Am Tryz.prog 63=true:=by kernel_rfl
theorem Zr:Am Tryz.prog 64=true:=by kernel_rfl
theorem qD:Am Tryz.prog 65=true:=by kernel_rfl
theorem EV:Am Tryz.prog 66=true:=by kernel_rfl
theorem qC:Am Tryz.prog 67=true:=by kernel_rfl
theorem qB:Am Tryz.prog 68=true:=by kernel_rfl
theorem qA:Am Tryz.prog 69=true:=by kernel_rfl
theorem qz:Am Tryz.prog 70=true:=by kernel_rfl
theorem qy:Am Tryz.prog 71=true:=by kernel_rfl
theorem qx:Am Tryz.prog 72=true:=by kernel_rfl
theorem Zq:Am Tryz.prog 73=true:=by kernel_rfl
theorem fJ:Am Tryz.prog 74=true:=by kernel_rfl
theorem fI:Am Tryz.prog 75=true:=by kernel_rfl
theorem TW:Am Tryz.prog 76=true:=by kernel_rfl
theorem Zp:Am Tryz.prog 77=true:=by kernel_rfl
theorem TV:Am Tryz.prog 78=true:=by kernel_rfl
theorem qw:Am Tryz.prog 79=true:=by kernel_rfl
theorem Zo:Am Tryz.prog 80=true:=by kernel_rfl
theorem qv:Am Tryz.prog 81=true:=by kernel_rfl
theorem qu:Am Tryz.prog 82=true:=by kernel_rfl
theorem fH:Am Tryz.prog 83=true:=by kernel_rfl
theorem qt:Am Tryz.prog 84=true:=by kernel_rfl
theorem Zn:Am Tryz.prog 85=true:=by kernel_rfl
theorem qs:Am Tryz.prog 86=true:=by kernel_rfl
theorem qr:Am Tryz.prog 87=true:=by kernel_rfl
theorem qq:Am Tryz.prog 88=true:=by kernel_rfl
theorem qp:Am Tryz.prog 89=true:=by kernel_rfl
theorem qo:Am Tryz.prog 90=true:=by kernel_rfl
theorem Od:Am Tryz.prog 91=true:=by kernel_rfl
theorem qn:Am Tryz.prog 92=true:=by kernel_rfl
theorem qm:Am Tryz.prog 93=true:=by kernel_rfl
theorem ql:Am Tryz.prog 94=true:=by kernel_rfl
theorem qk:Am Tryz.prog 95=true:=by kernel_rfl
theorem Zm:Am Tryz.prog 96=true:=by kernel_rfl
theorem qj:Am Tryz.prog 97=true:=by kernel_rfl
theorem qi:Am Tryz.prog 98=true:=by kernel_rfl
theorem qh:Am Tryz.prog 99=true:=by kernel_rfl
theorem nO:Am Tryz.prog 100=true:=by kernel_rfl
theorem nN:Am Tryz.prog 101=true:=by kernel_rfl
theorem nM:Am Tryz.prog 102=true:=by kernel_rfl
theorem nL:Am Tryz.prog 103=true:=by kernel_rfl
theorem nK:Am Tryz.prog 104=true:=by kernel_rfl
theorem nJ:Am Tryz.prog 105=true:=by kernel_rfl
theorem cy:Am Tryz.prog 106=true:=by kernel_rfl
theorem Sj:Am Tryz.prog 107=true:=by kernel_rfl
theorem nI:Am Tryz.prog 108=true:=by kernel_rfl
theorem VR:Am Tryz.prog 109=true:=by kernel_rfl
theorem cw:Am Tryz.prog 110=true:=by kernel_rfl
theorem nH:Am Tryz.prog 111=true:=by kernel_rfl
theorem nG:Am Tryz.prog 112=true:=by kernel_rfl
theorem nF:Am Tryz.prog 113=true:=by kernel_rfl
theorem VQ:Am Tryz.prog 114=true:=by kernel_rfl
theorem nE:Am Tryz.prog 115=true:=by kernel_rfl
theorem nD:Am Tryz.prog 116=true:=by kernel_rfl
theorem nC:Am Tryz.prog 117=true:=by kernel_rfl
theorem nB:Am Tryz.prog 118=true:=by kernel_rfl
theorem nA:Am Tryz.prog 119=true:=by kernel_rfl
theorem nz:Am Tryz.prog 120=true:=by kernel_rfl
theorem cu:Am Tryz.prog 121=true:=by kernel_rfl
theorem ny:Am Tryz.prog 122=true:=by kernel_rfl
theorem VP:Am Tryz.prog 123=true:=by kernel_rfl
theorem nv:Am Tryz.prog 124=true:=by kernel_rfl
theorem nu:Am Tryz.prog 125=true:=by kernel_rfl
theorem nt:Am Tryz.prog 127=true:=by kernel_rfl
theorem nr:Am Tryz.prog 128=true:=by kernel_rfl
theorem nq:Am Tryz.prog 129=true:=by kernel_rfl
theorem ct:Am Tryz.prog 130=true:=by kernel_rfl
theorem np:Am Tryz.prog 131=true:=by kernel_rfl
theorem nl:Am Tryz.prog 132=true:=by kernel_rfl
theorem nk:Am Tryz.prog 133=true:=by kernel_rfl
theorem cr:Am Tryz.prog 134=true:=by kernel_rfl
theorem cq:Am Tryz.prog 135=true:=by kernel_rfl
theorem nj:Am Tryz.prog 136=true:=by kernel_rfl
theorem cp:Am Tryz.prog 137=true:=by kernel_rfl
theorem cm:Am Tryz.prog 138=true:=by kernel_rfl
theorem OS:Am Tryz.prog 139=true:=by kernel_rfl
theorem nh:Am Tryz.prog 140=true:=by kernel_rfl
theorem cj:Am Tryz.prog 141=true:=by kernel_rfl
theorem ng:Am Tryz.prog 142=true:=by kernel_rfl
theorem nf:Am Tryz.prog 143=true:=by kernel_rfl
theorem VO:Am Tryz.prog 144=true:=by kernel_rfl
theorem nd:Am Tryz.prog 145=true:=by kernel_rfl
theorem ci:Am Tryz.prog 146=true:=by kernel_rfl
theorem nc:Am Tryz.prog 147=true:=by kernel_rfl
theorem cg:Am Tryz.prog 148=true:=by kernel_rfl
theorem nb:Am Tryz.prog 149=true:=by kernel_rfl
theorem cf:Am Tryz.prog 150=true:=by kernel_rfl
theorem na:Am Tryz.prog 151=true:=by kernel_rfl
theorem ce:Am Tryz.prog 152=true:=by kernel_rfl
theorem Kz:Am Tryz.prog 153=true:=by kernel_rfl
theorem cd:Am Tryz.prog 154=true:=by kernel_rfl
theorem cc:Am Tryz.prog 155=true:=by kernel_rfl
theorem mZ:Am Tryz.prog 156=true:=by kernel_rfl
theorem mY:Am Tryz.prog 157=true:=by kernel_rfl
theorem mX:Am Tryz.prog 158=true:=by kernel_rfl
theorem Nz:Am Tryz.prog 159=true:=by kernel_rfl
theorem mW:Am Tryz.prog 160=true:=by kernel_rfl
theorem mV:Am Tryz.prog 161=true:=by kernel_rfl
theorem mU:Am Tryz.prog 162=true:=by kernel_rfl
theorem mT:Am Tryz.prog 163=true:=by kernel_rfl
theorem mS:Am Tryz.prog 164=true:=by kernel_rfl
theorem mR:Am Tryz.prog 165=true:=by kernel_rfl
theorem mQ:Am Tryz.prog 166=true:=by kernel_rfl
theorem cb:Am Tryz.prog 167=true:=by kernel_rfl
theorem VN:Am Tryz.prog 168=true:=by kernel_rfl
theorem mP:Am Tryz.prog 169=true:=by kernel_rfl
theorem mO:Am Tryz.prog 170=true:=by kernel_rfl
theorem mN:Am Tryz.prog 171=true:=by kernel_rfl
theorem mM:Am Tryz.prog 172=true:=by kernel_rfl
theorem mL:Am Tryz.prog 173=true:=by kernel_rfl
theorem mK:Am Tryz.prog 174=true:=by kernel_rfl
theorem mJ:Am Tryz.prog 175=true:=by kernel_rfl
theorem mI:Am Tryz.prog 176=true:=by kernel_rfl
theorem mH:Am Tryz.prog 177=true:=by kernel_rfl
theorem ca:Am Tryz.prog 178=true:=by kernel_rfl
theorem mG:Am Tryz.prog 179=true:=by kernel_rfl
theorem mF:Am Tryz.prog 180=true:=by kernel_rfl
theorem mE:Am Tryz.prog 181=true:=by kernel_rfl
theorem mD:Am Tryz.prog 182=true:=by kernel_rfl
theorem mC:Am Tryz.prog 183=true:=by kernel_rfl
theorem mB:Am Tryz.prog 184=true:=by kernel_rfl
theorem mA:Am Tryz.prog 185=true:=by kernel_rfl
theorem mz:Am Tryz.prog 186=true:=by kernel_rfl
theorem my:Am Tryz.prog 187=true:=by kernel_rfl
theorem mx:Am Tryz.prog 188=true:=by kernel_rfl
theorem mw:Am Tryz.prog 189=true:=by kernel_rfl
theorem ms:Am Tryz.prog 190=true:=by kernel_rfl
theorem mq:Am Tryz.prog 191=true:=by kernel_rfl
theorem mo:Am Tryz.prog 192=true:=by kernel_rfl
theorem mn:Am Tryz.prog 193=true:=by kernel_rfl
theorem mm:Am Tryz.prog 194=true:=by kernel_rfl
theorem ml:Am Tryz.prog 195=true:=by kernel_rfl
theorem mj:Am Tryz.prog 196=true:=by kernel_rfl
theorem mi:Am Tryz.prog 197=true:=by kernel_rfl
theorem mh:Am Tryz.prog 198=true:=by kernel_rfl
theorem VM:Am Tryz.prog 199=true:=by kernel_rfl
theorem LC:Am Tryz.prog 200=true:=by kernel_rfl
theorem bZ:Am Tryz.prog 201=true:=by kernel_rfl
theorem OR:Am Tryz.prog 202=true:=by kernel_rfl
theorem mg:Am Tryz.prog 203=true:=by kernel_rfl
theorem bY:Am Tryz.prog 204=true:=by kernel_rfl
theorem bX:Am Tryz.prog 205=true:=by kernel_rfl
theorem mf:Am Tryz.prog 206=true:=by kernel_rfl
theorem bW:Am Tryz.prog 207=true:=by kernel_rfl
theorem bV:Am Tryz.prog 208=true:=by kernel_rfl
theorem VL:Am Tryz.prog 209=true:=by kernel_rfl
theorem bU:Am Tryz.prog 210=true:=by kernel_rfl
theorem bT:Am Tryz.prog 211=true:=by kernel_rfl
theorem mc:Am Tryz.prog 212=true:=by kernel_rfl
theorem bS:Am Tryz.prog 213=true:=by kernel_rfl
theorem mb:Am Tryz.prog 214=true:=by kernel_rfl
theorem bR:Am Tryz.prog 215=true:=by kernel_rfl
theorem ma:Am Tryz.prog 216=true:=by kernel_rfl
theorem lZ:Am Tryz.prog 217=true:=by kernel_rfl
theorem bQ:Am Tryz.prog 218=true:=by kernel_rfl
theorem lY:Am Tryz.prog 219=true:=by kernel_rfl
theorem bP:Am Tryz.prog 220=true:=by kernel_rfl
theorem lX:Am Tryz.prog 221=true:=by kernel_rfl
theorem lW:Am Tryz.prog 222=true:=by kernel_rfl
theorem VK:Am Tryz.prog 223=true:=by kernel_rfl
theorem lV:Am Tryz.prog 224=true:=by kernel_rfl
theorem VJ:Am Tryz.prog 225=true:=by kernel_rfl
theorem lU:Am Tryz.prog 226=true:=by kernel_rfl
theorem lT:Am Tryz.prog 227=true:=by kernel_rfl
theorem lS:Am Tryz.prog 228=true:=by kernel_rfl
theorem lR:Am Tryz.prog 229=true:=by kernel_rfl
theorem lQ:Am Tryz.prog 230=true:=by kernel_rfl
theorem lP:Am Tryz.prog 231=true:=by kernel_rfl
theorem VI:Am Tryz.prog 232=true:=by kernel_rfl
theorem lO:Am Tryz.prog 233=true:=by kernel_rfl
theorem lM:Am Tryz.prog 234=true:=by kernel_rfl
theorem lL:Am Tryz.prog 235=true:=by kernel_rfl
theorem lK:Am Tryz.prog 236=true:=by kernel_rfl
theorem lJ:Am Tryz.prog 237=true:=by kernel_rfl
theorem lI:Am Tryz.prog 238=true:=by kernel_rfl
theorem lH:Am Tryz.prog 239=true:=by kernel_rfl
theorem lG:Am Tryz.prog 240=true:=by kernel_rfl
theorem JN:Am Tryz.prog 241=true:=by kernel_rfl
theorem lF:Am Tryz.prog 242=true:=by kernel_rfl
theorem lE:Am Tryz.prog 243=true:=by kernel_rfl
theorem lD:Am Tryz.prog 244=true:=by kernel_rfl
theorem lC:Am Tryz.prog 245=true:=by kernel_rfl
theorem lB:Am Tryz.prog 246=true:=by kernel_rfl
theorem lA:Am Tryz.prog 247=true:=by kernel_rfl
theorem bO:Am Tryz.prog 248=true:=by kernel_rfl
theorem bN:Am Tryz.prog 249=true:=by kernel_rfl
theorem ly:Am Tryz.prog 250=true:=by kernel_rfl
theorem bM:Am Tryz.prog 251=true:=by kernel_rfl
theorem lw:Am Tryz.prog 252=true:=by kernel_rfl
theorem VH:Am Tryz.prog 253=true:=by kernel_rfl
theorem lv:Am Tryz.prog 254=true:=by kernel_rfl
theorem bL:Am Tryz.prog 255=true:=by kernel_rfl
theorem lu:Am Tryz.prog 256=true:=by kernel_rfl
theorem lr:Am Tryz.prog 263=true:=by kernel_rfl
theorem kK:Tryz.prog.eqGuardType Tryz.prog.depth 326=false:=by kernel_rfl
theorem sC:Tryz.prog.stoodInHeld 326=false:=by kernel_rfl
set_option maxRecDepth 100000 in
theorem Vx{c:Addr→Option Value}(x y:BitVec 128):ev Tryz.prog c (Op.equal 326 (.agg #[U (hi x),U (lo x)]) (.agg #[U (hi y),U (lo y)]))=some (x==y):=by
 have h:=Tr (P:=Tryz.prog) (c:=c) 9999 (t:=326) #[U (hi x),U (lo x)] #[U (hi y),U (lo y)] rfl sC (fun f=>if f.offset=0 then(((hi x).toNat:Int)==((hi y).toNat:Int))else(((lo x).toNat:Int)==((lo y).toNat:Int)))
  (fun f hf=>by
   simp only [zr,List.not_mem_nil,or_false] at hf
   rcases hf with rfl|rfl
   ·exact⟨by decide,_,_,Kx (P:=Tryz.prog) (t:=37) rfl (by intro fs h;cases h) (by intro n e h;cases h) _ _ rfl,Kx (P:=Tryz.prog) (t:=37) rfl (by intro fs h;cases h) (by intro n e h;cases h) _ _ rfl,Ql _ _ _ rfl⟩
   ·exact⟨by decide,_,_,Kx (P:=Tryz.prog) (t:=37) rfl (by intro fs h;cases h) (by intro n e h;cases h) _ _ rfl,Kx (P:=Tryz.prog) (t:=37) rfl (by intro fs h;cases h) (by intro n e h;cases h) _ _ rfl,Ql _ _ _ rfl⟩)
 have h2:=ZE x y
 rw [←h2]
 rw [show Op.equal 326 (.agg #[U (hi x),U (lo x)]) (.agg #[U (hi y),U (lo y)])=Op.equalIn (9999+1) 326 (.agg #[U (hi x),U (lo x)]) (.agg #[U (hi y),U (lo y)])from rfl,h]
 simp
end Go.Proofs.YtoolcgbcfgnipaaGreatDoor
