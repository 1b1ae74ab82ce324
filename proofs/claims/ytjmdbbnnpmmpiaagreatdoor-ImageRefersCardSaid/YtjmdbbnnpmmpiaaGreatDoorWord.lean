import Derived.Test.YtjmdbbnnpmmpiaaGreatDoorRows
import Derived.Test.YtjmdbbnnpmmpiaaGreatDoorDm
import Derived.Test.YtjmdbbnnpmmpiaaGreatDoorRm
import Derived.Test.YtjmdbbnnpmmpiaaGreatDoorShelf
namespace Go.Proofs.YtjmdbbnnpmmpiaaGreatDoor
open Go Go.RowKit Go.Eng
theorem follows : Tryz.prog.follows .mixedOrders = true := by kernel_rfl
theorem eO : Au Tryz.prog 6 = true := by kernel_rfl
theorem TK : Au Tryz.prog 7 = true := by kernel_rfl
theorem XS : Au Tryz.prog 9 = true := by kernel_rfl
theorem MM : Au Tryz.prog 13 = true := by kernel_rfl
theorem QM : Au Tryz.prog 14 = true := by kernel_rfl
theorem cw : Au Tryz.prog 15 = true := by kernel_rfl
theorem cu : Au Tryz.prog 16 = true := by kernel_rfl
theorem ct : Au Tryz.prog 18 = true := by kernel_rfl
theorem UK : Au Tryz.prog 20 = true := by kernel_rfl
theorem UJ : Au Tryz.prog 60 = true := by kernel_rfl
theorem cr : Au Tryz.prog 61 = true := by kernel_rfl
theorem BP : Au Tryz.prog 62 = true := by kernel_rfl
theorem cq : Au Tryz.prog 63 = true := by kernel_rfl
theorem cp : Au Tryz.prog 64 = true := by kernel_rfl
theorem cn : Au Tryz.prog 65 = true := by kernel_rfl
theorem cm : Au Tryz.prog 66 = true := by kernel_rfl
theorem cj : Au Tryz.prog 67 = true := by kernel_rfl
theorem ci : Au Tryz.prog 68 = true := by kernel_rfl
theorem cg : Au Tryz.prog 69 = true := by kernel_rfl
theorem cf : Au Tryz.prog 70 = true := by kernel_rfl
theorem ce : Au Tryz.prog 71 = true := by kernel_rfl
theorem cd : Au Tryz.prog 72 = true := by kernel_rfl
theorem cc : Au Tryz.prog 73 = true := by kernel_rfl
theorem cb : Au Tryz.prog 74 = true := by kernel_rfl
theorem ca : Au Tryz.prog 75 = true := by kernel_rfl
theorem bZ : Au Tryz.prog 76 = true := by kernel_rfl
theorem bY : Au Tryz.prog 77 = true := by kernel_rfl
theorem bX : Au Tryz.prog 86 = true := by kernel_rfl
theorem bW : Au Tryz.prog 89 = true := by kernel_rfl
theorem am : Au Tryz.prog 107 = true := by kernel_rfl
theorem Br : Au Tryz.prog 108 = true := by kernel_rfl
theorem AJ : Au Tryz.prog 109 = true := by kernel_rfl
theorem Ol : Au Tryz.prog 110 = true := by kernel_rfl
theorem al : Au Tryz.prog 111 = true := by kernel_rfl
theorem ak : Au Tryz.prog 112 = true := by kernel_rfl
theorem aj : Au Tryz.prog 113 = true := by kernel_rfl
theorem ai : Au Tryz.prog 114 = true := by kernel_rfl
theorem ah : Au Tryz.prog 115 = true := by kernel_rfl
theorem Hu : Au Tryz.prog 116 = true := by kernel_rfl
theorem ag : Au Tryz.prog 117 = true := by kernel_rfl
theorem ae : Au Tryz.prog 118 = true := by kernel_rfl
theorem ad : Au Tryz.prog 119 = true := by kernel_rfl
theorem ab : Au Tryz.prog 120 = true := by kernel_rfl
theorem Ok : Au Tryz.prog 121 = true := by kernel_rfl
theorem aa : Au Tryz.prog 122 = true := by kernel_rfl
theorem ZZ : Au Tryz.prog 123 = true := by kernel_rfl
theorem ZY : Au Tryz.prog 124 = true := by kernel_rfl
theorem ZX : Au Tryz.prog 125 = true := by kernel_rfl
theorem ZW : Au Tryz.prog 126 = true := by kernel_rfl
theorem ZV : Au Tryz.prog 127 = true := by kernel_rfl
theorem ZU : Au Tryz.prog 128 = true := by kernel_rfl
theorem ZT : Au Tryz.prog 129 = true := by kernel_rfl
theorem ZS : Au Tryz.prog 130 = true := by kernel_rfl
theorem SM : Au Tryz.prog 131 = true := by kernel_rfl
theorem Ll : Au Tryz.prog 132 = true := by kernel_rfl
theorem ZR : Au Tryz.prog 133 = true := by kernel_rfl
theorem Oj : Au Tryz.prog 134 = true := by kernel_rfl
theorem Oi : Au Tryz.prog 135 = true := by kernel_rfl
theorem SL : Au Tryz.prog 136 = true := by kernel_rfl
theorem ZQ : Au Tryz.prog 137 = true := by kernel_rfl
theorem ZP : Au Tryz.prog 138 = true := by kernel_rfl
theorem ZO : Au Tryz.prog 139 = true := by kernel_rfl
theorem Oh : Au Tryz.prog 140 = true := by kernel_rfl
theorem ZN : Au Tryz.prog 141 = true := by kernel_rfl
theorem ZM : Au Tryz.prog 142 = true := by kernel_rfl
theorem ZL : Au Tryz.prog 143 = true := by kernel_rfl
theorem ZK : Au Tryz.prog 144 = true := by kernel_rfl
theorem ZJ : Au Tryz.prog 145 = true := by kernel_rfl
theorem ZH : Au Tryz.prog 146 = true := by kernel_rfl
theorem Og : Au Tryz.prog 158 = true := by kernel_rfl
theorem FO : Au Tryz.prog 159 = true := by kernel_rfl
theorem ZG : Au Tryz.prog 160 = true := by kernel_rfl
theorem ZF : Au Tryz.prog 161 = true := by kernel_rfl
theorem ZE : Au Tryz.prog 162 = true := by kernel_rfl
theorem ZD : Au Tryz.prog 163 = true := by kernel_rfl
theorem SK : Au Tryz.prog 164 = true := by kernel_rfl
theorem ZC : Au Tryz.prog 165 = true := by kernel_rfl
theorem SJ : Au Tryz.prog 166 = true := by kernel_rfl
theorem ZB : Au Tryz.prog 167 = true := by kernel_rfl
theorem SI : Au Tryz.prog 168 = true := by kernel_rfl
theorem ZA : Au Tryz.prog 169 = true := by kernel_rfl
theorem SH : Au Tryz.prog 170 = true := by kernel_rfl
theorem SG : Au Tryz.prog 171 = true := by kernel_rfl
theorem SF : Au Tryz.prog 172 = true := by kernel_rfl
theorem Zz : Au Tryz.prog 173 = true := by kernel_rfl
theorem Zy : Au Tryz.prog 174 = true := by kernel_rfl
theorem Zx : Au Tryz.prog 175 = true := by kernel_rfl
theorem HT : Au Tryz.prog 176 = true := by kernel_rfl
theorem Zw : Au Tryz.prog 177 = true := by kernel_rfl
theorem Zv : Au Tryz.prog 178 = true := by kernel_rfl
theorem Zu : Au Tryz.prog 179 = true := by kernel_rfl
theorem Zt : Au Tryz.prog 180 = true := by kernel_rfl
theorem Zs : Au Tryz.prog 181 = true := by kernel_rfl
theorem Zr : Au Tryz.prog 182 = true := by kernel_rfl
theorem Zq : Au Tryz.prog 183 = true := by kernel_rfl
theorem SE : Au Tryz.prog 184 = true := by kernel_rfl
theorem Of : Au Tryz.prog 185 = true := by kernel_rfl
theorem Zp : Au Tryz.prog 186 = true := by kernel_rfl
theorem Zo : Au Tryz.prog 187 = true := by kernel_rfl
theorem Zn : Au Tryz.prog 188 = true := by kernel_rfl
theorem Zm : Au Tryz.prog 189 = true := by kernel_rfl
theorem SD : Au Tryz.prog 190 = true := by kernel_rfl
theorem Zl : Au Tryz.prog 191 = true := by kernel_rfl
theorem Zk : Au Tryz.prog 192 = true := by kernel_rfl
theorem Zj : Au Tryz.prog 193 = true := by kernel_rfl
theorem Zi : Au Tryz.prog 194 = true := by kernel_rfl
theorem Zh : Au Tryz.prog 195 = true := by kernel_rfl
theorem SC : Au Tryz.prog 196 = true := by kernel_rfl
theorem Zg : Au Tryz.prog 197 = true := by kernel_rfl
theorem Zf : Au Tryz.prog 198 = true := by kernel_rfl
theorem Ze : Au Tryz.prog 199 = true := by kernel_rfl
theorem Zd : Au Tryz.prog 200 = true := by kernel_rfl
theorem Zc : Au Tryz.prog 201 = true := by kernel_rfl
theorem Zb : Au Tryz.prog 202 = true := by kernel_rfl
theorem Za : Au Tryz.prog 203 = true := by kernel_rfl
theorem YZ : Au Tryz.prog 204 = true := by kernel_rfl
theorem YY : Au Tryz.prog 205 = true := by kernel_rfl
theorem YX : Au Tryz.prog 206 = true := by kernel_rfl
theorem YW : Au Tryz.prog 207 = true := by kernel_rfl
theorem YV : Au Tryz.prog 208 = true := by kernel_rfl
theorem YU : Au Tryz.prog 209 = true := by kernel_rfl
theorem YT : Au Tryz.prog 210 = true := by kernel_rfl
theorem YS : Au Tryz.prog 211 = true := by kernel_rfl
theorem YR : Au Tryz.prog 212 = true := by kernel_rfl
theorem YQ : Au Tryz.prog 213 = true := by kernel_rfl
theorem YP : Au Tryz.prog 214 = true := by kernel_rfl
theorem YO : Au Tryz.prog 215 = true := by kernel_rfl
theorem Oe : Au Tryz.prog 229 = true := by kernel_rfl
theorem SB : Au Tryz.prog 230 = true := by kernel_rfl
theorem YN : Au Tryz.prog 231 = true := by kernel_rfl
theorem SA : Au Tryz.prog 232 = true := by kernel_rfl
theorem YM : Au Tryz.prog 233 = true := by kernel_rfl
theorem Sz : Au Tryz.prog 234 = true := by kernel_rfl
theorem YL : Au Tryz.prog 235 = true := by kernel_rfl
theorem YK : Au Tryz.prog 236 = true := by kernel_rfl
theorem Sy : Au Tryz.prog 237 = true := by kernel_rfl
theorem YJ : Au Tryz.prog 238 = true := by kernel_rfl
theorem Sx : Au Tryz.prog 239 = true := by kernel_rfl
theorem Sw : Au Tryz.prog 240 = true := by kernel_rfl
theorem YI : Au Tryz.prog 241 = true := by kernel_rfl
theorem YH : Au Tryz.prog 242 = true := by kernel_rfl
theorem Od : Au Tryz.prog 243 = true := by kernel_rfl
theorem YG : Au Tryz.prog 244 = true := by kernel_rfl
theorem Oc : Au Tryz.prog 245 = true := by kernel_rfl
theorem YF : Au Tryz.prog 246 = true := by kernel_rfl
theorem YE : Au Tryz.prog 247 = true := by kernel_rfl
theorem YD : Au Tryz.prog 248 = true := by kernel_rfl
theorem YC : Au Tryz.prog 249 = true := by kernel_rfl
theorem YB : Au Tryz.prog 250 = true := by kernel_rfl
theorem YA : Au Tryz.prog 251 = true := by kernel_rfl
theorem Yz : Au Tryz.prog 252 = true := by kernel_rfl
theorem Yy : Au Tryz.prog 253 = true := by kernel_rfl
theorem Yx : Au Tryz.prog 254 = true := by kernel_rfl
theorem Yw : Au Tryz.prog 255 = true := by kernel_rfl
theorem Yv : Au Tryz.prog 256 = true := by kernel_rfl
theorem Ob : Au Tryz.prog 257 = true := by kernel_rfl
theorem Yu : Au Tryz.prog 258 = true := by kernel_rfl
theorem Yt : Au Tryz.prog 259 = true := by kernel_rfl
theorem Ys : Au Tryz.prog 260 = true := by kernel_rfl
theorem Yr : Au Tryz.prog 261 = true := by kernel_rfl
theorem Fc : Au Tryz.prog 271 = true := by kernel_rfl
theorem Yq : Au Tryz.prog 272 = true := by kernel_rfl
theorem Yp : Au Tryz.prog 273 = true := by kernel_rfl
theorem Yo : Au Tryz.prog 274 = true := by kernel_rfl
theorem Yn : Au Tryz.prog 275 = true := by kernel_rfl
theorem Ym : Au Tryz.prog 276 = true := by kernel_rfl
theorem Yl : Au Tryz.prog 277 = true := by kernel_rfl
theorem Yk : Au Tryz.prog 278 = true := by kernel_rfl
theorem Sv : Au Tryz.prog 279 = true := by kernel_rfl
theorem Su : Au Tryz.prog 280 = true := by kernel_rfl
theorem Yj : Au Tryz.prog 281 = true := by kernel_rfl
theorem Yi : Au Tryz.prog 282 = true := by kernel_rfl
theorem Yh : Au Tryz.prog 283 = true := by kernel_rfl
theorem Yg : Au Tryz.prog 284 = true := by kernel_rfl
theorem Yf : Au Tryz.prog 285 = true := by kernel_rfl
theorem Ye : Au Tryz.prog 286 = true := by kernel_rfl
theorem Yd : Au Tryz.prog 288 = true := by kernel_rfl
theorem Oa : Au Tryz.prog 289 = true := by kernel_rfl
theorem Yc : Au Tryz.prog 290 = true := by kernel_rfl
theorem Ss : Au Tryz.prog 291 = true := by kernel_rfl
theorem Yb : Au Tryz.prog 292 = true := by kernel_rfl
theorem Ya : Au Tryz.prog 293 = true := by kernel_rfl
theorem XZ : Au Tryz.prog 294 = true := by kernel_rfl
theorem XY : Au Tryz.prog 295 = true := by kernel_rfl
theorem XX : Au Tryz.prog 296 = true := by kernel_rfl
theorem XW : Au Tryz.prog 303 = true := by kernel_rfl
theorem Sr : Au Tryz.prog 304 = true := by kernel_rfl
theorem XV : Au Tryz.prog 305 = true := by kernel_rfl
theorem XU : Au Tryz.prog 306 = true := by kernel_rfl
theorem Sq : Au Tryz.prog 307 = true := by kernel_rfl
theorem XT : Au Tryz.prog 308 = true := by kernel_rfl
theorem GB : Au Tryz.prog 311 = true := by kernel_rfl
theorem Xr : Tryz.prog.eqGuardType Tryz.prog.depth 307 = false := by kernel_rfl
theorem di : Tryz.prog.stoodInHeld 307 = false := by kernel_rfl
set_option maxRecDepth 100000 in
theorem NU {c : Addr → Option Value} (x y : BitVec 128) : ev Tryz.prog c (Op.equal 307 (.agg #[U (hi x), U (lo x)]) (.agg #[U (hi y), U (lo y)])) = some (x == y) := by
 have h := Mh (P := Tryz.prog) (c := c) 9999 (t := 307) #[U (hi x), U (lo x)] #[U (hi y), U (lo y)] rfl di (fun f => if f.offset = 0 then (((hi x).toNat : Int) == ((hi y).toNat : Int)) else (((lo x).toNat : Int) == ((lo y).toNat : Int)))
  (fun f hf => by
   simp only [List.mem_cons, List.not_mem_nil, or_false] at hf
   rcases hf with rfl | rfl
   ·exact ⟨by decide, _, _, FM (P := Tryz.prog) (t := 55) rfl (by intro fs h; cases h) (by intro n e h; cases h) _ _ rfl, FM (P := Tryz.prog) (t := 55) rfl (by intro fs h; cases h) (by intro n e h; cases h) _ _ rfl, Jy _ _ _ rfl⟩
   ·exact ⟨by decide, _, _, FM (P := Tryz.prog) (t := 55) rfl (by intro fs h; cases h) (by intro n e h; cases h) _ _ rfl, FM (P := Tryz.prog) (t := 55) rfl (by intro fs h; cases h) (by intro n e h; cases h) _ _ rfl, Jy _ _ _ rfl⟩)
 have h2 := QR x y
 rw [← h2]
 rw [show Op.equal 307 (.agg #[U (hi x), U (lo x)]) (.agg #[U (hi y), U (lo y)]) = Op.equalIn (9999 + 1) 307 (.agg #[U (hi x), U (lo x)]) (.agg #[U (hi y), U (lo y)]) from rfl, h]
 simp
end Go.Proofs.YtjmdbbnnpmmpiaaGreatDoor
