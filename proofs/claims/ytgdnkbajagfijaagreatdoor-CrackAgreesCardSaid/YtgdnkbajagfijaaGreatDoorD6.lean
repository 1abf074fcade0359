/- Part 6. -/
import Derived.Shelf.Spec.TrailingZeros
import Derived.Shelf.Small.Bits
import Derived.Shelf.Small.Wraps
import Derived.Shelf.Strconv.Itoa0
import Derived.Ground.MpProg
import Derived.Shelf.Pu.ParseUintPublic10
import Derived.Shelf.Pu.ErrVarParseUint
import Derived.Shelf.Strings.Search1
import Derived.Shelf.Strings.Search2
import Derived.Shelf.Strings.Cut
import Derived.Shelf.LaysM
import Derived.Shelf.Strings.Shaped
import Derived.Shelf.Strings.Prefix
import Derived.Shelf.Bits.Mul64
import Derived.Test.YtgdnkbajagfijaaGreatDoorProg
import Derived.Test.YtgdnkbajagfijaaGreatDoorD5
import Derived.Shelf.Spec.BitsCarry
import Derived.Laws.CopyOwn
set_option linter.all false

namespace Go.Proofs
open Go.Shelf
def Tryz.lays134_ren:Go.Shelf.Ren:=⟨fun|134=>194|129=>204|n=>n,fun|53=>31|3=>3|4=>4|46=>112|5=>5|9=>9|n=>n,fun|n=>n⟩
theorem Tryz.lays134:Go.Proofs.Lays.n134 Tryz.prog Tryz.lays134_ren:={
 mixed:=by kernel_rfl
 f129:=Tryz.func204.trans (congrArg some (by kernel_rfl))
 f134:=Tryz.func194.trans (congrArg some (by kernel_rfl))
 t3:=Tryz.underlying3
 a3:=Tryz.isAgg3
 z3:=Tryz.sizeOf3
 v3:=Tryz.zeroValue3
 t4:=Tryz.underlying4
 a4:=Tryz.isAgg4
 z4:=Tryz.sizeOf4
 v4:=Tryz.zeroValue4
 t5:=Tryz.underlying5
 a5:=Tryz.isAgg5
 z5:=Tryz.sizeOf5
 v5:=Tryz.zeroValue5
 t9:=Tryz.underlying9
 a9:=Tryz.isAgg9
 z9:=Tryz.sizeOf9
 v9:=Tryz.zeroValue9
 t46:=Tryz.underlying112
 a46:=Tryz.isAgg112
 z46:=Tryz.sizeOf112
 v46:=Tryz.zeroValue112
 t53:=Tryz.underlying31
 a53:=Tryz.isAgg31
 z53:=Tryz.sizeOf31
 v53:=Tryz.zeroValue31 }
theorem Tryz.bits_LeadingZeros64 (x:Int) (w:World) (h0:0<=x) (h1:x<=18446744073709551615) :
 Calls Tryz.prog 194 #[.int .u64 x] w fun e w'=>e=.returned (.int .i64 (64-(Lib.bitLen x.toNat:Int)))/\w'=w:=Any.bits_LeadingZeros64 Tryz.lays134 x w h0 h1
def Tryz.lays103_ren:Go.Shelf.Ren:=⟨fun|103=>103|210=>136|206=>167|n=>n,fun|9=>9|4=>4|24=>177|3=>3|n=>n,fun|n=>n⟩
theorem Tryz.lays103:Go.Proofs.Lays.n103 Tryz.prog Tryz.lays103_ren:={
 mixed:=by kernel_rfl
 f103:=Tryz.func103.trans (congrArg some (by kernel_rfl))
 f206:=Tryz.func167.trans (congrArg some (by kernel_rfl))
 f210:=Tryz.func136.trans (congrArg some (by kernel_rfl))
 t3:=Tryz.underlying3
 a3:=Tryz.isAgg3
 z3:=Tryz.sizeOf3
 v3:=Tryz.zeroValue3
 t4:=Tryz.underlying4
 a4:=Tryz.isAgg4
 z4:=Tryz.sizeOf4
 v4:=Tryz.zeroValue4
 t9:=Tryz.underlying9
 a9:=Tryz.isAgg9
 z9:=Tryz.sizeOf9
 v9:=Tryz.zeroValue9
 t24:=Tryz.underlying177
 a24:=Tryz.isAgg177
 z24:=Tryz.sizeOf177
 v24:=Tryz.zeroValue177 }
open Go.RowKit in
theorem Tryz.strings_CutPrefix (s p:ByteArray) (w:World) :
 Calls Tryz.prog 103 #[.string s,.string p] w fun e w'=>e=.returned (.tuple #[.string ⟨(Lib.trimPrefix s.data.toList p.data.toList).toArray⟩,.bool (Lib.hasPrefix s.data.toList p.data.toList)])/\w'=w:=Any.strings_CutPrefix Tryz.lays103 s p w
def Tryz.lays122_ren:Go.Shelf.Ren:=⟨fun|122=>89|215=>131|n=>n,fun|3=>3|4=>4|n=>n,fun|n=>n⟩
theorem Tryz.lays122:Go.Proofs.Lays.n122 Tryz.prog Tryz.lays122_ren:={
 mixed:=by kernel_rfl
 f122:=Tryz.func89.trans (congrArg some (by kernel_rfl))
 f215:=Tryz.func131.trans (congrArg some (by kernel_rfl))
 t3:=Tryz.underlying3
 a3:=Tryz.isAgg3
 z3:=Tryz.sizeOf3
 v3:=Tryz.zeroValue3
 t4:=Tryz.underlying4
 a4:=Tryz.isAgg4
 z4:=Tryz.sizeOf4
 v4:=Tryz.zeroValue4 }
open Go.RowKit in
theorem Tryz.cmp_Compare_int (x y:Int) (w:World) :
 Calls Tryz.prog 89 #[.int .i64 x,.int .i64 y] w fun e w'=>e=.returned (.int .i64 (Lib.compareInt x y))/\w'=w:=Any.cmp_Compare_int Tryz.lays122 x y w
def Tryz.laysPu14_ren:Go.Shelf.Ren:=⟨fun|14=>138|16=>169|17=>170|19=>185|20=>186|21=>187|22=>188|23=>189|24=>190|25=>201|27=>203|26=>202|28=>207|29=>208|30=>209|31=>210|32=>211|33=>212|35=>204|34=>213|36=>214|37=>215|38=>216|39=>217|40=>175|n=>n,fun|9=>9|3=>3|22=>31|24=>220|25=>221|4=>4|34=>260|5=>5|36=>112|37=>75|0=>0|39=>263|21=>21|44=>282|47=>285|50=>288|48=>286|2=>2|52=>290|55=>292|59=>295|60=>277|20=>20|61=>296|65=>299|66=>274|67=>97|n=>n,fun|0=>4|1=>5|2=>6|3=>7|4=>1|n=>n⟩
theorem Tryz.laysPu14:Go.Proofs.LaysPu.n14 Tryz.prog Tryz.laysPu14_ren:={
 mixed:=by kernel_rfl
 f14:=Tryz.func138.trans (congrArg some (by kernel_rfl))
 f16:=Tryz.func169.trans (congrArg some (by kernel_rfl))
 f17:=Tryz.func170.trans (congrArg some (by kernel_rfl))
 f19:=Tryz.func185.trans (congrArg some (by kernel_rfl))
 f20:=Tryz.func186.trans (congrArg some (by kernel_rfl))
 f21:=Tryz.func187.trans (congrArg some (by kernel_rfl))
 f22:=Tryz.func188.trans (congrArg some (by kernel_rfl))
 f23:=Tryz.func189.trans (congrArg some (by kernel_rfl))
 f24:=Tryz.func190.trans (congrArg some (by kernel_rfl))
 f25:=Tryz.func201.trans (congrArg some (by kernel_rfl))
 f26:=Tryz.func202.trans (congrArg some (by kernel_rfl))
 f27:=Tryz.func203.trans (congrArg some (by kernel_rfl))
 f28:=Tryz.func207.trans (congrArg some (by kernel_rfl))
 f29:=Tryz.func208.trans (congrArg some (by kernel_rfl))
 f30:=Tryz.func209.trans (congrArg some (by kernel_rfl))
 f31:=Tryz.func210.trans (congrArg some (by kernel_rfl))
 f32:=Tryz.func211.trans (congrArg some (by kernel_rfl))
 f33:=Tryz.func212.trans (congrArg some (by kernel_rfl))
 f34:=Tryz.func213.trans (congrArg some (by kernel_rfl))
 f35:=Tryz.func204.trans (congrArg some (by kernel_rfl))
 f36:=Tryz.func214.trans (congrArg some (by kernel_rfl))
 f37:=Tryz.func215.trans (congrArg some (by kernel_rfl))
 f38:=Tryz.func216.trans (congrArg some (by kernel_rfl))
 f39:=Tryz.func217.trans (congrArg some (by kernel_rfl))
 f40:=Tryz.func175.trans (congrArg some (by kernel_rfl))
 t0:=Tryz.underlying0
 a0:=Tryz.isAgg0
 z0:=Tryz.sizeOf0
 v0:=Tryz.zeroValue0
 i0:=by kernel_rfl
 t2:=Tryz.underlying2
 a2:=Tryz.isAgg2
 z2:=Tryz.sizeOf2
 v2:=Tryz.zeroValue2
 i2:=by kernel_rfl
 t3:=Tryz.underlying3
 a3:=Tryz.isAgg3
 z3:=Tryz.sizeOf3
 v3:=Tryz.zeroValue3
 i3:=by kernel_rfl
 t4:=Tryz.underlying4
 a4:=Tryz.isAgg4
 z4:=Tryz.sizeOf4
 v4:=Tryz.zeroValue4
 i4:=by kernel_rfl
 t5:=Tryz.underlying5
 a5:=Tryz.isAgg5
 z5:=Tryz.sizeOf5
 v5:=Tryz.zeroValue5
 i5:=by kernel_rfl
 t9:=Tryz.underlying9
 a9:=Tryz.isAgg9
 z9:=Tryz.sizeOf9
 v9:=Tryz.zeroValue9
 i9:=by kernel_rfl
 t20:=Tryz.underlying20
 a20:=Tryz.isAgg20
 z20:=Tryz.sizeOf20
 v20:=Tryz.zeroValue20
 i20:=by kernel_rfl
 t21:=Tryz.underlying21
 a21:=Tryz.isAgg21
 z21:=Tryz.sizeOf21
 v21:=Tryz.zeroValue21
 i21:=by kernel_rfl
 t22:=Tryz.underlying31
 a22:=Tryz.isAgg31
 z22:=Tryz.sizeOf31
 v22:=Tryz.zeroValue31
 i22:=by kernel_rfl
 t24:=Tryz.underlying220
 a24:=Tryz.isAgg220
 z24:=Tryz.sizeOf220
 v24:=Tryz.zeroValue220
 i24:=by kernel_rfl
 t25:=Tryz.underlying221
 a25:=Tryz.isAgg221
 z25:=Tryz.sizeOf221
 v25:=Tryz.zeroValue221
 i25:=by kernel_rfl
 t34:=Tryz.underlying260
 a34:=Tryz.isAgg260
 z34:=Tryz.sizeOf260
 v34:=Tryz.zeroValue260
 i34:=by kernel_rfl
 c34:=by kernel_rfl
 t36:=Tryz.underlying112
 a36:=Tryz.isAgg112
 z36:=Tryz.sizeOf112
 v36:=Tryz.zeroValue112
 i36:=by kernel_rfl
 t37:=Tryz.underlying75
 a37:=Tryz.isAgg75
 z37:=Tryz.sizeOf75
 v37:=Tryz.zeroValue75
 i37:=by kernel_rfl
 t39:=Tryz.underlying263
 a39:=Tryz.isAgg263
 z39:=Tryz.sizeOf263
 v39:=Tryz.zeroValue263
 i39:=by kernel_rfl
 t44:=Tryz.underlying282
 a44:=Tryz.isAgg282
 z44:=Tryz.sizeOf282
 v44:=Tryz.zeroValue282
 i44:=by kernel_rfl
 t47:=Tryz.underlying285
 a47:=Tryz.isAgg285
 z47:=Tryz.sizeOf285
 v47:=Tryz.zeroValue285
 i47:=by kernel_rfl
 t48:=Tryz.underlying286
 a48:=Tryz.isAgg286
 z48:=Tryz.sizeOf286
 v48:=Tryz.zeroValue286
 i48:=by kernel_rfl
 t50:=Tryz.underlying288
 a50:=Tryz.isAgg288
 z50:=Tryz.sizeOf288
 v50:=Tryz.zeroValue288
 i50:=by kernel_rfl
 t52:=Tryz.underlying290
 a52:=Tryz.isAgg290
 z52:=Tryz.sizeOf290
 v52:=Tryz.zeroValue290
 i52:=by kernel_rfl
 t55:=Tryz.underlying292
 a55:=Tryz.isAgg292
 z55:=Tryz.sizeOf292
 v55:=Tryz.zeroValue292
 i55:=by kernel_rfl
 t59:=Tryz.underlying295
 a59:=Tryz.isAgg295
 z59:=Tryz.sizeOf295
 v59:=Tryz.zeroValue295
 i59:=by kernel_rfl
 t60:=Tryz.underlying277
 a60:=Tryz.isAgg277
 z60:=Tryz.sizeOf277
 v60:=Tryz.zeroValue277
 i60:=by kernel_rfl
 t61:=Tryz.underlying296
 a61:=Tryz.isAgg296
 z61:=Tryz.sizeOf296
 t65:=Tryz.underlying299
 a65:=Tryz.isAgg299
 z65:=Tryz.sizeOf299
 v65:=Tryz.zeroValue299
 i65:=by kernel_rfl
 t66:=Tryz.underlying274
 a66:=Tryz.isAgg274
 z66:=Tryz.sizeOf274
 v66:=Tryz.zeroValue274
 i66:=by kernel_rfl
 t67:=Tryz.underlying97
 a67:=Tryz.isAgg97
 z67:=Tryz.sizeOf97
 v67:=Tryz.zeroValue97
 i67:=by kernel_rfl
 g0:=by kernel_rfl
 m0:=by kernel_rfl
 g1:=by kernel_rfl
 m1:=by kernel_rfl
 g2:=by kernel_rfl
 m2:=by kernel_rfl
 g3:=by kernel_rfl
 m3:=by kernel_rfl
 g4:=by kernel_rfl
 m4:=by kernel_rfl }
open Go.RowKit in
theorem Tryz.strconv_ParseUint_10_at64_ok (s:ByteArray) (hmax:s.size<=9223372036854775806) (u:Nat) (h:Lib.parseUintB 64 s.data.toList=.ok u) (w:World) :
 Calls Tryz.prog 138 #[.string s,.int .i64 10,.int .i64 64] w fun e w'=>e=.returned (.tuple #[.int .u64 u,.nilIface])/\(w'=w\/w'=Lib.bytesWorld w 5 s):=Any.strconv_ParseUint_10_at64_ok Tryz.laysPu14 s hmax u h w
open Go.RowKit in
theorem Tryz.strconv_ParseUint_10_at64_syntax (s:ByteArray) (hlim:s.size<=281474976710656) (h:Lib.parseUintB 64 s.data.toList=Lib.parseUintB 64 []) (ev:Value) (w:World) (hv:w.cell? ⟨4,0,none⟩=some ev) (hev:ev=.nilIface\/∃ te pe,ev=.iface te pe) :
 Calls Tryz.prog 138 #[.string s,.int .i64 10,.int .i64 64] w fun e w'=>∃ N,e=.returned (.tuple #[.int .u64 0,.iface 263 (.pointer (some ⟨N,0,none⟩))])/\w.heap.size<=N/\w'.heap[N]?=some (.cells #[.string ⟨#[80,97,114,115,101,85,105,110,116]⟩,.string s,ev] 282 (0,0))/\Below w.heap.size w w':=Any.strconv_ParseUint_10_at64_syntax Tryz.laysPu14 s hlim (h.trans rfl) ev w hv hev
def Tryz.lays145_ren:Go.Shelf.Ren:=⟨fun|145=>104|220=>137|219=>168|217=>181|225=>182|224=>183|267=>184|266=>199|314=>200|n=>n,fun|9=>9|4=>4|59=>179|3=>3|5=>5|46=>112|146=>278|51=>277|n=>n,fun|1=>0|n=>n⟩
theorem Tryz.lays145:Go.Proofs.Lays.n145 Tryz.prog Tryz.lays145_ren:={
 mixed:=by kernel_rfl
 f145:=Tryz.func104.trans (congrArg some (by kernel_rfl))
 f217:=Tryz.func181.trans (congrArg some (by kernel_rfl))
 f219:=Tryz.func168.trans (congrArg some (by kernel_rfl))
 f220:=Tryz.func137.trans (congrArg some (by kernel_rfl))
 f224:=Tryz.func183.trans (congrArg some (by kernel_rfl))
 f225:=Tryz.func182.trans (congrArg some (by kernel_rfl))
 f266:=Tryz.func199.trans (congrArg some (by kernel_rfl))
 f267:=Tryz.func184.trans (congrArg some (by kernel_rfl))
 f314:=Tryz.func200.trans (congrArg some (by kernel_rfl))
 t3:=Tryz.underlying3
 a3:=Tryz.isAgg3
 z3:=Tryz.sizeOf3
 v3:=Tryz.zeroValue3
 t4:=Tryz.underlying4
 a4:=Tryz.isAgg4
 z4:=Tryz.sizeOf4
 v4:=Tryz.zeroValue4
 t5:=Tryz.underlying5
 a5:=Tryz.isAgg5
 z5:=Tryz.sizeOf5
 v5:=Tryz.zeroValue5
 t9:=Tryz.underlying9
 a9:=Tryz.isAgg9
 z9:=Tryz.sizeOf9
 v9:=Tryz.zeroValue9
 t46:=Tryz.underlying112
 a46:=Tryz.isAgg112
 z46:=Tryz.sizeOf112
 v46:=Tryz.zeroValue112
 t51:=Tryz.underlying277
 a51:=Tryz.isAgg277
 z51:=Tryz.sizeOf277
 v51:=Tryz.zeroValue277
 t59:=Tryz.underlying179
 a59:=Tryz.isAgg179
 z59:=Tryz.sizeOf179
 v59:=Tryz.zeroValue179
 t146:=Tryz.underlying278
 a146:=Tryz.isAgg278
 z146:=Tryz.sizeOf278
 v146:=Tryz.zeroValue278
 g1:=by kernel_rfl }
open Go.RowKit Go.Lib in
theorem Tryz.strings_Cut (s sep:ByteArray) (m:Int) (w:World) (hs:s.size<4294967281) (hm:w.cell? ⟨0,0,none⟩=some (.int .i64 m)) :
 Calls Tryz.prog 104 #[.string s,.string sep] w fun e w'=>e=.returned (.tuple #[.string ⟨(Lib.cut s.data.toList sep.data.toList).1.toArray⟩,.string ⟨(Lib.cut s.data.toList sep.data.toList).2.1.toArray⟩,.bool (Lib.cut s.data.toList sep.data.toList).2.2])/\∃ n,w'=w.drewN n:=Any.strings_Cut Tryz.lays145 s sep m w hs hm
def Tryz.lays264_ren:Go.Shelf.Ren:=⟨fun|264=>111|n=>n,fun|53=>31|46=>112|n=>n,fun|n=>n⟩
theorem Tryz.lays264:Go.Proofs.Lays.n264 Tryz.prog Tryz.lays264_ren:={
 mixed:=by kernel_rfl
 f264:=Tryz.func111.trans (congrArg some (by kernel_rfl))
 t46:=Tryz.underlying112
 a46:=Tryz.isAgg112
 z46:=Tryz.sizeOf112
 v46:=Tryz.zeroValue112
 t53:=Tryz.underlying31
 a53:=Tryz.isAgg31
 z53:=Tryz.sizeOf31
 v53:=Tryz.zeroValue31 }
open Go.RowKit Go.Lib in
theorem Tryz.bits_Mul64 (x y:Nat) (hx:x<18446744073709551616) (hy:y<18446744073709551616) (w:World) :
 Calls Tryz.prog 111 #[.int .u64 x,.int .u64 y] w fun e w'=>e=.returned (.tuple #[.int .u64 ((x*y/18446744073709551616:Nat):Int),.int .u64 ((x*y%18446744073709551616:Nat):Int)])/\w'=w:=Any.bits_Mul64 Tryz.lays264 x y hx hy w
def Tryz.lays7n29_ren:Go.Shelf.Ren:=⟨fun|29=>175|n=>n,fun|22=>31|3=>3|4=>4|25=>112|54=>274|0=>0|5=>5|n=>n,fun|1=>1|n=>n⟩
theorem Tryz.lays7n29:Go.Proofs.Lays7.n29 Tryz.prog Tryz.lays7n29_ren:={
 mixed:=by kernel_rfl
 f29:=Tryz.func175.trans (congrArg some (by kernel_rfl))
 t0:=Tryz.underlying0
 a0:=Tryz.isAgg0
 z0:=Tryz.sizeOf0
 v0:=Tryz.zeroValue0
 i0:=by kernel_rfl
 t3:=Tryz.underlying3
 a3:=Tryz.isAgg3
 z3:=Tryz.sizeOf3
 v3:=Tryz.zeroValue3
 i3:=by kernel_rfl
 t4:=Tryz.underlying4
 a4:=Tryz.isAgg4
 z4:=Tryz.sizeOf4
 v4:=Tryz.zeroValue4
 i4:=by kernel_rfl
 t5:=Tryz.underlying5
 a5:=Tryz.isAgg5
 z5:=Tryz.sizeOf5
 v5:=Tryz.zeroValue5
 i5:=by kernel_rfl
 t22:=Tryz.underlying31
 a22:=Tryz.isAgg31
 z22:=Tryz.sizeOf31
 v22:=Tryz.zeroValue31
 i22:=by kernel_rfl
 t25:=Tryz.underlying112
 a25:=Tryz.isAgg112
 z25:=Tryz.sizeOf112
 v25:=Tryz.zeroValue112
 i25:=by kernel_rfl
 t54:=Tryz.underlying274
 a54:=Tryz.isAgg274
 z54:=Tryz.sizeOf274
 g1:=by kernel_rfl }
open Go.RowKit Go.Lib in
theorem Tryz.bits_TrailingZeros64 (x:Nat) (hx:x<18446744073709551616) (w:World) (hT:x≠0->TabAt 1 Lib.deBruijn64tab w) :
 Calls Tryz.prog 175 #[.int .u64 x] w fun e w'=>e=.returned (.int .i64 (Lib.ctz 64 x))/\w'=w:=Any7.bits_TrailingZeros64 Tryz.lays7n29 x hx w hT
end Go.Proofs

namespace Go.Proofs.YtgdnkbajagfijaaGreatDoor
open Go Go.RowKit Go.Proofs Lim
theorem WE (x y:Nat) (w:World) :
 (callFunc 174 #[.int .u64 (x:Int),.int .u64 (y:Int),.int .u64 0]).run Tryz.prog w =
  .ok (.value (.tuple #[u (zL x y),u (yA x y)])) w:=by
 rw[run_callFunc_extern Tryz.func174 (by kernel_rfl) (by kernel_rfl) (by kernel_rfl) (e:=add64Entry) (by kernel_rfl)];rfl
theorem ZX (x y:Nat) (w:World) :
 (callFunc 206 #[.int .u64 (x:Int),.int .u64 (y:Int),.int .u64 0]).run Tryz.prog w =
  .ok (.value (.tuple #[u (zt x y),u (Kg x y)])) w:=by
 rw[run_callFunc_extern Tryz.func206 (by kernel_rfl) (by kernel_rfl) (by kernel_rfl) (e:=sub64Entry) (by kernel_rfl)];rfl
theorem cei (x y:Nat) (hx:x<B) (hy:y<B) (w:World) :
 Calls Tryz.prog 111 #[u x,u y] w fun e w'=>e=.returned (.tuple #[u (uc x y),u (jR x y)])/\w=w' :=
 (Tryz.bits_Mul64 x y hx hy w).mono fun _ _ ⟨h,h'⟩=>⟨h,h'.symm⟩
theorem coj {s y f c:Nat}(hs:s<B) (hy:y<B) (hf:f<B) (hc:c<B) :
 zL s (zL (jR y f) c)+B*(uc y f+yA (jR y f) c+yA s (zL (jR y f) c))=s+y*f+c/\
  uc y f+yA (jR y f) c+yA s (zL (jR y f) c)<B:=by
 have h1:=cbj y f;have h2:=ZM (jR y f) c;have h3:=ZM s (zL (jR y f) c);have e:zL s (zL (jR y f) c)+B*(uc y f+yA (jR y f) c+yA s (zL (jR y f) c))=s+y*f+c:=by
  rw[cK,cK];omega
 refine⟨e,?_⟩;have i1:y*f<=(B-1)*(B-1):=Cf (by omega) (by omega);have i2:(B-1)*(B-1)+2*(B-1)+1=B*B:=by
  have:B=(B-1)+1:=by have:=ke;omega
  generalize B-1=k at *;rw[this];grind
 have i3:B*(uc y f+yA (jR y f) c+yA s (zL (jR y f) c))<B*B:=by omega
 exact Kn i3
attribute [local go_sem] WE ZX
structure EQ (L L':List Nat) (so n x c:Nat):Prop where
 len:L'.length=L.length
 ok:Ok L'
 low:L'.take so=L.take so
 high:L'.drop (so+n)=L.drop (so+n)
 sum:val L'+B^(so+n)*c=val L+B^so*x
structure Eh (L L':List Nat) (so n x c:Nat):Prop where
 len:L'.length=L.length
 ok:Ok L'
 low:L'.take so=L.take so
 high:L'.drop (so+n)=L.drop (so+n)
 sum:val L'+B^so*x=val L+B^(so+n)*c
theorem caW (l:List Nat) (k v so:Nat) (h:so<=k):(l.set k v).take so=l.take so:=by
 rw[List.take_set,List.set_eq_of_length_le (by simp;omega)]
theorem caR (l:List Nat) (k v so:Nat) (h:k<so):(l.set k v).drop so=l.drop so:=by
 rw[List.drop_set,co h]
theorem EQ.start (L:List Nat) (so:Nat) (h:Ok L):EQ L L so 0 0 0:=⟨rfl,h,rfl,rfl,by simp⟩
theorem Eh.start (L:List Nat) (so:Nat) (h:Ok L):Eh L L so 0 0 0:=⟨rfl,h,rfl,rfl,by simp⟩
theorem EQ.step {L L':List Nat}{so k x c s' c' y:Nat}(h:EQ L L' so k x c) (hk:so+k<L.length) (hs':s'<B)
 (e:s'+B*c'=L'[so+k]?.getD 0+y+c):EQ L (L'.set (so+k) s') so (k+1) (x+B^k*y) c':=by
 refine⟨by rw[zB,h.len],h.ok.set _ _ hs',by rw[caW _ _ _ _ (by omega),h.low],?_,?_⟩
 ·rw[caR _ _ _ _ (by omega),show so+(k+1)=so+k+1 from rfl,← zN,h.high,zN]
 ·have h1:=Kq L' (so+k) s' (by rw[h.len];exact hk);have h2:=h.sum;have e2:B^(so+k)*s'+B^(so+k)*B*c'=B^(so+k)*L'[so+k]?.getD 0+B^(so+k)*y+B^(so+k)*c:=by
   rw[js,← cK,e,cK,cK]
  have e3:B^(so+(k+1))=B^(so+k)*B:=by rw[← Eg,ji]
  have e4:B^so*(x+B^k*y)=B^so*x+B^(so+k)*y:=by rw[cK,← js,← kJ]
  rw[e3,e4];omega
theorem Eh.step {L L':List Nat}{so k x c s' c' y:Nat}(h:Eh L L' so k x c) (hk:so+k<L.length) (hs':s'<B)
 (e:s'+y+c=L'[so+k]?.getD 0+B*c'):Eh L (L'.set (so+k) s') so (k+1) (x+B^k*y) c':=by
 refine⟨by rw[zB,h.len],h.ok.set _ _ hs',by rw[caW _ _ _ _ (by omega),h.low],?_,?_⟩
 ·rw[caR _ _ _ _ (by omega),show so+(k+1)=so+k+1 from rfl,← zN,h.high,zN]
 ·have h1:=Kq L' (so+k) s' (by rw[h.len];exact hk);have h2:=h.sum;have e2:B^(so+k)*s'+B^(so+k)*y+B^(so+k)*c=B^(so+k)*L'[so+k]?.getD 0+B^(so+k)*B*c':=by
   rw[js,← cK,← cK,e,cK]
  have e3:B^(so+(k+1))=B^(so+k)*B:=by rw[← Eg,ji]
  have e4:B^so*(x+B^k*y)=B^so*x+B^(so+k)*y:=by rw[cK,← js,← kJ]
  rw[e3,e4];omega
theorem EQ.wider {L L':List Nat}{so k n x:Nat}(h:EQ L L' so k x 0) (hk:k<=n):EQ L L' so n x 0:=by
 refine⟨h.len,h.ok,h.low,?_,by simpa using h.sum⟩;rw[show so+n=so+k+(n-k) from by omega,← zN,h.high,zN]
theorem Eh.wider {L L':List Nat}{so k n x:Nat}(h:Eh L L' so k x 0) (hk:k<=n):Eh L L' so n x 0:=by
 refine⟨h.len,h.ok,h.low,?_,by simpa using h.sum⟩;rw[show so+n=so+k+(n-k) from by omega,← zN,h.high,zN]
def ckE (w:World) (b so n:Nat) (L:List Nat) (x:Nat) (e:Ending) (w':World):Prop :=
 e=.returned (.tuple #[])/\jF b w w'/\∃ c L',Blk w' b L'/\EQ L L' so n x c
def AddRel (w:World) (b so:Nat) (L:List Nat) (k x:Nat) (carry i:Value) (wr:World):Prop :=
 ∃ c L',i=.int .i64 (k:Int)/\carry=u c/\c<B/\Blk wr b L'/\EQ L L' so k x c/\jF b w wr
theorem EV (b so n:Nat) (scap ycap:Nat) (L Y:List Nat) (ya:Option Addr) (f:Nat) (w:World)
 (hL:Blk w b L) (hn:so+n<=L.length) (hlen:Y.length<=n) (hmax:(n:Int)<=4611686018427387904) (hf:f<B) (okL:Ok L) (okY:Ok Y)
 (hY:0<Y.length->∃ yb yo,ya=some ⟨yb,yo,none⟩/\yb≠b/\Row w yb yo Y) :
 Calls Tryz.prog 149 #[.slice (some ⟨b,so,none⟩) n scap,.slice ya Y.length ycap,u f] w (ckE w b so n L (f*val Y)):=by
 have HY:=ca hY;have HL:=ca hL;have HokL:=ca okL;have HokY:=ca okY;clear hY hL okL okY
 go_enter Tryz.func149,Tryz.ntmps149
 go_wp2_with fail
 go_loopw [6,15] (fun carry i wr=>∃ k,k<=Y.length/\AddRel w b so L k (f*val (Y.take k)) carry i wr) (fun _ i _=>Y.length-(intOf i).toNat)
 case atStart=>exact⟨0,ju _,0,L,rfl,rfl,ke,HL.out,by simpa [val] using EQ.start L so HokL.out,jF.refl b w⟩
 case round =>
  obtain⟨k,hk,c,L',rfl,rfl,hc,hB,hA,hO⟩:=hrel;by_cases hlt:k<Y.length
  ·obtain⟨yb,yo,rfl,hyb,hrow⟩:=HY.out (by omega);have hlen':L'.length=L.length:=hA.len;have hyc:wr.cell? ⟨yb,yo+k,none⟩=some (u (Y[k]?.getD 0)):=(hO.cell (p:=⟨yb,yo+k,none⟩) hyb).trans (hrow k hlt);have hsc:wr.cell? ⟨b,so+k,none⟩=some (u (L'[so+k]?.getD 0)):=hB.cell (so+k) (by omega);have hfz:wr.frozen? ⟨b,so+k,none⟩=false:=hB.frozen _;have hy:Y[k]?.getD 0<B:=HokY.out.get k;have hs:L'[so+k]?.getD 0<B:=hA.ok.get _;generalize hyg:Y[k]?.getD 0=y at *;generalize hsg:L'[so+k]?.getD 0=s at *;have HA:=ca hA;have HB:=ca hB;have HO:=ca hO;have H1:=ca hyg;have H2:=ca hsg;have H3:=ca hlen';have H4:=ca (coj hs hy hf hc);clear hA hB hO hyg hsg hlen' hrow;go_wp2_with (go_at_call 111;refine(cei _ _ (by assumption) (by assumption) _).mono ?_;rintro e w' ⟨rfl,rfl⟩)
   go_roundw
   case rel =>
    refine⟨k+1,by omega,_,_,by go_num,by rw[ceI H4.out.2],H4.out.2,HB.out.set (so+k) _ (by have:=HA.out.len;omega),?_,HO.out.set (so+k) _⟩;rw[jB _ _ hlt,H1.out,cK,show f*(B^k*y)=B^k*(y*f) from by grind];exact HA.out.step (by omega) (Ux _ _) (by rw[H2.out];exact H4.out.1)
   case measure=>simp [intOf];omega
  ·have hkn:k=Y.length:=by omega
   subst hkn;have HA:=ca hA;have HB:=ca hB;have HO:=ca hO;clear hA hB hO;go_wp2_with fail;have hle:=hlen;obtain⟨k0,hk0⟩:∃ k0,k0=Y.length:=⟨_,rfl⟩;have HK:=ca hk0;obtain⟨w1,hw1⟩:∃ w1,w1=wr:=⟨_,rfl⟩;subst hw1
   go_loopw [6,12] (fun carry i wr=>∃ k,Y.length<=k/\k<=n/\AddRel w b so L k (f*val Y) carry i wr) (fun _ i _=>n-(intOf i).toNat)
   case atStart=>exact⟨Y.length,cb _,hlen,c,L',rfl,rfl,hc,HB.out,by simpa using HA.out,HO.out⟩
   case round =>
    clear HA HB HO;obtain⟨k,hk1,hk2,c,L',rfl,rfl,hc,hB,hA,hO⟩:=hrel;have HA:=ca hA;have HB:=ca hB;have HO:=ca hO;clear hA hB hO;by_cases hc0:c=0
    ·have hcb:(((c:Nat):Int) != 0)=false:=by subst hc0;rfl
     clear hc0;go_wp2_with fail
     go_end0
     refine⟨rfl,HO.out,0,L',HB.out,?_⟩;have h0:c=0:=by simpa using hcb
     subst h0;exact HA.out.wider hk2
    ·have hcb:(((c:Nat):Int) != 0)=true:=by rw[Jv];omega
     clear hc0;by_cases hlt2:k<n
     ·have hlen':L'.length=L.length:=HA.out.len;have hsc:wr.cell? ⟨b,so+k,none⟩=some (u (L'[so+k]?.getD 0)):=HB.out.cell (so+k) (by omega);have hfz:wr.frozen? ⟨b,so+k,none⟩=false:=HB.out.frozen _;generalize hsg:L'[so+k]?.getD 0=s at *;have H2:=ca hsg;have H3:=ca hlen';have H4:=ZM s c;have HH4:=ca H4;clear H4 hsg hlen';go_wp2_with fail
      go_roundw
      case rel =>
       refine⟨k+1,by omega,by omega,_,_,by go_num,rfl,?_,HB.out.set (so+k) _ (by have:=HA.out.len;omega),?_,HO.out.set (so+k) _⟩
       ·exact jq (cgY (by rw[← H2.out];exact HA.out.ok.get _) hc) (by decide)
       ·have:=HA.out.step (y:=0) (by omega) (Ux s c) (c':=yA s c) (by rw[H2.out,HH4.out];omega);simpa using this
      case measure=>simp [intOf];omega
     ·go_wp2_with fail
      go_end0
      obtain rfl:k=n:=by omega
      exact⟨rfl,HO.out,c,L',HB.out,HA.out⟩
theorem Gd (b so n:Nat) (scap ycap:Nat) (L Y:List Nat) (ya:Option Addr) (w:World)
 (hL:Blk w b L) (hn:so+n<=L.length) (hlen:Y.length<=n) (hmax:(n:Int)<=4611686018427387904) (okL:Ok L) (okY:Ok Y)
 (hY:0<Y.length->∃ yb yo,ya=some ⟨yb,yo,none⟩/\yb≠b/\Row w yb yo Y) :
 Calls Tryz.prog 149 #[.slice (some ⟨b,so,none⟩) n scap,.slice ya Y.length ycap,.int .u64 1] w (ckE w b so n L (val Y)):=by
 have:=EV b so n scap ycap L Y ya 1 w hL hn hlen hmax (by decide) okL okY hY;rw[kA] at this;exact this
attribute [local go_sem] WE ZX
theorem cni {s y f c:Nat}(hs:s<B) (hy:y<B) (hf:f<B) (hc:c<B) :
 zt s (zL (jR y f) c)+y*f+c=s+B*(uc y f+yA (jR y f) c+Kg s (zL (jR y f) c))/\
  uc y f+yA (jR y f) c+Kg s (zL (jR y f) c)<B:=by
 have h1:=cbj y f;have h2:=ZM (jR y f) c;have h3:=cfm hs (Ux (jR y f) c);have h4:=YY s (zL (jR y f) c);have e:zt s (zL (jR y f) c)+y*f+c=s+B*(uc y f+yA (jR y f) c+Kg s (zL (jR y f) c)):=by
  rw[cK,cK];omega
 refine⟨e,?_⟩;have i1:y*f<=(B-1)*(B-1):=Cf (by omega) (by omega);have i2:(B-1)*(B-1)+2*(B-1)+1=B*B:=by
  have:B=(B-1)+1:=by have:=ke;omega
  generalize B-1=k at *;rw[this];grind
 have i3:B*(uc y f+yA (jR y f) c+Kg s (zL (jR y f) c))<B*B:=by omega
 exact Kn i3
def cid (w:World) (b so n:Nat) (L:List Nat) (x:Nat) (e:Ending) (w':World):Prop :=
 ∃ c L',c<B/\e=.returned (u c)/\jF b w w'/\Blk w' b L'/\Eh L L' so n x c
def clz (w:World) (b so:Nat) (L:List Nat) (k x:Nat) (carry i:Value) (wr:World):Prop :=
 ∃ c L',i=.int .i64 (k:Int)/\carry=u c/\c<B/\Blk wr b L'/\Eh L L' so k x c/\jF b w wr
theorem Eu (b so n:Nat) (scap ycap:Nat) (L Y:List Nat) (ya:Option Addr) (f:Nat) (w:World)
 (hL:Blk w b L) (hn:so+n<=L.length) (hlen:Y.length<=n) (hmax:(n:Int)<=4611686018427387904) (hf:f<B) (okL:Ok L) (okY:Ok Y)
 (hY:0<Y.length->∃ yb yo,ya=some ⟨yb,yo,none⟩/\yb≠b/\Row w yb yo Y) :
 Calls Tryz.prog 198 #[.slice (some ⟨b,so,none⟩) n scap,.slice ya Y.length ycap,u f] w (cid w b so n L (f*val Y)):=by
 have HY:=ca hY;have HL:=ca hL;have HokL:=ca okL;have HokY:=ca okY;clear hY hL okL okY
 go_enter Tryz.func198,Tryz.ntmps198
 go_wp2_with fail
 go_loopw [6,15] (fun carry i wr=>∃ k,k<=Y.length/\clz w b so L k (f*val (Y.take k)) carry i wr) (fun _ i _=>Y.length-(intOf i).toNat)
 case atStart=>exact⟨0,ju _,0,L,rfl,rfl,ke,HL.out,by simpa [val] using Eh.start L so HokL.out,jF.refl b w⟩
 case round =>
  obtain⟨k,hk,c,L',rfl,rfl,hc,hB,hA,hO⟩:=hrel;by_cases hlt:k<Y.length
  ·obtain⟨yb,yo,rfl,hyb,hrow⟩:=HY.out (by omega);have hlen':L'.length=L.length:=hA.len;have hyc:wr.cell? ⟨yb,yo+k,none⟩=some (u (Y[k]?.getD 0)):=(hO.cell (p:=⟨yb,yo+k,none⟩) hyb).trans (hrow k hlt);have hsc:wr.cell? ⟨b,so+k,none⟩=some (u (L'[so+k]?.getD 0)):=hB.cell (so+k) (by omega);have hfz:wr.frozen? ⟨b,so+k,none⟩=false:=hB.frozen _;have hy:Y[k]?.getD 0<B:=HokY.out.get k;have hs:L'[so+k]?.getD 0<B:=hA.ok.get _;generalize hyg:Y[k]?.getD 0=y at *;generalize hsg:L'[so+k]?.getD 0=s at *;have HA:=ca hA;have HB:=ca hB;have HO:=ca hO;have H1:=ca hyg;have H2:=ca hsg;have H3:=ca hlen';have H4:=ca (cni hs hy hf hc);clear hA hB hO hyg hsg hlen' hrow;go_wp2_with (go_at_call 111;refine(cei _ _ (by assumption) (by assumption) _).mono ?_;rintro e w' ⟨rfl,rfl⟩)
   go_roundw
   case rel =>
    refine⟨k+1,by omega,_,_,by go_num,by rw[ceI H4.out.2],H4.out.2,HB.out.set (so+k) _ (by have:=HA.out.len;omega),?_,HO.out.set (so+k) _⟩;rw[jB _ _ hlt,H1.out,cK,show f*(B^k*y)=B^k*(y*f) from by grind];exact HA.out.step (by omega) (YY _ _) (by rw[H2.out];exact H4.out.1)
   case measure=>simp [intOf];omega
  ·have hkn:k=Y.length:=by omega
   subst hkn;have HA:=ca hA;have HB:=ca hB;have HO:=ca hO;clear hA hB hO;go_wp2_with fail;have hle:=hlen;obtain⟨k0,hk0⟩:∃ k0,k0=Y.length:=⟨_,rfl⟩;have HK:=ca hk0;obtain⟨w1,hw1⟩:∃ w1,w1=wr:=⟨_,rfl⟩;subst hw1
   go_loopw [6,12] (fun carry i wr=>∃ k,Y.length<=k/\k<=n/\clz w b so L k (f*val Y) carry i wr) (fun _ i _=>n-(intOf i).toNat)
   case atStart=>exact⟨Y.length,cb _,hlen,c,L',rfl,rfl,hc,HB.out,by simpa using HA.out,HO.out⟩
   case round =>
    clear HA HB HO;obtain⟨k,hk1,hk2,c,L',rfl,rfl,hc,hB,hA,hO⟩:=hrel;have HA:=ca hA;have HB:=ca hB;have HO:=ca hO;clear hA hB hO;by_cases hc0:c=0
    ·have hcb:(((c:Nat):Int) != 0)=false:=by subst hc0;rfl
     clear hc0;go_wp2_with fail
     go_ret
     have h0:c=0:=by simpa using hcb
     subst h0;exact⟨0,L',ke,rfl,HO.out,HB.out,HA.out.wider hk2⟩
    ·have hcb:(((c:Nat):Int) != 0)=true:=by rw[Jv];omega
     clear hc0;by_cases hlt2:k<n
     ·have hlen':L'.length=L.length:=HA.out.len;have hsc:wr.cell? ⟨b,so+k,none⟩=some (u (L'[so+k]?.getD 0)):=HB.out.cell (so+k) (by omega);have hfz:wr.frozen? ⟨b,so+k,none⟩=false:=HB.out.frozen _;generalize hsg:L'[so+k]?.getD 0=s at *;have H2:=ca hsg;have H3:=ca hlen';have H4:=cfm (x:=s) (y:=c) (by rw[← hsg];exact HA.out.ok.get _) hc;have HH4:=ca H4;clear H4 hsg hlen';go_wp2_with fail
      go_roundw
      case rel =>
       refine⟨k+1,by omega,by omega,_,_,by go_num,rfl,?_,HB.out.set (so+k) _ (by have:=HA.out.len;omega),?_,HO.out.set (so+k) _⟩
       ·exact jq (chC s c) (by decide)
       ·have:=HA.out.step (y:=0) (by omega) (YY s c) (c':=Kg s c) (by rw[H2.out,← HH4.out];omega);simpa using this
      case measure=>simp [intOf];omega
     ·go_wp2_with fail
      go_ret
      obtain rfl:k=n:=by omega
      exact⟨c,L',hc,rfl,HO.out,HB.out,HA.out⟩
theorem cag (b so n:Nat) (scap ycap:Nat) (L Y:List Nat) (ya:Option Addr) (w:World)
 (hL:Blk w b L) (hn:so+n<=L.length) (hlen:Y.length<=n) (hmax:(n:Int)<=4611686018427387904) (okL:Ok L) (okY:Ok Y)
 (hY:0<Y.length->∃ yb yo,ya=some ⟨yb,yo,none⟩/\yb≠b/\Row w yb yo Y) :
 Calls Tryz.prog 198 #[.slice (some ⟨b,so,none⟩) n scap,.slice ya Y.length ycap,.int .u64 1] w (cid w b so n L (val Y)):=by
 have:=Eu b so n scap ycap L Y ya 1 w hL hn hlen hmax (by decide) okL okY hY;rw[kA] at this;exact this
theorem Ye {l:List Nat}{k:Nat}(hk:k<l.length) (h0:l[k]?.getD 0=0):val (l.take (k+1))=val (l.take k):=by
 rw[jB l k hk,h0];simp
theorem cev {l:List Nat}{k:Nat}(hk:k<l.length) (h0:l[k]?.getD 0≠0):ccl (l.take (k+1)):=by
 intro hne;simp only[Ya l k hk,List.getLast_append,List.getLast_singleton];simpa using h0
def NatPost (w:World) (n:Nat) (e:Ending) (w':World):Prop:=∃ v,e=.returned v/\cw w v n/\w=w'
theorem zy (xs:List Nat) (v:Value) (w:World) (hv:Sl w v xs) (hmax:(xs.length:Int)<=4611686018427387904) :
 Calls Tryz.prog 150 #[v] w (NatPost w (val xs)):=by
 obtain⟨⟨ao,cap,rfl,hc1,hc2,hr⟩,hok,typ⟩:=hv;have HTy:=ca typ;clear typ;unfold maxLen at hc2;have HR:=ca hr;have HO:=ca hok;clear hr hok
 go_enter Tryz.func150,Tryz.ntmps150
 go_wp2_with fail
 go_loop [3] (fun i=>∃ k,k<=xs.length/\i=.int .i64 (k:Int)/\val (xs.take k)=val xs) (fun i=>(intOf i).toNat)
 case atStart=>exact⟨xs.length,cb _,rfl,by simp⟩
 case round =>
  obtain⟨k,hk,rfl,hval⟩:=hrel;have HV:=ca hval;clear hval;by_cases hk0:0<k
  ·obtain⟨j,rfl⟩:∃ j,k=j+1:=⟨k-1,by omega⟩;obtain⟨b,off,rfl,hrow⟩:=HR.out (by omega);have hcell:w.cell? ⟨b,off+j,none⟩=some (u (xs[j]?.getD 0)):=hrow j (by omega);have HRow:=ca hrow;clear hrow;by_cases hz:xs[j]?.getD 0=0
   ·have hzz:=hz;rw[hz] at hcell;have HZ:=ca hzz;clear hz hzz;go_wp2_with fail
    go_round
    case rel=>exact⟨j,by omega,rfl,by rw[← HV.out,Ye (by omega) HZ.out]⟩
    case measure=>simp [intOf]
   ·have HZ:=ca hz;have hb:(((xs[j]?.getD 0:Nat):Int) == 0)=false:=by rw[jz];omega
    generalize hsg:xs[j]?.getD 0=s at *;have H2:=ca hsg;clear hsg hz;go_wp2_with fail
    go_ret
    have hlt:(xs.take (j+1)).length=j+1:=by rw[cU];omega
    refine⟨_,rfl,⟨xs.take (j+1),⟨⟨some ⟨b,off,none⟩,j+1,by rw[hlt];rfl,by omega,by unfold maxLen;omega,fun _=>⟨b,off,rfl,?_⟩⟩,HO.out.take _,?_⟩,cev (by omega) (by rw[H2.out];intro h;subst h;simp at hb),HV.out⟩,rfl⟩
    ·intro i hi;rw[HRow.out i (by omega),yB,co (by omega)]
    ·intro a n c e _;injection e with e
     exact HTy.out a _ _ (by rw[e]) (by omega)
  ·obtain rfl:k=0:=by omega
   clear hk0;go_wp2_with fail
   go_ret
   refine⟨_,rfl,⟨[],⟨⟨ao,0,rfl,by simp,by unfold maxLen;omega,fun h=>absurd h (by simp)⟩,Ok.nil,fun a n c e hn=>by injection e with _ e;omega⟩,fun h=>absurd rfl h,by simpa using HV.out⟩,rfl⟩
theorem We (x:Nat) (w:World) (hx:x<B):Calls Tryz.prog 122 #[u x] w (Ue w x):=by
 go_enter Tryz.func122,Tryz.ntmps122
 go_wp2_with fail;have hb:Blk (w.alloc (.cells ([x].map u).toArray 31)) w.heap.size [x]:=Blk.new w [x];have hs:=Sl.of_blk hb (Ok.nil.cons hx) 0 1 1 (by simp) (by simp) (by unfold maxLen;omega);refine(zy [x] _ _ hs (by simp)).mono ?_;rintro e w' ⟨v,rfl,hn,rfl⟩;go_wp2_with fail
 go_ret
 exact⟨v,rfl,by simpa [val] using hn,(cu _ _).alloc (cb _) _⟩
theorem GY:(Tryz.prog.info? 31).map (fun i=>(i.zero,i.size,i.bytes))=some (some (.int .u64 0),1,8):=by kernel_rfl
def cnc (w:World) (xs:List Nat) (e:Ending) (w':World):Prop :=
 ∃ b cap,e=.returned (.slice (some ⟨b,0,none⟩) xs.length cap)/\w.heap.size<=b/\Blk w' b xs/\xs.length<=cap/\cap<=maxLen/\Below w.heap.size w w'
theorem ZC (a:Addr) (xs:List Nat) (cap:Nat) (w:World) (hbig:(xs.length:Int)<=1099511627776) (hr:∀ j,j<xs.length->w.cell? (a.add j)=some (u (xs[j]?.getD 0))) :
 Calls Tryz.prog 156 #[.slice (some a) xs.length cap] w (cnc w xs):=by
 obtain⟨i0,hi,hz0,hz1,hz2⟩:=Wb GY;have q:∀ (w:World) (a:Option Addr) (n c n' c':Nat),(binOp .eql 147 (.slice a n c) (.slice none n' c')).run Tryz.prog w=.ok (.bool a.isNone) w:=fun w a n c n' c'=>Lib.run_eql_slice_nil w _ _ a n c n' c' Tryz.underlying147;have A:=ca hr;clear hr
 go_enter Tryz.func156,Tryz.ntmps156
 go_wp2_with (at_builtin;refine ciY _ rfl _ _ 147 rfl w.heap.size 31 i0 (.int .u64 0) 1 8 Tryz.underlying147 hi hz0 hz1 hz2 rfl (by decide) _ _ _ rfl (World.ownsRow_made w #[] 0 (cb _) (ju _) rfl) a xs.length cap (xs.map u) rfl ?qc1 ?qc2 ?qc3 ?qc4 ?qc5 ?qc6 ?_)
 case qc1=>simp
 case qc2 =>
  intro j v hj;have hjn:j<xs.length:=by
   have:=(List.getElem?_eq_some_iff.1 hj).1;simpa using this
  refine Lib.cell?_alloc_some _ ?_;rw[A.out j hjn];rw[KV,jX hjn] at hj;rw[jX hjn];exact hj
 case qc3=>intro v hv;obtain⟨x,_,rfl⟩:=List.mem_map.1 hv;rfl
 case qc4=>unfold maxLen;omega
 case qc5=>omega
 case qc6=>simp
 intro v' w1 hown hgrow hnil;go_wp2
 go_ret
 obtain⟨b,cap',rfl,hb,hB,hl,h1,h2⟩:=Blk.of_owned (xs:=xs) (by simpa using hown) hnil;refine⟨b,cap',rfl,hb,hB,by omega,h2,?_⟩;exact((cu _ w).alloc (cb _) _).grown hgrow (by simp) (by intro k hk;simp [Value.ownBlock] at hk;omega)
theorem cmf (n cap:Nat) (w:World) :
 Calls Tryz.prog 156 #[.slice none n cap] w fun e w'=>e=.returned (.slice none 0 0)/\w=w':=by
 have q:∀ (w:World) (a:Option Addr) (n c n' c':Nat),(binOp .eql 147 (.slice a n c) (.slice none n' c')).run Tryz.prog w=.ok (.bool a.isNone) w:=fun w a n c n' c'=>Lib.run_eql_slice_nil w _ _ a n c n' c' Tryz.underlying147
 go_enter Tryz.func156,Tryz.ntmps156
 go_wp2
 go_ret
 exact⟨rfl,rfl⟩
theorem cjC {xs:List Nat}(ht:ccl xs) (hv:val xs=1):xs=[1]:=by
 have hl:=cw.len (k:=1) ht hv (by decide);rcases xs with _|⟨x,_|⟨y,xs⟩⟩
 ·simp [val] at hv
 ·simp [val] at hv;rw[hv]
 ·simp at hl
theorem ceq (v:Value) (n:Nat) (w:World) (h:cw w v n) :
 Calls Tryz.prog 148 #[v] w (fun e w'=>e=.returned (.bool (decide (n=1)))/\w=w'):=by
 obtain⟨xs,⟨⟨xa,xc,rfl,h1,h2,hr⟩,ok⟩,ht,rfl⟩:=h;unfold maxLen at h2;by_cases hl:xs.length=1
 ·obtain⟨x,rfl⟩:∃ x,xs=[x]:=by
   rcases xs with _|⟨x,_|⟨z,xs⟩⟩
   ·simp at hl
   ·exact⟨x,rfl⟩
   ·simp at hl
  obtain⟨b,o,rfl,row⟩:=hr (by simp);have cx:w.cell? ⟨b,o,none⟩=some (u x):=row 0 (by simp);have hv:val [x]=x:=by simp [val]
  rw[hv];clear hv row hr ok ht hl;simp only[Js] at *;have hb:(((x:Nat):Int) == 1)=decide (x=1):=by rw[Ji];simp;omega
  go_enter Tryz.func148,Tryz.ntmps148
  go_wp2_with fail
  go_ret
  exact⟨rfl,rfl⟩
 ·have hb:(((xs.length:Nat):Int) == 1)=false:=by rw[jz];omega
  have hn:decide (val xs=1)=false:=by
   rw[cfa];intro e;have:=cjC ht e;subst this;exact hl rfl
  rw[hn];clear hr ok ht hl hn
  go_enter Tryz.func148,Tryz.ntmps148
  go_wp2_with fail
  go_ret
  exact⟨rfl,rfl⟩
theorem WN (v:Value) (n:Nat) (w:World) (h:cw w v n) (hn:n=1) :
 Calls Tryz.prog 148 #[v] w (fun e w'=>e=.returned (.bool true)/\w=w'):=by
 have:=ceq v n w h
 rwa [cG hn] at this
theorem UB (v:Value) (n:Nat) (w:World) (h:cw w v n) (hn:¬ n=1) :
 Calls Tryz.prog 148 #[v] w (fun e w'=>e=.returned (.bool false)/\w=w'):=by
 have:=ceq v n w h
 rwa [cJ hn] at this
theorem cjl (n:Nat):(madeCells #[Value.int .u64 0] n).toList=(List.replicate n 0).map u:=by
 have h:(fun x=>(#[Value.int .u64 0]:Array Value)[x%1]!)=fun _=>u 0:=by funext x;simp [Nat.mod_one]
 show ((Array.range n).map (fun x=>(#[Value.int .u64 0]:Array Value)[x%1]!)).toList=_;rw[h];simp [List.map_const']
theorem GL {w w1:World}{n:Nat}(hown:w1.ownsRow w.heap.size 31 1 (.slice (some ⟨w.heap.size,0,none⟩) n n) n (madeCells #[Value.int .u64 0] n).toList)
 (hgrow:w.grownBy w1 none):Blk w1 w.heap.size (List.replicate n 0)/\Below w.heap.size w w1:=by
 rw[cjl] at hown;obtain⟨b,cap,hv,hb,hB,hl,h1,h2⟩:=Blk.of_owned hown (by simp);injection hv with hv1 hv2 hv3
 injection hv1 with hv1
 injection hv1 with hv1
 subst hv1;exact⟨hB,(cu _ w).grown hgrow (cb _) (by intro k hk;cases hk)⟩
theorem cgF:(Tryz.prog.info? 31).map (·.size)=some 1:=by kernel_rfl
theorem ciU (xs:List Nat) (r:Nat) (T:List Value):splice ((List.replicate (xs.length+r) 0).map u++T) 0 (xs.map u)=(xs++List.replicate r 0).map u++T:=by
 simp only[splice,List.take_zero,CR,jc,List.length_map,List.map_append,yF,List.map_replicate];rw[ccw (by simp)];simp
theorem caK (xs:List Nat) (T:List Value):splice (List.replicate (xs.length+1) (u 0)++T) 0 (xs.map u)=(xs++[0]).map u++T:=by
 have:=ciU xs 1 T;rw[List.map_replicate] at this;exact this
theorem ckN {w:World}{xa:Option Addr}{xs:List Nat}(h:0<xs.length->∃ b off,xa=some ⟨b,off,none⟩/\Row w b off xs) {w1:World}{N:Nat}(hb:Below N w w1) (hN:w.heap.size<=N) :
 0<(xs.map u).length->∃ ad,xa=some ad/\∀ j v,(xs.map u)[j]?=some v->w1.cell? (ad.add j)=some v:=by
 intro hp;rw[List.length_map] at hp;obtain⟨b,off,rfl,hr⟩:=h hp;refine⟨_,rfl,fun j v hv=>?_⟩;have hj:j<xs.length:=by have:=(List.getElem?_eq_some_iff.1 hv).1;simpa using this
 rw[cdp];rw[(hr.below hb (cE (hr.lt hp) hN)) j hj];rw[KV,jX hj] at hv;rw[jX hj];exact hv
theorem YO {w:World}{xa:Option Addr}{xs:List Nat}(h:0<xs.length->∃ b off,xa=some ⟨b,off,none⟩/\Row w b off xs) {w1:World}{N:Nat}(hb:Below N w w1) (hN:w.heap.size<=N) :
 0<xs.length->∃ b off,xa=some ⟨b,off,none⟩/\b≠w.heap.size/\Row w1 b off xs:=by
 intro hp;obtain⟨b,off,rfl,hr⟩:=h hp;have:=hr.lt hp;exact⟨b,off,rfl,by omega,hr.below hb (by omega)⟩
theorem ccu:2<=B:=by decide
theorem cjO {xs ys L':List Nat}{c:Nat}(h:EQ (xs++[0]) L' 0 (xs.length+1) (val ys) c) :
 val L'+B^xs.length*B*c=val xs+val ys:=by
 have h1:=h.sum;have e:val (xs++[0])=val xs:=by rw[KP,coH,val_nil];simp
 rw[jc,JD,kA,e,ji] at h1;exact h1
theorem coz (P Q V X Y c:Nat) (Bs:Nat) (h1:V+P*Bs*c=X+Y) (hX:X<P) (hY:Y<Q) (h4:Q<=P) (h2:2<=Bs):V=X+Y:=by
 rcases kB c with h0|h0
 ·subst h0;simpa using h1
 ·have h5:P*2<=P*Bs:=jr _ h2;have h6:P*Bs*1<=P*Bs*c:=jr _ h0;omega
theorem cdW {xs ys L':List Nat}{c:Nat}(h:EQ (xs++[0]) L' 0 (xs.length+1) (val ys) c) (ok1:Ok xs) (ok2:Ok ys) (hl:ys.length<=xs.length) :
 val L'=val xs+val ys :=
 coz _ _ _ _ _ _ _ (cjO h) (kK ok1) (kK ok2) (jW ke hl) ccu
theorem chh (v1 v2:Value) (m n k:Nat) (w:World) (h1:cw w v1 m) (h2:cw w v2 n) (hm:m<B^k) (hn:n<B^k) (hk:(k:Int)<=1073741824) :
 Calls Tryz.prog 139 #[v1,v2] w (Ue w (m+n)):=by
 obtain⟨xs,s1,t1,e1⟩:=h1;obtain⟨ys,s2,t2,e2⟩:=h2;have lx:=cw.len t1 e1 hm;have ly:=cw.len t2 e2 hn;obtain⟨⟨xa,xc,rfl,hc1,hc2,hr1⟩,ok1⟩:=s1;obtain⟨⟨ya,yc,rfl,hd1,hd2,hr2⟩,ok2⟩:=s2;obtain⟨i0,hi,hz0,hz1,hz2⟩:=Wb GY;unfold maxLen at hc2 hd2;by_cases hl:xs.length<ys.length
 ·have HR2:=ca hr2;have HR1:=ca hr1;have HO2:=ca ok2;have HO1:=ca ok1;have HE2:=ca e2;have HE1:=ca e1;clear hr2 hr1 ok2 ok1 e2 e1 t1 t2 hm hn
  go_enter Tryz.func139,Tryz.ntmps139
  go_wp2_with (at_make;refine UY _ rfl _ _ 146 rfl w.heap.size 31 i0 (.int .u64 0) 1 Tryz.underlying146 hi hz0 hz1 _ _ _ _ (ys.length+1) rfl rfl (by omega) (by omega) ?qd2 ?qd3 ?qd4 ?_)
  case qd2=>rw[hz2];omega
  case qd3=>unfold maxLen;omega
  case qd4=>exact cb _
  intro w1 hown hgrow;obtain⟨hB1,hbel⟩:=GL hown hgrow;clear hown hgrow;obtain⟨T,hT⟩:=hB1;have HT:=ca hT;have HBel:=ca hbel;clear hT hbel;go_wp2_with (with_reducible refine wpList_copy_splice rfl (.tmp 17) (.tmp 18) 146 147 rfl 31 Tryz.underlying146 cgF _ _ _ _ _ _ rfl rfl w.heap.size 0 _ _ HT.out (ys.map u) ?qe1 ?qe2 ?qe3 ?qe4 w.heap.size w HBel.out (cb _) ?_)
  case qe1=>simp
  case qe2=>simpa using ckN HR2.out HBel.out (cb _)
  case qe3=>simp;omega
  case qe4=>intro v hv;obtain⟨x,_,rfl⟩:=List.mem_map.1 hv;rfl
  intro w2 hT2 hbel2;have hB2:Blk w2 w.heap.size (ys++[0]):=⟨T,by have:=hT2.out;rw[this,caK ys T]⟩;clear hT2 HT HBel;have HB2:=ca hB2;have HBel2:=ca hbel2;clear hB2 hbel2;go_wp2_with fail;refine(Gd w.heap.size 0 (ys.length+1) _ _ (ys++[0]) xs xa w2 HB2.out (by simp) (by omega) (by omega) (HO2.out.append (Ok.nil.cons ke)) HO1.out (YO HR1.out HBel2.out (cb _))).mono ?_;rintro e w3 ⟨rfl,hO3,c,L',hB3,hA⟩;have hv:=cdW hA HO2.out HO1.out (by omega);have hlen:L'.length=ys.length+1:=by rw[hA.len];simp
  have hs:=Sl.of_blk hB3 hA.ok 0 (ys.length+1) (ys.length+1) (by omega) (cb _) (by unfold maxLen;omega);rw[uB,← hlen,yx,hlen] at hs;have hb3:Below w.heap.size w w3:=HBel2.out.trans (hO3.below (cb _));have HS:=ca hs;have HB3:=ca hb3;have HV:=ca hv;have HLen:=ca hlen;clear hs hb3 hv hlen hA hB3 hO3;go_wp2_with fail;refine(zy L' _ _ HS.out (by rw[HLen.out];omega)).mono ?_;rintro e w4 ⟨v,rfl,hnat,rfl⟩;have HN:=ca hnat;clear hnat;go_wp2_with fail
  go_ret
  refine⟨v,rfl,?_,HB3.out⟩;have:=HN.out;rw[HV.out,HE2.out,HE1.out,Wi] at this;exact this
 ·have HR1:=ca hr1;have HR2:=ca hr2;have HO1:=ca ok1;have HO2:=ca ok2;have HE1:=ca e1;have HE2:=ca e2;clear hr1 hr2 ok1 ok2 e1 e2 t1 t2 hm hn
  go_enter Tryz.func139,Tryz.ntmps139
  go_wp2_with (at_make;refine UY _ rfl _ _ 146 rfl w.heap.size 31 i0 (.int .u64 0) 1 Tryz.underlying146 hi hz0 hz1 _ _ _ _ (xs.length+1) rfl rfl (by omega) (by omega) ?qb2 ?qb3 ?qb4 ?_)
  case qb2=>rw[hz2];omega
  case qb3=>unfold maxLen;omega
  case qb4=>exact cb _
  intro w1 hown hgrow;obtain⟨hB1,hbel⟩:=GL hown hgrow;clear hown hgrow;obtain⟨T,hT⟩:=hB1;have HT:=ca hT;have HBel:=ca hbel;clear hT hbel;go_wp2_with (with_reducible refine wpList_copy_splice rfl (.tmp 17) (.tmp 18) 146 147 rfl 31 Tryz.underlying146 cgF _ _ _ _ _ _ rfl rfl w.heap.size 0 _ _ HT.out (xs.map u) ?qc1 ?qc2 ?qc3 ?qc4 w.heap.size w HBel.out (cb _) ?_)
  case qc1=>simp
  case qc2=>simpa using ckN HR1.out HBel.out (cb _)
  case qc3=>simp;omega
  case qc4=>intro v hv;obtain⟨x,_,rfl⟩:=List.mem_map.1 hv;rfl
  intro w2 hT2 hbel2;have hB2:Blk w2 w.heap.size (xs++[0]):=⟨T,by have:=hT2.out;rw[this,caK xs T]⟩;clear hT2 HT HBel;have HB2:=ca hB2;have HBel2:=ca hbel2;clear hB2 hbel2;go_wp2_with fail;refine(Gd w.heap.size 0 (xs.length+1) _ _ (xs++[0]) ys ya w2 HB2.out (by simp) (by omega) (by omega) (HO1.out.append (Ok.nil.cons ke)) HO2.out (YO HR2.out HBel2.out (cb _))).mono ?_;rintro e w3 ⟨rfl,hO3,c,L',hB3,hA⟩;have hv:=cdW hA HO1.out HO2.out (by omega);have hlen:L'.length=xs.length+1:=by rw[hA.len];simp
  have hs:=Sl.of_blk hB3 hA.ok 0 (xs.length+1) (xs.length+1) (by omega) (cb _) (by unfold maxLen;omega);rw[uB,← hlen,yx,hlen] at hs;have hb3:Below w.heap.size w w3:=HBel2.out.trans (hO3.below (cb _));have HS:=ca hs;have HB3:=ca hb3;have HV:=ca hv;have HLen:=ca hlen;clear hs hb3 hv hlen hA hB3 hO3;go_wp2_with fail;refine(zy L' _ _ HS.out (by rw[HLen.out];omega)).mono ?_;rintro e w4 ⟨v,rfl,hnat,rfl⟩;have HN:=ca hnat;clear hnat;go_wp2_with fail
  go_ret
  refine⟨v,rfl,?_,HB3.out⟩;have:=HN.out;rw[HV.out,HE1.out,HE2.out] at this;exact this
theorem cis {xs ys L L':List Nat}{k c:Nat}(hv:val L=val (xs.take k)*val ys) (hk:k<xs.length) (hL:L.length=xs.length+ys.length)
 (h:EQ L L' k (xs.length+ys.length-k) (xs[k]?.getD 0*val ys) c) (ok1:Ok xs) (ok2:Ok ys):val L'=val (xs.take (k+1))*val ys:=by
 have h1:=h.sum;have e:val (xs.take (k+1))*val ys=val L+B^k*(xs[k]?.getD 0*val ys):=by
  rw[jB xs k hk,cO,hv,js]
 rw[← e] at h1;have hlt:val (xs.take (k+1))*val ys<B^(xs.length+ys.length):=by
  have h2:=kK (ok1.take (k+1));rw[cU,ul (by omega)] at h2;have h3:=kK ok2;have h4:val (xs.take (k+1))*val ys<B^(k+1)*B^ys.length:=Nat.mul_lt_mul'' h2 h3;have h5:B^(k+1)*B^ys.length<=B^(xs.length+ys.length):=by
   rw[← kJ];exact jW ke (by omega)
  omega
 rw[show k+(xs.length+ys.length-k)=xs.length+ys.length from by omega] at h1;rcases kB c with h0|h0
 ·subst h0;simpa using h1
 ·have:B^(xs.length+ys.length)*1<=B^(xs.length+ys.length)*c:=jr _ h0;omega
set_option maxRecDepth 100000 in
theorem cjL (v1 v2:Value) (m n k:Nat) (w:World) (h1:cw w v1 m) (h2:cw w v2 n) (hm:m<B^k) (hn:n<B^k) (hk:(k:Int)<=1073741824) (o1:¬ m=1) (o2:¬ n=1) :
 Calls Tryz.prog 114 #[v1,v2] w (Ue w (m*n)):=by
 have HI1:=ca (UB v1 m w h1 o1);have HI2:=ca (UB v2 n w h2 o2);clear o1 o2;obtain⟨xs,s1,t1,e1⟩:=h1;obtain⟨ys,s2,t2,e2⟩:=h2;have lx:=cw.len t1 e1 hm;have ly:=cw.len t2 e2 hn;obtain⟨⟨xa,xc,rfl,hc1,hc2,hr1⟩,ok1⟩:=s1;obtain⟨⟨ya,yc,rfl,hd1,hd2,hr2⟩,ok2⟩:=s2;obtain⟨i0,hi,hz0,hz1,hz2⟩:=Wb GY;unfold maxLen at hc2 hd2;have HR1:=ca hr1;have HR2:=ca hr2;have HO1:=ca ok1;have HO2:=ca ok2;have HE1:=ca e1;have HE2:=ca e2;clear hr1 hr2 ok1 ok2 e1 e2 t1 t2 hm hn;obtain⟨N,hN⟩:∃ N,N=xs.length+ys.length:=⟨_,rfl⟩;have HN:=ca hN;have hNmax:(N:Int)<=2147483648:=by omega
 clear hN
 go_enter Tryz.func114,Tryz.ntmps114
 go_wp2_with fail;refine HI1.out.mono ?_;rintro e w1 ⟨rfl,rfl⟩;go_wp2_with fail;refine HI2.out.mono ?_;rintro e w1 ⟨rfl,rfl⟩;clear HI1 HI2;go_wp2_with (at_make;refine UY _ rfl _ _ 146 rfl w.heap.size 31 i0 (.int .u64 0) 1 Tryz.underlying146 hi hz0 hz1 _ _ _ _ N rfl rfl (by have:=HN.out;omega) (by have:=HN.out;omega) ?qb2 ?qb3 ?qb4 ?_)
 case qb2=>rw[hz2];omega
 case qb3=>unfold maxLen;omega
 case qb4=>exact cb _
 intro w1 hown hgrow;obtain⟨hB1,hbel⟩:=GL hown hgrow;clear hown hgrow;have HB1:=ca hB1;have HBel:=ca hbel;clear hB1 hbel;go_wp2_with fail
 go_loopw [21] (fun i wr=>∃ k L,k<=xs.length/\i=.int .i64 (k:Int)/\Hid (Blk wr w.heap.size L/\L.length=N/\Ok L/\val L=val (xs.take k)*val ys)/\Hid (Below w.heap.size w wr)) (fun i _=>xs.length-(intOf i).toNat)
 case atStart=>exact⟨0,_,ju _,rfl,⟨HB1.out,by simp,Ok.replicate _,by rw[EM];simp [val]⟩,HBel.out⟩
 case round =>
  obtain⟨k,L,hk,rfl,hL,hBe⟩:=hrel;by_cases hlt:k<xs.length
  ·obtain⟨xb,xo,rfl,hxrow⟩:=HR1.out (by omega);have hxb:=hxrow.lt (by omega);have hxc:wr.cell? ⟨xb,xo+k,none⟩=some (u (xs[k]?.getD 0)):=(hBe.out.cell (p:=⟨xb,xo+k,none⟩) hxb).trans (hxrow k hlt);have hxl:xs[k]?.getD 0<B:=HO1.out.get k;generalize hxg:xs[k]?.getD 0=x at *;have HX:=ca hxg;clear hxg hxrow hi hz0 hz1 hz2;have hkN:(k:Int)<(N:Int):=by have:=HN.out;omega
   have hkN':(k:Int)<=(N:Int):=by omega
   have hk0:(0:Int)<=(k:Int):=by omega
   have hNk:¬ N=k:=by omega
   go_wp2_with fail
   go_region_held3 (fun w'=>w'.cell? ⟨xb,xo+k,none⟩=some (u x)) (go_keep) ((go_at_call 149;refine(EV w.heap.size k (N-k) _ yc L ys ya x wr.drew (show Blk wr.drew w.heap.size L from hL.out.1) (by have:=hL.out.2.1;omega) (by have:=HN.out;omega) (by omega) hxl hL.out.2.2.1 HO2.out (YO HR2.out hBe.out.drew (cb _))).mono ?_;rintro e w' ⟨rfl,hO,c,L',hB',hA⟩;have hxc':=(hO.cell (p:=⟨xb,xo+k,none⟩) (Nat.ne_of_lt hxb)).trans hxc))
   have HB':=ca hB';have HA:=ca hA;have HO:=ca hO;clear hB' hA hO hxc' hNk;go_wp2_with fail
   go_roundw
   case rel =>
    refine⟨k+1,L',by omega,by go_num,⟨HB'.out,by rw[HA.out.len,hL.out.2.1],HA.out.ok,?_⟩,hBe.out.trans (Below.trans ((cu _ wr).drew) (HO.out.below (cb _)))⟩;have hN:=HN.out;have hA2:=HA.out;rw[← HX.out,hN] at hA2;exact cis hL.out.2.2.2 hlt (by rw[hL.out.2.1,hN]) hA2 HO1.out HO2.out
   case measure=>simp [intOf];omega
  ·obtain rfl:k=xs.length:=by omega
   obtain⟨hb,hl,ho,hv⟩:=hL.out;have hs:=Sl.of_blk hb ho 0 N N (by omega) (cb _) (by unfold maxLen;omega);rw[uB,← hl,yx,hl] at hs;rw[yx,HE1.out,HE2.out] at hv;have HS:=ca hs;have HV:=ca hv;have HLen:=ca hl;clear hs hv hl hb ho;go_wp2_with fail;refine(zy L _ _ HS.out (by rw[HLen.out];omega)).mono ?_;rintro e w4 ⟨v,rfl,hnat,rfl⟩;have HN2:=ca hnat;clear hnat;go_wp2_with fail
   go_ret
   refine⟨v,rfl,?_,hBe.out⟩;have:=HN2.out;rw[HV.out] at this;exact this
theorem Cv (v1 v2:Value) (m n k:Nat) (w:World) (h1:cw w v1 m) (h2:cw w v2 n) (hm:m<B^k) (hn:n<B^k) (hk:(k:Int)<=1073741824) :
 Calls Tryz.prog 114 #[v1,v2] w (Ue w (m*n)):=by
 by_cases o1:m=1
 ·have HI1:=ca (WN v1 m w h1 o1);have H2:=ca h2;subst o1;obtain⟨xs,⟨⟨xa,xc,rfl,_⟩,_⟩,_⟩:=h1;obtain⟨ys,⟨⟨ya,yc,rfl,_⟩,_⟩,_⟩:=h2;clear hm hn hk
  go_enter Tryz.func114,Tryz.ntmps114
  go_wp2_with fail;refine HI1.out.mono ?_;rintro e w1 ⟨rfl,rfl⟩;go_wp2_with fail
  go_ret
  refine⟨_,rfl,?_,cu _ _⟩;rw[kA];exact H2.out
 ·by_cases o2:n=1
  ·have HI1:=ca (UB v1 m w h1 o1);have HI2:=ca (WN v2 n w h2 o2);have H1:=ca h1;subst o2;obtain⟨xs,⟨⟨xa,xc,rfl,_⟩,_⟩,_⟩:=h1;obtain⟨ys,⟨⟨ya,yc,rfl,_⟩,_⟩,_⟩:=h2;clear hm hn hk o1
   go_enter Tryz.func114,Tryz.ntmps114
   go_wp2_with fail;refine HI1.out.mono ?_;rintro e w1 ⟨rfl,rfl⟩;go_wp2_with fail;refine HI2.out.mono ?_;rintro e w1 ⟨rfl,rfl⟩;go_wp2_with fail
   go_ret
   refine⟨_,rfl,?_,cu _ _⟩;rw[Ce];exact H1.out
  ·exact cjL v1 v2 m n k w h1 h2 hm hn hk o1 o2
theorem ZJ (ao ya:Option Addr) (c yc:Nat) (w:World) :
 Calls Tryz.prog 198 #[.slice ao 0 c,.slice ya 0 yc,.int .u64 1] w fun e w'=>e=.returned (.int .u64 0)/\w=w':=by
 go_enter Tryz.func198,Tryz.ntmps198
 go_wp2_with fail;refine wp_loop_rounds 1 ?_;rw[rounds_succ];go_wp2_with fail;refine wp_loop_rounds 1 ?_;rw[rounds_succ];go_wp2_with fail
 go_ret
 exact⟨rfl,rfl⟩
theorem cnm (P V X Y c:Nat) (h1:V+Y=X+P*c) (hV:V<P) (h:Y<=X):V=X-Y:=by
 rcases kB c with h0|h0
 ·subst h0;omega
 ·have h6:P*1<=P*c:=jr _ h0;omega
theorem cmm {L L':List Nat}{x c n:Nat}(h:Eh L L' 0 n x c) (hn:L.length=n) (hle:x<=val L):val L'=val L-x:=by
 have h1:=h.sum;rw[jc,JD,kA] at h1;have h2:=kK h.ok;rw[h.len,hn] at h2;exact cnm _ _ _ _ _ h1 h2 hle
theorem rows_at {w:World}{a:Addr}{xs:List Nat}(h:0<xs.length->∃ b off,some a=some ⟨b,off,none⟩/\Row w b off xs):∀ j,j<xs.length->w.cell? (a.add j)=some (u (xs[j]?.getD 0)):=by
 intro j hj;obtain⟨b,off,ha,hr⟩:=h (by omega);injection ha with ha
 subst ha;rw[cdp];exact hr j hj
theorem cpw {w:World}{xa:Option Addr}{xs:List Nat}(h:0<xs.length->∃ b off,xa=some ⟨b,off,none⟩/\Row w b off xs) {w1:World}{N c:Nat}(hb:Below N w w1) (hN:w.heap.size<=N) (hc:w.heap.size<=c) :
 0<xs.length->∃ b off,xa=some ⟨b,off,none⟩/\b≠c/\Row w1 b off xs:=by
 intro hp;obtain⟨b,off,rfl,hr⟩:=h hp;have:=hr.lt hp;exact⟨b,off,rfl,by omega,hr.below hb (by omega)⟩
theorem cdQ (v1 v2:Value) (m n k:Nat) (w:World) (h1:cw w v1 m) (h2:cw w v2 n) (hm:m<B^k) (hnm:n<=m) (hk:(k:Int)<=1073741824) :
 Calls Tryz.prog 176 #[v1,v2] w (Ue w (m-n)):=by
 obtain⟨xs,s1,t1,e1⟩:=h1;obtain⟨ys,s2,t2,e2⟩:=h2;have lx:=cw.len t1 e1 hm;have ly:ys.length<=xs.length:=zO t2 s1.ok (by omega);obtain⟨⟨xa,xc,rfl,hc1,hc2,hr1⟩,ok1⟩:=s1;obtain⟨⟨ya,yc,rfl,hd1,hd2,hr2⟩,ok2⟩:=s2;unfold maxLen at hc2 hd2;rcases xa with _|a
 ·have hx0:xs=[]:=by
   rcases xs with _|⟨x,xs⟩
   ·rfl
   ·obtain⟨b,off,h,_⟩:=hr1 (by simp);cases h
  subst hx0;have hy0:ys=[]:=by simpa using ly
  subst hy0;simp only[val] at e1 e2;subst e1;subst e2;clear hr1 hr2 ok1 ok2 t1 t2 hm hnm lx ly
  go_enter Tryz.func176,Tryz.ntmps176
  go_wp2_with fail;refine(cmf _ _ _).mono ?_;rintro e w' ⟨rfl,rfl⟩;go_wp2_with fail;refine(ZJ none ya 0 yc w).mono ?_;rintro e w' ⟨rfl,rfl⟩;go_wp2_with fail;refine(zy [] _ _ (Sl.nil w) (by simp)).mono ?_;rintro e w' ⟨v,rfl,hnat,rfl⟩;have HN:=ca hnat;clear hnat;go_wp2_with fail
  go_ret
  exact⟨v,rfl,HN.out,cu _ _⟩
 ·have HR1:=ca (rows_at hr1);have HR2:=ca hr2;have HO1:=ca ok1;have HO2:=ca ok2;have HE1:=ca e1;have HE2:=ca e2;clear hr1 hr2 ok1 ok2 e1 e2 t1 t2 hm
  go_enter Tryz.func176,Tryz.ntmps176
  go_wp2_with fail;refine(ZC a xs xc w (by omega) HR1.out).mono ?_;rintro e w1 ⟨b,cap,rfl,hb,hB1,hcap1,hcap2,hbel⟩;have HB1:=ca hB1;have HBel:=ca hbel;clear hB1 hbel;go_wp2_with fail;refine(cag b 0 xs.length cap yc xs ys ya w1 HB1.out (by omega) ly (by omega) HO1.out HO2.out (cpw HR2.out HBel.out (cb _) hb)).mono ?_;rintro e w3 ⟨c,L',hc,rfl,hO3,hB3,hA⟩;have hv:=cmm hA rfl (by rw[HE1.out,HE2.out];exact hnm);have hlen:L'.length=xs.length:=hA.len;have hs:=Sl.of_blk hB3 hA.ok 0 xs.length cap (by omega) hcap1 hcap2;rw[uB,← hlen,yx,hlen] at hs;have hb3:Below w.heap.size w w3:=HBel.out.trans (hO3.below hb);rw[HE1.out,HE2.out] at hv;have HS:=ca hs;have HB3:=ca hb3;have HV:=ca hv;have HLen:=ca hlen;clear hs hb3 hv hlen hA hB3 hO3;go_wp2_with fail;refine(zy L' _ _ HS.out (by rw[HLen.out];omega)).mono ?_;rintro e w4 ⟨v,rfl,hnat,rfl⟩;have HN:=ca hnat;clear hnat;go_wp2_with fail
  go_ret
  refine⟨v,rfl,?_,HB3.out⟩;have:=HN.out;rw[HV.out] at this;exact this
theorem cpa (P f m g n V1 V2 c c2:Nat) (h1:V1+P*c=f*m) (h2:V2+g*n=V1+P*c2) (hle:g*n<=f*m) (hD:f*m-g*n<P) (hV:V2<P):V2=f*m-g*n:=by
 have h3:V2+P*c=(f*m-g*n)+P*c2:=by omega
 exact(Zj h3 hV hD).1
theorem CP (v1 v2:Value) (f g m n k:Nat) (w:World) (h1:cw w v1 m) (h2:cw w v2 n) (hf:f<B) (hg:g<B) (hle:g*n<=f*m)
 (hD:f*m-g*n<=m\/f*m-g*n<=n) (hm:m<B^k) (hn:n<B^k) (hk:(k:Int)<=1073741824) :
 Calls Tryz.prog 193 #[u f,v1,u g,v2] w (Ue w (f*m-g*n)):=by
 obtain⟨xs,s1,t1,rfl⟩:=h1;obtain⟨ys,s2,t2,rfl⟩:=h2;have lx:=cw.len t1 rfl hm;have ly:=cw.len t2 rfl hn;obtain⟨⟨xa,xc,rfl,hc1,hc2,hr1⟩,ok1⟩:=s1;obtain⟨⟨ya,yc,rfl,hd1,hd2,hr2⟩,ok2⟩:=s2;unfold maxLen at hc2 hd2;obtain⟨N,hN⟩:∃ N,N=max xs.length ys.length:=⟨_,rfl⟩;have hNx:xs.length<=N:=by omega
 have hNy:ys.length<=N:=by omega
 have hDN:f*val xs-g*val ys<B^N:=by
  have h1:=kK ok1;have h2:=kK ok2;have h3:B^xs.length<=B^N:=jW ke hNx;have h4:B^ys.length<=B^N:=jW ke hNy;omega
 have hNmax:(N:Int)<=1073741824:=by omega
 have HN:=ca hN;have HDN:=ca hDN;have HLE:=ca hle;have HR1:=ca hr1;have HR2:=ca hr2;have HO1:=ca ok1;have HO2:=ca ok2;clear hr1 hr2 ok1 ok2 t1 t2 hm hn hN hD hDN hle;obtain⟨i0,hi,hz0,hz1,hz2⟩:=Wb GY
 go_enter Tryz.func193,Tryz.ntmps193
 go_wp2_with (at_make;refine UY _ rfl _ _ 146 rfl w.heap.size 31 i0 (.int .u64 0) 1 Tryz.underlying146 hi hz0 hz1 _ _ _ _ N rfl rfl (by have:=HN.out;omega) (by have:=HN.out;omega) ?qb2 ?qb3 ?qb4 ?_)
 case qb2=>rw[hz2];omega
 case qb3=>unfold maxLen;omega
 case qb4=>exact cb _
 intro w1 hown hgrow;obtain⟨hB1,hbel⟩:=GL hown hgrow;clear hown hgrow hi hz0 hz1 hz2;have HB1:=ca hB1;have HBel:=ca hbel;clear hB1 hbel;go_wp2_with fail;refine(EV w.heap.size 0 N _ _ (List.replicate N 0) xs xa f w1 HB1.out (by simp) hNx (by omega) hf (Ok.replicate _) HO1.out (YO HR1.out HBel.out (cb _))).mono ?_;rintro e w2 ⟨rfl,hO2,c,L1,hB2,hA1⟩;have HB2:=ca hB2;have HO2':=ca hO2;have HA1:=ca hA1;have HBel2:=ca (HBel.out.trans (hO2.below (cb _)));have hl1:L1.length=N:=by rw[hA1.len];simp
 have HL1:=ca hl1;clear hB2 hO2 hA1 hl1;go_wp2_with fail;refine(Eu w.heap.size 0 N _ _ L1 ys ya g w2 HB2.out (by have:=HL1.out;omega) hNy (by omega) hg HA1.out.ok HO2.out (YO HR2.out HBel2.out (cb _))).mono ?_;rintro e w3 ⟨c2,L2,hc2',rfl,hO3,hB3,hA2⟩;have hl2:L2.length=N:=by rw[hA2.len,HL1.out]
 have hv:val L2=f*val xs-g*val ys:=by
  have s1:=HA1.out.sum;have s2:=hA2.sum;rw[EM,JD,kA,jc,jc] at s1;rw[JD,kA,jc] at s2;have hV:=kK hA2.ok;rw[hl2] at hV;exact cpa _ _ _ _ _ _ _ _ _ s1 s2 HLE.out HDN.out hV
 have hs:=Sl.of_blk hB3 hA2.ok 0 N N (by omega) (cb _) (by unfold maxLen;omega);rw[uB,← hl2,yx,hl2] at hs;have HS:=ca hs;have HV:=ca hv;have HL2:=ca hl2;have HB3:=ca (HBel2.out.trans (hO3.below (cb _)));clear hs hv hl2 hB3 hO3 hA2;go_wp2_with fail;refine(zy L2 _ _ HS.out (by rw[HL2.out];omega)).mono ?_;rintro e w4 ⟨v,rfl,hnat,rfl⟩;rw[HV.out] at hnat;have HNat:=ca hnat;clear hnat;go_wp2_with fail
 go_ret
 exact⟨v,rfl,HNat.out,HB3.out⟩
end Go.Proofs.YtgdnkbajagfijaaGreatDoor
