/- Part 2. -/
import Derived.Shelf.Spec.TrailingZeros
import Derived.Shelf.Small.Bits
import Derived.Shelf.Small.Wraps
import Derived.Shelf.Strconv.Itoa0
import Derived.Ground.MpProg
import Derived.Shelf.Pu.ParseUintPublic10
import Derived.Shelf.Pu.ErrVarParseUint
import Derived.Shelf.Strings.Search1
import Derived.Shelf.Strings.Search2
import Derived.Shelf.Strings.Cut
import Derived.Shelf.LaysM
import Derived.Shelf.Strings.Shaped
import Derived.Shelf.Strings.Prefix
import Derived.Shelf.Bits.Mul64
import Derived.Test.YtolcmngcebnjdaaGreatDoorProg
import Derived.Test.YtolcmngcebnjdaaGreatDoorW1
import Derived.Laws.MathBits
import Derived.Test.YtolcmngcebnjdaaGreatDoorCards
import Derived.Test.YtolcmngcebnjdaaGreatDoorTie
import Derived.ProofKit
import Derived.OpenShut
import Derived.LaidMore
import Derived.LaidLaws
import Derived.Lib.LaidTab
import Derived.Shelf.Vars
import Derived.Deep.DeepHandedRow
import Derived.Deep.DeepWitnessRowRef
set_option linter.all false
open Int (natCast_ediv natCast_mul)
open Go.IntKind (wrap_u64)
open Go.Lib (hid)
open Nat (div_add_mod div_le_self div_lt_of_lt_mul eq_zero_or_pos gcd_comm le_refl le_trans lt_of_le_of_lt lt_of_lt_of_le lt_or_ge min_eq_left mod_eq_of_lt mul_assoc mul_comm mul_le_mul_left mul_le_mul_right pow_add pow_pos pow_succ)

namespace Go.Proofs
open Go.Shelf
def Tryz.lays134_ren:Go.Shelf.Ren:=⟨fun|134=>212|129=>177|n=>n,fun|53=>36|3=>3|4=>4|46=>156|5=>5|9=>9|n=>n,fun|n=>n⟩
theorem Tryz.lays134:Go.Proofs.Lays.n134 Tryz.prog Tryz.lays134_ren:={
 mixed:=by kernel_rfl
 f129:=Tryz.func177.trans (congrArg some (by kernel_rfl))
 f134:=Tryz.func212.trans (congrArg some (by kernel_rfl))
 t3:=Tryz.underlying3
 a3:=Tryz.isAgg3
 z3:=Tryz.sizeOf3
 v3:=Tryz.zeroValue3
 t4:=Tryz.underlying4
 a4:=Tryz.isAgg4
 z4:=Tryz.sizeOf4
 v4:=Tryz.zeroValue4
 t5:=Tryz.underlying5
 a5:=Tryz.isAgg5
 z5:=Tryz.sizeOf5
 v5:=Tryz.zeroValue5
 t9:=Tryz.underlying9
 a9:=Tryz.isAgg9
 z9:=Tryz.sizeOf9
 v9:=Tryz.zeroValue9
 t46:=Tryz.underlying156
 a46:=Tryz.isAgg156
 z46:=Tryz.sizeOf156
 v46:=Tryz.zeroValue156
 t53:=Tryz.underlying36
 a53:=Tryz.isAgg36
 z53:=Tryz.sizeOf36
 v53:=Tryz.zeroValue36 }
theorem Tryz.bits_LeadingZeros64 (x:Int) (w:World) (h0:0<=x) (h1:x<=18446744073709551615) :
 Calls Tryz.prog 212 #[.int .u64 x] w fun e w'=>e=.returned (.int .i64 (64-(Lib.bitLen x.toNat:Int)))/\w'=w:=Any.bits_LeadingZeros64 Tryz.lays134 x w h0 h1
def Tryz.lays103_ren:Go.Shelf.Ren:=⟨fun|103=>111|210=>156|206=>198|n=>n,fun|9=>9|4=>4|24=>178|3=>3|n=>n,fun|n=>n⟩
theorem Tryz.lays103:Go.Proofs.Lays.n103 Tryz.prog Tryz.lays103_ren:={
 mixed:=by kernel_rfl
 f103:=Tryz.func111.trans (congrArg some (by kernel_rfl))
 f206:=Tryz.func198.trans (congrArg some (by kernel_rfl))
 f210:=Tryz.func156.trans (congrArg some (by kernel_rfl))
 t3:=Tryz.underlying3
 a3:=Tryz.isAgg3
 z3:=Tryz.sizeOf3
 v3:=Tryz.zeroValue3
 t4:=Tryz.underlying4
 a4:=Tryz.isAgg4
 z4:=Tryz.sizeOf4
 v4:=Tryz.zeroValue4
 t9:=Tryz.underlying9
 a9:=Tryz.isAgg9
 z9:=Tryz.sizeOf9
 v9:=Tryz.zeroValue9
 t24:=Tryz.underlying178
 a24:=Tryz.isAgg178
 z24:=Tryz.sizeOf178
 v24:=Tryz.zeroValue178 }
open Go.RowKit in
theorem Tryz.strings_CutPrefix (s p:ByteArray) (w:World) :
 Calls Tryz.prog 111 #[.string s,.string p] w fun e w'=>e=.returned (.tuple #[.string ⟨(Lib.trimPrefix s.data.toList p.data.toList).toArray⟩,.bool (Lib.hasPrefix s.data.toList p.data.toList)])/\w'=w:=Any.strings_CutPrefix Tryz.lays103 s p w
def Tryz.lays122_ren:Go.Shelf.Ren:=⟨fun|122=>203|215=>229|n=>n,fun|3=>3|4=>4|n=>n,fun|n=>n⟩
theorem Tryz.lays122:Go.Proofs.Lays.n122 Tryz.prog Tryz.lays122_ren:={
 mixed:=by kernel_rfl
 f122:=Tryz.func203.trans (congrArg some (by kernel_rfl))
 f215:=Tryz.func229.trans (congrArg some (by kernel_rfl))
 t3:=Tryz.underlying3
 a3:=Tryz.isAgg3
 z3:=Tryz.sizeOf3
 v3:=Tryz.zeroValue3
 t4:=Tryz.underlying4
 a4:=Tryz.isAgg4
 z4:=Tryz.sizeOf4
 v4:=Tryz.zeroValue4 }
open Go.RowKit in
theorem Tryz.cmp_Compare_int (x y:Int) (w:World) :
 Calls Tryz.prog 203 #[.int .i64 x,.int .i64 y] w fun e w'=>e=.returned (.int .i64 (Lib.compareInt x y))/\w'=w:=Any.cmp_Compare_int Tryz.lays122 x y w
def Tryz.laysPu14_ren:Go.Shelf.Ren:=⟨fun|14=>158|16=>200|17=>201|19=>223|20=>224|21=>225|22=>226|23=>227|24=>228|25=>243|27=>245|26=>244|28=>249|29=>251|30=>252|31=>253|32=>254|33=>255|35=>177|34=>256|36=>257|37=>258|38=>259|39=>260|40=>178|n=>n,fun|9=>9|3=>3|22=>36|24=>232|25=>233|4=>4|34=>295|5=>5|36=>156|37=>106|0=>0|39=>297|21=>21|44=>313|47=>318|50=>321|48=>319|2=>2|52=>324|55=>326|59=>329|60=>252|20=>20|61=>330|65=>331|66=>282|67=>123|n=>n,fun|0=>4|1=>5|2=>6|3=>7|4=>0|n=>n⟩
theorem Tryz.laysPu14:Go.Proofs.LaysPu.n14 Tryz.prog Tryz.laysPu14_ren:={
 mixed:=by kernel_rfl
 f14:=Tryz.func158.trans (congrArg some (by kernel_rfl))
 f16:=Tryz.func200.trans (congrArg some (by kernel_rfl))
 f17:=Tryz.func201.trans (congrArg some (by kernel_rfl))
 f19:=Tryz.func223.trans (congrArg some (by kernel_rfl))
 f20:=Tryz.func224.trans (congrArg some (by kernel_rfl))
 f21:=Tryz.func225.trans (congrArg some (by kernel_rfl))
 f22:=Tryz.func226.trans (congrArg some (by kernel_rfl))
 f23:=Tryz.func227.trans (congrArg some (by kernel_rfl))
 f24:=Tryz.func228.trans (congrArg some (by kernel_rfl))
 f25:=Tryz.func243.trans (congrArg some (by kernel_rfl))
 f26:=Tryz.func244.trans (congrArg some (by kernel_rfl))
 f27:=Tryz.func245.trans (congrArg some (by kernel_rfl))
 f28:=Tryz.func249.trans (congrArg some (by kernel_rfl))
 f29:=Tryz.func251.trans (congrArg some (by kernel_rfl))
 f30:=Tryz.func252.trans (congrArg some (by kernel_rfl))
 f31:=Tryz.func253.trans (congrArg some (by kernel_rfl))
 f32:=Tryz.func254.trans (congrArg some (by kernel_rfl))
 f33:=Tryz.func255.trans (congrArg some (by kernel_rfl))
 f34:=Tryz.func256.trans (congrArg some (by kernel_rfl))
 f35:=Tryz.func177.trans (congrArg some (by kernel_rfl))
 f36:=Tryz.func257.trans (congrArg some (by kernel_rfl))
 f37:=Tryz.func258.trans (congrArg some (by kernel_rfl))
 f38:=Tryz.func259.trans (congrArg some (by kernel_rfl))
 f39:=Tryz.func260.trans (congrArg some (by kernel_rfl))
 f40:=Tryz.func178.trans (congrArg some (by kernel_rfl))
 t0:=Tryz.underlying0
 a0:=Tryz.isAgg0
 z0:=Tryz.sizeOf0
 v0:=Tryz.zeroValue0
 i0:=by kernel_rfl
 t2:=Tryz.underlying2
 a2:=Tryz.isAgg2
 z2:=Tryz.sizeOf2
 v2:=Tryz.zeroValue2
 i2:=by kernel_rfl
 t3:=Tryz.underlying3
 a3:=Tryz.isAgg3
 z3:=Tryz.sizeOf3
 v3:=Tryz.zeroValue3
 i3:=by kernel_rfl
 t4:=Tryz.underlying4
 a4:=Tryz.isAgg4
 z4:=Tryz.sizeOf4
 v4:=Tryz.zeroValue4
 i4:=by kernel_rfl
 t5:=Tryz.underlying5
 a5:=Tryz.isAgg5
 z5:=Tryz.sizeOf5
 v5:=Tryz.zeroValue5
 i5:=by kernel_rfl
 t9:=Tryz.underlying9
 a9:=Tryz.isAgg9
 z9:=Tryz.sizeOf9
 v9:=Tryz.zeroValue9
 i9:=by kernel_rfl
 t20:=Tryz.underlying20
 a20:=Tryz.isAgg20
 z20:=Tryz.sizeOf20
 v20:=Tryz.zeroValue20
 i20:=by kernel_rfl
 t21:=Tryz.underlying21
 a21:=Tryz.isAgg21
 z21:=Tryz.sizeOf21
 v21:=Tryz.zeroValue21
 i21:=by kernel_rfl
 t22:=Tryz.underlying36
 a22:=Tryz.isAgg36
 z22:=Tryz.sizeOf36
 v22:=Tryz.zeroValue36
 i22:=by kernel_rfl
 t24:=Tryz.underlying232
 a24:=Tryz.isAgg232
 z24:=Tryz.sizeOf232
 v24:=Tryz.zeroValue232
 i24:=by kernel_rfl
 t25:=Tryz.underlying233
 a25:=Tryz.isAgg233
 z25:=Tryz.sizeOf233
 v25:=Tryz.zeroValue233
 i25:=by kernel_rfl
 t34:=Tryz.underlying295
 a34:=Tryz.isAgg295
 z34:=Tryz.sizeOf295
 v34:=Tryz.zeroValue295
 i34:=by kernel_rfl
 c34:=by kernel_rfl
 t36:=Tryz.underlying156
 a36:=Tryz.isAgg156
 z36:=Tryz.sizeOf156
 v36:=Tryz.zeroValue156
 i36:=by kernel_rfl
 t37:=Tryz.underlying106
 a37:=Tryz.isAgg106
 z37:=Tryz.sizeOf106
 v37:=Tryz.zeroValue106
 i37:=by kernel_rfl
 t39:=Tryz.underlying297
 a39:=Tryz.isAgg297
 z39:=Tryz.sizeOf297
 v39:=Tryz.zeroValue297
 i39:=by kernel_rfl
 t44:=Tryz.underlying313
 a44:=Tryz.isAgg313
 z44:=Tryz.sizeOf313
 v44:=Tryz.zeroValue313
 i44:=by kernel_rfl
 t47:=Tryz.underlying318
 a47:=Tryz.isAgg318
 z47:=Tryz.sizeOf318
 v47:=Tryz.zeroValue318
 i47:=by kernel_rfl
 t48:=Tryz.underlying319
 a48:=Tryz.isAgg319
 z48:=Tryz.sizeOf319
 v48:=Tryz.zeroValue319
 i48:=by kernel_rfl
 t50:=Tryz.underlying321
 a50:=Tryz.isAgg321
 z50:=Tryz.sizeOf321
 v50:=Tryz.zeroValue321
 i50:=by kernel_rfl
 t52:=Tryz.underlying324
 a52:=Tryz.isAgg324
 z52:=Tryz.sizeOf324
 v52:=Tryz.zeroValue324
 i52:=by kernel_rfl
 t55:=Tryz.underlying326
 a55:=Tryz.isAgg326
 z55:=Tryz.sizeOf326
 v55:=Tryz.zeroValue326
 i55:=by kernel_rfl
 t59:=Tryz.underlying329
 a59:=Tryz.isAgg329
 z59:=Tryz.sizeOf329
 v59:=Tryz.zeroValue329
 i59:=by kernel_rfl
 t60:=Tryz.underlying252
 a60:=Tryz.isAgg252
 z60:=Tryz.sizeOf252
 v60:=Tryz.zeroValue252
 i60:=by kernel_rfl
 t61:=Tryz.underlying330
 a61:=Tryz.isAgg330
 z61:=Tryz.sizeOf330
 t65:=Tryz.underlying331
 a65:=Tryz.isAgg331
 z65:=Tryz.sizeOf331
 v65:=Tryz.zeroValue331
 i65:=by kernel_rfl
 t66:=Tryz.underlying282
 a66:=Tryz.isAgg282
 z66:=Tryz.sizeOf282
 v66:=Tryz.zeroValue282
 i66:=by kernel_rfl
 t67:=Tryz.underlying123
 a67:=Tryz.isAgg123
 z67:=Tryz.sizeOf123
 v67:=Tryz.zeroValue123
 i67:=by kernel_rfl
 g0:=by kernel_rfl
 m0:=by kernel_rfl
 g1:=by kernel_rfl
 m1:=by kernel_rfl
 g2:=by kernel_rfl
 m2:=by kernel_rfl
 g3:=by kernel_rfl
 m3:=by kernel_rfl
 g4:=by kernel_rfl
 m4:=by kernel_rfl }
open Go.RowKit in
theorem Tryz.strconv_ParseUint_10_at64_ok (s:ByteArray) (hmax:s.size<=9223372036854775806) (u:Nat) (h:Lib.parseUintB 64 s.data.toList=.ok u) (w:World) :
 Calls Tryz.prog 158 #[.string s,.int .i64 10,.int .i64 64] w fun e w'=>e=.returned (.tuple #[.int .u64 u,.nilIface])/\(w'=w\/w'=Lib.bytesWorld w 5 s):=Any.strconv_ParseUint_10_at64_ok Tryz.laysPu14 s hmax u h w
open Go.RowKit in
theorem Tryz.strconv_ParseUint_10_at64_syntax (s:ByteArray) (hlim:s.size<=281474976710656) (h:Lib.parseUintB 64 s.data.toList=Lib.parseUintB 64 []) (ev:Value) (w:World) (hv:w.cell? ⟨4,0,none⟩=some ev) (hev:ev=.nilIface\/∃ te pe,ev=.iface te pe) :
 Calls Tryz.prog 158 #[.string s,.int .i64 10,.int .i64 64] w fun e w'=>∃ N,e=.returned (.tuple #[.int .u64 0,.iface 297 (.pointer (some ⟨N,0,none⟩))])/\w.heap.size<=N/\w'.heap[N]?=some (.cells #[.string ⟨#[80,97,114,115,101,85,105,110,116]⟩,.string s,ev] 313 (0,0))/\Below w.heap.size w w':=Any.strconv_ParseUint_10_at64_syntax Tryz.laysPu14 s hlim (h.trans rfl) ev w hv hev
def Tryz.lays145_ren:Go.Shelf.Ren:=⟨fun|145=>112|220=>157|219=>199|217=>219|225=>220|224=>221|267=>222|266=>241|314=>242|n=>n,fun|9=>9|4=>4|59=>180|3=>3|5=>5|46=>156|146=>309|51=>252|n=>n,fun|1=>1|n=>n⟩
theorem Tryz.lays145:Go.Proofs.Lays.n145 Tryz.prog Tryz.lays145_ren:={
 mixed:=by kernel_rfl
 f145:=Tryz.func112.trans (congrArg some (by kernel_rfl))
 f217:=Tryz.func219.trans (congrArg some (by kernel_rfl))
 f219:=Tryz.func199.trans (congrArg some (by kernel_rfl))
 f220:=Tryz.func157.trans (congrArg some (by kernel_rfl))
 f224:=Tryz.func221.trans (congrArg some (by kernel_rfl))
 f225:=Tryz.func220.trans (congrArg some (by kernel_rfl))
 f266:=Tryz.func241.trans (congrArg some (by kernel_rfl))
 f267:=Tryz.func222.trans (congrArg some (by kernel_rfl))
 f314:=Tryz.func242.trans (congrArg some (by kernel_rfl))
 t3:=Tryz.underlying3
 a3:=Tryz.isAgg3
 z3:=Tryz.sizeOf3
 v3:=Tryz.zeroValue3
 t4:=Tryz.underlying4
 a4:=Tryz.isAgg4
 z4:=Tryz.sizeOf4
 v4:=Tryz.zeroValue4
 t5:=Tryz.underlying5
 a5:=Tryz.isAgg5
 z5:=Tryz.sizeOf5
 v5:=Tryz.zeroValue5
 t9:=Tryz.underlying9
 a9:=Tryz.isAgg9
 z9:=Tryz.sizeOf9
 v9:=Tryz.zeroValue9
 t46:=Tryz.underlying156
 a46:=Tryz.isAgg156
 z46:=Tryz.sizeOf156
 v46:=Tryz.zeroValue156
 t51:=Tryz.underlying252
 a51:=Tryz.isAgg252
 z51:=Tryz.sizeOf252
 v51:=Tryz.zeroValue252
 t59:=Tryz.underlying180
 a59:=Tryz.isAgg180
 z59:=Tryz.sizeOf180
 v59:=Tryz.zeroValue180
 t146:=Tryz.underlying309
 a146:=Tryz.isAgg309
 z146:=Tryz.sizeOf309
 v146:=Tryz.zeroValue309
 g1:=by kernel_rfl }
open Go.RowKit Go.Lib in
theorem Tryz.strings_Cut (s sep:ByteArray) (m:Int) (w:World) (hs:s.size<4294967281) (hm:w.cell? ⟨1,0,none⟩=some (.int .i64 m)) :
 Calls Tryz.prog 112 #[.string s,.string sep] w fun e w'=>e=.returned (.tuple #[.string ⟨(Lib.cut s.data.toList sep.data.toList).1.toArray⟩,.string ⟨(Lib.cut s.data.toList sep.data.toList).2.1.toArray⟩,.bool (Lib.cut s.data.toList sep.data.toList).2.2])/\∃ n,w'=w.drewN n:=Any.strings_Cut Tryz.lays145 s sep m w hs hm
def Tryz.lays264_ren:Go.Shelf.Ren:=⟨fun|264=>163|n=>n,fun|53=>36|46=>156|n=>n,fun|n=>n⟩
theorem Tryz.lays264:Go.Proofs.Lays.n264 Tryz.prog Tryz.lays264_ren:={
 mixed:=by kernel_rfl
 f264:=Tryz.func163.trans (congrArg some (by kernel_rfl))
 t46:=Tryz.underlying156
 a46:=Tryz.isAgg156
 z46:=Tryz.sizeOf156
 v46:=Tryz.zeroValue156
 t53:=Tryz.underlying36
 a53:=Tryz.isAgg36
 z53:=Tryz.sizeOf36
 v53:=Tryz.zeroValue36 }
open Go.RowKit Go.Lib in
theorem Tryz.bits_Mul64 (x y:Nat) (hx:x<18446744073709551616) (hy:y<18446744073709551616) (w:World) :
 Calls Tryz.prog 163 #[.int .u64 x,.int .u64 y] w fun e w'=>e=.returned (.tuple #[.int .u64 ((x*y/18446744073709551616:Nat):Int),.int .u64 ((x*y%18446744073709551616:Nat):Int)])/\w'=w:=Any.bits_Mul64 Tryz.lays264 x y hx hy w
def Tryz.lays7n29_ren:Go.Shelf.Ren:=⟨fun|29=>178|n=>n,fun|22=>36|3=>3|4=>4|25=>156|54=>282|0=>0|5=>5|n=>n,fun|1=>0|n=>n⟩
theorem Tryz.lays7n29:Go.Proofs.Lays7.n29 Tryz.prog Tryz.lays7n29_ren:={
 mixed:=by kernel_rfl
 f29:=Tryz.func178.trans (congrArg some (by kernel_rfl))
 t0:=Tryz.underlying0
 a0:=Tryz.isAgg0
 z0:=Tryz.sizeOf0
 v0:=Tryz.zeroValue0
 i0:=by kernel_rfl
 t3:=Tryz.underlying3
 a3:=Tryz.isAgg3
 z3:=Tryz.sizeOf3
 v3:=Tryz.zeroValue3
 i3:=by kernel_rfl
 t4:=Tryz.underlying4
 a4:=Tryz.isAgg4
 z4:=Tryz.sizeOf4
 v4:=Tryz.zeroValue4
 i4:=by kernel_rfl
 t5:=Tryz.underlying5
 a5:=Tryz.isAgg5
 z5:=Tryz.sizeOf5
 v5:=Tryz.zeroValue5
 i5:=by kernel_rfl
 t22:=Tryz.underlying36
 a22:=Tryz.isAgg36
 z22:=Tryz.sizeOf36
 v22:=Tryz.zeroValue36
 i22:=by kernel_rfl
 t25:=Tryz.underlying156
 a25:=Tryz.isAgg156
 z25:=Tryz.sizeOf156
 v25:=Tryz.zeroValue156
 i25:=by kernel_rfl
 t54:=Tryz.underlying282
 a54:=Tryz.isAgg282
 z54:=Tryz.sizeOf282
 g1:=by kernel_rfl }
open Go.RowKit Go.Lib in
theorem Tryz.bits_TrailingZeros64 (x:Nat) (hx:x<18446744073709551616) (w:World) (hT:x≠0->TabAt 0 Lib.deBruijn64tab w) :
 Calls Tryz.prog 178 #[.int .u64 x] w fun e w'=>e=.returned (.int .i64 (Lib.ctz 64 x))/\w'=w:=Any7.bits_TrailingZeros64 Tryz.lays7n29 x hx w hT
end Go.Proofs

namespace Go.Proofs.YtolcmngcebnjdaaGreatDoor
open Go Go.RowKit Go.Proofs Lim
theorem Yo:B=2^64:=by decide
def lz (y:Nat):Nat:=64-Lib.bitLen y
theorem bitLen_le64 {y:Nat}(hy:y<B):Lib.bitLen y<=64:=by
 have:=Any.bitLen_le64 (y:Int) (by omega) (by unfold B at hy;omega);simpa using this
theorem Zj (y:Nat) (hy:y<B) (w:World):Calls Tryz.prog 212 #[u y] w fun e w'=>e=.returned (.int .i64 (lz y:Nat))/\w=w':=by
 refine(Tryz.bits_LeadingZeros64 y w (by omega) (by unfold B at hy;omega)).mono ?_;rintro e w' ⟨rfl,rfl⟩;refine⟨?_,rfl⟩;have h:=bitLen_le64 hy;unfold lz;rw[Int.toNat_natCast,show (64-(Lib.bitLen y:Int))=((64-Lib.bitLen y:Nat):Int) from by omega]
theorem Ju:∀ (f x:Nat),x<2^f->x<2^Lib.bitLenAux f x/\(x≠0->2^(Lib.bitLenAux f x-1)<=x)
 |0,x,h=>by
  have:x=0:=by simpa using h
  subst this;simp [Lib.bitLenAux]
 |f+1,x,h=>by
  unfold Lib.bitLenAux;split
  ·rename_i h0;subst h0;simp
  ·rename_i h0;have hx:x/2<2^f:=by rw[pow_succ] at h;omega
   obtain⟨h1,h2⟩:=Ju f (x/2) hx;have hz:x/2=0->Lib.bitLenAux f (x/2)=0:=fun e=>by rw[e];cases f<;>simp [Lib.bitLenAux]
   generalize Lib.bitLenAux f (x/2)=n at *;refine⟨by rw[Nat.add_comm,pow_succ];omega,fun _=>?_⟩;rcases eq_zero_or_pos n with hn|hn
   ·subst hn;simp;omega
   ·have h3:=h2 (fun e=>by have:=hz e;omega);rw[show 1+n-1=(n-1)+1 from by omega,pow_succ];omega
theorem ccn {x:Nat}(h:x<B):x<2^Lib.bitLen x/\(x≠0->2^(Lib.bitLen x-1)<=x):=Ju 64 x (by rw[← Yo];exact h)
theorem ccb {y:Nat}(h0:0<y) (hy:y<B):lz y<=63/\y*2^lz y<B/\B<=2*(y*2^lz y):=by
 have h:=bitLen_le64 hy;obtain⟨h1,h2⟩:=ccn hy;have h3:=h2 (by omega);have hb:1<=Lib.bitLen y:=by
  rcases eq_zero_or_pos (Lib.bitLen y) with e|e
  ·rw[e] at h1;simp at h1;omega
  ·exact e
 unfold lz;generalize Lib.bitLen y=n at *;have e1:2^n*2^(64-n)=B:=by rw[← pow_add,Yo];congr 1;omega
 have e2:2*2^(n-1)=2^n:=by rw[mul_comm,← pow_succ];congr 1;omega
 have hp:0<2^(64-n):=pow_pos (by omega);refine⟨by omega,?_,?_⟩
 ·rw[← e1];exact(Nat.mul_lt_mul_right hp).2 h1
 ·rw[← e1,← e2,mul_assoc];exact mul_le_mul_left _ (mul_le_mul_right _ h3)
theorem cav (x s:Nat) (hs:s<=64):x*2^s=x/2^(64-s)*B+x*2^s%B:=by
 have e1:2^(64-s)*2^s=B:=by rw[← pow_add,Yo];congr 1;omega
 have h:=div_add_mod (x*2^s) B;have e2:x*2^s/B=x/2^(64-s):=by rw[← e1,Nat.mul_div_mul_right _ _ (pow_pos (by omega))]
 rw[e2] at h;rw[mul_comm (x/2^(64-s)) B];omega
theorem ccG {x s:Nat}(hx:x<B) (hs:s<=64):x/2^(64-s)<2^s:=by
 have e1:2^(64-s)*2^s=B:=by rw[← pow_add,Yo];congr 1;omega
 exact div_lt_of_lt_mul (by omega)
theorem Cu (x s:Nat):IntKind.u64.wrap ((x:Int)*2^s)=((x*2^s%B:Nat):Int):=by
 rw[wrap_u64];unfold B;rw[Int.natCast_emod,natCast_mul,Int.natCast_pow];rfl
theorem Cq (x s:Nat):(x:Int)/2^s=((x/2^s:Nat):Int):=by
 rw[natCast_ediv,Int.natCast_pow];rfl
theorem cfo {a b s:Nat}(hb:b<2^s) (h:a*2^s+b<B):bits .or .u64 ((a*2^s:Nat):Int) (b:Int)=((a*2^s+b:Nat):Int):=by
 rw[bits_or_u64_nat _ _ (by unfold B at h;omega) (by unfold B at h;omega)];congr 1;rw[← Nat.shiftLeft_eq,Nat.shiftLeft_add_eq_or_of_lt hb]
theorem or_add' {a b s:Nat}(hb:b<2^s) (h:a*2^s+b<B):bits .or .u64 (b:Int) ((a*2^s:Nat):Int)=((a*2^s+b:Nat):Int):=by
 rw[bits_or_u64_nat _ _ (by unfold B at h;omega) (by unfold B at h;omega)];congr 1;rw[Nat.or_comm,← Nat.shiftLeft_eq,Nat.shiftLeft_add_eq_or_of_lt hb]
def H:Nat:=4294967296
theorem HH:H*H=B:=by decide
theorem cdZ:0<H:=by decide
theorem ceg {x:Nat}(h:x<B):bits .and .u64 (x:Int) 4294967295=((x%H:Nat):Int):=by
 rw[and_low32 _ (by omega) (by unfold B at h;omega)];unfold H;omega
theorem cdM (x:Nat):(x:Int)/4294967296=((x/H:Nat):Int):=by unfold H;omega
def tz (x:Nat):Nat:=Lib.ctz 64 x
theorem cc {x:Nat}(h0:0<x) (hx:x<B):(∃ m,x=2^tz x*(2*m+1))/\tz x<64:=by
 obtain⟨m,hm,hk⟩:=Lib.ctzFrom_spec 64 x h0 (by rw[← Yo];exact hx);have e:tz x=Lib.ctzFrom 64 x:=by unfold tz Lib.ctz;rw[if_neg (by omega)]
 rw[e];exact⟨⟨m,hm⟩,hk⟩
theorem zq {x a m k:Nat}(h:x=2^a*(2*m+1)):2^k ∣ x↔k<=a:=by
 constructor
 ·intro hd;rcases lt_or_ge a k with hlt|hge
  ·exfalso;have h1:2^(a+1) ∣ 2^k:=Nat.pow_dvd_pow 2 hlt;have h2:2^(a+1) ∣ x:=Nat.dvd_trans h1 hd;rw[h,pow_succ] at h2;have h3:2 ∣ 2*m+1:=Nat.dvd_of_mul_dvd_mul_left (pow_pos (by omega)) h2;omega
  ·exact hge
 ·intro hle;rw[h];exact Nat.dvd_mul_right_of_dvd (Nat.pow_dvd_pow 2 hle) _
theorem WU (k x y:Nat):2^k ∣ x||| y↔2^k ∣ x/\2^k ∣ y:=by
 rw[Nat.dvd_iff_mod_eq_zero,Nat.dvd_iff_mod_eq_zero,Nat.dvd_iff_mod_eq_zero,Nat.or_mod_two_pow,Nat.or_eq_zero_iff]
theorem or_lt {x y:Nat}(hx:x<B) (hy:y<B):x||| y<B:=by
 rw[Yo] at *;exact Nat.or_lt_two_pow hx hy
theorem tz_or {x y:Nat}(h0:0<x) (hx:x<B) (k0:0<y) (hy:y<B):tz (x||| y)=min (tz x) (tz y):=by
 obtain⟨⟨m,hm⟩,_⟩:=cc h0 hx;obtain⟨⟨n,hn⟩,_⟩:=cc k0 hy;have hor0:0<x||| y:=by
  rcases eq_zero_or_pos (x||| y) with h|h
  ·rw[Nat.or_eq_zero_iff] at h;omega
  ·exact h
 obtain⟨⟨p,hp⟩,_⟩:=cc hor0 (or_lt hx hy);have h1:=(WU (tz (x||| y)) x y).1 ((zq hp).2 (le_refl _));have h2:=(zq hm).1 h1.1;have h3:=(zq hn).1 h1.2;have h4:=(zq hp).1 ((WU (min (tz x) (tz y)) x y).2 ⟨(zq hm).2 (Nat.min_le_left _ _),(zq hn).2 (Nat.min_le_right _ _)⟩);omega
theorem YQ (m b z:Nat):Nat.gcd (2*m+1) (2^b*z)=Nat.gcd (2*m+1) z:=by
 have h:Nat.Coprime (2^b) (2*m+1):=by
  refine Nat.Coprime.pow_left b ?_;show Nat.gcd 2 (2*m+1)=1;rw[Nat.gcd_rec,Nat.mul_add_mod];rfl
 exact Nat.Coprime.gcd_mul_left_cancel_right z h
theorem cip (a b m n:Nat):Nat.gcd (2^a*(2*m+1)) (2^b*(2*n+1))=Nat.gcd (2*m+1) (2*n+1)*2^min a b:=by
 rcases Nat.le_total a b with h|h
 ·rw[min_eq_left h,show 2^b=2^a*2^(b-a) from by rw[← pow_add];congr 1;omega,mul_assoc,Nat.gcd_mul_left,YQ,mul_comm]
 ·rw[Nat.min_eq_right h,show 2^a=2^b*2^(a-b) from by rw[← pow_add];congr 1;omega,mul_assoc,Nat.gcd_mul_left,gcd_comm,YQ,gcd_comm,mul_comm]
structure Gr (w:World):Prop where
 size:8<=w.heap.size
 tab:TabAt 0 Lib.deBruijn64tab w
 maxLen:∃ m,w.cell? ⟨1,0,none⟩=some (.int .i64 m)
 syn:∃ tp p,w.cell? ⟨4,0,none⟩=some (.iface tp p)
 rng:∃ tp p,w.cell? ⟨5,0,none⟩=some (.iface tp p)
theorem Gr.below {w w':World}{K:Nat}(h:Gr w) (hb:Below K w w') (hK:8<=K):Gr w':=by
 obtain⟨h1,h2,⟨m,h3⟩,⟨t1,p1,h4⟩,⟨t2,p2,h5⟩⟩:=h;refine⟨le_trans h1 hb.size,fun j hj=>?_,⟨m,?_⟩,⟨t1,p1,?_⟩,⟨t2,p2,?_⟩⟩
 ·rw[hb.cell (p:=⟨_,j,none⟩) (lt_of_lt_of_le (show (0:Nat)<8 by decide) hK)];exact h2 j hj
 ·rw[hb.cell (p:=⟨_,0,none⟩) (lt_of_lt_of_le (show (1:Nat)<8 by decide) hK)];exact h3
 ·rw[hb.cell (p:=⟨_,0,none⟩) (lt_of_lt_of_le (show (4:Nat)<8 by decide) hK)];exact h4
 ·rw[hb.cell (p:=⟨_,0,none⟩) (lt_of_lt_of_le (show (5:Nat)<8 by decide) hK)];exact h5
theorem ccf (x:Nat) (hx:x<B) (w:World) (hG:Gr w):Calls Tryz.prog 178 #[u x] w fun e w'=>e=.returned (.int .i64 (tz x:Nat))/\w=w' :=
 (Tryz.bits_TrailingZeros64 x hx w (fun _=>hG.tab)).mono fun _ _ ⟨h,h'⟩=>⟨h,h'.symm⟩
theorem or_u64 {x y:Nat}(hx:x<B) (hy:y<B):bits .or .u64 (x:Int) (y:Int)=((x||| y:Nat):Int) :=
 bits_or_u64_nat _ _ (by unfold B at hx;omega) (by unfold B at hy;omega)
def od (x:Nat):Nat:=x/2^tz x
theorem YN {x:Nat}(h0:0<x) (hx:x<B):∃ m,od x=2*m+1/\x=2^tz x*(2*m+1):=by
 obtain⟨⟨m,hm⟩,_⟩:=cc h0 hx;refine⟨m,?_,hm⟩;unfold od;have hp:0<2^tz x:=pow_pos (by omega)
 conv=>lhs;rw[hm]
 generalize hk:tz x=k at *;have:tz (2^k*(2*m+1))=k:=by rw[← hm,hk]
 rw[this,Nat.mul_div_cancel_left _ hp]
theorem od_le (x:Nat):od x<=x:=div_le_self _ _
theorem gcd_od {x y:Nat}(h0:0<x) (hx:x<B) (k0:0<y) (hy:y<B):Nat.gcd x y=Nat.gcd (od x) y*2^tz (x||| y):=by
 obtain⟨m,hm,ex⟩:=YN h0 hx;obtain⟨n,hn,ey⟩:=YN k0 hy;rw[tz_or h0 hx k0 hy,hm];generalize tz x=a at *;generalize tz y=b at *
 conv=>lhs;rw[ex,ey]
 rw[cip]
 conv=>rhs;rw[ey,YQ]
structure Odd (x y G:Nat):Prop where
 odd:∃ m,x=2*m+1
 gcd:Nat.gcd x y=G
 lx:x<B
 ly:y<B
theorem Odd.step {x y G:Nat}(h:Odd x y G) (hy:0<y):od y<B/\0<od y/\(x<=od y->Odd x (od y-x) G)/\(od y<x->Odd (od y) (x-od y) G):=by
 obtain⟨⟨m,hm⟩,hg,lx,ly⟩:=h;obtain⟨n,hn,ey⟩:=YN hy ly;have hle:=od_le y;have hgo:Nat.gcd x (od y)=G:=by rw[← hg,hm,hn];conv=>rhs;rw[ey,YQ]
 refine⟨by omega,by omega,fun h=>⟨⟨m,hm⟩,?_,lx,by omega⟩,fun h=>⟨⟨n,hn⟩,?_,by omega,by omega⟩⟩
 ·rw[Nat.gcd_sub_self_right h];exact hgo
 ·rw[Nat.gcd_sub_self_right (by omega),gcd_comm];exact hgo
theorem gcd_lt {x y:Nat}(hx:x<B) (hy:y<B):Nat.gcd x y<B:=by
 rcases eq_zero_or_pos x with h|h
 ·subst h;rw[Nat.gcd_zero_left];exact hy
 ·exact lt_of_le_of_lt (Nat.gcd_le_left y h) hx
theorem GY (x y:Nat) (hx:x<B) (hy:y<B) (w:World) (h:x=0\/y=0) :
 Calls Tryz.prog 139 #[u x,u y] w fun e w'=>e=.returned (u (Nat.gcd x y))/\w=w':=by
 have e0:=or_u64 hx hy;have e1:x||| y=Nat.gcd x y:=by
  rcases h with h|h
  ·subst h;simp
  ·subst h;simp
 rw[e1] at e0;generalize hg:Nat.gcd x y=g at *;clear e1 hg;by_cases h0:x=0
 ·have hb:(((x:Nat):Int) == 0)=true:=by subst h0;rfl
  clear h h0
  go_enter Tryz.func139,Tryz.ntmps139
  go_wp2_with fail
  go_ret
  exact⟨rfl,rfl⟩
 ·have hb:(((x:Nat):Int) == 0)=false:=by rw[beq_eq_false_iff_ne];omega
  have hb2:(((y:Nat):Int) == 0)=true:=by rcases h with h|h;exact absurd h h0;subst h;rfl
  clear h h0
  go_enter Tryz.func139,Tryz.ntmps139
  go_wp2_with fail
  go_ret
  exact⟨rfl,rfl⟩
theorem Ya (x y:Nat) (n1:¬ x=1) (n2:¬ y=1) (h0:0<x) (hx:x<B) (k0:0<y) (hy:y<B) (w:World) (hG:Gr w) :
 Calls Tryz.prog 139 #[u x,u y] w fun e w'=>e=.returned (u (Nat.gcd x y))/\w=w':=by
 have hb1:(((x:Nat):Int) == 0)=false:=by rw[beq_eq_false_iff_ne];omega
 have hb2:(((y:Nat):Int) == 0)=false:=by rw[beq_eq_false_iff_ne];omega
 have hb3:(((x:Nat):Int) == 1)=false:=by rw[beq_eq_false_iff_ne];omega
 have hb4:(((y:Nat):Int) == 1)=false:=by rw[beq_eq_false_iff_ne];omega
 clear n1 n2;have e0:=or_u64 hx hy;have hor:=or_lt hx hy;have hgo:=gcd_od h0 hx k0 hy;have hod:=YN h0 hx;have htl:tz (x||| y)<64:=(cc (by
  rcases eq_zero_or_pos (x||| y) with h|h
  ·rw[Nat.or_eq_zero_iff] at h;omega
  ·exact h) hor).2
 have htx:tz x<64:=(cc h0 hx).2;have ex:=Cq x (tz x);rw[show x/2^tz x=od x from rfl] at ex;have hgl:Nat.gcd x y<B:=gcd_lt hx hy;obtain⟨G,hGd⟩:∃ G,G=Nat.gcd (od x) y:=⟨_,rfl⟩;have hO:Odd (od x) y G:=⟨let ⟨m,h,_⟩:=hod;⟨m,h⟩,hGd.symm,lt_of_le_of_lt (od_le x) hx,hy⟩;rw[← hGd] at hgo;generalize x||| y=z at *
 have htl0:(0:Int)<=((tz z:Nat):Int):=by omega
 have htx0:(0:Int)<=((tz x:Nat):Int):=by omega
 have HO:=hid hO;have HG:=hid hG;have Hgo:=hid hgo;have Hgl:=hid hgl;have Hy:=hid hy;have Hx:=hid hx;have Hor:=hid hor;clear hO hG hgo hod hGd hgl;generalize hgg:Nat.gcd x y=gg at *;clear hgg
 go_enter Tryz.func139,Tryz.ntmps139
 go_wp2_with fail;refine(ccf z Hor.out w HG.out).mono ?_;rintro e w' ⟨rfl,rfl⟩;go_wp2_with fail;refine(ccf x Hx.out w HG.out).mono ?_;rintro e w' ⟨rfl,rfl⟩;go_wp2_with fail
 go_loop [0,1] (fun s0 s1=>∃ X Y:Nat,s0=u X/\s1=u Y/\Hid (Odd X Y G)) (fun s0 s1=>(intOf s0+intOf s1).toNat)
 case atStart=>exact⟨od x,y,rfl,rfl,HO.out⟩
 case round =>
  clear HO;obtain⟨X,Y,rfl,rfl,hXY⟩:=hrel;by_cases hY:Y=0
  ·have hb:(((Y:Nat):Int) != 0)=false:=by subst hY;rfl
   have hXG:X=G:=by have:=hXY.out.gcd;subst hY;rw[Nat.gcd_zero_right] at this;exact this
   have e3:IntKind.u64.wrap ((X:Int)*2^tz z)=((gg:Nat):Int):=by
    rw[Cu,hXG,← Hgo.out,mod_eq_of_lt Hgl.out]
   clear hY hXG;go_wp2_with fail
   go_ret
   exact⟨rfl,rfl⟩
  ·have hb:(((Y:Nat):Int) != 0)=true:=by rw[bne_iff_ne];omega
   obtain⟨s1,s2,s3,s4⟩:=hXY.out.step (by omega);have hYB:Y<B:=hXY.out.ly;have hX1:0<X:=by obtain⟨m,hm⟩:=hXY.out.odd;omega
   have htY:tz Y<64:=(cc (by omega) hYB).2;have htY0:(0:Int)<=((tz Y:Nat):Int):=by omega
   have eY:=Cq Y (tz Y);rw[show Y/2^tz Y=od Y from rfl] at eY;have hole:=od_le Y;generalize hoy:od Y=oy at *;have S3:=hid s3;have S4:=hid s4;have hXB:=hXY.out.lx;clear s3 s4 hoy hY;by_cases hgt:oy<X
   ·have ew:IntKind.u64.wrap ((X:Int)-(oy:Int))=((X-oy:Nat):Int):=Er hXB (by omega);obtain⟨dd,hdd⟩:∃ dd,dd=X-oy:=⟨_,rfl⟩;rw[← hdd] at ew;have HDD:=hid hdd;clear hdd;go_wp2_with (go_at_call 178;refine(ccf Y hYB w HG.out).mono ?_;rintro e w' ⟨rfl,rfl⟩)
    go_round
    case rel=>exact⟨oy,dd,rfl,rfl,by rw[HDD.out];exact S4.out hgt⟩
    case measure=>simp [intOf];have:=HDD.out;omega
   ·have ew:IntKind.u64.wrap ((oy:Int)-(X:Int))=((oy-X:Nat):Int):=Er s1 (by omega);obtain⟨dd,hdd⟩:∃ dd,dd=oy-X:=⟨_,rfl⟩;rw[← hdd] at ew;have HDD:=hid hdd;clear hdd;go_wp2_with (go_at_call 178;refine(ccf Y hYB w HG.out).mono ?_;rintro e w' ⟨rfl,rfl⟩)
    go_round
    case rel=>exact⟨X,dd,rfl,rfl,by rw[HDD.out];exact S3.out (by omega)⟩
    case measure=>simp [intOf];have:=HDD.out;omega
theorem Ji (x y:Nat) (h0:0<x) (k0:0<y) (h:x=1\/y=1) (w:World) :
 Calls Tryz.prog 139 #[u x,u y] w fun e w'=>e=.returned (u (Nat.gcd x y))/\w=w':=by
 have e1:Nat.gcd x y=1:=by
  rcases h with h|h
  ·subst h;simp
  ·subst h;simp
 rw[e1];have hb1:(((x:Nat):Int) == 0)=false:=by rw[beq_eq_false_iff_ne];omega
 have hb2:(((y:Nat):Int) == 0)=false:=by rw[beq_eq_false_iff_ne];omega
 clear e1;by_cases h1:x=1
 ·have hb3:(((x:Nat):Int) == 1)=true:=by subst h1;rfl
  clear h h1
  go_enter Tryz.func139,Tryz.ntmps139
  go_wp2_with fail
  go_ret
  exact⟨rfl,rfl⟩
 ·have h2:y=1:=by omega
  have hb3:(((x:Nat):Int) == 1)=false:=by rw[beq_eq_false_iff_ne];omega
  have hb4:(((y:Nat):Int) == 1)=true:=by subst h2;rfl
  clear h h1 h2
  go_enter Tryz.func139,Tryz.ntmps139
  go_wp2_with fail
  go_ret
  exact⟨rfl,rfl⟩
theorem yv (x y:Nat) (hx:x<B) (hy:y<B) (w:World) (hG:Gr w) :
 Calls Tryz.prog 139 #[u x,u y] w fun e w'=>e=.returned (u (Nat.gcd x y))/\w=w':=by
 rcases eq_zero_or_pos x with h|h
 ·exact GY x y hx hy w (.inl h)
 ·rcases eq_zero_or_pos y with h'|h'
  ·exact GY x y hx hy w (.inr h')
  ·by_cases n1:x=1
   ·exact Ji x y h h' (.inl n1) w
   ·by_cases n2:y=1
    ·exact Ji x y h h' (.inr n2) w
    ·exact Ya x y n1 n2 h hx h' hy w hG
open Go.ChangeShapes Go.WideShapes Go.ChangeAt
theorem own:ownKnob Tryz.prog.godebug=none:=by kernel_rfl
theorem gTab : Tryz.prog.globalNamed "math/bits.deBruijn64tab" = some 0 := by kernel_rfl
theorem gSyn : Tryz.prog.globalNamed "strconv.ErrSyntax" = some 4 := by kernel_rfl
theorem gRng : Tryz.prog.globalNamed "strconv.ErrRange" = some 5 := by kernel_rfl
theorem tTab:(Tryz.prog.globals[0]?).bind (fun g=>Tryz.prog.underlying g.type)=some (.array 64 5):=by kernel_rfl
theorem cTab:(Tryz.prog.globals[0]?).map (fun g=>Tryz.prog.cellsOf g.type)=some 64:=by kernel_rfl
theorem c8:Tryz.prog.cellsOf 5=1:=by kernel_rfl
theorem tSyn:(Tryz.prog.globals[4]?).map (·.type)=some 232:=by kernel_rfl
theorem tRng:(Tryz.prog.globals[5]?).map (·.type)=some 232:=by kernel_rfl
theorem uErr:∃ ms,Tryz.prog.underlying 232=some (.interface ms):=⟨_,Tryz.underlying232⟩
theorem cfw {W:World}(h:laidMetH Tryz.prog Rows.movingValuesRow.laid W):∃ ps,DataW.LaidVars Tryz.prog W Rows.movingValuesRow.laid ps:=by
 have h':laidMet Tryz.prog Rows.movingValuesRow.laid W:=h;obtain⟨ps,h1,_⟩:=h';exact⟨ps,h1⟩
set_option maxRecDepth 100000 in
theorem cfh {W:World}(h:laidMetH Tryz.prog Rows.movingValuesRow.laid W) (hs:W.ShapedOpen Tryz.prog):Gr W:=by
 obtain⟨ps,⟨_,_,_,_,_,_,_,_,_,_,⟨g1,t1,cs1,f1,p1,q1,hg1,ht1,hv1,hd1,⟨_,_,_,_,_,_,_,_,_,_,⟨g3,t3,cs3,f3,p3,q3,hg3,ht3,hv3,hd3,⟨g4,t4,cs4,f4,p4,q4,hg4,ht4,hv4,hd4,_,_⟩,_⟩,_⟩,_⟩,_⟩⟩:=cfw h;obtain rfl:=Option.some.inj (gTab.symm.trans hg1);obtain rfl:=Option.some.inj (gRng.symm.trans hg3);obtain rfl:=Option.some.inj (gSyn.symm.trans hg4);obtain⟨ms,hi⟩:=uErr;refine⟨?_,?_,?_,?_,?_⟩
 ·have h0:((begin Tryz.prog (fun _ _=>0) default).world.heap[(7:Nat)]?).bind Obj.row?≠none:=by
   intro h;have:(((begin Tryz.prog (fun _ _=>0) default).world.heap[(7:Nat)]?).bind Obj.row?).isSome=true:=by kernel_rfl
   rw[h] at this;cases this
  cases hh:((begin Tryz.prog (fun _ _=>0) default).world.heap[(7:Nat)]?).bind Obj.row? with
  |none=>exact absurd hh h0
  |some x =>
   obtain⟨cs,hc,_⟩:=hs.1 7 x.1 x.2 (by decide) hh;exact(Array.getElem?_eq_some_iff.1 hc).1
 ·have ht:Tryz.prog.underlying t1=some (.array 64 5):=by
   have:=tTab;cases hx:Tryz.prog.globals[0]? with
   |none=>rw[hx] at ht1;cases ht1
   |some g=>rw[hx] at this ht1;cases ht1;exact this
  have hc:Tryz.prog.cellsOf t1=64:=by
   have:=cTab;cases hx:Tryz.prog.globals[0]? with
   |none=>rw[hx] at ht1;cases ht1
   |some g=>rw[hx] at this ht1;cases ht1;exact Option.some.inj this
  have hcs:=Lib.cells_of_tab (zs:=Lib.deBruijn64tab.map Int.ofNat) (k:=.u8) ht Tryz.underlying5 c8 hc hd1;have hv : Lib.TabIs Tryz.prog W "math/bits.deBruijn64tab" .u8 (Lib.deBruijn64tab.map Int.ofNat) := by
   unfold Lib.TabIs;rw[hv1,← hcs]
  intro j hj;have:=hv.cell gTab j (by simpa using hj);rw[this];simp [List.getD,List.getElem?_map,hj]
 ·exact cell_of_shapedOpen_int (t:=3) (zero:=#[.int .i64 0]) hs (by decide) (by kernel_rfl) rfl (by kernel_rfl) (by kernel_rfl) Tryz.underlying3
 ·obtain rfl:=Option.some.inj (tSyn.symm.trans ht4);obtain⟨f',u,v,hc,_⟩:=iface_of_trod hi hd4;refine⟨u,v,?_⟩;have:=World.var?_cell gSyn hv4 0;rw[Array.eq_one_of_toList hc] at this;simpa using this
 ·obtain rfl:=Option.some.inj (tRng.symm.trans ht3);obtain⟨f',u,v,hc,_⟩:=iface_of_trod hi hd3;refine⟨u,v,?_⟩;have:=World.var?_cell gRng hv3 0;rw[Array.eq_one_of_toList hc] at this;simpa using this
theorem ckc (os:Os) (args:Array Value):laidMetH Tryz.prog Rows.movingValuesRow.laid ((World.doorLaid Tryz.prog 400 os).forCall (fun _ _=>0) ⟨#[],args,[]⟩).memory :=
 laidMet_of_run' 8 (by kernel_rfl) (by kernel_rfl)
end Go.Proofs.YtolcmngcebnjdaaGreatDoor
