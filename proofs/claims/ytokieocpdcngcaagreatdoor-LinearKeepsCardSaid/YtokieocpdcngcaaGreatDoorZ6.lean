/- Part 6. -/
import Derived.Shelf.Spec.TrailingZeros
import Derived.Shelf.Small.Bits
import Derived.Shelf.Small.Wraps
import Derived.Shelf.Strconv.Itoa0
import Derived.Shelf.Bits.Mul64
import Derived.Ground.Names2Prog
import Derived.Shelf.Slices.SearchI
import Derived.Test.YtokieocpdcngcaaGreatDoorProg
import Derived.Test.YtokieocpdcngcaaGreatDoorZ5
import Derived.Shelf.Spec.BitsCarry
import Derived.KernelRfl
import Derived.Laws.CopyOwn
set_option linter.all false
open Go.Lib (hid)
open List (append_assoc drop_drop drop_zero length_set length_take nil_append take_length)
open Nat (add_assoc add_mul eq_zero_or_pos le_refl lt_of_le_of_lt lt_of_lt_of_le min_eq_left mul_add mul_assoc mul_le_mul mul_le_mul_left mul_one one_mul pow_add pow_le_pow_right pow_succ zero_add zero_le)

namespace Go.Proofs
open Go.Shelf
def Tryz.lays134_ren:Go.Shelf.Ren:=⟨fun|134=>160|129=>123|n=>n,fun|53=>47|3=>3|4=>4|46=>155|5=>5|9=>9|n=>n,fun|n=>n⟩
theorem Tryz.lays134:Go.Proofs.Lays.n134 Tryz.prog Tryz.lays134_ren:={
 mixed:=by kernel_rfl
 f129:=Tryz.func123.trans (congrArg some (by kernel_rfl))
 f134:=Tryz.func160.trans (congrArg some (by kernel_rfl))
 t3:=Tryz.underlying3
 a3:=Tryz.isAgg3
 z3:=Tryz.sizeOf3
 v3:=Tryz.zeroValue3
 t4:=Tryz.underlying4
 a4:=Tryz.isAgg4
 z4:=Tryz.sizeOf4
 v4:=Tryz.zeroValue4
 t5:=Tryz.underlying5
 a5:=Tryz.isAgg5
 z5:=Tryz.sizeOf5
 v5:=Tryz.zeroValue5
 t9:=Tryz.underlying9
 a9:=Tryz.isAgg9
 z9:=Tryz.sizeOf9
 v9:=Tryz.zeroValue9
 t46:=Tryz.underlying155
 a46:=Tryz.isAgg155
 z46:=Tryz.sizeOf155
 v46:=Tryz.zeroValue155
 t53:=Tryz.underlying47
 a53:=Tryz.isAgg47
 z53:=Tryz.sizeOf47
 v53:=Tryz.zeroValue47 }
theorem Tryz.bits_LeadingZeros64 (x:Int) (w:World) (h0:0<=x) (h1:x<=18446744073709551615) :
 Calls Tryz.prog 160 #[.int .u64 x] w fun e w'=>e=.returned (.int .i64 (64-(Lib.bitLen x.toNat:Int)))/\w'=w:=Any.bits_LeadingZeros64 Tryz.lays134 x w h0 h1
def Tryz.lays122_ren:Go.Shelf.Ren:=⟨fun|122=>155|215=>165|n=>n,fun|3=>3|4=>4|n=>n,fun|n=>n⟩
theorem Tryz.lays122:Go.Proofs.Lays.n122 Tryz.prog Tryz.lays122_ren:={
 mixed:=by kernel_rfl
 f122:=Tryz.func155.trans (congrArg some (by kernel_rfl))
 f215:=Tryz.func165.trans (congrArg some (by kernel_rfl))
 t3:=Tryz.underlying3
 a3:=Tryz.isAgg3
 z3:=Tryz.sizeOf3
 v3:=Tryz.zeroValue3
 t4:=Tryz.underlying4
 a4:=Tryz.isAgg4
 z4:=Tryz.sizeOf4
 v4:=Tryz.zeroValue4 }
open Go.RowKit in
theorem Tryz.cmp_Compare_int (x y:Int) (w:World) :
 Calls Tryz.prog 155 #[.int .i64 x,.int .i64 y] w fun e w'=>e=.returned (.int .i64 (Lib.compareInt x y))/\w'=w:=Any.cmp_Compare_int Tryz.lays122 x y w
def Tryz.lays264_ren:Go.Shelf.Ren:=⟨fun|264=>126|n=>n,fun|53=>47|46=>155|n=>n,fun|n=>n⟩
theorem Tryz.lays264:Go.Proofs.Lays.n264 Tryz.prog Tryz.lays264_ren:={
 mixed:=by kernel_rfl
 f264:=Tryz.func126.trans (congrArg some (by kernel_rfl))
 t46:=Tryz.underlying155
 a46:=Tryz.isAgg155
 z46:=Tryz.sizeOf155
 v46:=Tryz.zeroValue155
 t53:=Tryz.underlying47
 a53:=Tryz.isAgg47
 z53:=Tryz.sizeOf47
 v53:=Tryz.zeroValue47 }
open Go.RowKit Go.Lib in
theorem Tryz.bits_Mul64 (x y:Nat) (hx:x<18446744073709551616) (hy:y<18446744073709551616) (w:World) :
 Calls Tryz.prog 126 #[.int .u64 x,.int .u64 y] w fun e w'=>e=.returned (.tuple #[.int .u64 ((x*y/18446744073709551616:Nat):Int),.int .u64 ((x*y%18446744073709551616:Nat):Int)])/\w'=w:=Any.bits_Mul64 Tryz.lays264 x y hx hy w
def Tryz.lays7n29_ren:Go.Shelf.Ren:=⟨fun|29=>157|n=>n,fun|22=>47|3=>3|4=>4|25=>155|54=>227|0=>0|5=>5|n=>n,fun|1=>2|n=>n⟩
theorem Tryz.lays7n29:Go.Proofs.Lays7.n29 Tryz.prog Tryz.lays7n29_ren:={
 mixed:=by kernel_rfl
 f29:=Tryz.func157.trans (congrArg some (by kernel_rfl))
 t0:=Tryz.underlying0
 a0:=Tryz.isAgg0
 z0:=Tryz.sizeOf0
 v0:=Tryz.zeroValue0
 i0:=by kernel_rfl
 t3:=Tryz.underlying3
 a3:=Tryz.isAgg3
 z3:=Tryz.sizeOf3
 v3:=Tryz.zeroValue3
 i3:=by kernel_rfl
 t4:=Tryz.underlying4
 a4:=Tryz.isAgg4
 z4:=Tryz.sizeOf4
 v4:=Tryz.zeroValue4
 i4:=by kernel_rfl
 t5:=Tryz.underlying5
 a5:=Tryz.isAgg5
 z5:=Tryz.sizeOf5
 v5:=Tryz.zeroValue5
 i5:=by kernel_rfl
 t22:=Tryz.underlying47
 a22:=Tryz.isAgg47
 z22:=Tryz.sizeOf47
 v22:=Tryz.zeroValue47
 i22:=by kernel_rfl
 t25:=Tryz.underlying155
 a25:=Tryz.isAgg155
 z25:=Tryz.sizeOf155
 v25:=Tryz.zeroValue155
 i25:=by kernel_rfl
 t54:=Tryz.underlying227
 a54:=Tryz.isAgg227
 z54:=Tryz.sizeOf227
 g1:=by kernel_rfl }
open Go.RowKit Go.Lib in
theorem Tryz.bits_TrailingZeros64 (x:Nat) (hx:x<18446744073709551616) (w:World) (hT:x≠0->TabAt 2 Lib.deBruijn64tab w) :
 Calls Tryz.prog 157 #[.int .u64 x] w fun e w'=>e=.returned (.int .i64 (Lib.ctz 64 x))/\w'=w:=Any7.bits_TrailingZeros64 Tryz.lays7n29 x hx w hT
end Go.Proofs

namespace Go.Proofs.YtokieocpdcngcaaGreatDoor
open Go Go.RowKit Go.Proofs Lim
theorem GC (x y:Nat) (w:World) :
 (callFunc 162 #[.int .u64 (x:Int),.int .u64 (y:Int),.int .u64 0]).run Tryz.prog w =
  .ok (.value (.tuple #[u (ul x y),u (kA x y)])) w:=by
 rw[run_callFunc_extern Tryz.func162 (by kernel_rfl) (by kernel_rfl) (by kernel_rfl) (e:=add64Entry) (by kernel_rfl)];rfl
theorem KZ (x y:Nat) (w:World) :
 (callFunc 174 #[.int .u64 (x:Int),.int .u64 (y:Int),.int .u64 0]).run Tryz.prog w =
  .ok (.value (.tuple #[u (uQ x y),u (CT x y)])) w:=by
 rw[run_callFunc_extern Tryz.func174 (by kernel_rfl) (by kernel_rfl) (by kernel_rfl) (e:=sub64Entry) (by kernel_rfl)];rfl
theorem ZM (x y:Nat) (hx:x<B) (hy:y<B) (w:World) :
 Calls Tryz.prog 126 #[u x,u y] w fun e w'=>e=.returned (.tuple #[u (jD x y),u (cW x y)])/\w=w' :=
 (Tryz.bits_Mul64 x y hx hy w).mono fun _ _ ⟨h,h'⟩=>⟨h,h'.symm⟩
theorem chA {s y f c:Nat}(hs:s<B) (hy:y<B) (hf:f<B) (hc:c<B) :
 ul s (ul (cW y f) c)+B*(jD y f+kA (cW y f) c+kA s (ul (cW y f) c))=s+y*f+c/\
  jD y f+kA (cW y f) c+kA s (ul (cW y f) c)<B:=by
 have h1:=US y f;have h2:=Km (cW y f) c;have h3:=Km s (ul (cW y f) c);have e:ul s (ul (cW y f) c)+B*(jD y f+kA (cW y f) c+kA s (ul (cW y f) c))=s+y*f+c:=by
  rw[mul_add,mul_add];omega
 refine⟨e,?_⟩;have i1:y*f<=(B-1)*(B-1):=mul_le_mul (by omega) (by omega);have i2:(B-1)*(B-1)+2*(B-1)+1=B*B:=by
  have:B=(B-1)+1:=by have:=jk;omega
  generalize B-1=k at *;rw[this];grind
 have i3:B*(jD y f+kA (cW y f) c+kA s (ul (cW y f) c))<B*B:=by omega
 exact Nat.lt_of_mul_lt_mul_left i3
attribute [local go_sem] GC KZ
structure yZ (L L':List Nat) (so n x c:Nat):Prop where
 len:L'.length=L.length
 ok:Ok L'
 low:L'.take so=L.take so
 high:L'.drop (so+n)=L.drop (so+n)
 sum:val L'+B^(so+n)*c=val L+B^so*x
structure yj (L L':List Nat) (so n x c:Nat):Prop where
 len:L'.length=L.length
 ok:Ok L'
 low:L'.take so=L.take so
 high:L'.drop (so+n)=L.drop (so+n)
 sum:val L'+B^so*x=val L+B^(so+n)*c
theorem Uh (l:List Nat) (k v so:Nat) (h:so<=k):(l.set k v).take so=l.take so:=by
 rw[List.take_set,List.set_eq_of_length_le (by simp;omega)]
theorem Uv (l:List Nat) (k v so:Nat) (h:k<so):(l.set k v).drop so=l.drop so:=by
 rw[List.drop_set,if_pos h]
theorem yZ.start (L:List Nat) (so:Nat) (h:Ok L):yZ L L so 0 0 0:=⟨rfl,h,rfl,rfl,by simp⟩
theorem yj.start (L:List Nat) (so:Nat) (h:Ok L):yj L L so 0 0 0:=⟨rfl,h,rfl,rfl,by simp⟩
theorem yZ.step {L L':List Nat}{so k x c s' c' y:Nat}(h:yZ L L' so k x c) (hk:so+k<L.length) (hs':s'<B)
 (e:s'+B*c'=L'[so+k]?.getD 0+y+c):yZ L (L'.set (so+k) s') so (k+1) (x+B^k*y) c':=by
 refine⟨by rw[length_set,h.len],h.ok.set _ _ hs',by rw[Uh _ _ _ _ (by omega),h.low],?_,?_⟩
 ·rw[Uv _ _ _ _ (by omega),show so+(k+1)=so+k+1 from rfl,← drop_drop,h.high,drop_drop]
 ·have h1:=Eo L' (so+k) s' (by rw[h.len];exact hk);have h2:=h.sum;have e2:B^(so+k)*s'+B^(so+k)*B*c'=B^(so+k)*L'[so+k]?.getD 0+B^(so+k)*y+B^(so+k)*c:=by
   rw[mul_assoc,← mul_add,e,mul_add,mul_add]
  have e3:B^(so+(k+1))=B^(so+k)*B:=by rw[← add_assoc,pow_succ]
  have e4:B^so*(x+B^k*y)=B^so*x+B^(so+k)*y:=by rw[mul_add,← mul_assoc,← pow_add]
  rw[e3,e4];omega
theorem yj.step {L L':List Nat}{so k x c s' c' y:Nat}(h:yj L L' so k x c) (hk:so+k<L.length) (hs':s'<B)
 (e:s'+y+c=L'[so+k]?.getD 0+B*c'):yj L (L'.set (so+k) s') so (k+1) (x+B^k*y) c':=by
 refine⟨by rw[length_set,h.len],h.ok.set _ _ hs',by rw[Uh _ _ _ _ (by omega),h.low],?_,?_⟩
 ·rw[Uv _ _ _ _ (by omega),show so+(k+1)=so+k+1 from rfl,← drop_drop,h.high,drop_drop]
 ·have h1:=Eo L' (so+k) s' (by rw[h.len];exact hk);have h2:=h.sum;have e2:B^(so+k)*s'+B^(so+k)*y+B^(so+k)*c=B^(so+k)*L'[so+k]?.getD 0+B^(so+k)*B*c':=by
   rw[mul_assoc,← mul_add,← mul_add,e,mul_add]
  have e3:B^(so+(k+1))=B^(so+k)*B:=by rw[← add_assoc,pow_succ]
  have e4:B^so*(x+B^k*y)=B^so*x+B^(so+k)*y:=by rw[mul_add,← mul_assoc,← pow_add]
  rw[e3,e4];omega
theorem yZ.wider {L L':List Nat}{so k n x:Nat}(h:yZ L L' so k x 0) (hk:k<=n):yZ L L' so n x 0:=by
 refine⟨h.len,h.ok,h.low,?_,by simpa using h.sum⟩;rw[show so+n=so+k+(n-k) from by omega,← drop_drop,h.high,drop_drop]
theorem yj.wider {L L':List Nat}{so k n x:Nat}(h:yj L L' so k x 0) (hk:k<=n):yj L L' so n x 0:=by
 refine⟨h.len,h.ok,h.low,?_,by simpa using h.sum⟩;rw[show so+n=so+k+(n-k) from by omega,← drop_drop,h.high,drop_drop]
def ced (w:World) (b so n:Nat) (L:List Nat) (x:Nat) (e:Ending) (w':World):Prop :=
 e=.returned (.tuple #[])/\cV b w w'/\∃ c L',Blk w' b L'/\yZ L L' so n x c
def AddRel (w:World) (b so:Nat) (L:List Nat) (k x:Nat) (carry i:Value) (wr:World):Prop :=
 ∃ c L',i=.int .i64 (k:Int)/\carry=u c/\c<B/\Blk wr b L'/\yZ L L' so k x c/\cV b w wr
theorem zm (b so n:Nat) (scap ycap:Nat) (L Y:List Nat) (ya:Option Addr) (f:Nat) (w:World)
 (hL:Blk w b L) (hn:so+n<=L.length) (hlen:Y.length<=n) (hmax:(n:Int)<=4611686018427387904) (hf:f<B) (okL:Ok L) (okY:Ok Y)
 (hY:0<Y.length->∃ yb yo,ya=some ⟨yb,yo,none⟩/\yb≠b/\Row w yb yo Y) :
 Calls Tryz.prog 154 #[.slice (some ⟨b,so,none⟩) n scap,.slice ya Y.length ycap,u f] w (ced w b so n L (f*val Y)):=by
 have HY:=hid hY;have HL:=hid hL;have HokL:=hid okL;have HokY:=hid okY;clear hY hL okL okY
 go_enter Tryz.func154,Tryz.ntmps154
 go_wp2_with fail
 go_loopw [6,15] (fun carry i wr=>∃ k,k<=Y.length/\AddRel w b so L k (f*val (Y.take k)) carry i wr) (fun _ i _=>Y.length-(intOf i).toNat)
 case atStart=>exact⟨0,zero_le _,0,L,rfl,rfl,jk,HL.out,by simpa [val] using yZ.start L so HokL.out,cV.refl b w⟩
 case round =>
  obtain⟨k,hk,c,L',rfl,rfl,hc,hB,hA,hO⟩:=hrel;by_cases hlt:k<Y.length
  ·obtain⟨yb,yo,rfl,hyb,hrow⟩:=HY.out (by omega);have hlen':L'.length=L.length:=hA.len;have hyc:wr.cell? ⟨yb,yo+k,none⟩=some (u (Y[k]?.getD 0)):=(hO.cell (p:=⟨yb,yo+k,none⟩) hyb).trans (hrow k hlt);have hsc:wr.cell? ⟨b,so+k,none⟩=some (u (L'[so+k]?.getD 0)):=hB.cell (so+k) (by omega);have hfz:wr.frozen? ⟨b,so+k,none⟩=false:=hB.frozen _;have hy:Y[k]?.getD 0<B:=HokY.out.get k;have hs:L'[so+k]?.getD 0<B:=hA.ok.get _;generalize hyg:Y[k]?.getD 0=y at *;generalize hsg:L'[so+k]?.getD 0=s at *;have HA:=hid hA;have HB:=hid hB;have HO:=hid hO;have H1:=hid hyg;have H2:=hid hsg;have H3:=hid hlen';have H4:=hid (chA hs hy hf hc);clear hA hB hO hyg hsg hlen' hrow;go_wp2_with (go_at_call 126;refine(ZM _ _ (by assumption) (by assumption) _).mono ?_;rintro e w' ⟨rfl,rfl⟩)
   go_roundw
   case rel =>
    refine⟨k+1,by omega,_,_,by go_num,by rw[YY H4.out.2],H4.out.2,HB.out.set (so+k) _ (by have:=HA.out.len;omega),?_,HO.out.set (so+k) _⟩;rw[cQ _ _ hlt,H1.out,mul_add,show f*(B^k*y)=B^k*(y*f) from by grind];exact HA.out.step (by omega) (Gb _ _) (by rw[H2.out];exact H4.out.1)
   case measure=>simp [intOf];omega
  ·have hkn:k=Y.length:=by omega
   subst hkn;have HA:=hid hA;have HB:=hid hB;have HO:=hid hO;clear hA hB hO;go_wp2_with fail;have hle:=hlen;obtain⟨k0,hk0⟩:∃ k0,k0=Y.length:=⟨_,rfl⟩;have HK:=hid hk0;obtain⟨w1,hw1⟩:∃ w1,w1=wr:=⟨_,rfl⟩;subst hw1
   go_loopw [6,12] (fun carry i wr=>∃ k,Y.length<=k/\k<=n/\AddRel w b so L k (f*val Y) carry i wr) (fun _ i _=>n-(intOf i).toNat)
   case atStart=>exact⟨Y.length,le_refl _,hlen,c,L',rfl,rfl,hc,HB.out,by simpa using HA.out,HO.out⟩
   case round =>
    clear HA HB HO;obtain⟨k,hk1,hk2,c,L',rfl,rfl,hc,hB,hA,hO⟩:=hrel;have HA:=hid hA;have HB:=hid hB;have HO:=hid hO;clear hA hB hO;by_cases hc0:c=0
    ·have hcb:(((c:Nat):Int) != 0)=false:=by subst hc0;rfl
     clear hc0;go_wp2_with fail
     go_end0
     refine⟨rfl,HO.out,0,L',HB.out,?_⟩;have h0:c=0:=by simpa using hcb
     subst h0;exact HA.out.wider hk2
    ·have hcb:(((c:Nat):Int) != 0)=true:=by rw[bne_iff_ne];omega
     clear hc0;by_cases hlt2:k<n
     ·have hlen':L'.length=L.length:=HA.out.len;have hsc:wr.cell? ⟨b,so+k,none⟩=some (u (L'[so+k]?.getD 0)):=HB.out.cell (so+k) (by omega);have hfz:wr.frozen? ⟨b,so+k,none⟩=false:=HB.out.frozen _;generalize hsg:L'[so+k]?.getD 0=s at *;have H2:=hid hsg;have H3:=hid hlen';have H4:=Km s c;have HH4:=hid H4;clear H4 hsg hlen';go_wp2_with fail
      go_roundw
      case rel =>
       refine⟨k+1,by omega,by omega,_,_,by go_num,rfl,?_,HB.out.set (so+k) _ (by have:=HA.out.len;omega),?_,HO.out.set (so+k) _⟩
       ·exact lt_of_le_of_lt (cbc (by rw[← H2.out];exact HA.out.ok.get _) hc) (by decide)
       ·have:=HA.out.step (y:=0) (by omega) (Gb s c) (c':=kA s c) (by rw[H2.out,HH4.out];omega);simpa using this
      case measure=>simp [intOf];omega
     ·go_wp2_with fail
      go_end0
      obtain rfl:k=n:=by omega
      exact⟨rfl,HO.out,c,L',HB.out,HA.out⟩
theorem zk (b so n:Nat) (scap ycap:Nat) (L Y:List Nat) (ya:Option Addr) (w:World)
 (hL:Blk w b L) (hn:so+n<=L.length) (hlen:Y.length<=n) (hmax:(n:Int)<=4611686018427387904) (okL:Ok L) (okY:Ok Y)
 (hY:0<Y.length->∃ yb yo,ya=some ⟨yb,yo,none⟩/\yb≠b/\Row w yb yo Y) :
 Calls Tryz.prog 154 #[.slice (some ⟨b,so,none⟩) n scap,.slice ya Y.length ycap,.int .u64 1] w (ced w b so n L (val Y)):=by
 have:=zm b so n scap ycap L Y ya 1 w hL hn hlen hmax (by decide) okL okY hY;rw[one_mul] at this;exact this
attribute [local go_sem] GC KZ
theorem cgi {s y f c:Nat}(hs:s<B) (hy:y<B) (hf:f<B) (hc:c<B) :
 uQ s (ul (cW y f) c)+y*f+c=s+B*(jD y f+kA (cW y f) c+CT s (ul (cW y f) c))/\
  jD y f+kA (cW y f) c+CT s (ul (cW y f) c)<B:=by
 have h1:=US y f;have h2:=Km (cW y f) c;have h3:=ZV hs (Gb (cW y f) c);have h4:=JO s (ul (cW y f) c);have e:uQ s (ul (cW y f) c)+y*f+c=s+B*(jD y f+kA (cW y f) c+CT s (ul (cW y f) c)):=by
  rw[mul_add,mul_add];omega
 refine⟨e,?_⟩;have i1:y*f<=(B-1)*(B-1):=mul_le_mul (by omega) (by omega);have i2:(B-1)*(B-1)+2*(B-1)+1=B*B:=by
  have:B=(B-1)+1:=by have:=jk;omega
  generalize B-1=k at *;rw[this];grind
 have i3:B*(jD y f+kA (cW y f) c+CT s (ul (cW y f) c))<B*B:=by omega
 exact Nat.lt_of_mul_lt_mul_left i3
def cba (w:World) (b so n:Nat) (L:List Nat) (x:Nat) (e:Ending) (w':World):Prop :=
 ∃ c L',c<B/\e=.returned (u c)/\cV b w w'/\Blk w' b L'/\yj L L' so n x c
def cex (w:World) (b so:Nat) (L:List Nat) (k x:Nat) (carry i:Value) (wr:World):Prop :=
 ∃ c L',i=.int .i64 (k:Int)/\carry=u c/\c<B/\Blk wr b L'/\yj L L' so k x c/\cV b w wr
theorem yF (b so n:Nat) (scap ycap:Nat) (L Y:List Nat) (ya:Option Addr) (f:Nat) (w:World)
 (hL:Blk w b L) (hn:so+n<=L.length) (hlen:Y.length<=n) (hmax:(n:Int)<=4611686018427387904) (hf:f<B) (okL:Ok L) (okY:Ok Y)
 (hY:0<Y.length->∃ yb yo,ya=some ⟨yb,yo,none⟩/\yb≠b/\Row w yb yo Y) :
 Calls Tryz.prog 172 #[.slice (some ⟨b,so,none⟩) n scap,.slice ya Y.length ycap,u f] w (cba w b so n L (f*val Y)):=by
 have HY:=hid hY;have HL:=hid hL;have HokL:=hid okL;have HokY:=hid okY;clear hY hL okL okY
 go_enter Tryz.func172,Tryz.ntmps172
 go_wp2_with fail
 go_loopw [6,15] (fun carry i wr=>∃ k,k<=Y.length/\cex w b so L k (f*val (Y.take k)) carry i wr) (fun _ i _=>Y.length-(intOf i).toNat)
 case atStart=>exact⟨0,zero_le _,0,L,rfl,rfl,jk,HL.out,by simpa [val] using yj.start L so HokL.out,cV.refl b w⟩
 case round =>
  obtain⟨k,hk,c,L',rfl,rfl,hc,hB,hA,hO⟩:=hrel;by_cases hlt:k<Y.length
  ·obtain⟨yb,yo,rfl,hyb,hrow⟩:=HY.out (by omega);have hlen':L'.length=L.length:=hA.len;have hyc:wr.cell? ⟨yb,yo+k,none⟩=some (u (Y[k]?.getD 0)):=(hO.cell (p:=⟨yb,yo+k,none⟩) hyb).trans (hrow k hlt);have hsc:wr.cell? ⟨b,so+k,none⟩=some (u (L'[so+k]?.getD 0)):=hB.cell (so+k) (by omega);have hfz:wr.frozen? ⟨b,so+k,none⟩=false:=hB.frozen _;have hy:Y[k]?.getD 0<B:=HokY.out.get k;have hs:L'[so+k]?.getD 0<B:=hA.ok.get _;generalize hyg:Y[k]?.getD 0=y at *;generalize hsg:L'[so+k]?.getD 0=s at *;have HA:=hid hA;have HB:=hid hB;have HO:=hid hO;have H1:=hid hyg;have H2:=hid hsg;have H3:=hid hlen';have H4:=hid (cgi hs hy hf hc);clear hA hB hO hyg hsg hlen' hrow;go_wp2_with (go_at_call 126;refine(ZM _ _ (by assumption) (by assumption) _).mono ?_;rintro e w' ⟨rfl,rfl⟩)
   go_roundw
   case rel =>
    refine⟨k+1,by omega,_,_,by go_num,by rw[YY H4.out.2],H4.out.2,HB.out.set (so+k) _ (by have:=HA.out.len;omega),?_,HO.out.set (so+k) _⟩;rw[cQ _ _ hlt,H1.out,mul_add,show f*(B^k*y)=B^k*(y*f) from by grind];exact HA.out.step (by omega) (JO _ _) (by rw[H2.out];exact H4.out.1)
   case measure=>simp [intOf];omega
  ·have hkn:k=Y.length:=by omega
   subst hkn;have HA:=hid hA;have HB:=hid hB;have HO:=hid hO;clear hA hB hO;go_wp2_with fail;have hle:=hlen;obtain⟨k0,hk0⟩:∃ k0,k0=Y.length:=⟨_,rfl⟩;have HK:=hid hk0;obtain⟨w1,hw1⟩:∃ w1,w1=wr:=⟨_,rfl⟩;subst hw1
   go_loopw [6,12] (fun carry i wr=>∃ k,Y.length<=k/\k<=n/\cex w b so L k (f*val Y) carry i wr) (fun _ i _=>n-(intOf i).toNat)
   case atStart=>exact⟨Y.length,le_refl _,hlen,c,L',rfl,rfl,hc,HB.out,by simpa using HA.out,HO.out⟩
   case round =>
    clear HA HB HO;obtain⟨k,hk1,hk2,c,L',rfl,rfl,hc,hB,hA,hO⟩:=hrel;have HA:=hid hA;have HB:=hid hB;have HO:=hid hO;clear hA hB hO;by_cases hc0:c=0
    ·have hcb:(((c:Nat):Int) != 0)=false:=by subst hc0;rfl
     clear hc0;go_wp2_with fail
     go_ret
     have h0:c=0:=by simpa using hcb
     subst h0;exact⟨0,L',jk,rfl,HO.out,HB.out,HA.out.wider hk2⟩
    ·have hcb:(((c:Nat):Int) != 0)=true:=by rw[bne_iff_ne];omega
     clear hc0;by_cases hlt2:k<n
     ·have hlen':L'.length=L.length:=HA.out.len;have hsc:wr.cell? ⟨b,so+k,none⟩=some (u (L'[so+k]?.getD 0)):=HB.out.cell (so+k) (by omega);have hfz:wr.frozen? ⟨b,so+k,none⟩=false:=HB.out.frozen _;generalize hsg:L'[so+k]?.getD 0=s at *;have H2:=hid hsg;have H3:=hid hlen';have H4:=ZV (x:=s) (y:=c) (by rw[← hsg];exact HA.out.ok.get _) hc;have HH4:=hid H4;clear H4 hsg hlen';go_wp2_with fail
      go_roundw
      case rel =>
       refine⟨k+1,by omega,by omega,_,_,by go_num,rfl,?_,HB.out.set (so+k) _ (by have:=HA.out.len;omega),?_,HO.out.set (so+k) _⟩
       ·exact lt_of_le_of_lt (cbP s c) (by decide)
       ·have:=HA.out.step (y:=0) (by omega) (JO s c) (c':=CT s c) (by rw[H2.out,← HH4.out];omega);simpa using this
      case measure=>simp [intOf];omega
     ·go_wp2_with fail
      go_ret
      obtain rfl:k=n:=by omega
      exact⟨c,L',hc,rfl,HO.out,HB.out,HA.out⟩
theorem KK (b so n:Nat) (scap ycap:Nat) (L Y:List Nat) (ya:Option Addr) (w:World)
 (hL:Blk w b L) (hn:so+n<=L.length) (hlen:Y.length<=n) (hmax:(n:Int)<=4611686018427387904) (okL:Ok L) (okY:Ok Y)
 (hY:0<Y.length->∃ yb yo,ya=some ⟨yb,yo,none⟩/\yb≠b/\Row w yb yo Y) :
 Calls Tryz.prog 172 #[.slice (some ⟨b,so,none⟩) n scap,.slice ya Y.length ycap,.int .u64 1] w (cba w b so n L (val Y)):=by
 have:=yF b so n scap ycap L Y ya 1 w hL hn hlen hmax (by decide) okL okY hY;rw[one_mul] at this;exact this
theorem Jg {l:List Nat}{k:Nat}(hk:k<l.length) (h0:l[k]?.getD 0=0):val (l.take (k+1))=val (l.take k):=by
 rw[cQ l k hk,h0];simp
theorem Zp {l:List Nat}{k:Nat}(hk:k<l.length) (h0:l[k]?.getD 0≠0):Yi (l.take (k+1)):=by
 intro hne;simp only[Jd l k hk,List.getLast_append,List.getLast_singleton];simpa using h0
def NatPost (w:World) (n:Nat) (e:Ending) (w':World):Prop:=∃ v,e=.returned v/\cg w v n/\w=w'
theorem ub (xs:List Nat) (v:Value) (w:World) (hv:Sl w v xs) (hmax:(xs.length:Int)<=4611686018427387904) :
 Calls Tryz.prog 110 #[v] w (NatPost w (val xs)):=by
 obtain⟨⟨ao,cap,rfl,hc1,hc2,hr⟩,hok,typ⟩:=hv;have HTy:=hid typ;clear typ;unfold maxLen at hc2;have HR:=hid hr;have HO:=hid hok;clear hr hok
 go_enter Tryz.func110,Tryz.ntmps110
 go_wp2_with fail
 go_loop [3] (fun i=>∃ k,k<=xs.length/\i=.int .i64 (k:Int)/\val (xs.take k)=val xs) (fun i=>(intOf i).toNat)
 case atStart=>exact⟨xs.length,le_refl _,rfl,by simp⟩
 case round =>
  obtain⟨k,hk,rfl,hval⟩:=hrel;have HV:=hid hval;clear hval;by_cases hk0:0<k
  ·obtain⟨j,rfl⟩:∃ j,k=j+1:=⟨k-1,by omega⟩;obtain⟨b,off,rfl,hrow⟩:=HR.out (by omega);have hcell:w.cell? ⟨b,off+j,none⟩=some (u (xs[j]?.getD 0)):=hrow j (by omega);have HRow:=hid hrow;clear hrow;by_cases hz:xs[j]?.getD 0=0
   ·have hzz:=hz;rw[hz] at hcell;have HZ:=hid hzz;clear hz hzz;go_wp2_with fail
    go_round
    case rel=>exact⟨j,by omega,rfl,by rw[← HV.out,Jg (by omega) HZ.out]⟩
    case measure=>simp [intOf]
   ·have HZ:=hid hz;have hb:(((xs[j]?.getD 0:Nat):Int) == 0)=false:=by rw[beq_eq_false_iff_ne];omega
    generalize hsg:xs[j]?.getD 0=s at *;have H2:=hid hsg;clear hsg hz;go_wp2_with fail
    go_ret
    have hlt:(xs.take (j+1)).length=j+1:=by rw[length_take];omega
    refine⟨_,rfl,⟨xs.take (j+1),⟨⟨some ⟨b,off,none⟩,j+1,by rw[hlt];rfl,by omega,by unfold maxLen;omega,fun _=>⟨b,off,rfl,?_⟩⟩,HO.out.take _,?_⟩,Zp (by omega) (by rw[H2.out];intro h;subst h;simp at hb),HV.out⟩,rfl⟩
    ·intro i hi;rw[HRow.out i (by omega),List.getElem?_take,if_pos (by omega)]
    ·intro a n c e _;injection e with e
     exact HTy.out a _ _ (by rw[e]) (by omega)
  ·obtain rfl:k=0:=by omega
   clear hk0;go_wp2_with fail
   go_ret
   refine⟨_,rfl,⟨[],⟨⟨ao,0,rfl,by simp,by unfold maxLen;omega,fun h=>absurd h (by simp)⟩,Ok.nil,fun a n c e hn=>by injection e with _ e;omega⟩,fun h=>absurd rfl h,by simpa using HV.out⟩,rfl⟩
theorem Kl (x:Nat) (w:World) (hx:x<B):Calls Tryz.prog 72 #[u x] w (EG w x):=by
 go_enter Tryz.func72,Tryz.ntmps72
 go_wp2_with fail;have hb:Blk (w.alloc (.cells ([x].map u).toArray 47)) w.heap.size [x]:=Blk.new w [x];have hs:=Sl.of_blk hb (Ok.nil.cons hx) 0 1 1 (by simp) (by simp) (by unfold maxLen;omega);refine(ub [x] _ _ hs (by simp)).mono ?_;rintro e w' ⟨v,rfl,hn,rfl⟩;go_wp2_with fail
 go_ret
 exact⟨v,rfl,by simpa [val] using hn,(Below.refl _ _).alloc (le_refl _) _⟩
theorem zT:(Tryz.prog.info? 47).map (fun i=>(i.zero,i.size,i.bytes))=some (some (.int .u64 0),1,8):=by kernel_rfl
def cfU (w:World) (xs:List Nat) (e:Ending) (w':World):Prop :=
 ∃ b cap,e=.returned (.slice (some ⟨b,0,none⟩) xs.length cap)/\w.heap.size<=b/\Blk w' b xs/\xs.length<=cap/\cap<=maxLen/\Below w.heap.size w w'
theorem KB (a:Addr) (xs:List Nat) (cap:Nat) (w:World) (hbig:(xs.length:Int)<=1099511627776) (hr:∀ j,j<xs.length->w.cell? (a.add j)=some (u (xs[j]?.getD 0))) :
 Calls Tryz.prog 112 #[.slice (some a) xs.length cap] w (cfU w xs):=by
 obtain⟨i0,hi,hz0,hz1,hz2⟩:=info_parts zT;have q:∀ (w:World) (a:Option Addr) (n c n' c':Nat),(binOp .eql 97 (.slice a n c) (.slice none n' c')).run Tryz.prog w=.ok (.bool a.isNone) w:=fun w a n c n' c'=>Lib.run_eql_slice_nil w _ _ a n c n' c' Tryz.underlying97;have A:=hid hr;clear hr
 go_enter Tryz.func112,Tryz.ntmps112
 go_wp2_with (at_builtin;refine wpList_append_own _ rfl _ _ 97 rfl w.heap.size 47 i0 (.int .u64 0) 1 8 Tryz.underlying97 hi hz0 hz1 hz2 rfl (by decide) _ _ _ rfl (World.ownsRow_made w #[] 0 (le_refl _) (zero_le _) rfl) a xs.length cap (xs.map u) rfl ?qc1 ?qc2 ?qc3 ?qc4 ?qc5 ?qc6 ?_)
 case qc1=>simp
 case qc2 =>
  intro j v hj;have hjn:j<xs.length:=by
   have:=(List.getElem?_eq_some_iff.1 hj).1;simpa using this
  refine Lib.cell?_alloc_some _ ?_;rw[A.out j hjn];rw[List.getElem?_map,List.getElem?_eq_getElem hjn] at hj;rw[List.getElem?_eq_getElem hjn];exact hj
 case qc3=>intro v hv;obtain⟨x,_,rfl⟩:=List.mem_map.1 hv;rfl
 case qc4=>unfold maxLen;omega
 case qc5=>omega
 case qc6=>simp
 intro v' w1 hown hgrow hnil;go_wp2
 go_ret
 obtain⟨b,cap',rfl,hb,hB,hl,h1,h2⟩:=Blk.of_owned (xs:=xs) (by simpa using hown) hnil;refine⟨b,cap',rfl,hb,hB,by omega,h2,?_⟩;exact((Below.refl _ w).alloc (le_refl _) _).grown hgrow (by simp) (by intro k hk;simp [Value.ownBlock] at hk;omega)
theorem cgE (n cap:Nat) (w:World) :
 Calls Tryz.prog 112 #[.slice none n cap] w fun e w'=>e=.returned (.slice none 0 0)/\w=w':=by
 have q:∀ (w:World) (a:Option Addr) (n c n' c':Nat),(binOp .eql 97 (.slice a n c) (.slice none n' c')).run Tryz.prog w=.ok (.bool a.isNone) w:=fun w a n c n' c'=>Lib.run_eql_slice_nil w _ _ a n c n' c' Tryz.underlying97
 go_enter Tryz.func112,Tryz.ntmps112
 go_wp2
 go_ret
 exact⟨rfl,rfl⟩
theorem ccO {xs:List Nat}(ht:Yi xs) (hv:val xs=1):xs=[1]:=by
 have hl:=cg.len (k:=1) ht hv (by decide);rcases xs with _|⟨x,_|⟨y,xs⟩⟩
 ·simp [val] at hv
 ·simp [val] at hv;rw[hv]
 ·simp at hl
theorem YU (v:Value) (n:Nat) (w:World) (h:cg w v n) :
 Calls Tryz.prog 153 #[v] w (fun e w'=>e=.returned (.bool (decide (n=1)))/\w=w'):=by
 obtain⟨xs,⟨⟨xa,xc,rfl,h1,h2,hr⟩,ok⟩,ht,rfl⟩:=h;unfold maxLen at h2;by_cases hl:xs.length=1
 ·obtain⟨x,rfl⟩:∃ x,xs=[x]:=by
   rcases xs with _|⟨x,_|⟨z,xs⟩⟩
   ·simp at hl
   ·exact⟨x,rfl⟩
   ·simp at hl
  obtain⟨b,o,rfl,row⟩:=hr (by simp);have cx:w.cell? ⟨b,o,none⟩=some (u x):=row 0 (by simp);have hv:val [x]=x:=by simp [val]
  rw[hv];clear hv row hr ok ht hl;simp only[List.length_singleton] at *;have hb:(((x:Nat):Int) == 1)=decide (x=1):=by rw[Bool.eq_iff_iff];simp;omega
  go_enter Tryz.func153,Tryz.ntmps153
  go_wp2_with fail
  go_ret
  exact⟨rfl,rfl⟩
 ·have hb:(((xs.length:Nat):Int) == 1)=false:=by rw[beq_eq_false_iff_ne];omega
  have hn:decide (val xs=1)=false:=by
   rw[decide_eq_false_iff_not];intro e;have:=ccO ht e;subst this;exact hl rfl
  rw[hn];clear hr ok ht hl hn
  go_enter Tryz.func153,Tryz.ntmps153
  go_wp2_with fail
  go_ret
  exact⟨rfl,rfl⟩
theorem GW (v:Value) (n:Nat) (w:World) (h:cg w v n) (hn:n=1) :
 Calls Tryz.prog 153 #[v] w (fun e w'=>e=.returned (.bool true)/\w=w'):=by
 have:=YU v n w h
 rwa [decide_eq_true hn] at this
theorem ER (v:Value) (n:Nat) (w:World) (h:cg w v n) (hn:¬ n=1) :
 Calls Tryz.prog 153 #[v] w (fun e w'=>e=.returned (.bool false)/\w=w'):=by
 have:=YU v n w h
 rwa [decide_eq_false hn] at this
theorem cdh (n:Nat):(madeCells #[Value.int .u64 0] n).toList=(List.replicate n 0).map u:=by
 have h:(fun x=>(#[Value.int .u64 0]:Array Value)[x%1]!)=fun _=>u 0:=by funext x;simp [Nat.mod_one]
 show ((Array.range n).map (fun x=>(#[Value.int .u64 0]:Array Value)[x%1]!)).toList=_;rw[h];simp [List.map_const']
theorem zQ {w w1:World}{n:Nat}(hown:w1.ownsRow w.heap.size 47 1 (.slice (some ⟨w.heap.size,0,none⟩) n n) n (madeCells #[Value.int .u64 0] n).toList)
 (hgrow:w.grownBy w1 none):Blk w1 w.heap.size (List.replicate n 0)/\Below w.heap.size w w1:=by
 rw[cdh] at hown;obtain⟨b,cap,hv,hb,hB,hl,h1,h2⟩:=Blk.of_owned hown (by simp);injection hv with hv1 hv2 hv3
 injection hv1 with hv1
 injection hv1 with hv1
 subst hv1;exact⟨hB,(Below.refl _ w).grown hgrow (le_refl _) (by intro k hk;cases hk)⟩
theorem cbI:(Tryz.prog.info? 47).map (·.size)=some 1:=by kernel_rfl
theorem cdm (xs:List Nat) (r:Nat) (T:List Value):splice ((List.replicate (xs.length+r) 0).map u++T) 0 (xs.map u)=(xs++List.replicate r 0).map u++T:=by
 simp only[splice,List.take_zero,nil_append,zero_add,List.length_map,List.map_append,append_assoc,List.map_replicate];rw[List.drop_append_of_le_length (by simp)];simp
theorem Us (xs:List Nat) (T:List Value):splice (List.replicate (xs.length+1) (u 0)++T) 0 (xs.map u)=(xs++[0]).map u++T:=by
 have:=cdm xs 1 T;rw[List.map_replicate] at this;exact this
theorem ceu {w:World}{xa:Option Addr}{xs:List Nat}(h:0<xs.length->∃ b off,xa=some ⟨b,off,none⟩/\Row w b off xs) {w1:World}{N:Nat}(hb:Below N w w1) (hN:w.heap.size<=N) :
 0<(xs.map u).length->∃ ad,xa=some ad/\∀ j v,(xs.map u)[j]?=some v->w1.cell? (ad.add j)=some v:=by
 intro hp;rw[List.length_map] at hp;obtain⟨b,off,rfl,hr⟩:=h hp;refine⟨_,rfl,fun j v hv=>?_⟩;have hj:j<xs.length:=by have:=(List.getElem?_eq_some_iff.1 hv).1;simpa using this
 rw[Addr.add_lit];rw[(hr.below hb (lt_of_lt_of_le (hr.lt hp) hN)) j hj];rw[List.getElem?_map,List.getElem?_eq_getElem hj] at hv;rw[List.getElem?_eq_getElem hj];exact hv
theorem Ke {w:World}{xa:Option Addr}{xs:List Nat}(h:0<xs.length->∃ b off,xa=some ⟨b,off,none⟩/\Row w b off xs) {w1:World}{N:Nat}(hb:Below N w w1) (hN:w.heap.size<=N) :
 0<xs.length->∃ b off,xa=some ⟨b,off,none⟩/\b≠w.heap.size/\Row w1 b off xs:=by
 intro hp;obtain⟨b,off,rfl,hr⟩:=h hp;have:=hr.lt hp;exact⟨b,off,rfl,by omega,hr.below hb (by omega)⟩
theorem WB:2<=B:=by decide
theorem ccM {xs ys L':List Nat}{c:Nat}(h:yZ (xs++[0]) L' 0 (xs.length+1) (val ys) c) :
 val L'+B^xs.length*B*c=val xs+val ys:=by
 have h1:=h.sum;have e:val (xs++[0])=val xs:=by rw[Ec,chH,val_nil];simp
 rw[zero_add,Nat.pow_zero,one_mul,e,pow_succ] at h1;exact h1
theorem chl (P Q V X Y c:Nat) (Bs:Nat) (h1:V+P*Bs*c=X+Y) (hX:X<P) (hY:Y<Q) (h4:Q<=P) (h2:2<=Bs):V=X+Y:=by
 rcases eq_zero_or_pos c with h0|h0
 ·subst h0;simpa using h1
 ·have h5:P*2<=P*Bs:=mul_le_mul_left _ h2;have h6:P*Bs*1<=P*Bs*c:=mul_le_mul_left _ h0;omega
theorem ZC {xs ys L':List Nat}{c:Nat}(h:yZ (xs++[0]) L' 0 (xs.length+1) (val ys) c) (ok1:Ok xs) (ok2:Ok ys) (hl:ys.length<=xs.length) :
 val L'=val xs+val ys :=
 chl _ _ _ _ _ _ _ (ccM h) (js ok1) (js ok2) (pow_le_pow_right jk hl) WB
theorem chD (v1 v2:Value) (m n k:Nat) (w:World) (h1:cg w v1 m) (h2:cg w v2 n) (hm:m<B^k) (hn:n<B^k) (hk:(k:Int)<=1073741824) :
 Calls Tryz.prog 163 #[v1,v2] w (EG w (m+n)):=by
 obtain⟨xs,s1,t1,e1⟩:=h1;obtain⟨ys,s2,t2,e2⟩:=h2;have lx:=cg.len t1 e1 hm;have ly:=cg.len t2 e2 hn;obtain⟨⟨xa,xc,rfl,hc1,hc2,hr1⟩,ok1⟩:=s1;obtain⟨⟨ya,yc,rfl,hd1,hd2,hr2⟩,ok2⟩:=s2;obtain⟨i0,hi,hz0,hz1,hz2⟩:=info_parts zT;unfold maxLen at hc2 hd2;by_cases hl:xs.length<ys.length
 ·have HR2:=hid hr2;have HR1:=hid hr1;have HO2:=hid ok2;have HO1:=hid ok1;have HE2:=hid e2;have HE1:=hid e1;clear hr2 hr1 ok2 ok1 e2 e1 t1 t2 hm hn
  go_enter Tryz.func163,Tryz.ntmps163
  go_wp2_with (at_make;refine wpList_make_full _ rfl _ _ 96 rfl w.heap.size 47 i0 (.int .u64 0) 1 Tryz.underlying96 hi hz0 hz1 _ _ _ _ (ys.length+1) rfl rfl (by omega) (by omega) ?qd2 ?qd3 ?qd4 ?_)
  case qd2=>rw[hz2];omega
  case qd3=>unfold maxLen;omega
  case qd4=>exact le_refl _
  intro w1 hown hgrow;obtain⟨hB1,hbel⟩:=zQ hown hgrow;clear hown hgrow;obtain⟨T,hT⟩:=hB1;have HT:=hid hT;have HBel:=hid hbel;clear hT hbel;go_wp2_with (with_reducible refine wpList_copy_splice rfl (.tmp 17) (.tmp 18) 96 97 rfl 47 Tryz.underlying96 cbI _ _ _ _ _ _ rfl rfl w.heap.size 0 _ _ HT.out (ys.map u) ?qe1 ?qe2 ?qe3 ?qe4 w.heap.size w HBel.out (le_refl _) ?_)
  case qe1=>simp
  case qe2=>simpa using ceu HR2.out HBel.out (le_refl _)
  case qe3=>simp;omega
  case qe4=>intro v hv;obtain⟨x,_,rfl⟩:=List.mem_map.1 hv;rfl
  intro w2 hT2 hbel2;have hB2:Blk w2 w.heap.size (ys++[0]):=⟨T,by have:=hT2.out;rw[this,Us ys T]⟩;clear hT2 HT HBel;have HB2:=hid hB2;have HBel2:=hid hbel2;clear hB2 hbel2;go_wp2_with fail;refine(zk w.heap.size 0 (ys.length+1) _ _ (ys++[0]) xs xa w2 HB2.out (by simp) (by omega) (by omega) (HO2.out.append (Ok.nil.cons jk)) HO1.out (Ke HR1.out HBel2.out (le_refl _))).mono ?_;rintro e w3 ⟨rfl,hO3,c,L',hB3,hA⟩;have hv:=ZC hA HO2.out HO1.out (by omega);have hlen:L'.length=ys.length+1:=by rw[hA.len];simp
  have hs:=Sl.of_blk hB3 hA.ok 0 (ys.length+1) (ys.length+1) (by omega) (le_refl _) (by unfold maxLen;omega);rw[drop_zero,← hlen,take_length,hlen] at hs;have hb3:Below w.heap.size w w3:=HBel2.out.trans (hO3.below (le_refl _));have HS:=hid hs;have HB3:=hid hb3;have HV:=hid hv;have HLen:=hid hlen;clear hs hb3 hv hlen hA hB3 hO3;go_wp2_with fail;refine(ub L' _ _ HS.out (by rw[HLen.out];omega)).mono ?_;rintro e w4 ⟨v,rfl,hnat,rfl⟩;have HN:=hid hnat;clear hnat;go_wp2_with fail
  go_ret
  refine⟨v,rfl,?_,HB3.out⟩;have:=HN.out;rw[HV.out,HE2.out,HE1.out,Nat.add_comm] at this;exact this
 ·have HR1:=hid hr1;have HR2:=hid hr2;have HO1:=hid ok1;have HO2:=hid ok2;have HE1:=hid e1;have HE2:=hid e2;clear hr1 hr2 ok1 ok2 e1 e2 t1 t2 hm hn
  go_enter Tryz.func163,Tryz.ntmps163
  go_wp2_with (at_make;refine wpList_make_full _ rfl _ _ 96 rfl w.heap.size 47 i0 (.int .u64 0) 1 Tryz.underlying96 hi hz0 hz1 _ _ _ _ (xs.length+1) rfl rfl (by omega) (by omega) ?qb2 ?qb3 ?qb4 ?_)
  case qb2=>rw[hz2];omega
  case qb3=>unfold maxLen;omega
  case qb4=>exact le_refl _
  intro w1 hown hgrow;obtain⟨hB1,hbel⟩:=zQ hown hgrow;clear hown hgrow;obtain⟨T,hT⟩:=hB1;have HT:=hid hT;have HBel:=hid hbel;clear hT hbel;go_wp2_with (with_reducible refine wpList_copy_splice rfl (.tmp 17) (.tmp 18) 96 97 rfl 47 Tryz.underlying96 cbI _ _ _ _ _ _ rfl rfl w.heap.size 0 _ _ HT.out (xs.map u) ?qc1 ?qc2 ?qc3 ?qc4 w.heap.size w HBel.out (le_refl _) ?_)
  case qc1=>simp
  case qc2=>simpa using ceu HR1.out HBel.out (le_refl _)
  case qc3=>simp;omega
  case qc4=>intro v hv;obtain⟨x,_,rfl⟩:=List.mem_map.1 hv;rfl
  intro w2 hT2 hbel2;have hB2:Blk w2 w.heap.size (xs++[0]):=⟨T,by have:=hT2.out;rw[this,Us xs T]⟩;clear hT2 HT HBel;have HB2:=hid hB2;have HBel2:=hid hbel2;clear hB2 hbel2;go_wp2_with fail;refine(zk w.heap.size 0 (xs.length+1) _ _ (xs++[0]) ys ya w2 HB2.out (by simp) (by omega) (by omega) (HO1.out.append (Ok.nil.cons jk)) HO2.out (Ke HR2.out HBel2.out (le_refl _))).mono ?_;rintro e w3 ⟨rfl,hO3,c,L',hB3,hA⟩;have hv:=ZC hA HO1.out HO2.out (by omega);have hlen:L'.length=xs.length+1:=by rw[hA.len];simp
  have hs:=Sl.of_blk hB3 hA.ok 0 (xs.length+1) (xs.length+1) (by omega) (le_refl _) (by unfold maxLen;omega);rw[drop_zero,← hlen,take_length,hlen] at hs;have hb3:Below w.heap.size w w3:=HBel2.out.trans (hO3.below (le_refl _));have HS:=hid hs;have HB3:=hid hb3;have HV:=hid hv;have HLen:=hid hlen;clear hs hb3 hv hlen hA hB3 hO3;go_wp2_with fail;refine(ub L' _ _ HS.out (by rw[HLen.out];omega)).mono ?_;rintro e w4 ⟨v,rfl,hnat,rfl⟩;have HN:=hid hnat;clear hnat;go_wp2_with fail
  go_ret
  refine⟨v,rfl,?_,HB3.out⟩;have:=HN.out;rw[HV.out,HE1.out,HE2.out] at this;exact this
theorem cdf {xs ys L L':List Nat}{k c:Nat}(hv:val L=val (xs.take k)*val ys) (hk:k<xs.length) (hL:L.length=xs.length+ys.length)
 (h:yZ L L' k (xs.length+ys.length-k) (xs[k]?.getD 0*val ys) c) (ok1:Ok xs) (ok2:Ok ys):val L'=val (xs.take (k+1))*val ys:=by
 have h1:=h.sum;have e:val (xs.take (k+1))*val ys=val L+B^k*(xs[k]?.getD 0*val ys):=by
  rw[cQ xs k hk,add_mul,hv,mul_assoc]
 rw[← e] at h1;have hlt:val (xs.take (k+1))*val ys<B^(xs.length+ys.length):=by
  have h2:=js (ok1.take (k+1));rw[length_take,min_eq_left (by omega)] at h2;have h3:=js ok2;have h4:val (xs.take (k+1))*val ys<B^(k+1)*B^ys.length:=Nat.mul_lt_mul'' h2 h3;have h5:B^(k+1)*B^ys.length<=B^(xs.length+ys.length):=by
   rw[← pow_add];exact pow_le_pow_right jk (by omega)
  omega
 rw[show k+(xs.length+ys.length-k)=xs.length+ys.length from by omega] at h1;rcases eq_zero_or_pos c with h0|h0
 ·subst h0;simpa using h1
 ·have:B^(xs.length+ys.length)*1<=B^(xs.length+ys.length)*c:=mul_le_mul_left _ h0;omega
set_option maxRecDepth 100000 in
theorem cdF (v1 v2:Value) (m n k:Nat) (w:World) (h1:cg w v1 m) (h2:cg w v2 n) (hm:m<B^k) (hn:n<B^k) (hk:(k:Int)<=1073741824) (o1:¬ m=1) (o2:¬ n=1) :
 Calls Tryz.prog 129 #[v1,v2] w (EG w (m*n)):=by
 have HI1:=hid (ER v1 m w h1 o1);have HI2:=hid (ER v2 n w h2 o2);clear o1 o2;obtain⟨xs,s1,t1,e1⟩:=h1;obtain⟨ys,s2,t2,e2⟩:=h2;have lx:=cg.len t1 e1 hm;have ly:=cg.len t2 e2 hn;obtain⟨⟨xa,xc,rfl,hc1,hc2,hr1⟩,ok1⟩:=s1;obtain⟨⟨ya,yc,rfl,hd1,hd2,hr2⟩,ok2⟩:=s2;obtain⟨i0,hi,hz0,hz1,hz2⟩:=info_parts zT;unfold maxLen at hc2 hd2;have HR1:=hid hr1;have HR2:=hid hr2;have HO1:=hid ok1;have HO2:=hid ok2;have HE1:=hid e1;have HE2:=hid e2;clear hr1 hr2 ok1 ok2 e1 e2 t1 t2 hm hn;obtain⟨N,hN⟩:∃ N,N=xs.length+ys.length:=⟨_,rfl⟩;have HN:=hid hN;have hNmax:(N:Int)<=2147483648:=by omega
 clear hN
 go_enter Tryz.func129,Tryz.ntmps129
 go_wp2_with fail;refine HI1.out.mono ?_;rintro e w1 ⟨rfl,rfl⟩;go_wp2_with fail;refine HI2.out.mono ?_;rintro e w1 ⟨rfl,rfl⟩;clear HI1 HI2;go_wp2_with (at_make;refine wpList_make_full _ rfl _ _ 96 rfl w.heap.size 47 i0 (.int .u64 0) 1 Tryz.underlying96 hi hz0 hz1 _ _ _ _ N rfl rfl (by have:=HN.out;omega) (by have:=HN.out;omega) ?qb2 ?qb3 ?qb4 ?_)
 case qb2=>rw[hz2];omega
 case qb3=>unfold maxLen;omega
 case qb4=>exact le_refl _
 intro w1 hown hgrow;obtain⟨hB1,hbel⟩:=zQ hown hgrow;clear hown hgrow;have HB1:=hid hB1;have HBel:=hid hbel;clear hB1 hbel;go_wp2_with fail
 go_loopw [21] (fun i wr=>∃ k L,k<=xs.length/\i=.int .i64 (k:Int)/\Hid (Blk wr w.heap.size L/\L.length=N/\Ok L/\val L=val (xs.take k)*val ys)/\Hid (Below w.heap.size w wr)) (fun i _=>xs.length-(intOf i).toNat)
 case atStart=>exact⟨0,_,zero_le _,rfl,⟨HB1.out,by simp,Ok.replicate _,by rw[yV];simp [val]⟩,HBel.out⟩
 case round =>
  obtain⟨k,L,hk,rfl,hL,hBe⟩:=hrel;by_cases hlt:k<xs.length
  ·obtain⟨xb,xo,rfl,hxrow⟩:=HR1.out (by omega);have hxb:=hxrow.lt (by omega);have hxc:wr.cell? ⟨xb,xo+k,none⟩=some (u (xs[k]?.getD 0)):=(hBe.out.cell (p:=⟨xb,xo+k,none⟩) hxb).trans (hxrow k hlt);have hxl:xs[k]?.getD 0<B:=HO1.out.get k;generalize hxg:xs[k]?.getD 0=x at *;have HX:=hid hxg;clear hxg hxrow hi hz0 hz1 hz2;have hkN:(k:Int)<(N:Int):=by have:=HN.out;omega
   have hkN':(k:Int)<=(N:Int):=by omega
   have hk0:(0:Int)<=(k:Int):=by omega
   have hNk:¬ N=k:=by omega
   go_wp2_with fail
   go_region_held3 (fun w'=>w'.cell? ⟨xb,xo+k,none⟩=some (u x)) (go_keep) ((go_at_call 154;refine(zm w.heap.size k (N-k) _ yc L ys ya x wr.drew (show Blk wr.drew w.heap.size L from hL.out.1) (by have:=hL.out.2.1;omega) (by have:=HN.out;omega) (by omega) hxl hL.out.2.2.1 HO2.out (Ke HR2.out hBe.out.drew (le_refl _))).mono ?_;rintro e w' ⟨rfl,hO,c,L',hB',hA⟩;have hxc':=(hO.cell (p:=⟨xb,xo+k,none⟩) (Nat.ne_of_lt hxb)).trans hxc))
   have HB':=hid hB';have HA:=hid hA;have HO:=hid hO;clear hB' hA hO hxc' hNk;go_wp2_with fail
   go_roundw
   case rel =>
    refine⟨k+1,L',by omega,by go_num,⟨HB'.out,by rw[HA.out.len,hL.out.2.1],HA.out.ok,?_⟩,hBe.out.trans (Below.trans ((Below.refl _ wr).drew) (HO.out.below (le_refl _)))⟩;have hN:=HN.out;have hA2:=HA.out;rw[← HX.out,hN] at hA2;exact cdf hL.out.2.2.2 hlt (by rw[hL.out.2.1,hN]) hA2 HO1.out HO2.out
   case measure=>simp [intOf];omega
  ·obtain rfl:k=xs.length:=by omega
   obtain⟨hb,hl,ho,hv⟩:=hL.out;have hs:=Sl.of_blk hb ho 0 N N (by omega) (le_refl _) (by unfold maxLen;omega);rw[drop_zero,← hl,take_length,hl] at hs;rw[take_length,HE1.out,HE2.out] at hv;have HS:=hid hs;have HV:=hid hv;have HLen:=hid hl;clear hs hv hl hb ho;go_wp2_with fail;refine(ub L _ _ HS.out (by rw[HLen.out];omega)).mono ?_;rintro e w4 ⟨v,rfl,hnat,rfl⟩;have HN2:=hid hnat;clear hnat;go_wp2_with fail
   go_ret
   refine⟨v,rfl,?_,hBe.out⟩;have:=HN2.out;rw[HV.out] at this;exact this
theorem yA (v1 v2:Value) (m n k:Nat) (w:World) (h1:cg w v1 m) (h2:cg w v2 n) (hm:m<B^k) (hn:n<B^k) (hk:(k:Int)<=1073741824) :
 Calls Tryz.prog 129 #[v1,v2] w (EG w (m*n)):=by
 by_cases o1:m=1
 ·have HI1:=hid (GW v1 m w h1 o1);have H2:=hid h2;subst o1;obtain⟨xs,⟨⟨xa,xc,rfl,_⟩,_⟩,_⟩:=h1;obtain⟨ys,⟨⟨ya,yc,rfl,_⟩,_⟩,_⟩:=h2;clear hm hn hk
  go_enter Tryz.func129,Tryz.ntmps129
  go_wp2_with fail;refine HI1.out.mono ?_;rintro e w1 ⟨rfl,rfl⟩;go_wp2_with fail
  go_ret
  refine⟨_,rfl,?_,Below.refl _ _⟩;rw[one_mul];exact H2.out
 ·by_cases o2:n=1
  ·have HI1:=hid (ER v1 m w h1 o1);have HI2:=hid (GW v2 n w h2 o2);have H1:=hid h1;subst o2;obtain⟨xs,⟨⟨xa,xc,rfl,_⟩,_⟩,_⟩:=h1;obtain⟨ys,⟨⟨ya,yc,rfl,_⟩,_⟩,_⟩:=h2;clear hm hn hk o1
   go_enter Tryz.func129,Tryz.ntmps129
   go_wp2_with fail;refine HI1.out.mono ?_;rintro e w1 ⟨rfl,rfl⟩;go_wp2_with fail;refine HI2.out.mono ?_;rintro e w1 ⟨rfl,rfl⟩;go_wp2_with fail
   go_ret
   refine⟨_,rfl,?_,Below.refl _ _⟩;rw[mul_one];exact H1.out
  ·exact cdF v1 v2 m n k w h1 h2 hm hn hk o1 o2
theorem Ky (ao ya:Option Addr) (c yc:Nat) (w:World) :
 Calls Tryz.prog 172 #[.slice ao 0 c,.slice ya 0 yc,.int .u64 1] w fun e w'=>e=.returned (.int .u64 0)/\w=w':=by
 go_enter Tryz.func172,Tryz.ntmps172
 go_wp2_with fail;refine wp_loop_rounds 1 ?_;rw[rounds_succ];go_wp2_with fail;refine wp_loop_rounds 1 ?_;rw[rounds_succ];go_wp2_with fail
 go_ret
 exact⟨rfl,rfl⟩
theorem cgw (P V X Y c:Nat) (h1:V+Y=X+P*c) (hV:V<P) (h:Y<=X):V=X-Y:=by
 rcases eq_zero_or_pos c with h0|h0
 ·subst h0;omega
 ·have h6:P*1<=P*c:=mul_le_mul_left _ h0;omega
theorem cfN {L L':List Nat}{x c n:Nat}(h:yj L L' 0 n x c) (hn:L.length=n) (hle:x<=val L):val L'=val L-x:=by
 have h1:=h.sum;rw[zero_add,Nat.pow_zero,one_mul] at h1;have h2:=js h.ok;rw[h.len,hn] at h2;exact cgw _ _ _ _ _ h1 h2 hle
theorem rows_at {w:World}{a:Addr}{xs:List Nat}(h:0<xs.length->∃ b off,some a=some ⟨b,off,none⟩/\Row w b off xs):∀ j,j<xs.length->w.cell? (a.add j)=some (u (xs[j]?.getD 0)):=by
 intro j hj;obtain⟨b,off,ha,hr⟩:=h (by omega);injection ha with ha
 subst ha;rw[Addr.add_lit];exact hr j hj
theorem cgY {w:World}{xa:Option Addr}{xs:List Nat}(h:0<xs.length->∃ b off,xa=some ⟨b,off,none⟩/\Row w b off xs) {w1:World}{N c:Nat}(hb:Below N w w1) (hN:w.heap.size<=N) (hc:w.heap.size<=c) :
 0<xs.length->∃ b off,xa=some ⟨b,off,none⟩/\b≠c/\Row w1 b off xs:=by
 intro hp;obtain⟨b,off,rfl,hr⟩:=h hp;have:=hr.lt hp;exact⟨b,off,rfl,by omega,hr.below hb (by omega)⟩
theorem Zo (v1 v2:Value) (m n k:Nat) (w:World) (h1:cg w v1 m) (h2:cg w v2 n) (hm:m<B^k) (hnm:n<=m) (hk:(k:Int)<=1073741824) :
 Calls Tryz.prog 164 #[v1,v2] w (EG w (m-n)):=by
 obtain⟨xs,s1,t1,e1⟩:=h1;obtain⟨ys,s2,t2,e2⟩:=h2;have lx:=cg.len t1 e1 hm;have ly:ys.length<=xs.length:=up t2 s1.ok (by omega);obtain⟨⟨xa,xc,rfl,hc1,hc2,hr1⟩,ok1⟩:=s1;obtain⟨⟨ya,yc,rfl,hd1,hd2,hr2⟩,ok2⟩:=s2;unfold maxLen at hc2 hd2;rcases xa with _|a
 ·have hx0:xs=[]:=by
   rcases xs with _|⟨x,xs⟩
   ·rfl
   ·obtain⟨b,off,h,_⟩:=hr1 (by simp);cases h
  subst hx0;have hy0:ys=[]:=by simpa using ly
  subst hy0;simp only[val] at e1 e2;subst e1;subst e2;clear hr1 hr2 ok1 ok2 t1 t2 hm hnm lx ly
  go_enter Tryz.func164,Tryz.ntmps164
  go_wp2_with fail;refine(cgE _ _ _).mono ?_;rintro e w' ⟨rfl,rfl⟩;go_wp2_with fail;refine(Ky none ya 0 yc w).mono ?_;rintro e w' ⟨rfl,rfl⟩;go_wp2_with fail;refine(ub [] _ _ (Sl.nil w) (by simp)).mono ?_;rintro e w' ⟨v,rfl,hnat,rfl⟩;have HN:=hid hnat;clear hnat;go_wp2_with fail
  go_ret
  exact⟨v,rfl,HN.out,Below.refl _ _⟩
 ·have HR1:=hid (rows_at hr1);have HR2:=hid hr2;have HO1:=hid ok1;have HO2:=hid ok2;have HE1:=hid e1;have HE2:=hid e2;clear hr1 hr2 ok1 ok2 e1 e2 t1 t2 hm
  go_enter Tryz.func164,Tryz.ntmps164
  go_wp2_with fail;refine(KB a xs xc w (by omega) HR1.out).mono ?_;rintro e w1 ⟨b,cap,rfl,hb,hB1,hcap1,hcap2,hbel⟩;have HB1:=hid hB1;have HBel:=hid hbel;clear hB1 hbel;go_wp2_with fail;refine(KK b 0 xs.length cap yc xs ys ya w1 HB1.out (by omega) ly (by omega) HO1.out HO2.out (cgY HR2.out HBel.out (le_refl _) hb)).mono ?_;rintro e w3 ⟨c,L',hc,rfl,hO3,hB3,hA⟩;have hv:=cfN hA rfl (by rw[HE1.out,HE2.out];exact hnm);have hlen:L'.length=xs.length:=hA.len;have hs:=Sl.of_blk hB3 hA.ok 0 xs.length cap (by omega) hcap1 hcap2;rw[drop_zero,← hlen,take_length,hlen] at hs;have hb3:Below w.heap.size w w3:=HBel.out.trans (hO3.below hb);rw[HE1.out,HE2.out] at hv;have HS:=hid hs;have HB3:=hid hb3;have HV:=hid hv;have HLen:=hid hlen;clear hs hb3 hv hlen hA hB3 hO3;go_wp2_with fail;refine(ub L' _ _ HS.out (by rw[HLen.out];omega)).mono ?_;rintro e w4 ⟨v,rfl,hnat,rfl⟩;have HN:=hid hnat;clear hnat;go_wp2_with fail
  go_ret
  refine⟨v,rfl,?_,HB3.out⟩;have:=HN.out;rw[HV.out] at this;exact this
theorem chX (P f m g n V1 V2 c c2:Nat) (h1:V1+P*c=f*m) (h2:V2+g*n=V1+P*c2) (hle:g*n<=f*m) (hD:f*m-g*n<P) (hV:V2<P):V2=f*m-g*n:=by
 have h3:V2+P*c=(f*m-g*n)+P*c2:=by omega
 exact(JK h3 hV hD).1
theorem ym (v1 v2:Value) (f g m n k:Nat) (w:World) (h1:cg w v1 m) (h2:cg w v2 n) (hf:f<B) (hg:g<B) (hle:g*n<=f*m)
 (hD:f*m-g*n<=m\/f*m-g*n<=n) (hm:m<B^k) (hn:n<B^k) (hk:(k:Int)<=1073741824) :
 Calls Tryz.prog 168 #[u f,v1,u g,v2] w (EG w (f*m-g*n)):=by
 obtain⟨xs,s1,t1,rfl⟩:=h1;obtain⟨ys,s2,t2,rfl⟩:=h2;have lx:=cg.len t1 rfl hm;have ly:=cg.len t2 rfl hn;obtain⟨⟨xa,xc,rfl,hc1,hc2,hr1⟩,ok1⟩:=s1;obtain⟨⟨ya,yc,rfl,hd1,hd2,hr2⟩,ok2⟩:=s2;unfold maxLen at hc2 hd2;obtain⟨N,hN⟩:∃ N,N=max xs.length ys.length:=⟨_,rfl⟩;have hNx:xs.length<=N:=by omega
 have hNy:ys.length<=N:=by omega
 have hDN:f*val xs-g*val ys<B^N:=by
  have h1:=js ok1;have h2:=js ok2;have h3:B^xs.length<=B^N:=pow_le_pow_right jk hNx;have h4:B^ys.length<=B^N:=pow_le_pow_right jk hNy;omega
 have hNmax:(N:Int)<=1073741824:=by omega
 have HN:=hid hN;have HDN:=hid hDN;have HLE:=hid hle;have HR1:=hid hr1;have HR2:=hid hr2;have HO1:=hid ok1;have HO2:=hid ok2;clear hr1 hr2 ok1 ok2 t1 t2 hm hn hN hD hDN hle;obtain⟨i0,hi,hz0,hz1,hz2⟩:=info_parts zT
 go_enter Tryz.func168,Tryz.ntmps168
 go_wp2_with (at_make;refine wpList_make_full _ rfl _ _ 96 rfl w.heap.size 47 i0 (.int .u64 0) 1 Tryz.underlying96 hi hz0 hz1 _ _ _ _ N rfl rfl (by have:=HN.out;omega) (by have:=HN.out;omega) ?qb2 ?qb3 ?qb4 ?_)
 case qb2=>rw[hz2];omega
 case qb3=>unfold maxLen;omega
 case qb4=>exact le_refl _
 intro w1 hown hgrow;obtain⟨hB1,hbel⟩:=zQ hown hgrow;clear hown hgrow hi hz0 hz1 hz2;have HB1:=hid hB1;have HBel:=hid hbel;clear hB1 hbel;go_wp2_with fail;refine(zm w.heap.size 0 N _ _ (List.replicate N 0) xs xa f w1 HB1.out (by simp) hNx (by omega) hf (Ok.replicate _) HO1.out (Ke HR1.out HBel.out (le_refl _))).mono ?_;rintro e w2 ⟨rfl,hO2,c,L1,hB2,hA1⟩;have HB2:=hid hB2;have HO2':=hid hO2;have HA1:=hid hA1;have HBel2:=hid (HBel.out.trans (hO2.below (le_refl _)));have hl1:L1.length=N:=by rw[hA1.len];simp
 have HL1:=hid hl1;clear hB2 hO2 hA1 hl1;go_wp2_with fail;refine(yF w.heap.size 0 N _ _ L1 ys ya g w2 HB2.out (by have:=HL1.out;omega) hNy (by omega) hg HA1.out.ok HO2.out (Ke HR2.out HBel2.out (le_refl _))).mono ?_;rintro e w3 ⟨c2,L2,hc2',rfl,hO3,hB3,hA2⟩;have hl2:L2.length=N:=by rw[hA2.len,HL1.out]
 have hv:val L2=f*val xs-g*val ys:=by
  have s1:=HA1.out.sum;have s2:=hA2.sum;rw[yV,Nat.pow_zero,one_mul,zero_add,zero_add] at s1;rw[Nat.pow_zero,one_mul,zero_add] at s2;have hV:=js hA2.ok;rw[hl2] at hV;exact chX _ _ _ _ _ _ _ _ _ s1 s2 HLE.out HDN.out hV
 have hs:=Sl.of_blk hB3 hA2.ok 0 N N (by omega) (le_refl _) (by unfold maxLen;omega);rw[drop_zero,← hl2,take_length,hl2] at hs;have HS:=hid hs;have HV:=hid hv;have HL2:=hid hl2;have HB3:=hid (HBel2.out.trans (hO3.below (le_refl _)));clear hs hv hl2 hB3 hO3 hA2;go_wp2_with fail;refine(ub L2 _ _ HS.out (by rw[HL2.out];omega)).mono ?_;rintro e w4 ⟨v,rfl,hnat,rfl⟩;rw[HV.out] at hnat;have HNat:=hid hnat;clear hnat;go_wp2_with fail
 go_ret
 exact⟨v,rfl,HNat.out,HB3.out⟩
end Go.Proofs.YtokieocpdcngcaaGreatDoor
