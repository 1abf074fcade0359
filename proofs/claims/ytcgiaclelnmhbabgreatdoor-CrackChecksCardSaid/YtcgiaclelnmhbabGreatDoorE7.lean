/- Part 7. -/
import Derived.Shelf.Spec.TrailingZeros
import Derived.Shelf.Small.Bits
import Derived.Shelf.Small.Wraps
import Derived.Shelf.Strconv.Itoa0
import Derived.Shelf.Bits.Mul64
import Derived.Ground.Names2Prog
import Derived.Shelf.Slices.Clone
import Derived.Shelf.Slices.SearchI
import Derived.Ground.SlgnProg
import Derived.Shelf.SlicesE.Clone
import Derived.Test.YtcgiaclelnmhbabGreatDoorProg
import Derived.Test.YtcgiaclelnmhbabGreatDoorE6
import Derived.Shelf.Spec.BitsCarry
import Derived.Laws.CopyOwn
set_option linter.all false

namespace Go.Proofs
open Go.Shelf
def Tryz.lays134_ren:Go.Shelf.Ren:=⟨fun|134=>123|129=>131|n=>n,fun|53=>42|3=>3|4=>4|46=>113|5=>5|9=>9|n=>n,fun|n=>n⟩
theorem Tryz.lays134:Go.Proofs.Lays.n134 Tryz.prog Tryz.lays134_ren:={
 mixed:=by kernel_rfl
 f129:=Tryz.func131.trans (congrArg some (by kernel_rfl))
 f134:=Tryz.func123.trans (congrArg some (by kernel_rfl))
 t3:=Tryz.underlying3
 a3:=Tryz.isAgg3
 z3:=Tryz.sizeOf3
 v3:=Tryz.zeroValue3
 t4:=Tryz.underlying4
 a4:=Tryz.isAgg4
 z4:=Tryz.sizeOf4
 v4:=Tryz.zeroValue4
 t5:=Tryz.underlying5
 a5:=Tryz.isAgg5
 z5:=Tryz.sizeOf5
 v5:=Tryz.zeroValue5
 t9:=Tryz.underlying9
 a9:=Tryz.isAgg9
 z9:=Tryz.sizeOf9
 v9:=Tryz.zeroValue9
 t46:=Tryz.underlying113
 a46:=Tryz.isAgg113
 z46:=Tryz.sizeOf113
 v46:=Tryz.zeroValue113
 t53:=Tryz.underlying42
 a53:=Tryz.isAgg42
 z53:=Tryz.sizeOf42
 v53:=Tryz.zeroValue42 }
theorem Tryz.bits_LeadingZeros64 (x:Int) (w:World) (h0:0<=x) (h1:x<=18446744073709551615) :
 Calls Tryz.prog 123 #[.int .u64 x] w fun e w'=>e=.returned (.int .i64 (64-(Lib.bitLen x.toNat:Int)))/\w'=w:=Any.bits_LeadingZeros64 Tryz.lays134 x w h0 h1
def Tryz.lays122_ren:Go.Shelf.Ren:=⟨fun|122=>73|215=>96|n=>n,fun|3=>3|4=>4|n=>n,fun|n=>n⟩
theorem Tryz.lays122:Go.Proofs.Lays.n122 Tryz.prog Tryz.lays122_ren:={
 mixed:=by kernel_rfl
 f122:=Tryz.func73.trans (congrArg some (by kernel_rfl))
 f215:=Tryz.func96.trans (congrArg some (by kernel_rfl))
 t3:=Tryz.underlying3
 a3:=Tryz.isAgg3
 z3:=Tryz.sizeOf3
 v3:=Tryz.zeroValue3
 t4:=Tryz.underlying4
 a4:=Tryz.isAgg4
 z4:=Tryz.sizeOf4
 v4:=Tryz.zeroValue4 }
open Go.RowKit in
theorem Tryz.cmp_Compare_int (x y:Int) (w:World) :
 Calls Tryz.prog 73 #[.int .i64 x,.int .i64 y] w fun e w'=>e=.returned (.int .i64 (Lib.compareInt x y))/\w'=w:=Any.cmp_Compare_int Tryz.lays122 x y w
def Tryz.lays264_ren:Go.Shelf.Ren:=⟨fun|264=>87|n=>n,fun|53=>42|46=>113|n=>n,fun|n=>n⟩
theorem Tryz.lays264:Go.Proofs.Lays.n264 Tryz.prog Tryz.lays264_ren:={
 mixed:=by kernel_rfl
 f264:=Tryz.func87.trans (congrArg some (by kernel_rfl))
 t46:=Tryz.underlying113
 a46:=Tryz.isAgg113
 z46:=Tryz.sizeOf113
 v46:=Tryz.zeroValue113
 t53:=Tryz.underlying42
 a53:=Tryz.isAgg42
 z53:=Tryz.sizeOf42
 v53:=Tryz.zeroValue42 }
open Go.RowKit Go.Lib in
theorem Tryz.bits_Mul64 (x y:Nat) (hx:x<18446744073709551616) (hy:y<18446744073709551616) (w:World) :
 Calls Tryz.prog 87 #[.int .u64 x,.int .u64 y] w fun e w'=>e=.returned (.tuple #[.int .u64 ((x*y/18446744073709551616:Nat):Int),.int .u64 ((x*y%18446744073709551616:Nat):Int)])/\w'=w:=Any.bits_Mul64 Tryz.lays264 x y hx hy w
def Tryz.lays7n29_ren:Go.Shelf.Ren:=⟨fun|29=>115|n=>n,fun|22=>42|3=>3|4=>4|25=>113|54=>181|0=>0|5=>5|n=>n,fun|1=>2|n=>n⟩
theorem Tryz.lays7n29:Go.Proofs.Lays7.n29 Tryz.prog Tryz.lays7n29_ren:={
 mixed:=by kernel_rfl
 f29:=Tryz.func115.trans (congrArg some (by kernel_rfl))
 t0:=Tryz.underlying0
 a0:=Tryz.isAgg0
 z0:=Tryz.sizeOf0
 v0:=Tryz.zeroValue0
 i0:=by kernel_rfl
 t3:=Tryz.underlying3
 a3:=Tryz.isAgg3
 z3:=Tryz.sizeOf3
 v3:=Tryz.zeroValue3
 i3:=by kernel_rfl
 t4:=Tryz.underlying4
 a4:=Tryz.isAgg4
 z4:=Tryz.sizeOf4
 v4:=Tryz.zeroValue4
 i4:=by kernel_rfl
 t5:=Tryz.underlying5
 a5:=Tryz.isAgg5
 z5:=Tryz.sizeOf5
 v5:=Tryz.zeroValue5
 i5:=by kernel_rfl
 t22:=Tryz.underlying42
 a22:=Tryz.isAgg42
 z22:=Tryz.sizeOf42
 v22:=Tryz.zeroValue42
 i22:=by kernel_rfl
 t25:=Tryz.underlying113
 a25:=Tryz.isAgg113
 z25:=Tryz.sizeOf113
 v25:=Tryz.zeroValue113
 i25:=by kernel_rfl
 t54:=Tryz.underlying181
 a54:=Tryz.isAgg181
 z54:=Tryz.sizeOf181
 g1:=by kernel_rfl }
open Go.RowKit Go.Lib in
theorem Tryz.bits_TrailingZeros64 (x:Nat) (hx:x<18446744073709551616) (w:World) (hT:x≠0->TabAt 2 Lib.deBruijn64tab w) :
 Calls Tryz.prog 115 #[.int .u64 x] w fun e w'=>e=.returned (.int .i64 (Lib.ctz 64 x))/\w'=w:=Any7.bits_TrailingZeros64 Tryz.lays7n29 x hx w hT
end Go.Proofs

namespace Go.Proofs.YtcgiaclelnmhbabGreatDoor
open Go Go.RowKit Go.Proofs Lim
theorem Ja (x y:Nat) (w:World) :
 (callFunc 116 #[.int .u64 (x:Int),.int .u64 (y:Int),.int .u64 0]).run Tryz.prog w =
  .ok (.value (.tuple #[u (uz x y),u (kS x y)])) w:=by
 rw[run_callFunc_extern Tryz.func116 (by kernel_rfl) (by kernel_rfl) (by kernel_rfl) (e:=add64Entry) (by kernel_rfl)];rfl
theorem KV (x y:Nat) (w:World) :
 (callFunc 133 #[.int .u64 (x:Int),.int .u64 (y:Int),.int .u64 0]).run Tryz.prog w =
  .ok (.value (.tuple #[u (ze x y),u (CS x y)])) w:=by
 rw[run_callFunc_extern Tryz.func133 (by kernel_rfl) (by kernel_rfl) (by kernel_rfl) (e:=sub64Entry) (by kernel_rfl)];rfl
theorem cac (x y:Nat) (hx:x<B) (hy:y<B) (w:World) :
 Calls Tryz.prog 87 #[u x,u y] w fun e w'=>e=.returned (.tuple #[u (kh x y),u (jo x y)])/\w=w' :=
 (Tryz.bits_Mul64 x y hx hy w).mono fun _ _ ⟨h,h'⟩=>⟨h,h'.symm⟩
theorem cif {s y f c:Nat}(hs:s<B) (hy:y<B) (hf:f<B) (hc:c<B) :
 uz s (uz (jo y f) c)+B*(kh y f+kS (jo y f) c+kS s (uz (jo y f) c))=s+y*f+c/\
  kh y f+kS (jo y f) c+kS s (uz (jo y f) c)<B:=by
 have h1:=Wv y f;have h2:=KR (jo y f) c;have h3:=KR s (uz (jo y f) c);have e:uz s (uz (jo y f) c)+B*(kh y f+kS (jo y f) c+kS s (uz (jo y f) c))=s+y*f+c:=by
  rw[cI,cI];omega
 refine⟨e,?_⟩;have i1:y*f<=(B-1)*(B-1):=uN (by omega) (by omega);have i2:(B-1)*(B-1)+2*(B-1)+1=B*B:=by
  have:B=(B-1)+1:=by have:=jE;omega
  generalize B-1=k at *;rw[this];grind
 have i3:B*(kh y f+kS (jo y f) c+kS s (uz (jo y f) c))<B*B:=by omega
 exact EA i3
attribute [local go_sem] Ja KV
structure zd (L L':List Nat) (so n x c:Nat):Prop where
 len:L'.length=L.length
 ok:Ok L'
 low:L'.take so=L.take so
 high:L'.drop (so+n)=L.drop (so+n)
 sum:val L'+B^(so+n)*c=val L+B^so*x
structure yx (L L':List Nat) (so n x c:Nat):Prop where
 len:L'.length=L.length
 ok:Ok L'
 low:L'.take so=L.take so
 high:L'.drop (so+n)=L.drop (so+n)
 sum:val L'+B^so*x=val L+B^(so+n)*c
theorem UN (l:List Nat) (k v so:Nat) (h:so<=k):(l.set k v).take so=l.take so:=by
 rw[List.take_set,List.set_eq_of_length_le (by simp;omega)]
theorem UL (l:List Nat) (k v so:Nat) (h:k<so):(l.set k v).drop so=l.drop so:=by
 rw[List.drop_set,cq h]
theorem zd.start (L:List Nat) (so:Nat) (h:Ok L):zd L L so 0 0 0:=⟨rfl,h,rfl,rfl,by simp⟩
theorem yx.start (L:List Nat) (so:Nat) (h:Ok L):yx L L so 0 0 0:=⟨rfl,h,rfl,rfl,by simp⟩
theorem zd.step {L L':List Nat}{so k x c s' c' y:Nat}(h:zd L L' so k x c) (hk:so+k<L.length) (hs':s'<B)
 (e:s'+B*c'=L'[so+k]?.getD 0+y+c):zd L (L'.set (so+k) s') so (k+1) (x+B^k*y) c':=by
 refine⟨by rw[Cz,h.len],h.ok.set _ _ hs',by rw[UN _ _ _ _ (by omega),h.low],?_,?_⟩
 ·rw[UL _ _ _ _ (by omega),show so+(k+1)=so+k+1 from rfl,← uF,h.high,uF]
 ·have h1:=El L' (so+k) s' (by rw[h.len];exact hk);have h2:=h.sum;have e2:B^(so+k)*s'+B^(so+k)*B*c'=B^(so+k)*L'[so+k]?.getD 0+B^(so+k)*y+B^(so+k)*c:=by
   rw[jk,← cI,e,cI,cI]
  have e3:B^(so+(k+1))=B^(so+k)*B:=by rw[← Ck,js]
  have e4:B^so*(x+B^k*y)=B^so*x+B^(so+k)*y:=by rw[cI,← jk,← jW]
  rw[e3,e4];omega
theorem yx.step {L L':List Nat}{so k x c s' c' y:Nat}(h:yx L L' so k x c) (hk:so+k<L.length) (hs':s'<B)
 (e:s'+y+c=L'[so+k]?.getD 0+B*c'):yx L (L'.set (so+k) s') so (k+1) (x+B^k*y) c':=by
 refine⟨by rw[Cz,h.len],h.ok.set _ _ hs',by rw[UN _ _ _ _ (by omega),h.low],?_,?_⟩
 ·rw[UL _ _ _ _ (by omega),show so+(k+1)=so+k+1 from rfl,← uF,h.high,uF]
 ·have h1:=El L' (so+k) s' (by rw[h.len];exact hk);have h2:=h.sum;have e2:B^(so+k)*s'+B^(so+k)*y+B^(so+k)*c=B^(so+k)*L'[so+k]?.getD 0+B^(so+k)*B*c':=by
   rw[jk,← cI,← cI,e,cI]
  have e3:B^(so+(k+1))=B^(so+k)*B:=by rw[← Ck,js]
  have e4:B^so*(x+B^k*y)=B^so*x+B^(so+k)*y:=by rw[cI,← jk,← jW]
  rw[e3,e4];omega
theorem zd.wider {L L':List Nat}{so k n x:Nat}(h:zd L L' so k x 0) (hk:k<=n):zd L L' so n x 0:=by
 refine⟨h.len,h.ok,h.low,?_,by simpa using h.sum⟩;rw[show so+n=so+k+(n-k) from by omega,← uF,h.high,uF]
theorem yx.wider {L L':List Nat}{so k n x:Nat}(h:yx L L' so k x 0) (hk:k<=n):yx L L' so n x 0:=by
 refine⟨h.len,h.ok,h.low,?_,by simpa using h.sum⟩;rw[show so+n=so+k+(n-k) from by omega,← uF,h.high,uF]
def cfu (w:World) (b so n:Nat) (L:List Nat) (x:Nat) (e:Ending) (w':World):Prop :=
 e=.returned (.tuple #[])/\ju b w w'/\∃ c L',Blk w' b L'/\zd L L' so n x c
def AddRel (w:World) (b so:Nat) (L:List Nat) (k x:Nat) (carry i:Value) (wr:World):Prop :=
 ∃ c L',i=.int .i64 (k:Int)/\carry=u c/\c<B/\Blk wr b L'/\zd L L' so k x c/\ju b w wr
theorem zn (b so n:Nat) (scap ycap:Nat) (L Y:List Nat) (ya:Option Addr) (f:Nat) (w:World)
 (hL:Blk w b L) (hn:so+n<=L.length) (hlen:Y.length<=n) (hmax:(n:Int)<=4611686018427387904) (hf:f<B) (okL:Ok L) (okY:Ok Y)
 (hY:0<Y.length->∃ yb yo,ya=some ⟨yb,yo,none⟩/\yb≠b/\Row w yb yo Y) :
 Calls Tryz.prog 111 #[.slice (some ⟨b,so,none⟩) n scap,.slice ya Y.length ycap,u f] w (cfu w b so n L (f*val Y)):=by
 have HY:=ca hY;have HL:=ca hL;have HokL:=ca okL;have HokY:=ca okY;clear hY hL okL okY
 go_enter Tryz.func111,Tryz.ntmps111
 go_wp2_with fail
 go_loopw [6,15] (fun carry i wr=>∃ k,k<=Y.length/\AddRel w b so L k (f*val (Y.take k)) carry i wr) (fun _ i _=>Y.length-(intOf i).toNat)
 case atStart=>exact⟨0,cQ _,0,L,rfl,rfl,jE,HL.out,by simpa [val] using zd.start L so HokL.out,ju.refl b w⟩
 case round =>
  obtain⟨k,hk,c,L',rfl,rfl,hc,hB,hA,hO⟩:=hrel;by_cases hlt:k<Y.length
  ·obtain⟨yb,yo,rfl,hyb,hrow⟩:=HY.out (by omega);have hlen':L'.length=L.length:=hA.len;have hyc:wr.cell? ⟨yb,yo+k,none⟩=some (u (Y[k]?.getD 0)):=(hO.cell (p:=⟨yb,yo+k,none⟩) hyb).trans (hrow k hlt);have hsc:wr.cell? ⟨b,so+k,none⟩=some (u (L'[so+k]?.getD 0)):=hB.cell (so+k) (by omega);have hfz:wr.frozen? ⟨b,so+k,none⟩=false:=hB.frozen _;have hy:Y[k]?.getD 0<B:=HokY.out.get k;have hs:L'[so+k]?.getD 0<B:=hA.ok.get _;generalize hyg:Y[k]?.getD 0=y at *;generalize hsg:L'[so+k]?.getD 0=s at *;have HA:=ca hA;have HB:=ca hB;have HO:=ca hO;have H1:=ca hyg;have H2:=ca hsg;have H3:=ca hlen';have H4:=ca (cif hs hy hf hc);clear hA hB hO hyg hsg hlen' hrow;go_wp2_with (go_at_call 87;refine(cac _ _ (by assumption) (by assumption) _).mono ?_;rintro e w' ⟨rfl,rfl⟩)
   go_roundw
   case rel =>
    refine⟨k+1,by omega,_,_,by go_num,by rw[Zq H4.out.2],H4.out.2,HB.out.set (so+k) _ (by have:=HA.out.len;omega),?_,HO.out.set (so+k) _⟩;rw[jg _ _ hlt,H1.out,cI,show f*(B^k*y)=B^k*(y*f) from by grind];exact HA.out.step (by omega) (GG _ _) (by rw[H2.out];exact H4.out.1)
   case measure=>simp [intOf];omega
  ·have hkn:k=Y.length:=by omega
   subst hkn;have HA:=ca hA;have HB:=ca hB;have HO:=ca hO;clear hA hB hO;go_wp2_with fail;have hle:=hlen;obtain⟨k0,hk0⟩:∃ k0,k0=Y.length:=⟨_,rfl⟩;have HK:=ca hk0;obtain⟨w1,hw1⟩:∃ w1,w1=wr:=⟨_,rfl⟩;subst hw1
   go_loopw [6,12] (fun carry i wr=>∃ k,Y.length<=k/\k<=n/\AddRel w b so L k (f*val Y) carry i wr) (fun _ i _=>n-(intOf i).toNat)
   case atStart=>exact⟨Y.length,cb _,hlen,c,L',rfl,rfl,hc,HB.out,by simpa using HA.out,HO.out⟩
   case round =>
    clear HA HB HO;obtain⟨k,hk1,hk2,c,L',rfl,rfl,hc,hB,hA,hO⟩:=hrel;have HA:=ca hA;have HB:=ca hB;have HO:=ca hO;clear hA hB hO;by_cases hc0:c=0
    ·have hcb:(((c:Nat):Int) != 0)=false:=by subst hc0;rfl
     clear hc0;go_wp2_with fail
     go_end0
     refine⟨rfl,HO.out,0,L',HB.out,?_⟩;have h0:c=0:=by simpa using hcb
     subst h0;exact HA.out.wider hk2
    ·have hcb:(((c:Nat):Int) != 0)=true:=by rw[zv];omega
     clear hc0;by_cases hlt2:k<n
     ·have hlen':L'.length=L.length:=HA.out.len;have hsc:wr.cell? ⟨b,so+k,none⟩=some (u (L'[so+k]?.getD 0)):=HB.out.cell (so+k) (by omega);have hfz:wr.frozen? ⟨b,so+k,none⟩=false:=HB.out.frozen _;generalize hsg:L'[so+k]?.getD 0=s at *;have H2:=ca hsg;have H3:=ca hlen';have H4:=KR s c;have HH4:=ca H4;clear H4 hsg hlen';go_wp2_with fail
      go_roundw
      case rel =>
       refine⟨k+1,by omega,by omega,_,_,by go_num,rfl,?_,HB.out.set (so+k) _ (by have:=HA.out.len;omega),?_,HO.out.set (so+k) _⟩
       ·exact jH (cdn (by rw[← H2.out];exact HA.out.ok.get _) hc) (by decide)
       ·have:=HA.out.step (y:=0) (by omega) (GG s c) (c':=kS s c) (by rw[H2.out,HH4.out];omega);simpa using this
      case measure=>simp [intOf];omega
     ·go_wp2_with fail
      go_end0
      obtain rfl:k=n:=by omega
      exact⟨rfl,HO.out,c,L',HB.out,HA.out⟩
theorem zl (b so n:Nat) (scap ycap:Nat) (L Y:List Nat) (ya:Option Addr) (w:World)
 (hL:Blk w b L) (hn:so+n<=L.length) (hlen:Y.length<=n) (hmax:(n:Int)<=4611686018427387904) (okL:Ok L) (okY:Ok Y)
 (hY:0<Y.length->∃ yb yo,ya=some ⟨yb,yo,none⟩/\yb≠b/\Row w yb yo Y) :
 Calls Tryz.prog 111 #[.slice (some ⟨b,so,none⟩) n scap,.slice ya Y.length ycap,.int .u64 1] w (cfu w b so n L (val Y)):=by
 have:=zn b so n scap ycap L Y ya 1 w hL hn hlen hmax (by decide) okL okY hY;rw[jI] at this;exact this
attribute [local go_sem] Ja KV
theorem cgQ {s y f c:Nat}(hs:s<B) (hy:y<B) (hf:f<B) (hc:c<B) :
 ze s (uz (jo y f) c)+y*f+c=s+B*(kh y f+kS (jo y f) c+CS s (uz (jo y f) c))/\
  kh y f+kS (jo y f) c+CS s (uz (jo y f) c)<B:=by
 have h1:=Wv y f;have h2:=KR (jo y f) c;have h3:=caw hs (GG (jo y f) c);have h4:=Kk s (uz (jo y f) c);have e:ze s (uz (jo y f) c)+y*f+c=s+B*(kh y f+kS (jo y f) c+CS s (uz (jo y f) c)):=by
  rw[cI,cI];omega
 refine⟨e,?_⟩;have i1:y*f<=(B-1)*(B-1):=uN (by omega) (by omega);have i2:(B-1)*(B-1)+2*(B-1)+1=B*B:=by
  have:B=(B-1)+1:=by have:=jE;omega
  generalize B-1=k at *;rw[this];grind
 have i3:B*(kh y f+kS (jo y f) c+CS s (uz (jo y f) c))<B*B:=by omega
 exact EA i3
def cdp (w:World) (b so n:Nat) (L:List Nat) (x:Nat) (e:Ending) (w':World):Prop :=
 ∃ c L',c<B/\e=.returned (u c)/\ju b w w'/\Blk w' b L'/\yx L L' so n x c
def cgh (w:World) (b so:Nat) (L:List Nat) (k x:Nat) (carry i:Value) (wr:World):Prop :=
 ∃ c L',i=.int .i64 (k:Int)/\carry=u c/\c<B/\Blk wr b L'/\yx L L' so k x c/\ju b w wr
theorem yM (b so n:Nat) (scap ycap:Nat) (L Y:List Nat) (ya:Option Addr) (f:Nat) (w:World)
 (hL:Blk w b L) (hn:so+n<=L.length) (hlen:Y.length<=n) (hmax:(n:Int)<=4611686018427387904) (hf:f<B) (okL:Ok L) (okY:Ok Y)
 (hY:0<Y.length->∃ yb yo,ya=some ⟨yb,yo,none⟩/\yb≠b/\Row w yb yo Y) :
 Calls Tryz.prog 130 #[.slice (some ⟨b,so,none⟩) n scap,.slice ya Y.length ycap,u f] w (cdp w b so n L (f*val Y)):=by
 have HY:=ca hY;have HL:=ca hL;have HokL:=ca okL;have HokY:=ca okY;clear hY hL okL okY
 go_enter Tryz.func130,Tryz.ntmps130
 go_wp2_with fail
 go_loopw [6,15] (fun carry i wr=>∃ k,k<=Y.length/\cgh w b so L k (f*val (Y.take k)) carry i wr) (fun _ i _=>Y.length-(intOf i).toNat)
 case atStart=>exact⟨0,cQ _,0,L,rfl,rfl,jE,HL.out,by simpa [val] using yx.start L so HokL.out,ju.refl b w⟩
 case round =>
  obtain⟨k,hk,c,L',rfl,rfl,hc,hB,hA,hO⟩:=hrel;by_cases hlt:k<Y.length
  ·obtain⟨yb,yo,rfl,hyb,hrow⟩:=HY.out (by omega);have hlen':L'.length=L.length:=hA.len;have hyc:wr.cell? ⟨yb,yo+k,none⟩=some (u (Y[k]?.getD 0)):=(hO.cell (p:=⟨yb,yo+k,none⟩) hyb).trans (hrow k hlt);have hsc:wr.cell? ⟨b,so+k,none⟩=some (u (L'[so+k]?.getD 0)):=hB.cell (so+k) (by omega);have hfz:wr.frozen? ⟨b,so+k,none⟩=false:=hB.frozen _;have hy:Y[k]?.getD 0<B:=HokY.out.get k;have hs:L'[so+k]?.getD 0<B:=hA.ok.get _;generalize hyg:Y[k]?.getD 0=y at *;generalize hsg:L'[so+k]?.getD 0=s at *;have HA:=ca hA;have HB:=ca hB;have HO:=ca hO;have H1:=ca hyg;have H2:=ca hsg;have H3:=ca hlen';have H4:=ca (cgQ hs hy hf hc);clear hA hB hO hyg hsg hlen' hrow;go_wp2_with (go_at_call 87;refine(cac _ _ (by assumption) (by assumption) _).mono ?_;rintro e w' ⟨rfl,rfl⟩)
   go_roundw
   case rel =>
    refine⟨k+1,by omega,_,_,by go_num,by rw[Zq H4.out.2],H4.out.2,HB.out.set (so+k) _ (by have:=HA.out.len;omega),?_,HO.out.set (so+k) _⟩;rw[jg _ _ hlt,H1.out,cI,show f*(B^k*y)=B^k*(y*f) from by grind];exact HA.out.step (by omega) (Kk _ _) (by rw[H2.out];exact H4.out.1)
   case measure=>simp [intOf];omega
  ·have hkn:k=Y.length:=by omega
   subst hkn;have HA:=ca hA;have HB:=ca hB;have HO:=ca hO;clear hA hB hO;go_wp2_with fail;have hle:=hlen;obtain⟨k0,hk0⟩:∃ k0,k0=Y.length:=⟨_,rfl⟩;have HK:=ca hk0;obtain⟨w1,hw1⟩:∃ w1,w1=wr:=⟨_,rfl⟩;subst hw1
   go_loopw [6,12] (fun carry i wr=>∃ k,Y.length<=k/\k<=n/\cgh w b so L k (f*val Y) carry i wr) (fun _ i _=>n-(intOf i).toNat)
   case atStart=>exact⟨Y.length,cb _,hlen,c,L',rfl,rfl,hc,HB.out,by simpa using HA.out,HO.out⟩
   case round =>
    clear HA HB HO;obtain⟨k,hk1,hk2,c,L',rfl,rfl,hc,hB,hA,hO⟩:=hrel;have HA:=ca hA;have HB:=ca hB;have HO:=ca hO;clear hA hB hO;by_cases hc0:c=0
    ·have hcb:(((c:Nat):Int) != 0)=false:=by subst hc0;rfl
     clear hc0;go_wp2_with fail
     go_ret
     have h0:c=0:=by simpa using hcb
     subst h0;exact⟨0,L',jE,rfl,HO.out,HB.out,HA.out.wider hk2⟩
    ·have hcb:(((c:Nat):Int) != 0)=true:=by rw[zv];omega
     clear hc0;by_cases hlt2:k<n
     ·have hlen':L'.length=L.length:=HA.out.len;have hsc:wr.cell? ⟨b,so+k,none⟩=some (u (L'[so+k]?.getD 0)):=HB.out.cell (so+k) (by omega);have hfz:wr.frozen? ⟨b,so+k,none⟩=false:=HB.out.frozen _;generalize hsg:L'[so+k]?.getD 0=s at *;have H2:=ca hsg;have H3:=ca hlen';have H4:=caw (x:=s) (y:=c) (by rw[← hsg];exact HA.out.ok.get _) hc;have HH4:=ca H4;clear H4 hsg hlen';go_wp2_with fail
      go_roundw
      case rel =>
       refine⟨k+1,by omega,by omega,_,_,by go_num,rfl,?_,HB.out.set (so+k) _ (by have:=HA.out.len;omega),?_,HO.out.set (so+k) _⟩
       ·exact jH (cdg s c) (by decide)
       ·have:=HA.out.step (y:=0) (by omega) (Kk s c) (c':=CS s c) (by rw[H2.out,← HH4.out];omega);simpa using this
      case measure=>simp [intOf];omega
     ·go_wp2_with fail
      go_ret
      obtain rfl:k=n:=by omega
      exact⟨c,L',hc,rfl,HO.out,HB.out,HA.out⟩
theorem Uu (b so n:Nat) (scap ycap:Nat) (L Y:List Nat) (ya:Option Addr) (w:World)
 (hL:Blk w b L) (hn:so+n<=L.length) (hlen:Y.length<=n) (hmax:(n:Int)<=4611686018427387904) (okL:Ok L) (okY:Ok Y)
 (hY:0<Y.length->∃ yb yo,ya=some ⟨yb,yo,none⟩/\yb≠b/\Row w yb yo Y) :
 Calls Tryz.prog 130 #[.slice (some ⟨b,so,none⟩) n scap,.slice ya Y.length ycap,.int .u64 1] w (cdp w b so n L (val Y)):=by
 have:=yM b so n scap ycap L Y ya 1 w hL hn hlen hmax (by decide) okL okY hY;rw[jI] at this;exact this
theorem Jp {l:List Nat}{k:Nat}(hk:k<l.length) (h0:l[k]?.getD 0=0):val (l.take (k+1))=val (l.take k):=by
 rw[jg l k hk,h0];simp
theorem caj {l:List Nat}{k:Nat}(hk:k<l.length) (h0:l[k]?.getD 0≠0):YM (l.take (k+1)):=by
 intro hne;simp only[Js l k hk,List.getLast_append,List.getLast_singleton];simpa using h0
def NatPost (w:World) (n:Nat) (e:Ending) (w':World):Prop:=∃ v,e=.returned v/\cr w v n/\w=w'
theorem uo (xs:List Nat) (v:Value) (w:World) (hv:Sl w v xs) (hmax:(xs.length:Int)<=4611686018427387904) :
 Calls Tryz.prog 91 #[v] w (NatPost w (val xs)):=by
 obtain⟨⟨ao,cap,rfl,hc1,hc2,hr⟩,hok,typ⟩:=hv;have HTy:=ca typ;clear typ;unfold maxLen at hc2;have HR:=ca hr;have HO:=ca hok;clear hr hok
 go_enter Tryz.func91,Tryz.ntmps91
 go_wp2_with fail
 go_loop [3] (fun i=>∃ k,k<=xs.length/\i=.int .i64 (k:Int)/\val (xs.take k)=val xs) (fun i=>(intOf i).toNat)
 case atStart=>exact⟨xs.length,cb _,rfl,by simp⟩
 case round =>
  obtain⟨k,hk,rfl,hval⟩:=hrel;have HV:=ca hval;clear hval;by_cases hk0:0<k
  ·obtain⟨j,rfl⟩:∃ j,k=j+1:=⟨k-1,by omega⟩;obtain⟨b,off,rfl,hrow⟩:=HR.out (by omega);have hcell:w.cell? ⟨b,off+j,none⟩=some (u (xs[j]?.getD 0)):=hrow j (by omega);have HRow:=ca hrow;clear hrow;by_cases hz:xs[j]?.getD 0=0
   ·have hzz:=hz;rw[hz] at hcell;have HZ:=ca hzz;clear hz hzz;go_wp2_with fail
    go_round
    case rel=>exact⟨j,by omega,rfl,by rw[← HV.out,Jp (by omega) HZ.out]⟩
    case measure=>simp [intOf]
   ·have HZ:=ca hz;have hb:(((xs[j]?.getD 0:Nat):Int) == 0)=false:=by rw[jn];omega
    generalize hsg:xs[j]?.getD 0=s at *;have H2:=ca hsg;clear hsg hz;go_wp2_with fail
    go_ret
    have hlt:(xs.take (j+1)).length=j+1:=by rw[ji];omega
    refine⟨_,rfl,⟨xs.take (j+1),⟨⟨some ⟨b,off,none⟩,j+1,by rw[hlt];rfl,by omega,by unfold maxLen;omega,fun _=>⟨b,off,rfl,?_⟩⟩,HO.out.take _,?_⟩,caj (by omega) (by rw[H2.out];intro h;subst h;simp at hb),HV.out⟩,rfl⟩
    ·intro i hi;rw[HRow.out i (by omega),kB,cq (by omega)]
    ·intro a n c e _;injection e with e
     exact HTy.out a _ _ (by rw[e]) (by omega)
  ·obtain rfl:k=0:=by omega
   clear hk0;go_wp2_with fail
   go_ret
   refine⟨_,rfl,⟨[],⟨⟨ao,0,rfl,by simp,by unfold maxLen;omega,fun h=>absurd h (by simp)⟩,Ok.nil,fun a n c e hn=>by injection e with _ e;omega⟩,fun h=>absurd rfl h,by simpa using HV.out⟩,rfl⟩
theorem JT (x:Nat) (w:World) (hx:x<B):Calls Tryz.prog 66 #[u x] w (Gm w x):=by
 go_enter Tryz.func66,Tryz.ntmps66
 go_wp2_with fail;have hb:Blk (w.alloc (.cells ([x].map u).toArray 42)) w.heap.size [x]:=Blk.new w [x];have hs:=Sl.of_blk hb (Ok.nil.cons hx) 0 1 1 (by simp) (by simp) (by unfold maxLen;omega);refine(uo [x] _ _ hs (by simp)).mono ?_;rintro e w' ⟨v,rfl,hn,rfl⟩;go_wp2_with fail
 go_ret
 exact⟨v,rfl,by simpa [val] using hn,(cF _ _).alloc (cb _) _⟩
theorem zZ:(Tryz.prog.info? 42).map (fun i=>(i.zero,i.size,i.bytes))=some (some (.int .u64 0),1,8):=by kernel_rfl
def cgE (w:World) (xs:List Nat) (e:Ending) (w':World):Prop :=
 ∃ b cap,e=.returned (.slice (some ⟨b,0,none⟩) xs.length cap)/\w.heap.size<=b/\Blk w' b xs/\xs.length<=cap/\cap<=maxLen/\Below w.heap.size w w'
theorem Ue (a:Addr) (xs:List Nat) (cap:Nat) (w:World) (hbig:(xs.length:Int)<=1099511627776) (hr:∀ j,j<xs.length->w.cell? (a.add j)=some (u (xs[j]?.getD 0))) :
 Calls Tryz.prog 93 #[.slice (some a) xs.length cap] w (cgE w xs):=by
 obtain⟨i0,hi,hz0,hz1,hz2⟩:=Ge zZ;have q:∀ (w:World) (a:Option Addr) (n c n' c':Nat),(binOp .eql 90 (.slice a n c) (.slice none n' c')).run Tryz.prog w=.ok (.bool a.isNone) w:=fun w a n c n' c'=>Lib.run_eql_slice_nil w _ _ a n c n' c' Tryz.underlying90;have A:=ca hr;clear hr
 go_enter Tryz.func93,Tryz.ntmps93
 go_wp2_with (at_builtin;refine wpList_append_own _ rfl _ _ 90 rfl w.heap.size 42 i0 (.int .u64 0) 1 8 Tryz.underlying90 hi hz0 hz1 hz2 rfl (by decide) _ _ _ rfl (World.ownsRow_made w #[] 0 (cb _) (cQ _) rfl) a xs.length cap (xs.map u) rfl ?qc1 ?qc2 ?qc3 ?qc4 ?qc5 ?qc6 ?_)
 case qc1=>simp
 case qc2 =>
  intro j v hj;have hjn:j<xs.length:=by
   have:=(List.getElem?_eq_some_iff.1 hj).1;simpa using this
  refine Lib.cell?_alloc_some _ ?_;rw[A.out j hjn];rw[uh,jl hjn] at hj;rw[jl hjn];exact hj
 case qc3=>intro v hv;obtain⟨x,_,rfl⟩:=List.mem_map.1 hv;rfl
 case qc4=>unfold maxLen;omega
 case qc5=>omega
 case qc6=>simp
 intro v' w1 hown hgrow hnil;go_wp2
 go_ret
 obtain⟨b,cap',rfl,hb,hB,hl,h1,h2⟩:=Blk.of_owned (xs:=xs) (by simpa using hown) hnil;refine⟨b,cap',rfl,hb,hB,by omega,h2,?_⟩;exact((cF _ w).alloc (cb _) _).grown hgrow (by simp) (by intro k hk;simp [Value.ownBlock] at hk;omega)
theorem cgn (n cap:Nat) (w:World) :
 Calls Tryz.prog 93 #[.slice none n cap] w fun e w'=>e=.returned (.slice none 0 0)/\w=w':=by
 have q:∀ (w:World) (a:Option Addr) (n c n' c':Nat),(binOp .eql 90 (.slice a n c) (.slice none n' c')).run Tryz.prog w=.ok (.bool a.isNone) w:=fun w a n c n' c'=>Lib.run_eql_slice_nil w _ _ a n c n' c' Tryz.underlying90
 go_enter Tryz.func93,Tryz.ntmps93
 go_wp2
 go_ret
 exact⟨rfl,rfl⟩
theorem cen {xs:List Nat}(ht:YM xs) (hv:val xs=1):xs=[1]:=by
 have hl:=cr.len (k:=1) ht hv (by decide);rcases xs with _|⟨x,_|⟨y,xs⟩⟩
 ·simp [val] at hv
 ·simp [val] at hv;rw[hv]
 ·simp at hl
theorem ZR (v:Value) (n:Nat) (w:World) (h:cr w v n) :
 Calls Tryz.prog 110 #[v] w (fun e w'=>e=.returned (.bool (decide (n=1)))/\w=w'):=by
 obtain⟨xs,⟨⟨xa,xc,rfl,h1,h2,hr⟩,ok⟩,ht,rfl⟩:=h;unfold maxLen at h2;by_cases hl:xs.length=1
 ·obtain⟨x,rfl⟩:∃ x,xs=[x]:=by
   rcases xs with _|⟨x,_|⟨z,xs⟩⟩
   ·simp at hl
   ·exact⟨x,rfl⟩
   ·simp at hl
  obtain⟨b,o,rfl,row⟩:=hr (by simp);have cx:w.cell? ⟨b,o,none⟩=some (u x):=row 0 (by simp);have hv:val [x]=x:=by simp [val]
  rw[hv];clear hv row hr ok ht hl;simp only[caN] at *;have hb:(((x:Nat):Int) == 1)=decide (x=1):=by rw[Gs];simp;omega
  go_enter Tryz.func110,Tryz.ntmps110
  go_wp2_with fail
  go_ret
  exact⟨rfl,rfl⟩
 ·have hb:(((xs.length:Nat):Int) == 1)=false:=by rw[jn];omega
  have hn:decide (val xs=1)=false:=by
   rw[decide_eq_false_iff_not];intro e;have:=cen ht e;subst this;exact hl rfl
  rw[hn];clear hr ok ht hl hn
  go_enter Tryz.func110,Tryz.ntmps110
  go_wp2_with fail
  go_ret
  exact⟨rfl,rfl⟩
theorem GU (v:Value) (n:Nat) (w:World) (h:cr w v n) (hn:n=1) :
 Calls Tryz.prog 110 #[v] w (fun e w'=>e=.returned (.bool true)/\w=w'):=by
 have:=ZR v n w h
 rwa [uk hn] at this
theorem GL (v:Value) (n:Nat) (w:World) (h:cr w v n) (hn:¬ n=1) :
 Calls Tryz.prog 110 #[v] w (fun e w'=>e=.returned (.bool false)/\w=w'):=by
 have:=ZR v n w h
 rwa [Wx hn] at this
theorem cdG (n:Nat):(madeCells #[Value.int .u64 0] n).toList=(List.replicate n 0).map u:=by
 have h:(fun x=>(#[Value.int .u64 0]:Array Value)[x%1]!)=fun _=>u 0:=by funext x;simp [Nat.mod_one]
 show ((Array.range n).map (fun x=>(#[Value.int .u64 0]:Array Value)[x%1]!)).toList=_;rw[h];simp [List.map_const']
theorem Ca {w w1:World}{n:Nat}(hown:w1.ownsRow w.heap.size 42 1 (.slice (some ⟨w.heap.size,0,none⟩) n n) n (madeCells #[Value.int .u64 0] n).toList)
 (hgrow:w.grownBy w1 none):Blk w1 w.heap.size (List.replicate n 0)/\Below w.heap.size w w1:=by
 rw[cdG] at hown;obtain⟨b,cap,hv,hb,hB,hl,h1,h2⟩:=Blk.of_owned hown (by simp);injection hv with hv1 hv2 hv3
 injection hv1 with hv1
 injection hv1 with hv1
 subst hv1;exact⟨hB,(cF _ w).grown hgrow (cb _) (by intro k hk;cases hk)⟩
theorem ccA:(Tryz.prog.info? 42).map (·.size)=some 1:=by kernel_rfl
theorem cee (xs:List Nat) (r:Nat) (T:List Value):splice ((List.replicate (xs.length+r) 0).map u++T) 0 (xs.map u)=(xs++List.replicate r 0).map u++T:=by
 simp only[splice,List.take_zero,EU,jb,CC,List.map_append,uU,List.map_replicate];rw[caF (by simp)];simp
theorem UH (xs:List Nat) (T:List Value):splice (List.replicate (xs.length+1) (u 0)++T) 0 (xs.map u)=(xs++[0]).map u++T:=by
 have:=cee xs 1 T;rw[List.map_replicate] at this;exact this
theorem cfS {w:World}{xa:Option Addr}{xs:List Nat}(h:0<xs.length->∃ b off,xa=some ⟨b,off,none⟩/\Row w b off xs) {w1:World}{N:Nat}(hb:Below N w w1) (hN:w.heap.size<=N) :
 0<(xs.map u).length->∃ ad,xa=some ad/\∀ j v,(xs.map u)[j]?=some v->w1.cell? (ad.add j)=some v:=by
 intro hp;rw[CC] at hp;obtain⟨b,off,rfl,hr⟩:=h hp;refine⟨_,rfl,fun j v hv=>?_⟩;have hj:j<xs.length:=by have:=(List.getElem?_eq_some_iff.1 hv).1;simpa using this
 rw[YB];rw[(hr.below hb (cT (hr.lt hp) hN)) j hj];rw[uh,jl hj] at hv;rw[jl hj];exact hv
theorem Kh {w:World}{xa:Option Addr}{xs:List Nat}(h:0<xs.length->∃ b off,xa=some ⟨b,off,none⟩/\Row w b off xs) {w1:World}{N:Nat}(hb:Below N w w1) (hN:w.heap.size<=N) :
 0<xs.length->∃ b off,xa=some ⟨b,off,none⟩/\b≠w.heap.size/\Row w1 b off xs:=by
 intro hp;obtain⟨b,off,rfl,hr⟩:=h hp;have:=hr.lt hp;exact⟨b,off,rfl,by omega,hr.below hb (by omega)⟩
theorem YQ:2<=B:=by decide
theorem cdP {xs ys L':List Nat}{c:Nat}(h:zd (xs++[0]) L' 0 (xs.length+1) (val ys) c) :
 val L'+B^xs.length*B*c=val xs+val ys:=by
 have h1:=h.sum;have e:val (xs++[0])=val xs:=by rw[Em,cir,val_nil];simp
 rw[jb,Ch,jI,e,js] at h1;exact h1
theorem chF (P Q V X Y c:Nat) (Bs:Nat) (h1:V+P*Bs*c=X+Y) (hX:X<P) (hY:Y<Q) (h4:Q<=P) (h2:2<=Bs):V=X+Y:=by
 rcases jr c with h0|h0
 ·subst h0;simpa using h1
 ·have h5:P*2<=P*Bs:=ja _ h2;have h6:P*Bs*1<=P*Bs*c:=ja _ h0;omega
theorem ZU {xs ys L':List Nat}{c:Nat}(h:zd (xs++[0]) L' 0 (xs.length+1) (val ys) c) (ok1:Ok xs) (ok2:Ok ys) (hl:ys.length<=xs.length) :
 val L'=val xs+val ys :=
 chF _ _ _ _ _ _ _ (cdP h) (jR ok1) (jR ok2) (jP jE hl) YQ
theorem ciM (v1 v2:Value) (m n k:Nat) (w:World) (h1:cr w v1 m) (h2:cr w v2 n) (hm:m<B^k) (hn:n<B^k) (hk:(k:Int)<=1073741824) :
 Calls Tryz.prog 119 #[v1,v2] w (Gm w (m+n)):=by
 obtain⟨xs,s1,t1,e1⟩:=h1;obtain⟨ys,s2,t2,e2⟩:=h2;have lx:=cr.len t1 e1 hm;have ly:=cr.len t2 e2 hn;obtain⟨⟨xa,xc,rfl,hc1,hc2,hr1⟩,ok1⟩:=s1;obtain⟨⟨ya,yc,rfl,hd1,hd2,hr2⟩,ok2⟩:=s2;obtain⟨i0,hi,hz0,hz1,hz2⟩:=Ge zZ;unfold maxLen at hc2 hd2;by_cases hl:xs.length<ys.length
 ·have HR2:=ca hr2;have HR1:=ca hr1;have HO2:=ca ok2;have HO1:=ca ok1;have HE2:=ca e2;have HE1:=ca e1;clear hr2 hr1 ok2 ok1 e2 e1 t1 t2 hm hn
  go_enter Tryz.func119,Tryz.ntmps119
  go_wp2_with (at_make;refine JN _ rfl _ _ 89 rfl w.heap.size 42 i0 (.int .u64 0) 1 Tryz.underlying89 hi hz0 hz1 _ _ _ _ (ys.length+1) rfl rfl (by omega) (by omega) ?qd2 ?qd3 ?qd4 ?_)
  case qd2=>rw[hz2];omega
  case qd3=>unfold maxLen;omega
  case qd4=>exact cb _
  intro w1 hown hgrow;obtain⟨hB1,hbel⟩:=Ca hown hgrow;clear hown hgrow;obtain⟨T,hT⟩:=hB1;have HT:=ca hT;have HBel:=ca hbel;clear hT hbel;go_wp2_with (with_reducible refine wpList_copy_splice rfl (.tmp 17) (.tmp 18) 89 90 rfl 42 Tryz.underlying89 ccA _ _ _ _ _ _ rfl rfl w.heap.size 0 _ _ HT.out (ys.map u) ?qe1 ?qe2 ?qe3 ?qe4 w.heap.size w HBel.out (cb _) ?_)
  case qe1=>simp
  case qe2=>simpa using cfS HR2.out HBel.out (cb _)
  case qe3=>simp;omega
  case qe4=>intro v hv;obtain⟨x,_,rfl⟩:=List.mem_map.1 hv;rfl
  intro w2 hT2 hbel2;have hB2:Blk w2 w.heap.size (ys++[0]):=⟨T,by have:=hT2.out;rw[this,UH ys T]⟩;clear hT2 HT HBel;have HB2:=ca hB2;have HBel2:=ca hbel2;clear hB2 hbel2;go_wp2_with fail;refine(zl w.heap.size 0 (ys.length+1) _ _ (ys++[0]) xs xa w2 HB2.out (by simp) (by omega) (by omega) (HO2.out.append (Ok.nil.cons jE)) HO1.out (Kh HR1.out HBel2.out (cb _))).mono ?_;rintro e w3 ⟨rfl,hO3,c,L',hB3,hA⟩;have hv:=ZU hA HO2.out HO1.out (by omega);have hlen:L'.length=ys.length+1:=by rw[hA.len];simp
  have hs:=Sl.of_blk hB3 hA.ok 0 (ys.length+1) (ys.length+1) (by omega) (cb _) (by unfold maxLen;omega);rw[kr,← hlen,uO,hlen] at hs;have hb3:Below w.heap.size w w3:=HBel2.out.trans (hO3.below (cb _));have HS:=ca hs;have HB3:=ca hb3;have HV:=ca hv;have HLen:=ca hlen;clear hs hb3 hv hlen hA hB3 hO3;go_wp2_with fail;refine(uo L' _ _ HS.out (by rw[HLen.out];omega)).mono ?_;rintro e w4 ⟨v,rfl,hnat,rfl⟩;have HN:=ca hnat;clear hnat;go_wp2_with fail
  go_ret
  refine⟨v,rfl,?_,HB3.out⟩;have:=HN.out;rw[HV.out,HE2.out,HE1.out,GS] at this;exact this
 ·have HR1:=ca hr1;have HR2:=ca hr2;have HO1:=ca ok1;have HO2:=ca ok2;have HE1:=ca e1;have HE2:=ca e2;clear hr1 hr2 ok1 ok2 e1 e2 t1 t2 hm hn
  go_enter Tryz.func119,Tryz.ntmps119
  go_wp2_with (at_make;refine JN _ rfl _ _ 89 rfl w.heap.size 42 i0 (.int .u64 0) 1 Tryz.underlying89 hi hz0 hz1 _ _ _ _ (xs.length+1) rfl rfl (by omega) (by omega) ?qb2 ?qb3 ?qb4 ?_)
  case qb2=>rw[hz2];omega
  case qb3=>unfold maxLen;omega
  case qb4=>exact cb _
  intro w1 hown hgrow;obtain⟨hB1,hbel⟩:=Ca hown hgrow;clear hown hgrow;obtain⟨T,hT⟩:=hB1;have HT:=ca hT;have HBel:=ca hbel;clear hT hbel;go_wp2_with (with_reducible refine wpList_copy_splice rfl (.tmp 17) (.tmp 18) 89 90 rfl 42 Tryz.underlying89 ccA _ _ _ _ _ _ rfl rfl w.heap.size 0 _ _ HT.out (xs.map u) ?qc1 ?qc2 ?qc3 ?qc4 w.heap.size w HBel.out (cb _) ?_)
  case qc1=>simp
  case qc2=>simpa using cfS HR1.out HBel.out (cb _)
  case qc3=>simp;omega
  case qc4=>intro v hv;obtain⟨x,_,rfl⟩:=List.mem_map.1 hv;rfl
  intro w2 hT2 hbel2;have hB2:Blk w2 w.heap.size (xs++[0]):=⟨T,by have:=hT2.out;rw[this,UH xs T]⟩;clear hT2 HT HBel;have HB2:=ca hB2;have HBel2:=ca hbel2;clear hB2 hbel2;go_wp2_with fail;refine(zl w.heap.size 0 (xs.length+1) _ _ (xs++[0]) ys ya w2 HB2.out (by simp) (by omega) (by omega) (HO1.out.append (Ok.nil.cons jE)) HO2.out (Kh HR2.out HBel2.out (cb _))).mono ?_;rintro e w3 ⟨rfl,hO3,c,L',hB3,hA⟩;have hv:=ZU hA HO1.out HO2.out (by omega);have hlen:L'.length=xs.length+1:=by rw[hA.len];simp
  have hs:=Sl.of_blk hB3 hA.ok 0 (xs.length+1) (xs.length+1) (by omega) (cb _) (by unfold maxLen;omega);rw[kr,← hlen,uO,hlen] at hs;have hb3:Below w.heap.size w w3:=HBel2.out.trans (hO3.below (cb _));have HS:=ca hs;have HB3:=ca hb3;have HV:=ca hv;have HLen:=ca hlen;clear hs hb3 hv hlen hA hB3 hO3;go_wp2_with fail;refine(uo L' _ _ HS.out (by rw[HLen.out];omega)).mono ?_;rintro e w4 ⟨v,rfl,hnat,rfl⟩;have HN:=ca hnat;clear hnat;go_wp2_with fail
  go_ret
  refine⟨v,rfl,?_,HB3.out⟩;have:=HN.out;rw[HV.out,HE1.out,HE2.out] at this;exact this
theorem cdS {xs ys L L':List Nat}{k c:Nat}(hv:val L=val (xs.take k)*val ys) (hk:k<xs.length) (hL:L.length=xs.length+ys.length)
 (h:zd L L' k (xs.length+ys.length-k) (xs[k]?.getD 0*val ys) c) (ok1:Ok xs) (ok2:Ok ys):val L'=val (xs.take (k+1))*val ys:=by
 have h1:=h.sum;have e:val (xs.take (k+1))*val ys=val L+B^k*(xs[k]?.getD 0*val ys):=by
  rw[jg xs k hk,cD,hv,jk]
 rw[← e] at h1;have hlt:val (xs.take (k+1))*val ys<B^(xs.length+ys.length):=by
  have h2:=jR (ok1.take (k+1));rw[ji,kQ (by omega)] at h2;have h3:=jR ok2;have h4:val (xs.take (k+1))*val ys<B^(k+1)*B^ys.length:=Nat.mul_lt_mul'' h2 h3;have h5:B^(k+1)*B^ys.length<=B^(xs.length+ys.length):=by
   rw[← jW];exact jP jE (by omega)
  omega
 rw[show k+(xs.length+ys.length-k)=xs.length+ys.length from by omega] at h1;rcases jr c with h0|h0
 ·subst h0;simpa using h1
 ·have:B^(xs.length+ys.length)*1<=B^(xs.length+ys.length)*c:=ja _ h0;omega
set_option maxRecDepth 100000 in
theorem ceM (v1 v2:Value) (m n k:Nat) (w:World) (h1:cr w v1 m) (h2:cr w v2 n) (hm:m<B^k) (hn:n<B^k) (hk:(k:Int)<=1073741824) (o1:¬ m=1) (o2:¬ n=1) :
 Calls Tryz.prog 89 #[v1,v2] w (Gm w (m*n)):=by
 have HI1:=ca (GL v1 m w h1 o1);have HI2:=ca (GL v2 n w h2 o2);clear o1 o2;obtain⟨xs,s1,t1,e1⟩:=h1;obtain⟨ys,s2,t2,e2⟩:=h2;have lx:=cr.len t1 e1 hm;have ly:=cr.len t2 e2 hn;obtain⟨⟨xa,xc,rfl,hc1,hc2,hr1⟩,ok1⟩:=s1;obtain⟨⟨ya,yc,rfl,hd1,hd2,hr2⟩,ok2⟩:=s2;obtain⟨i0,hi,hz0,hz1,hz2⟩:=Ge zZ;unfold maxLen at hc2 hd2;have HR1:=ca hr1;have HR2:=ca hr2;have HO1:=ca ok1;have HO2:=ca ok2;have HE1:=ca e1;have HE2:=ca e2;clear hr1 hr2 ok1 ok2 e1 e2 t1 t2 hm hn;obtain⟨N,hN⟩:∃ N,N=xs.length+ys.length:=⟨_,rfl⟩;have HN:=ca hN;have hNmax:(N:Int)<=2147483648:=by omega
 clear hN
 go_enter Tryz.func89,Tryz.ntmps89
 go_wp2_with fail;refine HI1.out.mono ?_;rintro e w1 ⟨rfl,rfl⟩;go_wp2_with fail;refine HI2.out.mono ?_;rintro e w1 ⟨rfl,rfl⟩;clear HI1 HI2;go_wp2_with (at_make;refine JN _ rfl _ _ 89 rfl w.heap.size 42 i0 (.int .u64 0) 1 Tryz.underlying89 hi hz0 hz1 _ _ _ _ N rfl rfl (by have:=HN.out;omega) (by have:=HN.out;omega) ?qb2 ?qb3 ?qb4 ?_)
 case qb2=>rw[hz2];omega
 case qb3=>unfold maxLen;omega
 case qb4=>exact cb _
 intro w1 hown hgrow;obtain⟨hB1,hbel⟩:=Ca hown hgrow;clear hown hgrow;have HB1:=ca hB1;have HBel:=ca hbel;clear hB1 hbel;go_wp2_with fail
 go_loopw [21] (fun i wr=>∃ k L,k<=xs.length/\i=.int .i64 (k:Int)/\Hid (Blk wr w.heap.size L/\L.length=N/\Ok L/\val L=val (xs.take k)*val ys)/\Hid (Below w.heap.size w wr)) (fun i _=>xs.length-(intOf i).toNat)
 case atStart=>exact⟨0,_,cQ _,rfl,⟨HB1.out,by simp,Ok.replicate _,by rw[yV];simp [val]⟩,HBel.out⟩
 case round =>
  obtain⟨k,L,hk,rfl,hL,hBe⟩:=hrel;by_cases hlt:k<xs.length
  ·obtain⟨xb,xo,rfl,hxrow⟩:=HR1.out (by omega);have hxb:=hxrow.lt (by omega);have hxc:wr.cell? ⟨xb,xo+k,none⟩=some (u (xs[k]?.getD 0)):=(hBe.out.cell (p:=⟨xb,xo+k,none⟩) hxb).trans (hxrow k hlt);have hxl:xs[k]?.getD 0<B:=HO1.out.get k;generalize hxg:xs[k]?.getD 0=x at *;have HX:=ca hxg;clear hxg hxrow hi hz0 hz1 hz2;have hkN:(k:Int)<(N:Int):=by have:=HN.out;omega
   have hkN':(k:Int)<=(N:Int):=by omega
   have hk0:(0:Int)<=(k:Int):=by omega
   have hNk:¬ N=k:=by omega
   go_wp2_with fail
   go_region_held3 (fun w'=>w'.cell? ⟨xb,xo+k,none⟩=some (u x)) (go_keep) ((go_at_call 111;refine(zn w.heap.size k (N-k) _ yc L ys ya x wr.drew (show Blk wr.drew w.heap.size L from hL.out.1) (by have:=hL.out.2.1;omega) (by have:=HN.out;omega) (by omega) hxl hL.out.2.2.1 HO2.out (Kh HR2.out hBe.out.drew (cb _))).mono ?_;rintro e w' ⟨rfl,hO,c,L',hB',hA⟩;have hxc':=(hO.cell (p:=⟨xb,xo+k,none⟩) (Nat.ne_of_lt hxb)).trans hxc))
   have HB':=ca hB';have HA:=ca hA;have HO:=ca hO;clear hB' hA hO hxc' hNk;go_wp2_with fail
   go_roundw
   case rel =>
    refine⟨k+1,L',by omega,by go_num,⟨HB'.out,by rw[HA.out.len,hL.out.2.1],HA.out.ok,?_⟩,hBe.out.trans (Below.trans ((cF _ wr).drew) (HO.out.below (cb _)))⟩;have hN:=HN.out;have hA2:=HA.out;rw[← HX.out,hN] at hA2;exact cdS hL.out.2.2.2 hlt (by rw[hL.out.2.1,hN]) hA2 HO1.out HO2.out
   case measure=>simp [intOf];omega
  ·obtain rfl:k=xs.length:=by omega
   obtain⟨hb,hl,ho,hv⟩:=hL.out;have hs:=Sl.of_blk hb ho 0 N N (by omega) (cb _) (by unfold maxLen;omega);rw[kr,← hl,uO,hl] at hs;rw[uO,HE1.out,HE2.out] at hv;have HS:=ca hs;have HV:=ca hv;have HLen:=ca hl;clear hs hv hl hb ho;go_wp2_with fail;refine(uo L _ _ HS.out (by rw[HLen.out];omega)).mono ?_;rintro e w4 ⟨v,rfl,hnat,rfl⟩;have HN2:=ca hnat;clear hnat;go_wp2_with fail
   go_ret
   refine⟨v,rfl,?_,hBe.out⟩;have:=HN2.out;rw[HV.out] at this;exact this
theorem CG (v1 v2:Value) (m n k:Nat) (w:World) (h1:cr w v1 m) (h2:cr w v2 n) (hm:m<B^k) (hn:n<B^k) (hk:(k:Int)<=1073741824) :
 Calls Tryz.prog 89 #[v1,v2] w (Gm w (m*n)):=by
 by_cases o1:m=1
 ·have HI1:=ca (GU v1 m w h1 o1);have H2:=ca h2;subst o1;obtain⟨xs,⟨⟨xa,xc,rfl,_⟩,_⟩,_⟩:=h1;obtain⟨ys,⟨⟨ya,yc,rfl,_⟩,_⟩,_⟩:=h2;clear hm hn hk
  go_enter Tryz.func89,Tryz.ntmps89
  go_wp2_with fail;refine HI1.out.mono ?_;rintro e w1 ⟨rfl,rfl⟩;go_wp2_with fail
  go_ret
  refine⟨_,rfl,?_,cF _ _⟩;rw[jI];exact H2.out
 ·by_cases o2:n=1
  ·have HI1:=ca (GL v1 m w h1 o1);have HI2:=ca (GU v2 n w h2 o2);have H1:=ca h1;subst o2;obtain⟨xs,⟨⟨xa,xc,rfl,_⟩,_⟩,_⟩:=h1;obtain⟨ys,⟨⟨ya,yc,rfl,_⟩,_⟩,_⟩:=h2;clear hm hn hk o1
   go_enter Tryz.func89,Tryz.ntmps89
   go_wp2_with fail;refine HI1.out.mono ?_;rintro e w1 ⟨rfl,rfl⟩;go_wp2_with fail;refine HI2.out.mono ?_;rintro e w1 ⟨rfl,rfl⟩;go_wp2_with fail
   go_ret
   refine⟨_,rfl,?_,cF _ _⟩;rw[zc];exact H1.out
  ·exact ceM v1 v2 m n k w h1 h2 hm hn hk o1 o2
theorem Uv (ao ya:Option Addr) (c yc:Nat) (w:World) :
 Calls Tryz.prog 130 #[.slice ao 0 c,.slice ya 0 yc,.int .u64 1] w fun e w'=>e=.returned (.int .u64 0)/\w=w':=by
 go_enter Tryz.func130,Tryz.ntmps130
 go_wp2_with fail;refine wp_loop_rounds 1 ?_;rw[rounds_succ];go_wp2_with fail;refine wp_loop_rounds 1 ?_;rw[rounds_succ];go_wp2_with fail
 go_ret
 exact⟨rfl,rfl⟩
theorem chn (P V X Y c:Nat) (h1:V+Y=X+P*c) (hV:V<P) (h:Y<=X):V=X-Y:=by
 rcases jr c with h0|h0
 ·subst h0;omega
 ·have h6:P*1<=P*c:=ja _ h0;omega
theorem cgj {L L':List Nat}{x c n:Nat}(h:yx L L' 0 n x c) (hn:L.length=n) (hle:x<=val L):val L'=val L-x:=by
 have h1:=h.sum;rw[jb,Ch,jI] at h1;have h2:=jR h.ok;rw[h.len,hn] at h2;exact chn _ _ _ _ _ h1 h2 hle
theorem rows_at {w:World}{a:Addr}{xs:List Nat}(h:0<xs.length->∃ b off,some a=some ⟨b,off,none⟩/\Row w b off xs):∀ j,j<xs.length->w.cell? (a.add j)=some (u (xs[j]?.getD 0)):=by
 intro j hj;obtain⟨b,off,ha,hr⟩:=h (by omega);injection ha with ha
 subst ha;rw[YB];exact hr j hj
theorem cid {w:World}{xa:Option Addr}{xs:List Nat}(h:0<xs.length->∃ b off,xa=some ⟨b,off,none⟩/\Row w b off xs) {w1:World}{N c:Nat}(hb:Below N w w1) (hN:w.heap.size<=N) (hc:w.heap.size<=c) :
 0<xs.length->∃ b off,xa=some ⟨b,off,none⟩/\b≠c/\Row w1 b off xs:=by
 intro hp;obtain⟨b,off,rfl,hr⟩:=h hp;have:=hr.lt hp;exact⟨b,off,rfl,by omega,hr.below hb (by omega)⟩
theorem ZO (v1 v2:Value) (m n k:Nat) (w:World) (h1:cr w v1 m) (h2:cr w v2 n) (hm:m<B^k) (hnm:n<=m) (hk:(k:Int)<=1073741824) :
 Calls Tryz.prog 120 #[v1,v2] w (Gm w (m-n)):=by
 obtain⟨xs,s1,t1,e1⟩:=h1;obtain⟨ys,s2,t2,e2⟩:=h2;have lx:=cr.len t1 e1 hm;have ly:ys.length<=xs.length:=uE t2 s1.ok (by omega);obtain⟨⟨xa,xc,rfl,hc1,hc2,hr1⟩,ok1⟩:=s1;obtain⟨⟨ya,yc,rfl,hd1,hd2,hr2⟩,ok2⟩:=s2;unfold maxLen at hc2 hd2;rcases xa with _|a
 ·have hx0:xs=[]:=by
   rcases xs with _|⟨x,xs⟩
   ·rfl
   ·obtain⟨b,off,h,_⟩:=hr1 (by simp);cases h
  subst hx0;have hy0:ys=[]:=by simpa using ly
  subst hy0;simp only[val] at e1 e2;subst e1;subst e2;clear hr1 hr2 ok1 ok2 t1 t2 hm hnm lx ly
  go_enter Tryz.func120,Tryz.ntmps120
  go_wp2_with fail;refine(cgn _ _ _).mono ?_;rintro e w' ⟨rfl,rfl⟩;go_wp2_with fail;refine(Uv none ya 0 yc w).mono ?_;rintro e w' ⟨rfl,rfl⟩;go_wp2_with fail;refine(uo [] _ _ (Sl.nil w) (by simp)).mono ?_;rintro e w' ⟨v,rfl,hnat,rfl⟩;have HN:=ca hnat;clear hnat;go_wp2_with fail
  go_ret
  exact⟨v,rfl,HN.out,cF _ _⟩
 ·have HR1:=ca (rows_at hr1);have HR2:=ca hr2;have HO1:=ca ok1;have HO2:=ca ok2;have HE1:=ca e1;have HE2:=ca e2;clear hr1 hr2 ok1 ok2 e1 e2 t1 t2 hm
  go_enter Tryz.func120,Tryz.ntmps120
  go_wp2_with fail;refine(Ue a xs xc w (by omega) HR1.out).mono ?_;rintro e w1 ⟨b,cap,rfl,hb,hB1,hcap1,hcap2,hbel⟩;have HB1:=ca hB1;have HBel:=ca hbel;clear hB1 hbel;go_wp2_with fail;refine(Uu b 0 xs.length cap yc xs ys ya w1 HB1.out (by omega) ly (by omega) HO1.out HO2.out (cid HR2.out HBel.out (cb _) hb)).mono ?_;rintro e w3 ⟨c,L',hc,rfl,hO3,hB3,hA⟩;have hv:=cgj hA rfl (by rw[HE1.out,HE2.out];exact hnm);have hlen:L'.length=xs.length:=hA.len;have hs:=Sl.of_blk hB3 hA.ok 0 xs.length cap (by omega) hcap1 hcap2;rw[kr,← hlen,uO,hlen] at hs;have hb3:Below w.heap.size w w3:=HBel.out.trans (hO3.below hb);rw[HE1.out,HE2.out] at hv;have HS:=ca hs;have HB3:=ca hb3;have HV:=ca hv;have HLen:=ca hlen;clear hs hb3 hv hlen hA hB3 hO3;go_wp2_with fail;refine(uo L' _ _ HS.out (by rw[HLen.out];omega)).mono ?_;rintro e w4 ⟨v,rfl,hnat,rfl⟩;have HN:=ca hnat;clear hnat;go_wp2_with fail
  go_ret
  refine⟨v,rfl,?_,HB3.out⟩;have:=HN.out;rw[HV.out] at this;exact this
theorem cii (P f m g n V1 V2 c c2:Nat) (h1:V1+P*c=f*m) (h2:V2+g*n=V1+P*c2) (hle:g*n<=f*m) (hD:f*m-g*n<P) (hV:V2<P):V2=f*m-g*n:=by
 have h3:V2+P*c=(f*m-g*n)+P*c2:=by omega
 exact(JQ h3 hV hD).1
theorem yq (v1 v2:Value) (f g m n k:Nat) (w:World) (h1:cr w v1 m) (h2:cr w v2 n) (hf:f<B) (hg:g<B) (hle:g*n<=f*m)
 (hD:f*m-g*n<=m\/f*m-g*n<=n) (hm:m<B^k) (hn:n<B^k) (hk:(k:Int)<=1073741824) :
 Calls Tryz.prog 126 #[u f,v1,u g,v2] w (Gm w (f*m-g*n)):=by
 obtain⟨xs,s1,t1,rfl⟩:=h1;obtain⟨ys,s2,t2,rfl⟩:=h2;have lx:=cr.len t1 rfl hm;have ly:=cr.len t2 rfl hn;obtain⟨⟨xa,xc,rfl,hc1,hc2,hr1⟩,ok1⟩:=s1;obtain⟨⟨ya,yc,rfl,hd1,hd2,hr2⟩,ok2⟩:=s2;unfold maxLen at hc2 hd2;obtain⟨N,hN⟩:∃ N,N=max xs.length ys.length:=⟨_,rfl⟩;have hNx:xs.length<=N:=by omega
 have hNy:ys.length<=N:=by omega
 have hDN:f*val xs-g*val ys<B^N:=by
  have h1:=jR ok1;have h2:=jR ok2;have h3:B^xs.length<=B^N:=jP jE hNx;have h4:B^ys.length<=B^N:=jP jE hNy;omega
 have hNmax:(N:Int)<=1073741824:=by omega
 have HN:=ca hN;have HDN:=ca hDN;have HLE:=ca hle;have HR1:=ca hr1;have HR2:=ca hr2;have HO1:=ca ok1;have HO2:=ca ok2;clear hr1 hr2 ok1 ok2 t1 t2 hm hn hN hD hDN hle;obtain⟨i0,hi,hz0,hz1,hz2⟩:=Ge zZ
 go_enter Tryz.func126,Tryz.ntmps126
 go_wp2_with (at_make;refine JN _ rfl _ _ 89 rfl w.heap.size 42 i0 (.int .u64 0) 1 Tryz.underlying89 hi hz0 hz1 _ _ _ _ N rfl rfl (by have:=HN.out;omega) (by have:=HN.out;omega) ?qb2 ?qb3 ?qb4 ?_)
 case qb2=>rw[hz2];omega
 case qb3=>unfold maxLen;omega
 case qb4=>exact cb _
 intro w1 hown hgrow;obtain⟨hB1,hbel⟩:=Ca hown hgrow;clear hown hgrow hi hz0 hz1 hz2;have HB1:=ca hB1;have HBel:=ca hbel;clear hB1 hbel;go_wp2_with fail;refine(zn w.heap.size 0 N _ _ (List.replicate N 0) xs xa f w1 HB1.out (by simp) hNx (by omega) hf (Ok.replicate _) HO1.out (Kh HR1.out HBel.out (cb _))).mono ?_;rintro e w2 ⟨rfl,hO2,c,L1,hB2,hA1⟩;have HB2:=ca hB2;have HO2':=ca hO2;have HA1:=ca hA1;have HBel2:=ca (HBel.out.trans (hO2.below (cb _)));have hl1:L1.length=N:=by rw[hA1.len];simp
 have HL1:=ca hl1;clear hB2 hO2 hA1 hl1;go_wp2_with fail;refine(yM w.heap.size 0 N _ _ L1 ys ya g w2 HB2.out (by have:=HL1.out;omega) hNy (by omega) hg HA1.out.ok HO2.out (Kh HR2.out HBel2.out (cb _))).mono ?_;rintro e w3 ⟨c2,L2,hc2',rfl,hO3,hB3,hA2⟩;have hl2:L2.length=N:=by rw[hA2.len,HL1.out]
 have hv:val L2=f*val xs-g*val ys:=by
  have s1:=HA1.out.sum;have s2:=hA2.sum;rw[yV,Ch,jI,jb,jb] at s1;rw[Ch,jI,jb] at s2;have hV:=jR hA2.ok;rw[hl2] at hV;exact cii _ _ _ _ _ _ _ _ _ s1 s2 HLE.out HDN.out hV
 have hs:=Sl.of_blk hB3 hA2.ok 0 N N (by omega) (cb _) (by unfold maxLen;omega);rw[kr,← hl2,uO,hl2] at hs;have HS:=ca hs;have HV:=ca hv;have HL2:=ca hl2;have HB3:=ca (HBel2.out.trans (hO3.below (cb _)));clear hs hv hl2 hB3 hO3 hA2;go_wp2_with fail;refine(uo L2 _ _ HS.out (by rw[HL2.out];omega)).mono ?_;rintro e w4 ⟨v,rfl,hnat,rfl⟩;rw[HV.out] at hnat;have HNat:=ca hnat;clear hnat;go_wp2_with fail
 go_ret
 exact⟨v,rfl,HNat.out,HB3.out⟩
end Go.Proofs.YtcgiaclelnmhbabGreatDoor
