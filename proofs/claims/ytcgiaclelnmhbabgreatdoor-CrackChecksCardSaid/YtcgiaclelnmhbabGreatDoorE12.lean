/- Part 12. -/
import Derived.Test.YtcgiaclelnmhbabGreatDoorE9
import Derived.RegionTactic
set_option linter.all false

namespace Go.Proofs.YtcgiaclelnmhbabGreatDoor
open Go Go.RowKit Go.Proofs Lim
theorem YK {x s:Nat}(hs:s<=64):x*2^s%B=x%2^(64-s)*2^s:=by
 have e1:2^(64-s)*2^s=B:=by rw[← jW,Uo];congr 1;omega
 rw[← e1,caD]
theorem cdv {x s c:Nat}(hs:s<=64) (hc:c<2^s):x%2^(64-s)*2^s+c<B:=by
 have e1:2^(64-s)*2^s=B:=by rw[← jW,Uo];congr 1;omega
 have h1:x%2^(64-s)<2^(64-s):=jJ _ (jV (by omega));have h2:(x%2^(64-s)+1)*2^s<=2^(64-s)*2^s:=cK _ h1;rw[cD,jI,e1] at h2;omega
theorem or_low {x s c:Nat}(hs:s<=64) (hc:c<2^s):bits .or .u64 (c:Int) ((x*2^s%B:Nat):Int)=((x*2^s%B+c:Nat):Int):=by
 rw[YK hs];exact or_add' hc (cdv hs hc)
structure Up (xs L:List Nat) (s k:Nat):Prop where
 len:L.length=xs.length+1
 ok:Ok L
 next:L[k]?.getD 0<2^s
 zeros:∀ j,k<j->L[j]?.getD 0=0
 sum:val L=val (xs.take k)*2^s
theorem Up.start (xs:List Nat) (s:Nat):Up xs (List.replicate (xs.length+1) 0) s 0 :=
 ⟨by simp,Ok.replicate _,by simp;exact jV (by omega),fun j _=>by rw[List.getElem?_replicate];split<;>rfl,by rw[yV];simp [val]⟩
theorem Up.step {xs L:List Nat}{s k:Nat}(h:Up xs L s k) (hk:k<xs.length) (okx:Ok xs) (hs:s<=64) :
 Up xs ((L.set k (xs[k]?.getD 0*2^s%B+L[k]?.getD 0)).set (k+1) (xs[k]?.getD 0/2^(64-s))) s (k+1):=by
 have hx:=okx.get k;generalize hxe:xs[k]?.getD 0=x at *;have h1:x*2^s%B+L[k]?.getD 0<B:=by rw[YK hs];exact cdv hs h.next
 have h2:x/2^(64-s)<2^s:=cbx hx hs;have h3:x/2^(64-s)<B:=jH (kz _ _) hx;have hl1:k<L.length:=by rw[h.len];omega
 have hl2:k+1<(L.set k (x*2^s%B+L[k]?.getD 0)).length:=by rw[Cz,h.len];omega
 refine⟨by simp [h.len],(h.ok.set _ _ h1).set _ _ h3,?_,?_,?_⟩
 ·rw[cbS hl2];exact h2
 ·intro j hj;rw[GK (by omega),GK (by omega)];exact h.zeros j (by omega)
 ·have v1:=El L k (x*2^s%B+L[k]?.getD 0) hl1;have v2:=El (L.set k (x*2^s%B+L[k]?.getD 0)) (k+1) (x/2^(64-s)) hl2;rw[GK (by omega),h.zeros (k+1) (by omega),Cf,jz] at v2;rw[v2,jg xs k hk,hxe,cD,← h.sum];have hsp:=cab x s hs;have e:B^k*x*2^s=B^(k+1)*(x/2^(64-s))+B^k*(x*2^s%B):=by
   rw[jk,hsp,cI,js,jk,jf B (x/2^(64-s))];rw[← hsp]
  rw[e];rw[cI] at v1;omega
def UpPost (w:World) (n v:Nat) (e:Ending) (w':World):Prop :=
 ∃ b L,e=.returned (.slice (some ⟨b,0,none⟩) n n)/\w.heap.size<=b/\Blk w' b L/\L.length=n/\Ok L/\val L=v/\Below w.heap.size w w'
theorem UO (v1:Value) (xs:List Nat) (s:Nat) (w:World) (h1:Sl w v1 xs) (hs:s<=63) (hk:(xs.length:Int)<=1073741825) :
 Calls Tryz.prog 127 #[v1,.int .i64 (s:Int)] w (UpPost w (xs.length+1) (val xs*2^s)):=by
 obtain⟨⟨xa,xc,rfl,hc1,hc2,hr1⟩,ok1⟩:=h1;obtain⟨i0,hi,hz0,hz1,hz2⟩:=Ge zZ;unfold maxLen at hc2;have HR1:=ca hr1;have HO1:=ca ok1;clear hr1 ok1;have hs0:(0:Int)<=(s:Int):=by omega
 have hs1:(s:Int)<=63:=by omega
 go_enter Tryz.func127,Tryz.ntmps127
 go_wp2_with (at_make;refine JN _ rfl _ _ 89 rfl w.heap.size 42 i0 (.int .u64 0) 1 Tryz.underlying89 hi hz0 hz1 _ _ _ _ (xs.length+1) rfl rfl (by omega) (by omega) ?qb2 ?qb3 ?qb4 ?_)
 case qb2=>rw[hz2];omega
 case qb3=>unfold maxLen;omega
 case qb4=>exact cb _
 intro w1 hown hgrow;obtain⟨hB1,hbel⟩:=Ca hown hgrow;clear hown hgrow hi hz0 hz1 hz2;have HB1:=ca hB1;have HBel:=ca hbel;clear hB1 hbel;go_wp2_with fail
 go_loopw [13] (fun i wr=>∃ k L,k<=xs.length/\i=.int .i64 (k:Int)/\Hid (Blk wr w.heap.size L)/\Hid (Up xs L s k)/\Hid (Below w.heap.size w wr)) (fun i _=>xs.length-(intOf i).toNat)
 case atStart=>exact⟨0,_,cQ _,rfl,HB1.out,Up.start xs s,HBel.out⟩
 case round =>
  obtain⟨k,L,hk',rfl,hB,hU,hBe⟩:=hrel;by_cases hlt:k<xs.length
  ·obtain⟨xb,xo,rfl,hxrow⟩:=HR1.out (by omega);have hxb:=hxrow.lt (by omega);have hxc:wr.cell? ⟨xb,xo+k,none⟩=some (u (xs[k]?.getD 0)):=(hBe.out.cell (p:=⟨xb,xo+k,none⟩) hxb).trans (hxrow k hlt);have hlc:wr.cell? ⟨w.heap.size,k,none⟩=some (u (L[k]?.getD 0)):=hB.out.cell k (by rw[hU.out.len];omega);have hz1:wr.frozen? ⟨w.heap.size,k,none⟩=false:=hB.out.frozen _;have hz2:wr.frozen? ⟨w.heap.size,k+1,none⟩=false:=hB.out.frozen _;have hlc2:wr.cell? ⟨w.heap.size,k+1,none⟩=some (u (L[k+1]?.getD 0)):=hB.out.cell (k+1) (by rw[hU.out.len];omega);have HU2:=ca (Up.step hU.out hlt HO1.out (by omega));have hnx:=hU.out.next;generalize hxg:xs[k]?.getD 0=x at *;generalize hcg:L[k]?.getD 0=c at *;generalize hcg2:L[k+1]?.getD 0=c2 at *;have e1:=zi x s;have e2:=or_low (x:=x) (by omega) hnx;have e3:=yU x (64-s);generalize x*2^s%B=lo at *;generalize x/2^(64-s)=h at *;clear hnx hxg hcg hcg2 hxrow;have hne:¬ xb=w.heap.size:=by omega
   have hne':¬ w.heap.size=xb:=by omega
   go_wp2_with fail
   go_region
   go_wp2_with fail
   go_roundw
   case rel =>
    rw[← Int.natCast_add];refine⟨k+1,_,by omega,by go_num,?_,HU2.out,?_⟩
    ·exact((hB.out.set k (lo+c) (by rw[hU.out.len];omega)).set (k+1) h (by rw[Cz,hU.out.len];omega)).drew
    ·exact hBe.out.trans ((((ju.refl w.heap.size wr).set k _).set (k+1) _).drew.below (cb _))
   case measure=>simp [intOf];omega
  ·obtain rfl:k=xs.length:=by omega
   go_wp2_with fail
   go_ret
   refine⟨w.heap.size,L,rfl,cb _,hB.out,hU.out.len,hU.out.ok,?_,hBe.out⟩;have:=hU.out.sum;rw[uO] at this;exact this
theorem or_high {x s c:Nat}(hs:s<=64) (hc:c<2^(64-s)):bits .or .u64 (c:Int) ((x*2^(64-s)%B:Nat):Int)=((x%2^s*2^(64-s)+c:Nat):Int):=by
 have h:=or_low (x:=x) (s:=64-s) (by omega) hc;have e:=YK (x:=x) (s:=64-s) (by omega);rw[show 64-(64-s)=s from by omega] at e;rw[h,e]
structure UW (xs L:List Nat) (s k:Nat):Prop where
 len:L.length=xs.length
 ok:Ok L
 last:∀ j,k=j+1->L[j]?.getD 0<2^(64-s)
 zeros:∀ j,k<=j->L[j]?.getD 0=0
 sum:val L=val (xs.take k)/2^s
theorem UW.start (xs:List Nat) (s:Nat):UW xs (List.replicate xs.length 0) s 0 :=
 ⟨by simp,Ok.replicate _,fun j h=>by omega,fun j _=>by rw[List.getElem?_replicate];split<;>rfl,by rw[yV];simp [val]⟩
theorem UW.first {xs L:List Nat}{s:Nat}(h:UW xs L s 0) (hk:0<xs.length) (okx:Ok xs) (hs:s<=64):UW xs (L.set 0 (xs[0]?.getD 0/2^s)) s 1:=by
 have hx:=okx.get 0;have hl:0<L.length:=by rw[h.len];exact hk
 have e1:2^s*2^(64-s)=B:=by rw[← jW,Uo];congr 1;omega
 refine⟨by simp [h.len],h.ok.set _ _ (jH (kz _ _) hx),?_,?_,?_⟩
 ·intro j hj;obtain rfl:j=0:=by omega
  rw[cbS hl];exact uM (by rw[e1];exact hx)
 ·intro j hj;rw[GK (by omega)];exact h.zeros j (by omega)
 ·have v1:=El L 0 (xs[0]?.getD 0/2^s) hl;rw[h.zeros 0 (by omega),h.sum,Ch,jI] at v1;have v2:=jg xs 0 hk;rw[v2];simp only[List.take_zero,val,jb,Ch,jI,jz,Nat.zero_div] at v1 ⊢;exact v1
theorem UW.step {xs L:List Nat}{s k:Nat}(h:UW xs L s (k+1)) (hk:k+1<xs.length) (okx:Ok xs) (hs:s<=64) :
 UW xs ((L.set (k+1) (xs[k+1]?.getD 0/2^s)).set k (xs[k+1]?.getD 0%2^s*2^(64-s)+L[k]?.getD 0)) s (k+2):=by
 have hx:=okx.get (k+1);have e1:2^s*2^(64-s)=B:=by rw[← jW,Uo];congr 1;omega
 have hps:0<2^s:=jV (by omega);generalize hxe:xs[k+1]?.getD 0=x at *;have hlast:=h.last k rfl;have h1:x%2^s*2^(64-s)+L[k]?.getD 0<B:=by
  have h1:x%2^s<2^s:=jJ _ hps;have h2:(x%2^s+1)*2^(64-s)<=2^s*2^(64-s):=cK _ h1;rw[cD,jI,e1] at h2;omega
 have h3:x/2^s<B:=jH (kz _ _) hx;have hl1:k+1<L.length:=by rw[h.len];exact hk
 have hl2:k<(L.set (k+1) (x/2^s)).length:=by rw[Cz,h.len];omega
 refine⟨by simp [h.len],(h.ok.set _ _ h3).set _ _ h1,?_,?_,?_⟩
 ·intro j hj;obtain rfl:j=k+1:=by omega
  rw[GK (by omega),cbS hl1];exact uM (by rw[e1];exact hx)
 ·intro j hj;rw[GK (by omega),GK (by omega)];exact h.zeros j (by omega)
 ·have v1:=El L (k+1) (x/2^s) hl1;have v2:=El (L.set (k+1) (x/2^s)) k (x%2^s*2^(64-s)+L[k]?.getD 0) hl2;rw[h.zeros (k+1) (by omega),Cf,jz] at v1;rw[GK (by omega),v1,h.sum] at v2;rw[show k+2=k+1+1 from rfl,jg xs (k+1) hk,hxe];have e2:B^(k+1)*x=(B^(k+1)*(x/2^s)+B^k*(x%2^s*2^(64-s)))*2^s:=by
   have hd:=kf x (2^s);rw[js];generalize x/2^s=q at *;generalize x%2^s=r at *;rw[← hd,← e1];generalize 2^s=p at *;generalize 2^(64-s)=p' at *;generalize B^k=P at *;grind
  rw[e2,Nat.add_mul_div_right _ _ hps];rw[cI] at v2;omega
theorem Zi (v1:Value) (xs:List Nat) (s:Nat) (w:World) (h1:Sl w v1 xs) (hs:s<=63) (hk:(xs.length:Int)<=1073741825) :
 Calls Tryz.prog 129 #[v1,.int .i64 (s:Int)] w (UpPost w xs.length (val xs/2^s)):=by
 obtain⟨⟨xa,xc,rfl,hc1,hc2,hr1⟩,ok1⟩:=h1;obtain⟨i0,hi,hz0,hz1,hz2⟩:=Ge zZ;unfold maxLen at hc2;have HR1:=ca hr1;have HO1:=ca ok1;clear hr1 ok1;have hs0:(0:Int)<=(s:Int):=by omega
 have hs1:(s:Int)<=63:=by omega
 go_enter Tryz.func129,Tryz.ntmps129
 go_wp2_with (at_make;refine JN _ rfl _ _ 89 rfl w.heap.size 42 i0 (.int .u64 0) 1 Tryz.underlying89 hi hz0 hz1 _ _ _ _ xs.length rfl rfl (by omega) (by omega) ?qb2 ?qb3 ?qb4 ?_)
 case qb2=>rw[hz2];omega
 case qb3=>unfold maxLen;omega
 case qb4=>exact cb _
 intro w1 hown hgrow;obtain⟨hB1,hbel⟩:=Ca hown hgrow;clear hown hgrow hi hz0 hz1 hz2;have HB1:=ca hB1;have HBel:=ca hbel;clear hB1 hbel;go_wp2_with fail
 go_loopw [12] (fun i wr=>∃ k L,k<=xs.length/\i=.int .i64 (k:Int)/\Hid (Blk wr w.heap.size L)/\Hid (UW xs L s k)/\Hid (Below w.heap.size w wr)) (fun i _=>xs.length-(intOf i).toNat)
 case atStart=>exact⟨0,_,cQ _,rfl,HB1.out,UW.start xs s,HBel.out⟩
 case round =>
  obtain⟨k,L,hk',rfl,hB,hU,hBe⟩:=hrel;by_cases hlt:k<xs.length
  ·obtain⟨xb,xo,rfl,hxrow⟩:=HR1.out (by omega);have hxb:=hxrow.lt (by omega);have hne:¬ xb=w.heap.size:=by omega
   have hne':¬ w.heap.size=xb:=by omega
   have hxc:wr.cell? ⟨xb,xo+k,none⟩=some (u (xs[k]?.getD 0)):=(hBe.out.cell (p:=⟨xb,xo+k,none⟩) hxb).trans (hxrow k hlt);have hz1:wr.frozen? ⟨w.heap.size,k,none⟩=false:=hB.out.frozen _;have hlc:wr.cell? ⟨w.heap.size,k,none⟩=some (u (L[k]?.getD 0)):=hB.out.cell k (by rw[hU.out.len];omega);rcases k with _|k
   ·have HU2:=ca (UW.first hU.out hlt HO1.out (by omega));generalize hxg:xs[0]?.getD 0=x at *;generalize hcg:L[0]?.getD 0=c at *;have e3:=yU x s;generalize x/2^s=h at *;rw[jz] at hxc;clear hxg hcg hxrow;go_wp2_with fail
    go_roundw
    case rel =>
     refine⟨1,_,by omega,rfl,hB.out.set 0 h (by rw[hU.out.len];omega),HU2.out,?_⟩;exact hBe.out.trans (((ju.refl w.heap.size wr).set 0 _).below (cb _))
    case measure=>simp [intOf];omega
   ·have HU2:=ca (UW.step hU.out hlt HO1.out (by omega));have hnx:=hU.out.last k rfl;have hlc2:wr.cell? ⟨w.heap.size,k,none⟩=some (u (L[k]?.getD 0)):=hB.out.cell k (by rw[hU.out.len];omega);have hz2:wr.frozen? ⟨w.heap.size,k,none⟩=false:=hB.out.frozen _;generalize hxg:xs[k+1]?.getD 0=x at *;generalize hcg:L[k+1]?.getD 0=c at *;generalize hcg2:L[k]?.getD 0=c2 at *;have e1:=zi x (64-s);have e2:=or_high (x:=x) (by omega) hnx;have e3:=yU x s;generalize x*2^(64-s)%B=lo at *;generalize x/2^s=h at *;generalize x%2^s*2^(64-s)=lo2 at *;clear hnx hxg hcg hcg2 hxrow;go_wp2_with fail
    go_region
    go_wp2_with fail
    go_roundw
    case rel =>
     rw[← Int.natCast_add];refine⟨k+2,_,by omega,by go_num,?_,HU2.out,?_⟩
     ·exact((hB.out.set (k+1) h (by rw[hU.out.len];omega)).set k (lo2+c2) (by rw[Cz,hU.out.len];omega)).drew
     ·exact hBe.out.trans ((((ju.refl w.heap.size wr).set (k+1) _).set k _).drew.below (cb _))
    case measure=>simp [intOf];omega
  ·obtain rfl:k=xs.length:=by omega
   go_wp2_with fail
   go_ret
   refine⟨w.heap.size,L,rfl,cb _,hB.out,hU.out.len,hU.out.ok,?_,hBe.out⟩;have:=hU.out.sum;rw[uO] at this;exact this
end Go.Proofs.YtcgiaclelnmhbabGreatDoor
