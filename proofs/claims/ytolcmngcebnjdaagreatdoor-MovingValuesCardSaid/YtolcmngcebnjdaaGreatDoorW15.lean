/- Part 15. -/
import Derived.Test.YtolcmngcebnjdaaGreatDoorW13
import Derived.Test.YtolcmngcebnjdaaGreatDoorW14
import Derived.Test.YtolcmngcebnjdaaGreatDoorW11
set_option linter.all false
open Bool (false_eq_true)
open Go.Lib (hid)
open List (drop_eq_getElem_cons drop_zero length_set take_length take_of_length_le)
open Nat (add_mul add_zero div_add_mod div_lt_of_lt_mul eq_zero_or_pos gcd_comm le_of_lt le_refl le_trans lt_of_le_of_lt lt_of_lt_of_le lt_or_ge min_eq_left mod_eq_of_lt mod_lt mul_comm mul_le_mul_right pow_le_pow_right pow_pos zero_le)

namespace Go.Proofs.YtolcmngcebnjdaaGreatDoor
open Go Go.RowKit Go.Proofs Lim
theorem ckq {r l d:Nat}(hr:r<d) (hl:l<B):(r*B+l)/d<B:=by
 refine div_lt_of_lt_mul ?_;have:(r+1)*B<=d*B:=mul_le_mul_right _ hr;rw[add_mul] at this;omega
structure Cn (L L':List Nat) (n j d r:Nat):Prop where
 len:L'.length=L.length
 ok:Ok L'
 low:L'.take j=L.take j
 high:L'.drop n=L.drop n
 rest:r<d
 sum:val ((L.take n).drop j)=val ((L'.take n).drop j)*d+r
theorem Cn.start (L:List Nat) (n d:Nat) (h:Ok L) (hd:0<d):Cn L L n n d 0 :=
 ⟨rfl,h,rfl,rfl,hd,by rw[List.drop_of_length_le (by simp;omega)];simp [val]⟩
theorem JP (L:List Nat) (n j:Nat) (hj:j<n) (hn:n<=L.length):(L.take n).drop j=L[j]?.getD 0::(L.take n).drop (j+1):=by
 rw[drop_eq_getElem_cons (by simp;omega)];congr 1;rw[List.getElem_take,List.getElem?_eq_getElem (by omega)];rfl
theorem Cn.step {L L':List Nat}{n j d r:Nat}(h:Cn L L' n (j+1) d r) (hj:j<n) (hn:n<=L.length) :
 Cn L (L'.set j (quo2 r (L'[j]?.getD 0) d)) n j d (rem2 r (L'[j]?.getD 0) d):=by
 unfold quo2 rem2;have hl:L'[j]?.getD 0=L[j]?.getD 0:=by
  have:=congrArg (fun l=>l[j]?) h.low;simp only[List.getElem?_take,if_pos (show j<j+1 from by omega)] at this;rw[this]
 have hq:=ckq (d:=d) h.rest (h.ok.get j);refine⟨by rw[length_set,h.len],h.ok.set _ _ hq,?_,?_,mod_lt _ (by have:=h.rest;omega),?_⟩
 ·rw[List.take_set,List.set_eq_of_length_le (by simp;omega)];have:=congrArg (List.take j) h.low;simpa [List.take_take,min_eq_left (show j<=j+1 from by omega)] using this
 ·rw[List.drop_set,if_pos hj,h.high]
 ·rw[JP _ _ _ hj hn,JP _ _ _ hj (by rw[length_set,h.len];exact hn)];have e1:(L'.set j ((r*B+L'[j]?.getD 0)/d))[j]?.getD 0=(r*B+L'[j]?.getD 0)/d:=by
   rw[List.getElem?_set_self (by rw[h.len];omega)];rfl
  have e2:((L'.set j ((r*B+L'[j]?.getD 0)/d)).take n).drop (j+1)=(L'.take n).drop (j+1):=by
   rw[List.take_set,List.drop_set,if_pos (by omega)]
  rw[e1,e2,val,val,h.sum,← hl];have:=div_add_mod (r*B+L'[j]?.getD 0) d;generalize L'[j]?.getD 0=l at *;generalize (r*B+l)/d=q at *;generalize (r*B+l)%d=m at *;generalize val (List.drop (j+1) (List.take n L'))=v at *;grind
def cgZ (w:World) (b n:Nat) (L:List Nat) (d:Nat) (e:Ending) (w':World):Prop :=
 ∃ r L',e=.returned (u r)/\jn b w w'/\Blk w' b L'/\Cn L L' n 0 d r
theorem Gm (b n:Nat) (cap:Nat) (L:List Nat) (d:Nat) (w:World) (hL:Blk w b L) (hn:n<=L.length) (hmax:(n:Int)<=4611686018427387904)
 (hd:0<d) (hdB:d<B) (okL:Ok L):Calls Tryz.prog 197 #[.slice (some ⟨b,0,none⟩) n cap,u d] w (cgZ w b n L d):=by
 have HL:=hid hL;have HO:=hid okL;clear hL okL
 go_enter Tryz.func197,Tryz.ntmps197
 go_wp2_with fail
 go_loopw [5,10] (fun r i wr=>∃ k c L',k<=n/\i=.int .i64 (k:Int)/\r=u c/\Hid (Cn L L' n (n-k) d c)/\Hid (Blk wr b L')/\Hid (jn b w wr)) (fun _ i _=>n-(intOf i).toNat)
 case atStart=>exact⟨0,0,L,zero_le _,rfl,rfl,Cn.start L n d HO.out hd,HL.out,jn.refl _ _⟩
 case round =>
  obtain⟨k,c,L',hk,rfl,rfl,hD,hB,hO⟩:=hrel;by_cases hlt:k<n
  ·obtain⟨j,hj⟩:∃ j,j+1+k=n:=⟨n-1-k,by omega⟩;have hlen:L'.length=L.length:=hD.out.len;have hc:wr.cell? ⟨b,j,none⟩=some (u (L'[j]?.getD 0)):=hB.out.cell j (by omega);have hfz:wr.frozen? ⟨b,j,none⟩=false:=hB.out.frozen _;have hix:((n:Nat):Int)-1-(k:Int)=(j:Int):=by omega
   have hjn:(j:Int)<(n:Int):=by omega
   have hcd:c<d:=hD.out.rest;have hl:L'[j]?.getD 0<B:=hD.out.ok.get j;have hst:Cn L (L'.set j (quo2 c (L'[j]?.getD 0) d)) n j d (rem2 c (L'[j]?.getD 0) d):=by
    refine Cn.step ?_ (by omega) hn;have:=hD.out;rw[show n-k=j+1 from by omega] at this;exact this
   have HS:=hid hst;have HJ:=hid hj;have HLn:=hid hlen;clear hst hD hj hlen;generalize hlg:L'[j]?.getD 0=l at *;clear hlg;go_wp2_with (go_at_call 218;refine(cbk c l d hcd hl hdB _).mono ?_;rintro e w' ⟨rfl,q,rfl⟩)
   go_roundw
   case rel =>
    refine⟨k+1,_,_,by omega,by go_num,rfl,?_,hB.out.set j _ (by rw[HLn.out];omega),((hO.out.trans ((jn.refl b wr).drewN q)).set j _)⟩;rw[show n-(k+1)=j from by have:=HJ.out;omega];exact HS.out
   case measure=>simp [intOf];omega
  ·obtain rfl:k=n:=by omega
   go_wp2_with fail
   go_ret
   refine⟨c,L',rfl,hO.out,hB.out,?_⟩;have:=hD.out;rw[Nat.sub_self] at this;exact this
def Ur (w:World) (m n:Nat) (e:Ending) (w':World):Prop :=
 ∃ q r,e=.returned (.tuple #[q,r])/\cr w' q (m/n)/\cr w' r (m%n)/\Below w.heap.size w w'
theorem cr.zero (w:World):cr w (.slice none 0 0) 0:=⟨[],Sl.nil w,fun h=>absurd rfl h,rfl⟩
theorem cir (v1 v2:Value) (m n:Nat) (w:World) (h1:cr w v1 m) (h2:cr w v2 n) (hlt:m<n) :
 Calls Tryz.prog 182 #[v1,v2] w (Ur w m n):=by
 have hc:=zv v1 v2 m n w h1 h2;rw[show cZ m n=-1 from if_pos hlt] at hc;have HC:=hid hc;have H1:=hid h1;clear hc h1 h2;obtain⟨xs,⟨⟨xa,xc,rfl,_⟩,_⟩,_⟩:=H1.out
 go_enter Tryz.func182,Tryz.ntmps182
 go_wp2_with fail;refine HC.out.mono ?_;rintro e w' ⟨rfl,k,rfl⟩;go_wp2_with fail
 go_ret2
 refine⟨.slice none 0 0,.slice xa xs.length xc,rfl,?_,?_,uy (Below.refl _ _)⟩
 ·rw[Nat.div_eq_of_lt hlt];exact cr.zero _
 ·rw[mod_eq_of_lt hlt];exact H1.out.below (B:=w.heap.size) (uy (Below.refl _ _)) (le_refl _)
theorem chU (v1 v2:Value) (m n k:Nat) (w:World) (h1:cr w v1 m) (h2:cr w v2 n) (hle:n<=m) (hn:0<n) (hnB:n<B) (hm:m<B^k) (hk:(k:Int)<=1073741824) :
 Calls Tryz.prog 182 #[v1,v2] w (Ur w m n):=by
 have hc:=zv v1 v2 m n w h1 h2;have hcmp:cZ m n=0\/cZ m n=1:=by
  unfold cZ;rw[if_neg (by omega)];split
  ·exact .inr rfl
  ·exact .inl rfl
 have hcb:(0:Int)<=cZ m n:=by rcases hcmp with h|h<;>rw[h]<;>omega
 generalize cZ m n=cm at *;clear hcmp;have HC:=hid hc;clear hc;obtain⟨xs,s1,t1,e1⟩:=h1;obtain⟨ys,s2,t2,e2⟩:=h2;have lx:=cr.len t1 e1 hm;have ly:ys.length=1:=by
  have l1:ys.length<=1:=cr.len t2 e2 (by rw[Nat.pow_one];exact hnB);rcases ys with _|⟨y,ys⟩
  ·simp [val] at e2;omega
  ·simp at l1 ⊢;exact l1
 obtain⟨y,rfl⟩:∃ y,ys=[y]:=by
  rcases ys with _|⟨y,_|⟨z,ys⟩⟩
  ·simp at ly
  ·exact⟨y,rfl⟩
  ·simp at ly
 obtain rfl:y=n:=by simpa [val] using e2
 have hx1:0<xs.length:=by
  rcases xs with _|⟨x,xs⟩
  ·simp [val] at e1;omega
  ·simp
 obtain⟨⟨xa,xc,rfl,hc1,hc2,hr1⟩,ok1⟩:=s1;obtain⟨⟨ya,yc,rfl,hd1,hd2,hr2⟩,ok2⟩:=s2;obtain⟨xb,xo,rfl,rowx⟩:=hr1 hx1;obtain⟨yb,yo,rfl,rowy⟩:=hr2 (by simp);have cy:w.cell? ⟨yb,yo,none⟩=some (u y):=rowy 0 (by simp);have hyb:=rowy.lt (by simp);have rowx':∀ j,j<xs.length->w.cell? ((⟨xb,xo,none⟩:Addr).add j)=some (u (xs[j]?.getD 0)):=fun j hj=>by rw[Addr.add_lit];exact rowx j hj
 have HR1:=hid rowx';have HO1:=hid ok1;have HE1:=hid e1;have HY:=hid cy;clear rowx rowx' rowy hr1 hr2 ok1 ok2 e1 e2 t1 t2 hm ly cy;simp only[List.length_singleton] at *
 go_enter Tryz.func182,Tryz.ntmps182
 go_wp2_with fail;refine HC.out.mono ?_;rintro e w' ⟨rfl,q,rfl⟩;go_wp2_with fail;refine(Uy _ xs xc (w.drewN q) (by omega) HR1.out).mono ?_;rintro e w1 ⟨b,cap,rfl,hb,hB1,hcap1,hcap2,hbel⟩;have cy1:w1.cell? ⟨yb,yo,none⟩=some (u y):=(hbel.cell (p:=⟨yb,yo,none⟩) hyb).trans HY.out;have HB1:=hid hB1;have HBel:=hid hbel;clear hB1 hbel;go_wp2_with fail;refine(Gm b xs.length cap xs y w1 HB1.out (le_refl _) (by omega) hn hnB HO1.out).mono ?_;rintro e w2 ⟨r,L',rfl,hO2,hB2,hD⟩;have hlen:L'.length=xs.length:=hD.len;have hsum:=hD.sum;rw[drop_zero,drop_zero,take_length,← hlen,take_length,HE1.out] at hsum;have hr:=hD.rest;have hq:val L'=m/y:=by
  rw[hsum,mul_comm,Nat.mul_add_div hn,Nat.div_eq_of_lt hr,add_zero]
 have hr':r=m%y:=by
  rw[hsum,mul_comm,Nat.mul_add_mod,mod_eq_of_lt hr]
 have hs:=Sl.of_blk hB2 hD.ok 0 xs.length cap (by omega) hcap1 hcap2;rw[drop_zero,← hlen,take_length,hlen] at hs;have hb2:Below w.heap.size w w2:=(uy (Below.refl _ _)).trans (HBel.out.trans (hO2.below hb));have HS:=hid hs;have HB2:=hid hb2;have HQ:=hid hq;have HR:=hid hr';have HL:=hid hlen;clear hs hb2 hq hr' hsum hlen hB2 hO2 hD;go_wp2_with fail;refine(ym L' _ _ HS.out (by rw[HL.out];omega)).mono ?_;rintro e w4 ⟨v,rfl,hnat,rfl⟩;rw[HQ.out] at hnat;have HN:=hid hnat;clear hnat;go_wp2_with fail;refine(Jx r w2 (by omega)).mono ?_;rintro e w5 ⟨vr,rfl,hnr,hb5⟩;rw[HR.out] at hnr;have HN2:=hid hnr;have HB5:=hid hb5;clear hnr hb5;go_wp2_with fail
 go_ret2
 exact⟨v,vr,rfl,HN.out.below HB5.out (le_refl _),HN2.out,HB2.out.trans (HB5.out.mono HB2.out.size)⟩
theorem chI (v1 v2:Value) (m n k:Nat) (w:World) (h1:cr w v1 m) (h2:cr w v2 n) (hle:n<=m) (hnB:B<=n) (hm:m<B^k) (hk:(k:Int)<=1073741824) :
 Calls Tryz.prog 182 #[v1,v2] w (Ur w m n):=by
 have hc:=zv v1 v2 m n w h1 h2;have hcmp:cZ m n=0\/cZ m n=1:=by
  unfold cZ;rw[if_neg (by omega)];split
  ·exact .inr rfl
  ·exact .inl rfl
 have hcb:(0:Int)<=cZ m n:=by rcases hcmp with h|h<;>rw[h]<;>omega
 generalize cZ m n=cm at *;clear hcmp;have HC:=hid hc;clear hc;obtain⟨xs,s1,t1,e1⟩:=h1;obtain⟨ys,s2,t2,e2⟩:=h2;have lx:=cr.len t1 e1 hm;have lxy:ys.length<=xs.length:=yM t2 s1.ok (by omega);have ly:2<=ys.length:=by
  rcases lt_or_ge ys.length 2 with h|h
  ·exfalso;have h3:=kb s2.ok;have h4:B^ys.length<=B^1:=pow_le_pow_right jJ (by omega);rw[Nat.pow_one] at h4;omega
  ·exact h
 obtain⟨j,hj⟩:∃ j,ys.length=j+1:=⟨ys.length-1,by omega⟩;have htop:0<ys[j]?.getD 0:=by
  have hne:ys≠[]:=by intro h;subst h;simp at ly
  have:=t2 hne;rw[List.getLast_eq_getElem hne] at this;rw[List.getElem?_eq_getElem (by omega)];simp only[Option.getD_some];have e:ys.length-1=j:=by omega
  simp only[e] at this;omega
 have htB:=s2.ok.get j;obtain⟨z1,z2,z3⟩:=ccb htop htB;have S1:=hid s1;have S2:=hid s2;have HE1:=hid e1;have HE2:=hid e2;have HZ2:=hid z2;have HZ3:=hid z3;obtain⟨⟨xa,xc,rfl,hc1,hc2,hr1⟩,ok1⟩:=s1;obtain⟨⟨ya,yc,rfl,hd1,hd2,hr2⟩,ok2⟩:=s2;obtain⟨yb,yo,rfl,rowy⟩:=hr2 (by omega);have cy:w.cell? ⟨yb,yo+j,none⟩=some (u (ys[j]?.getD 0)):=rowy j (by omega);have HO1:=hid ok1;have HO2:=hid ok2;have hne1:(((ys.length:Nat):Int) == 1)=false:=by rw[beq_eq_false_iff_ne];omega
 have hlj:((ys.length:Nat):Int)-1=(j:Int):=by omega
 have hjl:(j:Int)<((ys.length:Nat):Int):=by omega
 have HJ:=hid hj;generalize htg:ys[j]?.getD 0=top at *;have HTG:=hid htg;unfold maxLen at hc2 hd2;clear rowy hr1 hr2 ok1 ok2 e1 e2 t1 t2 hm z2 z3 hj htg
 go_enter Tryz.func182,Tryz.ntmps182
 go_wp2_with fail;refine HC.out.mono ?_;rintro e w' ⟨rfl,q,rfl⟩;go_wp2_with fail;refine(Zj top htB _).mono ?_;rintro e w' ⟨rfl,rfl⟩;go_wp2_with fail;refine(Wy _ ys (lz top) (w.drewN q) (S2.out.below (uy (Below.refl w.heap.size w)) (le_refl _)) z1 (by omega)).mono ?_;rintro e w1 ⟨b1,L1,rfl,hb1,hB1,hl1,hok1,hv1,hbel1⟩;go_wp2_with fail;have hsl1:=Sl.of_blk hB1 hok1 0 (ys.length+1) (ys.length+1) (by omega) (le_refl _) (by unfold maxLen;omega);rw[drop_zero,← hl1,take_length,hl1] at hsl1;have hbw1:Below w.heap.size w w1:=(uy (Below.refl _ _)).trans hbel1;have HS1:=hid hsl1;have HBW1:=hid hbw1;have HL1:=hid hl1;have HV1:=hid hv1;clear hsl1 hbw1 hl1 hv1 hbel1 hB1 hok1 hb1;refine(ym L1 _ _ HS1.out (by rw[HL1.out];omega)).mono ?_;rintro e w' ⟨vD,rfl,hD,rfl⟩;rw[HV1.out] at hD;obtain⟨D,sD,tD,eD⟩:=hD;obtain⟨nl1,nl2,nl3⟩:=cjN tD sD.ok eD S2.out.ok j HJ.out (by rw[HTG.out];exact HZ2.out) (by rw[HTG.out];exact HZ3.out);have hDy:D.length=ys.length:=by rw[nl1,HJ.out]
 rw[← nl1] at nl3;obtain⟨⟨da,dc,rfl,hdc1,hdc2,hrD⟩,okD⟩:=sD;obtain⟨db,dof,rfl,rowD⟩:=hrD (by omega);have hdb:=rowD.lt (by omega);have hD2:2<=D.length:=by omega
 have hDmax:(D.length:Int)<=1073741824:=by omega
 unfold maxLen at hdc2;have hDx:D.length<=xs.length:=by omega
 have HDy:=hid hDy;have HeD:=hid eD;have HokD:=hid okD;have Hrow:=hid rowD;have Hn2:=hid nl2;have Hn3:=hid nl3;have Hnl1:=hid nl1;clear hDy eD okD rowD nl2 nl3 nl1 tD hrD;go_wp2_with fail;refine(Wy _ xs (lz top) w1 (S1.out.below HBW1.out (le_refl _)) z1 (by omega)).mono ?_;rintro e w2 ⟨b2,R,rfl,hb2,hB2,hl2,hok2,hv2,hbel2⟩;have HB2:=hid hB2;have HL2:=hid hl2;have HOk2:=hid hok2;have HV2:=hid hv2;have HBel2:=hid hbel2;have HRow2:=hid (Hrow.out.below hbel2 hdb);have hsz2:=hbel2.size;have hb2lt:=hB2.lt;clear hB2 hl2 hok2 hv2 hbel2;obtain⟨lc,hlc⟩:∃ lc,lc+D.length=xs.length+1:=⟨xs.length+1-D.length,by omega⟩;have HLc:=hid hlc;have hlcmax:(lc:Int)<=1073741825:=by omega
 have hlc1:1<=lc:=by omega
 clear hlc;obtain⟨i0,hi,hz0,hz1,hz2⟩:=info_parts Es;go_wp2_with (at_make;refine wpList_make_full _ rfl _ _ 173 rfl w2.heap.size 36 i0 (.int .u64 0) 1 Tryz.underlying173 hi hz0 hz1 _ _ _ _ lc rfl rfl (by have:=HLc.out;omega) (by have:=HLc.out;omega) ?qb2 ?qb3 ?qb4 ?_)
 case qb2=>rw[hz2];omega
 case qb3=>unfold maxLen;omega
 case qb4=>exact le_refl _
 intro w3 hown hgrow;obtain⟨hB3,hbel3⟩:=EC hown hgrow;clear hown hgrow hi hz0 hz1 hz2;have HB3:=hid hB3;have HB23:=hid (HB2.out.below hbel3 hb2lt);have HRow3:=hid (HRow2.out.below hbel3 (by omega));have HBel3:=hid (HBW1.out.trans (HBel2.out.mono HBW1.out.size |>.trans (hbel3.mono (le_trans HBW1.out.size hsz2))));clear hB3 hbel3;have hwsz:w.heap.size<=w1.heap.size:=HBW1.out.size;have hvp:0<val D:=by
  have:=Hn3.out;have h2:0<B^D.length:=pow_pos jJ;omega
 have hbne:b2≠w2.heap.size:=by omega
 have hdne2:db≠b2:=by omega
 have hdne3:db≠w2.heap.size:=by omega
 go_wp2_with fail
 go_loopw [55] (fun i wr=>∃ k R QL,k<=lc/\i=.int .i64 (k:Int)/\Hid (Blk wr b2 R)/\Hid (Blk wr w2.heap.size QL)/\Hid (Yx (val xs*2^lz top) (val D) R QL (xs.length+1) lc (lc-k))/\Hid (Row wr db dof D)/\Hid (Below w.heap.size w wr)) (fun i _=>lc-(intOf i).toNat)
 case atStart =>
  exact⟨0,R,_,zero_le _,rfl,HB23.out,HB3.out,by rw[Nat.sub_zero];exact Yx.start HV2.out HOk2.out HL2.out HO1.out rfl z1 Hn3.out HLc.out,HRow3.out,HBel3.out⟩
 case round =>
  clear HB2 HL2 HOk2 HV2 HB3 HB23 HRow2 HRow3 HBel3 HBel2;obtain⟨k,R,QL,hk,rfl,hBR,hBQ,hLg,hRD,hBW⟩:=hrel;by_cases hlt:k<lc
  ·obtain⟨a,ha⟩:∃ a,a+1+k=lc:=⟨lc-1-k,by omega⟩;have hLg':Yx (val xs*2^lz top) (val D) R QL (xs.length+1) lc (a+1):=by
    have:=hLg.out;rw[show lc-k=a+1 from by omega] at this;exact this
   have hanr:a+(D.length+1)<=xs.length+1:=by have:=HLc.out;omega
   have HNext:=hid (ccr b2 a (xs.length+1-a) D.length (D.length+1) db dof dc R D wr rfl hD2 rfl hBR.out (by rw[hLg'.lenR];exact hanr) hRD.out hdne2 hLg'.okR HokD.out
    (by rw[Hnl1.out,Nat.add_sub_cancel];exact Hn2.out) (hLg'.window_lt hanr) (by omega))
   have hix:((lc:Nat):Int)-1-(k:Int)=(a:Int):=by omega
   have hac:(a:Int)<(lc:Int):=by omega
   have ha0:(0:Int)<=(a:Int):=by omega
   obtain⟨top2,htop2⟩:∃ top2,top2=a+D.length+1:=⟨_,rfl⟩;have HA:=hid ha;have HLg:=hid hLg';have HAnr:=hid hanr;have Htop2:=hid htop2;clear ha hLg' hLg hanr htop2;have hq1:(a:Int)+((D.length:Nat):Int)+1<=((xs.length:Nat):Int)+1:=by have:=HAnr.out;omega
   have hq2:(a:Int)<=(a:Int)+((D.length:Nat):Int)+1:=by omega
   have hanx:¬ xs.length+1=a:=by have:=HAnr.out;omega
   go_wp2_with fail;rw[show a+D.length+1-a=D.length+1 from by omega];refine HNext.out.mono ?_;rintro e w5 ⟨R',rfl,hO5,hB5,hT5⟩;have hBQ5:Blk w5 w2.heap.size QL:=hBQ.out.only hO5 (by omega);have hfz:w5.frozen? ⟨w2.heap.size,a,none⟩=false:=hBQ5.frozen _;have hcl:w5.cell? ⟨w2.heap.size,a,none⟩=some (u (QL[a]?.getD 0)):=hBQ5.cell a (by rw[HLg.out.lenQ];omega);have hqB:val ((R.drop a).take (D.length+1))/val D<B:=div_lt_of_lt_mul (HLg.out.window_lt HAnr.out);have hstep:=HLg.out.step HAnr.out (by have:=HA.out;omega) hvp (kb HokD.out) hT5 hqB;have hBS:=hBQ5.set a (val ((R.drop a).take (D.length+1))/val D) (by rw[HLg.out.lenQ];have:=HA.out;omega);have hR5:Row w5 db dof D:=hO5.row hdne2 hRD.out;have hB5':Blk (w5.setCell ⟨w2.heap.size,a,none⟩ (u (val ((R.drop a).take (D.length+1))/val D))) b2 R':=hB5.only ((jn.refl w2.heap.size w5).set a _) hbne;have hR5':Row (w5.setCell ⟨w2.heap.size,a,none⟩ (u (val ((R.drop a).take (D.length+1))/val D))) db dof D:=((jn.refl w2.heap.size w5).set a _).row hdne3 hR5;have hBW5:Below w.heap.size w (w5.setCell ⟨w2.heap.size,a,none⟩ (u (val ((R.drop a).take (D.length+1))/val D))) :=
    (hBW.out.trans (hO5.below (by omega))).trans (((jn.refl w2.heap.size w5).set a _).below (by omega))
   generalize val ((R.drop a).take (D.length+1))/val D=qd at *;generalize QL[a]?.getD 0=ql at *;have G1:=hid hstep;have G2:=hid hBS;have G3:=hid hB5';have G4:=hid hR5';have G5:=hid hBW5;clear hstep hBS hB5' hR5' hBW5 hBQ5 hR5 hO5 hB5 hT5 hqB;go_wp2_with fail
   go_roundw
   case rel =>
    refine⟨k+1,R',_,by omega,by go_num,G3.out,G2.out,?_,G4.out,G5.out⟩;rw[show lc-(k+1)=a from by have:=HA.out;omega];exact G1.out
   case measure=>simp [intOf];omega
  ·obtain rfl:k=lc:=by omega
   have hL:=hLg.out;rw[Nat.sub_self,HeD.out] at hL;obtain⟨hqv,hrv⟩:=hL.done rfl (pow_pos (by omega)) (by rw[HE2.out];have:=jJ;omega);rw[HE1.out,HE2.out] at hqv hrv;have hsQ:=Sl.of_blk hBQ.out hL.okQ 0 k k (by rw[hL.lenQ];omega) (le_refl _) (by unfold maxLen;omega);have hQl:(QL.drop 0).take k=QL:=by rw[drop_zero,take_of_length_le (by rw[hL.lenQ];omega)]
   rw[hQl] at hsQ;have hsR:=Sl.of_blk hBR.out hL.okR 0 (xs.length+1) (xs.length+1) (by rw[hL.lenR];omega) (le_refl _) (by unfold maxLen;omega);have hRl:(R.drop 0).take (xs.length+1)=R:=by rw[drop_zero,take_of_length_le (by rw[hL.lenR];omega)]
   rw[hRl] at hsR;have hlQ:=hL.lenQ;have hlR:=hL.lenR;have GQ:=hid hsQ;have GR:=hid hsR;have Gq:=hid hqv;have Gr:=hid hrv;have GlQ:=hid hlQ;have GlR:=hid hlR;clear hL hqv hrv hsQ hsR hQl hRl hlQ hlR;go_wp2_with fail;refine(ym QL _ _ GQ.out (by rw[GlQ.out];omega)).mono ?_;rintro e w6 ⟨vq,rfl,hnq,rfl⟩;rw[Gq.out] at hnq;have HNQ:=hid hnq;clear hnq;go_wp2_with fail;have hcd:=cac (.slice (some ⟨b2,0,none⟩) (xs.length+1) (xs.length+1)) R (lz top) wr GR.out z1 (by rw[GlR.out];omega);rw[GlR.out,Gr.out] at hcd;refine hcd.mono ?_;rintro e w7 ⟨b7,L7,rfl,hb7,hB7,hl7,hok7,hv7,hbel7⟩;have hs7:=Sl.of_blk hB7 hok7 0 (xs.length+1) (xs.length+1) (by omega) (le_refl _) (by unfold maxLen;omega);rw[drop_zero,← hl7,take_length,hl7] at hs7;have G7:=hid hs7;have GV7:=hid hv7;have GL7:=hid hl7;have GB7:=hid hbel7;clear hs7 hv7 hl7 hbel7 hB7 hok7 hcd;go_wp2_with fail;refine(ym L7 _ _ G7.out (by rw[GL7.out];omega)).mono ?_;rintro e w8 ⟨vr,rfl,hnr,rfl⟩;rw[GV7.out] at hnr;have HNR:=hid hnr;clear hnr;go_wp2_with fail
   go_ret2
   exact⟨vq,vr,rfl,HNQ.out.below GB7.out (le_refl _),HNR.out,hBW.out.trans (GB7.out.mono hBW.out.size)⟩
theorem Zh (v1 v2:Value) (m n k:Nat) (w:World) (h1:cr w v1 m) (h2:cr w v2 n) (hn:0<n) (hm:m<B^k) (hk:(k:Int)<=1073741824) :
 Calls Tryz.prog 182 #[v1,v2] w (Ur w m n):=by
 rcases lt_or_ge m n with h|h
 ·exact cir v1 v2 m n w h1 h2 h
 ·rcases lt_or_ge n B with hB|hB
  ·exact chU v1 v2 m n k w h1 h2 h hn hB hm hk
  ·exact chI v1 v2 m n k w h1 h2 h hB hm hk
def ceE (w:World) (m n:Nat) (e:Ending) (w':World):Prop :=
 ∃ p q X Y,e=.returned (.tuple #[p,q])/\cr w' p X/\cr w' q Y/\Nat.gcd X Y=Nat.gcd m n/\Y<n/\Y<=X/\X<=m/\Below w.heap.size w w'
theorem sizes {m n X Y a b c d:Nat}(hm:m=d*X+b*Y) (hn:n=c*X+a*Y) (hYX:Y<X) (hc:1<=c) (hd:1<=d):Y<n/\X<=m/\X<=n:=by
 have h1:1*X<=d*X:=mul_le_mul_right _ hd;have h2:1*X<=c*X:=mul_le_mul_right _ hc;omega
theorem euclid {m n A C X0 Y0 a b c d:Nat}{odd:Bool}(hL:Leads m n A C) (hS:Lim.Steps A C X0 Y0 a b c d odd) (hb:b≠0\/odd=true) :
 ∃ X Y,(if odd then X=b*n-a*m/\a*m<=b*n/\Y=c*m-d*n/\d*n<=c*m else X=a*m-b*n/\b*n<=a*m/\Y=d*n-c*m/\c*m<=d*n)/\
  Nat.gcd X Y=Nat.gcd m n/\Y<n/\Y<X/\X<=m/\X<=n:=by
 obtain⟨K,x',y',hx',hy',rfl,rfl⟩:=hL.split;cases odd
 ·obtain⟨X,Y,h1,h2,h3,h4,h5,h6,h7⟩:=hS.even (by simpa using hb) hx' hy';obtain⟨s1,s2,s3⟩:=sizes h4 h5 h3 h6 h7;refine⟨X,Y,?_,WR h4 h5 (.inl ⟨h1,h2⟩),s1,h3,s2,s3⟩;simp only[false_eq_true,if_false];omega
 ·obtain⟨X,Y,h1,h2,h3,h4,h5,h6,h7⟩:=hS.odd hx' hy';obtain⟨s1,s2,s3⟩:=sizes h4 h5 h3 h6 h7;refine⟨X,Y,?_,WR h4 h5 (.inr ⟨h1,h2⟩),s1,h3,s2,s3⟩;simp only[if_true];omega
theorem cet (v1 v2:Value) (m n k:Nat) (w:World) (h1:cr w v1 m) (h2:cr w v2 n) (hle:n<=m) (hnB:B<=n) (hm:m<B^k) (hk:(k:Int)<=1073741824) :
 Calls Tryz.prog 180 #[v1,v2] w (ceE w m n):=by
 have HLd:=hid (cdv v1 v2 m n w h1 h2 hle (by omega));have H1:=hid h1;have H2:=hid h2;obtain⟨xs,⟨⟨xa,xc,rfl,_,_,_⟩,_⟩,_⟩:=h1;obtain⟨ys,⟨⟨ya,yc,rfl,_,_,_⟩,_⟩,_⟩:=h2;have hmB:B<=m:=by omega
 go_enter Tryz.func180,Tryz.ntmps180
 go_wp2_with fail;refine HLd.out.mono ?_;rintro e w1 ⟨A,C,q,rfl,hL,rfl⟩;have HL:=hid hL;clear hL;go_wp2_with fail;refine(ccN A C HL.out.la (lt_of_le_of_lt HL.out.le HL.out.la) HL.out.le _).mono ?_;rintro e w2 ⟨a,b,c,d,X0,Y0,odd,rfl,hS,haB,hbB,hcB,hdB,hbel⟩;have HS:=hid hS;have HBel:=hid ((uy (Below.refl w.heap.size w)).trans hbel);clear hS hbel;by_cases hb0:b=0
 ·have hbb:(((b:Nat):Int) == 0)=true:=by subst hb0;rfl
  clear hb0;have hbw:Below w.heap.size w (w2.alloc (.cells #[u a,u b,u c,u d,.bool odd] 284)):=HBel.out.alloc HBel.out.size _;have HBW:=hid hbw;clear hbw;go_wp2_with fail;refine(Zh _ _ m n k _ (H1.out.below HBW.out (le_refl _)) (H2.out.below HBW.out (le_refl _)) (by have:=jJ;omega) hm hk).mono ?_;rintro e w4 ⟨vq,vr,rfl,_,hr,hb4⟩;have HR:=hid hr;have HB4:=hid hb4;clear hr hb4;go_wp2_with fail
  go_ret2
  have hn0:0<n:=by have:=jJ;omega
  have hbz:Below w.heap.size w w4:=HBW.out.trans (HB4.out.mono HBW.out.size);refine⟨_,vr,n,m%n,rfl,H2.out.below hbz (le_refl _),HR.out,?_,mod_lt _ hn0,le_of_lt (mod_lt _ hn0),hle,hbz⟩;rw[gcd_comm m n,Nat.gcd_rec n m,gcd_comm]
 ·have hbb:(((b:Nat):Int) == 0)=false:=by rw[beq_eq_false_iff_ne];omega
  obtain⟨X,Y,hXY,hg,hYn,hYX,hXm,hXn⟩:=euclid HL.out HS.out (.inl hb0);have hnk:n<B^k:=by omega
  have hbw:Below w.heap.size w (w2.alloc (.cells #[u a,u b,u c,u d,.bool odd] 284)):=HBel.out.alloc HBel.out.size _;have hSA:zG (w2.alloc (.cells #[u a,u b,u c,u d,.bool odd] 284)) w2.heap.size a b c d odd:=heap_alloc_new w2 _;have hwK:w.heap.size<=w2.heap.size:=HBel.out.size;obtain⟨K,hK⟩:∃ K,K=w2.heap.size:=⟨_,rfl⟩;have hKlt:K<(w2.alloc (.cells #[u a,u b,u c,u d,.bool odd] 284)).heap.size:=by rw[hK];simp
  have HXY:=hid hXY;have HG:=hid hg;have hm':=hm;clear hXY hg hb0;cases odd
  ·obtain⟨eX,leX,eY,leY⟩:X=a*m-b*n/\b*n<=a*m/\Y=d*n-c*m/\c*m<=d*n:=by simpa using HXY.out
   have D1:=hid (fun(W:World) (hW:Below w.heap.size w W)=>zN _ _ a b m n k W (H1.out.below hW (le_refl _)) (H2.out.below hW (le_refl _)) haB hbB leX (.inl (by omega)) hm hnk hk);have D2:=hid (fun(W:World) (hW:Below w.heap.size w W)=>zN _ _ d c n m k W (H2.out.below hW (le_refl _)) (H1.out.below hW (le_refl _)) hdB hcB leY (.inl (by omega)) hnk hm hk);rw[← eX] at D1;rw[← eY] at D2;have EX:=hid eX;have EY:=hid eY;clear eX eY leX leY hm hm' hnk;obtain⟨W,hW⟩:∃ W,W=w2.alloc (.cells #[u a,u b,u c,u d,.bool false] 284):=⟨_,rfl⟩;rw[← hW] at hbw hSA hKlt;go_wp2_with fail;rw[← hK,← hW];rw[← hK] at hSA;obtain⟨⟨q0,q1,q2,q3,q4⟩,_⟩:=hSA.cells;have HW:=hid hW;have HKl:=hid hKlt;have HBW:=hid hbw;have HKK:=hid hK;clear hW hSA hKlt hbw hK
   go_region_held3 (fun w'=>w'.cell? ⟨K,0,none⟩=some (u a)/\w'.cell? ⟨K,1,none⟩=some (u b)/\w'.cell? ⟨K,2,none⟩=some (u c)/\w'.cell? ⟨K,3,none⟩=some (u d)) (go_keep) (first|((with_reducible refine(D1.out W.drew HBW.out.drew).mono ?_);rintro e W1 ⟨pv,rfl,hp,hb1⟩;have s0:=(hb1.cell (p:=⟨K,0,none⟩) HKl.out).trans q0;have s1:=(hb1.cell (p:=⟨K,1,none⟩) HKl.out).trans q1;have s2:=(hb1.cell (p:=⟨K,2,none⟩) HKl.out).trans q2;have s3:=(hb1.cell (p:=⟨K,3,none⟩) HKl.out).trans q3;have HP:=hid hp;have HB1:=hid hb1;clear hp hb1)|((with_reducible refine(D2.out W1 (HBW.out.drew.trans (HB1.out.mono (HBW.out.drew.size)))).mono ?_);rintro e W2 ⟨qv,rfl,hq,hb2⟩;have t0:=(hb2.cell (p:=⟨K,0,none⟩) (lt_of_lt_of_le HKl.out HB1.out.size)).trans s0;have t1:=(hb2.cell (p:=⟨K,1,none⟩) (lt_of_lt_of_le HKl.out HB1.out.size)).trans s1;have t2:=(hb2.cell (p:=⟨K,2,none⟩) (lt_of_lt_of_le HKl.out HB1.out.size)).trans s2;have t3:=(hb2.cell (p:=⟨K,3,none⟩) (lt_of_lt_of_le HKl.out HB1.out.size)).trans s3;have HQ:=hid hq;have HB2:=hid hb2;clear hq hb2))
   go_wp2_with fail
   go_ret2
   have hs1:w.heap.size<=W1.heap.size:=le_trans HBW.out.drew.size HB1.out.size;refine⟨pv,qv,X,Y,rfl,HP.out.below HB2.out (le_refl _),HQ.out,HG.out,hYn,le_of_lt hYX,hXm,?_⟩;exact(HBW.out.drew.trans (HB1.out.mono HBW.out.drew.size)).trans (HB2.out.mono hs1)
  ·obtain⟨eX,leX,eY,leY⟩:X=b*n-a*m/\a*m<=b*n/\Y=c*m-d*n/\d*n<=c*m:=by simpa using HXY.out
   have D1:=hid (fun(W:World) (hW:Below w.heap.size w W)=>zN _ _ b a n m k W (H2.out.below hW (le_refl _)) (H1.out.below hW (le_refl _)) hbB haB leX (.inl (by omega)) hnk hm hk);have D2:=hid (fun(W:World) (hW:Below w.heap.size w W)=>zN _ _ c d m n k W (H1.out.below hW (le_refl _)) (H2.out.below hW (le_refl _)) hcB hdB leY (.inr (by omega)) hm hnk hk);rw[← eX] at D1;rw[← eY] at D2;have EX:=hid eX;have EY:=hid eY;clear eX eY leX leY hm hm' hnk;obtain⟨W,hW⟩:∃ W,W=w2.alloc (.cells #[u a,u b,u c,u d,.bool true] 284):=⟨_,rfl⟩;rw[← hW] at hbw hSA hKlt;go_wp2_with fail;rw[← hK,← hW];rw[← hK] at hSA;obtain⟨⟨q0,q1,q2,q3,q4⟩,_⟩:=hSA.cells;have HW:=hid hW;have HKl:=hid hKlt;have HBW:=hid hbw;have HKK:=hid hK;clear hW hSA hKlt hbw hK
   go_region_held3 (fun w'=>w'.cell? ⟨K,0,none⟩=some (u a)/\w'.cell? ⟨K,1,none⟩=some (u b)/\w'.cell? ⟨K,2,none⟩=some (u c)/\w'.cell? ⟨K,3,none⟩=some (u d)) (go_keep) (first|((with_reducible refine(D1.out W.drew HBW.out.drew).mono ?_);rintro e W1 ⟨pv,rfl,hp,hb1⟩;have s0:=(hb1.cell (p:=⟨K,0,none⟩) HKl.out).trans q0;have s1:=(hb1.cell (p:=⟨K,1,none⟩) HKl.out).trans q1;have s2:=(hb1.cell (p:=⟨K,2,none⟩) HKl.out).trans q2;have s3:=(hb1.cell (p:=⟨K,3,none⟩) HKl.out).trans q3;have HP:=hid hp;have HB1:=hid hb1;clear hp hb1)|((with_reducible refine(D2.out W1 (HBW.out.drew.trans (HB1.out.mono (HBW.out.drew.size)))).mono ?_);rintro e W2 ⟨qv,rfl,hq,hb2⟩;have t0:=(hb2.cell (p:=⟨K,0,none⟩) (lt_of_lt_of_le HKl.out HB1.out.size)).trans s0;have t1:=(hb2.cell (p:=⟨K,1,none⟩) (lt_of_lt_of_le HKl.out HB1.out.size)).trans s1;have t2:=(hb2.cell (p:=⟨K,2,none⟩) (lt_of_lt_of_le HKl.out HB1.out.size)).trans s2;have t3:=(hb2.cell (p:=⟨K,3,none⟩) (lt_of_lt_of_le HKl.out HB1.out.size)).trans s3;have HQ:=hid hq;have HB2:=hid hb2;clear hq hb2))
   go_wp2_with fail
   go_ret2
   have hs1:w.heap.size<=W1.heap.size:=le_trans HBW.out.drew.size HB1.out.size;refine⟨pv,qv,X,Y,rfl,HP.out.below HB2.out (le_refl _),HQ.out,HG.out,hYn,le_of_lt hYX,hXm,?_⟩;exact(HBW.out.drew.trans (HB1.out.mono HBW.out.drew.size)).trans (HB2.out.mono hs1)
theorem cr.unique {w:World}{v:Value}{m n:Nat}(h1:cr w v m) (h2:cr w v n):m=n:=by
 obtain⟨xs,⟨⟨xa,xc,rfl,_,_,hr1⟩,ok1⟩,_,rfl⟩:=h1;obtain⟨ys,⟨⟨ya,yc,he,_,_,hr2⟩,ok2⟩,_,rfl⟩:=h2;injection he with e1 e2 e3
 subst e1;have:xs=ys:=by
  refine List.ext_getElem e2 fun i h1 h2=>?_;obtain⟨b,o,rfl,r1⟩:=hr1 (by omega);obtain⟨b',o',e,r2⟩:=hr2 (by omega);injection e with e
  injection e with eb eo
  subst eb;subst eo;have a1:=r1 i h1;have a2:=r2 i h2;rw[a1] at a2;rw[List.getElem?_eq_getElem h1,List.getElem?_eq_getElem h2] at a2;injection a2 with a2
  injection a2 with _ a2
  simp only[Option.getD_some] at a2;omega
 rw[this]
open Classical in
noncomputable def natOf (w:World) (v:Value):Nat:=if h:∃ n,cr w v n then h.choose else 0
theorem Ud {w:World}{v:Value}{n:Nat}(h:cr w v n):natOf w v=n:=by
 unfold natOf;have he:∃ n,cr w v n:=⟨n,h⟩;rw[dif_pos he];exact cr.unique he.choose_spec h
theorem cr.form {w:World}{v:Value}{n:Nat}(h:cr w v n):∃ ao l c,v=.slice ao l c/\(l:Int)<=9223372036854775807/\(l=0↔n=0)/\(1<l↔B<=n):=by
 obtain⟨xs,⟨⟨xa,xc,rfl,h1,h2,hr1⟩,ok1⟩,t1,rfl⟩:=h;unfold maxLen at h2;refine⟨xa,xs.length,xc,rfl,by omega,?_,?_⟩
 ·rw[ccY t1];exact List.length_eq_zero_iff
 ·constructor
  ·intro hl;have h3:=kI t1 (by intro e;subst e;simp at hl);have h4:B^1<=B^(xs.length-1):=pow_le_pow_right jJ (by omega);rw[Nat.pow_one] at h4;omega
  ·intro hB;rcases lt_or_ge 1 xs.length with h|h
   ·exact h
   ·exfalso;have h3:=kb ok1;have h4:B^xs.length<=B^1:=pow_le_pow_right jJ h;rw[Nat.pow_one] at h4;omega
theorem cr.limb {w:World}{v:Value}{n:Nat}(h:cr w v n) (h0:0<n) (hB:n<B):∃ b o c,v=.slice (some ⟨b,o,none⟩) 1 c/\w.cell? ⟨b,o,none⟩=some (u n):=by
 obtain⟨xs,⟨⟨xa,xc,rfl,h1,h2,hr1⟩,ok1⟩,t1,rfl⟩:=h;have hl:xs.length<=1:=cr.len t1 rfl (by rw[Nat.pow_one];exact hB);rcases xs with _|⟨x,_|⟨y,xs⟩⟩
 ·simp [val] at h0
 ·obtain⟨b,o,rfl,r⟩:=hr1 (by simp);refine⟨b,o,xc,rfl,?_⟩;have:=r 0 (by simp);simpa [val] using this
 ·simp at hl
def ComRel (w:World) (m G:Nat) (s0 s1:Value) (wr:World):Prop:=∃ M N,cr wr s0 M/\cr wr s1 N/\N<=M/\M<=m/\Nat.gcd M N=G/\Below w.heap.size w wr
theorem GM (v1 v2:Value) (m n k:Nat) (w:World) (h1:cr w v1 m) (h2:cr w v2 n) (hm:m<B^k) (hn:n<B^k) (hk:(k:Int)<=1073741824) (hG:Gr w) :
 Calls Tryz.prog 143 #[v1,v2] w (Je w (Nat.gcd m n)):=by
 have HC:=hid (zv v1 v2 m n w h1 h2);have H1:=hid h1;have H2:=hid h2;have HG:=hid hG;obtain⟨xs,⟨⟨xa,xc,rfl,_,_,_⟩,_⟩,_⟩:=h1;obtain⟨ys,⟨⟨ya,yc,rfl,_,_,_⟩,_⟩,_⟩:=h2
 go_enter Tryz.func143,Tryz.ntmps143
 go_upto_if 10 with(go_at_call 166;refine HC.out.mono ?_;rintro e w1 ⟨rfl,q,rfl⟩)
 go_cut [0,1] (fun s0 s1 wc=>ComRel w (max m n) (Nat.gcd m n) s0 s1 wc)
 case first =>
  by_cases hlt:m<n
  ·have hc:cZ m n=-1:=if_pos hlt;have hcm:cZ m n<0:=by rw[hc];omega
   have HH:=hid hlt;clear hc hlt HC;generalize cZ m n=cm at *;go_wp2_with fail
   go_meet
   case rel =>
    have hlt:=HH.out;exact⟨n,m,H2.out.below (uy (Below.refl w.heap.size w)) (le_refl _),H1.out.below (uy (Below.refl w.heap.size w)) (le_refl _),by omega,by omega,gcd_comm n m,uy (Below.refl _ _)⟩
  ·have hc:¬ cZ m n<0:=by
    unfold cZ;rw[if_neg hlt];split<;>omega
   have hcm:0<=cZ m n:=by omega
   have HH:=hid hlt;clear hc hlt HC;generalize cZ m n=cm at *;go_wp2_with fail
   go_meet
   case rel =>
    have hlt:=HH.out;exact⟨m,n,H1.out.below (uy (Below.refl w.heap.size w)) (le_refl _),H2.out.below (uy (Below.refl w.heap.size w)) (le_refl _),by omega,by omega,rfl,uy (Below.refl _ _)⟩
 case rest =>
  have hmax:max m n<B^k:=by rcases Nat.le_total m n with h|h<;>omega
  have HM:=hid hmax;have HCut:=hid hcut;clear hcut hmax hm hn HC H1 H2;generalize Nat.gcd m n=G at *;generalize max m n=mm at *;go_wp2_with fail
  go_loopw [0,1] (fun s0 s1 wr=>Hid (ComRel w mm G s0 s1 wr)) (fun _ s1 wr=>natOf wr s1)
  case atStart=>exact HCut.out
  case round =>
   obtain⟨M,N,i1,i2,hNM,hMm,hg,hbe⟩:=hrel.out;obtain⟨ao,l,c,rfl,hl1,hl2,hl3⟩:=i2.form;obtain⟨bo,l',c',rfl,hl1',_,_⟩:=i1.form;have I1:=hid i1;have I2:=hid i2;have HBe:=hid hbe;have HGG:=hid hg;have hMk:M<B^k:=by have:=HM.out;omega
   have HMk:=hid hMk;have HL2:=hid hl2;have HL3:=hid hl3;clear i1 i2 hbe hg hMk hl2 hl3 hrel HCut;by_cases h1:1<l
   ·have h1i:(1:Int)<(l:Int):=by omega
    go_wp2_with fail;refine(cet _ _ M N k wr I1.out I2.out hNM (HL3.out.1 h1) HMk.out hk).mono ?_;rintro e w1 ⟨p,q,X,Y,rfl,hp,hq,hXY,hYN,hYX,hXM,hb⟩;have HP:=hid hp;have HQ:=hid hq;have HXY:=hid hXY;have HB1:=hid hb;clear hp hq hXY hb;go_wp2_with fail
    go_roundw
    case rel=>exact⟨X,Y,HP.out,HQ.out,hYX,by omega,by rw[HXY.out];exact HGG.out,HBe.out.trans (HB1.out.mono HBe.out.size)⟩
    case measure=>rw[Ud HQ.out,Ud I2.out];exact hYN
   ·by_cases h0:l=0
    ·have hN0:N=0:=HL2.out.1 h0;have h0b:(((l:Nat):Int) == 0)=true:=by subst h0;rfl
     have h0i:¬ (1:Int)<(l:Int):=by omega
     have HN0:=hid hN0;clear h1 h0 hN0;go_wp2_with fail
     go_ret
     refine⟨_,rfl,?_,HBe.out⟩;have:=HGG.out;rw[HN0.out,Nat.gcd_zero_right] at this;rw[← this];exact I1.out
    ·have hNB:N<B:=by
      rcases lt_or_ge N B with h|h
      ·exact h
      ·exact absurd (HL3.out.2 h) h1
     have hN0:0<N:=by
      rcases eq_zero_or_pos N with h|h
      ·exact absurd (HL2.out.2 h) h0
      ·exact h
     have h0b:(((l:Nat):Int) == 0)=false:=by rw[beq_eq_false_iff_ne];omega
     have h0i:¬ (1:Int)<(l:Int):=by omega
     clear h1 h0;by_cases hN1:N=1
     ·have HI:=hid (Ks _ N wr I2.out hN1);have HG1:=hid hN1;clear hN1;go_wp2_with fail;refine HI.out.mono ?_;rintro e w1 ⟨rfl,rfl⟩;go_wp2_with fail
      go_ret
      refine⟨_,rfl,?_,HBe.out⟩;have:=HGG.out;rw[HG1.out,Nat.gcd_one_right] at this;rw[← this,← HG1.out];exact I2.out
     ·have HI:=hid (Jv _ N wr I2.out hN1);clear hN1;go_wp2_with fail;refine HI.out.mono ?_;rintro e w1 ⟨rfl,rfl⟩;go_wp2_with fail;refine(Zh _ _ M N k wr I1.out I2.out hN0 HMk.out hk).mono ?_;rintro e w1 ⟨p,q,rfl,hp,hq,hb⟩;obtain⟨ro,rl,rc,rfl,hr1,hr2,hr3⟩:=hq.form;have HQ:=hid hq;have HB1:=hid hb;have HR2:=hid hr2;have HR3:=hid hr3;clear hp hq hb hr2 hr3;by_cases hz:rl=0
      ·have hzb:(((rl:Nat):Int) == 0)=true:=by subst hz;rfl
       have HZ:=hid (HR2.out.1 hz);clear hz;go_wp2_with fail
       go_ret
       refine⟨_,rfl,?_,HBe.out.trans (HB1.out.mono HBe.out.size)⟩;have:=HGG.out;rw[gcd_comm,Nat.gcd_rec,HZ.out,Nat.gcd_zero_left] at this;rw[← this];exact I2.out.below HB1.out (le_refl _)
      ·have hzb:(((rl:Nat):Int) == 0)=false:=by rw[beq_eq_false_iff_ne];omega
       have hR0:0<M%N:=by
        rcases eq_zero_or_pos (M%N) with h|h
        ·exact absurd (HR2.out.2 h) hz
        ·exact h
       have hRB:M%N<B:=Nat.lt_trans (mod_lt _ hN0) hNB;obtain⟨yb,yo,yc',hye,hcy⟩:=I2.out.limb hN0 hNB;obtain⟨zb,zo,zc',hze,hcz⟩:=HQ.out.limb hR0 hRB;injection hye with e1 e2 e3
       injection hze with f1 f2 f3
       subst e1 e2 e3 f1 f2 f3;have hcy1:w1.cell? ⟨yb,yo,none⟩=some (u N):=(HB1.out.cell (p:=⟨yb,yo,none⟩) (World.block_lt_of_cell? wr _ hcy)).trans hcy;have hgc:Nat.gcd N (M%N)=G:=by
        have:=HGG.out;rw[gcd_comm,Nat.gcd_rec,gcd_comm] at this;exact this
       have hGr:Gr w1:=(HG.out.below HBe.out HG.out.size).below HB1.out (le_trans HG.out.size HBe.out.size);have HGr:=hid hGr;have HCW:=hid (fun W hW=>yv N (M%N) hNB hRB W hW);rw[hgc] at HCW;have hGB:G<B:=by rw[← hgc];exact gcd_lt hNB hRB
       have HWd:=hid (fun W=>Jx G W hGB);generalize M%N=Rr at *;clear hgc hGr hcy;go_wp2_with fail
       go_region_held3 (fun w'=>w'.cell? ⟨yb,yo,none⟩=some (u N)/\w'.cell? ⟨zb,zo,none⟩=some (u Rr)) (go_keep) (first|((with_reducible refine(HCW.out w1.drew (HGr.out.below (Below.refl _ _).drew HGr.out.size)).mono ?_);rintro e W1 ⟨rfl,rfl⟩)|((with_reducible refine(HWd.out _).mono ?_);rintro e W2 ⟨vr,rfl,hv,hb2⟩;have HV:=hid hv;have HB2:=hid hb2;have g1:=(hb2.cell (p:=⟨yb,yo,none⟩) (World.block_lt_of_cell? w1 _ hcy1)).trans hcy1;have g2:=(hb2.cell (p:=⟨zb,zo,none⟩) (World.block_lt_of_cell? w1 _ hcz)).trans hcz;clear hv hb2))
       go_wp2_with fail
       go_ret
       refine⟨vr,rfl,HV.out,?_⟩;have b1:Below w.heap.size w w1:=HBe.out.trans (HB1.out.mono HBe.out.size);exact b1.drew.trans (HB2.out.mono b1.size)
end Go.Proofs.YtolcmngcebnjdaaGreatDoor
