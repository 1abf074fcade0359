/- Part 17. -/
import Derived.Test.YtokieocpdcngcaaGreatDoorZ16
import Derived.Lib.ParseIntB
set_option linter.all false
open Bool (false_eq_true)
open Int (natCast_mul)
open Go.IntKind (wrap_u64)
open Go.Lib (hid)
open List (append_assoc append_nil nil_append)
open Nat (div_le_self gcd_dvd_left gcd_dvd_right gcd_pos_of_pos_right le_refl le_trans lt_of_le_of_lt lt_of_lt_of_le lt_or_ge mul_comm mul_le_mul_left mul_pos pow_le_pow_right pow_succ)
open Rat (num_intCast)

namespace Go.Proofs.YtokieocpdcngcaaGreatDoor
open Go Go.RowKit Go.Proofs Lim
theorem kD (v1 v2:Value) (m n k:Nat) (w:World) (h1:cg w v1 m) (h2:cg w v2 n) (hn:0<n) (hm:m<B^k) (hk:(k:Int)<=1073741824) :
 Calls Tryz.prog 142 #[v1,v2] w (EG w (m/n)):=by
 have HOv:=hid (UY v1 v2 m n k w h1 h2 hn hm hk);have H1:=hid h1;by_cases o2:n=1
 ·have HI:=hid (GW v2 n w h2 o2);subst o2;obtain⟨xs,⟨⟨xa,xc,rfl,_⟩,_⟩,_⟩:=h1;obtain⟨ys,⟨⟨ya,yc,rfl,_⟩,_⟩,_⟩:=h2;clear hm hn hk HOv
  go_enter Tryz.func142,Tryz.ntmps142
  go_wp2_with fail;refine HI.out.mono ?_;rintro e w1 ⟨rfl,rfl⟩;go_wp2_with fail
  go_ret
  refine⟨_,rfl,?_,Below.refl _ _⟩;rw[Nat.div_one];exact H1.out
 ·have HI:=hid (ER v2 n w h2 o2);obtain⟨xs,⟨⟨xa,xc,rfl,_⟩,_⟩,_⟩:=h1;obtain⟨ys,⟨⟨ya,yc,rfl,_⟩,_⟩,_⟩:=h2;clear hm hn hk o2
  go_enter Tryz.func142,Tryz.ntmps142
  go_wp2_with fail;refine HI.out.mono ?_;rintro e w1 ⟨rfl,rfl⟩;go_wp2_with fail;refine HOv.out.mono ?_;rintro e w' ⟨q,r,rfl,hq,hr,hbel⟩;have HQ:=hid hq;have HB:=hid hbel;clear hq hr hbel;go_wp2_with fail
  go_ret
  exact⟨q,rfl,HQ.out,HB.out⟩
set_option maxHeartbeats 3200000 in
theorem Yu (v1 v2:Value) (neg1 neg2:Bool) (n1 d1 n2 d2 k:Nat) (w:World) (h1:Num w v1 neg1 n1 d1) (h2:Num w v2 neg2 n2 d2)
 (hn1:n1<B^k) (hd1:d1<B^k) (hn2:n2<B^k) (hd2:d2<B^k) (p1:0<d1) (p2:0<d2) (hk:(k:Int)<=1073741824) (hG:Gr w) :
 Calls Tryz.prog 109 #[v1,v2] w (kB w (!neg1 == neg2) (n1/Nat.gcd n1 d2*(n2/Nat.gcd n2 d1)) (d1/Nat.gcd n2 d1*(d2/Nat.gcd n1 d2))):=by
 have HP1:=hid (fun W (hW:Below w.heap.size w W)=>yH v1 neg1 n1 d1 W (h1.below hW (le_refl _)));have HP2:=hid (fun W (hW:Below w.heap.size w W)=>yH v2 neg2 n2 d2 W (h2.below hW (le_refl _)));obtain⟨a1,b1,q1,rfl,_⟩:=h1.form;obtain⟨a2,b2,q2,rfl,_⟩:=h2.form;have HC1:=hid (fun x y W (hx:cg W x n1) (hy:cg W y d2) (hW:Below w.heap.size w W)=>Eg x y n1 d2 k W hx hy hn1 hd2 hk (hG.below hW hG.size));have HC2:=hid (fun x y W (hx:cg W x n2) (hy:cg W y d1) (hW:Below w.heap.size w W)=>Eg x y n2 d1 k W hx hy hn2 hd1 hk (hG.below hW hG.size));have hg1:0<Nat.gcd n1 d2:=gcd_pos_of_pos_right _ p2;have hg2:0<Nat.gcd n2 d1:=gcd_pos_of_pos_right _ p1;have hl1:Nat.gcd n1 d2<=d2:=Nat.gcd_le_right _ p2;have hl2:Nat.gcd n2 d1<=d1:=Nat.gcd_le_right _ p1;generalize Nat.gcd n1 d2=g1 at *;generalize Nat.gcd n2 d1=g2 at *;have HO1:=hid (fun x y W (hx:cg W x n1) (hy:cg W y g1)=>kD x y n1 g1 k W hx hy hg1 hn1 hk);have HO2:=hid (fun x y W (hx:cg W x n2) (hy:cg W y g2)=>kD x y n2 g2 k W hx hy hg2 hn2 hk);have HO3:=hid (fun x y W (hx:cg W x d1) (hy:cg W y g2)=>kD x y d1 g2 k W hx hy hg2 hd1 hk);have HO4:=hid (fun x y W (hx:cg W x d2) (hy:cg W y g1)=>kD x y d2 g1 k W hx hy hg1 hd2 hk);have l1:n1/g1<B^k:=lt_of_le_of_lt (div_le_self _ _) hn1;have l2:n2/g2<B^k:=lt_of_le_of_lt (div_le_self _ _) hn2;have l3:d1/g2<B^k:=lt_of_le_of_lt (div_le_self _ _) hd1;have l4:d2/g1<B^k:=lt_of_le_of_lt (div_le_self _ _) hd2;have hpos:0<d1/g2*(d2/g1):=mul_pos (Nat.div_pos hl2 hg2) (Nat.div_pos hl1 hg1);generalize n1/g1=m1 at *;generalize n2/g2=m2 at *;generalize d1/g2=e1 at *;generalize d2/g1=e2 at *;have HT1:=hid (fun x y W (hx:cg W x m1) (hy:cg W y m2)=>yA x y m1 m2 k W hx hy l1 l2 hk)
 have HT2:=hid (fun x y W (hx:cg W x e1) (hy:cg W y e2)=>yA x y e1 e2 k W hx hy l3 l4 hk);have HF:=hid (fun x y W (hx:cg W x (m1*m2)) (hy:cg W y (e1*e2))=>zq (!neg1 == neg2) x y (m1*m2) (e1*e2) W hx hy hpos);clear h1 h2 hn1 hd1 hn2 hd2 hG hg1 hg2 hl1 hl2 l1 l2 l3 l4 hpos p1 p2;generalize m1*m2=NUM at *;generalize e1*e2=DEN at *
 go_enter Tryz.func109,Tryz.ntmps109
 go_wp2_with fail;obtain⟨W0,hW0,hb0,⟨f0,f1,f2,f3⟩,⟨g0,g1,g2,g3⟩,hz⟩:=UF w (.bool neg1) (u a1) (u b1) (.pointer q1) (.bool neg2) (u a2) (u b2) (.pointer q2);rw[← hW0];clear hW0;have HZ:=hid hz;have HW0:=hid hb0;have hb0:=Below.refl W0.heap.size W0;clear hz;refine(HP1.out _ (cf HW0.out hb0)).mono ?_;rintro e W1 ⟨x1,y1,rfl,hx1,hy1,hb⟩
 (obtain⟨_,_,_,_,_,_,_,_⟩:=jw w hb)
 obtain⟨xa1,xl1,xc1,rfl,_⟩:=hx1.form;obtain⟨ya1,yl1,yc1,rfl,_⟩:=hy1.form;have HX1:=hid hx1;have HY1:=hid hy1;have HA1:=hid (cf hb0 hb);clear hb0 hb hx1 hy1 f0 f1 f2 f3 g0 g1 g2 g3;go_wp2_with fail;refine(HP2.out _ (cf HW0.out HA1.out)).mono ?_;rintro e W2 ⟨x2,y2,rfl,hx2,hy2,hb⟩
 (obtain⟨_,_,_,_,_,_,_,_⟩:=jw w hb)
 obtain⟨xa2,xl2,xc2,rfl,_⟩:=hx2.form;obtain⟨ya2,yl2,yc2,rfl,_⟩:=hy2.form;have HX1:=hid (HX1.out.below hb (le_refl _));have HY1:=hid (HY1.out.below hb (le_refl _));have HX2:=hid hx2;have HY2:=hid hy2;have HA2:=hid (cf HA1.out hb);clear hb hx2 hy2 HA1;have HA:=HA2;clear HA2;go_wp2_with fail;refine(HC1.out _ _ _ HX1.out HY2.out (cf HW0.out HA.out)).mono ?_;rintro e W3 ⟨g,rfl,hv,hb⟩
 (obtain⟨_,_,_,_,_,_,_,_⟩:=jw w hb)
 obtain⟨_,_,_,rfl,_⟩:=hv.form;have HX1:=hid (HX1.out.below hb (le_refl _));have HY1:=hid (HY1.out.below hb (le_refl _));have HX2:=hid (HX2.out.below hb (le_refl _));have HY2:=hid (HY2.out.below hb (le_refl _));have H_g:=hid hv;have HA:=hid (cf HA.out hb);clear hb hv;go_wp2_with fail;refine(HC2.out _ _ _ HX2.out HY1.out (cf HW0.out HA.out)).mono ?_;rintro e W4 ⟨h,rfl,hv,hb⟩
 (obtain⟨_,_,_,_,_,_,_,_⟩:=jw w hb)
 obtain⟨_,_,_,rfl,_⟩:=hv.form;have HX1:=hid (HX1.out.below hb (le_refl _));have HY1:=hid (HY1.out.below hb (le_refl _));have HX2:=hid (HX2.out.below hb (le_refl _));have HY2:=hid (HY2.out.below hb (le_refl _));have H_g:=hid (H_g.out.below hb (le_refl _));have H_h:=hid hv;have HA:=hid (cf HA.out hb);clear hb hv;go_wp2_with fail;refine(HO1.out _ _ _ HX1.out H_g.out).mono ?_;rintro e W5 ⟨r,rfl,hv,hb⟩
 (obtain⟨_,_,_,_,_,_,_,_⟩:=jw w hb)
 obtain⟨_,_,_,rfl,_⟩:=hv.form;have HY1:=hid (HY1.out.below hb (le_refl _));have HX2:=hid (HX2.out.below hb (le_refl _));have HY2:=hid (HY2.out.below hb (le_refl _));have H_g:=hid (H_g.out.below hb (le_refl _));have H_h:=hid (H_h.out.below hb (le_refl _));have H_r:=hid hv;have HA:=hid (cf HA.out hb);clear hb hv;go_wp2_with fail;refine(HO2.out _ _ _ HX2.out H_h.out).mono ?_;rintro e W6 ⟨s,rfl,hv,hb⟩
 (obtain⟨_,_,_,_,_,_,_,_⟩:=jw w hb)
 obtain⟨_,_,_,rfl,_⟩:=hv.form;have HY1:=hid (HY1.out.below hb (le_refl _));have HY2:=hid (HY2.out.below hb (le_refl _));have H_g:=hid (H_g.out.below hb (le_refl _));have H_h:=hid (H_h.out.below hb (le_refl _));have H_r:=hid (H_r.out.below hb (le_refl _));have H_s:=hid hv;have HA:=hid (cf HA.out hb);clear hb hv;go_wp2_with fail;refine(HT1.out _ _ _ H_r.out H_s.out).mono ?_;rintro e W7 ⟨num,rfl,hv,hb⟩
 (obtain⟨_,_,_,_,_,_,_,_⟩:=jw w hb)
 obtain⟨_,_,_,rfl,_⟩:=hv.form;have HY1:=hid (HY1.out.below hb (le_refl _));have HY2:=hid (HY2.out.below hb (le_refl _));have H_g:=hid (H_g.out.below hb (le_refl _));have H_h:=hid (H_h.out.below hb (le_refl _));have H_num:=hid hv;have HA:=hid (cf HA.out hb);clear hb hv;go_wp2_with fail;refine(HO3.out _ _ _ HY1.out H_h.out).mono ?_;rintro e W8 ⟨r,rfl,hv,hb⟩
 (obtain⟨_,_,_,_,_,_,_,_⟩:=jw w hb)
 obtain⟨_,_,_,rfl,_⟩:=hv.form;have HY2:=hid (HY2.out.below hb (le_refl _));have H_g:=hid (H_g.out.below hb (le_refl _));have H_num:=hid (H_num.out.below hb (le_refl _));have H_r:=hid hv;have HA:=hid (cf HA.out hb);clear hb hv;go_wp2_with fail;refine(HO4.out _ _ _ HY2.out H_g.out).mono ?_;rintro e W9 ⟨s,rfl,hv,hb⟩
 (obtain⟨_,_,_,_,_,_,_,_⟩:=jw w hb)
 obtain⟨_,_,_,rfl,_⟩:=hv.form;have H_num:=hid (H_num.out.below hb (le_refl _));have H_r:=hid (H_r.out.below hb (le_refl _));have H_s:=hid hv;have HA:=hid (cf HA.out hb);clear hb hv;go_wp2_with fail;refine(HT2.out _ _ _ H_r.out H_s.out).mono ?_;rintro e W10 ⟨den,rfl,hv,hb⟩
 (obtain⟨_,_,_,_,_,_,_,_⟩:=jw w hb)
 obtain⟨_,_,_,rfl,_⟩:=hv.form;have H_num:=hid (H_num.out.below hb (le_refl _));have H_den:=hid hv;have HA:=hid (cf HA.out hb);clear hb hv;go_wp2_with fail;refine(HF.out _ _ _ H_num.out H_den.out).mono ?_;rintro e W11 ⟨v,rfl,hN,hb⟩
 (obtain⟨_,_,_,_,_,_,_,_⟩:=jw w hb)
 have hb3:=cf HA.out hb;obtain⟨a,b,p,rfl,_⟩:=hN.form;have hz:=HZ.out.below hb3 (le_refl _);have hfin:=kB.stored (a0:=.bool ((!neg1 == neg2)&&!decide (NUM=0))) (a1:=u a) (a2:=u b) (a3:=.pointer p) hz hN (cf HW0.out hb3) (by omega);have HFin:=hid hfin
 (obtain⟨z0,z1,z2,z3,zf0,zf1,zf2,zf3⟩:=HZ.out.zed hb3)
 clear hfin hN hb hb3;generalize ((!neg1 == neg2)&&!decide (NUM=0))=sg at *;go_wp2_with fail;refine bodyPost_ret (v:=.agg #[.bool sg,u a,u b,.pointer p]) (by simp [results,Tryz.results109,go_sem,z0,z1,z2,z3]) rfl ?_;exact HFin.out
theorem addS_lt {a b:Bool}{x y j:Nat}(hx:x<B^j) (hy:y<B^j):(kS a x b y).2<B^(j+1):=by
 have h2:2*B^j<=B^(j+1):=by
  rw[pow_succ,mul_comm];exact mul_le_mul_left _ (by decide)
 have:(kS a x b y).2<=x+y:=by
  unfold kS;split
  ·exact le_refl _
  ·split
   ·show x-y<=x+y;omega
   ·show y-x<=x+y;omega
 omega
set_option maxHeartbeats 3200000 in
theorem cau (v1 v2:Value) (neg1 neg2:Bool) (n1 d1 n2 d2 k:Nat) (w:World) (h1:Num w v1 neg1 n1 d1) (h2:Num w v2 neg2 n2 d2)
 (hn1:n1<B^k) (hd1:d1<B^k) (hn2:n2<B^k) (hd2:d2<B^k) (p1:0<d1) (p2:0<d2) (hk:((k+k+1:Nat):Int)<=1073741824) (hG:Gr w) :
 Calls Tryz.prog 125 #[v1,v2] w (kB w (Yb neg1 n1 d1 neg2 n2 d2).1 (JP neg1 n1 d1 neg2 n2 d2) (sumD neg1 n1 d1 neg2 n2 d2)):=by
 have HP1:=hid (fun W (hW:Below w.heap.size w W)=>yH v1 neg1 n1 d1 W (h1.below hW (le_refl _)));have HP2:=hid (fun W (hW:Below w.heap.size w W)=>yH v2 neg2 n2 d2 W (h2.below hW (le_refl _)));obtain⟨a1,b1,q1,rfl,_⟩:=h1.form;obtain⟨a2,b2,q2,rfl,_⟩:=h2.form;have hk1:(k:Int)<=1073741824:=by omega
 have hk2:((k+k:Nat):Int)<=1073741824:=by omega
 have HC1:=hid (fun x y W (hx:cg W x d1) (hy:cg W y d2) (hW:Below w.heap.size w W)=>Eg x y d1 d2 k W hx hy hd1 hd2 hk1 (hG.below hW hG.size));have hg:0<Nat.gcd d1 d2:=gcd_pos_of_pos_right _ p2;have hgl:Nat.gcd d1 d2<=d1:=Nat.gcd_le_left _ p1;have hdv:Nat.gcd d1 d2 ∣ d2:=gcd_dvd_right _ _;unfold JP sumD sumX Yb;generalize Nat.gcd d1 d2=g at *;have HO1:=hid (fun x y W (hx:cg W x d1) (hy:cg W y g)=>kD x y d1 g k W hx hy hg hd1 hk1);have HO2:=hid (fun x y W (hx:cg W x d2) (hy:cg W y g)=>kD x y d2 g k W hx hy hg hd2 hk1);have l1:d1/g<B^k:=lt_of_le_of_lt (div_le_self _ _) hd1;have l2:d2/g<B^k:=lt_of_le_of_lt (div_le_self _ _) hd2;have hr1:0<d1/g:=Nat.div_pos hgl hg;generalize d1/g=r1 at *;generalize d2/g=r2 at *;have HT1:=hid (fun x y W (hx:cg W x n1) (hy:cg W y r2)=>yA x y n1 r2 k W hx hy hn1 l2 hk1);have HT2:=hid (fun x y W (hx:cg W x n2) (hy:cg W y r1)=>yA x y n2 r1 k W hx hy hn2 l1 hk1);have m1:n1*r2<B^(k+k):=uG hn1 l2;have m2:n2*r1<B^(k+k):=uG hn2 l1;generalize n1*r2=L at *;generalize n2*r1=R at *;have HAS:=hid (fun x y W (hx:cg W x L) (hy:cg W y R)=>Yy neg1 neg2 x y L R (k+k) W hx hy m1 m2 hk2);have hsum:=addS_lt (a:=neg1) (b:=neg2) m1 m2;generalize (kS neg1 L neg2 R).1=NEG at *;generalize (kS neg1 L neg2 R).2=S at *;have hgB:g<B^(k+k+1):=lt_of_le_of_lt hgl (lt_of_lt_of_le hd1 (pow_le_pow_right jk (by omega)));have HC2:=hid (fun x y W (hx:cg W x S) (hy:cg W y g) (hW:Below w.heap.size w W)=>Eg x y S g (k+k+1) W hx hy hsum hgB hk (hG.below hW hG.size));have hx0:0<Nat.gcd S g:=gcd_pos_of_pos_right _ hg;have hxl:Nat.gcd S g<=d2:=le_trans (Nat.gcd_le_right _ hg) (Nat.le_of_dvd p2 hdv)
 generalize Nat.gcd S g=X at *;have HO3:=hid (fun x y W (hx:cg W x S) (hy:cg W y X)=>kD x y S X (k+k+1) W hx hy hx0 hsum hk);have HO4:=hid (fun x y W (hx:cg W x d2) (hy:cg W y X)=>kD x y d2 X k W hx hy hx0 hd2 hk1);have l4:d2/X<B^k:=lt_of_le_of_lt (div_le_self _ _) hd2;have hpos:0<r1*(d2/X):=mul_pos hr1 (Nat.div_pos hxl hx0);generalize d2/X=E at *;generalize S/X=NUM at *;have HT3:=hid (fun x y W (hx:cg W x r1) (hy:cg W y E)=>yA x y r1 E k W hx hy l1 l4 hk1);have HF:=hid (fun x y W (hx:cg W x NUM) (hy:cg W y (r1*E))=>zq NEG x y NUM (r1*E) W hx hy hpos);generalize r1*E=DEN at *;clear h1 h2 hn1 hd1 hn2 hd2 hG hg hgl hdv l1 l2 hr1 m1 m2 hsum hgB hx0 hxl l4 hpos p1 p2 hk1 hk2
 go_enter Tryz.func125,Tryz.ntmps125
 go_wp2_with fail;obtain⟨W0,hW0,hb0,⟨f0,f1,f2,f3⟩,⟨g0,g1,g2,g3⟩,hz⟩:=UF w (.bool neg1) (u a1) (u b1) (.pointer q1) (.bool neg2) (u a2) (u b2) (.pointer q2);rw[← hW0];clear hW0;have HZ:=hid hz;have HW0:=hid hb0;have hb0:=Below.refl W0.heap.size W0;clear hz;refine(HP1.out _ (cf HW0.out hb0)).mono ?_;rintro e W1 ⟨x1,y1,rfl,hx1,hy1,hb⟩
 (obtain⟨_,_,_,_,_,_,_,_⟩:=jw w hb)
 obtain⟨xa1,xl1,xc1,rfl,_⟩:=hx1.form;obtain⟨ya1,yl1,yc1,rfl,_⟩:=hy1.form;have HX1:=hid hx1;have HY1:=hid hy1;have HA1:=hid (cf hb0 hb);clear hb0 hb hx1 hy1 f0 f1 f2 f3 g0 g1 g2 g3;go_wp2_with fail;refine(HP2.out _ (cf HW0.out HA1.out)).mono ?_;rintro e W2 ⟨x2,y2,rfl,hx2,hy2,hb⟩
 (obtain⟨_,_,_,_,_,_,_,_⟩:=jw w hb)
 obtain⟨xa2,xl2,xc2,rfl,_⟩:=hx2.form;obtain⟨ya2,yl2,yc2,rfl,_⟩:=hy2.form;have HX1:=hid (HX1.out.below hb (le_refl _));have HY1:=hid (HY1.out.below hb (le_refl _));have HX2:=hid hx2;have HY2:=hid hy2;have HA2:=hid (cf HA1.out hb);clear hb hx2 hy2 HA1;have HA:=HA2;clear HA2;go_wp2_with fail;refine(HC1.out _ _ _ HY1.out HY2.out (cf HW0.out HA.out)).mono ?_;rintro e W3 ⟨g,rfl,hv,hb⟩
 (obtain⟨_,_,_,_,_,_,_,_⟩:=jw w hb)
 obtain⟨_,_,_,rfl,_⟩:=hv.form;have HX1:=hid (HX1.out.below hb (le_refl _));have HY1:=hid (HY1.out.below hb (le_refl _));have HX2:=hid (HX2.out.below hb (le_refl _));have HY2:=hid (HY2.out.below hb (le_refl _));have H_g:=hid hv;have HA:=hid (cf HA.out hb);clear hb hv;go_wp2_with fail;refine(HO1.out _ _ _ HY1.out H_g.out).mono ?_;rintro e W4 ⟨r,rfl,hv,hb⟩
 (obtain⟨_,_,_,_,_,_,_,_⟩:=jw w hb)
 obtain⟨_,_,_,rfl,_⟩:=hv.form;have HX1:=hid (HX1.out.below hb (le_refl _));have HX2:=hid (HX2.out.below hb (le_refl _));have HY2:=hid (HY2.out.below hb (le_refl _));have H_g:=hid (H_g.out.below hb (le_refl _));have H_r:=hid hv;have HA:=hid (cf HA.out hb);clear hb hv;go_wp2_with fail;refine(HO2.out _ _ _ HY2.out H_g.out).mono ?_;rintro e W5 ⟨s,rfl,hv,hb⟩
 (obtain⟨_,_,_,_,_,_,_,_⟩:=jw w hb)
 obtain⟨_,_,_,rfl,_⟩:=hv.form;have HX1:=hid (HX1.out.below hb (le_refl _));have HX2:=hid (HX2.out.below hb (le_refl _));have HY2:=hid (HY2.out.below hb (le_refl _));have H_g:=hid (H_g.out.below hb (le_refl _));have H_r:=hid (H_r.out.below hb (le_refl _));have H_s:=hid hv;have HA:=hid (cf HA.out hb);clear hb hv;go_wp2_with fail
 go_region_held3 (fun w'=>(w'.cell? ⟨w.heap.size,0,none⟩=some (.bool neg1)/\w'.cell? ⟨w.heap.size,1,none⟩=some (u a1)/\w'.cell? ⟨w.heap.size,2,none⟩=some (u b1)/\w'.cell? ⟨w.heap.size,3,none⟩=some (.pointer q1))/\(w'.cell? ⟨w.heap.size+1,0,none⟩=some (.bool neg2)/\w'.cell? ⟨w.heap.size+1,1,none⟩=some (u a2)/\w'.cell? ⟨w.heap.size+1,2,none⟩=some (u b2)/\w'.cell? ⟨w.heap.size+1,3,none⟩=some (.pointer q2))) (go_keep) (first|((with_reducible refine(HT1.out _ _ _ (HX1.out.below (Below.refl _ _).drew (le_refl _)) (H_s.out.below (Below.refl _ _).drew (le_refl _))).mono ?_);rintro e W6 ⟨a,rfl,ha,hb⟩;(obtain⟨_,_,_,_,_,_,_,_⟩:=jw w hb);obtain⟨_,_,_,rfl,_⟩:=ha.form)|((with_reducible refine(HT2.out _ _ _ (HX2.out.below (jP (Below.refl _ _) hb) (le_refl _)) (H_r.out.below (jP (Below.refl _ _) hb) (le_refl _))).mono ?_);rintro e W7 ⟨b,rfl,hv,hb'⟩;(obtain⟨_,_,_,_,_,_,_,_⟩:=jw w hb');obtain⟨_,_,_,rfl,_⟩:=hv.form)|((with_reducible refine(HAS.out _ _ _ (ha.below hb' (le_refl _)) hv).mono ?_);rintro e W8 ⟨t,rfl,ht,hb''⟩;(obtain⟨_,_,_,_,_,_,_,_⟩:=jw w hb'');obtain⟨_,_,_,rfl,_⟩:=ht.form))
 have hbb:=cf (cf (jP (Below.refl _ _) hb) hb') hb'';have HY2:=hid (HY2.out.below hbb (le_refl _));have H_g:=hid (H_g.out.below hbb (le_refl _));have H_r:=hid (H_r.out.below hbb (le_refl _));have H_t:=hid ht;have HA:=hid (cf HA.out hbb);clear hb hb' hb'' hbb ha hv ht;go_wp2_with fail;refine(HC2.out _ _ _ H_t.out H_g.out (cf HW0.out HA.out)).mono ?_;rintro e W9 ⟨x,rfl,hv,hb⟩
 (obtain⟨_,_,_,_,_,_,_,_⟩:=jw w hb)
 obtain⟨_,_,_,rfl,_⟩:=hv.form;have HY2:=hid (HY2.out.below hb (le_refl _));have H_r:=hid (H_r.out.below hb (le_refl _));have H_t:=hid (H_t.out.below hb (le_refl _));have H_x:=hid hv;have HA:=hid (cf HA.out hb);clear hb hv;go_wp2_with fail;refine(HO3.out _ _ _ H_t.out H_x.out).mono ?_;rintro e W10 ⟨num,rfl,hv,hb⟩
 (obtain⟨_,_,_,_,_,_,_,_⟩:=jw w hb)
 obtain⟨_,_,_,rfl,_⟩:=hv.form;have HY2:=hid (HY2.out.below hb (le_refl _));have H_r:=hid (H_r.out.below hb (le_refl _));have H_x:=hid (H_x.out.below hb (le_refl _));have H_num:=hid hv;have HA:=hid (cf HA.out hb);clear hb hv;go_wp2_with fail;refine(HO4.out _ _ _ HY2.out H_x.out).mono ?_;rintro e W11 ⟨q,rfl,hv,hb⟩
 (obtain⟨_,_,_,_,_,_,_,_⟩:=jw w hb)
 obtain⟨_,_,_,rfl,_⟩:=hv.form;have H_r:=hid (H_r.out.below hb (le_refl _));have H_num:=hid (H_num.out.below hb (le_refl _));have H_q:=hid hv;have HA:=hid (cf HA.out hb);clear hb hv;go_wp2_with fail;refine(HT3.out _ _ _ H_r.out H_q.out).mono ?_;rintro e W12 ⟨den,rfl,hv,hb⟩
 (obtain⟨_,_,_,_,_,_,_,_⟩:=jw w hb)
 obtain⟨_,_,_,rfl,_⟩:=hv.form;have H_num:=hid (H_num.out.below hb (le_refl _));have H_den:=hid hv;have HA:=hid (cf HA.out hb);clear hb hv;go_wp2_with fail;refine(HF.out _ _ _ H_num.out H_den.out).mono ?_;rintro e W13 ⟨v,rfl,hN,hb⟩
 (obtain⟨_,_,_,_,_,_,_,_⟩:=jw w hb)
 have hb3:=cf HA.out hb;obtain⟨a,b,p,rfl,_⟩:=hN.form;have hz:=HZ.out.below hb3 (le_refl _);have hfin:=kB.stored (a0:=.bool (NEG&&!decide (NUM=0))) (a1:=u a) (a2:=u b) (a3:=.pointer p) hz hN (cf HW0.out hb3) (by omega);have HFin:=hid hfin
 (obtain⟨z0,z1,z2,z3,zf0,zf1,zf2,zf3⟩:=HZ.out.zed hb3)
 clear hfin hN hb hb3;generalize (NEG&&!decide (NUM=0))=sg at *;go_wp2_with fail;refine bodyPost_ret (v:=.agg #[.bool sg,u a,u b,.pointer p]) (by simp [results,Tryz.results125,go_sem,z0,z1,z2,z3]) rfl ?_;exact HFin.out
def sgn (neg:Bool) (n:Nat):Int:=if neg then -(n:Int) else (n:Int)
theorem zE (neg:Bool) (n:Nat):(sgn neg n).natAbs=n:=by unfold sgn;split<;>omega
theorem UJ (neg:Bool) (n:Nat):decide (sgn neg n<0)=(neg&&!decide (n=0)):=by
 unfold sgn;cases neg
 ·simp
 ·rw[Bool.eq_iff_iff];simp;omega
theorem uv (i:Int):sgn (decide (i<0)) i.natAbs=i:=by
 unfold sgn;by_cases h:i<0
 ·simp only[h,decide_true,if_true];omega
 ·simp only[h,decide_false,false_eq_true,if_false];omega
theorem cgG (a b:Bool) (x y:Nat):sgn (kS a x b y).1 (kS a x b y).2=sgn a x+sgn b y:=by
 unfold kS sgn;by_cases h:y<=x<;>cases a<;>cases b<;>simp [h]<;>omega
theorem rat_eq {r:Rat}{N:Int}{D:Nat}(hD:0<D) (hc:N.natAbs.Coprime D) (P:Int) (Q:Nat) (hQ:Q≠0) (hr:r=mkRat P Q) (h:P*D=N*Q):r.num=N/\r.den=D:=by
 have hq:r=⟨N,D,Nat.ne_of_gt hD,hc⟩:=by
  rw[hr,← Rat.mkRat_self ⟨N,D,Nat.ne_of_gt hD,hc⟩];exact(Rat.mkRat_eq_iff hQ (Nat.ne_of_gt hD)).2 h
 subst hq;exact⟨rfl,rfl⟩
abbrev neg? (r:Rat):Bool:=decide (r.num<0)
theorem Gt (a b:Rat) :
 (a+b).num=sgn (Yb (neg? a) a.num.natAbs a.den (neg? b) b.num.natAbs b.den).1 (JP (neg? a) a.num.natAbs a.den (neg? b) b.num.natAbs b.den)/\
  (a+b).den=sumD (neg? a) a.num.natAbs a.den (neg? b) b.num.natAbs b.den:=by
 have hg:0<Nat.gcd a.den b.den:=gcd_pos_of_pos_right _ b.den_pos;have haux:=Rat.add.aux a b (g:=Nat.gcd a.den b.den) rfl rfl rfl;simp only at haux;have e1:a.den/Nat.gcd a.den b.den*Nat.gcd a.den b.den=a.den:=Nat.div_mul_cancel (gcd_dvd_left _ _);have e2:b.den/Nat.gcd a.den b.den*Nat.gcd a.den b.den=b.den:=Nat.div_mul_cancel (gcd_dvd_right _ _);have hdvd:=gcd_dvd_right a.den b.den;have hr1:0<a.den/Nat.gcd a.den b.den:=Nat.div_pos (Nat.gcd_le_left _ a.den_pos) hg;have hsum:=cgG (neg? a) (neg? b) (a.num.natAbs*(b.den/Nat.gcd a.den b.den)) (b.num.natAbs*(a.den/Nat.gcd a.den b.den));have hm:∀ (i:Int) (x:Nat),sgn (decide (i<0)) (i.natAbs*x)=i*x:=by
  intro i x;have:=uv i;unfold sgn at this ⊢;split
  ·rename_i h;rw[if_pos h] at this;rw[natCast_mul,← Int.neg_mul,this]
  ·rename_i h;rw[if_neg h] at this;rw[natCast_mul,this]
 rw[hm,hm] at hsum;have hb:=b.den_pos;have hnz:a.den*b.den≠0:=Nat.ne_of_gt (mul_pos a.den_pos b.den_pos);have hdef:=Rat.add_def' a b;unfold JP sumD sumX Yb;rw[← hsum] at haux;rw[zE] at haux;generalize hSS:kS (neg? a) (a.num.natAbs*(b.den/Nat.gcd a.den b.den)) (neg? b) (b.num.natAbs*(a.den/Nat.gcd a.den b.den))=S at *;generalize Nat.gcd a.den b.den=g at *;generalize a.den/g=r1 at *;generalize b.den/g=r2 at *;have hX0:0<Nat.gcd S.2 g:=gcd_pos_of_pos_right _ hg;have hXb:Nat.gcd S.2 g ∣ b.den:=Nat.dvd_trans (gcd_dvd_right _ _) hdvd;have hXS:S.2/Nat.gcd S.2 g*Nat.gcd S.2 g=S.2:=Nat.div_mul_cancel (gcd_dvd_left _ _);have hXE:b.den/Nat.gcd S.2 g*Nat.gcd S.2 g=b.den:=Nat.div_mul_cancel hXb;have hcop:Nat.Coprime (S.2/Nat.gcd S.2 g) (r1*(b.den/Nat.gcd S.2 g)):=by
  rw[← Nat.mul_div_assoc _ hXb,haux];refine Nat.coprime_div_gcd_div_gcd ?_;rw[← haux];exact hX0
 have hE0:0<b.den/Nat.gcd S.2 g:=Nat.div_pos (Nat.le_of_dvd hb hXb) hX0;generalize Nat.gcd S.2 g=X at *;generalize S.2/X=N at *;generalize hE:b.den/X=E at *;refine rat_eq (mul_pos hr1 hE0) (by rw[zE];exact hcop) _ _ hnz hdef ?_;have hs:sgn S.1 S.2=sgn S.1 N*X:=by
  unfold sgn;rw[← hXS];split<;>rw[natCast_mul];rw[Int.neg_mul]
 rw[hs] at hsum;generalize sgn S.1 N=NN at *;generalize a.num=an at *;generalize b.num=bn at *;rw[← e1];have e2':((b.den:Nat):Int)=(r2:Int)*g:=by rw[← e2];simp
 have e3':((b.den:Nat):Int)=(E:Int)*X:=by rw[← hXE];simp
 simp only[natCast_mul];generalize ((b.den:Nat):Int)=bd at *;grind
theorem GU (a b:Rat) :
 (a*b).num=sgn (!neg? a == neg? b) (a.num.natAbs/Nat.gcd a.num.natAbs b.den*(b.num.natAbs/Nat.gcd b.num.natAbs a.den))/\
  (a*b).den=a.den/Nat.gcd b.num.natAbs a.den*(b.den/Nat.gcd a.num.natAbs b.den):=by
 have hg1:0<Nat.gcd a.num.natAbs b.den:=gcd_pos_of_pos_right _ b.den_pos;have hg2:0<Nat.gcd b.num.natAbs a.den:=gcd_pos_of_pos_right _ a.den_pos;have hc:((a.num.natAbs/Nat.gcd a.num.natAbs b.den)*(b.num.natAbs/Nat.gcd b.num.natAbs a.den)).Coprime ((a.den/Nat.gcd b.num.natAbs a.den)*(b.den/Nat.gcd a.num.natAbs b.den)):=by
  rw[Nat.coprime_mul_iff_left];refine⟨Nat.coprime_mul_iff_right.2 ⟨?_,?_⟩,Nat.coprime_mul_iff_right.2 ⟨?_,?_⟩⟩
  ·exact a.reduced.coprime_div_left (gcd_dvd_left ..) |>.coprime_div_right (gcd_dvd_right ..)
  ·exact Nat.coprime_div_gcd_div_gcd hg1
  ·exact Nat.coprime_div_gcd_div_gcd hg2
  ·exact b.reduced.coprime_div_left (gcd_dvd_left ..) |>.coprime_div_right (gcd_dvd_right ..)
 have e1:a.num.natAbs/Nat.gcd a.num.natAbs b.den*Nat.gcd a.num.natAbs b.den=a.num.natAbs:=Nat.div_mul_cancel (gcd_dvd_left _ _);have e2:b.num.natAbs/Nat.gcd b.num.natAbs a.den*Nat.gcd b.num.natAbs a.den=b.num.natAbs:=Nat.div_mul_cancel (gcd_dvd_left _ _);have e3:a.den/Nat.gcd b.num.natAbs a.den*Nat.gcd b.num.natAbs a.den=a.den:=Nat.div_mul_cancel (gcd_dvd_right _ _);have e4:b.den/Nat.gcd a.num.natAbs b.den*Nat.gcd a.num.natAbs b.den=b.den:=Nat.div_mul_cancel (gcd_dvd_right _ _);have p3:0<a.den/Nat.gcd b.num.natAbs a.den:=Nat.div_pos (Nat.gcd_le_right _ a.den_pos) hg2;have p4:0<b.den/Nat.gcd a.num.natAbs b.den:=Nat.div_pos (Nat.gcd_le_right _ b.den_pos) hg1;have hnz:a.den*b.den≠0:=Nat.ne_of_gt (mul_pos a.den_pos b.den_pos);have hdef:=Rat.mul_def' a b;have ha:=uv a.num;have hb:=uv b.num;generalize Nat.gcd a.num.natAbs b.den=g1 at *;generalize Nat.gcd b.num.natAbs a.den=g2 at *;generalize a.num.natAbs/g1=m1 at *;generalize b.num.natAbs/g2=m2 at *;generalize a.den/g2=q1 at *;generalize b.den/g1=q2 at *;refine rat_eq (mul_pos p3 p4) (by rw[zE];exact hc) _ _ hnz hdef ?_;have hs:a.num*b.num=sgn (!neg? a == neg? b) (m1*m2)*(g1*g2):=by
  rw[← ha,← hb,← e1,← e2];unfold sgn;by_cases h1:a.num<0<;>by_cases h2:b.num<0<;>simp [h1,h2]<;>grind
 rw[hs,← e3,← e4];simp only[natCast_mul];grind
theorem kB.q {w w':World}{neg:Bool}{n d:Nat}{e:Ending}{r:Rat}(h:kB w neg n d e w') (hn:r.num=sgn neg n) (hd:r.den=d):uF w r e w':=by
 obtain⟨v,he,hN,hb⟩:=h;refine⟨v,he,?_,hb⟩;unfold IsQ;rw[hn,zE,UJ];have:r.den=if n=0 then 1 else d:=by
  split
  ·rename_i h0;have hz:r.num=0:=by rw[hn,h0];unfold sgn;simp
   have:=r.reduced;rw[hz] at this;simpa using this
  ·exact hd
 rw[this];exact hN
theorem uF.stored {w W:World}{R:Nat}{v:Value}{r:Rat}{a0 a1 a2 a3:Value}(hR:Box W R (.bool false) (.int .u64 0) (.int .u64 0) (.pointer none))
 (h:IsQ W v r) (hb:Below w.heap.size w W) (hw:w.heap.size<=R) :
 uF w r (.returned v) ((((W.setCell ⟨R,0,none⟩ a0).setCell ⟨R,1,none⟩ a1).setCell ⟨R,2,none⟩ a2).setCell ⟨R,3,none⟩ a3):=by
 have ho:=((((cV.refl R W).set 0 a0).set 1 a1).set 2 a2).set 3 a3;exact⟨v,rfl,Num.only hR h ho,hb.trans (ho.below hw)⟩
theorem IsQ.form {w:World}{v:Value}{r:Rat}(h:IsQ w v r):∃ sg a b p,v=.agg #[.bool sg,u a,u b,.pointer p]:=by
 obtain⟨a,b,p,h,_⟩:=Num.form h;exact⟨_,a,b,p,h⟩
theorem cdN (v1 v2:Value) (r s:Rat) (k:Nat) (w:World) (h1:IsQ w v1 r) (h2:IsQ w v2 s) (z1:Siz r k) (z2:Siz s k) (hk:((k+k+1:Nat):Int)<=1073741824) (hG:Gr w) :
 Calls Tryz.prog 125 #[v1,v2] w (uF w (r+s)) :=
 (cau v1 v2 _ _ _ _ _ _ k w h1 h2 z1.1 z1.2 z2.1 z2.2 r.den_pos s.den_pos hk hG).mono fun _ _ h=>h.q (Gt r s).1 (Gt r s).2
theorem cbt (v1 v2:Value) (r s:Rat) (k:Nat) (w:World) (h1:IsQ w v1 r) (h2:IsQ w v2 s) (z1:Siz r k) (z2:Siz s k) (hk:(k:Int)<=1073741824) (hG:Gr w) :
 Calls Tryz.prog 109 #[v1,v2] w (uF w (r*s)) :=
 (Yu v1 v2 _ _ _ _ _ _ k w h1 h2 z1.1 z1.2 z2.1 z2.2 r.den_pos s.den_pos hk hG).mono fun _ _ h=>h.q (GU r s).1 (GU r s).2
def cdS (w:World) (r:Rat) (e:Ending) (w':World):Prop :=
 ∃ a b c,∃ ok:Bool,e=.returned (.tuple #[lo a b c,.bool ok])/\(ok=true->∀ W,IsQ W (lo a b c) r)/\Below w.heap.size w w'
theorem GP.q {w w':World}{neg:Bool}{n d:Nat}{e:Ending}{r:Rat}(h:GP w neg n d e w') (hn:r.num=sgn neg n) (hd:r.den=d):cdS w r e w':=by
 obtain⟨a,b,c,ok,he,h1,h2,hb⟩:=h;refine⟨a,b,c,ok,he,fun hok W=>?_,hb⟩;obtain⟨i1,i2⟩:=h2 hok;obtain⟨j1,j2,j3⟩:=h1 hok ⟨i1,i2,hd▸r.den_pos⟩;unfold IsQ;rw[hn,zE,UJ,← j1,hd,← j2];exact Num.low c rfl j3.symm (j2▸i1) i2
theorem IsQ.forms {w:World}{v:Value}{r:Rat}(h:IsQ w v r) :
 (∃ l,v=lo (neg? r) r.num.natAbs l/\r.den=l+1/\r.num.natAbs<B/\r.den<B)\/(∃ b,v=wi (neg? r) ⟨b,0,none⟩):=by
 cases h with
 |low l hv hd hn hdB=>exact .inl ⟨l,hv,hd,hn,hdB⟩
 |wide b x y hv hx hy h1 h2 hB h0 hd=>exact .inr ⟨b,hv⟩
theorem cbd (r s:Rat) (l1 l2:Nat) (w:World) (d1:r.den=l1+1) (d2:s.den=l2+1) (h1:r.num.natAbs<B) (h2:r.den<B) (h3:s.num.natAbs<B) (h4:s.den<B) (hG:Gr w) :
 Calls Tryz.prog 124 #[lo (neg? r) r.num.natAbs l1,lo (neg? s) s.num.natAbs l2] w (cdS w (r+s)):=by
 refine(Yz (neg? r) (neg? s) _ l1 _ l2 h1 (d1▸h2) h3 (d2▸h4) w hG).mono fun _ _ h=>?_;rw[← d1,← d2] at h;exact h.q (Gt r s).1 (Gt r s).2
theorem cav (r s:Rat) (l1 l2:Nat) (w:World) (d1:r.den=l1+1) (d2:s.den=l2+1) (h1:r.num.natAbs<B) (h2:r.den<B) (h3:s.num.natAbs<B) (h4:s.den<B) (hG:Gr w) :
 Calls Tryz.prog 108 #[lo (neg? r) r.num.natAbs l1,lo (neg? s) s.num.natAbs l2] w (cdS w (r*s)):=by
 refine(Wj (neg? r) (neg? s) _ l1 _ l2 h1 (d1▸h2) h3 (d2▸h4) w hG).mono fun _ _ h=>?_;rw[← d1,← d2] at h;refine h.q ?_ (GU r s).2;have:=(GU r s).1;rw[this];congr 1
theorem plus_q (v1 v2:Value) (r s:Rat) (k:Nat) (w:World) (h1:IsQ w v1 r) (h2:IsQ w v2 s) (z1:Siz r k) (z2:Siz s k) (hk:((k+k+1:Nat):Int)<=1073741824) (hG:Gr w) :
 Calls Tryz.prog 83 #[v1,v2] w (uF w (r+s)):=by
 have HW:=hid (fun W (hW:Below w.heap.size w W)=>cdN v1 v2 r s k W (h1.below hW (le_refl _)) (h2.below hW (le_refl _)) z1 z2 hk (hG.below hW hG.size));rcases h1.forms with⟨l1,rfl,d1,i1,j1⟩|⟨b1,rfl⟩
 ·rcases h2.forms with⟨l2,rfl,d2,i2,j2⟩|⟨b2,rfl⟩
  ·have HS:=hid (fun W (hW:Below w.heap.size w W)=>cbd r s l1 l2 W d1 d2 i1 j1 i2 j2 (hG.below hW hG.size));clear h1 h2 z1 z2 hk hG d1 d2 j1 j2;generalize neg? r=neg1 at *;generalize neg? s=neg2 at *;generalize r.num.natAbs=n1 at *;generalize s.num.natAbs=n2 at *;generalize r+s=t at *
   go_enter Tryz.func83,Tryz.ntmps83
   go_wp2_with fail;obtain⟨W0,hW0,hb0,⟨f0,f1,f2,f3⟩,⟨g0,g1,g2,g3⟩,hz⟩:=UF w (.bool neg1) (u n1) (u l1) (.pointer none) (.bool neg2) (u n2) (u l2) (.pointer none);rw[← hW0];clear hW0;have HZ:=hid hz;have HW0:=hid hb0;have hb0:=Below.refl W0.heap.size W0;clear hz;refine(HS.out _ (cf HW0.out hb0)).mono ?_;rintro e W1 ⟨a,b,c,ok,rfl,hok,hb⟩
   (obtain⟨_,_,_,_,_,_,_,_⟩:=jw w hb)
   have HA:=hid (cf hb0 hb);have HOK:=hid hok;clear hb0 hb hok f0 f1 f2 f3 g0 g1 g2 g3
   (obtain⟨z0,z1,z2,z3,zf0,zf1,zf2,zf3⟩:=HZ.out.zed HA.out)
   have q0:w.heap.size<W1.heap.size:=World.block_lt_of_cell? W1 ⟨w.heap.size,0,none⟩ (by assumption);have q1:w.heap.size+1<W1.heap.size:=World.block_lt_of_cell? W1 ⟨w.heap.size+1,0,none⟩ (by assumption);have q2:w.heap.size+1+1<W1.heap.size:=World.block_lt_of_cell? W1 ⟨w.heap.size+1+1,0,none⟩ z0;cases ok
   ·go_wp2_with fail;have HA':=hid (cf HA.out (ja W1 (.cells #[.bool a,.int .u64 (b:Int),.int .u64 (c:Int),.pointer none] 50)));clear z0 z1 z2 z3 zf0 zf1 zf2 zf3 q0 q1 q2;refine(HW.out _ (cf HW0.out HA'.out)).mono ?_;rintro e W9 ⟨v,rfl,hN,hb⟩;have hb3:=cf HA'.out hb;have hN':=hN;obtain⟨sg,a9,b9,p9,rfl⟩:=hN'.form;have hz:=HZ.out.below hb3 (le_refl _);have hfin:=uF.stored (a0:=.bool sg) (a1:=u a9) (a2:=u b9) (a3:=.pointer p9) hz hN (cf HW0.out hb3) (by omega);have HFin:=hid hfin
    (obtain⟨z0,z1,z2,z3,zf0,zf1,zf2,zf3⟩:=HZ.out.zed hb3)
    clear hfin hN hN' hb hb3;go_wp2_with fail;refine bodyPost_ret (v:=.agg #[.bool sg,u a9,u b9,.pointer p9]) (by simp [results,Tryz.results83,go_sem,z0,z1,z2,z3]) rfl ?_;exact HFin.out
   ·have hT:=HOK.out rfl;have HT:=hid hT;clear hT;go_wp2_with fail;refine bodyPost_ret (v:=lo a b c) (by simp [results,Tryz.results83,go_sem,z0,z1,z2,z3,q2]) rfl ?_;exact⟨_,rfl,HT.out _,(yQ HW0.out HA.out (by omega) _ _ _ _).trans ((ja _ _).mono (yQ HW0.out HA.out (by omega) _ _ _ _).size)⟩
  ·clear h1 h2 z1 z2 hk hG;generalize neg? r=neg1 at *;generalize neg? s=neg2 at *;generalize r.num.natAbs=n1 at *;generalize r+s=t at *;clear d1 i1 j1
   go_enter Tryz.func83,Tryz.ntmps83
   go_wp2_with fail;obtain⟨W0,hW0,hb0,⟨f0,f1,f2,f3⟩,⟨g0,g1,g2,g3⟩,hz⟩:=UF w (.bool neg1) (u n1) (u l1) (.pointer none) (.bool neg2) (u 0) (u 0) (.pointer (some ⟨b2,0,none⟩));rw[← hW0];clear hW0;have HZ:=hid hz;have HW0:=hid hb0;have hb0:=Below.refl W0.heap.size W0;clear hz;refine(HW.out _ (cf HW0.out hb0)).mono ?_;rintro e W9 ⟨v,rfl,hN,hb⟩;have hb3:=cf hb0 hb;have hN':=hN;obtain⟨sg,a9,b9,p9,rfl⟩:=hN'.form;have hz:=HZ.out.below hb3 (le_refl _);have hfin:=uF.stored (a0:=.bool sg) (a1:=u a9) (a2:=u b9) (a3:=.pointer p9) hz hN (cf HW0.out hb3) (by omega);have HFin:=hid hfin
   (obtain⟨z0,z1,z2,z3,zf0,zf1,zf2,zf3⟩:=HZ.out.zed hb3)
   clear hfin hN hN' hb hb3;go_wp2_with fail;refine bodyPost_ret (v:=.agg #[.bool sg,u a9,u b9,.pointer p9]) (by simp [results,Tryz.results83,go_sem,z0,z1,z2,z3]) rfl ?_;exact HFin.out
 ·obtain⟨neg2,a2,b2,p2,rfl⟩:=h2.form;clear h1 h2 z1 z2 hk hG;generalize neg? r=neg1 at *;generalize r+s=t at *
  go_enter Tryz.func83,Tryz.ntmps83
  go_wp2_with fail;obtain⟨W0,hW0,hb0,⟨f0,f1,f2,f3⟩,⟨g0,g1,g2,g3⟩,hz⟩:=UF w (.bool neg1) (u 0) (u 0) (.pointer (some ⟨b1,0,none⟩)) (.bool neg2) (u a2) (u b2) (.pointer p2);rw[← hW0];clear hW0;have HZ:=hid hz;have HW0:=hid hb0;have hb0:=Below.refl W0.heap.size W0;clear hz;refine(HW.out _ (cf HW0.out hb0)).mono ?_;rintro e W9 ⟨v,rfl,hN,hb⟩;have hb3:=cf hb0 hb;have hN':=hN;obtain⟨sg,a9,b9,p9,rfl⟩:=hN'.form;have hz:=HZ.out.below hb3 (le_refl _);have hfin:=uF.stored (a0:=.bool sg) (a1:=u a9) (a2:=u b9) (a3:=.pointer p9) hz hN (cf HW0.out hb3) (by omega);have HFin:=hid hfin
  (obtain⟨z0,z1,z2,z3,zf0,zf1,zf2,zf3⟩:=HZ.out.zed hb3)
  clear hfin hN hN' hb hb3;go_wp2_with fail;refine bodyPost_ret (v:=.agg #[.bool sg,u a9,u b9,.pointer p9]) (by simp [results,Tryz.results83,go_sem,z0,z1,z2,z3]) rfl ?_;exact HFin.out
theorem ceB (v1 v2:Value) (r s:Rat) (k:Nat) (w:World) (h1:IsQ w v1 r) (h2:IsQ w v2 s) (z1:Siz r k) (z2:Siz s k) (hk:(k:Int)<=1073741824) (hG:Gr w) :
 Calls Tryz.prog 71 #[v1,v2] w (uF w (r*s)):=by
 have HW:=hid (fun W (hW:Below w.heap.size w W)=>cbt v1 v2 r s k W (h1.below hW (le_refl _)) (h2.below hW (le_refl _)) z1 z2 hk (hG.below hW hG.size));rcases h1.forms with⟨l1,rfl,d1,i1,j1⟩|⟨b1,rfl⟩
 ·rcases h2.forms with⟨l2,rfl,d2,i2,j2⟩|⟨b2,rfl⟩
  ·have HS:=hid (fun W (hW:Below w.heap.size w W)=>cav r s l1 l2 W d1 d2 i1 j1 i2 j2 (hG.below hW hG.size));clear h1 h2 z1 z2 hk hG d1 d2 j1 j2;generalize neg? r=neg1 at *;generalize neg? s=neg2 at *;generalize r.num.natAbs=n1 at *;generalize s.num.natAbs=n2 at *;generalize r*s=t at *
   go_enter Tryz.func71,Tryz.ntmps71
   go_wp2_with fail;obtain⟨W0,hW0,hb0,⟨f0,f1,f2,f3⟩,⟨g0,g1,g2,g3⟩,hz⟩:=UF w (.bool neg1) (u n1) (u l1) (.pointer none) (.bool neg2) (u n2) (u l2) (.pointer none);rw[← hW0];clear hW0;have HZ:=hid hz;have HW0:=hid hb0;have hb0:=Below.refl W0.heap.size W0;clear hz;refine(HS.out _ (cf HW0.out hb0)).mono ?_;rintro e W1 ⟨a,b,c,ok,rfl,hok,hb⟩
   (obtain⟨_,_,_,_,_,_,_,_⟩:=jw w hb)
   have HA:=hid (cf hb0 hb);have HOK:=hid hok;clear hb0 hb hok f0 f1 f2 f3 g0 g1 g2 g3
   (obtain⟨z0,z1,z2,z3,zf0,zf1,zf2,zf3⟩:=HZ.out.zed HA.out)
   have q0:w.heap.size<W1.heap.size:=World.block_lt_of_cell? W1 ⟨w.heap.size,0,none⟩ (by assumption);have q1:w.heap.size+1<W1.heap.size:=World.block_lt_of_cell? W1 ⟨w.heap.size+1,0,none⟩ (by assumption);have q2:w.heap.size+1+1<W1.heap.size:=World.block_lt_of_cell? W1 ⟨w.heap.size+1+1,0,none⟩ z0;cases ok
   ·go_wp2_with fail;have HA':=hid (cf HA.out (ja W1 (.cells #[.bool a,.int .u64 (b:Int),.int .u64 (c:Int),.pointer none] 50)));clear z0 z1 z2 z3 zf0 zf1 zf2 zf3 q0 q1 q2;refine(HW.out _ (cf HW0.out HA'.out)).mono ?_;rintro e W9 ⟨v,rfl,hN,hb⟩;have hb3:=cf HA'.out hb;have hN':=hN;obtain⟨sg,a9,b9,p9,rfl⟩:=hN'.form;have hz:=HZ.out.below hb3 (le_refl _);have hfin:=uF.stored (a0:=.bool sg) (a1:=u a9) (a2:=u b9) (a3:=.pointer p9) hz hN (cf HW0.out hb3) (by omega);have HFin:=hid hfin
    (obtain⟨z0,z1,z2,z3,zf0,zf1,zf2,zf3⟩:=HZ.out.zed hb3)
    clear hfin hN hN' hb hb3;go_wp2_with fail;refine bodyPost_ret (v:=.agg #[.bool sg,u a9,u b9,.pointer p9]) (by simp [results,Tryz.results71,go_sem,z0,z1,z2,z3]) rfl ?_;exact HFin.out
   ·have hT:=HOK.out rfl;have HT:=hid hT;clear hT;go_wp2_with fail;refine bodyPost_ret (v:=lo a b c) (by simp [results,Tryz.results71,go_sem,z0,z1,z2,z3,q2]) rfl ?_;exact⟨_,rfl,HT.out _,(yQ HW0.out HA.out (by omega) _ _ _ _).trans ((ja _ _).mono (yQ HW0.out HA.out (by omega) _ _ _ _).size)⟩
  ·clear h1 h2 z1 z2 hk hG;generalize neg? r=neg1 at *;generalize neg? s=neg2 at *;generalize r.num.natAbs=n1 at *;generalize r*s=t at *;clear d1 i1 j1
   go_enter Tryz.func71,Tryz.ntmps71
   go_wp2_with fail;obtain⟨W0,hW0,hb0,⟨f0,f1,f2,f3⟩,⟨g0,g1,g2,g3⟩,hz⟩:=UF w (.bool neg1) (u n1) (u l1) (.pointer none) (.bool neg2) (u 0) (u 0) (.pointer (some ⟨b2,0,none⟩));rw[← hW0];clear hW0;have HZ:=hid hz;have HW0:=hid hb0;have hb0:=Below.refl W0.heap.size W0;clear hz;refine(HW.out _ (cf HW0.out hb0)).mono ?_;rintro e W9 ⟨v,rfl,hN,hb⟩;have hb3:=cf hb0 hb;have hN':=hN;obtain⟨sg,a9,b9,p9,rfl⟩:=hN'.form;have hz:=HZ.out.below hb3 (le_refl _);have hfin:=uF.stored (a0:=.bool sg) (a1:=u a9) (a2:=u b9) (a3:=.pointer p9) hz hN (cf HW0.out hb3) (by omega);have HFin:=hid hfin
   (obtain⟨z0,z1,z2,z3,zf0,zf1,zf2,zf3⟩:=HZ.out.zed hb3)
   clear hfin hN hN' hb hb3;go_wp2_with fail;refine bodyPost_ret (v:=.agg #[.bool sg,u a9,u b9,.pointer p9]) (by simp [results,Tryz.results71,go_sem,z0,z1,z2,z3]) rfl ?_;exact HFin.out
 ·obtain⟨neg2,a2,b2,p2,rfl⟩:=h2.form;clear h1 h2 z1 z2 hk hG;generalize neg? r=neg1 at *;generalize r*s=t at *
  go_enter Tryz.func71,Tryz.ntmps71
  go_wp2_with fail;obtain⟨W0,hW0,hb0,⟨f0,f1,f2,f3⟩,⟨g0,g1,g2,g3⟩,hz⟩:=UF w (.bool neg1) (u 0) (u 0) (.pointer (some ⟨b1,0,none⟩)) (.bool neg2) (u a2) (u b2) (.pointer p2);rw[← hW0];clear hW0;have HZ:=hid hz;have HW0:=hid hb0;have hb0:=Below.refl W0.heap.size W0;clear hz;refine(HW.out _ (cf HW0.out hb0)).mono ?_;rintro e W9 ⟨v,rfl,hN,hb⟩;have hb3:=cf hb0 hb;have hN':=hN;obtain⟨sg,a9,b9,p9,rfl⟩:=hN'.form;have hz:=HZ.out.below hb3 (le_refl _);have hfin:=uF.stored (a0:=.bool sg) (a1:=u a9) (a2:=u b9) (a3:=.pointer p9) hz hN (cf HW0.out hb3) (by omega);have HFin:=hid hfin
  (obtain⟨z0,z1,z2,z3,zf0,zf1,zf2,zf3⟩:=HZ.out.zed hb3)
  clear hfin hN hN' hb hb3;go_wp2_with fail;refine bodyPost_ret (v:=.agg #[.bool sg,u a9,u b9,.pointer p9]) (by simp [results,Tryz.results71,go_sem,z0,z1,z2,z3]) rfl ?_;exact HFin.out
theorem Kg (sg:Bool) (a b:Nat) (p:Option Addr) (w:World) :
 Calls Tryz.prog 84 #[.agg #[.bool sg,u a,u b,.pointer p]] w (Val w (.int .i64 (if sg then -1 else 1))):=by
 cases sg
 ·go_enter Tryz.func84,Tryz.ntmps84
  go_wp2_with fail
  go_ret
  exact⟨rfl,ja w _⟩
 ·go_enter Tryz.func84,Tryz.ntmps84
  go_wp2_with fail
  go_ret
  exact⟨rfl,ja w _⟩
def zl (r:Rat):Int:=if r.num=0 then 0 else if r.num<0 then -1 else 1
theorem caw (v:Value) (r:Rat) (w:World) (h:IsQ w v r) :
 Calls Tryz.prog 81 #[v] w (Val w (.int .i64 (zl r))):=by
 have hsg:(if decide (r.num<0) then (-1:Int) else 1)=if r.num<0 then -1 else 1:=by
  by_cases h:r.num<0<;>simp [h]
 cases h with
 |low l hv hd hn hdB =>
  subst hv;by_cases h0:r.num.natAbs=0
  ·have hs:zl r=0:=by unfold zl;rw[if_pos (by omega)]
   rw[hs,h0];generalize decide (r.num<0)=sg at *
   go_enter Tryz.func81,Tryz.ntmps81
   go_wp2_with fail
   go_ret
   exact⟨rfl,ja w _⟩
  ·have hs:zl r=if decide (r.num<0) then -1 else 1:=by unfold zl;rw[if_neg (by omega),hsg]
   rw[hs];have HS:=hid (fun W=>Kg (decide (r.num<0)) r.num.natAbs l none W);clear hs hsg hn hd hdB;have h1:(((r.num.natAbs:Nat):Int) == 0)=false:=by rw[beq_eq_false_iff_ne];omega
   obtain⟨sv,hsv⟩:∃ sv:Int,sv=if decide (r.num<0) then -1 else 1:=⟨_,rfl⟩
   rw[← hsv] at HS ⊢;clear hsv;generalize decide (r.num<0)=sg at *;generalize r.num.natAbs=n at *;clear h0
   go_enter Tryz.func81,Tryz.ntmps81
   go_wp2_with fail;refine(HS.out _).mono ?_;rintro e W1 ⟨rfl,hb⟩;have HB:=hid (cf (ja w _) hb);clear hb;go_wp2_with fail
   go_ret
   exact⟨rfl,HB.out⟩
 |wide b x y hv hx hy h1 h2 hB h0 hd =>
  subst hv;have hs:zl r=if decide (r.num<0) then -1 else 1:=by unfold zl;rw[if_neg (by omega),hsg]
  rw[hs];have HS:=hid (fun W=>Kg (decide (r.num<0)) 0 0 (some ⟨b,0,none⟩) W);clear hs hsg hx hy h1 h2 hB h0 hd;obtain⟨sv,hsv⟩:∃ sv:Int,sv=if decide (r.num<0) then -1 else 1:=⟨_,rfl⟩
  rw[← hsv] at HS ⊢;clear hsv;generalize decide (r.num<0)=sg at *
  go_enter Tryz.func81,Tryz.ntmps81
  go_wp2_with fail;refine(HS.out _).mono ?_;rintro e W1 ⟨rfl,hb⟩;have HB:=hid (cf (ja w _) hb);clear hb;go_wp2_with fail
  go_ret
  exact⟨rfl,HB.out⟩
theorem Num.resign {w:World}{s1 s2 s3:Bool}{a b:Nat}{p:Option Addr}{n d:Nat}(h:Num w (.agg #[.bool s1,u a,u b,.pointer p]) s2 n d):Num w (.agg #[.bool s3,u a,u b,.pointer p]) s3 n d:=by
 cases h with
 |low l hv hd hn hdB =>
  simp at hv;obtain⟨_,e1,e2,rfl⟩:=hv;have e1:a=n:=by omega
  have e2:b=l:=by omega
  subst e1 e2;exact .low _ rfl hd hn hdB
 |wide b' x y hv hx hy h1 h2 hB h0 hd =>
  simp at hv;obtain⟨_,e1,e2,rfl⟩:=hv;have e1:a=0:=by omega
  have e2:b=0:=by omega
  subst e1 e2;exact .wide b' x y rfl hx hy h1 h2 hB h0 hd
theorem abs_q (v:Value) (r:Rat) (w:World) (h:IsQ w v r) :
 Calls Tryz.prog 107 #[v] w (uF w (if r.num<0 then -r else r)):=by
 have hq:∀ W neg a b p,v=.agg #[.bool neg,u a,u b,.pointer p]->Below w.heap.size w W->IsQ W (.agg #[.bool false,u a,u b,.pointer p]) (if r.num<0 then -r else r):=by
  intro W neg a b p hv hW;have h':=h.below hW (le_refl _);have e1:(if r.num<0 then -r else r).num.natAbs=r.num.natAbs:=by split<;>simp
  have e2:(if r.num<0 then -r else r).den=r.den:=by split<;>simp
  have e3:decide ((if r.num<0 then -r else r).num<0)=false:=by
   by_cases hr:r.num<0
   ·first|(simp [hr];done)|(simp [hr];omega)
   ·first|(simp [hr];done)|(simp [hr];omega)
  unfold IsQ;rw[e1,e2,e3];subst hv;exact Num.resign h'
 have HQ:=hid hq;obtain⟨neg,a,b,p,rfl⟩:=h.form;clear h hq;generalize (if r.num<0 then -r else r)=t at *
 go_enter Tryz.func107,Tryz.ntmps107
 go_wp2_with fail;refine bodyPost_ret (v:=.agg #[.bool false,u a,u b,.pointer p]) (by simp [results,Tryz.results107,go_sem]) rfl ?_;have hb:=cf (ja w (.cells #[.bool false,u a,u b,.pointer p] 50)) (ja _ (.cells #[.bool false,u a,u b,.pointer p] 50));exact⟨_,rfl,HQ.out _ _ _ _ _ rfl hb,hb⟩
theorem box2w (w:World) (a0 a1 a2 a3:Value):∃ W,W=(w.alloc (.cells #[a0,a1,a2,a3] 50)).alloc (.cells #[.bool false,.int .u64 0,.int .u64 0,.pointer none] 50)/\Below w.heap.size w W/\
 Box W w.heap.size a0 a1 a2 a3/\Box W (w.heap.size+1) (.bool false) (.int .u64 0) (.int .u64 0) (.pointer none):=by
 refine⟨_,rfl,cf (ja w _) (ja _ _),?_,?_⟩
 ·have h1:Box (w.alloc (.cells #[a0,a1,a2,a3] 50)) w.heap.size a0 a1 a2 a3:=heap_alloc_new w _;exact h1.below (ja _ _) (le_refl _)
 ·have hs:(w.alloc (.cells #[a0,a1,a2,a3] 50)).heap.size=w.heap.size+1:=by
   show (w.heap.push _).size=_;simp
  rw[← hs];exact heap_alloc_new _ _
theorem neg_q (v:Value) (r:Rat) (w:World) (h:IsQ w v r) :
 Calls Tryz.prog 46 #[v] w (uF w (-r)):=by
 have hq:∀ W sg neg a b p,v=.agg #[.bool neg,u a,u b,.pointer p]->sg=decide (0<zl r)->Below w.heap.size w W->IsQ W (.agg #[.bool sg,u a,u b,.pointer p]) (-r):=by
  intro W sg neg a b p hv hs hW;have h':=h.below hW (le_refl _);have e3:decide ((-r).num<0)=sg:=by
   rw[hs];unfold zl;rw[Rat.neg_num,Bool.eq_iff_iff];simp only[decide_eq_true_eq];split
   ·omega
   ·split<;>omega
  unfold IsQ;rw[e3,Rat.neg_num,Int.natAbs_neg,Rat.neg_den];subst hv;exact Num.resign h'
 have HQ:=hid hq;have HS:=hid (fun W (hW:Below w.heap.size w W)=>caw v r W (h.below hW (le_refl _)));obtain⟨neg,a,b,p,rfl⟩:=h.form;clear h hq;generalize zl r=sv at *;generalize -r=t at *
 go_enter Tryz.func46,Tryz.ntmps46
 go_wp2_with fail;obtain⟨W0,hW0,hb0,hx,hz⟩:=box2w w (.bool neg) (u a) (u b) (.pointer p);rw[← hW0];clear hW0;refine(HS.out _ hb0).mono ?_;rintro e W1 ⟨rfl,hb⟩;have hx1:=hx.below hb (le_refl _);have hz1:=hz.below hb (le_refl _);have HB:=hid (cf hb0 hb);have xf:=hx1.frozen;obtain⟨x0,x1,x2,x3⟩:=hx1.cells;have xf0:=xf 0;have zf:=hz1.frozen;obtain⟨z0,z1,z2,z3⟩:=hz1.cells;have zf0:=zf 0;have zf1:=zf 1;have zf2:=zf 2;have zf3:=zf 3;clear xf zf hx hz hx1 hz1 hb hb0;go_wp2_with fail;have hb5:Below w.heap.size w (((((W1.setCell ⟨w.heap.size,0,none⟩ (.bool (decide (0<sv)))).setCell ⟨w.heap.size+1,0,none⟩ (.bool (decide (0<sv)))).setCell ⟨w.heap.size+1,1,none⟩ (u a)).setCell ⟨w.heap.size+1,2,none⟩ (u b)).setCell ⟨w.heap.size+1,3,none⟩ (.pointer p)) :=
  (HB.out.trans (((cV.refl w.heap.size W1).set 0 _).below (le_refl _))).trans ((((((cV.refl (w.heap.size+1) _).set 0 _).set 1 _).set 2 _).set 3 _).below (by omega))
 refine bodyPost_ret (v:=.agg #[.bool (decide (0<sv)),u a,u b,.pointer p]) (by simp [results,Tryz.results46,go_sem,z0,z1,z2,z3]) rfl ?_;exact⟨_,rfl,HQ.out _ _ _ _ _ _ rfl rfl hb5,hb5⟩
theorem Siz.neg {r:Rat}{k:Nat}(h:Siz r k):Siz (-r) k:=by
 unfold Siz at *;rw[Rat.neg_num,Int.natAbs_neg,Rat.neg_den];exact h
def uu (r s:Rat):Int:=if r<s then -1 else if s<r then 1 else 0
theorem ccj (r s:Rat):uu r s=if r.num*s.den<s.num*r.den then -1 else if s.num*r.den<r.num*s.den then 1 else 0:=by
 unfold uu;simp only[Rat.lt_iff]
theorem cfC {m n:Int}{a b:Nat}(ha:0<a) (hb:0<b) (h:decide (m<0)≠decide (n<0)) :
 (if m*b<n*a then (-1:Int) else if n*a<m*b then 1 else 0)=if decide (m<0) then -1 else 1:=by
 have ha':(0:Int)<a:=by omega
 have hb':(0:Int)<b:=by omega
 by_cases hm:m<0
 ·have hn:0<=n:=by
   by_cases hn:n<0
   ·exact absurd (by simp [hm,hn]) h
   ·omega
  have h1:m*b<0:=Int.mul_neg_of_neg_of_pos hm hb';have h2:0<=n*a:=Int.mul_nonneg hn (Int.le_of_lt ha');rw[if_pos (by omega)];simp [hm]
 ·have hn:n<0:=by
   by_cases hn:n<0
   ·exact hn
   ·exact absurd (by simp [hm,hn]) h
  have h1:n*a<0:=Int.mul_neg_of_neg_of_pos hn ha';have h2:0<=m*b:=Int.mul_nonneg (by omega) (Int.le_of_lt hb');rw[if_neg (by omega),if_pos (by omega)];simp [hm]
theorem chq {m n:Int}{a b:Nat}(h:decide (m<0)=decide (n<0)) :
 (if decide (m<0) then (-1:Int) else 1)*cH (m.natAbs*b) (n.natAbs*a)=if m*b<n*a then (-1:Int) else if n*a<m*b then 1 else 0:=by
 unfold cH;by_cases hm:m<0
 ·have hn:n<0:=by
   by_cases hn:n<0
   ·exact hn
   ·simp [hm,hn] at h
  have e1:m*b=-((m.natAbs*b:Nat):Int):=by
   rw[natCast_mul,← Int.neg_mul];congr 1;omega
  have e2:n*a=-((n.natAbs*a:Nat):Int):=by
   rw[natCast_mul,← Int.neg_mul];congr 1;omega
  rw[e1,e2];generalize m.natAbs*b=x;generalize n.natAbs*a=y;simp only[hm,decide_true,if_true];rcases Nat.lt_trichotomy x y with g|g|g
  ·rw[if_pos g,if_neg (by omega),if_pos (by omega)];rfl
  ·rw[if_neg (by omega),if_neg (by omega),if_neg (by omega),if_neg (by omega)];rfl
  ·rw[if_neg (by omega),if_pos g,if_pos (by omega)];rfl
 ·have hn:¬ n<0:=by
   intro hn;simp [hm,hn] at h
  have e1:m*b=((m.natAbs*b:Nat):Int):=by
   rw[natCast_mul];congr 1;omega
  have e2:n*a=((n.natAbs*a:Nat):Int):=by
   rw[natCast_mul];congr 1;omega
  rw[e1,e2];generalize m.natAbs*b=x;generalize n.natAbs*a=y;simp only[hm,decide_false,false_eq_true,if_false];rcases Nat.lt_trichotomy x y with g|g|g
  ·rw[if_pos g,if_pos (by omega)];rfl
  ·rw[if_neg (by omega),if_neg (by omega),if_neg (by omega),if_neg (by omega)];rfl
  ·rw[if_neg (by omega),if_pos g,if_neg (by omega),if_pos (by omega)];rfl
theorem cdb {r s:Rat}(h:neg? r≠neg? s):uu r s=if neg? r then -1 else 1:=by
 rw[ccj];exact cfC r.den_pos s.den_pos h
theorem cfT {r s:Rat}(h:neg? r=neg? s):(if neg? r then (-1:Int) else 1)*cH (r.num.natAbs*s.den) (s.num.natAbs*r.den)=uu r s:=by
 rw[ccj];exact chq h
theorem cfQ (r s:Rat):IntKind.i64.wrap (uu r s)=uu r s:=by
 unfold uu;split
 ·rfl
 ·split<;>rfl
theorem cmp_q (v1 v2:Value) (r s:Rat) (k:Nat) (w:World) (h1:IsQ w v1 r) (h2:IsQ w v2 s) (z1:Siz r k) (z2:Siz s k) (hk:(k:Int)<=1073741824) :
 Calls Tryz.prog 51 #[v1,v2] w (Val w (.int .i64 (uu r s))):=by
 have HW:=hid (fun W (hW:Below w.heap.size w W)=>UD v1 v2 _ _ _ _ _ _ k W (h1.below hW (le_refl _)) (h2.below hW (le_refl _)) z1.1 z1.2 z2.1 z2.2 hk);by_cases hne:neg? r=neg? s
 ·have hres:=cfT hne;have hwr:=cfQ r s;rw[← hres] at hwr;have hbn:(neg? r == neg? s)=true:=by rw[hne];simp
  obtain⟨sv,hsv⟩:∃ sv:Int,sv=if neg? r then -1 else 1:=⟨_,rfl⟩
  have hside:=fun a b p W=>Kg (neg? r) a b p W;rw[← hsv] at hside hres hwr;clear hsv;rcases h1.forms with⟨l1,rfl,d1,i1,j1⟩|⟨b1,rfl⟩
  ·have HS:=hid (hside r.num.natAbs l1 none);rcases h2.forms with⟨l2,rfl,d2,i2,j2⟩|⟨b2,rfl⟩
   ·have HC:=hid (fun W=>Ub (neg? r) (neg? s) r.num.natAbs l1 s.num.natAbs l2 i1 (d1▸j1) i2 (d2▸j2) W);rw[← d1,← d2] at HC;generalize cH (r.num.natAbs*s.den) (s.num.natAbs*r.den)=cv at *;clear h1 h2 z1 z2 hk hne hside i1 i2 j1 j2 d1 d2 HW;generalize uu r s=t at *;generalize neg? r=neg1 at *;generalize neg? s=neg2 at *;generalize r.num.natAbs=n1 at *;generalize s.num.natAbs=n2 at *;subst hres;generalize hpr:sv*cv=pr at *
    go_enter Tryz.func51,Tryz.ntmps51
    go_wp2_with fail;obtain⟨W0,hW0,hb0,⟨f0,f1,f2,f3⟩,⟨g0,g1,g2,g3⟩⟩:=box2 w (.bool neg1) (u n1) (u l1) (.pointer none) (.bool neg2) (u n2) (u l2) (.pointer none);rw[← hW0];clear hW0
    go_region_held3 (fun w'=>(w'.cell? ⟨w.heap.size,0,none⟩=some (.bool neg1)/\w'.cell? ⟨w.heap.size,1,none⟩=some (u n1)/\w'.cell? ⟨w.heap.size,2,none⟩=some (u l1)/\w'.cell? ⟨w.heap.size,3,none⟩=some (.pointer none))/\(w'.cell? ⟨w.heap.size+1,0,none⟩=some (.bool neg2)/\w'.cell? ⟨w.heap.size+1,1,none⟩=some (u n2)/\w'.cell? ⟨w.heap.size+1,2,none⟩=some (u l2)/\w'.cell? ⟨w.heap.size+1,3,none⟩=some (.pointer none))) (go_keep) (first|((with_reducible refine(HS.out _).mono ?_);rintro e W1 ⟨rfl,hb⟩;(obtain⟨_,_,_,_,_,_,_,_⟩:=jw w hb))|((with_reducible refine(HC.out _).mono ?_);rintro e W2 ⟨rfl,hb'⟩;(obtain⟨_,_,_,_,_,_,_,_⟩:=jw w hb')))
    have HB:=hid (cf (jP hb0 hb) hb');clear hb0 hb hb' f0 f1 f2 f3 g0 g1 g2 g3;go_wp2_with fail
    go_ret
    exact⟨rfl,HB.out⟩
   ·generalize cH (r.num.natAbs*s.den) (s.num.natAbs*r.den)=cv at *;clear h1 h2 z1 z2 hk hne hside i1 j1 d1;generalize uu r s=t at *;generalize neg? r=neg1 at *;generalize neg? s=neg2 at *;generalize r.num.natAbs=n1 at *;subst hres;generalize hpr:sv*cv=pr at *
    go_enter Tryz.func51,Tryz.ntmps51
    go_wp2_with fail;obtain⟨W0,hW0,hb0,⟨f0,f1,f2,f3⟩,⟨g0,g1,g2,g3⟩⟩:=box2 w (.bool neg1) (u n1) (u l1) (.pointer none) (.bool neg2) (u 0) (u 0) (.pointer (some ⟨b2,0,none⟩));rw[← hW0];clear hW0
    go_region_held3 (fun w'=>(w'.cell? ⟨w.heap.size,0,none⟩=some (.bool neg1)/\w'.cell? ⟨w.heap.size,1,none⟩=some (u n1)/\w'.cell? ⟨w.heap.size,2,none⟩=some (u l1)/\w'.cell? ⟨w.heap.size,3,none⟩=some (.pointer none))/\(w'.cell? ⟨w.heap.size+1,0,none⟩=some (.bool neg2)/\w'.cell? ⟨w.heap.size+1,1,none⟩=some (u 0)/\w'.cell? ⟨w.heap.size+1,2,none⟩=some (u 0)/\w'.cell? ⟨w.heap.size+1,3,none⟩=some (.pointer (some ⟨b2,0,none⟩)))) (go_keep) (first|((with_reducible refine(HS.out _).mono ?_);rintro e W1 ⟨rfl,hb⟩;(obtain⟨_,_,_,_,_,_,_,_⟩:=jw w hb))|((with_reducible refine(HW.out _ (jP hb0 hb)).mono ?_);rintro e W2 ⟨rfl,hb'⟩;(obtain⟨_,_,_,_,_,_,_,_⟩:=jw w hb')))
    have HB:=hid (cf (jP hb0 hb) hb');clear hb0 hb hb' f0 f1 f2 f3 g0 g1 g2 g3;go_wp2_with fail
    go_ret
    exact⟨rfl,HB.out⟩
  ·have HS:=hid (hside 0 0 (some ⟨b1,0,none⟩));obtain⟨a2,b2,p2,rfl,_⟩:=Num.form h2;clear h1 h2 z1 z2 hk hbn;obtain⟨neg2,hn2⟩:∃ neg2,neg2=decide (s.num<0):=⟨_,rfl⟩;rw[← hn2] at HW ⊢;have hne2:neg? r=neg2:=hne.trans hn2.symm;have hbn:(neg? r == neg2)=true:=by rw[hne2];simp
   clear hne hne2;generalize cH (r.num.natAbs*s.den) (s.num.natAbs*r.den)=cv at *;clear hside hn2;generalize uu r s=t at *;generalize neg? r=neg1 at *;subst hres;generalize hpr:sv*cv=pr at *
   go_enter Tryz.func51,Tryz.ntmps51
   go_wp2_with fail;obtain⟨W0,hW0,hb0,⟨f0,f1,f2,f3⟩,⟨g0,g1,g2,g3⟩⟩:=box2 w (.bool neg1) (u 0) (u 0) (.pointer (some ⟨b1,0,none⟩)) (.bool neg2) (u a2) (u b2) (.pointer p2);rw[← hW0];clear hW0
   go_region_held3 (fun w'=>(w'.cell? ⟨w.heap.size,0,none⟩=some (.bool neg1)/\w'.cell? ⟨w.heap.size,1,none⟩=some (u 0)/\w'.cell? ⟨w.heap.size,2,none⟩=some (u 0)/\w'.cell? ⟨w.heap.size,3,none⟩=some (.pointer (some ⟨b1,0,none⟩)))/\(w'.cell? ⟨w.heap.size+1,0,none⟩=some (.bool neg2)/\w'.cell? ⟨w.heap.size+1,1,none⟩=some (u a2)/\w'.cell? ⟨w.heap.size+1,2,none⟩=some (u b2)/\w'.cell? ⟨w.heap.size+1,3,none⟩=some (.pointer p2))) (go_keep) (first|((with_reducible refine(HS.out _).mono ?_);rintro e W1 ⟨rfl,hb⟩;(obtain⟨_,_,_,_,_,_,_,_⟩:=jw w hb))|((with_reducible refine(HW.out _ (jP hb0 hb)).mono ?_);rintro e W2 ⟨rfl,hb'⟩;(obtain⟨_,_,_,_,_,_,_,_⟩:=jw w hb')))
   have HB:=hid (cf (jP hb0 hb) hb');clear hb0 hb hb' f0 f1 f2 f3 g0 g1 g2 g3;go_wp2_with fail
   go_ret
   exact⟨rfl,HB.out⟩
 ·have hres:=cdb hne;obtain⟨a1,b1,p1,rfl,_⟩:=Num.form h1;obtain⟨a2,b2,p2,rfl,_⟩:=Num.form h2;have HS:=hid (fun W=>Kg (decide (r.num<0)) a1 b1 p1 W);rw[← hres] at HS;have hb:(decide (r.num<0) == decide (s.num<0))=false:=by simpa using hne
  clear h1 h2 z1 z2 hk HW hres hne;generalize uu r s=t at *;generalize decide (r.num<0)=neg1 at *;generalize decide (s.num<0)=neg2 at *
  go_enter Tryz.func51,Tryz.ntmps51
  go_wp2_with fail;obtain⟨W0,hW0,hb0,⟨f0,f1,f2,f3⟩,⟨g0,g1,g2,g3⟩⟩:=box2 w (.bool neg1) (u a1) (u b1) (.pointer p1) (.bool neg2) (u a2) (u b2) (.pointer p2);rw[← hW0];clear hW0;refine(HS.out _).mono ?_;rintro e W1 ⟨rfl,hb1⟩;have HB:=hid (cf hb0 hb1);clear hb0 hb1;go_wp2_with fail
  go_ret
  exact⟨rfl,HB.out⟩
theorem YI {r:Rat}(h:r.num≠0):(r⁻¹).num=sgn (neg? r) r.den/\(r⁻¹).den=r.num.natAbs:=by
 show (Rat.inv r).num=_/\(Rat.inv r).den=_;unfold Rat.inv sgn;by_cases h1:r.num<0
 ·simp [h1]
 ·have h2:0<r.num:=by omega
  simp [h1,h2]
theorem recip_q (v:Value) (r:Rat) (w:World) (h:IsQ w v r) (h0:r.num≠0) :
 Calls Tryz.prog 131 #[v] w (uF w r⁻¹):=by
 obtain⟨in1,in2⟩:=YI h0;cases h with
 |low l hv hd hn hdB =>
  subst hv;have hq:∀ W,IsQ W (lo (neg? r&&!decide (r.den=0)) r.den (uQ r.num.natAbs 1)) r⁻¹:=by
   intro W;unfold IsQ;rw[in1,in2,zE,UJ];exact Num.low _ rfl (GJ hn (by omega)).symm hdB hn
  have HQ:=hid hq;have HS:=hid (fun W=>yP (neg? r) r.den r.num.natAbs hn W);have HBo:=hid (fun W=>kH (neg? r) r.num.natAbs l none (hd▸hdB) W);rw[← hd] at HBo;clear hq in1 in2 hn hdB hd h0;show Calls Tryz.prog 131 #[lo (neg? r) r.num.natAbs l] w (uF w r⁻¹);generalize r⁻¹=t at *;generalize neg? r=sg at *;generalize r.num.natAbs=n at *;generalize r.den=d at *;generalize (sg&&!decide (d=0))=sg2 at *;generalize uQ n 1=l2 at *
  go_enter Tryz.func131,Tryz.ntmps131
  go_wp2_with fail;obtain⟨W0,hW0,hb0,hx0,hz⟩:=box2w w (.bool sg) (u n) (u l) (.pointer none);rw[← hW0];clear hW0;obtain⟨f0,f1,f2,f3⟩:=hx0.cells;have HZ:=hid hz;have HW0:=hid hb0;have hb0:=Below.refl W0.heap.size W0;clear hz hx0;have n1:¬ w.heap.size=w.heap.size+1:=(by omega);have n2:¬ w.heap.size+1=w.heap.size:=(by omega)
  go_region_held3 (fun w'=>(w'.cell? ⟨w.heap.size,0,none⟩=some (.bool sg)/\w'.cell? ⟨w.heap.size,1,none⟩=some (u n)/\w'.cell? ⟨w.heap.size,2,none⟩=some (u l)/\w'.cell? ⟨w.heap.size,3,none⟩=some (.pointer none))) (go_keep) (first|((with_reducible refine(HBo.out _).mono ?_);rintro e W1 ⟨rfl,hb⟩;(obtain⟨_,_,_,_⟩:=boxa w hb))|((with_reducible refine(HS.out _).mono ?_);rintro e W2 ⟨rfl,hb'⟩;(obtain⟨_,_,_,_⟩:=boxa w hb');have hb3:=cf (jP hb0 hb) hb';(obtain⟨z0,z1,z2,z3,zf0,zf1,zf2,zf3⟩:=HZ.out.zed hb3)))
  have hz:=HZ.out.below hb3 (le_refl _);have hfin:=uF.stored (a0:=.bool sg2) (a1:=u d) (a2:=u l2) (a3:=.pointer none) hz (HQ.out _) (cf HW0.out hb3) (by omega);have HFin:=hid hfin;clear hfin hb hb' hb0 hb3 hz f0 f1 f2 f3;go_wp2_with fail;refine bodyPost_ret (v:=lo sg2 d l2) (by simp [results,Tryz.results131,go_sem,z0,z1,z2,z3]) rfl ?_;exact HFin.out
 |wide b x y hv hx hy h1 h2 hB h0' hd =>
  subst hv;have HF:=hid (fun W (hW:Below w.heap.size w W)=>zq (neg? r) y x r.den r.num.natAbs W (h2.below hW (le_refl _)) (h1.below hW (le_refl _)) h0');have HR:=hid (fun W W' e (h:kB W (neg? r) r.den r.num.natAbs e W')=>h.q in1 in2);obtain⟨xa,xl,xc,rfl,_⟩:=h1.form;obtain⟨ya,yl,yc,rfl,_⟩:=h2.form;clear h1 h2 in1 in2 hB h0' hd h0;show Calls Tryz.prog 131 #[wi (neg? r) ⟨b,0,none⟩] w (uF w r⁻¹);generalize r⁻¹=t at *;generalize neg? r=sg at *;generalize r.num.natAbs=n at *;generalize r.den=d at *
  go_enter Tryz.func131,Tryz.ntmps131
  go_wp2_with fail;have p1:¬ b=w.heap.size+1:=by have:=World.block_lt_of_cell? w _ hx;simp at this;omega
  have p2:¬ w.heap.size+1=b:=fun h=>p1 h.symm;obtain⟨W0,hW0,hb0,hx0,hz⟩:=box2w w (.bool sg) (u 0) (u 0) (.pointer (some ⟨b,0,none⟩));rw[← hW0];clear hW0;obtain⟨f0,f1,f2,f3⟩:=hx0.cells;have HZ:=hid hz;have HW0:=hid hb0;have hb0:=Below.refl W0.heap.size W0;clear hz hx0;have n1:¬ w.heap.size=w.heap.size+1:=(by omega);have n2:¬ w.heap.size+1=w.heap.size:=(by omega);have hx:W0.cell? ⟨b,0,none⟩=some (.slice xa xl xc):=(HW0.out.cell (p:=⟨b,0,none⟩) (World.block_lt_of_cell? w _ hx)).trans hx;have hy:W0.cell? ⟨b,1,none⟩=some (.slice ya yl yc):=(HW0.out.cell (p:=⟨b,1,none⟩) (World.block_lt_of_cell? w _ hy)).trans hy
  go_region_held3 (fun w'=>(w'.cell? ⟨w.heap.size,0,none⟩=some (.bool sg)/\w'.cell? ⟨w.heap.size,3,none⟩=some (.pointer (some ⟨b,0,none⟩)))/\w'.cell? ⟨b,0,none⟩=some (.slice xa xl xc)/\w'.cell? ⟨b,1,none⟩=some (.slice ya yl yc)) (go_keep) (((with_reducible refine(HF.out _ (HW0.out.drew)).mono ?_);rintro e W1 hF;have hQ:=HR.out _ _ _ hF;obtain⟨v,rfl,hv,hb⟩:=hQ;(obtain⟨_,_,_,_⟩:=boxa w hb);have hb3:=jP hb0 hb;have k1:=(hb3.cell (p:=⟨b,0,none⟩) (World.block_lt_of_cell? W0 _ hx)).trans hx;have k2:=(hb3.cell (p:=⟨b,1,none⟩) (World.block_lt_of_cell? W0 _ hy)).trans hy;have hv':=hv;obtain⟨sg9,a9,b9,p9,rfl⟩:=hv'.form;(obtain⟨z0,z1,z2,z3,zf0,zf1,zf2,zf3⟩:=HZ.out.zed hb3)))
  have hz:=HZ.out.below hb3 (le_refl _);have hfin:=uF.stored (a0:=.bool sg9) (a1:=u a9) (a2:=u b9) (a3:=.pointer p9) hz hv (cf HW0.out hb3) (by omega);have HFin:=hid hfin;clear hfin hb hb0 hb3 hz f0 f1 f2 f3 hv hv' hF;go_wp2_with fail;refine bodyPost_ret (v:=.agg #[.bool sg9,u a9,u b9,.pointer p9]) (by simp [results,Tryz.results131,go_sem,z0,z1,z2,z3]) rfl ?_;exact HFin.out
theorem Siz.inv {r:Rat}{k:Nat}(h:Siz r k) (h0:r.num≠0):Siz r⁻¹ k:=by
 obtain⟨e1,e2⟩:=YI h0;unfold Siz at *;rw[e1,e2,zE];exact⟨h.2,h.1⟩
theorem Zz (v1 v2:Value) (r s:Rat) (w:World) (h1:IsQ w v1 r) (h2:IsQ w v2 s) (h0:s.num=0) :
 Calls Tryz.prog 87 #[v1,v2] w (fun e w'=>e=.returned (.tuple #[lo false 0 0,.int .i64 10])/\Below w.heap.size w w'):=by
 have HS:=hid (fun W (hW:Below w.heap.size w W)=>caw v2 s W (h2.below hW (le_refl _)));have hs:zl s=0:=by unfold zl;rw[if_pos h0]
 rw[hs] at HS;obtain⟨neg1,a1,b1,p1,rfl⟩:=h1.form;obtain⟨neg2,a2,b2,p2,rfl⟩:=h2.form;clear h1 h2 hs h0
 go_enter Tryz.func87,Tryz.ntmps87
 go_wp2_with fail;obtain⟨W0,hW0,hb0,⟨f0,f1,f2,f3⟩,⟨g0,g1,g2,g3⟩,hz⟩:=UF w (.bool neg1) (u a1) (u b1) (.pointer p1) (.bool neg2) (u a2) (u b2) (.pointer p2);rw[← hW0];clear hW0;have HZ:=hid hz;have HW0:=hid hb0;have hb0:=Below.refl W0.heap.size W0;clear hz;refine(HS.out _ (cf HW0.out hb0)).mono ?_;rintro e W1 ⟨rfl,hb⟩
 (obtain⟨_,_,_,_,_,_,_,_⟩:=jw w hb)
 have HA:=hid (cf hb0 hb);clear hb0 hb f0 f1 f2 f3 g0 g1 g2 g3
 (obtain⟨z0,z1,z2,z3,zf0,zf1,zf2,zf3⟩:=HZ.out.zed HA.out)
 go_wp2_with fail;refine bodyPost_ret (v:=.tuple #[lo false 0 0,.int .i64 10]) (by simp [results,Tryz.results87,go_sem,z0,z1,z2,z3]) rfl ?_;exact⟨rfl,yQ HW0.out HA.out (by omega) _ _ _ _⟩
def OverQ (w:World) (r:Rat) (e:Ending) (w':World):Prop:=∃ v,e=.returned (.tuple #[v,.int .i64 0])/\IsQ w' v r/\Below w.heap.size w w'
theorem over_q (v1 v2:Value) (r s:Rat) (k:Nat) (w:World) (h1:IsQ w v1 r) (h2:IsQ w v2 s) (h0:s.num≠0) (z1:Siz r k) (z2:Siz s k) (hk:(k:Int)<=1073741824) (hG:Gr w) :
 Calls Tryz.prog 87 #[v1,v2] w (OverQ w (r/s)):=by
 have HS:=hid (fun W (hW:Below w.heap.size w W)=>caw v2 s W (h2.below hW (le_refl _)));have hs:((zl s:Int) == 0)=false:=by unfold zl;rw[if_neg h0];split<;>rfl
 have HR:=hid (fun W (hW:Below w.heap.size w W)=>recip_q v2 s W (h2.below hW (le_refl _)) h0);have HT:=hid (fun v W (hv:IsQ W v s⁻¹) (hW:Below w.heap.size w W)=>ceB v1 v r s⁻¹ k W (h1.below hW (le_refl _)) hv z1 (z2.inv h0) hk (hG.below hW hG.size));rw[← Rat.div_def] at HT;obtain⟨neg1,a1,b1,p1,rfl⟩:=h1.form;obtain⟨neg2,a2,b2,p2,rfl⟩:=h2.form;clear h1 h2 h0 z1 z2 hk hG;generalize r/s=t at *;generalize s⁻¹=s' at *;generalize zl s=sv at *
 go_enter Tryz.func87,Tryz.ntmps87
 go_wp2_with fail;obtain⟨W0,hW0,hb0,⟨f0,f1,f2,f3⟩,⟨g0,g1,g2,g3⟩,hz⟩:=UF w (.bool neg1) (u a1) (u b1) (.pointer p1) (.bool neg2) (u a2) (u b2) (.pointer p2);rw[← hW0];clear hW0;have HZ:=hid hz;have HW0:=hid hb0;have hb0:=Below.refl W0.heap.size W0;clear hz;refine(HS.out _ (cf HW0.out hb0)).mono ?_;rintro e W1 ⟨rfl,hb⟩
 (obtain⟨_,_,_,_,_,_,_,_⟩:=jw w hb)
 have HA:=hid (cf hb0 hb);clear hb0 hb f0 f1 f2 f3 g0 g1 g2 g3;have n1:¬ w.heap.size=w.heap.size+1+1:=by omega
 have n2:¬ w.heap.size+1+1=w.heap.size:=by omega
 go_wp2_with fail
 go_region_held3 (fun w'=>(w'.cell? ⟨w.heap.size,0,none⟩=some (.bool neg1)/\w'.cell? ⟨w.heap.size,1,none⟩=some (u a1)/\w'.cell? ⟨w.heap.size,2,none⟩=some (u b1)/\w'.cell? ⟨w.heap.size,3,none⟩=some (.pointer p1))/\(w'.cell? ⟨w.heap.size+1,0,none⟩=some (.bool neg2)/\w'.cell? ⟨w.heap.size+1,1,none⟩=some (u a2)/\w'.cell? ⟨w.heap.size+1,2,none⟩=some (u b2)/\w'.cell? ⟨w.heap.size+1,3,none⟩=some (.pointer p2))) (go_keep) (first|((with_reducible refine(HR.out _ ((cf HW0.out HA.out).drew)).mono ?_);rintro e W2 ⟨vn,rfl,hvn,hb⟩;(obtain⟨_,_,_,_,_,_,_,_⟩:=jw w hb);obtain⟨_,_,_,_,rfl⟩:=hvn.form)|((with_reducible refine(HT.out _ _ hvn (cf HW0.out (jP HA.out hb))).mono ?_);rintro e W9 ⟨v,rfl,hv,hb'⟩;(obtain⟨_,_,_,_,_,_,_,_⟩:=jw w hb');have hv':=hv;obtain⟨sg9,a9,b9,p9,rfl⟩:=hv'.form;have hb3:=cf (jP HA.out hb) hb';(obtain⟨z0,z1,z2,z3,zf0,zf1,zf2,zf3⟩:=HZ.out.zed hb3)))
 have hz:=HZ.out.below hb3 (le_refl _);have hfin:=uF.stored (a0:=.bool sg9) (a1:=u a9) (a2:=u b9) (a3:=.pointer p9) hz hv (cf HW0.out hb3) (by omega);have HFin:=hid hfin;clear hfin hv hv' hvn hb hb' hb3 hz;go_wp2_with fail;refine bodyPost_ret (v:=.tuple #[.agg #[.bool sg9,u a9,u b9,.pointer p9],.int .i64 0]) (by simp [results,Tryz.results87,go_sem,z0,z1,z2,z3]) rfl ?_;obtain⟨v,hv,hq,hbb⟩:=HFin.out;injection hv with hv
 subst hv;exact⟨_,rfl,hq,hbb⟩
theorem int_q (i:Int) (h1:-9223372036854775808<=i) (h2:i<=9223372036854775807) (w:World) :
 Calls Tryz.prog 59 #[.int .i64 i] w (uF w (i:Rat)):=by
 have hB:i.natAbs<B:=by unfold B;omega
 have hl:uQ 1 1=0:=by rfl
 have hq:∀ W,IsQ W (lo (decide (i<0)&&!decide (i.natAbs=0)) i.natAbs (uQ 1 1)) (i:Rat):=by
  intro W;rw[hl];unfold IsQ;rw[num_intCast,Rat.den_intCast];have:(decide (i<0)&&!decide (i.natAbs=0))=decide (i<0):=by
   rw[Bool.eq_iff_iff];simp;omega
  rw[this];exact Num.low 0 rfl rfl hB (by decide)
 have HQ:=hid hq;have HS:=hid (fun W=>yP (decide (i<0)) i.natAbs 1 (by decide) W);by_cases hi:i<0
 ·have hw:IntKind.u64.wrap (-(IntKind.u64.wrap i))=(i.natAbs:Int):=by
   rw[wrap_u64,wrap_u64];unfold B at hB;omega
  have hw2:IntKind.u64.wrap (-i)=(i.natAbs:Int):=by
   rw[wrap_u64];unfold B at hB;omega
  simp only[hi,decide_true] at HS HQ;clear hq hl hB;have HHB:=hid h1;generalize (i:Rat)=t at *;generalize (true&&!decide (i.natAbs=0))=sg at *
  go_enter Tryz.func59,Tryz.ntmps59
  go_wp2_with fail;obtain⟨W0,hW0,hb0,hz,hs⟩:=boxz w;rw[← hW0];clear hW0;have HZ:=hid hz;have HW0:=hid hb0;have hb0:=Below.refl W0.heap.size W0;clear hz;clear hs;generalize uQ 1 1=l2 at *;generalize hn:i.natAbs=n at *;refine(HS.out _).mono ?_;rintro e W1 ⟨rfl,hb⟩;have hb3:=cf hb0 hb;have hz:=HZ.out.below hb3 (le_refl _);have hfin:=uF.stored (a0:=.bool sg) (a1:=u n) (a2:=u l2) (a3:=.pointer none) hz (HQ.out _) (cf HW0.out hb3) (le_refl _);have HFin:=hid hfin
  (obtain⟨z0,z1,z2,z3,zf0,zf1,zf2,zf3⟩:=HZ.out.zed hb3)
  clear hfin hb hb0 hb3 hz hn;go_wp2_with fail;refine bodyPost_ret (v:=lo sg n l2) (by simp [results,Tryz.results59,go_sem,z0,z1,z2,z3]) rfl ?_;exact HFin.out
 ·have hw:IntKind.u64.wrap i=(i.natAbs:Int):=by
   rw[wrap_u64];unfold B at hB;omega
  simp only[hi,decide_false] at HS HQ;clear hq hl hB;have HHB:=hid h1;generalize (i:Rat)=t at *;generalize (false&&!decide (i.natAbs=0))=sg at *
  go_enter Tryz.func59,Tryz.ntmps59
  go_wp2_with fail;obtain⟨W0,hW0,hb0,hz,hs⟩:=boxz w;rw[← hW0];clear hW0;have HZ:=hid hz;have HW0:=hid hb0;have hb0:=Below.refl W0.heap.size W0;clear hz;clear hs;generalize uQ 1 1=l2 at *;generalize hn:i.natAbs=n at *;refine(HS.out _).mono ?_;rintro e W1 ⟨rfl,hb⟩;have hb3:=cf hb0 hb;have hz:=HZ.out.below hb3 (le_refl _);have hfin:=uF.stored (a0:=.bool sg) (a1:=u n) (a2:=u l2) (a3:=.pointer none) hz (HQ.out _) (cf HW0.out hb3) (le_refl _);have HFin:=hid hfin
  (obtain⟨z0,z1,z2,z3,zf0,zf1,zf2,zf3⟩:=HZ.out.zed hb3)
  clear hfin hb hb0 hb3 hz hn;go_wp2_with fail;refine bodyPost_ret (v:=lo sg n l2) (by simp [results,Tryz.results59,go_sem,z0,z1,z2,z3]) rfl ?_;exact HFin.out
theorem yT (i:Int) (h1:-9223372036854775808<=i) (h2:i<=9223372036854775807):Siz (i:Rat) 1:=by
 unfold Siz;rw[num_intCast,Rat.den_intCast,Nat.pow_one];exact⟨by unfold B;omega,by decide⟩
def OfPost (w:World) (i j:Int) (e:Ending) (w':World):Prop :=
 (j=0/\e=.returned (.tuple #[lo false 0 0,.int .i64 10])/\Below w.heap.size w w')\/(j≠0/\OverQ w ((i:Rat)/(j:Rat)) e w')
theorem of_q (i j:Int) (h1:-9223372036854775808<=i) (h2:i<=9223372036854775807) (h3:-9223372036854775808<=j) (h4:j<=9223372036854775807) (w:World) (hG:Gr w) :
 Calls Tryz.prog 52 #[.int .i64 i,.int .i64 j] w (OfPost w i j):=by
 have HI:=hid (fun W=>int_q i h1 h2 W);have HJ:=hid (fun W=>int_q j h3 h4 W);have HO:=hid (fun v1 v2 W (hv1:IsQ W v1 (i:Rat)) (hv2:IsQ W v2 (j:Rat)) (hW:Below w.heap.size w W)=>show Calls Tryz.prog 87 #[v1,v2] W (OfPost W i j) by
  by_cases hj:j=0
  ·exact(Zz v1 v2 _ _ W hv1 hv2 (by rw[num_intCast];exact hj)).mono fun _ _ h=>.inl ⟨hj,h.1,h.2⟩
  ·exact(over_q v1 v2 _ _ 1 W hv1 hv2 (by rw[num_intCast];exact hj) (yT i h1 h2) (yT j h3 h4) (by decide) (hG.below hW hG.size)).mono fun _ _ h=>.inr ⟨hj,h⟩)
 clear hG h1 h2 h3 h4
 go_enter Tryz.func52,Tryz.ntmps52
 go_wp2_with fail;obtain⟨W0,hW0,hb0,hz,hs⟩:=boxz w;rw[← hW0];clear hW0;have HZ:=hid hz;have HW0:=hid hb0;have hb0:=Below.refl W0.heap.size W0;clear hz;clear hs;refine(HI.out _).mono ?_;rintro e W1 ⟨v1,rfl,hv1,hb⟩;have HV1:=hid hv1;have HA:=hid (cf hb0 hb);obtain⟨_,_,_,_,rfl⟩:=hv1.form;clear hb hb0 hv1;go_wp2_with fail;refine(HJ.out _).mono ?_;rintro e W2 ⟨v2,rfl,hv2,hb⟩;have HV1':=hid (HV1.out.below hb (le_refl _));have HV2:=hid hv2;have HA2:=hid (cf HA.out hb);obtain⟨_,_,_,_,rfl⟩:=hv2.form;clear hb hv2;go_wp2_with fail;refine(HO.out _ _ _ HV1'.out HV2.out (cf HW0.out HA2.out)).mono ?_;rintro e W3 (⟨hj,rfl,hb⟩|⟨hj,v,rfl,hv,hb⟩)
 ·have hb3:=cf HA2.out hb;have HB3:=hid hb3;have HHJ:=hid hj
  (obtain⟨z0,z1,z2,z3,zf0,zf1,zf2,zf3⟩:=HZ.out.zed hb3)
  clear hb hb3 hj;go_wp2_with fail;refine bodyPost_ret (v:=.tuple #[lo false 0 0,.int .i64 10]) (by simp [results,Tryz.results52,go_sem,z0,z1,z2,z3]) rfl ?_;exact .inl ⟨HHJ.out,rfl,yQ HW0.out HB3.out (le_refl _) _ _ _ _⟩
 ·have hb3:=cf HA2.out hb;have hv':=hv;obtain⟨sg9,a9,b9,p9,rfl⟩:=hv'.form;have hz:=HZ.out.below hb3 (le_refl _);have hfin:=uF.stored (a0:=.bool sg9) (a1:=u a9) (a2:=u b9) (a3:=.pointer p9) hz hv (cf HW0.out hb3) (le_refl _);have HFin:=hid hfin;have HHJ:=hid hj
  (obtain⟨z0,z1,z2,z3,zf0,zf1,zf2,zf3⟩:=HZ.out.zed hb3)
  clear hfin hv hv' hb hb3 hz hj;go_wp2_with fail;refine bodyPost_ret (v:=.tuple #[.agg #[.bool sg9,u a9,u b9,.pointer p9],.int .i64 0]) (by simp [results,Tryz.results52,go_sem,z0,z1,z2,z3]) rfl ?_;obtain⟨v,hv,hq,hbb⟩:=HFin.out;injection hv with hv
  subst hv;exact .inr ⟨HHJ.out,_,rfl,hq,hbb⟩
theorem uF.alloc {w W:World}{r:Rat}{e:Ending}(h:uF w r e W) (o:Obj):uF w r e (W.alloc o):=by
 obtain⟨v,he,hq,hb⟩:=h;exact⟨v,he,hq.below (ja W o) (le_refl _),hb.trans ((ja W o).mono hb.size)⟩
theorem Siz.le {r:Rat}{k j:Nat}(h:Siz r k) (hj:k<=j):Siz r j :=
 ⟨lt_of_lt_of_le h.1 (pow_le_pow_right jk hj),lt_of_lt_of_le h.2 (pow_le_pow_right jk hj)⟩
theorem bapp (a b:List UInt8):((⟨a.toArray⟩:ByteArray)++⟨b.toArray⟩)=⟨(a++b).toArray⟩:=by
 apply ByteArray.ext;rw[ByteArray.data_append];simp
theorem cck (c:UInt8) (b:List UInt8):((⟨#[c]⟩:ByteArray)++⟨b.toArray⟩)=⟨(c::b).toArray⟩:=bapp [c] b
theorem ccr (a:List UInt8) (c:UInt8):((⟨a.toArray⟩:ByteArray)++⟨#[c]⟩)=⟨(a++[c]).toArray⟩:=bapp a [c]
theorem ZS {n k:Nat}(h:n<B^k):(cO n).length<=20*k+1:=by
 unfold cO;split
 ·simp
 ·rw[List.length_reverse,List.length_map];have:=Ji h rfl;omega
theorem cg.not_one {w:World}{v:Value}{n:Nat}(h:cg w v n) (h0:0<n) (h1:n≠1) :
 (∃ b o c,v=.slice (some ⟨b,o,none⟩) 1 c/\w.cell? ⟨b,o,none⟩=some (u n))\/(∃ ao l c,v=.slice ao l c/\l≠1):=by
 rcases lt_or_ge n B with hB|hB
 ·obtain⟨b,o,c,rfl,hc⟩:=h.limb h0 hB;exact .inl ⟨b,o,c,rfl,hc⟩
 ·obtain⟨ao,l,c,rfl,_,_,hl⟩:=h.form;exact .inr ⟨ao,l,c,rfl,by have:=hl.2 hB;omega⟩
theorem cfl (v:Value) (N k:Nat) (w:World) (a1 b1:Nat) (p1:Option Addr) (hv:v=.agg #[.bool false,u a1,u b1,.pointer p1])
 (HP:Hid (∀ W,Below w.heap.size w W->Calls Tryz.prog 35 #[v] W (CU W N 1))) (HT1:Hid (∀ x W,cg W x N->Calls Tryz.prog 36 #[x] W (uq W (cO N))))
 (HT2:Hid (∀ x W,cg W x 1->Calls Tryz.prog 36 #[x] W (uq W (cO 1)))) (hl:(cO N).length<=21474836481) (hl2:(cO 1).length<=21474836481) :
 Calls Tryz.prog 14 #[v] w (uq w (cO N)):=by
 subst hv;clear hl hl2;generalize cO N=TN at *
 go_enter Tryz.func14,Tryz.ntmps14
 go_wp2_with fail;obtain⟨W0,hW0,hb0,⟨f0,f1,f2,f3⟩⟩:=box1 w (.bool false) (u a1) (u b1) (.pointer p1);rw[← hW0];clear hW0;refine(HP.out _ hb0).mono ?_;rintro e W1 ⟨x,y,rfl,hx,hy,hb⟩
 (have hh:=Cu (b:=w.heap.size) hb f0 f1 f2 f3;clear f0 f1 f2 f3;obtain⟨f0,f1,f2,f3⟩:=hh)
 obtain⟨ya,yo,yc,rfl,hyc⟩:=hy.limb (by decide) (by decide);have HA:=hid (cf hb0 hb);have HX:=hid hx;have HY:=hid hy;obtain⟨xa,xl,xc,rfl,_⟩:=hx.form;clear hb hb0 hx hy HP;go_wp2_with fail;refine(HT1.out _ _ HX.out).mono ?_;rintro e W2 ⟨rfl,hb⟩
 (have hh:=Cu (b:=w.heap.size) hb f0 f1 f2 f3;clear f0 f1 f2 f3;obtain⟨f0,f1,f2,f3⟩:=hh)
 have hyc2:W2.cell? ⟨ya,yo,none⟩=some (.int .u64 1):=(hb.cell (p:=⟨ya,yo,none⟩) (World.block_lt_of_cell? W1 _ hyc)).trans hyc;have HA2:=hid (cf HA.out hb);have HY2:=hid (HY.out.below hb (le_refl _));clear hb HX HT1 hyc;go_wp2_with fail
 go_ret
 refine⟨?_,HA2.out⟩;rfl
theorem cfI (v:Value) (N k:Nat) (D:Nat) (hD0:0<D) (hD1:D≠1) (w:World) (a1 b1:Nat) (p1:Option Addr) (hv:v=.agg #[.bool false,u a1,u b1,.pointer p1])
 (HP:Hid (∀ W,Below w.heap.size w W->Calls Tryz.prog 35 #[v] W (CU W N D))) (HT1:Hid (∀ x W,cg W x N->Calls Tryz.prog 36 #[x] W (uq W (cO N))))
 (HT2:Hid (∀ x W,cg W x D->Calls Tryz.prog 36 #[x] W (uq W (cO D)))) (hl:(cO N).length<=21474836481) (hl2:(cO D).length<=21474836481) :
 Calls Tryz.prog 14 #[v] w (uq w ((cO N++47::cO D))):=by
 subst hv;have l2:¬ 9223372036854775807<(cO N).length+1:=by omega
 have l3:¬ 9223372036854775807<(cO N).length+1+(cO D).length:=by omega
 clear hl hl2;generalize cO N=TN at *;generalize cO D=TD at *
 go_enter Tryz.func14,Tryz.ntmps14
 go_wp2_with fail;obtain⟨W0,hW0,hb0,⟨f0,f1,f2,f3⟩⟩:=box1 w (.bool false) (u a1) (u b1) (.pointer p1);rw[← hW0];clear hW0;refine(HP.out _ hb0).mono ?_;rintro e W1 ⟨x,y,rfl,hx,hy,hb⟩
 (have hh:=Cu (b:=w.heap.size) hb f0 f1 f2 f3;clear f0 f1 f2 f3;obtain⟨f0,f1,f2,f3⟩:=hh)
 rcases hy.not_one hD0 hD1 with⟨ya,yo,yc,rfl,hyc⟩|⟨ao,yl,yc,rfl,hy1⟩
 ·have HA:=hid (cf hb0 hb);have HX:=hid hx;have HY:=hid hy;obtain⟨xa,xl,xc,rfl,_⟩:=hx.form;have hD:(((D:Nat):Int) == 1)=false:=by rw[beq_eq_false_iff_ne];omega
  clear hb hb0 hx hy HP hD0 hD1;go_wp2_with fail;refine(HT1.out _ _ HX.out).mono ?_;rintro e W2 ⟨rfl,hb⟩
  (have hh:=Cu (b:=w.heap.size) hb f0 f1 f2 f3;clear f0 f1 f2 f3;obtain⟨f0,f1,f2,f3⟩:=hh)
  have hyc2:W2.cell? ⟨ya,yo,none⟩=some (u D):=(hb.cell (p:=⟨ya,yo,none⟩) (World.block_lt_of_cell? W1 _ hyc)).trans hyc;have HA2:=hid (cf HA.out hb);have HY2:=hid (HY.out.below hb (le_refl _));clear hb HX HT1 hyc;go_wp2_with fail;refine(HT2.out _ _ HY2.out).mono ?_;rintro e W3 ⟨rfl,hb⟩;have HA3:=hid (cf HA2.out hb);clear hb HT2;go_wp2_with fail
  go_ret
  refine⟨?_,HA3.out⟩;simp [bapp,cck,ccr]
 ·have HA:=hid (cf hb0 hb);have HX:=hid hx;have HY:=hid hy;obtain⟨xa,xl,xc,rfl,_⟩:=hx.form;have hyl:(((yl:Nat):Int) == 1)=false:=by rw[beq_eq_false_iff_ne];omega
  clear hb hb0 hx hy HP hD0 hD1 hy1;go_wp2_with fail;refine(HT1.out _ _ HX.out).mono ?_;rintro e W2 ⟨rfl,hb⟩
  (have hh:=Cu (b:=w.heap.size) hb f0 f1 f2 f3;clear f0 f1 f2 f3;obtain⟨f0,f1,f2,f3⟩:=hh)
  have HA2:=hid (cf HA.out hb);have HY2:=hid (HY.out.below hb (le_refl _));clear hb HX HT1;go_wp2_with fail;refine(HT2.out _ _ HY2.out).mono ?_;rintro e W3 ⟨rfl,hb⟩;have HA3:=hid (cf HA2.out hb);clear hb HT2;go_wp2_with fail
  go_ret
  refine⟨?_,HA3.out⟩;simp [bapp,cck,ccr]
theorem cfs (v:Value) (N k:Nat) (w:World) (a1 b1:Nat) (p1:Option Addr) (hv:v=.agg #[.bool true,u a1,u b1,.pointer p1])
 (HP:Hid (∀ W,Below w.heap.size w W->Calls Tryz.prog 35 #[v] W (CU W N 1))) (HT1:Hid (∀ x W,cg W x N->Calls Tryz.prog 36 #[x] W (uq W (cO N))))
 (HT2:Hid (∀ x W,cg W x 1->Calls Tryz.prog 36 #[x] W (uq W (cO 1)))) (hl:(cO N).length<=21474836481) (hl2:(cO 1).length<=21474836481) :
 Calls Tryz.prog 14 #[v] w (uq w (45::cO N)):=by
 subst hv;have l1:¬ 9223372036854775807<1+(cO N).length:=by omega
 clear hl hl2;generalize cO N=TN at *
 go_enter Tryz.func14,Tryz.ntmps14
 go_wp2_with fail;obtain⟨W0,hW0,hb0,⟨f0,f1,f2,f3⟩⟩:=box1 w (.bool true) (u a1) (u b1) (.pointer p1);rw[← hW0];clear hW0;refine(HP.out _ hb0).mono ?_;rintro e W1 ⟨x,y,rfl,hx,hy,hb⟩
 (have hh:=Cu (b:=w.heap.size) hb f0 f1 f2 f3;clear f0 f1 f2 f3;obtain⟨f0,f1,f2,f3⟩:=hh)
 obtain⟨ya,yo,yc,rfl,hyc⟩:=hy.limb (by decide) (by decide);have HA:=hid (cf hb0 hb);have HX:=hid hx;have HY:=hid hy;obtain⟨xa,xl,xc,rfl,_⟩:=hx.form;clear hb hb0 hx hy HP;go_wp2_with fail;refine(HT1.out _ _ HX.out).mono ?_;rintro e W2 ⟨rfl,hb⟩
 (have hh:=Cu (b:=w.heap.size) hb f0 f1 f2 f3;clear f0 f1 f2 f3;obtain⟨f0,f1,f2,f3⟩:=hh)
 have hyc2:W2.cell? ⟨ya,yo,none⟩=some (.int .u64 1):=(hb.cell (p:=⟨ya,yo,none⟩) (World.block_lt_of_cell? W1 _ hyc)).trans hyc;have HA2:=hid (cf HA.out hb);have HY2:=hid (HY.out.below hb (le_refl _));clear hb HX HT1 hyc;go_wp2_with fail
 go_ret
 refine⟨?_,HA2.out⟩;simp [bapp,cck,ccr]
theorem cfM (v:Value) (N k:Nat) (D:Nat) (hD0:0<D) (hD1:D≠1) (w:World) (a1 b1:Nat) (p1:Option Addr) (hv:v=.agg #[.bool true,u a1,u b1,.pointer p1])
 (HP:Hid (∀ W,Below w.heap.size w W->Calls Tryz.prog 35 #[v] W (CU W N D))) (HT1:Hid (∀ x W,cg W x N->Calls Tryz.prog 36 #[x] W (uq W (cO N))))
 (HT2:Hid (∀ x W,cg W x D->Calls Tryz.prog 36 #[x] W (uq W (cO D)))) (hl:(cO N).length<=21474836481) (hl2:(cO D).length<=21474836481) :
 Calls Tryz.prog 14 #[v] w (uq w (45::(cO N++47::cO D))):=by
 subst hv;have l1:¬ 9223372036854775807<1+(cO N).length:=by omega
 have l2:¬ 9223372036854775807<1+(cO N).length+1:=by omega
 have l3:¬ 9223372036854775807<1+(cO N).length+1+(cO D).length:=by omega
 have l4:¬ 9223372036854775807<(cO N).length+1+1:=by omega
 have l5:¬ 9223372036854775807<(cO N).length+1+1+(cO D).length:=by omega
 clear hl hl2;generalize cO N=TN at *;generalize cO D=TD at *
 go_enter Tryz.func14,Tryz.ntmps14
 go_wp2_with fail;obtain⟨W0,hW0,hb0,⟨f0,f1,f2,f3⟩⟩:=box1 w (.bool true) (u a1) (u b1) (.pointer p1);rw[← hW0];clear hW0;refine(HP.out _ hb0).mono ?_;rintro e W1 ⟨x,y,rfl,hx,hy,hb⟩
 (have hh:=Cu (b:=w.heap.size) hb f0 f1 f2 f3;clear f0 f1 f2 f3;obtain⟨f0,f1,f2,f3⟩:=hh)
 rcases hy.not_one hD0 hD1 with⟨ya,yo,yc,rfl,hyc⟩|⟨ao,yl,yc,rfl,hy1⟩
 ·have HA:=hid (cf hb0 hb);have HX:=hid hx;have HY:=hid hy;obtain⟨xa,xl,xc,rfl,_⟩:=hx.form;have hD:(((D:Nat):Int) == 1)=false:=by rw[beq_eq_false_iff_ne];omega
  clear hb hb0 hx hy HP hD0 hD1;go_wp2_with fail;refine(HT1.out _ _ HX.out).mono ?_;rintro e W2 ⟨rfl,hb⟩
  (have hh:=Cu (b:=w.heap.size) hb f0 f1 f2 f3;clear f0 f1 f2 f3;obtain⟨f0,f1,f2,f3⟩:=hh)
  have hyc2:W2.cell? ⟨ya,yo,none⟩=some (u D):=(hb.cell (p:=⟨ya,yo,none⟩) (World.block_lt_of_cell? W1 _ hyc)).trans hyc;have HA2:=hid (cf HA.out hb);have HY2:=hid (HY.out.below hb (le_refl _));clear hb HX HT1 hyc;go_wp2_with fail;refine(HT2.out _ _ HY2.out).mono ?_;rintro e W3 ⟨rfl,hb⟩;have HA3:=hid (cf HA2.out hb);clear hb HT2;go_wp2_with fail
  go_ret
  refine⟨?_,HA3.out⟩;simp [bapp,cck,ccr]
 ·have HA:=hid (cf hb0 hb);have HX:=hid hx;have HY:=hid hy;obtain⟨xa,xl,xc,rfl,_⟩:=hx.form;have hyl:(((yl:Nat):Int) == 1)=false:=by rw[beq_eq_false_iff_ne];omega
  clear hb hb0 hx hy HP hD0 hD1 hy1;go_wp2_with fail;refine(HT1.out _ _ HX.out).mono ?_;rintro e W2 ⟨rfl,hb⟩
  (have hh:=Cu (b:=w.heap.size) hb f0 f1 f2 f3;clear f0 f1 f2 f3;obtain⟨f0,f1,f2,f3⟩:=hh)
  have HA2:=hid (cf HA.out hb);have HY2:=hid (HY.out.below hb (le_refl _));clear hb HX HT1;go_wp2_with fail;refine(HT2.out _ _ HY2.out).mono ?_;rintro e W3 ⟨rfl,hb⟩;have HA3:=hid (cf HA2.out hb);clear hb HT2;go_wp2_with fail
  go_ret
  refine⟨?_,HA3.out⟩;simp [bapp,cck,ccr]
theorem text_q (v:Value) (r:Rat) (k:Nat) (w:World) (h:IsQ w v r) (z:Siz r k) (hk:(k:Int)<=1073741824) :
 Calls Tryz.prog 14 #[v] w (uq w (Gd r)):=by
 have HP:=hid (fun W (hW:Below w.heap.size w W)=>yH v (decide (r.num<0)) r.num.natAbs r.den W (Num.below h hW (le_refl _)));have HT1:=hid (fun x W (hx:cg W x r.num.natAbs)=>cbE x r.num.natAbs k W hx z.1 hk);have HT2:=hid (fun x W (hx:cg W x r.den)=>cbE x r.den k W hx z.2 hk);have hq:Gd r=(if r.num<0 then [45] else [])++cO r.num.natAbs++(if r.den=1 then [] else 47::cO r.den):=rfl;have hl1:=ZS z.1;have hl2:=ZS z.2;have hl1:(cO r.num.natAbs).length<=21474836481:=by omega
 have hl2:(cO r.den).length<=21474836481:=by omega
 obtain⟨a1,b1,p1,hv,_⟩:=Num.form h;have hd0:=r.den_pos;by_cases hd:r.den=1
 ·by_cases hn:r.num<0
  ·rw[if_pos hd,if_pos hn,append_nil] at hq;rw[hd] at HP HT2 hl2;rw[hq];exact cfs v _ k w a1 b1 p1 (by rw[hv,decide_eq_true hn]) HP HT1 HT2 hl1 hl2
  ·rw[if_pos hd,if_neg hn,append_nil,nil_append] at hq;rw[hd] at HP HT2 hl2;rw[hq];exact cfl v _ k w a1 b1 p1 (by rw[hv,decide_eq_false hn]) HP HT1 HT2 hl1 hl2
 ·by_cases hn:r.num<0
  ·rw[if_neg hd,if_pos hn,append_assoc] at hq;rw[hq];exact cfM v _ k _ hd0 hd w a1 b1 p1 (by rw[hv,decide_eq_true hn]) HP HT1 HT2 hl1 hl2
  ·rw[if_neg hd,if_neg hn,nil_append] at hq;rw[hq];exact cfI v _ k _ hd0 hd w a1 b1 p1 (by rw[hv,decide_eq_false hn]) HP HT1 HT2 hl1 hl2
end Go.Proofs.YtokieocpdcngcaaGreatDoor
