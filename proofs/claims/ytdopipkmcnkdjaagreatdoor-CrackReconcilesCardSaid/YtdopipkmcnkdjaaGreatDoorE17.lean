/- Part 17. -/
import Derived.Test.YtdopipkmcnkdjaaGreatDoorE16
import Derived.Lib.ParseIntB
set_option linter.all false

namespace Go.Proofs.YtdopipkmcnkdjaaGreatDoor
open Go Go.RowKit Go.Proofs Lim
theorem yM (v1 v2:Value) (m n k:Nat) (w:World) (h1:cu w v1 m) (h2:cu w v2 n) (hn:0<n) (hm:m<B^k) (hk:(k:Int)<=1073741824) :
 Calls Tryz.prog 132 #[v1,v2] w (We w (m/n)):=by
 have HOv:=ca (cco v1 v2 m n k w h1 h2 hn hm hk);have H1:=ca h1;by_cases o2:n=1
 ·have HI:=ca (Wv v2 n w h2 o2);subst o2;obtain⟨xs,⟨⟨xa,xc,rfl,_⟩,_⟩,_⟩:=h1;obtain⟨ys,⟨⟨ya,yc,rfl,_⟩,_⟩,_⟩:=h2;clear hm hn hk HOv
  go_enter Tryz.func132,Tryz.ntmps132
  go_wp2_with fail;refine HI.out.mono ?_;rintro e w1 ⟨rfl,rfl⟩;go_wp2_with fail
  go_ret
  refine⟨_,rfl,?_,cw _ _⟩;rw[Nat.div_one];exact H1.out
 ·have HI:=ca (Wf v2 n w h2 o2);obtain⟨xs,⟨⟨xa,xc,rfl,_⟩,_⟩,_⟩:=h1;obtain⟨ys,⟨⟨ya,yc,rfl,_⟩,_⟩,_⟩:=h2;clear hm hn hk o2
  go_enter Tryz.func132,Tryz.ntmps132
  go_wp2_with fail;refine HI.out.mono ?_;rintro e w1 ⟨rfl,rfl⟩;go_wp2_with fail;refine HOv.out.mono ?_;rintro e w' ⟨q,r,rfl,hq,hr,hbel⟩;have HQ:=ca hq;have HB:=ca hbel;clear hq hr hbel;go_wp2_with fail
  go_ret
  exact⟨q,rfl,HQ.out,HB.out⟩
set_option maxHeartbeats 3200000 in
theorem cdP (v1 v2:Value) (neg1 neg2:Bool) (n1 d1 n2 d2 k:Nat) (w:World) (h1:Num w v1 neg1 n1 d1) (h2:Num w v2 neg2 n2 d2)
 (hn1:n1<B^k) (hd1:d1<B^k) (hn2:n2<B^k) (hd2:d2<B^k) (p1:0<d1) (p2:0<d2) (hk:(k:Int)<=1073741824) (hG:Gr w) :
 Calls Tryz.prog 94 #[v1,v2] w (yJ w (!neg1 == neg2) (n1/Nat.gcd n1 d2*(n2/Nat.gcd n2 d1)) (d1/Nat.gcd n2 d1*(d2/Nat.gcd n1 d2))):=by
 have HP1:=ca (fun W (hW:Below w.heap.size w W)=>Ey v1 neg1 n1 d1 W (h1.below hW (cb _)));have HP2:=ca (fun W (hW:Below w.heap.size w W)=>Ey v2 neg2 n2 d2 W (h2.below hW (cb _)));obtain⟨a1,b1,q1,rfl,_⟩:=h1.form;obtain⟨a2,b2,q2,rfl,_⟩:=h2.form;have HC1:=ca (fun x y W (hx:cu W x n1) (hy:cu W y d2) (hW:Below w.heap.size w W)=>Kk x y n1 d2 k W hx hy hn1 hd2 hk (hG.below hW hG.size));have HC2:=ca (fun x y W (hx:cu W x n2) (hy:cu W y d1) (hW:Below w.heap.size w W)=>Kk x y n2 d1 k W hx hy hn2 hd1 hk (hG.below hW hG.size));have hg1:0<Nat.gcd n1 d2:=Cy _ p2;have hg2:0<Nat.gcd n2 d1:=Cy _ p1;have hl1:Nat.gcd n1 d2<=d2:=WH _ p2;have hl2:Nat.gcd n2 d1<=d1:=WH _ p1;generalize Nat.gcd n1 d2=g1 at *;generalize Nat.gcd n2 d1=g2 at *;have HO1:=ca (fun x y W (hx:cu W x n1) (hy:cu W y g1)=>yM x y n1 g1 k W hx hy hg1 hn1 hk);have HO2:=ca (fun x y W (hx:cu W x n2) (hy:cu W y g2)=>yM x y n2 g2 k W hx hy hg2 hn2 hk);have HO3:=ca (fun x y W (hx:cu W x d1) (hy:cu W y g2)=>yM x y d1 g2 k W hx hy hg2 hd1 hk);have HO4:=ca (fun x y W (hx:cu W x d2) (hy:cu W y g1)=>yM x y d2 g1 k W hx hy hg1 hd2 hk);have l1:n1/g1<B^k:=jP (kX _ _) hn1;have l2:n2/g2<B^k:=jP (kX _ _) hn2;have l3:d1/g2<B^k:=jP (kX _ _) hd1;have l4:d2/g1<B^k:=jP (kX _ _) hd2;have hpos:0<d1/g2*(d2/g1):=Co (Jo hl2 hg2) (Jo hl1 hg1);generalize n1/g1=m1 at *;generalize n2/g2=m2 at *;generalize d1/g2=e1 at *;generalize d2/g1=e2 at *;have HT1:=ca (fun x y W (hx:cu W x m1) (hy:cu W y m2)=>CE x y m1 m2 k W hx hy l1 l2 hk)
 have HT2:=ca (fun x y W (hx:cu W x e1) (hy:cu W y e2)=>CE x y e1 e2 k W hx hy l3 l4 hk);have HF:=ca (fun x y W (hx:cu W x (m1*m2)) (hy:cu W y (e1*e2))=>GC (!neg1 == neg2) x y (m1*m2) (e1*e2) W hx hy hpos);clear h1 h2 hn1 hd1 hn2 hd2 hG hg1 hg2 hl1 hl2 l1 l2 l3 l4 hpos p1 p2;generalize m1*m2=NUM at *;generalize e1*e2=DEN at *
 go_enter Tryz.func94,Tryz.ntmps94
 go_wp2_with fail;obtain⟨W0,hW0,hb0,⟨f0,f1,f2,f3⟩,⟨g0,g1,g2,g3⟩,hz⟩:=box3 w (.bool neg1) (u a1) (u b1) (.pointer q1) (.bool neg2) (u a2) (u b2) (.pointer q2);rw[← hW0];clear hW0;have HZ:=ca hz;have HW0:=ca hb0;have hb0:=cw W0.heap.size W0;clear hz;refine(HP1.out _ (cq HW0.out hb0)).mono ?_;rintro e W1 ⟨x1,y1,rfl,hx1,hy1,hb⟩
 (obtain⟨_,_,_,_,_,_,_,_⟩:=yj w hb)
 obtain⟨xa1,xl1,xc1,rfl,_⟩:=hx1.form;obtain⟨ya1,yl1,yc1,rfl,_⟩:=hy1.form;have HX1:=ca hx1;have HY1:=ca hy1;have HA1:=ca (cq hb0 hb);clear hb0 hb hx1 hy1 f0 f1 f2 f3 g0 g1 g2 g3;go_wp2_with fail;refine(HP2.out _ (cq HW0.out HA1.out)).mono ?_;rintro e W2 ⟨x2,y2,rfl,hx2,hy2,hb⟩
 (obtain⟨_,_,_,_,_,_,_,_⟩:=yj w hb)
 obtain⟨xa2,xl2,xc2,rfl,_⟩:=hx2.form;obtain⟨ya2,yl2,yc2,rfl,_⟩:=hy2.form;have HX1:=ca (HX1.out.below hb (cb _));have HY1:=ca (HY1.out.below hb (cb _));have HX2:=ca hx2;have HY2:=ca hy2;have HA2:=ca (cq HA1.out hb);clear hb hx2 hy2 HA1;have HA:=HA2;clear HA2;go_wp2_with fail;refine(HC1.out _ _ _ HX1.out HY2.out (cq HW0.out HA.out)).mono ?_;rintro e W3 ⟨g,rfl,hv,hb⟩
 (obtain⟨_,_,_,_,_,_,_,_⟩:=yj w hb)
 obtain⟨_,_,_,rfl,_⟩:=hv.form;have HX1:=ca (HX1.out.below hb (cb _));have HY1:=ca (HY1.out.below hb (cb _));have HX2:=ca (HX2.out.below hb (cb _));have HY2:=ca (HY2.out.below hb (cb _));have H_g:=ca hv;have HA:=ca (cq HA.out hb);clear hb hv;go_wp2_with fail;refine(HC2.out _ _ _ HX2.out HY1.out (cq HW0.out HA.out)).mono ?_;rintro e W4 ⟨h,rfl,hv,hb⟩
 (obtain⟨_,_,_,_,_,_,_,_⟩:=yj w hb)
 obtain⟨_,_,_,rfl,_⟩:=hv.form;have HX1:=ca (HX1.out.below hb (cb _));have HY1:=ca (HY1.out.below hb (cb _));have HX2:=ca (HX2.out.below hb (cb _));have HY2:=ca (HY2.out.below hb (cb _));have H_g:=ca (H_g.out.below hb (cb _));have H_h:=ca hv;have HA:=ca (cq HA.out hb);clear hb hv;go_wp2_with fail;refine(HO1.out _ _ _ HX1.out H_g.out).mono ?_;rintro e W5 ⟨r,rfl,hv,hb⟩
 (obtain⟨_,_,_,_,_,_,_,_⟩:=yj w hb)
 obtain⟨_,_,_,rfl,_⟩:=hv.form;have HY1:=ca (HY1.out.below hb (cb _));have HX2:=ca (HX2.out.below hb (cb _));have HY2:=ca (HY2.out.below hb (cb _));have H_g:=ca (H_g.out.below hb (cb _));have H_h:=ca (H_h.out.below hb (cb _));have H_r:=ca hv;have HA:=ca (cq HA.out hb);clear hb hv;go_wp2_with fail;refine(HO2.out _ _ _ HX2.out H_h.out).mono ?_;rintro e W6 ⟨s,rfl,hv,hb⟩
 (obtain⟨_,_,_,_,_,_,_,_⟩:=yj w hb)
 obtain⟨_,_,_,rfl,_⟩:=hv.form;have HY1:=ca (HY1.out.below hb (cb _));have HY2:=ca (HY2.out.below hb (cb _));have H_g:=ca (H_g.out.below hb (cb _));have H_h:=ca (H_h.out.below hb (cb _));have H_r:=ca (H_r.out.below hb (cb _));have H_s:=ca hv;have HA:=ca (cq HA.out hb);clear hb hv;go_wp2_with fail;refine(HT1.out _ _ _ H_r.out H_s.out).mono ?_;rintro e W7 ⟨num,rfl,hv,hb⟩
 (obtain⟨_,_,_,_,_,_,_,_⟩:=yj w hb)
 obtain⟨_,_,_,rfl,_⟩:=hv.form;have HY1:=ca (HY1.out.below hb (cb _));have HY2:=ca (HY2.out.below hb (cb _));have H_g:=ca (H_g.out.below hb (cb _));have H_h:=ca (H_h.out.below hb (cb _));have H_num:=ca hv;have HA:=ca (cq HA.out hb);clear hb hv;go_wp2_with fail;refine(HO3.out _ _ _ HY1.out H_h.out).mono ?_;rintro e W8 ⟨r,rfl,hv,hb⟩
 (obtain⟨_,_,_,_,_,_,_,_⟩:=yj w hb)
 obtain⟨_,_,_,rfl,_⟩:=hv.form;have HY2:=ca (HY2.out.below hb (cb _));have H_g:=ca (H_g.out.below hb (cb _));have H_num:=ca (H_num.out.below hb (cb _));have H_r:=ca hv;have HA:=ca (cq HA.out hb);clear hb hv;go_wp2_with fail;refine(HO4.out _ _ _ HY2.out H_g.out).mono ?_;rintro e W9 ⟨s,rfl,hv,hb⟩
 (obtain⟨_,_,_,_,_,_,_,_⟩:=yj w hb)
 obtain⟨_,_,_,rfl,_⟩:=hv.form;have H_num:=ca (H_num.out.below hb (cb _));have H_r:=ca (H_r.out.below hb (cb _));have H_s:=ca hv;have HA:=ca (cq HA.out hb);clear hb hv;go_wp2_with fail;refine(HT2.out _ _ _ H_r.out H_s.out).mono ?_;rintro e W10 ⟨den,rfl,hv,hb⟩
 (obtain⟨_,_,_,_,_,_,_,_⟩:=yj w hb)
 obtain⟨_,_,_,rfl,_⟩:=hv.form;have H_num:=ca (H_num.out.below hb (cb _));have H_den:=ca hv;have HA:=ca (cq HA.out hb);clear hb hv;go_wp2_with fail;refine(HF.out _ _ _ H_num.out H_den.out).mono ?_;rintro e W11 ⟨v,rfl,hN,hb⟩
 (obtain⟨_,_,_,_,_,_,_,_⟩:=yj w hb)
 have hb3:=cq HA.out hb;obtain⟨a,b,p,rfl,_⟩:=hN.form;have hz:=HZ.out.below hb3 (cb _);have hfin:=yJ.stored (a0:=.bool ((!neg1 == neg2)&&!decide (NUM=0))) (a1:=u a) (a2:=u b) (a3:=.pointer p) hz hN (cq HW0.out hb3) (by omega);have HFin:=ca hfin
 (obtain⟨z0,z1,z2,z3,zf0,zf1,zf2,zf3⟩:=HZ.out.zed hb3)
 clear hfin hN hb hb3;generalize ((!neg1 == neg2)&&!decide (NUM=0))=sg at *;go_wp2_with fail;refine jw (v:=.agg #[.bool sg,u a,u b,.pointer p]) (by simp [results,Tryz.results94,go_sem,z0,z1,z2,z3]) rfl ?_;exact HFin.out
theorem addS_lt {a b:Bool}{x y j:Nat}(hx:x<B^j) (hy:y<B^j):(zu a x b y).2<B^(j+1):=by
 have h2:2*B^j<=B^(j+1):=by
  rw[ji,jf];exact jz _ (by decide)
 have:(zu a x b y).2<=x+y:=by
  unfold zu;split
  ·exact cb _
  ·split
   ·show x-y<=x+y;omega
   ·show y-x<=x+y;omega
 omega
set_option maxHeartbeats 3200000 in
theorem cft (v1 v2:Value) (neg1 neg2:Bool) (n1 d1 n2 d2 k:Nat) (w:World) (h1:Num w v1 neg1 n1 d1) (h2:Num w v2 neg2 n2 d2)
 (hn1:n1<B^k) (hd1:d1<B^k) (hn2:n2<B^k) (hd2:d2<B^k) (p1:0<d1) (p2:0<d2) (hk:((k+k+1:Nat):Int)<=1073741824) (hG:Gr w) :
 Calls Tryz.prog 103 #[v1,v2] w (yJ w (cdd neg1 n1 d1 neg2 n2 d2).1 (ZA neg1 n1 d1 neg2 n2 d2) (sumD neg1 n1 d1 neg2 n2 d2)):=by
 have HP1:=ca (fun W (hW:Below w.heap.size w W)=>Ey v1 neg1 n1 d1 W (h1.below hW (cb _)));have HP2:=ca (fun W (hW:Below w.heap.size w W)=>Ey v2 neg2 n2 d2 W (h2.below hW (cb _)));obtain⟨a1,b1,q1,rfl,_⟩:=h1.form;obtain⟨a2,b2,q2,rfl,_⟩:=h2.form;have hk1:(k:Int)<=1073741824:=by omega
 have hk2:((k+k:Nat):Int)<=1073741824:=by omega
 have HC1:=ca (fun x y W (hx:cu W x d1) (hy:cu W y d2) (hW:Below w.heap.size w W)=>Kk x y d1 d2 k W hx hy hd1 hd2 hk1 (hG.below hW hG.size));have hg:0<Nat.gcd d1 d2:=Cy _ p2;have hgl:Nat.gcd d1 d2<=d1:=Nat.gcd_le_left _ p1;have hdv:Nat.gcd d1 d2 ∣ d2:=yT _ _;unfold ZA sumD sumX cdd;generalize Nat.gcd d1 d2=g at *;have HO1:=ca (fun x y W (hx:cu W x d1) (hy:cu W y g)=>yM x y d1 g k W hx hy hg hd1 hk1);have HO2:=ca (fun x y W (hx:cu W x d2) (hy:cu W y g)=>yM x y d2 g k W hx hy hg hd2 hk1);have l1:d1/g<B^k:=jP (kX _ _) hd1;have l2:d2/g<B^k:=jP (kX _ _) hd2;have hr1:0<d1/g:=Jo hgl hg;generalize d1/g=r1 at *;generalize d2/g=r2 at *;have HT1:=ca (fun x y W (hx:cu W x n1) (hy:cu W y r2)=>CE x y n1 r2 k W hx hy hn1 l2 hk1);have HT2:=ca (fun x y W (hx:cu W x n2) (hy:cu W y r1)=>CE x y n2 r1 k W hx hy hn2 l1 hk1);have m1:n1*r2<B^(k+k):=CC hn1 l2;have m2:n2*r1<B^(k+k):=CC hn2 l1;generalize n1*r2=L at *;generalize n2*r1=R at *;have HAS:=ca (fun x y W (hx:cu W x L) (hy:cu W y R)=>cdK neg1 neg2 x y L R (k+k) W hx hy m1 m2 hk2);have hsum:=addS_lt (a:=neg1) (b:=neg2) m1 m2;generalize (zu neg1 L neg2 R).1=NEG at *;generalize (zu neg1 L neg2 R).2=S at *;have hgB:g<B^(k+k+1):=jP hgl (cI hd1 (jY kn (by omega)));have HC2:=ca (fun x y W (hx:cu W x S) (hy:cu W y g) (hW:Below w.heap.size w W)=>Kk x y S g (k+k+1) W hx hy hsum hgB hk (hG.below hW hG.size));have hx0:0<Nat.gcd S g:=Cy _ hg;have hxl:Nat.gcd S g<=d2:=cA (WH _ hg) (Nat.le_of_dvd p2 hdv)
 generalize Nat.gcd S g=X at *;have HO3:=ca (fun x y W (hx:cu W x S) (hy:cu W y X)=>yM x y S X (k+k+1) W hx hy hx0 hsum hk);have HO4:=ca (fun x y W (hx:cu W x d2) (hy:cu W y X)=>yM x y d2 X k W hx hy hx0 hd2 hk1);have l4:d2/X<B^k:=jP (kX _ _) hd2;have hpos:0<r1*(d2/X):=Co hr1 (Jo hxl hx0);generalize d2/X=E at *;generalize S/X=NUM at *;have HT3:=ca (fun x y W (hx:cu W x r1) (hy:cu W y E)=>CE x y r1 E k W hx hy l1 l4 hk1);have HF:=ca (fun x y W (hx:cu W x NUM) (hy:cu W y (r1*E))=>GC NEG x y NUM (r1*E) W hx hy hpos);generalize r1*E=DEN at *;clear h1 h2 hn1 hd1 hn2 hd2 hG hg hgl hdv l1 l2 hr1 m1 m2 hsum hgB hx0 hxl l4 hpos p1 p2 hk1 hk2
 go_enter Tryz.func103,Tryz.ntmps103
 go_wp2_with fail;obtain⟨W0,hW0,hb0,⟨f0,f1,f2,f3⟩,⟨g0,g1,g2,g3⟩,hz⟩:=box3 w (.bool neg1) (u a1) (u b1) (.pointer q1) (.bool neg2) (u a2) (u b2) (.pointer q2);rw[← hW0];clear hW0;have HZ:=ca hz;have HW0:=ca hb0;have hb0:=cw W0.heap.size W0;clear hz;refine(HP1.out _ (cq HW0.out hb0)).mono ?_;rintro e W1 ⟨x1,y1,rfl,hx1,hy1,hb⟩
 (obtain⟨_,_,_,_,_,_,_,_⟩:=yj w hb)
 obtain⟨xa1,xl1,xc1,rfl,_⟩:=hx1.form;obtain⟨ya1,yl1,yc1,rfl,_⟩:=hy1.form;have HX1:=ca hx1;have HY1:=ca hy1;have HA1:=ca (cq hb0 hb);clear hb0 hb hx1 hy1 f0 f1 f2 f3 g0 g1 g2 g3;go_wp2_with fail;refine(HP2.out _ (cq HW0.out HA1.out)).mono ?_;rintro e W2 ⟨x2,y2,rfl,hx2,hy2,hb⟩
 (obtain⟨_,_,_,_,_,_,_,_⟩:=yj w hb)
 obtain⟨xa2,xl2,xc2,rfl,_⟩:=hx2.form;obtain⟨ya2,yl2,yc2,rfl,_⟩:=hy2.form;have HX1:=ca (HX1.out.below hb (cb _));have HY1:=ca (HY1.out.below hb (cb _));have HX2:=ca hx2;have HY2:=ca hy2;have HA2:=ca (cq HA1.out hb);clear hb hx2 hy2 HA1;have HA:=HA2;clear HA2;go_wp2_with fail;refine(HC1.out _ _ _ HY1.out HY2.out (cq HW0.out HA.out)).mono ?_;rintro e W3 ⟨g,rfl,hv,hb⟩
 (obtain⟨_,_,_,_,_,_,_,_⟩:=yj w hb)
 obtain⟨_,_,_,rfl,_⟩:=hv.form;have HX1:=ca (HX1.out.below hb (cb _));have HY1:=ca (HY1.out.below hb (cb _));have HX2:=ca (HX2.out.below hb (cb _));have HY2:=ca (HY2.out.below hb (cb _));have H_g:=ca hv;have HA:=ca (cq HA.out hb);clear hb hv;go_wp2_with fail;refine(HO1.out _ _ _ HY1.out H_g.out).mono ?_;rintro e W4 ⟨r,rfl,hv,hb⟩
 (obtain⟨_,_,_,_,_,_,_,_⟩:=yj w hb)
 obtain⟨_,_,_,rfl,_⟩:=hv.form;have HX1:=ca (HX1.out.below hb (cb _));have HX2:=ca (HX2.out.below hb (cb _));have HY2:=ca (HY2.out.below hb (cb _));have H_g:=ca (H_g.out.below hb (cb _));have H_r:=ca hv;have HA:=ca (cq HA.out hb);clear hb hv;go_wp2_with fail;refine(HO2.out _ _ _ HY2.out H_g.out).mono ?_;rintro e W5 ⟨s,rfl,hv,hb⟩
 (obtain⟨_,_,_,_,_,_,_,_⟩:=yj w hb)
 obtain⟨_,_,_,rfl,_⟩:=hv.form;have HX1:=ca (HX1.out.below hb (cb _));have HX2:=ca (HX2.out.below hb (cb _));have HY2:=ca (HY2.out.below hb (cb _));have H_g:=ca (H_g.out.below hb (cb _));have H_r:=ca (H_r.out.below hb (cb _));have H_s:=ca hv;have HA:=ca (cq HA.out hb);clear hb hv;go_wp2_with fail
 go_region_held3 (fun w'=>(w'.cell? ⟨w.heap.size,0,none⟩=some (.bool neg1)/\w'.cell? ⟨w.heap.size,1,none⟩=some (u a1)/\w'.cell? ⟨w.heap.size,2,none⟩=some (u b1)/\w'.cell? ⟨w.heap.size,3,none⟩=some (.pointer q1))/\(w'.cell? ⟨w.heap.size+1,0,none⟩=some (.bool neg2)/\w'.cell? ⟨w.heap.size+1,1,none⟩=some (u a2)/\w'.cell? ⟨w.heap.size+1,2,none⟩=some (u b2)/\w'.cell? ⟨w.heap.size+1,3,none⟩=some (.pointer q2))) (go_keep) (first|((with_reducible refine(HT1.out _ _ _ (HX1.out.below (cw _ _).drew (cb _)) (H_s.out.below (cw _ _).drew (cb _))).mono ?_);rintro e W6 ⟨a,rfl,ha,hb⟩;(obtain⟨_,_,_,_,_,_,_,_⟩:=yj w hb);obtain⟨_,_,_,rfl,_⟩:=ha.form)|((with_reducible refine(HT2.out _ _ _ (HX2.out.below (CZ (cw _ _) hb) (cb _)) (H_r.out.below (CZ (cw _ _) hb) (cb _))).mono ?_);rintro e W7 ⟨b,rfl,hv,hb'⟩;(obtain⟨_,_,_,_,_,_,_,_⟩:=yj w hb');obtain⟨_,_,_,rfl,_⟩:=hv.form)|((with_reducible refine(HAS.out _ _ _ (ha.below hb' (cb _)) hv).mono ?_);rintro e W8 ⟨t,rfl,ht,hb''⟩;(obtain⟨_,_,_,_,_,_,_,_⟩:=yj w hb'');obtain⟨_,_,_,rfl,_⟩:=ht.form))
 have hbb:=cq (cq (CZ (cw _ _) hb) hb') hb'';have HY2:=ca (HY2.out.below hbb (cb _));have H_g:=ca (H_g.out.below hbb (cb _));have H_r:=ca (H_r.out.below hbb (cb _));have H_t:=ca ht;have HA:=ca (cq HA.out hbb);clear hb hb' hb'' hbb ha hv ht;go_wp2_with fail;refine(HC2.out _ _ _ H_t.out H_g.out (cq HW0.out HA.out)).mono ?_;rintro e W9 ⟨x,rfl,hv,hb⟩
 (obtain⟨_,_,_,_,_,_,_,_⟩:=yj w hb)
 obtain⟨_,_,_,rfl,_⟩:=hv.form;have HY2:=ca (HY2.out.below hb (cb _));have H_r:=ca (H_r.out.below hb (cb _));have H_t:=ca (H_t.out.below hb (cb _));have H_x:=ca hv;have HA:=ca (cq HA.out hb);clear hb hv;go_wp2_with fail;refine(HO3.out _ _ _ H_t.out H_x.out).mono ?_;rintro e W10 ⟨num,rfl,hv,hb⟩
 (obtain⟨_,_,_,_,_,_,_,_⟩:=yj w hb)
 obtain⟨_,_,_,rfl,_⟩:=hv.form;have HY2:=ca (HY2.out.below hb (cb _));have H_r:=ca (H_r.out.below hb (cb _));have H_x:=ca (H_x.out.below hb (cb _));have H_num:=ca hv;have HA:=ca (cq HA.out hb);clear hb hv;go_wp2_with fail;refine(HO4.out _ _ _ HY2.out H_x.out).mono ?_;rintro e W11 ⟨q,rfl,hv,hb⟩
 (obtain⟨_,_,_,_,_,_,_,_⟩:=yj w hb)
 obtain⟨_,_,_,rfl,_⟩:=hv.form;have H_r:=ca (H_r.out.below hb (cb _));have H_num:=ca (H_num.out.below hb (cb _));have H_q:=ca hv;have HA:=ca (cq HA.out hb);clear hb hv;go_wp2_with fail;refine(HT3.out _ _ _ H_r.out H_q.out).mono ?_;rintro e W12 ⟨den,rfl,hv,hb⟩
 (obtain⟨_,_,_,_,_,_,_,_⟩:=yj w hb)
 obtain⟨_,_,_,rfl,_⟩:=hv.form;have H_num:=ca (H_num.out.below hb (cb _));have H_den:=ca hv;have HA:=ca (cq HA.out hb);clear hb hv;go_wp2_with fail;refine(HF.out _ _ _ H_num.out H_den.out).mono ?_;rintro e W13 ⟨v,rfl,hN,hb⟩
 (obtain⟨_,_,_,_,_,_,_,_⟩:=yj w hb)
 have hb3:=cq HA.out hb;obtain⟨a,b,p,rfl,_⟩:=hN.form;have hz:=HZ.out.below hb3 (cb _);have hfin:=yJ.stored (a0:=.bool (NEG&&!decide (NUM=0))) (a1:=u a) (a2:=u b) (a3:=.pointer p) hz hN (cq HW0.out hb3) (by omega);have HFin:=ca hfin
 (obtain⟨z0,z1,z2,z3,zf0,zf1,zf2,zf3⟩:=HZ.out.zed hb3)
 clear hfin hN hb hb3;generalize (NEG&&!decide (NUM=0))=sg at *;go_wp2_with fail;refine jw (v:=.agg #[.bool sg,u a,u b,.pointer p]) (by simp [results,Tryz.results103,go_sem,z0,z1,z2,z3]) rfl ?_;exact HFin.out
def sgn (neg:Bool) (n:Nat):Int:=if neg then -(n:Int) else (n:Int)
theorem Gu (neg:Bool) (n:Nat):(sgn neg n).natAbs=n:=by unfold sgn;split<;>omega
theorem cbJ (neg:Bool) (n:Nat):decide (sgn neg n<0)=(neg&&!decide (n=0)):=by
 unfold sgn;cases neg
 ·simp
 ·rw[YD];simp;omega
theorem Un (i:Int):sgn (decide (i<0)) i.natAbs=i:=by
 unfold sgn;by_cases h:i<0
 ·simp only[h,decide_true,Cv];omega
 ·simp only[h,decide_false,UY,Gy];omega
theorem cph (a b:Bool) (x y:Nat):sgn (zu a x b y).1 (zu a x b y).2=sgn a x+sgn b y:=by
 unfold zu sgn;by_cases h:y<=x<;>cases a<;>cases b<;>simp [h]<;>omega
theorem rat_eq {r:Rat}{N:Int}{D:Nat}(hD:0<D) (hc:N.natAbs.Coprime D) (P:Int) (Q:Nat) (hQ:Q≠0) (hr:r=mkRat P Q) (h:P*D=N*Q):r.num=N/\r.den=D:=by
 have hq:r=⟨N,D,Nat.ne_of_gt hD,hc⟩:=by
  rw[hr,← Rat.mkRat_self ⟨N,D,Nat.ne_of_gt hD,hc⟩];exact(Rat.mkRat_eq_iff hQ (Nat.ne_of_gt hD)).2 h
 subst hq;exact⟨rfl,rfl⟩
abbrev neg? (r:Rat):Bool:=decide (r.num<0)
theorem WL (a b:Rat) :
 (a+b).num=sgn (cdd (neg? a) a.num.natAbs a.den (neg? b) b.num.natAbs b.den).1 (ZA (neg? a) a.num.natAbs a.den (neg? b) b.num.natAbs b.den)/\
  (a+b).den=sumD (neg? a) a.num.natAbs a.den (neg? b) b.num.natAbs b.den:=by
 have hg:0<Nat.gcd a.den b.den:=Cy _ b.den_pos;have haux:=Rat.add.aux a b (g:=Nat.gcd a.den b.den) rfl rfl rfl;simp only at haux;have e1:a.den/Nat.gcd a.den b.den*Nat.gcd a.den b.den=a.den:=Jx (zp _ _);have e2:b.den/Nat.gcd a.den b.den*Nat.gcd a.den b.den=b.den:=Jx (yT _ _);have hdvd:=yT a.den b.den;have hr1:0<a.den/Nat.gcd a.den b.den:=Jo (Nat.gcd_le_left _ a.den_pos) hg;have hsum:=cph (neg? a) (neg? b) (a.num.natAbs*(b.den/Nat.gcd a.den b.den)) (b.num.natAbs*(a.den/Nat.gcd a.den b.den));have hm:∀ (i:Int) (x:Nat),sgn (decide (i<0)) (i.natAbs*x)=i*x:=by
  intro i x;have:=Un i;unfold sgn at this ⊢;split
  ·rename_i h;rw[co h] at this;rw[uv,← Int.neg_mul,this]
  ·rename_i h;rw[cg h] at this;rw[uv,this]
 rw[hm,hm] at hsum;have hb:=b.den_pos;have hnz:a.den*b.den≠0:=Nat.ne_of_gt (Co a.den_pos b.den_pos);have hdef:=Rat.add_def' a b;unfold ZA sumD sumX cdd;rw[← hsum] at haux;rw[Gu] at haux;generalize hSS:zu (neg? a) (a.num.natAbs*(b.den/Nat.gcd a.den b.den)) (neg? b) (b.num.natAbs*(a.den/Nat.gcd a.den b.den))=S at *;generalize Nat.gcd a.den b.den=g at *;generalize a.den/g=r1 at *;generalize b.den/g=r2 at *;have hX0:0<Nat.gcd S.2 g:=Cy _ hg;have hXb:Nat.gcd S.2 g ∣ b.den:=Nat.dvd_trans (yT _ _) hdvd;have hXS:S.2/Nat.gcd S.2 g*Nat.gcd S.2 g=S.2:=Jx (zp _ _);have hXE:b.den/Nat.gcd S.2 g*Nat.gcd S.2 g=b.den:=Jx hXb;have hcop:Nat.Coprime (S.2/Nat.gcd S.2 g) (r1*(b.den/Nat.gcd S.2 g)):=by
  rw[← Nat.mul_div_assoc _ hXb,haux];refine cfC ?_;rw[← haux];exact hX0
 have hE0:0<b.den/Nat.gcd S.2 g:=Jo (Nat.le_of_dvd hb hXb) hX0;generalize Nat.gcd S.2 g=X at *;generalize S.2/X=N at *;generalize hE:b.den/X=E at *;refine rat_eq (Co hr1 hE0) (by rw[Gu];exact hcop) _ _ hnz hdef ?_;have hs:sgn S.1 S.2=sgn S.1 N*X:=by
  unfold sgn;rw[← hXS];split<;>rw[uv];rw[Int.neg_mul]
 rw[hs] at hsum;generalize sgn S.1 N=NN at *;generalize a.num=an at *;generalize b.num=bn at *;rw[← e1];have e2':((b.den:Nat):Int)=(r2:Int)*g:=by rw[← e2];simp
 have e3':((b.den:Nat):Int)=(E:Int)*X:=by rw[← hXE];simp
 simp only[uv];generalize ((b.den:Nat):Int)=bd at *;grind
theorem cez (a b:Rat) :
 (a*b).num=sgn (!neg? a == neg? b) (a.num.natAbs/Nat.gcd a.num.natAbs b.den*(b.num.natAbs/Nat.gcd b.num.natAbs a.den))/\
  (a*b).den=a.den/Nat.gcd b.num.natAbs a.den*(b.den/Nat.gcd a.num.natAbs b.den):=by
 have hg1:0<Nat.gcd a.num.natAbs b.den:=Cy _ b.den_pos;have hg2:0<Nat.gcd b.num.natAbs a.den:=Cy _ a.den_pos;have hc:((a.num.natAbs/Nat.gcd a.num.natAbs b.den)*(b.num.natAbs/Nat.gcd b.num.natAbs a.den)).Coprime ((a.den/Nat.gcd b.num.natAbs a.den)*(b.den/Nat.gcd a.num.natAbs b.den)):=by
  rw[Nat.coprime_mul_iff_left];refine⟨Nat.coprime_mul_iff_right.2 ⟨?_,?_⟩,Nat.coprime_mul_iff_right.2 ⟨?_,?_⟩⟩
  ·exact a.reduced.coprime_div_left (zp ..) |>.coprime_div_right (yT ..)
  ·exact cfC hg1
  ·exact cfC hg2
  ·exact b.reduced.coprime_div_left (zp ..) |>.coprime_div_right (yT ..)
 have e1:a.num.natAbs/Nat.gcd a.num.natAbs b.den*Nat.gcd a.num.natAbs b.den=a.num.natAbs:=Jx (zp _ _);have e2:b.num.natAbs/Nat.gcd b.num.natAbs a.den*Nat.gcd b.num.natAbs a.den=b.num.natAbs:=Jx (zp _ _);have e3:a.den/Nat.gcd b.num.natAbs a.den*Nat.gcd b.num.natAbs a.den=a.den:=Jx (yT _ _);have e4:b.den/Nat.gcd a.num.natAbs b.den*Nat.gcd a.num.natAbs b.den=b.den:=Jx (yT _ _);have p3:0<a.den/Nat.gcd b.num.natAbs a.den:=Jo (WH _ a.den_pos) hg2;have p4:0<b.den/Nat.gcd a.num.natAbs b.den:=Jo (WH _ b.den_pos) hg1;have hnz:a.den*b.den≠0:=Nat.ne_of_gt (Co a.den_pos b.den_pos);have hdef:=Rat.mul_def' a b;have ha:=Un a.num;have hb:=Un b.num;generalize Nat.gcd a.num.natAbs b.den=g1 at *;generalize Nat.gcd b.num.natAbs a.den=g2 at *;generalize a.num.natAbs/g1=m1 at *;generalize b.num.natAbs/g2=m2 at *;generalize a.den/g2=q1 at *;generalize b.den/g1=q2 at *;refine rat_eq (Co p3 p4) (by rw[Gu];exact hc) _ _ hnz hdef ?_;have hs:a.num*b.num=sgn (!neg? a == neg? b) (m1*m2)*(g1*g2):=by
  rw[← ha,← hb,← e1,← e2];unfold sgn;by_cases h1:a.num<0<;>by_cases h2:b.num<0<;>simp [h1,h2]<;>grind
 rw[hs,← e3,← e4];simp only[uv];grind
theorem yJ.q {w w':World}{neg:Bool}{n d:Nat}{e:Ending}{r:Rat}(h:yJ w neg n d e w') (hn:r.num=sgn neg n) (hd:r.den=d):Gf w r e w':=by
 obtain⟨v,he,hN,hb⟩:=h;refine⟨v,he,?_,hb⟩;unfold IsQ;rw[hn,Gu,cbJ];have:r.den=if n=0 then 1 else d:=by
  split
  ·rename_i h0;have hz:r.num=0:=by rw[hn,h0];unfold sgn;simp
   have:=r.reduced;rw[hz] at this;simpa using this
  ·exact hd
 rw[this];exact hN
theorem Gf.stored {w W:World}{R:Nat}{v:Value}{r:Rat}{a0 a1 a2 a3:Value}(hR:Box W R (.bool false) (.int .u64 0) (.int .u64 0) (.pointer none))
 (h:IsQ W v r) (hb:Below w.heap.size w W) (hw:w.heap.size<=R) :
 Gf w r (.returned v) ((((W.setCell ⟨R,0,none⟩ a0).setCell ⟨R,1,none⟩ a1).setCell ⟨R,2,none⟩ a2).setCell ⟨R,3,none⟩ a3):=by
 have ho:=((((jJ.refl R W).set 0 a0).set 1 a1).set 2 a2).set 3 a3;exact⟨v,rfl,Num.only hR h ho,hb.trans (ho.below hw)⟩
theorem IsQ.form {w:World}{v:Value}{r:Rat}(h:IsQ w v r):∃ sg a b p,v=.agg #[.bool sg,u a,u b,.pointer p]:=by
 obtain⟨a,b,p,h,_⟩:=Num.form h;exact⟨_,a,b,p,h⟩
theorem cjd (v1 v2:Value) (r s:Rat) (k:Nat) (w:World) (h1:IsQ w v1 r) (h2:IsQ w v2 s) (z1:Siz r k) (z2:Siz s k) (hk:((k+k+1:Nat):Int)<=1073741824) (hG:Gr w) :
 Calls Tryz.prog 103 #[v1,v2] w (Gf w (r+s)) :=
 (cft v1 v2 _ _ _ _ _ _ k w h1 h2 z1.1 z1.2 z2.1 z2.2 r.den_pos s.den_pos hk hG).mono fun _ _ h=>h.q (WL r s).1 (WL r s).2
theorem caM (v1 v2:Value) (r s:Rat) (k:Nat) (w:World) (h1:IsQ w v1 r) (h2:IsQ w v2 s) (z1:Siz r k) (z2:Siz s k) (hk:(k:Int)<=1073741824) (hG:Gr w) :
 Calls Tryz.prog 94 #[v1,v2] w (Gf w (r*s)) :=
 (cdP v1 v2 _ _ _ _ _ _ k w h1 h2 z1.1 z1.2 z2.1 z2.2 r.den_pos s.den_pos hk hG).mono fun _ _ h=>h.q (cez r s).1 (cez r s).2
def SmallQ (w:World) (r:Rat) (e:Ending) (w':World):Prop :=
 ∃ a b c,∃ ok:Bool,e=.returned (.tuple #[lo a b c,.bool ok])/\(ok=true->∀ W,IsQ W (lo a b c) r)/\Below w.heap.size w w'
theorem cac.q {w w':World}{neg:Bool}{n d:Nat}{e:Ending}{r:Rat}(h:cac w neg n d e w') (hn:r.num=sgn neg n) (hd:r.den=d):SmallQ w r e w':=by
 obtain⟨a,b,c,ok,he,h1,h2,hb⟩:=h;refine⟨a,b,c,ok,he,fun hok W=>?_,hb⟩;obtain⟨i1,i2⟩:=h2 hok;obtain⟨j1,j2,j3⟩:=h1 hok ⟨i1,i2,hd▸r.den_pos⟩;unfold IsQ;rw[hn,Gu,cbJ,← j1,hd,← j2];exact Num.low c rfl j3.symm (j2▸i1) i2
theorem IsQ.forms {w:World}{v:Value}{r:Rat}(h:IsQ w v r) :
 (∃ l,v=lo (neg? r) r.num.natAbs l/\r.den=l+1/\r.num.natAbs<B/\r.den<B)\/(∃ b,v=wi (neg? r) ⟨b,0,none⟩):=by
 cases h with
 |low l hv hd hn hdB=>exact .inl ⟨l,hv,hd,hn,hdB⟩
 |wide b x y hv hx hy h1 h2 hB h0 hd=>exact .inr ⟨b,hv⟩
theorem chH (r s:Rat) (l1 l2:Nat) (w:World) (d1:r.den=l1+1) (d2:s.den=l2+1) (h1:r.num.natAbs<B) (h2:r.den<B) (h3:s.num.natAbs<B) (h4:s.den<B) (hG:Gr w) :
 Calls Tryz.prog 102 #[lo (neg? r) r.num.natAbs l1,lo (neg? s) s.num.natAbs l2] w (SmallQ w (r+s)):=by
 refine(cdN (neg? r) (neg? s) _ l1 _ l2 h1 (d1▸h2) h3 (d2▸h4) w hG).mono fun _ _ h=>?_;rw[← d1,← d2] at h;exact h.q (WL r s).1 (WL r s).2
theorem plus_q (v1 v2:Value) (r s:Rat) (k:Nat) (w:World) (h1:IsQ w v1 r) (h2:IsQ w v2 s) (z1:Siz r k) (z2:Siz s k) (hk:((k+k+1:Nat):Int)<=1073741824) (hG:Gr w) :
 Calls Tryz.prog 66 #[v1,v2] w (Gf w (r+s)):=by
 have HW:=ca (fun W (hW:Below w.heap.size w W)=>cjd v1 v2 r s k W (h1.below hW (cb _)) (h2.below hW (cb _)) z1 z2 hk (hG.below hW hG.size));rcases h1.forms with⟨l1,rfl,d1,i1,j1⟩|⟨b1,rfl⟩
 ·rcases h2.forms with⟨l2,rfl,d2,i2,j2⟩|⟨b2,rfl⟩
  ·have HS:=ca (fun W (hW:Below w.heap.size w W)=>chH r s l1 l2 W d1 d2 i1 j1 i2 j2 (hG.below hW hG.size));clear h1 h2 z1 z2 hk hG d1 d2 j1 j2;generalize neg? r=neg1 at *;generalize neg? s=neg2 at *;generalize r.num.natAbs=n1 at *;generalize s.num.natAbs=n2 at *;generalize r+s=t at *
   go_enter Tryz.func66,Tryz.ntmps66
   go_wp2_with fail;obtain⟨W0,hW0,hb0,⟨f0,f1,f2,f3⟩,⟨g0,g1,g2,g3⟩,hz⟩:=box3 w (.bool neg1) (u n1) (u l1) (.pointer none) (.bool neg2) (u n2) (u l2) (.pointer none);rw[← hW0];clear hW0;have HZ:=ca hz;have HW0:=ca hb0;have hb0:=cw W0.heap.size W0;clear hz;refine(HS.out _ (cq HW0.out hb0)).mono ?_;rintro e W1 ⟨a,b,c,ok,rfl,hok,hb⟩
   (obtain⟨_,_,_,_,_,_,_,_⟩:=yj w hb)
   have HA:=ca (cq hb0 hb);have HOK:=ca hok;clear hb0 hb hok f0 f1 f2 f3 g0 g1 g2 g3
   (obtain⟨z0,z1,z2,z3,zf0,zf1,zf2,zf3⟩:=HZ.out.zed HA.out)
   have q0:w.heap.size<W1.heap.size:=kS W1 ⟨w.heap.size,0,none⟩ (by assumption);have q1:w.heap.size+1<W1.heap.size:=kS W1 ⟨w.heap.size+1,0,none⟩ (by assumption);have q2:w.heap.size+1+1<W1.heap.size:=kS W1 ⟨w.heap.size+1+1,0,none⟩ z0;cases ok
   ·go_wp2_with fail;have HA':=ca (cq HA.out (jV W1 (.cells #[.bool a,.int .u64 (b:Int),.int .u64 (c:Int),.pointer none] 34)));clear z0 z1 z2 z3 zf0 zf1 zf2 zf3 q0 q1 q2;refine(HW.out _ (cq HW0.out HA'.out)).mono ?_;rintro e W9 ⟨v,rfl,hN,hb⟩;have hb3:=cq HA'.out hb;have hN':=hN;obtain⟨sg,a9,b9,p9,rfl⟩:=hN'.form;have hz:=HZ.out.below hb3 (cb _);have hfin:=Gf.stored (a0:=.bool sg) (a1:=u a9) (a2:=u b9) (a3:=.pointer p9) hz hN (cq HW0.out hb3) (by omega);have HFin:=ca hfin
    (obtain⟨z0,z1,z2,z3,zf0,zf1,zf2,zf3⟩:=HZ.out.zed hb3)
    clear hfin hN hN' hb hb3;go_wp2_with fail;refine jw (v:=.agg #[.bool sg,u a9,u b9,.pointer p9]) (by simp [results,Tryz.results66,go_sem,z0,z1,z2,z3]) rfl ?_;exact HFin.out
   ·have hT:=HOK.out rfl;have HT:=ca hT;clear hT;go_wp2_with fail;refine jw (v:=lo a b c) (by simp [results,Tryz.results66,go_sem,z0,z1,z2,z3,q2]) rfl ?_;exact⟨_,rfl,HT.out _,(zE HW0.out HA.out (by omega) _ _ _ _).trans ((jV _ _).mono (zE HW0.out HA.out (by omega) _ _ _ _).size)⟩
  ·clear h1 h2 z1 z2 hk hG;generalize neg? r=neg1 at *;generalize neg? s=neg2 at *;generalize r.num.natAbs=n1 at *;generalize r+s=t at *;clear d1 i1 j1
   go_enter Tryz.func66,Tryz.ntmps66
   go_wp2_with fail;obtain⟨W0,hW0,hb0,⟨f0,f1,f2,f3⟩,⟨g0,g1,g2,g3⟩,hz⟩:=box3 w (.bool neg1) (u n1) (u l1) (.pointer none) (.bool neg2) (u 0) (u 0) (.pointer (some ⟨b2,0,none⟩));rw[← hW0];clear hW0;have HZ:=ca hz;have HW0:=ca hb0;have hb0:=cw W0.heap.size W0;clear hz;refine(HW.out _ (cq HW0.out hb0)).mono ?_;rintro e W9 ⟨v,rfl,hN,hb⟩;have hb3:=cq hb0 hb;have hN':=hN;obtain⟨sg,a9,b9,p9,rfl⟩:=hN'.form;have hz:=HZ.out.below hb3 (cb _);have hfin:=Gf.stored (a0:=.bool sg) (a1:=u a9) (a2:=u b9) (a3:=.pointer p9) hz hN (cq HW0.out hb3) (by omega);have HFin:=ca hfin
   (obtain⟨z0,z1,z2,z3,zf0,zf1,zf2,zf3⟩:=HZ.out.zed hb3)
   clear hfin hN hN' hb hb3;go_wp2_with fail;refine jw (v:=.agg #[.bool sg,u a9,u b9,.pointer p9]) (by simp [results,Tryz.results66,go_sem,z0,z1,z2,z3]) rfl ?_;exact HFin.out
 ·obtain⟨neg2,a2,b2,p2,rfl⟩:=h2.form;clear h1 h2 z1 z2 hk hG;generalize neg? r=neg1 at *;generalize r+s=t at *
  go_enter Tryz.func66,Tryz.ntmps66
  go_wp2_with fail;obtain⟨W0,hW0,hb0,⟨f0,f1,f2,f3⟩,⟨g0,g1,g2,g3⟩,hz⟩:=box3 w (.bool neg1) (u 0) (u 0) (.pointer (some ⟨b1,0,none⟩)) (.bool neg2) (u a2) (u b2) (.pointer p2);rw[← hW0];clear hW0;have HZ:=ca hz;have HW0:=ca hb0;have hb0:=cw W0.heap.size W0;clear hz;refine(HW.out _ (cq HW0.out hb0)).mono ?_;rintro e W9 ⟨v,rfl,hN,hb⟩;have hb3:=cq hb0 hb;have hN':=hN;obtain⟨sg,a9,b9,p9,rfl⟩:=hN'.form;have hz:=HZ.out.below hb3 (cb _);have hfin:=Gf.stored (a0:=.bool sg) (a1:=u a9) (a2:=u b9) (a3:=.pointer p9) hz hN (cq HW0.out hb3) (by omega);have HFin:=ca hfin
  (obtain⟨z0,z1,z2,z3,zf0,zf1,zf2,zf3⟩:=HZ.out.zed hb3)
  clear hfin hN hN' hb hb3;go_wp2_with fail;refine jw (v:=.agg #[.bool sg,u a9,u b9,.pointer p9]) (by simp [results,Tryz.results66,go_sem,z0,z1,z2,z3]) rfl ?_;exact HFin.out
theorem Zn (sg:Bool) (a b:Nat) (p:Option Addr) (w:World) :
 Calls Tryz.prog 69 #[.agg #[.bool sg,u a,u b,.pointer p]] w (Val w (.int .i64 (if sg then -1 else 1))):=by
 cases sg
 ·go_enter Tryz.func69,Tryz.ntmps69
  go_wp2_with fail
  go_ret
  exact⟨rfl,jV w _⟩
 ·go_enter Tryz.func69,Tryz.ntmps69
  go_wp2_with fail
  go_ret
  exact⟨rfl,jV w _⟩
def yK (r:Rat):Int:=if r.num=0 then 0 else if r.num<0 then -1 else 1
theorem sign_q (v:Value) (r:Rat) (w:World) (h:IsQ w v r) :
 Calls Tryz.prog 59 #[v] w (Val w (.int .i64 (yK r))):=by
 have hsg:(if decide (r.num<0) then (-1:Int) else 1)=if r.num<0 then -1 else 1:=by
  by_cases h:r.num<0<;>simp [h]
 cases h with
 |low l hv hd hn hdB =>
  subst hv;by_cases h0:r.num.natAbs=0
  ·have hs:yK r=0:=by unfold yK;rw[co (by omega)]
   rw[hs,h0];generalize decide (r.num<0)=sg at *
   go_enter Tryz.func59,Tryz.ntmps59
   go_wp2_with fail
   go_ret
   exact⟨rfl,jV w _⟩
  ·have hs:yK r=if decide (r.num<0) then -1 else 1:=by unfold yK;rw[cg (by omega),hsg]
   rw[hs];have HS:=ca (fun W=>Zn (decide (r.num<0)) r.num.natAbs l none W);clear hs hsg hn hd hdB;have h1:(((r.num.natAbs:Nat):Int) == 0)=false:=by rw[jO];omega
   obtain⟨sv,hsv⟩:∃ sv:Int,sv=if decide (r.num<0) then -1 else 1:=⟨_,rfl⟩
   rw[← hsv] at HS ⊢;clear hsv;generalize decide (r.num<0)=sg at *;generalize r.num.natAbs=n at *;clear h0
   go_enter Tryz.func59,Tryz.ntmps59
   go_wp2_with fail;refine(HS.out _).mono ?_;rintro e W1 ⟨rfl,hb⟩;have HB:=ca (cq (jV w _) hb);clear hb;go_wp2_with fail
   go_ret
   exact⟨rfl,HB.out⟩
 |wide b x y hv hx hy h1 h2 hB h0 hd =>
  subst hv;have hs:yK r=if decide (r.num<0) then -1 else 1:=by unfold yK;rw[cg (by omega),hsg]
  rw[hs];have HS:=ca (fun W=>Zn (decide (r.num<0)) 0 0 (some ⟨b,0,none⟩) W);clear hs hsg hx hy h1 h2 hB h0 hd;obtain⟨sv,hsv⟩:∃ sv:Int,sv=if decide (r.num<0) then -1 else 1:=⟨_,rfl⟩
  rw[← hsv] at HS ⊢;clear hsv;generalize decide (r.num<0)=sg at *
  go_enter Tryz.func59,Tryz.ntmps59
  go_wp2_with fail;refine(HS.out _).mono ?_;rintro e W1 ⟨rfl,hb⟩;have HB:=ca (cq (jV w _) hb);clear hb;go_wp2_with fail
  go_ret
  exact⟨rfl,HB.out⟩
theorem box2w (w:World) (a0 a1 a2 a3:Value):∃ W,W=(w.alloc (.cells #[a0,a1,a2,a3] 34)).alloc (.cells #[.bool false,.int .u64 0,.int .u64 0,.pointer none] 34)/\Below w.heap.size w W/\
 Box W w.heap.size a0 a1 a2 a3/\Box W (w.heap.size+1) (.bool false) (.int .u64 0) (.int .u64 0) (.pointer none):=by
 refine⟨_,rfl,cq (jV w _) (jV _ _),?_,?_⟩
 ·have h1:Box (w.alloc (.cells #[a0,a1,a2,a3] 34)) w.heap.size a0 a1 a2 a3:=Gh w _;exact h1.below (jV _ _) (cb _)
 ·have hs:(w.alloc (.cells #[a0,a1,a2,a3] 34)).heap.size=w.heap.size+1:=by
   show (w.heap.push _).size=_;simp
  rw[← hs];exact Gh _ _
theorem Siz.neg {r:Rat}{k:Nat}(h:Siz r k):Siz (-r) k:=by
 unfold Siz at *;rw[Rat.neg_num,Int.natAbs_neg,Rat.neg_den];exact h
def jk (r s:Rat):Int:=if r<s then -1 else if s<r then 1 else 0
theorem cin (r s:Rat):jk r s=if r.num*s.den<s.num*r.den then -1 else if s.num*r.den<r.num*s.den then 1 else 0:=by
 unfold jk;simp only[Rat.lt_iff]
theorem cnd {m n:Int}{a b:Nat}(ha:0<a) (hb:0<b) (h:decide (m<0)≠decide (n<0)) :
 (if m*b<n*a then (-1:Int) else if n*a<m*b then 1 else 0)=if decide (m<0) then -1 else 1:=by
 have ha':(0:Int)<a:=by omega
 have hb':(0:Int)<b:=by omega
 by_cases hm:m<0
 ·have hn:0<=n:=by
   by_cases hn:n<0
   ·exact absurd (by simp [hm,hn]) h
   ·omega
  have h1:m*b<0:=Int.mul_neg_of_neg_of_pos hm hb';have h2:0<=n*a:=Int.mul_nonneg hn (Int.le_of_lt ha');rw[co (by omega)];simp [hm]
 ·have hn:n<0:=by
   by_cases hn:n<0
   ·exact hn
   ·exact absurd (by simp [hm,hn]) h
  have h1:n*a<0:=Int.mul_neg_of_neg_of_pos hn ha';have h2:0<=m*b:=Int.mul_nonneg (by omega) (Int.le_of_lt hb');rw[cg (by omega),co (by omega)];simp [hm]
theorem coy {m n:Int}{a b:Nat}(h:decide (m<0)=decide (n<0)) :
 (if decide (m<0) then (-1:Int) else 1)*jt (m.natAbs*b) (n.natAbs*a)=if m*b<n*a then (-1:Int) else if n*a<m*b then 1 else 0:=by
 unfold jt;by_cases hm:m<0
 ·have hn:n<0:=by
   by_cases hn:n<0
   ·exact hn
   ·simp [hm,hn] at h
  have e1:m*b=-((m.natAbs*b:Nat):Int):=by
   rw[uv,← Int.neg_mul];congr 1;omega
  have e2:n*a=-((n.natAbs*a:Nat):Int):=by
   rw[uv,← Int.neg_mul];congr 1;omega
  rw[e1,e2];generalize m.natAbs*b=x;generalize n.natAbs*a=y;simp only[hm,decide_true,Cv];rcases KH x y with g|g|g
  ·rw[co g,cg (by omega),co (by omega)];rfl
  ·rw[cg (by omega),cg (by omega),cg (by omega),cg (by omega)];rfl
  ·rw[cg (by omega),co g,co (by omega)];rfl
 ·have hn:¬ n<0:=by
   intro hn;simp [hm,hn] at h
  have e1:m*b=((m.natAbs*b:Nat):Int):=by
   rw[uv];congr 1;omega
  have e2:n*a=((n.natAbs*a:Nat):Int):=by
   rw[uv];congr 1;omega
  rw[e1,e2];generalize m.natAbs*b=x;generalize n.natAbs*a=y;simp only[hm,decide_false,UY,Gy];rcases KH x y with g|g|g
  ·rw[co g,co (by omega)];rfl
  ·rw[cg (by omega),cg (by omega),cg (by omega),cg (by omega)];rfl
  ·rw[cg (by omega),co g,cg (by omega),co (by omega)];rfl
theorem cjw {r s:Rat}(h:neg? r≠neg? s):jk r s=if neg? r then -1 else 1:=by
 rw[cin];exact cnd r.den_pos s.den_pos h
theorem cmd {r s:Rat}(h:neg? r=neg? s):(if neg? r then (-1:Int) else 1)*jt (r.num.natAbs*s.den) (s.num.natAbs*r.den)=jk r s:=by
 rw[cin];exact coy h
theorem cmo (r s:Rat):IntKind.i64.wrap (jk r s)=jk r s:=by
 unfold jk;split
 ·rfl
 ·split<;>rfl
theorem clX (v1 v2:Value) (r s:Rat) (k:Nat) (w:World) (h1:IsQ w v1 r) (h2:IsQ w v2 s) (z1:Siz r k) (z2:Siz s k) (hk:(k:Int)<=1073741824) :
 Calls Tryz.prog 39 #[v1,v2] w (Val w (.int .i64 (jk r s))):=by
 have HW:=ca (fun W (hW:Below w.heap.size w W)=>cbm v1 v2 _ _ _ _ _ _ k W (h1.below hW (cb _)) (h2.below hW (cb _)) z1.1 z1.2 z2.1 z2.2 hk);by_cases hne:neg? r=neg? s
 ·have hres:=cmd hne;have hwr:=cmo r s;rw[← hres] at hwr;have hbn:(neg? r == neg? s)=true:=by rw[hne];simp
  obtain⟨sv,hsv⟩:∃ sv:Int,sv=if neg? r then -1 else 1:=⟨_,rfl⟩
  have hside:=fun a b p W=>Zn (neg? r) a b p W;rw[← hsv] at hside hres hwr;clear hsv;rcases h1.forms with⟨l1,rfl,d1,i1,j1⟩|⟨b1,rfl⟩
  ·have HS:=ca (hside r.num.natAbs l1 none);rcases h2.forms with⟨l2,rfl,d2,i2,j2⟩|⟨b2,rfl⟩
   ·have HC:=ca (fun W=>ZP (neg? r) (neg? s) r.num.natAbs l1 s.num.natAbs l2 i1 (d1▸j1) i2 (d2▸j2) W);rw[← d1,← d2] at HC;generalize jt (r.num.natAbs*s.den) (s.num.natAbs*r.den)=cv at *;clear h1 h2 z1 z2 hk hne hside i1 i2 j1 j2 d1 d2 HW;generalize jk r s=t at *;generalize neg? r=neg1 at *;generalize neg? s=neg2 at *;generalize r.num.natAbs=n1 at *;generalize s.num.natAbs=n2 at *;subst hres;generalize hpr:sv*cv=pr at *
    go_enter Tryz.func39,Tryz.ntmps39
    go_wp2_with fail;obtain⟨W0,hW0,hb0,⟨f0,f1,f2,f3⟩,⟨g0,g1,g2,g3⟩⟩:=box2 w (.bool neg1) (u n1) (u l1) (.pointer none) (.bool neg2) (u n2) (u l2) (.pointer none);rw[← hW0];clear hW0
    go_region_held3 (fun w'=>(w'.cell? ⟨w.heap.size,0,none⟩=some (.bool neg1)/\w'.cell? ⟨w.heap.size,1,none⟩=some (u n1)/\w'.cell? ⟨w.heap.size,2,none⟩=some (u l1)/\w'.cell? ⟨w.heap.size,3,none⟩=some (.pointer none))/\(w'.cell? ⟨w.heap.size+1,0,none⟩=some (.bool neg2)/\w'.cell? ⟨w.heap.size+1,1,none⟩=some (u n2)/\w'.cell? ⟨w.heap.size+1,2,none⟩=some (u l2)/\w'.cell? ⟨w.heap.size+1,3,none⟩=some (.pointer none))) (go_keep) (first|((with_reducible refine(HS.out _).mono ?_);rintro e W1 ⟨rfl,hb⟩;(obtain⟨_,_,_,_,_,_,_,_⟩:=yj w hb))|((with_reducible refine(HC.out _).mono ?_);rintro e W2 ⟨rfl,hb'⟩;(obtain⟨_,_,_,_,_,_,_,_⟩:=yj w hb')))
    have HB:=ca (cq (CZ hb0 hb) hb');clear hb0 hb hb' f0 f1 f2 f3 g0 g1 g2 g3;go_wp2_with fail
    go_ret
    exact⟨rfl,HB.out⟩
   ·generalize jt (r.num.natAbs*s.den) (s.num.natAbs*r.den)=cv at *;clear h1 h2 z1 z2 hk hne hside i1 j1 d1;generalize jk r s=t at *;generalize neg? r=neg1 at *;generalize neg? s=neg2 at *;generalize r.num.natAbs=n1 at *;subst hres;generalize hpr:sv*cv=pr at *
    go_enter Tryz.func39,Tryz.ntmps39
    go_wp2_with fail;obtain⟨W0,hW0,hb0,⟨f0,f1,f2,f3⟩,⟨g0,g1,g2,g3⟩⟩:=box2 w (.bool neg1) (u n1) (u l1) (.pointer none) (.bool neg2) (u 0) (u 0) (.pointer (some ⟨b2,0,none⟩));rw[← hW0];clear hW0
    go_region_held3 (fun w'=>(w'.cell? ⟨w.heap.size,0,none⟩=some (.bool neg1)/\w'.cell? ⟨w.heap.size,1,none⟩=some (u n1)/\w'.cell? ⟨w.heap.size,2,none⟩=some (u l1)/\w'.cell? ⟨w.heap.size,3,none⟩=some (.pointer none))/\(w'.cell? ⟨w.heap.size+1,0,none⟩=some (.bool neg2)/\w'.cell? ⟨w.heap.size+1,1,none⟩=some (u 0)/\w'.cell? ⟨w.heap.size+1,2,none⟩=some (u 0)/\w'.cell? ⟨w.heap.size+1,3,none⟩=some (.pointer (some ⟨b2,0,none⟩)))) (go_keep) (first|((with_reducible refine(HS.out _).mono ?_);rintro e W1 ⟨rfl,hb⟩;(obtain⟨_,_,_,_,_,_,_,_⟩:=yj w hb))|((with_reducible refine(HW.out _ (CZ hb0 hb)).mono ?_);rintro e W2 ⟨rfl,hb'⟩;(obtain⟨_,_,_,_,_,_,_,_⟩:=yj w hb')))
    have HB:=ca (cq (CZ hb0 hb) hb');clear hb0 hb hb' f0 f1 f2 f3 g0 g1 g2 g3;go_wp2_with fail
    go_ret
    exact⟨rfl,HB.out⟩
  ·have HS:=ca (hside 0 0 (some ⟨b1,0,none⟩));obtain⟨a2,b2,p2,rfl,_⟩:=Num.form h2;clear h1 h2 z1 z2 hk hbn;obtain⟨neg2,hn2⟩:∃ neg2,neg2=decide (s.num<0):=⟨_,rfl⟩;rw[← hn2] at HW ⊢;have hne2:neg? r=neg2:=hne.trans hn2.symm;have hbn:(neg? r == neg2)=true:=by rw[hne2];simp
   clear hne hne2;generalize jt (r.num.natAbs*s.den) (s.num.natAbs*r.den)=cv at *;clear hside hn2;generalize jk r s=t at *;generalize neg? r=neg1 at *;subst hres;generalize hpr:sv*cv=pr at *
   go_enter Tryz.func39,Tryz.ntmps39
   go_wp2_with fail;obtain⟨W0,hW0,hb0,⟨f0,f1,f2,f3⟩,⟨g0,g1,g2,g3⟩⟩:=box2 w (.bool neg1) (u 0) (u 0) (.pointer (some ⟨b1,0,none⟩)) (.bool neg2) (u a2) (u b2) (.pointer p2);rw[← hW0];clear hW0
   go_region_held3 (fun w'=>(w'.cell? ⟨w.heap.size,0,none⟩=some (.bool neg1)/\w'.cell? ⟨w.heap.size,1,none⟩=some (u 0)/\w'.cell? ⟨w.heap.size,2,none⟩=some (u 0)/\w'.cell? ⟨w.heap.size,3,none⟩=some (.pointer (some ⟨b1,0,none⟩)))/\(w'.cell? ⟨w.heap.size+1,0,none⟩=some (.bool neg2)/\w'.cell? ⟨w.heap.size+1,1,none⟩=some (u a2)/\w'.cell? ⟨w.heap.size+1,2,none⟩=some (u b2)/\w'.cell? ⟨w.heap.size+1,3,none⟩=some (.pointer p2))) (go_keep) (first|((with_reducible refine(HS.out _).mono ?_);rintro e W1 ⟨rfl,hb⟩;(obtain⟨_,_,_,_,_,_,_,_⟩:=yj w hb))|((with_reducible refine(HW.out _ (CZ hb0 hb)).mono ?_);rintro e W2 ⟨rfl,hb'⟩;(obtain⟨_,_,_,_,_,_,_,_⟩:=yj w hb')))
   have HB:=ca (cq (CZ hb0 hb) hb');clear hb0 hb hb' f0 f1 f2 f3 g0 g1 g2 g3;go_wp2_with fail
   go_ret
   exact⟨rfl,HB.out⟩
 ·have hres:=cjw hne;obtain⟨a1,b1,p1,rfl,_⟩:=Num.form h1;obtain⟨a2,b2,p2,rfl,_⟩:=Num.form h2;have HS:=ca (fun W=>Zn (decide (r.num<0)) a1 b1 p1 W);rw[← hres] at HS;have hb:(decide (r.num<0) == decide (s.num<0))=false:=by simpa using hne
  clear h1 h2 z1 z2 hk HW hres hne;generalize jk r s=t at *;generalize decide (r.num<0)=neg1 at *;generalize decide (s.num<0)=neg2 at *
  go_enter Tryz.func39,Tryz.ntmps39
  go_wp2_with fail;obtain⟨W0,hW0,hb0,⟨f0,f1,f2,f3⟩,⟨g0,g1,g2,g3⟩⟩:=box2 w (.bool neg1) (u a1) (u b1) (.pointer p1) (.bool neg2) (u a2) (u b2) (.pointer p2);rw[← hW0];clear hW0;refine(HS.out _).mono ?_;rintro e W1 ⟨rfl,hb1⟩;have HB:=ca (cq hb0 hb1);clear hb0 hb1;go_wp2_with fail
  go_ret
  exact⟨rfl,HB.out⟩
theorem ceo {r:Rat}(h:r.num≠0):(r⁻¹).num=sgn (neg? r) r.den/\(r⁻¹).den=r.num.natAbs:=by
 show (Rat.inv r).num=_/\(Rat.inv r).den=_;unfold Rat.inv sgn;by_cases h1:r.num<0
 ·simp [h1]
 ·have h2:0<r.num:=by omega
  simp [h1,h2]
theorem clO (v:Value) (r:Rat) (w:World) (h:IsQ w v r) (h0:r.num≠0) :
 Calls Tryz.prog 96 #[v] w (Gf w r⁻¹):=by
 obtain⟨in1,in2⟩:=ceo h0;cases h with
 |low l hv hd hn hdB =>
  subst hv;have hq:∀ W,IsQ W (lo (neg? r&&!decide (r.den=0)) r.den (Eo r.num.natAbs 1)) r⁻¹:=by
   intro W;unfold IsQ;rw[in1,in2,Gu,cbJ];exact Num.low _ rfl (caf hn (by omega)).symm hdB hn
  have HQ:=ca hq;have HS:=ca (fun W=>Wm (neg? r) r.den r.num.natAbs hn W);have HBo:=ca (fun W=>EI (neg? r) r.num.natAbs l none (hd▸hdB) W);rw[← hd] at HBo;clear hq in1 in2 hn hdB hd h0;show Calls Tryz.prog 96 #[lo (neg? r) r.num.natAbs l] w (Gf w r⁻¹);generalize r⁻¹=t at *;generalize neg? r=sg at *;generalize r.num.natAbs=n at *;generalize r.den=d at *;generalize (sg&&!decide (d=0))=sg2 at *;generalize Eo n 1=l2 at *
  go_enter Tryz.func96,Tryz.ntmps96
  go_wp2_with fail;obtain⟨W0,hW0,hb0,hx0,hz⟩:=box2w w (.bool sg) (u n) (u l) (.pointer none);rw[← hW0];clear hW0;obtain⟨f0,f1,f2,f3⟩:=hx0.cells;have HZ:=ca hz;have HW0:=ca hb0;have hb0:=cw W0.heap.size W0;clear hz hx0;have n1:¬ w.heap.size=w.heap.size+1:=(by omega);have n2:¬ w.heap.size+1=w.heap.size:=(by omega)
  go_region_held3 (fun w'=>(w'.cell? ⟨w.heap.size,0,none⟩=some (.bool sg)/\w'.cell? ⟨w.heap.size,1,none⟩=some (u n)/\w'.cell? ⟨w.heap.size,2,none⟩=some (u l)/\w'.cell? ⟨w.heap.size,3,none⟩=some (.pointer none))) (go_keep) (first|((with_reducible refine(HBo.out _).mono ?_);rintro e W1 ⟨rfl,hb⟩;(obtain⟨_,_,_,_⟩:=boxa w hb))|((with_reducible refine(HS.out _).mono ?_);rintro e W2 ⟨rfl,hb'⟩;(obtain⟨_,_,_,_⟩:=boxa w hb');have hb3:=cq (CZ hb0 hb) hb';(obtain⟨z0,z1,z2,z3,zf0,zf1,zf2,zf3⟩:=HZ.out.zed hb3)))
  have hz:=HZ.out.below hb3 (cb _);have hfin:=Gf.stored (a0:=.bool sg2) (a1:=u d) (a2:=u l2) (a3:=.pointer none) hz (HQ.out _) (cq HW0.out hb3) (by omega);have HFin:=ca hfin;clear hfin hb hb' hb0 hb3 hz f0 f1 f2 f3;go_wp2_with fail;refine jw (v:=lo sg2 d l2) (by simp [results,Tryz.results96,go_sem,z0,z1,z2,z3]) rfl ?_;exact HFin.out
 |wide b x y hv hx hy h1 h2 hB h0' hd =>
  subst hv;have HF:=ca (fun W (hW:Below w.heap.size w W)=>GC (neg? r) y x r.den r.num.natAbs W (h2.below hW (cb _)) (h1.below hW (cb _)) h0');have HR:=ca (fun W W' e (h:yJ W (neg? r) r.den r.num.natAbs e W')=>h.q in1 in2);obtain⟨xa,xl,xc,rfl,_⟩:=h1.form;obtain⟨ya,yl,yc,rfl,_⟩:=h2.form;clear h1 h2 in1 in2 hB h0' hd h0;show Calls Tryz.prog 96 #[wi (neg? r) ⟨b,0,none⟩] w (Gf w r⁻¹);generalize r⁻¹=t at *;generalize neg? r=sg at *;generalize r.num.natAbs=n at *;generalize r.den=d at *
  go_enter Tryz.func96,Tryz.ntmps96
  go_wp2_with fail;have p1:¬ b=w.heap.size+1:=by have:=kS w _ hx;simp at this;omega
  have p2:¬ w.heap.size+1=b:=fun h=>p1 h.symm;obtain⟨W0,hW0,hb0,hx0,hz⟩:=box2w w (.bool sg) (u 0) (u 0) (.pointer (some ⟨b,0,none⟩));rw[← hW0];clear hW0;obtain⟨f0,f1,f2,f3⟩:=hx0.cells;have HZ:=ca hz;have HW0:=ca hb0;have hb0:=cw W0.heap.size W0;clear hz hx0;have n1:¬ w.heap.size=w.heap.size+1:=(by omega);have n2:¬ w.heap.size+1=w.heap.size:=(by omega);have hx:W0.cell? ⟨b,0,none⟩=some (.slice xa xl xc):=(HW0.out.cell (p:=⟨b,0,none⟩) (kS w _ hx)).trans hx;have hy:W0.cell? ⟨b,1,none⟩=some (.slice ya yl yc):=(HW0.out.cell (p:=⟨b,1,none⟩) (kS w _ hy)).trans hy
  go_region_held3 (fun w'=>(w'.cell? ⟨w.heap.size,0,none⟩=some (.bool sg)/\w'.cell? ⟨w.heap.size,3,none⟩=some (.pointer (some ⟨b,0,none⟩)))/\w'.cell? ⟨b,0,none⟩=some (.slice xa xl xc)/\w'.cell? ⟨b,1,none⟩=some (.slice ya yl yc)) (go_keep) (((with_reducible refine(HF.out _ (HW0.out.drew)).mono ?_);rintro e W1 hF;have hQ:=HR.out _ _ _ hF;obtain⟨v,rfl,hv,hb⟩:=hQ;(obtain⟨_,_,_,_⟩:=boxa w hb);have hb3:=CZ hb0 hb;have k1:=(hb3.cell (p:=⟨b,0,none⟩) (kS W0 _ hx)).trans hx;have k2:=(hb3.cell (p:=⟨b,1,none⟩) (kS W0 _ hy)).trans hy;have hv':=hv;obtain⟨sg9,a9,b9,p9,rfl⟩:=hv'.form;(obtain⟨z0,z1,z2,z3,zf0,zf1,zf2,zf3⟩:=HZ.out.zed hb3)))
  have hz:=HZ.out.below hb3 (cb _);have hfin:=Gf.stored (a0:=.bool sg9) (a1:=u a9) (a2:=u b9) (a3:=.pointer p9) hz hv (cq HW0.out hb3) (by omega);have HFin:=ca hfin;clear hfin hb hb0 hb3 hz f0 f1 f2 f3 hv hv' hF;go_wp2_with fail;refine jw (v:=.agg #[.bool sg9,u a9,u b9,.pointer p9]) (by simp [results,Tryz.results96,go_sem,z0,z1,z2,z3]) rfl ?_;exact HFin.out
theorem Siz.inv {r:Rat}{k:Nat}(h:Siz r k) (h0:r.num≠0):Siz r⁻¹ k:=by
 obtain⟨e1,e2⟩:=ceo h0;unfold Siz at *;rw[e1,e2,Gu];exact⟨h.2,h.1⟩
theorem int_q (i:Int) (h1:-9223372036854775808<=i) (h2:i<=9223372036854775807) (w:World) :
 Calls Tryz.prog 13 #[.int .i64 i] w (Gf w (i:Rat)):=by
 have hB:i.natAbs<B:=by unfold B;omega
 have hl:Eo 1 1=0:=by rfl
 have hq:∀ W,IsQ W (lo (decide (i<0)&&!decide (i.natAbs=0)) i.natAbs (Eo 1 1)) (i:Rat):=by
  intro W;rw[hl];unfold IsQ;rw[Rat.num_intCast,Rat.den_intCast];have:(decide (i<0)&&!decide (i.natAbs=0))=decide (i<0):=by
   rw[YD];simp;omega
  rw[this];exact Num.low 0 rfl rfl hB (by decide)
 have HQ:=ca hq;have HS:=ca (fun W=>Wm (decide (i<0)) i.natAbs 1 (by decide) W);by_cases hi:i<0
 ·have hw:IntKind.u64.wrap (-(IntKind.u64.wrap i))=(i.natAbs:Int):=by
   rw[zA,zA];unfold B at hB;omega
  have hw2:IntKind.u64.wrap (-i)=(i.natAbs:Int):=by
   rw[zA];unfold B at hB;omega
  simp only[hi,decide_true] at HS HQ;clear hq hl hB;have HHB:=ca h1;generalize (i:Rat)=t at *;generalize (true&&!decide (i.natAbs=0))=sg at *
  go_enter Tryz.func13,Tryz.ntmps13
  go_wp2_with fail;obtain⟨W0,hW0,hb0,hz,hs⟩:=boxz w;rw[← hW0];clear hW0;have HZ:=ca hz;have HW0:=ca hb0;have hb0:=cw W0.heap.size W0;clear hz;clear hs;generalize Eo 1 1=l2 at *;generalize hn:i.natAbs=n at *;refine(HS.out _).mono ?_;rintro e W1 ⟨rfl,hb⟩;have hb3:=cq hb0 hb;have hz:=HZ.out.below hb3 (cb _);have hfin:=Gf.stored (a0:=.bool sg) (a1:=u n) (a2:=u l2) (a3:=.pointer none) hz (HQ.out _) (cq HW0.out hb3) (cb _);have HFin:=ca hfin
  (obtain⟨z0,z1,z2,z3,zf0,zf1,zf2,zf3⟩:=HZ.out.zed hb3)
  clear hfin hb hb0 hb3 hz hn;go_wp2_with fail;refine jw (v:=lo sg n l2) (by simp [results,Tryz.results13,go_sem,z0,z1,z2,z3]) rfl ?_;exact HFin.out
 ·have hw:IntKind.u64.wrap i=(i.natAbs:Int):=by
   rw[zA];unfold B at hB;omega
  simp only[hi,decide_false] at HS HQ;clear hq hl hB;have HHB:=ca h1;generalize (i:Rat)=t at *;generalize (false&&!decide (i.natAbs=0))=sg at *
  go_enter Tryz.func13,Tryz.ntmps13
  go_wp2_with fail;obtain⟨W0,hW0,hb0,hz,hs⟩:=boxz w;rw[← hW0];clear hW0;have HZ:=ca hz;have HW0:=ca hb0;have hb0:=cw W0.heap.size W0;clear hz;clear hs;generalize Eo 1 1=l2 at *;generalize hn:i.natAbs=n at *;refine(HS.out _).mono ?_;rintro e W1 ⟨rfl,hb⟩;have hb3:=cq hb0 hb;have hz:=HZ.out.below hb3 (cb _);have hfin:=Gf.stored (a0:=.bool sg) (a1:=u n) (a2:=u l2) (a3:=.pointer none) hz (HQ.out _) (cq HW0.out hb3) (cb _);have HFin:=ca hfin
  (obtain⟨z0,z1,z2,z3,zf0,zf1,zf2,zf3⟩:=HZ.out.zed hb3)
  clear hfin hb hb0 hb3 hz hn;go_wp2_with fail;refine jw (v:=lo sg n l2) (by simp [results,Tryz.results13,go_sem,z0,z1,z2,z3]) rfl ?_;exact HFin.out
theorem ckP (i:Int) (h1:-9223372036854775808<=i) (h2:i<=9223372036854775807):Siz (i:Rat) 1:=by
 unfold Siz;rw[Rat.num_intCast,Rat.den_intCast,Jn];exact⟨by unfold B;omega,by decide⟩
theorem Gf.alloc {w W:World}{r:Rat}{e:Ending}(h:Gf w r e W) (o:Obj):Gf w r e (W.alloc o):=by
 obtain⟨v,he,hq,hb⟩:=h;exact⟨v,he,hq.below (jV W o) (cb _),hb.trans ((jV W o).mono hb.size)⟩
theorem Siz.le {r:Rat}{k j:Nat}(h:Siz r k) (hj:k<=j):Siz r j :=
 ⟨cI h.1 (jY kn hj),cI h.2 (jY kn hj)⟩
theorem bapp (a b:List UInt8):((⟨a.toArray⟩:ByteArray)++⟨b.toArray⟩)=⟨(a++b).toArray⟩:=by
 apply ByteArray.ext;rw[ByteArray.data_append];simp
theorem chF (c:UInt8) (b:List UInt8):((⟨#[c]⟩:ByteArray)++⟨b.toArray⟩)=⟨(c::b).toArray⟩:=bapp [c] b
theorem cgN (a:List UInt8) (c:UInt8):((⟨a.toArray⟩:ByteArray)++⟨#[c]⟩)=⟨(a++[c]).toArray⟩:=bapp a [c]
theorem cef {n k:Nat}(h:n<B^k):(cS n).length<=20*k+1:=by
 unfold cS;split
 ·simp
 ·rw[List.length_reverse,List.length_map];have:=Yn h rfl;omega
theorem cu.not_one {w:World}{v:Value}{n:Nat}(h:cu w v n) (h0:0<n) (h1:n≠1) :
 (∃ b o c,v=.slice (some ⟨b,o,none⟩) 1 c/\w.cell? ⟨b,o,none⟩=some (u n))\/(∃ ao l c,v=.slice ao l c/\l≠1):=by
 rcases jd n B with hB|hB
 ·obtain⟨b,o,c,rfl,hc⟩:=h.limb h0 hB;exact .inl ⟨b,o,c,rfl,hc⟩
 ·obtain⟨ao,l,c,rfl,_,_,hl⟩:=h.form;exact .inr ⟨ao,l,c,rfl,by have:=hl.2 hB;omega⟩
theorem cnj (v:Value) (N k:Nat) (w:World) (a1 b1:Nat) (p1:Option Addr) (hv:v=.agg #[.bool false,u a1,u b1,.pointer p1])
 (HP:Hid (∀ W,Below w.heap.size w W->Calls Tryz.prog 40 #[v] W (JW W N 1))) (HT1:Hid (∀ x W,cu W x N->Calls Tryz.prog 41 #[x] W (zY W (cS N))))
 (HT2:Hid (∀ x W,cu W x 1->Calls Tryz.prog 41 #[x] W (zY W (cS 1)))) (hl:(cS N).length<=21474836481) (hl2:(cS 1).length<=21474836481) :
 Calls Tryz.prog 16 #[v] w (zY w (cS N)):=by
 subst hv;clear hl hl2;generalize cS N=TN at *
 go_enter Tryz.func16,Tryz.ntmps16
 go_wp2_with fail;obtain⟨W0,hW0,hb0,⟨f0,f1,f2,f3⟩⟩:=ccP w (.bool false) (u a1) (u b1) (.pointer p1);rw[← hW0];clear hW0;refine(HP.out _ hb0).mono ?_;rintro e W1 ⟨x,y,rfl,hx,hy,hb⟩
 (have hh:=Jk (b:=w.heap.size) hb f0 f1 f2 f3;clear f0 f1 f2 f3;obtain⟨f0,f1,f2,f3⟩:=hh)
 obtain⟨ya,yo,yc,rfl,hyc⟩:=hy.limb (by decide) (by decide);have HA:=ca (cq hb0 hb);have HX:=ca hx;have HY:=ca hy;obtain⟨xa,xl,xc,rfl,_⟩:=hx.form;clear hb hb0 hx hy HP;go_wp2_with fail;refine(HT1.out _ _ HX.out).mono ?_;rintro e W2 ⟨rfl,hb⟩
 (have hh:=Jk (b:=w.heap.size) hb f0 f1 f2 f3;clear f0 f1 f2 f3;obtain⟨f0,f1,f2,f3⟩:=hh)
 have hyc2:W2.cell? ⟨ya,yo,none⟩=some (.int .u64 1):=(hb.cell (p:=⟨ya,yo,none⟩) (kS W1 _ hyc)).trans hyc;have HA2:=ca (cq HA.out hb);have HY2:=ca (HY.out.below hb (cb _));clear hb HX HT1 hyc;go_wp2_with fail
 go_ret
 refine⟨?_,HA2.out⟩;rfl
theorem cmk (v:Value) (N k:Nat) (D:Nat) (hD0:0<D) (hD1:D≠1) (w:World) (a1 b1:Nat) (p1:Option Addr) (hv:v=.agg #[.bool false,u a1,u b1,.pointer p1])
 (HP:Hid (∀ W,Below w.heap.size w W->Calls Tryz.prog 40 #[v] W (JW W N D))) (HT1:Hid (∀ x W,cu W x N->Calls Tryz.prog 41 #[x] W (zY W (cS N))))
 (HT2:Hid (∀ x W,cu W x D->Calls Tryz.prog 41 #[x] W (zY W (cS D)))) (hl:(cS N).length<=21474836481) (hl2:(cS D).length<=21474836481) :
 Calls Tryz.prog 16 #[v] w (zY w ((cS N++47::cS D))):=by
 subst hv;have l2:¬ 9223372036854775807<(cS N).length+1:=by omega
 have l3:¬ 9223372036854775807<(cS N).length+1+(cS D).length:=by omega
 clear hl hl2;generalize cS N=TN at *;generalize cS D=TD at *
 go_enter Tryz.func16,Tryz.ntmps16
 go_wp2_with fail;obtain⟨W0,hW0,hb0,⟨f0,f1,f2,f3⟩⟩:=ccP w (.bool false) (u a1) (u b1) (.pointer p1);rw[← hW0];clear hW0;refine(HP.out _ hb0).mono ?_;rintro e W1 ⟨x,y,rfl,hx,hy,hb⟩
 (have hh:=Jk (b:=w.heap.size) hb f0 f1 f2 f3;clear f0 f1 f2 f3;obtain⟨f0,f1,f2,f3⟩:=hh)
 rcases hy.not_one hD0 hD1 with⟨ya,yo,yc,rfl,hyc⟩|⟨ao,yl,yc,rfl,hy1⟩
 ·have HA:=ca (cq hb0 hb);have HX:=ca hx;have HY:=ca hy;obtain⟨xa,xl,xc,rfl,_⟩:=hx.form;have hD:(((D:Nat):Int) == 1)=false:=by rw[jO];omega
  clear hb hb0 hx hy HP hD0 hD1;go_wp2_with fail;refine(HT1.out _ _ HX.out).mono ?_;rintro e W2 ⟨rfl,hb⟩
  (have hh:=Jk (b:=w.heap.size) hb f0 f1 f2 f3;clear f0 f1 f2 f3;obtain⟨f0,f1,f2,f3⟩:=hh)
  have hyc2:W2.cell? ⟨ya,yo,none⟩=some (u D):=(hb.cell (p:=⟨ya,yo,none⟩) (kS W1 _ hyc)).trans hyc;have HA2:=ca (cq HA.out hb);have HY2:=ca (HY.out.below hb (cb _));clear hb HX HT1 hyc;go_wp2_with fail;refine(HT2.out _ _ HY2.out).mono ?_;rintro e W3 ⟨rfl,hb⟩;have HA3:=ca (cq HA2.out hb);clear hb HT2;go_wp2_with fail
  go_ret
  refine⟨?_,HA3.out⟩;simp [bapp,chF,cgN]
 ·have HA:=ca (cq hb0 hb);have HX:=ca hx;have HY:=ca hy;obtain⟨xa,xl,xc,rfl,_⟩:=hx.form;have hyl:(((yl:Nat):Int) == 1)=false:=by rw[jO];omega
  clear hb hb0 hx hy HP hD0 hD1 hy1;go_wp2_with fail;refine(HT1.out _ _ HX.out).mono ?_;rintro e W2 ⟨rfl,hb⟩
  (have hh:=Jk (b:=w.heap.size) hb f0 f1 f2 f3;clear f0 f1 f2 f3;obtain⟨f0,f1,f2,f3⟩:=hh)
  have HA2:=ca (cq HA.out hb);have HY2:=ca (HY.out.below hb (cb _));clear hb HX HT1;go_wp2_with fail;refine(HT2.out _ _ HY2.out).mono ?_;rintro e W3 ⟨rfl,hb⟩;have HA3:=ca (cq HA2.out hb);clear hb HT2;go_wp2_with fail
  go_ret
  refine⟨?_,HA3.out⟩;simp [bapp,chF,cgN]
theorem cmC (v:Value) (N k:Nat) (w:World) (a1 b1:Nat) (p1:Option Addr) (hv:v=.agg #[.bool true,u a1,u b1,.pointer p1])
 (HP:Hid (∀ W,Below w.heap.size w W->Calls Tryz.prog 40 #[v] W (JW W N 1))) (HT1:Hid (∀ x W,cu W x N->Calls Tryz.prog 41 #[x] W (zY W (cS N))))
 (HT2:Hid (∀ x W,cu W x 1->Calls Tryz.prog 41 #[x] W (zY W (cS 1)))) (hl:(cS N).length<=21474836481) (hl2:(cS 1).length<=21474836481) :
 Calls Tryz.prog 16 #[v] w (zY w (45::cS N)):=by
 subst hv;have l1:¬ 9223372036854775807<1+(cS N).length:=by omega
 clear hl hl2;generalize cS N=TN at *
 go_enter Tryz.func16,Tryz.ntmps16
 go_wp2_with fail;obtain⟨W0,hW0,hb0,⟨f0,f1,f2,f3⟩⟩:=ccP w (.bool true) (u a1) (u b1) (.pointer p1);rw[← hW0];clear hW0;refine(HP.out _ hb0).mono ?_;rintro e W1 ⟨x,y,rfl,hx,hy,hb⟩
 (have hh:=Jk (b:=w.heap.size) hb f0 f1 f2 f3;clear f0 f1 f2 f3;obtain⟨f0,f1,f2,f3⟩:=hh)
 obtain⟨ya,yo,yc,rfl,hyc⟩:=hy.limb (by decide) (by decide);have HA:=ca (cq hb0 hb);have HX:=ca hx;have HY:=ca hy;obtain⟨xa,xl,xc,rfl,_⟩:=hx.form;clear hb hb0 hx hy HP;go_wp2_with fail;refine(HT1.out _ _ HX.out).mono ?_;rintro e W2 ⟨rfl,hb⟩
 (have hh:=Jk (b:=w.heap.size) hb f0 f1 f2 f3;clear f0 f1 f2 f3;obtain⟨f0,f1,f2,f3⟩:=hh)
 have hyc2:W2.cell? ⟨ya,yo,none⟩=some (.int .u64 1):=(hb.cell (p:=⟨ya,yo,none⟩) (kS W1 _ hyc)).trans hyc;have HA2:=ca (cq HA.out hb);have HY2:=ca (HY.out.below hb (cb _));clear hb HX HT1 hyc;go_wp2_with fail
 go_ret
 refine⟨?_,HA2.out⟩;simp [bapp,chF,cgN]
theorem cmH (v:Value) (N k:Nat) (D:Nat) (hD0:0<D) (hD1:D≠1) (w:World) (a1 b1:Nat) (p1:Option Addr) (hv:v=.agg #[.bool true,u a1,u b1,.pointer p1])
 (HP:Hid (∀ W,Below w.heap.size w W->Calls Tryz.prog 40 #[v] W (JW W N D))) (HT1:Hid (∀ x W,cu W x N->Calls Tryz.prog 41 #[x] W (zY W (cS N))))
 (HT2:Hid (∀ x W,cu W x D->Calls Tryz.prog 41 #[x] W (zY W (cS D)))) (hl:(cS N).length<=21474836481) (hl2:(cS D).length<=21474836481) :
 Calls Tryz.prog 16 #[v] w (zY w (45::(cS N++47::cS D))):=by
 subst hv;have l1:¬ 9223372036854775807<1+(cS N).length:=by omega
 have l2:¬ 9223372036854775807<1+(cS N).length+1:=by omega
 have l3:¬ 9223372036854775807<1+(cS N).length+1+(cS D).length:=by omega
 have l4:¬ 9223372036854775807<(cS N).length+1+1:=by omega
 have l5:¬ 9223372036854775807<(cS N).length+1+1+(cS D).length:=by omega
 clear hl hl2;generalize cS N=TN at *;generalize cS D=TD at *
 go_enter Tryz.func16,Tryz.ntmps16
 go_wp2_with fail;obtain⟨W0,hW0,hb0,⟨f0,f1,f2,f3⟩⟩:=ccP w (.bool true) (u a1) (u b1) (.pointer p1);rw[← hW0];clear hW0;refine(HP.out _ hb0).mono ?_;rintro e W1 ⟨x,y,rfl,hx,hy,hb⟩
 (have hh:=Jk (b:=w.heap.size) hb f0 f1 f2 f3;clear f0 f1 f2 f3;obtain⟨f0,f1,f2,f3⟩:=hh)
 rcases hy.not_one hD0 hD1 with⟨ya,yo,yc,rfl,hyc⟩|⟨ao,yl,yc,rfl,hy1⟩
 ·have HA:=ca (cq hb0 hb);have HX:=ca hx;have HY:=ca hy;obtain⟨xa,xl,xc,rfl,_⟩:=hx.form;have hD:(((D:Nat):Int) == 1)=false:=by rw[jO];omega
  clear hb hb0 hx hy HP hD0 hD1;go_wp2_with fail;refine(HT1.out _ _ HX.out).mono ?_;rintro e W2 ⟨rfl,hb⟩
  (have hh:=Jk (b:=w.heap.size) hb f0 f1 f2 f3;clear f0 f1 f2 f3;obtain⟨f0,f1,f2,f3⟩:=hh)
  have hyc2:W2.cell? ⟨ya,yo,none⟩=some (u D):=(hb.cell (p:=⟨ya,yo,none⟩) (kS W1 _ hyc)).trans hyc;have HA2:=ca (cq HA.out hb);have HY2:=ca (HY.out.below hb (cb _));clear hb HX HT1 hyc;go_wp2_with fail;refine(HT2.out _ _ HY2.out).mono ?_;rintro e W3 ⟨rfl,hb⟩;have HA3:=ca (cq HA2.out hb);clear hb HT2;go_wp2_with fail
  go_ret
  refine⟨?_,HA3.out⟩;simp [bapp,chF,cgN]
 ·have HA:=ca (cq hb0 hb);have HX:=ca hx;have HY:=ca hy;obtain⟨xa,xl,xc,rfl,_⟩:=hx.form;have hyl:(((yl:Nat):Int) == 1)=false:=by rw[jO];omega
  clear hb hb0 hx hy HP hD0 hD1 hy1;go_wp2_with fail;refine(HT1.out _ _ HX.out).mono ?_;rintro e W2 ⟨rfl,hb⟩
  (have hh:=Jk (b:=w.heap.size) hb f0 f1 f2 f3;clear f0 f1 f2 f3;obtain⟨f0,f1,f2,f3⟩:=hh)
  have HA2:=ca (cq HA.out hb);have HY2:=ca (HY.out.below hb (cb _));clear hb HX HT1;go_wp2_with fail;refine(HT2.out _ _ HY2.out).mono ?_;rintro e W3 ⟨rfl,hb⟩;have HA3:=ca (cq HA2.out hb);clear hb HT2;go_wp2_with fail
  go_ret
  refine⟨?_,HA3.out⟩;simp [bapp,chF,cgN]
theorem cgJ (v:Value) (r:Rat) (k:Nat) (w:World) (h:IsQ w v r) (z:Siz r k) (hk:(k:Int)<=1073741824) :
 Calls Tryz.prog 16 #[v] w (zY w (ul r)):=by
 have HP:=ca (fun W (hW:Below w.heap.size w W)=>Ey v (decide (r.num<0)) r.num.natAbs r.den W (Num.below h hW (cb _)));have HT1:=ca (fun x W (hx:cu W x r.num.natAbs)=>che x r.num.natAbs k W hx z.1 hk);have HT2:=ca (fun x W (hx:cu W x r.den)=>che x r.den k W hx z.2 hk);have hq:ul r=(if r.num<0 then [45] else [])++cS r.num.natAbs++(if r.den=1 then [] else 47::cS r.den):=rfl;have hl1:=cef z.1;have hl2:=cef z.2;have hl1:(cS r.num.natAbs).length<=21474836481:=by omega
 have hl2:(cS r.den).length<=21474836481:=by omega
 obtain⟨a1,b1,p1,hv,_⟩:=Num.form h;have hd0:=r.den_pos;by_cases hd:r.den=1
 ·by_cases hn:r.num<0
  ·rw[co hd,co hn,ug] at hq;rw[hd] at HP HT2 hl2;rw[hq];exact cmC v _ k w a1 b1 p1 (by rw[hv,cF hn]) HP HT1 HT2 hl1 hl2
  ·rw[co hd,cg hn,ug,Em] at hq;rw[hd] at HP HT2 hl2;rw[hq];exact cnj v _ k w a1 b1 p1 (by rw[hv,cK hn]) HP HT1 HT2 hl1 hl2
 ·by_cases hn:r.num<0
  ·rw[cg hd,co hn,uM] at hq;rw[hq];exact cmH v _ k _ hd0 hd w a1 b1 p1 (by rw[hv,cF hn]) HP HT1 HT2 hl1 hl2
  ·rw[cg hd,cg hn,Em] at hq;rw[hq];exact cmk v _ k _ hd0 hd w a1 b1 p1 (by rw[hv,cK hn]) HP HT1 HT2 hl1 hl2
theorem cba (l:List UInt8) (acc k:Nat) (ha:acc<10^k) (hk:k+l.length<=19) :
 Lib.parseUintM (2^64-1) acc l=if l.all kT then .ok (l.foldl (fun a c=>10*a+(c.toNat-48)) acc) else Lib.parseUintB 64 []:=by
 induction l generalizing acc k with
 |nil=>simp [Lib.parseUintM]
 |cons c l ih =>
  rw[Lib.parseUintM];simp only[uP] at hk;by_cases hc:48<=c.toNat/\c.toNat<=57
  ·have hd:kT c=true:=by unfold kT;simp [hc]
   have h1:10^k<=10^18:=jY (by omega) (by omega);have h2:acc*10+(c.toNat-48)<10^(k+1):=by rw[ji];omega
   have h3:10^(k+1)<=10^19:=jY (by omega) (by omega);rw[co hc,cg (by omega),cg (by omega),ih _ (k+1) h2 (by omega)];simp only[List.all_cons,hd,YP,List.foldl_cons];rw[jf acc 10]
  ·have hd:kT c=false:=by unfold kT;simp;omega
   rw[cg hc];simp only[List.all_cons,hd,GT];rfl
theorem Wl (l:List UInt8) {a b:Nat}(h:l.length<=a) (hab:a<=b):(⟨l.toArray⟩:ByteArray).size<=b:=by
 have:(⟨l.toArray⟩:ByteArray).size=l.length:=by simp [ByteArray.size]
 omega
theorem cnK (l:List UInt8) (h0:l≠[]) (h19:l.length<=19) (hd:l.all kT=true) (w:World) :
 Calls Tryz.prog 129 #[str l,.int .i64 10,.int .i64 64] w (fun e w'=>e=.returned (.tuple #[u (jB l),.nilIface])/\Below w.heap.size w w'):=by
 have h:Lib.parseUintB 64 (⟨l.toArray⟩:ByteArray).data.toList=.ok (jB l):=by
  unfold Lib.parseUintB;rw[cg (by simpa using h0),cba _ 0 0 (by decide) (by simpa using h19)];simp only[hd,Cv];rfl
 refine(Tryz.strconv_ParseUint_10_at64_ok ⟨l.toArray⟩ (Wl l h19 (by omega)) (jB l) h w).mono ?_;rintro e w' ⟨rfl,hw⟩;refine⟨rfl,?_⟩;rcases hw with rfl|rfl
 ·exact cw _ _
 ·exact Lib.bytesWorld_below _ _ _
theorem cmv (l:List UInt8) (h0:l≠[]) (h19:l.length<=19) (hd:l.all kT=false) (w:World) (hG:Gr w) :
 Calls Tryz.prog 129 #[str l,.int .i64 10,.int .i64 64] w (fun e w'=>∃ t p,e=.returned (.tuple #[.int .u64 0,.iface t (.pointer (some p))])/\Below w.heap.size w w'):=by
 have h:Lib.parseUintB 64 (⟨l.toArray⟩:ByteArray).data.toList=Lib.parseUintB 64 []:=by
  unfold Lib.parseUintB;rw[cg (by simpa using h0),cba _ 0 0 (by decide) (by simpa using h19)];simp only[hd];rfl
 obtain⟨tp,p,hs⟩:=hG.syn;refine(Tryz.strconv_ParseUint_10_at64_syntax ⟨l.toArray⟩ (Wl l h19 (by omega)) h (.iface tp p) w hs (.inr ⟨tp,p,rfl⟩)).mono ?_;rintro e w' ⟨N,rfl,_,_,hb⟩;exact⟨_,_,rfl,hb⟩
def cfi:Value->Nat
 |.string s=>s.size
 |_=>0
def caW (w:World) (l:List UInt8) (e:Ending) (w':World):Prop :=
 (uR l=true/\∃ v,e=.returned (.tuple #[v,.bool true])/\cu w' v (jB l)/\Below w.heap.size w w')\/
 (uR l=false/\e=.returned (.tuple #[.slice none 0 0,.bool false])/\Below w.heap.size w w')
theorem Zy (l:List UInt8) (n:Nat):(⟨l.toArray⟩:ByteArray).extract 0 n=⟨(l.take n).toArray⟩:=by
 apply ByteArray.ext;simp [ByteArray.data_extract]
theorem Zq (l:List UInt8) (n:Nat):(⟨l.toArray⟩:ByteArray).extract n l.length=⟨(l.drop n).toArray⟩:=by
 apply ByteArray.ext;simp [ByteArray.data_extract];rw[kA (by simp)]
def ReadRel (w:World) (l:List UInt8) (s x:Value) (wr:World):Prop :=
 ∃ pre rest,s=str rest/\l=pre++rest/\pre.all kT=true/\cu wr x (jB pre)/\(pre=[]\/rest.length%19=0)/\Below w.heap.size w wr
theorem Uh (l:List UInt8) (w:World) (hl:l.length<=100000) (hG:Gr w):Calls Tryz.prog 93 #[str l] w (caW w l):=by
 have HG:=ca hG;clear hG;by_cases h0:l=[]
 ·subst h0;have hk:uR []=false:=rfl
  go_enter Tryz.func93,Tryz.ntmps93
  go_wp2_with fail;refine jw (v:=.tuple #[.slice none 0 0,.bool false]) (by simp [results,Tryz.results93,go_sem]) rfl ?_;exact .inr ⟨hk,rfl,cw _ _⟩
 ·have e0:l.isEmpty=false:=by cases l<;>simp_all
  have H0:=ca h0;clear h0
  go_enter Tryz.func93,Tryz.ntmps93
  go_wp2_with fail
  go_loopw [0,4] (fun s x wr=>Hid (ReadRel w l s x wr)) (fun s _ _=>cfi s)
  case atStart=>exact⟨[],l,rfl,rfl,rfl,cu.zero w,.inl rfl,cw _ _⟩
  case round =>
   obtain⟨pre,rest,rfl,hpre,hd,hx,h19,hb⟩:=hrel.out;clear hrel;by_cases hr:rest=[]
   ·subst hr;obtain⟨xa,xl,xc,rfl,_⟩:=hx.form;have hfin:uR l=true/\cu wr (.slice xa xl xc) (jB l):=by
     rw[ug] at hpre;subst hpre;refine⟨?_,hx⟩;unfold uR;rw[hd,e0];rfl
    have HFin:=ca hfin;have HB:=ca hb;clear hfin hb hx h19 hpre hd;go_wp2_with fail;refine jw (v:=.tuple #[.slice xa xl xc,.bool true]) (by simp [results,Tryz.results93,go_sem]) rfl ?_;exact .inl ⟨HFin.out.1,_,rfl,HFin.out.2,HB.out⟩
   ·have e1:rest.isEmpty=false:=by cases rest<;>simp_all
    have hm0:0<rest.length:=by cases rest<;>simp_all
    obtain⟨q,hq⟩:∃ q,q=(rest.length-1)%19:=⟨_,rfl⟩;have hq19:q<19:=by omega
    have hqm:q+1<=rest.length:=by have:=Nat.mod_le (rest.length-1) 19;omega
    have g1:((rest.length:Nat):Int)-1=((rest.length-1:Nat):Int):=by omega
    have g2:Int.tmod ((rest.length:Nat)-1:Int) 19=(q:Int):=by rw[g1,cjn (by omega)];omega
    have g3:(((rest.length:Nat):Int)-1)%19=(q:Int):=by omega
    have hxt:=Zy rest (q+1);have hxd:=Zq rest (q+1);have hl1:(rest.length:Int)<=100000:=by
     have:=cQ List.length hpre;rw[kI] at this;omega
    have hqmi:(q:Int)+1<=(rest.length:Int):=by omega
    have HPre:=ca hpre;have HD:=ca hd;have HX:=ca hx;have H19:=ca h19;have HB:=ca hb;have HQ:=ca hq;obtain⟨xa,xl,xc,rfl,_⟩:=hx.form;clear hpre hd hx h19 hb hq g1 hr;go_wp2_with fail;by_cases hg:(rest.take (q+1)).all kT=true
    ·refine(cnK (rest.take (q+1)) (by intro e;have:=cQ List.length e;rw[jp,Ys] at this;omega) (by rw[jp];omega) hg wr).mono ?_;rintro e W1 ⟨rfl,hb1⟩;have hval:jB (pre++rest.take (q+1))=jB pre*10000000000000000000+jB (rest.take (q+1)):=by
      rw[Ux];rcases H19.out with h|h
      ·subst h;simp [jB]
      ·have hq18:q=18:=by have:=HQ.out;omega
       rw[jp,hq18,uq (by omega)];rw[jf]
     have hgl:jB (rest.take (q+1))<B:=by
      have h1:=Wr (rest.take (q+1)) (by simpa using hg);have h2:10^(rest.take (q+1)).length<=10^19:=jY (by omega) (by rw[jp];omega);exact cI h1 (cA h2 (by decide))
     obtain⟨K,hK1,hK2⟩:∃ K:Nat,100000<=K/\((K+1:Nat):Int)<=1073741824:=⟨100001,by omega,by omega⟩;have hBK:B<=B^K:=by
      have:=jY kn (show 1<=K by omega)
      rwa [Jn] at this
     have hpl:jB pre<B^K:=by
      have h1:=Wr pre (by simpa using HD.out);have h2:pre.length<=100000:=by
       have:=cQ List.length HPre.out;rw[kI] at this;omega
      exact cI h1 (cA (cbB (by decide) _) (jY kn (by omega)))
     have hnew:pre++rest.take (q+1)++rest.drop (q+1)=l:=by rw[uM,kv];exact HPre.out.symm
     have hall:(pre++rest.take (q+1)).all kT=true:=by rw[List.all_append,HD.out,hg];rfl
     have hmod:(rest.drop (q+1)).length%19=0:=by rw[uK,HQ.out];omega
     have hprod:jB pre*10000000000000000000<B^(K+1):=by
      rw[ji];exact Nat.mul_lt_mul'' hpl (by decide)
     have hgk:jB (rest.take (q+1))<B^(K+1):=cI hgl (by
      rw[ji];exact Nat.le_mul_of_pos_left _ (kQ kn))
     have HW:=ca (fun W=>UV (jB (rest.take (q+1))) W hgl);have HT:=ca (fun x y W (hx:cu W x (jB pre)) (hy:cu W y 10000000000000000000)=>CE x y (jB pre) 10000000000000000000 K W hx hy hpl (cI (by decide) hBK) (by omega));have HP:=ca (fun x y W (hx:cu W x (jB pre*10000000000000000000)) (hy:cu W y (jB (rest.take (q+1))))=>cgP x y _ _ (K+1) W hx hy hprod hgk hK2);have HVal:=ca hval;have HNew:=ca hnew;have HAll:=ca hall;have HMod:=ca hmod;have HX1:=ca (HX.out.below hb1 (cb _));have HB1:=ca (cq HB.out hb1);have hms:cfi (str (rest.drop (q+1)))<cfi (str rest):=by
      simp [cfi,ByteArray.size];omega
     have HMs:=ca hms;clear hval hgl hpl hnew hall hmod hprod hgk hms hb1 hg HX HB hBK hK1 hK2;generalize jB (rest.take (q+1))=gv at *;generalize rest.drop (q+1)=rest2 at *;go_wp2_with fail;have hone:cu (W1.alloc (.cells #[.int .u64 10000000000000000000] 31)) (.slice (some ⟨W1.heap.size,0,none⟩) 1 1) 10000000000000000000:=cku W1 10000000000000000000 (by decide) (by decide);have hb2:=jV W1 (.cells #[.int .u64 10000000000000000000] 31);refine(HT.out _ _ _ (HX1.out.below hb2 (cb _)) hone).mono ?_;rintro e W2 ⟨v2,rfl,hv2,hb3⟩;have HV2:=ca hv2;have HB2:=ca (cq (cq HB1.out hb2) hb3);obtain⟨_,_,_,rfl,_⟩:=hv2.form;clear hv2 hone hb2 hb3 HT HX1 HB1;go_wp2_with fail;refine(HW.out _).mono ?_;rintro e W3 ⟨v3,rfl,hv3,hb3⟩;have HV3:=ca hv3;have HV2:=ca (HV2.out.below hb3 (cb _));have HB3:=ca (cq HB2.out hb3);obtain⟨_,_,_,rfl,_⟩:=hv3.form;clear hv3 hb3 HW HB2;go_wp2_with fail;refine(HP.out _ _ _ HV2.out HV3.out).mono ?_;rintro e W4 ⟨v4,rfl,hv4,hb4⟩;rw[← HVal.out] at hv4;have HV4:=ca hv4;have HB4:=ca (cq HB3.out hb4);obtain⟨_,_,_,rfl,_⟩:=hv4.form;clear hv4 hb4 HP HV2 HV3 HB3;go_wp2_with fail
     go_roundw
     case rel=>exact⟨pre++rest.take (q+1),rest2,rfl,HNew.out.symm,HAll.out,HV4.out,.inr HMod.out,HB4.out⟩
     case measure=>exact HMs.out
    ·have hg:(rest.take (q+1)).all kT=false:=by simpa using hg
     refine(cmv (rest.take (q+1)) (by intro e;have:=cQ List.length e;rw[jp,Ys] at this;omega) (by rw[jp];omega) hg wr (HG.out.below HB.out HG.out.size)).mono ?_;rintro e W1 ⟨t,p,rfl,hb1⟩;have hfin:uR l=false:=by
      rw[HPre.out];unfold uR;rw[← kv (q+1) rest,List.all_append,List.all_append,hg];simp
     have HFin:=ca hfin;have HB1:=ca (cq HB.out hb1);clear hfin hb1 hg hxt hxd;go_wp2_with fail;refine jw (v:=.tuple #[.slice none 0 0,.bool false]) (by simp [results,Tryz.results93,go_sem]) rfl ?_;exact .inr ⟨HFin.out,rfl,HB1.out⟩
end Go.Proofs.YtdopipkmcnkdjaaGreatDoor
