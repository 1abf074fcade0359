/- Part 17. -/
import Derived.Test.YtclihnehnkijgaaGreatDoorC16
import Derived.Lib.ParseIntB
set_option linter.all false

namespace Go.Proofs.YtclihnehnkijgaaGreatDoor
open Go Go.RowKit Go.Proofs Lim
theorem yE (v1 v2:Value) (m n k:Nat) (w:World) (h1:cA w v1 m) (h2:cA w v2 n) (hn:0<n) (hm:m<B^k) (hk:(k:Int)<=1073741824) :
 Calls Tryz.prog 110 #[v1,v2] w (Ur w (m/n)):=by
 have HOv:=ca (YC v1 v2 m n k w h1 h2 hn hm hk);have H1:=ca h1;by_cases o2:n=1
 ·have HI:=ca (WC v2 n w h2 o2);subst o2;obtain⟨xs,⟨⟨xa,xc,rfl,_⟩,_⟩,_⟩:=h1;obtain⟨ys,⟨⟨ya,yc,rfl,_⟩,_⟩,_⟩:=h2;clear hm hn hk HOv
  go_enter Tryz.func110,Tryz.ntmps110
  go_wp2_with fail;refine HI.out.mono ?_;rintro e w1 ⟨rfl,rfl⟩;go_wp2_with fail
  go_ret
  refine⟨_,rfl,?_,cw _ _⟩;rw[Nat.div_one];exact H1.out
 ·have HI:=ca (UK v2 n w h2 o2);obtain⟨xs,⟨⟨xa,xc,rfl,_⟩,_⟩,_⟩:=h1;obtain⟨ys,⟨⟨ya,yc,rfl,_⟩,_⟩,_⟩:=h2;clear hm hn hk o2
  go_enter Tryz.func110,Tryz.ntmps110
  go_wp2_with fail;refine HI.out.mono ?_;rintro e w1 ⟨rfl,rfl⟩;go_wp2_with fail;refine HOv.out.mono ?_;rintro e w' ⟨q,r,rfl,hq,hr,hbel⟩;have HQ:=ca hq;have HB:=ca hbel;clear hq hr hbel;go_wp2_with fail
  go_ret
  exact⟨q,rfl,HQ.out,HB.out⟩
set_option maxHeartbeats 3200000 in
theorem cdy (v1 v2:Value) (neg1 neg2:Bool) (n1 d1 n2 d2 k:Nat) (w:World) (h1:Num w v1 neg1 n1 d1) (h2:Num w v2 neg2 n2 d2)
 (hn1:n1<B^k) (hd1:d1<B^k) (hn2:n2<B^k) (hd2:d2<B^k) (p1:0<d1) (p2:0<d2) (hk:(k:Int)<=1073741824) (hG:Gr w) :
 Calls Tryz.prog 65 #[v1,v2] w (yB w (!neg1 == neg2) (n1/Nat.gcd n1 d2*(n2/Nat.gcd n2 d1)) (d1/Nat.gcd n2 d1*(d2/Nat.gcd n1 d2))):=by
 have HP1:=ca (fun W (hW:Below w.heap.size w W)=>Ez v1 neg1 n1 d1 W (h1.below hW (cb _)));have HP2:=ca (fun W (hW:Below w.heap.size w W)=>Ez v2 neg2 n2 d2 W (h2.below hW (cb _)));obtain⟨a1,b1,q1,rfl,_⟩:=h1.form;obtain⟨a2,b2,q2,rfl,_⟩:=h2.form;have HC1:=ca (fun x y W (hx:cA W x n1) (hy:cA W y d2) (hW:Below w.heap.size w W)=>Kr x y n1 d2 k W hx hy hn1 hd2 hk (hG.below hW hG.size));have HC2:=ca (fun x y W (hx:cA W x n2) (hy:cA W y d1) (hW:Below w.heap.size w W)=>Kr x y n2 d1 k W hx hy hn2 hd1 hk (hG.below hW hG.size));have hg1:0<Nat.gcd n1 d2:=zg _ p2;have hg2:0<Nat.gcd n2 d1:=zg _ p1;have hl1:Nat.gcd n1 d2<=d2:=Wj _ p2;have hl2:Nat.gcd n2 d1<=d1:=Wj _ p1;generalize Nat.gcd n1 d2=g1 at *;generalize Nat.gcd n2 d1=g2 at *;have HO1:=ca (fun x y W (hx:cA W x n1) (hy:cA W y g1)=>yE x y n1 g1 k W hx hy hg1 hn1 hk);have HO2:=ca (fun x y W (hx:cA W x n2) (hy:cA W y g2)=>yE x y n2 g2 k W hx hy hg2 hn2 hk);have HO3:=ca (fun x y W (hx:cA W x d1) (hy:cA W y g2)=>yE x y d1 g2 k W hx hy hg2 hd1 hk);have HO4:=ca (fun x y W (hx:cA W x d2) (hy:cA W y g1)=>yE x y d2 g1 k W hx hy hg1 hd2 hk);have l1:n1/g1<B^k:=jz (kH _ _) hn1;have l2:n2/g2<B^k:=jz (kH _ _) hn2;have l3:d1/g2<B^k:=jz (kH _ _) hd1;have l4:d2/g1<B^k:=jz (kH _ _) hd2;have hpos:0<d1/g2*(d2/g1):=Cc (Jq hl2 hg2) (Jq hl1 hg1);generalize n1/g1=m1 at *;generalize n2/g2=m2 at *;generalize d1/g2=e1 at *;generalize d2/g1=e2 at *;have HT1:=ca (fun x y W (hx:cA W x m1) (hy:cA W y m2)=>Cw x y m1 m2 k W hx hy l1 l2 hk)
 have HT2:=ca (fun x y W (hx:cA W x e1) (hy:cA W y e2)=>Cw x y e1 e2 k W hx hy l3 l4 hk);have HF:=ca (fun x y W (hx:cA W x (m1*m2)) (hy:cA W y (e1*e2))=>Gs (!neg1 == neg2) x y (m1*m2) (e1*e2) W hx hy hpos);clear h1 h2 hn1 hd1 hn2 hd2 hG hg1 hg2 hl1 hl2 l1 l2 l3 l4 hpos p1 p2;generalize m1*m2=NUM at *;generalize e1*e2=DEN at *
 go_enter Tryz.func65,Tryz.ntmps65
 go_wp2_with fail;obtain⟨W0,hW0,hb0,⟨f0,f1,f2,f3⟩,⟨g0,g1,g2,g3⟩,hz⟩:=Zx w (.bool neg1) (u a1) (u b1) (.pointer q1) (.bool neg2) (u a2) (u b2) (.pointer q2);rw[← hW0];clear hW0;have HZ:=ca hz;have HW0:=ca hb0;have hb0:=cw W0.heap.size W0;clear hz;refine(HP1.out _ (cn HW0.out hb0)).mono ?_;rintro e W1 ⟨x1,y1,rfl,hx1,hy1,hb⟩
 (obtain⟨_,_,_,_,_,_,_,_⟩:=kP w hb)
 obtain⟨xa1,xl1,xc1,rfl,_⟩:=hx1.form;obtain⟨ya1,yl1,yc1,rfl,_⟩:=hy1.form;have HX1:=ca hx1;have HY1:=ca hy1;have HA1:=ca (cn hb0 hb);clear hb0 hb hx1 hy1 f0 f1 f2 f3 g0 g1 g2 g3;go_wp2_with fail;refine(HP2.out _ (cn HW0.out HA1.out)).mono ?_;rintro e W2 ⟨x2,y2,rfl,hx2,hy2,hb⟩
 (obtain⟨_,_,_,_,_,_,_,_⟩:=kP w hb)
 obtain⟨xa2,xl2,xc2,rfl,_⟩:=hx2.form;obtain⟨ya2,yl2,yc2,rfl,_⟩:=hy2.form;have HX1:=ca (HX1.out.below hb (cb _));have HY1:=ca (HY1.out.below hb (cb _));have HX2:=ca hx2;have HY2:=ca hy2;have HA2:=ca (cn HA1.out hb);clear hb hx2 hy2 HA1;have HA:=HA2;clear HA2;go_wp2_with fail;refine(HC1.out _ _ _ HX1.out HY2.out (cn HW0.out HA.out)).mono ?_;rintro e W3 ⟨g,rfl,hv,hb⟩
 (obtain⟨_,_,_,_,_,_,_,_⟩:=kP w hb)
 obtain⟨_,_,_,rfl,_⟩:=hv.form;have HX1:=ca (HX1.out.below hb (cb _));have HY1:=ca (HY1.out.below hb (cb _));have HX2:=ca (HX2.out.below hb (cb _));have HY2:=ca (HY2.out.below hb (cb _));have H_g:=ca hv;have HA:=ca (cn HA.out hb);clear hb hv;go_wp2_with fail;refine(HC2.out _ _ _ HX2.out HY1.out (cn HW0.out HA.out)).mono ?_;rintro e W4 ⟨h,rfl,hv,hb⟩
 (obtain⟨_,_,_,_,_,_,_,_⟩:=kP w hb)
 obtain⟨_,_,_,rfl,_⟩:=hv.form;have HX1:=ca (HX1.out.below hb (cb _));have HY1:=ca (HY1.out.below hb (cb _));have HX2:=ca (HX2.out.below hb (cb _));have HY2:=ca (HY2.out.below hb (cb _));have H_g:=ca (H_g.out.below hb (cb _));have H_h:=ca hv;have HA:=ca (cn HA.out hb);clear hb hv;go_wp2_with fail;refine(HO1.out _ _ _ HX1.out H_g.out).mono ?_;rintro e W5 ⟨r,rfl,hv,hb⟩
 (obtain⟨_,_,_,_,_,_,_,_⟩:=kP w hb)
 obtain⟨_,_,_,rfl,_⟩:=hv.form;have HY1:=ca (HY1.out.below hb (cb _));have HX2:=ca (HX2.out.below hb (cb _));have HY2:=ca (HY2.out.below hb (cb _));have H_g:=ca (H_g.out.below hb (cb _));have H_h:=ca (H_h.out.below hb (cb _));have H_r:=ca hv;have HA:=ca (cn HA.out hb);clear hb hv;go_wp2_with fail;refine(HO2.out _ _ _ HX2.out H_h.out).mono ?_;rintro e W6 ⟨s,rfl,hv,hb⟩
 (obtain⟨_,_,_,_,_,_,_,_⟩:=kP w hb)
 obtain⟨_,_,_,rfl,_⟩:=hv.form;have HY1:=ca (HY1.out.below hb (cb _));have HY2:=ca (HY2.out.below hb (cb _));have H_g:=ca (H_g.out.below hb (cb _));have H_h:=ca (H_h.out.below hb (cb _));have H_r:=ca (H_r.out.below hb (cb _));have H_s:=ca hv;have HA:=ca (cn HA.out hb);clear hb hv;go_wp2_with fail;refine(HT1.out _ _ _ H_r.out H_s.out).mono ?_;rintro e W7 ⟨num,rfl,hv,hb⟩
 (obtain⟨_,_,_,_,_,_,_,_⟩:=kP w hb)
 obtain⟨_,_,_,rfl,_⟩:=hv.form;have HY1:=ca (HY1.out.below hb (cb _));have HY2:=ca (HY2.out.below hb (cb _));have H_g:=ca (H_g.out.below hb (cb _));have H_h:=ca (H_h.out.below hb (cb _));have H_num:=ca hv;have HA:=ca (cn HA.out hb);clear hb hv;go_wp2_with fail;refine(HO3.out _ _ _ HY1.out H_h.out).mono ?_;rintro e W8 ⟨r,rfl,hv,hb⟩
 (obtain⟨_,_,_,_,_,_,_,_⟩:=kP w hb)
 obtain⟨_,_,_,rfl,_⟩:=hv.form;have HY2:=ca (HY2.out.below hb (cb _));have H_g:=ca (H_g.out.below hb (cb _));have H_num:=ca (H_num.out.below hb (cb _));have H_r:=ca hv;have HA:=ca (cn HA.out hb);clear hb hv;go_wp2_with fail;refine(HO4.out _ _ _ HY2.out H_g.out).mono ?_;rintro e W9 ⟨s,rfl,hv,hb⟩
 (obtain⟨_,_,_,_,_,_,_,_⟩:=kP w hb)
 obtain⟨_,_,_,rfl,_⟩:=hv.form;have H_num:=ca (H_num.out.below hb (cb _));have H_r:=ca (H_r.out.below hb (cb _));have H_s:=ca hv;have HA:=ca (cn HA.out hb);clear hb hv;go_wp2_with fail;refine(HT2.out _ _ _ H_r.out H_s.out).mono ?_;rintro e W10 ⟨den,rfl,hv,hb⟩
 (obtain⟨_,_,_,_,_,_,_,_⟩:=kP w hb)
 obtain⟨_,_,_,rfl,_⟩:=hv.form;have H_num:=ca (H_num.out.below hb (cb _));have H_den:=ca hv;have HA:=ca (cn HA.out hb);clear hb hv;go_wp2_with fail;refine(HF.out _ _ _ H_num.out H_den.out).mono ?_;rintro e W11 ⟨v,rfl,hN,hb⟩
 (obtain⟨_,_,_,_,_,_,_,_⟩:=kP w hb)
 have hb3:=cn HA.out hb;obtain⟨a,b,p,rfl,_⟩:=hN.form;have hz:=HZ.out.below hb3 (cb _);have hfin:=yB.stored (a0:=.bool ((!neg1 == neg2)&&!decide (NUM=0))) (a1:=u a) (a2:=u b) (a3:=.pointer p) hz hN (cn HW0.out hb3) (by omega);have HFin:=ca hfin
 (obtain⟨z0,z1,z2,z3,zf0,zf1,zf2,zf3⟩:=HZ.out.zed hb3)
 clear hfin hN hb hb3;generalize ((!neg1 == neg2)&&!decide (NUM=0))=sg at *;go_wp2_with fail;refine cP (v:=.agg #[.bool sg,u a,u b,.pointer p]) (by simp [results,Tryz.results65,go_sem,z0,z1,z2,z3]) rfl ?_;exact HFin.out
theorem addS_lt {a b:Bool}{x y j:Nat}(hx:x<B^j) (hy:y<B^j):(zj a x b y).2<B^(j+1):=by
 have h2:2*B^j<=B^(j+1):=by
  rw[jl,jg];exact jw _ (by decide)
 have:(zj a x b y).2<=x+y:=by
  unfold zj;split
  ·exact cb _
  ·split
   ·show x-y<=x+y;omega
   ·show y-x<=x+y;omega
 omega
set_option maxHeartbeats 3200000 in
theorem cfY (v1 v2:Value) (neg1 neg2:Bool) (n1 d1 n2 d2 k:Nat) (w:World) (h1:Num w v1 neg1 n1 d1) (h2:Num w v2 neg2 n2 d2)
 (hn1:n1<B^k) (hd1:d1<B^k) (hn2:n2<B^k) (hd2:d2<B^k) (p1:0<d1) (p2:0<d2) (hk:((k+k+1:Nat):Int)<=1073741824) (hG:Gr w) :
 Calls Tryz.prog 79 #[v1,v2] w (yB w (ccn neg1 n1 d1 neg2 n2 d2).1 (Zi neg1 n1 d1 neg2 n2 d2) (sumD neg1 n1 d1 neg2 n2 d2)):=by
 have HP1:=ca (fun W (hW:Below w.heap.size w W)=>Ez v1 neg1 n1 d1 W (h1.below hW (cb _)));have HP2:=ca (fun W (hW:Below w.heap.size w W)=>Ez v2 neg2 n2 d2 W (h2.below hW (cb _)));obtain⟨a1,b1,q1,rfl,_⟩:=h1.form;obtain⟨a2,b2,q2,rfl,_⟩:=h2.form;have hk1:(k:Int)<=1073741824:=by omega
 have hk2:((k+k:Nat):Int)<=1073741824:=by omega
 have HC1:=ca (fun x y W (hx:cA W x d1) (hy:cA W y d2) (hW:Below w.heap.size w W)=>Kr x y d1 d2 k W hx hy hd1 hd2 hk1 (hG.below hW hG.size));have hg:0<Nat.gcd d1 d2:=zg _ p2;have hgl:Nat.gcd d1 d2<=d1:=Nat.gcd_le_left _ p1;have hdv:Nat.gcd d1 d2 ∣ d2:=yJ _ _;unfold Zi sumD sumX ccn;generalize Nat.gcd d1 d2=g at *;have HO1:=ca (fun x y W (hx:cA W x d1) (hy:cA W y g)=>yE x y d1 g k W hx hy hg hd1 hk1);have HO2:=ca (fun x y W (hx:cA W x d2) (hy:cA W y g)=>yE x y d2 g k W hx hy hg hd2 hk1);have l1:d1/g<B^k:=jz (kH _ _) hd1;have l2:d2/g<B^k:=jz (kH _ _) hd2;have hr1:0<d1/g:=Jq hgl hg;generalize d1/g=r1 at *;generalize d2/g=r2 at *;have HT1:=ca (fun x y W (hx:cA W x n1) (hy:cA W y r2)=>Cw x y n1 r2 k W hx hy hn1 l2 hk1);have HT2:=ca (fun x y W (hx:cA W x n2) (hy:cA W y r1)=>Cw x y n2 r1 k W hx hy hn2 l1 hk1);have m1:n1*r2<B^(k+k):=Cn hn1 l2;have m2:n2*r1<B^(k+k):=Cn hn2 l1;generalize n1*r2=L at *;generalize n2*r1=R at *;have HAS:=ca (fun x y W (hx:cA W x L) (hy:cA W y R)=>cdq neg1 neg2 x y L R (k+k) W hx hy m1 m2 hk2);have hsum:=addS_lt (a:=neg1) (b:=neg2) m1 m2;generalize (zj neg1 L neg2 R).1=NEG at *;generalize (zj neg1 L neg2 R).2=S at *;have hgB:g<B^(k+k+1):=jz hgl (cF hd1 (ke ki (by omega)));have HC2:=ca (fun x y W (hx:cA W x S) (hy:cA W y g) (hW:Below w.heap.size w W)=>Kr x y S g (k+k+1) W hx hy hsum hgB hk (hG.below hW hG.size));have hx0:0<Nat.gcd S g:=zg _ hg;have hxl:Nat.gcd S g<=d2:=cC (Wj _ hg) (Nat.le_of_dvd p2 hdv)
 generalize Nat.gcd S g=X at *;have HO3:=ca (fun x y W (hx:cA W x S) (hy:cA W y X)=>yE x y S X (k+k+1) W hx hy hx0 hsum hk);have HO4:=ca (fun x y W (hx:cA W x d2) (hy:cA W y X)=>yE x y d2 X k W hx hy hx0 hd2 hk1);have l4:d2/X<B^k:=jz (kH _ _) hd2;have hpos:0<r1*(d2/X):=Cc hr1 (Jq hxl hx0);generalize d2/X=E at *;generalize S/X=NUM at *;have HT3:=ca (fun x y W (hx:cA W x r1) (hy:cA W y E)=>Cw x y r1 E k W hx hy l1 l4 hk1);have HF:=ca (fun x y W (hx:cA W x NUM) (hy:cA W y (r1*E))=>Gs NEG x y NUM (r1*E) W hx hy hpos);generalize r1*E=DEN at *;clear h1 h2 hn1 hd1 hn2 hd2 hG hg hgl hdv l1 l2 hr1 m1 m2 hsum hgB hx0 hxl l4 hpos p1 p2 hk1 hk2
 go_enter Tryz.func79,Tryz.ntmps79
 go_wp2_with fail;obtain⟨W0,hW0,hb0,⟨f0,f1,f2,f3⟩,⟨g0,g1,g2,g3⟩,hz⟩:=Zx w (.bool neg1) (u a1) (u b1) (.pointer q1) (.bool neg2) (u a2) (u b2) (.pointer q2);rw[← hW0];clear hW0;have HZ:=ca hz;have HW0:=ca hb0;have hb0:=cw W0.heap.size W0;clear hz;refine(HP1.out _ (cn HW0.out hb0)).mono ?_;rintro e W1 ⟨x1,y1,rfl,hx1,hy1,hb⟩
 (obtain⟨_,_,_,_,_,_,_,_⟩:=kP w hb)
 obtain⟨xa1,xl1,xc1,rfl,_⟩:=hx1.form;obtain⟨ya1,yl1,yc1,rfl,_⟩:=hy1.form;have HX1:=ca hx1;have HY1:=ca hy1;have HA1:=ca (cn hb0 hb);clear hb0 hb hx1 hy1 f0 f1 f2 f3 g0 g1 g2 g3;go_wp2_with fail;refine(HP2.out _ (cn HW0.out HA1.out)).mono ?_;rintro e W2 ⟨x2,y2,rfl,hx2,hy2,hb⟩
 (obtain⟨_,_,_,_,_,_,_,_⟩:=kP w hb)
 obtain⟨xa2,xl2,xc2,rfl,_⟩:=hx2.form;obtain⟨ya2,yl2,yc2,rfl,_⟩:=hy2.form;have HX1:=ca (HX1.out.below hb (cb _));have HY1:=ca (HY1.out.below hb (cb _));have HX2:=ca hx2;have HY2:=ca hy2;have HA2:=ca (cn HA1.out hb);clear hb hx2 hy2 HA1;have HA:=HA2;clear HA2;go_wp2_with fail;refine(HC1.out _ _ _ HY1.out HY2.out (cn HW0.out HA.out)).mono ?_;rintro e W3 ⟨g,rfl,hv,hb⟩
 (obtain⟨_,_,_,_,_,_,_,_⟩:=kP w hb)
 obtain⟨_,_,_,rfl,_⟩:=hv.form;have HX1:=ca (HX1.out.below hb (cb _));have HY1:=ca (HY1.out.below hb (cb _));have HX2:=ca (HX2.out.below hb (cb _));have HY2:=ca (HY2.out.below hb (cb _));have H_g:=ca hv;have HA:=ca (cn HA.out hb);clear hb hv;go_wp2_with fail;refine(HO1.out _ _ _ HY1.out H_g.out).mono ?_;rintro e W4 ⟨r,rfl,hv,hb⟩
 (obtain⟨_,_,_,_,_,_,_,_⟩:=kP w hb)
 obtain⟨_,_,_,rfl,_⟩:=hv.form;have HX1:=ca (HX1.out.below hb (cb _));have HX2:=ca (HX2.out.below hb (cb _));have HY2:=ca (HY2.out.below hb (cb _));have H_g:=ca (H_g.out.below hb (cb _));have H_r:=ca hv;have HA:=ca (cn HA.out hb);clear hb hv;go_wp2_with fail;refine(HO2.out _ _ _ HY2.out H_g.out).mono ?_;rintro e W5 ⟨s,rfl,hv,hb⟩
 (obtain⟨_,_,_,_,_,_,_,_⟩:=kP w hb)
 obtain⟨_,_,_,rfl,_⟩:=hv.form;have HX1:=ca (HX1.out.below hb (cb _));have HX2:=ca (HX2.out.below hb (cb _));have HY2:=ca (HY2.out.below hb (cb _));have H_g:=ca (H_g.out.below hb (cb _));have H_r:=ca (H_r.out.below hb (cb _));have H_s:=ca hv;have HA:=ca (cn HA.out hb);clear hb hv;go_wp2_with fail
 go_region_held3 (fun w'=>(w'.cell? ⟨w.heap.size,0,none⟩=some (.bool neg1)/\w'.cell? ⟨w.heap.size,1,none⟩=some (u a1)/\w'.cell? ⟨w.heap.size,2,none⟩=some (u b1)/\w'.cell? ⟨w.heap.size,3,none⟩=some (.pointer q1))/\(w'.cell? ⟨w.heap.size+1,0,none⟩=some (.bool neg2)/\w'.cell? ⟨w.heap.size+1,1,none⟩=some (u a2)/\w'.cell? ⟨w.heap.size+1,2,none⟩=some (u b2)/\w'.cell? ⟨w.heap.size+1,3,none⟩=some (.pointer q2))) (go_keep) (first|((with_reducible refine(HT1.out _ _ _ (HX1.out.below (cw _ _).drew (cb _)) (H_s.out.below (cw _ _).drew (cb _))).mono ?_);rintro e W6 ⟨a,rfl,ha,hb⟩;(obtain⟨_,_,_,_,_,_,_,_⟩:=kP w hb);obtain⟨_,_,_,rfl,_⟩:=ha.form)|((with_reducible refine(HT2.out _ _ _ (HX2.out.below (ug (cw _ _) hb) (cb _)) (H_r.out.below (ug (cw _ _) hb) (cb _))).mono ?_);rintro e W7 ⟨b,rfl,hv,hb'⟩;(obtain⟨_,_,_,_,_,_,_,_⟩:=kP w hb');obtain⟨_,_,_,rfl,_⟩:=hv.form)|((with_reducible refine(HAS.out _ _ _ (ha.below hb' (cb _)) hv).mono ?_);rintro e W8 ⟨t,rfl,ht,hb''⟩;(obtain⟨_,_,_,_,_,_,_,_⟩:=kP w hb'');obtain⟨_,_,_,rfl,_⟩:=ht.form))
 have hbb:=cn (cn (ug (cw _ _) hb) hb') hb'';have HY2:=ca (HY2.out.below hbb (cb _));have H_g:=ca (H_g.out.below hbb (cb _));have H_r:=ca (H_r.out.below hbb (cb _));have H_t:=ca ht;have HA:=ca (cn HA.out hbb);clear hb hb' hb'' hbb ha hv ht;go_wp2_with fail;refine(HC2.out _ _ _ H_t.out H_g.out (cn HW0.out HA.out)).mono ?_;rintro e W9 ⟨x,rfl,hv,hb⟩
 (obtain⟨_,_,_,_,_,_,_,_⟩:=kP w hb)
 obtain⟨_,_,_,rfl,_⟩:=hv.form;have HY2:=ca (HY2.out.below hb (cb _));have H_r:=ca (H_r.out.below hb (cb _));have H_t:=ca (H_t.out.below hb (cb _));have H_x:=ca hv;have HA:=ca (cn HA.out hb);clear hb hv;go_wp2_with fail;refine(HO3.out _ _ _ H_t.out H_x.out).mono ?_;rintro e W10 ⟨num,rfl,hv,hb⟩
 (obtain⟨_,_,_,_,_,_,_,_⟩:=kP w hb)
 obtain⟨_,_,_,rfl,_⟩:=hv.form;have HY2:=ca (HY2.out.below hb (cb _));have H_r:=ca (H_r.out.below hb (cb _));have H_x:=ca (H_x.out.below hb (cb _));have H_num:=ca hv;have HA:=ca (cn HA.out hb);clear hb hv;go_wp2_with fail;refine(HO4.out _ _ _ HY2.out H_x.out).mono ?_;rintro e W11 ⟨q,rfl,hv,hb⟩
 (obtain⟨_,_,_,_,_,_,_,_⟩:=kP w hb)
 obtain⟨_,_,_,rfl,_⟩:=hv.form;have H_r:=ca (H_r.out.below hb (cb _));have H_num:=ca (H_num.out.below hb (cb _));have H_q:=ca hv;have HA:=ca (cn HA.out hb);clear hb hv;go_wp2_with fail;refine(HT3.out _ _ _ H_r.out H_q.out).mono ?_;rintro e W12 ⟨den,rfl,hv,hb⟩
 (obtain⟨_,_,_,_,_,_,_,_⟩:=kP w hb)
 obtain⟨_,_,_,rfl,_⟩:=hv.form;have H_num:=ca (H_num.out.below hb (cb _));have H_den:=ca hv;have HA:=ca (cn HA.out hb);clear hb hv;go_wp2_with fail;refine(HF.out _ _ _ H_num.out H_den.out).mono ?_;rintro e W13 ⟨v,rfl,hN,hb⟩
 (obtain⟨_,_,_,_,_,_,_,_⟩:=kP w hb)
 have hb3:=cn HA.out hb;obtain⟨a,b,p,rfl,_⟩:=hN.form;have hz:=HZ.out.below hb3 (cb _);have hfin:=yB.stored (a0:=.bool (NEG&&!decide (NUM=0))) (a1:=u a) (a2:=u b) (a3:=.pointer p) hz hN (cn HW0.out hb3) (by omega);have HFin:=ca hfin
 (obtain⟨z0,z1,z2,z3,zf0,zf1,zf2,zf3⟩:=HZ.out.zed hb3)
 clear hfin hN hb hb3;generalize (NEG&&!decide (NUM=0))=sg at *;go_wp2_with fail;refine cP (v:=.agg #[.bool sg,u a,u b,.pointer p]) (by simp [results,Tryz.results79,go_sem,z0,z1,z2,z3]) rfl ?_;exact HFin.out
def sgn (neg:Bool) (n:Nat):Int:=if neg then -(n:Int) else (n:Int)
theorem Gu (neg:Bool) (n:Nat):(sgn neg n).natAbs=n:=by unfold sgn;split<;>omega
theorem cbg (neg:Bool) (n:Nat):decide (sgn neg n<0)=(neg&&!decide (n=0)):=by
 unfold sgn;cases neg
 ·simp
 ·rw[GX];simp;omega
theorem Uh (i:Int):sgn (decide (i<0)) i.natAbs=i:=by
 unfold sgn;by_cases h:i<0
 ·simp only[h,decide_true,Cg];omega
 ·simp only[h,decide_false,UN,GC];omega
theorem coB (a b:Bool) (x y:Nat):sgn (zj a x b y).1 (zj a x b y).2=sgn a x+sgn b y:=by
 unfold zj sgn;by_cases h:y<=x<;>cases a<;>cases b<;>simp [h]<;>omega
theorem rat_eq {r:Rat}{N:Int}{D:Nat}(hD:0<D) (hc:N.natAbs.Coprime D) (P:Int) (Q:Nat) (hQ:Q≠0) (hr:r=mkRat P Q) (h:P*D=N*Q):r.num=N/\r.den=D:=by
 have hq:r=⟨N,D,Nat.ne_of_gt hD,hc⟩:=by
  rw[hr,← Rat.mkRat_self ⟨N,D,Nat.ne_of_gt hD,hc⟩];exact(Rat.mkRat_eq_iff hQ (Nat.ne_of_gt hD)).2 h
 subst hq;exact⟨rfl,rfl⟩
abbrev neg? (r:Rat):Bool:=decide (r.num<0)
theorem WO (a b:Rat) :
 (a+b).num=sgn (ccn (neg? a) a.num.natAbs a.den (neg? b) b.num.natAbs b.den).1 (Zi (neg? a) a.num.natAbs a.den (neg? b) b.num.natAbs b.den)/\
  (a+b).den=sumD (neg? a) a.num.natAbs a.den (neg? b) b.num.natAbs b.den:=by
 have hg:0<Nat.gcd a.den b.den:=zg _ b.den_pos;have haux:=Rat.add.aux a b (g:=Nat.gcd a.den b.den) rfl rfl rfl;simp only at haux;have e1:a.den/Nat.gcd a.den b.den*Nat.gcd a.den b.den=a.den:=Jz (zi _ _);have e2:b.den/Nat.gcd a.den b.den*Nat.gcd a.den b.den=b.den:=Jz (yJ _ _);have hdvd:=yJ a.den b.den;have hr1:0<a.den/Nat.gcd a.den b.den:=Jq (Nat.gcd_le_left _ a.den_pos) hg;have hsum:=coB (neg? a) (neg? b) (a.num.natAbs*(b.den/Nat.gcd a.den b.den)) (b.num.natAbs*(a.den/Nat.gcd a.den b.den));have hm:∀ (i:Int) (x:Nat),sgn (decide (i<0)) (i.natAbs*x)=i*x:=by
  intro i x;have:=Uh i;unfold sgn at this ⊢;split
  ·rename_i h;rw[cq h] at this;rw[uv,← Int.neg_mul,this]
  ·rename_i h;rw[cg h] at this;rw[uv,this]
 rw[hm,hm] at hsum;have hb:=b.den_pos;have hnz:a.den*b.den≠0:=Nat.ne_of_gt (Cc a.den_pos b.den_pos);have hdef:=Rat.add_def' a b;unfold Zi sumD sumX ccn;rw[← hsum] at haux;rw[Gu] at haux;generalize hSS:zj (neg? a) (a.num.natAbs*(b.den/Nat.gcd a.den b.den)) (neg? b) (b.num.natAbs*(a.den/Nat.gcd a.den b.den))=S at *;generalize Nat.gcd a.den b.den=g at *;generalize a.den/g=r1 at *;generalize b.den/g=r2 at *;have hX0:0<Nat.gcd S.2 g:=zg _ hg;have hXb:Nat.gcd S.2 g ∣ b.den:=Nat.dvd_trans (yJ _ _) hdvd;have hXS:S.2/Nat.gcd S.2 g*Nat.gcd S.2 g=S.2:=Jz (zi _ _);have hXE:b.den/Nat.gcd S.2 g*Nat.gcd S.2 g=b.den:=Jz hXb;have hcop:Nat.Coprime (S.2/Nat.gcd S.2 g) (r1*(b.den/Nat.gcd S.2 g)):=by
  rw[← Nat.mul_div_assoc _ hXb,haux];refine cfA ?_;rw[← haux];exact hX0
 have hE0:0<b.den/Nat.gcd S.2 g:=Jq (Nat.le_of_dvd hb hXb) hX0;generalize Nat.gcd S.2 g=X at *;generalize S.2/X=N at *;generalize hE:b.den/X=E at *;refine rat_eq (Cc hr1 hE0) (by rw[Gu];exact hcop) _ _ hnz hdef ?_;have hs:sgn S.1 S.2=sgn S.1 N*X:=by
  unfold sgn;rw[← hXS];split<;>rw[uv];rw[Int.neg_mul]
 rw[hs] at hsum;generalize sgn S.1 N=NN at *;generalize a.num=an at *;generalize b.num=bn at *;rw[← e1];have e2':((b.den:Nat):Int)=(r2:Int)*g:=by rw[← e2];simp
 have e3':((b.den:Nat):Int)=(E:Int)*X:=by rw[← hXE];simp
 simp only[uv];generalize ((b.den:Nat):Int)=bd at *;grind
theorem WM (a b:Rat) :
 (a*b).num=sgn (!neg? a == neg? b) (a.num.natAbs/Nat.gcd a.num.natAbs b.den*(b.num.natAbs/Nat.gcd b.num.natAbs a.den))/\
  (a*b).den=a.den/Nat.gcd b.num.natAbs a.den*(b.den/Nat.gcd a.num.natAbs b.den):=by
 have hg1:0<Nat.gcd a.num.natAbs b.den:=zg _ b.den_pos;have hg2:0<Nat.gcd b.num.natAbs a.den:=zg _ a.den_pos;have hc:((a.num.natAbs/Nat.gcd a.num.natAbs b.den)*(b.num.natAbs/Nat.gcd b.num.natAbs a.den)).Coprime ((a.den/Nat.gcd b.num.natAbs a.den)*(b.den/Nat.gcd a.num.natAbs b.den)):=by
  rw[Nat.coprime_mul_iff_left];refine⟨Nat.coprime_mul_iff_right.2 ⟨?_,?_⟩,Nat.coprime_mul_iff_right.2 ⟨?_,?_⟩⟩
  ·exact a.reduced.coprime_div_left (zi ..) |>.coprime_div_right (yJ ..)
  ·exact cfA hg1
  ·exact cfA hg2
  ·exact b.reduced.coprime_div_left (zi ..) |>.coprime_div_right (yJ ..)
 have e1:a.num.natAbs/Nat.gcd a.num.natAbs b.den*Nat.gcd a.num.natAbs b.den=a.num.natAbs:=Jz (zi _ _);have e2:b.num.natAbs/Nat.gcd b.num.natAbs a.den*Nat.gcd b.num.natAbs a.den=b.num.natAbs:=Jz (zi _ _);have e3:a.den/Nat.gcd b.num.natAbs a.den*Nat.gcd b.num.natAbs a.den=a.den:=Jz (yJ _ _);have e4:b.den/Nat.gcd a.num.natAbs b.den*Nat.gcd a.num.natAbs b.den=b.den:=Jz (yJ _ _);have p3:0<a.den/Nat.gcd b.num.natAbs a.den:=Jq (Wj _ a.den_pos) hg2;have p4:0<b.den/Nat.gcd a.num.natAbs b.den:=Jq (Wj _ b.den_pos) hg1;have hnz:a.den*b.den≠0:=Nat.ne_of_gt (Cc a.den_pos b.den_pos);have hdef:=Rat.mul_def' a b;have ha:=Uh a.num;have hb:=Uh b.num;generalize Nat.gcd a.num.natAbs b.den=g1 at *;generalize Nat.gcd b.num.natAbs a.den=g2 at *;generalize a.num.natAbs/g1=m1 at *;generalize b.num.natAbs/g2=m2 at *;generalize a.den/g2=q1 at *;generalize b.den/g1=q2 at *;refine rat_eq (Cc p3 p4) (by rw[Gu];exact hc) _ _ hnz hdef ?_;have hs:a.num*b.num=sgn (!neg? a == neg? b) (m1*m2)*(g1*g2):=by
  rw[← ha,← hb,← e1,← e2];unfold sgn;by_cases h1:a.num<0<;>by_cases h2:b.num<0<;>simp [h1,h2]<;>grind
 rw[hs,← e3,← e4];simp only[uv];grind
theorem yB.q {w w':World}{neg:Bool}{n d:Nat}{e:Ending}{r:Rat}(h:yB w neg n d e w') (hn:r.num=sgn neg n) (hd:r.den=d):yf w r e w':=by
 obtain⟨v,he,hN,hb⟩:=h;refine⟨v,he,?_,hb⟩;unfold IsQ;rw[hn,Gu,cbg];have:r.den=if n=0 then 1 else d:=by
  split
  ·rename_i h0;have hz:r.num=0:=by rw[hn,h0];unfold sgn;simp
   have:=r.reduced;rw[hz] at this;simpa using this
  ·exact hd
 rw[this];exact hN
theorem yf.stored {w W:World}{R:Nat}{v:Value}{r:Rat}{a0 a1 a2 a3:Value}(hR:Box W R (.bool false) (.int .u64 0) (.int .u64 0) (.pointer none))
 (h:IsQ W v r) (hb:Below w.heap.size w W) (hw:w.heap.size<=R) :
 yf w r (.returned v) ((((W.setCell ⟨R,0,none⟩ a0).setCell ⟨R,1,none⟩ a1).setCell ⟨R,2,none⟩ a2).setCell ⟨R,3,none⟩ a3):=by
 have ho:=((((jL.refl R W).set 0 a0).set 1 a1).set 2 a2).set 3 a3;exact⟨v,rfl,Num.only hR h ho,hb.trans (ho.below hw)⟩
theorem IsQ.form {w:World}{v:Value}{r:Rat}(h:IsQ w v r):∃ sg a b p,v=.agg #[.bool sg,u a,u b,.pointer p]:=by
 obtain⟨a,b,p,h,_⟩:=Num.form h;exact⟨_,a,b,p,h⟩
theorem cjz (v1 v2:Value) (r s:Rat) (k:Nat) (w:World) (h1:IsQ w v1 r) (h2:IsQ w v2 s) (z1:Siz r k) (z2:Siz s k) (hk:((k+k+1:Nat):Int)<=1073741824) (hG:Gr w) :
 Calls Tryz.prog 79 #[v1,v2] w (yf w (r+s)) :=
 (cfY v1 v2 _ _ _ _ _ _ k w h1 h2 z1.1 z1.2 z2.1 z2.2 r.den_pos s.den_pos hk hG).mono fun _ _ h=>h.q (WO r s).1 (WO r s).2
theorem UM (v1 v2:Value) (r s:Rat) (k:Nat) (w:World) (h1:IsQ w v1 r) (h2:IsQ w v2 s) (z1:Siz r k) (z2:Siz s k) (hk:(k:Int)<=1073741824) (hG:Gr w) :
 Calls Tryz.prog 65 #[v1,v2] w (yf w (r*s)) :=
 (cdy v1 v2 _ _ _ _ _ _ k w h1 h2 z1.1 z1.2 z2.1 z2.2 r.den_pos s.den_pos hk hG).mono fun _ _ h=>h.q (WM r s).1 (WM r s).2
def ciO (w:World) (r:Rat) (e:Ending) (w':World):Prop :=
 ∃ a b c,∃ ok:Bool,e=.returned (.tuple #[lo a b c,.bool ok])/\(ok=true->∀ W,IsQ W (lo a b c) r)/\Below w.heap.size w w'
theorem WE.q {w w':World}{neg:Bool}{n d:Nat}{e:Ending}{r:Rat}(h:WE w neg n d e w') (hn:r.num=sgn neg n) (hd:r.den=d):ciO w r e w':=by
 obtain⟨a,b,c,ok,he,h1,h2,hb⟩:=h;refine⟨a,b,c,ok,he,fun hok W=>?_,hb⟩;obtain⟨i1,i2⟩:=h2 hok;obtain⟨j1,j2,j3⟩:=h1 hok ⟨i1,i2,hd▸r.den_pos⟩;unfold IsQ;rw[hn,Gu,cbg,← j1,hd,← j2];exact Num.low c rfl j3.symm (j2▸i1) i2
theorem IsQ.forms {w:World}{v:Value}{r:Rat}(h:IsQ w v r) :
 (∃ l,v=lo (neg? r) r.num.natAbs l/\r.den=l+1/\r.num.natAbs<B/\r.den<B)\/(∃ b,v=wi (neg? r) ⟨b,0,none⟩):=by
 cases h with
 |low l hv hd hn hdB=>exact .inl ⟨l,hv,hd,hn,hdB⟩
 |wide b x y hv hx hy h1 h2 hB h0 hd=>exact .inr ⟨b,hv⟩
theorem chi (r s:Rat) (l1 l2:Nat) (w:World) (d1:r.den=l1+1) (d2:s.den=l2+1) (h1:r.num.natAbs<B) (h2:r.den<B) (h3:s.num.natAbs<B) (h4:s.den<B) (hG:Gr w) :
 Calls Tryz.prog 78 #[lo (neg? r) r.num.natAbs l1,lo (neg? s) s.num.natAbs l2] w (ciO w (r+s)):=by
 refine(cdt (neg? r) (neg? s) _ l1 _ l2 h1 (d1▸h2) h3 (d2▸h4) w hG).mono fun _ _ h=>?_;rw[← d1,← d2] at h;exact h.q (WO r s).1 (WO r s).2
theorem cfc (r s:Rat) (l1 l2:Nat) (w:World) (d1:r.den=l1+1) (d2:s.den=l2+1) (h1:r.num.natAbs<B) (h2:r.den<B) (h3:s.num.natAbs<B) (h4:s.den<B) (hG:Gr w) :
 Calls Tryz.prog 81 #[lo (neg? r) r.num.natAbs l1,lo (neg? s) s.num.natAbs l2] w (ciO w (r*s)):=by
 refine(cch (neg? r) (neg? s) _ l1 _ l2 h1 (d1▸h2) h3 (d2▸h4) w hG).mono fun _ _ h=>?_;rw[← d1,← d2] at h;refine h.q ?_ (WM r s).2;have:=(WM r s).1;rw[this];congr 1
theorem cjB (v1 v2:Value) (r s:Rat) (k:Nat) (w:World) (h1:IsQ w v1 r) (h2:IsQ w v2 s) (z1:Siz r k) (z2:Siz s k) (hk:((k+k+1:Nat):Int)<=1073741824) (hG:Gr w) :
 Calls Tryz.prog 37 #[v1,v2] w (yf w (r+s)):=by
 have HW:=ca (fun W (hW:Below w.heap.size w W)=>cjz v1 v2 r s k W (h1.below hW (cb _)) (h2.below hW (cb _)) z1 z2 hk (hG.below hW hG.size));rcases h1.forms with⟨l1,rfl,d1,i1,j1⟩|⟨b1,rfl⟩
 ·rcases h2.forms with⟨l2,rfl,d2,i2,j2⟩|⟨b2,rfl⟩
  ·have HS:=ca (fun W (hW:Below w.heap.size w W)=>chi r s l1 l2 W d1 d2 i1 j1 i2 j2 (hG.below hW hG.size));clear h1 h2 z1 z2 hk hG d1 d2 j1 j2;generalize neg? r=neg1 at *;generalize neg? s=neg2 at *;generalize r.num.natAbs=n1 at *;generalize s.num.natAbs=n2 at *;generalize r+s=t at *
   go_enter Tryz.func37,Tryz.ntmps37
   go_wp2_with fail;obtain⟨W0,hW0,hb0,⟨f0,f1,f2,f3⟩,⟨g0,g1,g2,g3⟩,hz⟩:=Zx w (.bool neg1) (u n1) (u l1) (.pointer none) (.bool neg2) (u n2) (u l2) (.pointer none);rw[← hW0];clear hW0;have HZ:=ca hz;have HW0:=ca hb0;have hb0:=cw W0.heap.size W0;clear hz;refine(HS.out _ (cn HW0.out hb0)).mono ?_;rintro e W1 ⟨a,b,c,ok,rfl,hok,hb⟩
   (obtain⟨_,_,_,_,_,_,_,_⟩:=kP w hb)
   have HA:=ca (cn hb0 hb);have HOK:=ca hok;clear hb0 hb hok f0 f1 f2 f3 g0 g1 g2 g3
   (obtain⟨z0,z1,z2,z3,zf0,zf1,zf2,zf3⟩:=HZ.out.zed HA.out)
   have q0:w.heap.size<W1.heap.size:=jC W1 ⟨w.heap.size,0,none⟩ (by assumption);have q1:w.heap.size+1<W1.heap.size:=jC W1 ⟨w.heap.size+1,0,none⟩ (by assumption);have q2:w.heap.size+1+1<W1.heap.size:=jC W1 ⟨w.heap.size+1+1,0,none⟩ z0;cases ok
   ·go_wp2_with fail;have HA':=ca (cn HA.out (jI W1 (.cells #[.bool a,.int .u64 (b:Int),.int .u64 (c:Int),.pointer none] 39)));clear z0 z1 z2 z3 zf0 zf1 zf2 zf3 q0 q1 q2;refine(HW.out _ (cn HW0.out HA'.out)).mono ?_;rintro e W9 ⟨v,rfl,hN,hb⟩;have hb3:=cn HA'.out hb;have hN':=hN;obtain⟨sg,a9,b9,p9,rfl⟩:=hN'.form;have hz:=HZ.out.below hb3 (cb _);have hfin:=yf.stored (a0:=.bool sg) (a1:=u a9) (a2:=u b9) (a3:=.pointer p9) hz hN (cn HW0.out hb3) (by omega);have HFin:=ca hfin
    (obtain⟨z0,z1,z2,z3,zf0,zf1,zf2,zf3⟩:=HZ.out.zed hb3)
    clear hfin hN hN' hb hb3;go_wp2_with fail;refine cP (v:=.agg #[.bool sg,u a9,u b9,.pointer p9]) (by simp [results,Tryz.results37,go_sem,z0,z1,z2,z3]) rfl ?_;exact HFin.out
   ·have hT:=HOK.out rfl;have HT:=ca hT;clear hT;go_wp2_with fail;refine cP (v:=lo a b c) (by simp [results,Tryz.results37,go_sem,z0,z1,z2,z3,q2]) rfl ?_;exact⟨_,rfl,HT.out _,(uO HW0.out HA.out (by omega) _ _ _ _).trans ((jI _ _).mono (uO HW0.out HA.out (by omega) _ _ _ _).size)⟩
  ·clear h1 h2 z1 z2 hk hG;generalize neg? r=neg1 at *;generalize neg? s=neg2 at *;generalize r.num.natAbs=n1 at *;generalize r+s=t at *;clear d1 i1 j1
   go_enter Tryz.func37,Tryz.ntmps37
   go_wp2_with fail;obtain⟨W0,hW0,hb0,⟨f0,f1,f2,f3⟩,⟨g0,g1,g2,g3⟩,hz⟩:=Zx w (.bool neg1) (u n1) (u l1) (.pointer none) (.bool neg2) (u 0) (u 0) (.pointer (some ⟨b2,0,none⟩));rw[← hW0];clear hW0;have HZ:=ca hz;have HW0:=ca hb0;have hb0:=cw W0.heap.size W0;clear hz;refine(HW.out _ (cn HW0.out hb0)).mono ?_;rintro e W9 ⟨v,rfl,hN,hb⟩;have hb3:=cn hb0 hb;have hN':=hN;obtain⟨sg,a9,b9,p9,rfl⟩:=hN'.form;have hz:=HZ.out.below hb3 (cb _);have hfin:=yf.stored (a0:=.bool sg) (a1:=u a9) (a2:=u b9) (a3:=.pointer p9) hz hN (cn HW0.out hb3) (by omega);have HFin:=ca hfin
   (obtain⟨z0,z1,z2,z3,zf0,zf1,zf2,zf3⟩:=HZ.out.zed hb3)
   clear hfin hN hN' hb hb3;go_wp2_with fail;refine cP (v:=.agg #[.bool sg,u a9,u b9,.pointer p9]) (by simp [results,Tryz.results37,go_sem,z0,z1,z2,z3]) rfl ?_;exact HFin.out
 ·obtain⟨neg2,a2,b2,p2,rfl⟩:=h2.form;clear h1 h2 z1 z2 hk hG;generalize neg? r=neg1 at *;generalize r+s=t at *
  go_enter Tryz.func37,Tryz.ntmps37
  go_wp2_with fail;obtain⟨W0,hW0,hb0,⟨f0,f1,f2,f3⟩,⟨g0,g1,g2,g3⟩,hz⟩:=Zx w (.bool neg1) (u 0) (u 0) (.pointer (some ⟨b1,0,none⟩)) (.bool neg2) (u a2) (u b2) (.pointer p2);rw[← hW0];clear hW0;have HZ:=ca hz;have HW0:=ca hb0;have hb0:=cw W0.heap.size W0;clear hz;refine(HW.out _ (cn HW0.out hb0)).mono ?_;rintro e W9 ⟨v,rfl,hN,hb⟩;have hb3:=cn hb0 hb;have hN':=hN;obtain⟨sg,a9,b9,p9,rfl⟩:=hN'.form;have hz:=HZ.out.below hb3 (cb _);have hfin:=yf.stored (a0:=.bool sg) (a1:=u a9) (a2:=u b9) (a3:=.pointer p9) hz hN (cn HW0.out hb3) (by omega);have HFin:=ca hfin
  (obtain⟨z0,z1,z2,z3,zf0,zf1,zf2,zf3⟩:=HZ.out.zed hb3)
  clear hfin hN hN' hb hb3;go_wp2_with fail;refine cP (v:=.agg #[.bool sg,u a9,u b9,.pointer p9]) (by simp [results,Tryz.results37,go_sem,z0,z1,z2,z3]) rfl ?_;exact HFin.out
theorem cly (v1 v2:Value) (r s:Rat) (k:Nat) (w:World) (h1:IsQ w v1 r) (h2:IsQ w v2 s) (z1:Siz r k) (z2:Siz s k) (hk:(k:Int)<=1073741824) (hG:Gr w) :
 Calls Tryz.prog 39 #[v1,v2] w (yf w (r*s)):=by
 have HW:=ca (fun W (hW:Below w.heap.size w W)=>UM v1 v2 r s k W (h1.below hW (cb _)) (h2.below hW (cb _)) z1 z2 hk (hG.below hW hG.size));rcases h1.forms with⟨l1,rfl,d1,i1,j1⟩|⟨b1,rfl⟩
 ·rcases h2.forms with⟨l2,rfl,d2,i2,j2⟩|⟨b2,rfl⟩
  ·have HS:=ca (fun W (hW:Below w.heap.size w W)=>cfc r s l1 l2 W d1 d2 i1 j1 i2 j2 (hG.below hW hG.size));clear h1 h2 z1 z2 hk hG d1 d2 j1 j2;generalize neg? r=neg1 at *;generalize neg? s=neg2 at *;generalize r.num.natAbs=n1 at *;generalize s.num.natAbs=n2 at *;generalize r*s=t at *
   go_enter Tryz.func39,Tryz.ntmps39
   go_wp2_with fail;obtain⟨W0,hW0,hb0,⟨f0,f1,f2,f3⟩,⟨g0,g1,g2,g3⟩,hz⟩:=Zx w (.bool neg1) (u n1) (u l1) (.pointer none) (.bool neg2) (u n2) (u l2) (.pointer none);rw[← hW0];clear hW0;have HZ:=ca hz;have HW0:=ca hb0;have hb0:=cw W0.heap.size W0;clear hz;refine(HS.out _ (cn HW0.out hb0)).mono ?_;rintro e W1 ⟨a,b,c,ok,rfl,hok,hb⟩
   (obtain⟨_,_,_,_,_,_,_,_⟩:=kP w hb)
   have HA:=ca (cn hb0 hb);have HOK:=ca hok;clear hb0 hb hok f0 f1 f2 f3 g0 g1 g2 g3
   (obtain⟨z0,z1,z2,z3,zf0,zf1,zf2,zf3⟩:=HZ.out.zed HA.out)
   have q0:w.heap.size<W1.heap.size:=jC W1 ⟨w.heap.size,0,none⟩ (by assumption);have q1:w.heap.size+1<W1.heap.size:=jC W1 ⟨w.heap.size+1,0,none⟩ (by assumption);have q2:w.heap.size+1+1<W1.heap.size:=jC W1 ⟨w.heap.size+1+1,0,none⟩ z0;cases ok
   ·go_wp2_with fail;have HA':=ca (cn HA.out (jI W1 (.cells #[.bool a,.int .u64 (b:Int),.int .u64 (c:Int),.pointer none] 39)));clear z0 z1 z2 z3 zf0 zf1 zf2 zf3 q0 q1 q2;refine(HW.out _ (cn HW0.out HA'.out)).mono ?_;rintro e W9 ⟨v,rfl,hN,hb⟩;have hb3:=cn HA'.out hb;have hN':=hN;obtain⟨sg,a9,b9,p9,rfl⟩:=hN'.form;have hz:=HZ.out.below hb3 (cb _);have hfin:=yf.stored (a0:=.bool sg) (a1:=u a9) (a2:=u b9) (a3:=.pointer p9) hz hN (cn HW0.out hb3) (by omega);have HFin:=ca hfin
    (obtain⟨z0,z1,z2,z3,zf0,zf1,zf2,zf3⟩:=HZ.out.zed hb3)
    clear hfin hN hN' hb hb3;go_wp2_with fail;refine cP (v:=.agg #[.bool sg,u a9,u b9,.pointer p9]) (by simp [results,Tryz.results39,go_sem,z0,z1,z2,z3]) rfl ?_;exact HFin.out
   ·have hT:=HOK.out rfl;have HT:=ca hT;clear hT;go_wp2_with fail;refine cP (v:=lo a b c) (by simp [results,Tryz.results39,go_sem,z0,z1,z2,z3,q2]) rfl ?_;exact⟨_,rfl,HT.out _,(uO HW0.out HA.out (by omega) _ _ _ _).trans ((jI _ _).mono (uO HW0.out HA.out (by omega) _ _ _ _).size)⟩
  ·clear h1 h2 z1 z2 hk hG;generalize neg? r=neg1 at *;generalize neg? s=neg2 at *;generalize r.num.natAbs=n1 at *;generalize r*s=t at *;clear d1 i1 j1
   go_enter Tryz.func39,Tryz.ntmps39
   go_wp2_with fail;obtain⟨W0,hW0,hb0,⟨f0,f1,f2,f3⟩,⟨g0,g1,g2,g3⟩,hz⟩:=Zx w (.bool neg1) (u n1) (u l1) (.pointer none) (.bool neg2) (u 0) (u 0) (.pointer (some ⟨b2,0,none⟩));rw[← hW0];clear hW0;have HZ:=ca hz;have HW0:=ca hb0;have hb0:=cw W0.heap.size W0;clear hz;refine(HW.out _ (cn HW0.out hb0)).mono ?_;rintro e W9 ⟨v,rfl,hN,hb⟩;have hb3:=cn hb0 hb;have hN':=hN;obtain⟨sg,a9,b9,p9,rfl⟩:=hN'.form;have hz:=HZ.out.below hb3 (cb _);have hfin:=yf.stored (a0:=.bool sg) (a1:=u a9) (a2:=u b9) (a3:=.pointer p9) hz hN (cn HW0.out hb3) (by omega);have HFin:=ca hfin
   (obtain⟨z0,z1,z2,z3,zf0,zf1,zf2,zf3⟩:=HZ.out.zed hb3)
   clear hfin hN hN' hb hb3;go_wp2_with fail;refine cP (v:=.agg #[.bool sg,u a9,u b9,.pointer p9]) (by simp [results,Tryz.results39,go_sem,z0,z1,z2,z3]) rfl ?_;exact HFin.out
 ·obtain⟨neg2,a2,b2,p2,rfl⟩:=h2.form;clear h1 h2 z1 z2 hk hG;generalize neg? r=neg1 at *;generalize r*s=t at *
  go_enter Tryz.func39,Tryz.ntmps39
  go_wp2_with fail;obtain⟨W0,hW0,hb0,⟨f0,f1,f2,f3⟩,⟨g0,g1,g2,g3⟩,hz⟩:=Zx w (.bool neg1) (u 0) (u 0) (.pointer (some ⟨b1,0,none⟩)) (.bool neg2) (u a2) (u b2) (.pointer p2);rw[← hW0];clear hW0;have HZ:=ca hz;have HW0:=ca hb0;have hb0:=cw W0.heap.size W0;clear hz;refine(HW.out _ (cn HW0.out hb0)).mono ?_;rintro e W9 ⟨v,rfl,hN,hb⟩;have hb3:=cn hb0 hb;have hN':=hN;obtain⟨sg,a9,b9,p9,rfl⟩:=hN'.form;have hz:=HZ.out.below hb3 (cb _);have hfin:=yf.stored (a0:=.bool sg) (a1:=u a9) (a2:=u b9) (a3:=.pointer p9) hz hN (cn HW0.out hb3) (by omega);have HFin:=ca hfin
  (obtain⟨z0,z1,z2,z3,zf0,zf1,zf2,zf3⟩:=HZ.out.zed hb3)
  clear hfin hN hN' hb hb3;go_wp2_with fail;refine cP (v:=.agg #[.bool sg,u a9,u b9,.pointer p9]) (by simp [results,Tryz.results39,go_sem,z0,z1,z2,z3]) rfl ?_;exact HFin.out
theorem YW (sg:Bool) (a b:Nat) (p:Option Addr) (w:World) :
 Calls Tryz.prog 30 #[.agg #[.bool sg,u a,u b,.pointer p]] w (Val w (.int .i64 (if sg then -1 else 1))):=by
 cases sg
 ·go_enter Tryz.func30,Tryz.ntmps30
  go_wp2_with fail
  go_ret
  exact⟨rfl,jI w _⟩
 ·go_enter Tryz.func30,Tryz.ntmps30
  go_wp2_with fail
  go_ret
  exact⟨rfl,jI w _⟩
def sign (r:Rat):Int:=if r.num=0 then 0 else if r.num<0 then -1 else 1
theorem ceU (v:Value) (r:Rat) (w:World) (h:IsQ w v r) :
 Calls Tryz.prog 10 #[v] w (Val w (.int .i64 (sign r))):=by
 have hsg:(if decide (r.num<0) then (-1:Int) else 1)=if r.num<0 then -1 else 1:=by
  by_cases h:r.num<0<;>simp [h]
 cases h with
 |low l hv hd hn hdB =>
  subst hv;by_cases h0:r.num.natAbs=0
  ·have hs:sign r=0:=by unfold sign;rw[cq (by omega)]
   rw[hs,h0];generalize decide (r.num<0)=sg at *
   go_enter Tryz.func10,Tryz.ntmps10
   go_wp2_with fail
   go_ret
   exact⟨rfl,jI w _⟩
  ·have hs:sign r=if decide (r.num<0) then -1 else 1:=by unfold sign;rw[cg (by omega),hsg]
   rw[hs];have HS:=ca (fun W=>YW (decide (r.num<0)) r.num.natAbs l none W);clear hs hsg hn hd hdB;have h1:(((r.num.natAbs:Nat):Int) == 0)=false:=by rw[jF];omega
   obtain⟨sv,hsv⟩:∃ sv:Int,sv=if decide (r.num<0) then -1 else 1:=⟨_,rfl⟩
   rw[← hsv] at HS ⊢;clear hsv;generalize decide (r.num<0)=sg at *;generalize r.num.natAbs=n at *;clear h0
   go_enter Tryz.func10,Tryz.ntmps10
   go_wp2_with fail;refine(HS.out _).mono ?_;rintro e W1 ⟨rfl,hb⟩;have HB:=ca (cn (jI w _) hb);clear hb;go_wp2_with fail
   go_ret
   exact⟨rfl,HB.out⟩
 |wide b x y hv hx hy h1 h2 hB h0 hd =>
  subst hv;have hs:sign r=if decide (r.num<0) then -1 else 1:=by unfold sign;rw[cg (by omega),hsg]
  rw[hs];have HS:=ca (fun W=>YW (decide (r.num<0)) 0 0 (some ⟨b,0,none⟩) W);clear hs hsg hx hy h1 h2 hB h0 hd;obtain⟨sv,hsv⟩:∃ sv:Int,sv=if decide (r.num<0) then -1 else 1:=⟨_,rfl⟩
  rw[← hsv] at HS ⊢;clear hsv;generalize decide (r.num<0)=sg at *
  go_enter Tryz.func10,Tryz.ntmps10
  go_wp2_with fail;refine(HS.out _).mono ?_;rintro e W1 ⟨rfl,hb⟩;have HB:=ca (cn (jI w _) hb);clear hb;go_wp2_with fail
  go_ret
  exact⟨rfl,HB.out⟩
theorem Num.resign {w:World}{s1 s2 s3:Bool}{a b:Nat}{p:Option Addr}{n d:Nat}(h:Num w (.agg #[.bool s1,u a,u b,.pointer p]) s2 n d):Num w (.agg #[.bool s3,u a,u b,.pointer p]) s3 n d:=by
 cases h with
 |low l hv hd hn hdB =>
  simp at hv;obtain⟨_,e1,e2,rfl⟩:=hv;have e1:a=n:=by omega
  have e2:b=l:=by omega
  subst e1 e2;exact .low _ rfl hd hn hdB
 |wide b' x y hv hx hy h1 h2 hB h0 hd =>
  simp at hv;obtain⟨_,e1,e2,rfl⟩:=hv;have e1:a=0:=by omega
  have e2:b=0:=by omega
  subst e1 e2;exact .wide b' x y rfl hx hy h1 h2 hB h0 hd
theorem Um (w:World) (a0 a1 a2 a3:Value):∃ W,W=(w.alloc (.cells #[a0,a1,a2,a3] 39)).alloc (.cells #[.bool false,.int .u64 0,.int .u64 0,.pointer none] 39)/\Below w.heap.size w W/\
 Box W w.heap.size a0 a1 a2 a3/\Box W (w.heap.size+1) (.bool false) (.int .u64 0) (.int .u64 0) (.pointer none):=by
 refine⟨_,rfl,cn (jI w _) (jI _ _),?_,?_⟩
 ·have h1:Box (w.alloc (.cells #[a0,a1,a2,a3] 39)) w.heap.size a0 a1 a2 a3:=Gf w _;exact h1.below (jI _ _) (cb _)
 ·have hs:(w.alloc (.cells #[a0,a1,a2,a3] 39)).heap.size=w.heap.size+1:=by
   show (w.heap.push _).size=_;simp
  rw[← hs];exact Gf _ _
theorem neg_q (v:Value) (r:Rat) (w:World) (h:IsQ w v r) :
 Calls Tryz.prog 80 #[v] w (yf w (-r)):=by
 have hq:∀ W sg neg a b p,v=.agg #[.bool neg,u a,u b,.pointer p]->sg=decide (0<sign r)->Below w.heap.size w W->IsQ W (.agg #[.bool sg,u a,u b,.pointer p]) (-r):=by
  intro W sg neg a b p hv hs hW;have h':=h.below hW (cb _);have e3:decide ((-r).num<0)=sg:=by
   rw[hs];unfold sign;rw[Rat.neg_num,GX];simp only[EA];split
   ·omega
   ·split<;>omega
  unfold IsQ;rw[e3,Rat.neg_num,Int.natAbs_neg,Rat.neg_den];subst hv;exact Num.resign h'
 have HQ:=ca hq;have HS:=ca (fun W (hW:Below w.heap.size w W)=>ceU v r W (h.below hW (cb _)));obtain⟨neg,a,b,p,rfl⟩:=h.form;clear h hq;generalize sign r=sv at *;generalize -r=t at *
 go_enter Tryz.func80,Tryz.ntmps80
 go_wp2_with fail;obtain⟨W0,hW0,hb0,hx,hz⟩:=Um w (.bool neg) (u a) (u b) (.pointer p);rw[← hW0];clear hW0;refine(HS.out _ hb0).mono ?_;rintro e W1 ⟨rfl,hb⟩;have hx1:=hx.below hb (cb _);have hz1:=hz.below hb (cb _);have HB:=ca (cn hb0 hb);have xf:=hx1.frozen;obtain⟨x0,x1,x2,x3⟩:=hx1.cells;have xf0:=xf 0;have zf:=hz1.frozen;obtain⟨z0,z1,z2,z3⟩:=hz1.cells;have zf0:=zf 0;have zf1:=zf 1;have zf2:=zf 2;have zf3:=zf 3;clear xf zf hx hz hx1 hz1 hb hb0;go_wp2_with fail;have hb5:Below w.heap.size w (((((W1.setCell ⟨w.heap.size,0,none⟩ (.bool (decide (0<sv)))).setCell ⟨w.heap.size+1,0,none⟩ (.bool (decide (0<sv)))).setCell ⟨w.heap.size+1,1,none⟩ (u a)).setCell ⟨w.heap.size+1,2,none⟩ (u b)).setCell ⟨w.heap.size+1,3,none⟩ (.pointer p)) :=
  (HB.out.trans (((jL.refl w.heap.size W1).set 0 _).below (cb _))).trans ((((((jL.refl (w.heap.size+1) _).set 0 _).set 1 _).set 2 _).set 3 _).below (by omega))
 refine cP (v:=.agg #[.bool (decide (0<sv)),u a,u b,.pointer p]) (by simp [results,Tryz.results80,go_sem,z0,z1,z2,z3]) rfl ?_;exact⟨_,rfl,HQ.out _ _ _ _ _ _ rfl rfl hb5,hb5⟩
theorem Siz.neg {r:Rat}{k:Nat}(h:Siz r k):Siz (-r) k:=by
 unfold Siz at *;rw[Rat.neg_num,Int.natAbs_neg,Rat.neg_den];exact h
theorem ckY (v1 v2:Value) (r s:Rat) (k:Nat) (w:World) (h1:IsQ w v1 r) (h2:IsQ w v2 s) (z1:Siz r k) (z2:Siz s k) (hk:((k+k+1:Nat):Int)<=1073741824) (hG:Gr w) :
 Calls Tryz.prog 38 #[v1,v2] w (yf w (r-s)):=by
 have HN:=ca (fun W (hW:Below w.heap.size w W)=>neg_q v2 s W (h2.below hW (cb _)));have HP:=ca (fun v W (hv:IsQ W v (-s)) (hW:Below w.heap.size w W)=>cjB v1 v r (-s) k W (h1.below hW (cb _)) hv z1 z2.neg hk (hG.below hW hG.size));rw[← Rat.sub_eq_add_neg] at HP;obtain⟨neg1,a1,b1,p1,rfl⟩:=h1.form;obtain⟨neg2,a2,b2,p2,rfl⟩:=h2.form;clear h1 h2 z1 z2 hk hG;generalize r-s=t at *;generalize -s=s' at *
 go_enter Tryz.func38,Tryz.ntmps38
 go_wp2_with fail;obtain⟨W0,hW0,hb0,⟨f0,f1,f2,f3⟩,⟨g0,g1,g2,g3⟩,hz⟩:=Zx w (.bool neg1) (u a1) (u b1) (.pointer p1) (.bool neg2) (u a2) (u b2) (.pointer p2);rw[← hW0];clear hW0;have HZ:=ca hz;have HW0:=ca hb0;have hb0:=cw W0.heap.size W0;clear hz;have n1:¬ w.heap.size=w.heap.size+1+1:=by omega
 have n2:¬ w.heap.size+1+1=w.heap.size:=by omega
 have n3:w.heap.size≠w.heap.size+1+1:=by omega
 go_region_held3 (fun w'=>(w'.cell? ⟨w.heap.size,0,none⟩=some (.bool neg1)/\w'.cell? ⟨w.heap.size,1,none⟩=some (u a1)/\w'.cell? ⟨w.heap.size,2,none⟩=some (u b1)/\w'.cell? ⟨w.heap.size,3,none⟩=some (.pointer p1))/\(w'.cell? ⟨w.heap.size+1,0,none⟩=some (.bool neg2)/\w'.cell? ⟨w.heap.size+1,1,none⟩=some (u a2)/\w'.cell? ⟨w.heap.size+1,2,none⟩=some (u b2)/\w'.cell? ⟨w.heap.size+1,3,none⟩=some (.pointer p2))) (go_keep) (first|((with_reducible refine(HN.out _ ((cn HW0.out hb0).drew)).mono ?_);rintro e W1 ⟨vn,rfl,hvn,hb⟩;(obtain⟨_,_,_,_,_,_,_,_⟩:=kP w hb);obtain⟨_,_,_,_,rfl⟩:=hvn.form)|((with_reducible refine(HP.out _ _ hvn (cn HW0.out (ug hb0 hb))).mono ?_);rintro e W9 ⟨v,rfl,hv,hb'⟩;(obtain⟨_,_,_,_,_,_,_,_⟩:=kP w hb');have hv':=hv;obtain⟨sg9,a9,b9,p9,rfl⟩:=hv'.form;have hb3:=cn (ug hb0 hb) hb';(obtain⟨z0,z1,z2,z3,zf0,zf1,zf2,zf3⟩:=HZ.out.zed hb3)))
 have hz:=HZ.out.below hb3 (cb _);have hfin:=yf.stored (a0:=.bool sg9) (a1:=u a9) (a2:=u b9) (a3:=.pointer p9) hz hv (cn HW0.out hb3) (by omega);have HFin:=ca hfin;clear hfin hv hv' hvn hb hb' hb0 hb3 hz f0 f1 f2 f3 g0 g1 g2 g3;go_wp2_with fail;refine cP (v:=.agg #[.bool sg9,u a9,u b9,.pointer p9]) (by simp [results,Tryz.results38,go_sem,z0,z1,z2,z3]) rfl ?_;exact HFin.out
def jh (r s:Rat):Int:=if r<s then -1 else if s<r then 1 else 0
theorem che (r s:Rat):jh r s=if r.num*s.den<s.num*r.den then -1 else if s.num*r.den<r.num*s.den then 1 else 0:=by
 unfold jh;simp only[Rat.lt_iff]
theorem cmU {m n:Int}{a b:Nat}(ha:0<a) (hb:0<b) (h:decide (m<0)≠decide (n<0)) :
 (if m*b<n*a then (-1:Int) else if n*a<m*b then 1 else 0)=if decide (m<0) then -1 else 1:=by
 have ha':(0:Int)<a:=by omega
 have hb':(0:Int)<b:=by omega
 by_cases hm:m<0
 ·have hn:0<=n:=by
   by_cases hn:n<0
   ·exact absurd (by simp [hm,hn]) h
   ·omega
  have h1:m*b<0:=Int.mul_neg_of_neg_of_pos hm hb';have h2:0<=n*a:=Int.mul_nonneg hn (Int.le_of_lt ha');rw[cq (by omega)];simp [hm]
 ·have hn:n<0:=by
   by_cases hn:n<0
   ·exact hn
   ·exact absurd (by simp [hm,hn]) h
  have h1:n*a<0:=Int.mul_neg_of_neg_of_pos hn ha';have h2:0<=m*b:=Int.mul_nonneg (by omega) (Int.le_of_lt hb');rw[cg (by omega),cq (by omega)];simp [hm]
theorem cpw {m n:Int}{a b:Nat}(h:decide (m<0)=decide (n<0)) :
 (if decide (m<0) then (-1:Int) else 1)*js (m.natAbs*b) (n.natAbs*a)=if m*b<n*a then (-1:Int) else if n*a<m*b then 1 else 0:=by
 unfold js;by_cases hm:m<0
 ·have hn:n<0:=by
   by_cases hn:n<0
   ·exact hn
   ·simp [hm,hn] at h
  have e1:m*b=-((m.natAbs*b:Nat):Int):=by
   rw[uv,← Int.neg_mul];congr 1;omega
  have e2:n*a=-((n.natAbs*a:Nat):Int):=by
   rw[uv,← Int.neg_mul];congr 1;omega
  rw[e1,e2];generalize m.natAbs*b=x;generalize n.natAbs*a=y;simp only[hm,decide_true,Cg];rcases Kh x y with g|g|g
  ·rw[cq g,cg (by omega),cq (by omega)];rfl
  ·rw[cg (by omega),cg (by omega),cg (by omega),cg (by omega)];rfl
  ·rw[cg (by omega),cq g,cq (by omega)];rfl
 ·have hn:¬ n<0:=by
   intro hn;simp [hm,hn] at h
  have e1:m*b=((m.natAbs*b:Nat):Int):=by
   rw[uv];congr 1;omega
  have e2:n*a=((n.natAbs*a:Nat):Int):=by
   rw[uv];congr 1;omega
  rw[e1,e2];generalize m.natAbs*b=x;generalize n.natAbs*a=y;simp only[hm,decide_false,UN,GC];rcases Kh x y with g|g|g
  ·rw[cq g,cq (by omega)];rfl
  ·rw[cg (by omega),cg (by omega),cg (by omega),cg (by omega)];rfl
  ·rw[cg (by omega),cq g,cg (by omega),cq (by omega)];rfl
theorem ciI {r s:Rat}(h:neg? r≠neg? s):jh r s=if neg? r then -1 else 1:=by
 rw[che];exact cmU r.den_pos s.den_pos h
theorem cmP {r s:Rat}(h:neg? r=neg? s):(if neg? r then (-1:Int) else 1)*js (r.num.natAbs*s.den) (s.num.natAbs*r.den)=jh r s:=by
 rw[che];exact cpw h
theorem cns (r s:Rat):IntKind.i64.wrap (jh r s)=jh r s:=by
 unfold jh;split
 ·rfl
 ·split<;>rfl
theorem clf (v1 v2:Value) (r s:Rat) (k:Nat) (w:World) (h1:IsQ w v1 r) (h2:IsQ w v2 s) (z1:Siz r k) (z2:Siz s k) (hk:(k:Int)<=1073741824) :
 Calls Tryz.prog 12 #[v1,v2] w (Val w (.int .i64 (jh r s))):=by
 have HW:=ca (fun W (hW:Below w.heap.size w W)=>cbb v1 v2 _ _ _ _ _ _ k W (h1.below hW (cb _)) (h2.below hW (cb _)) z1.1 z1.2 z2.1 z2.2 hk);by_cases hne:neg? r=neg? s
 ·have hres:=cmP hne;have hwr:=cns r s;rw[← hres] at hwr;have hbn:(neg? r == neg? s)=true:=by rw[hne];simp
  obtain⟨sv,hsv⟩:∃ sv:Int,sv=if neg? r then -1 else 1:=⟨_,rfl⟩
  have hside:=fun a b p W=>YW (neg? r) a b p W;rw[← hsv] at hside hres hwr;clear hsv;rcases h1.forms with⟨l1,rfl,d1,i1,j1⟩|⟨b1,rfl⟩
  ·have HS:=ca (hside r.num.natAbs l1 none);rcases h2.forms with⟨l2,rfl,d2,i2,j2⟩|⟨b2,rfl⟩
   ·have HC:=ca (fun W=>cau (neg? r) (neg? s) r.num.natAbs l1 s.num.natAbs l2 i1 (d1▸j1) i2 (d2▸j2) W);rw[← d1,← d2] at HC;generalize js (r.num.natAbs*s.den) (s.num.natAbs*r.den)=cv at *;clear h1 h2 z1 z2 hk hne hside i1 i2 j1 j2 d1 d2 HW;generalize jh r s=t at *;generalize neg? r=neg1 at *;generalize neg? s=neg2 at *;generalize r.num.natAbs=n1 at *;generalize s.num.natAbs=n2 at *;subst hres;generalize hpr:sv*cv=pr at *
    go_enter Tryz.func12,Tryz.ntmps12
    go_wp2_with fail;obtain⟨W0,hW0,hb0,⟨f0,f1,f2,f3⟩,⟨g0,g1,g2,g3⟩⟩:=box2 w (.bool neg1) (u n1) (u l1) (.pointer none) (.bool neg2) (u n2) (u l2) (.pointer none);rw[← hW0];clear hW0
    go_region_held3 (fun w'=>(w'.cell? ⟨w.heap.size,0,none⟩=some (.bool neg1)/\w'.cell? ⟨w.heap.size,1,none⟩=some (u n1)/\w'.cell? ⟨w.heap.size,2,none⟩=some (u l1)/\w'.cell? ⟨w.heap.size,3,none⟩=some (.pointer none))/\(w'.cell? ⟨w.heap.size+1,0,none⟩=some (.bool neg2)/\w'.cell? ⟨w.heap.size+1,1,none⟩=some (u n2)/\w'.cell? ⟨w.heap.size+1,2,none⟩=some (u l2)/\w'.cell? ⟨w.heap.size+1,3,none⟩=some (.pointer none))) (go_keep) (first|((with_reducible refine(HS.out _).mono ?_);rintro e W1 ⟨rfl,hb⟩;(obtain⟨_,_,_,_,_,_,_,_⟩:=kP w hb))|((with_reducible refine(HC.out _).mono ?_);rintro e W2 ⟨rfl,hb'⟩;(obtain⟨_,_,_,_,_,_,_,_⟩:=kP w hb')))
    have HB:=ca (cn (ug hb0 hb) hb');clear hb0 hb hb' f0 f1 f2 f3 g0 g1 g2 g3;go_wp2_with fail
    go_ret
    exact⟨rfl,HB.out⟩
   ·generalize js (r.num.natAbs*s.den) (s.num.natAbs*r.den)=cv at *;clear h1 h2 z1 z2 hk hne hside i1 j1 d1;generalize jh r s=t at *;generalize neg? r=neg1 at *;generalize neg? s=neg2 at *;generalize r.num.natAbs=n1 at *;subst hres;generalize hpr:sv*cv=pr at *
    go_enter Tryz.func12,Tryz.ntmps12
    go_wp2_with fail;obtain⟨W0,hW0,hb0,⟨f0,f1,f2,f3⟩,⟨g0,g1,g2,g3⟩⟩:=box2 w (.bool neg1) (u n1) (u l1) (.pointer none) (.bool neg2) (u 0) (u 0) (.pointer (some ⟨b2,0,none⟩));rw[← hW0];clear hW0
    go_region_held3 (fun w'=>(w'.cell? ⟨w.heap.size,0,none⟩=some (.bool neg1)/\w'.cell? ⟨w.heap.size,1,none⟩=some (u n1)/\w'.cell? ⟨w.heap.size,2,none⟩=some (u l1)/\w'.cell? ⟨w.heap.size,3,none⟩=some (.pointer none))/\(w'.cell? ⟨w.heap.size+1,0,none⟩=some (.bool neg2)/\w'.cell? ⟨w.heap.size+1,1,none⟩=some (u 0)/\w'.cell? ⟨w.heap.size+1,2,none⟩=some (u 0)/\w'.cell? ⟨w.heap.size+1,3,none⟩=some (.pointer (some ⟨b2,0,none⟩)))) (go_keep) (first|((with_reducible refine(HS.out _).mono ?_);rintro e W1 ⟨rfl,hb⟩;(obtain⟨_,_,_,_,_,_,_,_⟩:=kP w hb))|((with_reducible refine(HW.out _ (ug hb0 hb)).mono ?_);rintro e W2 ⟨rfl,hb'⟩;(obtain⟨_,_,_,_,_,_,_,_⟩:=kP w hb')))
    have HB:=ca (cn (ug hb0 hb) hb');clear hb0 hb hb' f0 f1 f2 f3 g0 g1 g2 g3;go_wp2_with fail
    go_ret
    exact⟨rfl,HB.out⟩
  ·have HS:=ca (hside 0 0 (some ⟨b1,0,none⟩));obtain⟨a2,b2,p2,rfl,_⟩:=Num.form h2;clear h1 h2 z1 z2 hk hbn;obtain⟨neg2,hn2⟩:∃ neg2,neg2=decide (s.num<0):=⟨_,rfl⟩;rw[← hn2] at HW ⊢;have hne2:neg? r=neg2:=hne.trans hn2.symm;have hbn:(neg? r == neg2)=true:=by rw[hne2];simp
   clear hne hne2;generalize js (r.num.natAbs*s.den) (s.num.natAbs*r.den)=cv at *;clear hside hn2;generalize jh r s=t at *;generalize neg? r=neg1 at *;subst hres;generalize hpr:sv*cv=pr at *
   go_enter Tryz.func12,Tryz.ntmps12
   go_wp2_with fail;obtain⟨W0,hW0,hb0,⟨f0,f1,f2,f3⟩,⟨g0,g1,g2,g3⟩⟩:=box2 w (.bool neg1) (u 0) (u 0) (.pointer (some ⟨b1,0,none⟩)) (.bool neg2) (u a2) (u b2) (.pointer p2);rw[← hW0];clear hW0
   go_region_held3 (fun w'=>(w'.cell? ⟨w.heap.size,0,none⟩=some (.bool neg1)/\w'.cell? ⟨w.heap.size,1,none⟩=some (u 0)/\w'.cell? ⟨w.heap.size,2,none⟩=some (u 0)/\w'.cell? ⟨w.heap.size,3,none⟩=some (.pointer (some ⟨b1,0,none⟩)))/\(w'.cell? ⟨w.heap.size+1,0,none⟩=some (.bool neg2)/\w'.cell? ⟨w.heap.size+1,1,none⟩=some (u a2)/\w'.cell? ⟨w.heap.size+1,2,none⟩=some (u b2)/\w'.cell? ⟨w.heap.size+1,3,none⟩=some (.pointer p2))) (go_keep) (first|((with_reducible refine(HS.out _).mono ?_);rintro e W1 ⟨rfl,hb⟩;(obtain⟨_,_,_,_,_,_,_,_⟩:=kP w hb))|((with_reducible refine(HW.out _ (ug hb0 hb)).mono ?_);rintro e W2 ⟨rfl,hb'⟩;(obtain⟨_,_,_,_,_,_,_,_⟩:=kP w hb')))
   have HB:=ca (cn (ug hb0 hb) hb');clear hb0 hb hb' f0 f1 f2 f3 g0 g1 g2 g3;go_wp2_with fail
   go_ret
   exact⟨rfl,HB.out⟩
 ·have hres:=ciI hne;obtain⟨a1,b1,p1,rfl,_⟩:=Num.form h1;obtain⟨a2,b2,p2,rfl,_⟩:=Num.form h2;have HS:=ca (fun W=>YW (decide (r.num<0)) a1 b1 p1 W);rw[← hres] at HS;have hb:(decide (r.num<0) == decide (s.num<0))=false:=by simpa using hne
  clear h1 h2 z1 z2 hk HW hres hne;generalize jh r s=t at *;generalize decide (r.num<0)=neg1 at *;generalize decide (s.num<0)=neg2 at *
  go_enter Tryz.func12,Tryz.ntmps12
  go_wp2_with fail;obtain⟨W0,hW0,hb0,⟨f0,f1,f2,f3⟩,⟨g0,g1,g2,g3⟩⟩:=box2 w (.bool neg1) (u a1) (u b1) (.pointer p1) (.bool neg2) (u a2) (u b2) (.pointer p2);rw[← hW0];clear hW0;refine(HS.out _).mono ?_;rintro e W1 ⟨rfl,hb1⟩;have HB:=ca (cn hb0 hb1);clear hb0 hb1;go_wp2_with fail
  go_ret
  exact⟨rfl,HB.out⟩
theorem cey {r:Rat}(h:r.num≠0):(r⁻¹).num=sgn (neg? r) r.den/\(r⁻¹).den=r.num.natAbs:=by
 show (Rat.inv r).num=_/\(Rat.inv r).den=_;unfold Rat.inv sgn;by_cases h1:r.num<0
 ·simp [h1]
 ·have h2:0<r.num:=by omega
  simp [h1,h2]
theorem cbF (v:Value) (r:Rat) (w:World) (h:IsQ w v r) (h0:r.num≠0) :
 Calls Tryz.prog 67 #[v] w (yf w r⁻¹):=by
 obtain⟨in1,in2⟩:=cey h0;cases h with
 |low l hv hd hn hdB =>
  subst hv;have hq:∀ W,IsQ W (lo (neg? r&&!decide (r.den=0)) r.den (zy r.num.natAbs 1)) r⁻¹:=by
   intro W;unfold IsQ;rw[in1,in2,Gu,cbg];exact Num.low _ rfl (Wy hn (by omega)).symm hdB hn
  have HQ:=ca hq;have HS:=ca (fun W=>GG (neg? r) r.den r.num.natAbs hn W);have HBo:=ca (fun W=>yF (neg? r) r.num.natAbs l none (hd▸hdB) W);rw[← hd] at HBo;clear hq in1 in2 hn hdB hd h0;show Calls Tryz.prog 67 #[lo (neg? r) r.num.natAbs l] w (yf w r⁻¹);generalize r⁻¹=t at *;generalize neg? r=sg at *;generalize r.num.natAbs=n at *;generalize r.den=d at *;generalize (sg&&!decide (d=0))=sg2 at *;generalize zy n 1=l2 at *
  go_enter Tryz.func67,Tryz.ntmps67
  go_wp2_with fail;obtain⟨W0,hW0,hb0,hx0,hz⟩:=Um w (.bool sg) (u n) (u l) (.pointer none);rw[← hW0];clear hW0;obtain⟨f0,f1,f2,f3⟩:=hx0.cells;have HZ:=ca hz;have HW0:=ca hb0;have hb0:=cw W0.heap.size W0;clear hz hx0;have n1:¬ w.heap.size=w.heap.size+1:=(by omega);have n2:¬ w.heap.size+1=w.heap.size:=(by omega)
  go_region_held3 (fun w'=>(w'.cell? ⟨w.heap.size,0,none⟩=some (.bool sg)/\w'.cell? ⟨w.heap.size,1,none⟩=some (u n)/\w'.cell? ⟨w.heap.size,2,none⟩=some (u l)/\w'.cell? ⟨w.heap.size,3,none⟩=some (.pointer none))) (go_keep) (first|((with_reducible refine(HBo.out _).mono ?_);rintro e W1 ⟨rfl,hb⟩;(obtain⟨_,_,_,_⟩:=Yr w hb))|((with_reducible refine(HS.out _).mono ?_);rintro e W2 ⟨rfl,hb'⟩;(obtain⟨_,_,_,_⟩:=Yr w hb');have hb3:=cn (ug hb0 hb) hb';(obtain⟨z0,z1,z2,z3,zf0,zf1,zf2,zf3⟩:=HZ.out.zed hb3)))
  have hz:=HZ.out.below hb3 (cb _);have hfin:=yf.stored (a0:=.bool sg2) (a1:=u d) (a2:=u l2) (a3:=.pointer none) hz (HQ.out _) (cn HW0.out hb3) (by omega);have HFin:=ca hfin;clear hfin hb hb' hb0 hb3 hz f0 f1 f2 f3;go_wp2_with fail;refine cP (v:=lo sg2 d l2) (by simp [results,Tryz.results67,go_sem,z0,z1,z2,z3]) rfl ?_;exact HFin.out
 |wide b x y hv hx hy h1 h2 hB h0' hd =>
  subst hv;have HF:=ca (fun W (hW:Below w.heap.size w W)=>Gs (neg? r) y x r.den r.num.natAbs W (h2.below hW (cb _)) (h1.below hW (cb _)) h0');have HR:=ca (fun W W' e (h:yB W (neg? r) r.den r.num.natAbs e W')=>h.q in1 in2);obtain⟨xa,xl,xc,rfl,_⟩:=h1.form;obtain⟨ya,yl,yc,rfl,_⟩:=h2.form;clear h1 h2 in1 in2 hB h0' hd h0;show Calls Tryz.prog 67 #[wi (neg? r) ⟨b,0,none⟩] w (yf w r⁻¹);generalize r⁻¹=t at *;generalize neg? r=sg at *;generalize r.num.natAbs=n at *;generalize r.den=d at *
  go_enter Tryz.func67,Tryz.ntmps67
  go_wp2_with fail;have p1:¬ b=w.heap.size+1:=by have:=jC w _ hx;simp at this;omega
  have p2:¬ w.heap.size+1=b:=fun h=>p1 h.symm;obtain⟨W0,hW0,hb0,hx0,hz⟩:=Um w (.bool sg) (u 0) (u 0) (.pointer (some ⟨b,0,none⟩));rw[← hW0];clear hW0;obtain⟨f0,f1,f2,f3⟩:=hx0.cells;have HZ:=ca hz;have HW0:=ca hb0;have hb0:=cw W0.heap.size W0;clear hz hx0;have n1:¬ w.heap.size=w.heap.size+1:=(by omega);have n2:¬ w.heap.size+1=w.heap.size:=(by omega);have hx:W0.cell? ⟨b,0,none⟩=some (.slice xa xl xc):=(HW0.out.cell (p:=⟨b,0,none⟩) (jC w _ hx)).trans hx;have hy:W0.cell? ⟨b,1,none⟩=some (.slice ya yl yc):=(HW0.out.cell (p:=⟨b,1,none⟩) (jC w _ hy)).trans hy
  go_region_held3 (fun w'=>(w'.cell? ⟨w.heap.size,0,none⟩=some (.bool sg)/\w'.cell? ⟨w.heap.size,3,none⟩=some (.pointer (some ⟨b,0,none⟩)))/\w'.cell? ⟨b,0,none⟩=some (.slice xa xl xc)/\w'.cell? ⟨b,1,none⟩=some (.slice ya yl yc)) (go_keep) (((with_reducible refine(HF.out _ (HW0.out.drew)).mono ?_);rintro e W1 hF;have hQ:=HR.out _ _ _ hF;obtain⟨v,rfl,hv,hb⟩:=hQ;(obtain⟨_,_,_,_⟩:=Yr w hb);have hb3:=ug hb0 hb;have k1:=(hb3.cell (p:=⟨b,0,none⟩) (jC W0 _ hx)).trans hx;have k2:=(hb3.cell (p:=⟨b,1,none⟩) (jC W0 _ hy)).trans hy;have hv':=hv;obtain⟨sg9,a9,b9,p9,rfl⟩:=hv'.form;(obtain⟨z0,z1,z2,z3,zf0,zf1,zf2,zf3⟩:=HZ.out.zed hb3)))
  have hz:=HZ.out.below hb3 (cb _);have hfin:=yf.stored (a0:=.bool sg9) (a1:=u a9) (a2:=u b9) (a3:=.pointer p9) hz hv (cn HW0.out hb3) (by omega);have HFin:=ca hfin;clear hfin hb hb0 hb3 hz f0 f1 f2 f3 hv hv' hF;go_wp2_with fail;refine cP (v:=.agg #[.bool sg9,u a9,u b9,.pointer p9]) (by simp [results,Tryz.results67,go_sem,z0,z1,z2,z3]) rfl ?_;exact HFin.out
theorem Siz.inv {r:Rat}{k:Nat}(h:Siz r k) (h0:r.num≠0):Siz r⁻¹ k:=by
 obtain⟨e1,e2⟩:=cey h0;unfold Siz at *;rw[e1,e2,Gu];exact⟨h.2,h.1⟩
theorem cnq (v1 v2:Value) (r s:Rat) (w:World) (h1:IsQ w v1 r) (h2:IsQ w v2 s) (h0:s.num=0) :
 Calls Tryz.prog 77 #[v1,v2] w (fun e w'=>e=.returned (.tuple #[lo false 0 0,.int .i64 10])/\Below w.heap.size w w'):=by
 have HS:=ca (fun W (hW:Below w.heap.size w W)=>ceU v2 s W (h2.below hW (cb _)));have hs:sign s=0:=by unfold sign;rw[cq h0]
 rw[hs] at HS;obtain⟨neg1,a1,b1,p1,rfl⟩:=h1.form;obtain⟨neg2,a2,b2,p2,rfl⟩:=h2.form;clear h1 h2 hs h0
 go_enter Tryz.func77,Tryz.ntmps77
 go_wp2_with fail;obtain⟨W0,hW0,hb0,⟨f0,f1,f2,f3⟩,⟨g0,g1,g2,g3⟩,hz⟩:=Zx w (.bool neg1) (u a1) (u b1) (.pointer p1) (.bool neg2) (u a2) (u b2) (.pointer p2);rw[← hW0];clear hW0;have HZ:=ca hz;have HW0:=ca hb0;have hb0:=cw W0.heap.size W0;clear hz;refine(HS.out _ (cn HW0.out hb0)).mono ?_;rintro e W1 ⟨rfl,hb⟩
 (obtain⟨_,_,_,_,_,_,_,_⟩:=kP w hb)
 have HA:=ca (cn hb0 hb);clear hb0 hb f0 f1 f2 f3 g0 g1 g2 g3
 (obtain⟨z0,z1,z2,z3,zf0,zf1,zf2,zf3⟩:=HZ.out.zed HA.out)
 go_wp2_with fail;refine cP (v:=.tuple #[lo false 0 0,.int .i64 10]) (by simp [results,Tryz.results77,go_sem,z0,z1,z2,z3]) rfl ?_;exact⟨rfl,uO HW0.out HA.out (by omega) _ _ _ _⟩
def OverQ (w:World) (r:Rat) (e:Ending) (w':World):Prop:=∃ v,e=.returned (.tuple #[v,.int .i64 0])/\IsQ w' v r/\Below w.heap.size w w'
theorem over_q (v1 v2:Value) (r s:Rat) (k:Nat) (w:World) (h1:IsQ w v1 r) (h2:IsQ w v2 s) (h0:s.num≠0) (z1:Siz r k) (z2:Siz s k) (hk:(k:Int)<=1073741824) (hG:Gr w) :
 Calls Tryz.prog 77 #[v1,v2] w (OverQ w (r/s)):=by
 have HS:=ca (fun W (hW:Below w.heap.size w W)=>ceU v2 s W (h2.below hW (cb _)));have hs:((sign s:Int) == 0)=false:=by unfold sign;rw[cg h0];split<;>rfl
 have HR:=ca (fun W (hW:Below w.heap.size w W)=>cbF v2 s W (h2.below hW (cb _)) h0);have HT:=ca (fun v W (hv:IsQ W v s⁻¹) (hW:Below w.heap.size w W)=>cly v1 v r s⁻¹ k W (h1.below hW (cb _)) hv z1 (z2.inv h0) hk (hG.below hW hG.size));rw[← Rat.div_def] at HT;obtain⟨neg1,a1,b1,p1,rfl⟩:=h1.form;obtain⟨neg2,a2,b2,p2,rfl⟩:=h2.form;clear h1 h2 h0 z1 z2 hk hG;generalize r/s=t at *;generalize s⁻¹=s' at *;generalize sign s=sv at *
 go_enter Tryz.func77,Tryz.ntmps77
 go_wp2_with fail;obtain⟨W0,hW0,hb0,⟨f0,f1,f2,f3⟩,⟨g0,g1,g2,g3⟩,hz⟩:=Zx w (.bool neg1) (u a1) (u b1) (.pointer p1) (.bool neg2) (u a2) (u b2) (.pointer p2);rw[← hW0];clear hW0;have HZ:=ca hz;have HW0:=ca hb0;have hb0:=cw W0.heap.size W0;clear hz;refine(HS.out _ (cn HW0.out hb0)).mono ?_;rintro e W1 ⟨rfl,hb⟩
 (obtain⟨_,_,_,_,_,_,_,_⟩:=kP w hb)
 have HA:=ca (cn hb0 hb);clear hb0 hb f0 f1 f2 f3 g0 g1 g2 g3;have n1:¬ w.heap.size=w.heap.size+1+1:=by omega
 have n2:¬ w.heap.size+1+1=w.heap.size:=by omega
 go_wp2_with fail
 go_region_held3 (fun w'=>(w'.cell? ⟨w.heap.size,0,none⟩=some (.bool neg1)/\w'.cell? ⟨w.heap.size,1,none⟩=some (u a1)/\w'.cell? ⟨w.heap.size,2,none⟩=some (u b1)/\w'.cell? ⟨w.heap.size,3,none⟩=some (.pointer p1))/\(w'.cell? ⟨w.heap.size+1,0,none⟩=some (.bool neg2)/\w'.cell? ⟨w.heap.size+1,1,none⟩=some (u a2)/\w'.cell? ⟨w.heap.size+1,2,none⟩=some (u b2)/\w'.cell? ⟨w.heap.size+1,3,none⟩=some (.pointer p2))) (go_keep) (first|((with_reducible refine(HR.out _ ((cn HW0.out HA.out).drew)).mono ?_);rintro e W2 ⟨vn,rfl,hvn,hb⟩;(obtain⟨_,_,_,_,_,_,_,_⟩:=kP w hb);obtain⟨_,_,_,_,rfl⟩:=hvn.form)|((with_reducible refine(HT.out _ _ hvn (cn HW0.out (ug HA.out hb))).mono ?_);rintro e W9 ⟨v,rfl,hv,hb'⟩;(obtain⟨_,_,_,_,_,_,_,_⟩:=kP w hb');have hv':=hv;obtain⟨sg9,a9,b9,p9,rfl⟩:=hv'.form;have hb3:=cn (ug HA.out hb) hb';(obtain⟨z0,z1,z2,z3,zf0,zf1,zf2,zf3⟩:=HZ.out.zed hb3)))
 have hz:=HZ.out.below hb3 (cb _);have hfin:=yf.stored (a0:=.bool sg9) (a1:=u a9) (a2:=u b9) (a3:=.pointer p9) hz hv (cn HW0.out hb3) (by omega);have HFin:=ca hfin;clear hfin hv hv' hvn hb hb' hb3 hz;go_wp2_with fail;refine cP (v:=.tuple #[.agg #[.bool sg9,u a9,u b9,.pointer p9],.int .i64 0]) (by simp [results,Tryz.results77,go_sem,z0,z1,z2,z3]) rfl ?_;obtain⟨v,hv,hq,hbb⟩:=HFin.out;injection hv with hv
 subst hv;exact⟨_,rfl,hq,hbb⟩
theorem chA (i:Int) (h1:-9223372036854775808<=i) (h2:i<=9223372036854775807) (w:World) :
 Calls Tryz.prog 23 #[.int .i64 i] w (yf w (i:Rat)):=by
 have hB:i.natAbs<B:=by unfold B;omega
 have hl:zy 1 1=0:=by rfl
 have hq:∀ W,IsQ W (lo (decide (i<0)&&!decide (i.natAbs=0)) i.natAbs (zy 1 1)) (i:Rat):=by
  intro W;rw[hl];unfold IsQ;rw[Jr,YZ];have:(decide (i<0)&&!decide (i.natAbs=0))=decide (i<0):=by
   rw[GX];simp;omega
  rw[this];exact Num.low 0 rfl rfl hB (by decide)
 have HQ:=ca hq;have HS:=ca (fun W=>GG (decide (i<0)) i.natAbs 1 (by decide) W);by_cases hi:i<0
 ·have hw:IntKind.u64.wrap (-(IntKind.u64.wrap i))=(i.natAbs:Int):=by
   rw[zv,zv];unfold B at hB;omega
  have hw2:IntKind.u64.wrap (-i)=(i.natAbs:Int):=by
   rw[zv];unfold B at hB;omega
  simp only[hi,decide_true] at HS HQ;clear hq hl hB;have HHB:=ca h1;generalize (i:Rat)=t at *;generalize (true&&!decide (i.natAbs=0))=sg at *
  go_enter Tryz.func23,Tryz.ntmps23
  go_wp2_with fail;obtain⟨W0,hW0,hb0,hz,hs⟩:=boxz w;rw[← hW0];clear hW0;have HZ:=ca hz;have HW0:=ca hb0;have hb0:=cw W0.heap.size W0;clear hz;clear hs;generalize zy 1 1=l2 at *;generalize hn:i.natAbs=n at *;refine(HS.out _).mono ?_;rintro e W1 ⟨rfl,hb⟩;have hb3:=cn hb0 hb;have hz:=HZ.out.below hb3 (cb _);have hfin:=yf.stored (a0:=.bool sg) (a1:=u n) (a2:=u l2) (a3:=.pointer none) hz (HQ.out _) (cn HW0.out hb3) (cb _);have HFin:=ca hfin
  (obtain⟨z0,z1,z2,z3,zf0,zf1,zf2,zf3⟩:=HZ.out.zed hb3)
  clear hfin hb hb0 hb3 hz hn;go_wp2_with fail;refine cP (v:=lo sg n l2) (by simp [results,Tryz.results23,go_sem,z0,z1,z2,z3]) rfl ?_;exact HFin.out
 ·have hw:IntKind.u64.wrap i=(i.natAbs:Int):=by
   rw[zv];unfold B at hB;omega
  simp only[hi,decide_false] at HS HQ;clear hq hl hB;have HHB:=ca h1;generalize (i:Rat)=t at *;generalize (false&&!decide (i.natAbs=0))=sg at *
  go_enter Tryz.func23,Tryz.ntmps23
  go_wp2_with fail;obtain⟨W0,hW0,hb0,hz,hs⟩:=boxz w;rw[← hW0];clear hW0;have HZ:=ca hz;have HW0:=ca hb0;have hb0:=cw W0.heap.size W0;clear hz;clear hs;generalize zy 1 1=l2 at *;generalize hn:i.natAbs=n at *;refine(HS.out _).mono ?_;rintro e W1 ⟨rfl,hb⟩;have hb3:=cn hb0 hb;have hz:=HZ.out.below hb3 (cb _);have hfin:=yf.stored (a0:=.bool sg) (a1:=u n) (a2:=u l2) (a3:=.pointer none) hz (HQ.out _) (cn HW0.out hb3) (cb _);have HFin:=ca hfin
  (obtain⟨z0,z1,z2,z3,zf0,zf1,zf2,zf3⟩:=HZ.out.zed hb3)
  clear hfin hb hb0 hb3 hz hn;go_wp2_with fail;refine cP (v:=lo sg n l2) (by simp [results,Tryz.results23,go_sem,z0,z1,z2,z3]) rfl ?_;exact HFin.out
theorem ED (i:Int) (h1:-9223372036854775808<=i) (h2:i<=9223372036854775807):Siz (i:Rat) 1:=by
 unfold Siz;rw[Jr,YZ,Jp];exact⟨by unfold B;omega,by decide⟩
def OfPost (w:World) (i j:Int) (e:Ending) (w':World):Prop :=
 (j=0/\e=.returned (.tuple #[lo false 0 0,.int .i64 10])/\Below w.heap.size w w')\/(j≠0/\OverQ w ((i:Rat)/(j:Rat)) e w')
theorem of_q (i j:Int) (h1:-9223372036854775808<=i) (h2:i<=9223372036854775807) (h3:-9223372036854775808<=j) (h4:j<=9223372036854775807) (w:World) (hG:Gr w) :
 Calls Tryz.prog 36 #[.int .i64 i,.int .i64 j] w (OfPost w i j):=by
 have HI:=ca (fun W=>chA i h1 h2 W);have HJ:=ca (fun W=>chA j h3 h4 W);have HO:=ca (fun v1 v2 W (hv1:IsQ W v1 (i:Rat)) (hv2:IsQ W v2 (j:Rat)) (hW:Below w.heap.size w W)=>show Calls Tryz.prog 77 #[v1,v2] W (OfPost W i j) by
  by_cases hj:j=0
  ·exact(cnq v1 v2 _ _ W hv1 hv2 (by rw[Jr];exact hj)).mono fun _ _ h=>.inl ⟨hj,h.1,h.2⟩
  ·exact(over_q v1 v2 _ _ 1 W hv1 hv2 (by rw[Jr];exact hj) (ED i h1 h2) (ED j h3 h4) (by decide) (hG.below hW hG.size)).mono fun _ _ h=>.inr ⟨hj,h⟩)
 clear hG h1 h2 h3 h4
 go_enter Tryz.func36,Tryz.ntmps36
 go_wp2_with fail;obtain⟨W0,hW0,hb0,hz,hs⟩:=boxz w;rw[← hW0];clear hW0;have HZ:=ca hz;have HW0:=ca hb0;have hb0:=cw W0.heap.size W0;clear hz;clear hs;refine(HI.out _).mono ?_;rintro e W1 ⟨v1,rfl,hv1,hb⟩;have HV1:=ca hv1;have HA:=ca (cn hb0 hb);obtain⟨_,_,_,_,rfl⟩:=hv1.form;clear hb hb0 hv1;go_wp2_with fail;refine(HJ.out _).mono ?_;rintro e W2 ⟨v2,rfl,hv2,hb⟩;have HV1':=ca (HV1.out.below hb (cb _));have HV2:=ca hv2;have HA2:=ca (cn HA.out hb);obtain⟨_,_,_,_,rfl⟩:=hv2.form;clear hb hv2;go_wp2_with fail;refine(HO.out _ _ _ HV1'.out HV2.out (cn HW0.out HA2.out)).mono ?_;rintro e W3 (⟨hj,rfl,hb⟩|⟨hj,v,rfl,hv,hb⟩)
 ·have hb3:=cn HA2.out hb;have HB3:=ca hb3;have HHJ:=ca hj
  (obtain⟨z0,z1,z2,z3,zf0,zf1,zf2,zf3⟩:=HZ.out.zed hb3)
  clear hb hb3 hj;go_wp2_with fail;refine cP (v:=.tuple #[lo false 0 0,.int .i64 10]) (by simp [results,Tryz.results36,go_sem,z0,z1,z2,z3]) rfl ?_;exact .inl ⟨HHJ.out,rfl,uO HW0.out HB3.out (cb _) _ _ _ _⟩
 ·have hb3:=cn HA2.out hb;have hv':=hv;obtain⟨sg9,a9,b9,p9,rfl⟩:=hv'.form;have hz:=HZ.out.below hb3 (cb _);have hfin:=yf.stored (a0:=.bool sg9) (a1:=u a9) (a2:=u b9) (a3:=.pointer p9) hz hv (cn HW0.out hb3) (cb _);have HFin:=ca hfin;have HHJ:=ca hj
  (obtain⟨z0,z1,z2,z3,zf0,zf1,zf2,zf3⟩:=HZ.out.zed hb3)
  clear hfin hv hv' hb hb3 hz hj;go_wp2_with fail;refine cP (v:=.tuple #[.agg #[.bool sg9,u a9,u b9,.pointer p9],.int .i64 0]) (by simp [results,Tryz.results36,go_sem,z0,z1,z2,z3]) rfl ?_;obtain⟨v,hv,hq,hbb⟩:=HFin.out;injection hv with hv
  subst hv;exact .inr ⟨HHJ.out,_,rfl,hq,hbb⟩
theorem yf.alloc {w W:World}{r:Rat}{e:Ending}(h:yf w r e W) (o:Obj):yf w r e (W.alloc o):=by
 obtain⟨v,he,hq,hb⟩:=h;exact⟨v,he,hq.below (jI W o) (cb _),hb.trans ((jI W o).mono hb.size)⟩
theorem Siz.le {r:Rat}{k j:Nat}(h:Siz r k) (hj:k<=j):Siz r j :=
 ⟨cF h.1 (ke ki hj),cF h.2 (ke ki hj)⟩
theorem bapp (a b:List UInt8):((⟨a.toArray⟩:ByteArray)++⟨b.toArray⟩)=⟨(a++b).toArray⟩:=by
 apply ByteArray.ext;rw[ByteArray.data_append];simp
theorem chU (c:UInt8) (b:List UInt8):((⟨#[c]⟩:ByteArray)++⟨b.toArray⟩)=⟨(c::b).toArray⟩:=bapp [c] b
theorem cip (a:List UInt8) (c:UInt8):((⟨a.toArray⟩:ByteArray)++⟨#[c]⟩)=⟨(a++[c]).toArray⟩:=bapp a [c]
theorem cdU {n k:Nat}(h:n<B^k):(cU n).length<=20*k+1:=by
 unfold cU;split
 ·simp
 ·rw[List.length_reverse,List.length_map];have:=WY h rfl;omega
theorem cA.not_one {w:World}{v:Value}{n:Nat}(h:cA w v n) (h0:0<n) (h1:n≠1) :
 (∃ b o c,v=.slice (some ⟨b,o,none⟩) 1 c/\w.cell? ⟨b,o,none⟩=some (u n))\/(∃ ao l c,v=.slice ao l c/\l≠1):=by
 rcases jc n B with hB|hB
 ·obtain⟨b,o,c,rfl,hc⟩:=h.limb h0 hB;exact .inl ⟨b,o,c,rfl,hc⟩
 ·obtain⟨ao,l,c,rfl,_,_,hl⟩:=h.form;exact .inr ⟨ao,l,c,rfl,by have:=hl.2 hB;omega⟩
theorem cnt (v:Value) (N k:Nat) (w:World) (a1 b1:Nat) (p1:Option Addr) (hv:v=.agg #[.bool false,u a1,u b1,.pointer p1])
 (HP:Hid (∀ W,Below w.heap.size w W->Calls Tryz.prog 45 #[v] W (Kb W N 1))) (HT1:Hid (∀ x W,cA W x N->Calls Tryz.prog 46 #[x] W (zR W (cU N))))
 (HT2:Hid (∀ x W,cA W x 1->Calls Tryz.prog 46 #[x] W (zR W (cU 1)))) (hl:(cU N).length<=21474836481) (hl2:(cU 1).length<=21474836481) :
 Calls Tryz.prog 24 #[v] w (zR w (cU N)):=by
 subst hv;clear hl hl2;generalize cU N=TN at *
 go_enter Tryz.func24,Tryz.ntmps24
 go_wp2_with fail;obtain⟨W0,hW0,hb0,⟨f0,f1,f2,f3⟩⟩:=cab w (.bool false) (u a1) (u b1) (.pointer p1);rw[← hW0];clear hW0;refine(HP.out _ hb0).mono ?_;rintro e W1 ⟨x,y,rfl,hx,hy,hb⟩
 (have hh:=ER (b:=w.heap.size) hb f0 f1 f2 f3;clear f0 f1 f2 f3;obtain⟨f0,f1,f2,f3⟩:=hh)
 obtain⟨ya,yo,yc,rfl,hyc⟩:=hy.limb (by decide) (by decide);have HA:=ca (cn hb0 hb);have HX:=ca hx;have HY:=ca hy;obtain⟨xa,xl,xc,rfl,_⟩:=hx.form;clear hb hb0 hx hy HP;go_wp2_with fail;refine(HT1.out _ _ HX.out).mono ?_;rintro e W2 ⟨rfl,hb⟩
 (have hh:=ER (b:=w.heap.size) hb f0 f1 f2 f3;clear f0 f1 f2 f3;obtain⟨f0,f1,f2,f3⟩:=hh)
 have hyc2:W2.cell? ⟨ya,yo,none⟩=some (.int .u64 1):=(hb.cell (p:=⟨ya,yo,none⟩) (jC W1 _ hyc)).trans hyc;have HA2:=ca (cn HA.out hb);have HY2:=ca (HY.out.below hb (cb _));clear hb HX HT1 hyc;go_wp2_with fail
 go_ret
 refine⟨?_,HA2.out⟩;rfl
theorem cmO (v:Value) (N k:Nat) (D:Nat) (hD0:0<D) (hD1:D≠1) (w:World) (a1 b1:Nat) (p1:Option Addr) (hv:v=.agg #[.bool false,u a1,u b1,.pointer p1])
 (HP:Hid (∀ W,Below w.heap.size w W->Calls Tryz.prog 45 #[v] W (Kb W N D))) (HT1:Hid (∀ x W,cA W x N->Calls Tryz.prog 46 #[x] W (zR W (cU N))))
 (HT2:Hid (∀ x W,cA W x D->Calls Tryz.prog 46 #[x] W (zR W (cU D)))) (hl:(cU N).length<=21474836481) (hl2:(cU D).length<=21474836481) :
 Calls Tryz.prog 24 #[v] w (zR w ((cU N++47::cU D))):=by
 subst hv;have l2:¬ 9223372036854775807<(cU N).length+1:=by omega
 have l3:¬ 9223372036854775807<(cU N).length+1+(cU D).length:=by omega
 clear hl hl2;generalize cU N=TN at *;generalize cU D=TD at *
 go_enter Tryz.func24,Tryz.ntmps24
 go_wp2_with fail;obtain⟨W0,hW0,hb0,⟨f0,f1,f2,f3⟩⟩:=cab w (.bool false) (u a1) (u b1) (.pointer p1);rw[← hW0];clear hW0;refine(HP.out _ hb0).mono ?_;rintro e W1 ⟨x,y,rfl,hx,hy,hb⟩
 (have hh:=ER (b:=w.heap.size) hb f0 f1 f2 f3;clear f0 f1 f2 f3;obtain⟨f0,f1,f2,f3⟩:=hh)
 rcases hy.not_one hD0 hD1 with⟨ya,yo,yc,rfl,hyc⟩|⟨ao,yl,yc,rfl,hy1⟩
 ·have HA:=ca (cn hb0 hb);have HX:=ca hx;have HY:=ca hy;obtain⟨xa,xl,xc,rfl,_⟩:=hx.form;have hD:(((D:Nat):Int) == 1)=false:=by rw[jF];omega
  clear hb hb0 hx hy HP hD0 hD1;go_wp2_with fail;refine(HT1.out _ _ HX.out).mono ?_;rintro e W2 ⟨rfl,hb⟩
  (have hh:=ER (b:=w.heap.size) hb f0 f1 f2 f3;clear f0 f1 f2 f3;obtain⟨f0,f1,f2,f3⟩:=hh)
  have hyc2:W2.cell? ⟨ya,yo,none⟩=some (u D):=(hb.cell (p:=⟨ya,yo,none⟩) (jC W1 _ hyc)).trans hyc;have HA2:=ca (cn HA.out hb);have HY2:=ca (HY.out.below hb (cb _));clear hb HX HT1 hyc;go_wp2_with fail;refine(HT2.out _ _ HY2.out).mono ?_;rintro e W3 ⟨rfl,hb⟩;have HA3:=ca (cn HA2.out hb);clear hb HT2;go_wp2_with fail
  go_ret
  refine⟨?_,HA3.out⟩;simp [bapp,chU,cip]
 ·have HA:=ca (cn hb0 hb);have HX:=ca hx;have HY:=ca hy;obtain⟨xa,xl,xc,rfl,_⟩:=hx.form;have hyl:(((yl:Nat):Int) == 1)=false:=by rw[jF];omega
  clear hb hb0 hx hy HP hD0 hD1 hy1;go_wp2_with fail;refine(HT1.out _ _ HX.out).mono ?_;rintro e W2 ⟨rfl,hb⟩
  (have hh:=ER (b:=w.heap.size) hb f0 f1 f2 f3;clear f0 f1 f2 f3;obtain⟨f0,f1,f2,f3⟩:=hh)
  have HA2:=ca (cn HA.out hb);have HY2:=ca (HY.out.below hb (cb _));clear hb HX HT1;go_wp2_with fail;refine(HT2.out _ _ HY2.out).mono ?_;rintro e W3 ⟨rfl,hb⟩;have HA3:=ca (cn HA2.out hb);clear hb HT2;go_wp2_with fail
  go_ret
  refine⟨?_,HA3.out⟩;simp [bapp,chU,cip]
theorem cmB (v:Value) (N k:Nat) (w:World) (a1 b1:Nat) (p1:Option Addr) (hv:v=.agg #[.bool true,u a1,u b1,.pointer p1])
 (HP:Hid (∀ W,Below w.heap.size w W->Calls Tryz.prog 45 #[v] W (Kb W N 1))) (HT1:Hid (∀ x W,cA W x N->Calls Tryz.prog 46 #[x] W (zR W (cU N))))
 (HT2:Hid (∀ x W,cA W x 1->Calls Tryz.prog 46 #[x] W (zR W (cU 1)))) (hl:(cU N).length<=21474836481) (hl2:(cU 1).length<=21474836481) :
 Calls Tryz.prog 24 #[v] w (zR w (45::cU N)):=by
 subst hv;have l1:¬ 9223372036854775807<1+(cU N).length:=by omega
 clear hl hl2;generalize cU N=TN at *
 go_enter Tryz.func24,Tryz.ntmps24
 go_wp2_with fail;obtain⟨W0,hW0,hb0,⟨f0,f1,f2,f3⟩⟩:=cab w (.bool true) (u a1) (u b1) (.pointer p1);rw[← hW0];clear hW0;refine(HP.out _ hb0).mono ?_;rintro e W1 ⟨x,y,rfl,hx,hy,hb⟩
 (have hh:=ER (b:=w.heap.size) hb f0 f1 f2 f3;clear f0 f1 f2 f3;obtain⟨f0,f1,f2,f3⟩:=hh)
 obtain⟨ya,yo,yc,rfl,hyc⟩:=hy.limb (by decide) (by decide);have HA:=ca (cn hb0 hb);have HX:=ca hx;have HY:=ca hy;obtain⟨xa,xl,xc,rfl,_⟩:=hx.form;clear hb hb0 hx hy HP;go_wp2_with fail;refine(HT1.out _ _ HX.out).mono ?_;rintro e W2 ⟨rfl,hb⟩
 (have hh:=ER (b:=w.heap.size) hb f0 f1 f2 f3;clear f0 f1 f2 f3;obtain⟨f0,f1,f2,f3⟩:=hh)
 have hyc2:W2.cell? ⟨ya,yo,none⟩=some (.int .u64 1):=(hb.cell (p:=⟨ya,yo,none⟩) (jC W1 _ hyc)).trans hyc;have HA2:=ca (cn HA.out hb);have HY2:=ca (HY.out.below hb (cb _));clear hb HX HT1 hyc;go_wp2_with fail
 go_ret
 refine⟨?_,HA2.out⟩;simp [bapp,chU,cip]
theorem cmr (v:Value) (N k:Nat) (D:Nat) (hD0:0<D) (hD1:D≠1) (w:World) (a1 b1:Nat) (p1:Option Addr) (hv:v=.agg #[.bool true,u a1,u b1,.pointer p1])
 (HP:Hid (∀ W,Below w.heap.size w W->Calls Tryz.prog 45 #[v] W (Kb W N D))) (HT1:Hid (∀ x W,cA W x N->Calls Tryz.prog 46 #[x] W (zR W (cU N))))
 (HT2:Hid (∀ x W,cA W x D->Calls Tryz.prog 46 #[x] W (zR W (cU D)))) (hl:(cU N).length<=21474836481) (hl2:(cU D).length<=21474836481) :
 Calls Tryz.prog 24 #[v] w (zR w (45::(cU N++47::cU D))):=by
 subst hv;have l1:¬ 9223372036854775807<1+(cU N).length:=by omega
 have l2:¬ 9223372036854775807<1+(cU N).length+1:=by omega
 have l3:¬ 9223372036854775807<1+(cU N).length+1+(cU D).length:=by omega
 have l4:¬ 9223372036854775807<(cU N).length+1+1:=by omega
 have l5:¬ 9223372036854775807<(cU N).length+1+1+(cU D).length:=by omega
 clear hl hl2;generalize cU N=TN at *;generalize cU D=TD at *
 go_enter Tryz.func24,Tryz.ntmps24
 go_wp2_with fail;obtain⟨W0,hW0,hb0,⟨f0,f1,f2,f3⟩⟩:=cab w (.bool true) (u a1) (u b1) (.pointer p1);rw[← hW0];clear hW0;refine(HP.out _ hb0).mono ?_;rintro e W1 ⟨x,y,rfl,hx,hy,hb⟩
 (have hh:=ER (b:=w.heap.size) hb f0 f1 f2 f3;clear f0 f1 f2 f3;obtain⟨f0,f1,f2,f3⟩:=hh)
 rcases hy.not_one hD0 hD1 with⟨ya,yo,yc,rfl,hyc⟩|⟨ao,yl,yc,rfl,hy1⟩
 ·have HA:=ca (cn hb0 hb);have HX:=ca hx;have HY:=ca hy;obtain⟨xa,xl,xc,rfl,_⟩:=hx.form;have hD:(((D:Nat):Int) == 1)=false:=by rw[jF];omega
  clear hb hb0 hx hy HP hD0 hD1;go_wp2_with fail;refine(HT1.out _ _ HX.out).mono ?_;rintro e W2 ⟨rfl,hb⟩
  (have hh:=ER (b:=w.heap.size) hb f0 f1 f2 f3;clear f0 f1 f2 f3;obtain⟨f0,f1,f2,f3⟩:=hh)
  have hyc2:W2.cell? ⟨ya,yo,none⟩=some (u D):=(hb.cell (p:=⟨ya,yo,none⟩) (jC W1 _ hyc)).trans hyc;have HA2:=ca (cn HA.out hb);have HY2:=ca (HY.out.below hb (cb _));clear hb HX HT1 hyc;go_wp2_with fail;refine(HT2.out _ _ HY2.out).mono ?_;rintro e W3 ⟨rfl,hb⟩;have HA3:=ca (cn HA2.out hb);clear hb HT2;go_wp2_with fail
  go_ret
  refine⟨?_,HA3.out⟩;simp [bapp,chU,cip]
 ·have HA:=ca (cn hb0 hb);have HX:=ca hx;have HY:=ca hy;obtain⟨xa,xl,xc,rfl,_⟩:=hx.form;have hyl:(((yl:Nat):Int) == 1)=false:=by rw[jF];omega
  clear hb hb0 hx hy HP hD0 hD1 hy1;go_wp2_with fail;refine(HT1.out _ _ HX.out).mono ?_;rintro e W2 ⟨rfl,hb⟩
  (have hh:=ER (b:=w.heap.size) hb f0 f1 f2 f3;clear f0 f1 f2 f3;obtain⟨f0,f1,f2,f3⟩:=hh)
  have HA2:=ca (cn HA.out hb);have HY2:=ca (HY.out.below hb (cb _));clear hb HX HT1;go_wp2_with fail;refine(HT2.out _ _ HY2.out).mono ?_;rintro e W3 ⟨rfl,hb⟩;have HA3:=ca (cn HA2.out hb);clear hb HT2;go_wp2_with fail
  go_ret
  refine⟨?_,HA3.out⟩;simp [bapp,chU,cip]
theorem cjZ (v:Value) (r:Rat) (k:Nat) (w:World) (h:IsQ w v r) (z:Siz r k) (hk:(k:Int)<=1073741824) :
 Calls Tryz.prog 24 #[v] w (zR w (zd r)):=by
 have HP:=ca (fun W (hW:Below w.heap.size w W)=>Ez v (decide (r.num<0)) r.num.natAbs r.den W (Num.below h hW (cb _)));have HT1:=ca (fun x W (hx:cA W x r.num.natAbs)=>chw x r.num.natAbs k W hx z.1 hk);have HT2:=ca (fun x W (hx:cA W x r.den)=>chw x r.den k W hx z.2 hk);have hq:zd r=(if r.num<0 then [45] else [])++cU r.num.natAbs++(if r.den=1 then [] else 47::cU r.den):=rfl;have hl1:=cdU z.1;have hl2:=cdU z.2;have hl1:(cU r.num.natAbs).length<=21474836481:=by omega
 have hl2:(cU r.den).length<=21474836481:=by omega
 obtain⟨a1,b1,p1,hv,_⟩:=Num.form h;have hd0:=r.den_pos;by_cases hd:r.den=1
 ·by_cases hn:r.num<0
  ·rw[cq hd,cq hn,uE] at hq;rw[hd] at HP HT2 hl2;rw[hq];exact cmB v _ k w a1 b1 p1 (by rw[hv,cH hn]) HP HT1 HT2 hl1 hl2
  ·rw[cq hd,cg hn,uE,CL] at hq;rw[hd] at HP HT2 hl2;rw[hq];exact cnt v _ k w a1 b1 p1 (by rw[hv,cJ hn]) HP HT1 HT2 hl1 hl2
 ·by_cases hn:r.num<0
  ·rw[cg hd,cq hn,yX] at hq;rw[hq];exact cmr v _ k _ hd0 hd w a1 b1 p1 (by rw[hv,cH hn]) HP HT1 HT2 hl1 hl2
  ·rw[cg hd,cg hn,CL] at hq;rw[hq];exact cmO v _ k _ hd0 hd w a1 b1 p1 (by rw[hv,cJ hn]) HP HT1 HT2 hl1 hl2
theorem caI (l:List UInt8) (acc k:Nat) (ha:acc<10^k) (hk:k+l.length<=19) :
 Lib.parseUintM (2^64-1) acc l=if l.all kS then .ok (l.foldl (fun a c=>10*a+(c.toNat-48)) acc) else Lib.parseUintB 64 []:=by
 induction l generalizing acc k with
 |nil=>simp [Lib.parseUintM]
 |cons c l ih =>
  rw[Lib.parseUintM];simp only[kK] at hk;by_cases hc:48<=c.toNat/\c.toNat<=57
  ·have hd:kS c=true:=by unfold kS;simp [hc]
   have h1:10^k<=10^18:=ke (by omega) (by omega);have h2:acc*10+(c.toNat-48)<10^(k+1):=by rw[jl];omega
   have h3:10^(k+1)<=10^19:=ke (by omega) (by omega);rw[cq hc,cg (by omega),cg (by omega),ih _ (k+1) h2 (by omega)];simp only[List.all_cons,hd,UL,List.foldl_cons];rw[jg acc 10]
  ·have hd:kS c=false:=by unfold kS;simp;omega
   rw[cg hc];simp only[List.all_cons,hd,CR];rfl
theorem Uk (l:List UInt8) {a b:Nat}(h:l.length<=a) (hab:a<=b):(⟨l.toArray⟩:ByteArray).size<=b:=by
 have:(⟨l.toArray⟩:ByteArray).size=l.length:=by simp [ByteArray.size]
 omega
theorem cpx (l:List UInt8) (h0:l≠[]) (h19:l.length<=19) (hd:l.all kS=true) (w:World) :
 Calls Tryz.prog 107 #[str l,.int .i64 10,.int .i64 64] w (fun e w'=>e=.returned (.tuple #[u (jA l),.nilIface])/\Below w.heap.size w w'):=by
 have h:Lib.parseUintB 64 (⟨l.toArray⟩:ByteArray).data.toList=.ok (jA l):=by
  unfold Lib.parseUintB;rw[cg (by simpa using h0),caI _ 0 0 (by decide) (by simpa using h19)];simp only[hd,Cg];rfl
 refine(Tryz.strconv_ParseUint_10_at64_ok ⟨l.toArray⟩ (Uk l h19 (by omega)) (jA l) h w).mono ?_;rintro e w' ⟨rfl,hw⟩;refine⟨rfl,?_⟩;rcases hw with rfl|rfl
 ·exact cw _ _
 ·exact Lib.bytesWorld_below _ _ _
theorem cml (l:List UInt8) (h0:l≠[]) (h19:l.length<=19) (hd:l.all kS=false) (w:World) (hG:Gr w) :
 Calls Tryz.prog 107 #[str l,.int .i64 10,.int .i64 64] w (fun e w'=>∃ t p,e=.returned (.tuple #[.int .u64 0,.iface t (.pointer (some p))])/\Below w.heap.size w w'):=by
 have h:Lib.parseUintB 64 (⟨l.toArray⟩:ByteArray).data.toList=Lib.parseUintB 64 []:=by
  unfold Lib.parseUintB;rw[cg (by simpa using h0),caI _ 0 0 (by decide) (by simpa using h19)];simp only[hd];rfl
 obtain⟨tp,p,hs⟩:=hG.syn;refine(Tryz.strconv_ParseUint_10_at64_syntax ⟨l.toArray⟩ (Uk l h19 (by omega)) h (.iface tp p) w hs (.inr ⟨tp,p,rfl⟩)).mono ?_;rintro e w' ⟨N,rfl,_,_,hb⟩;exact⟨_,_,rfl,hb⟩
def cgz:Value->Nat
 |.string s=>s.size
 |_=>0
def caA (w:World) (l:List UInt8) (e:Ending) (w':World):Prop :=
 (uJ l=true/\∃ v,e=.returned (.tuple #[v,.bool true])/\cA w' v (jA l)/\Below w.heap.size w w')\/
 (uJ l=false/\e=.returned (.tuple #[.slice none 0 0,.bool false])/\Below w.heap.size w w')
theorem YV (l:List UInt8) (n:Nat):(⟨l.toArray⟩:ByteArray).extract 0 n=⟨(l.take n).toArray⟩:=by
 apply ByteArray.ext;simp [ByteArray.data_extract]
theorem YJ (l:List UInt8) (n:Nat):(⟨l.toArray⟩:ByteArray).extract n l.length=⟨(l.drop n).toArray⟩:=by
 apply ByteArray.ext;simp [ByteArray.data_extract];rw[kE (by simp)]
def ReadRel (w:World) (l:List UInt8) (s x:Value) (wr:World):Prop :=
 ∃ pre rest,s=str rest/\l=pre++rest/\pre.all kS=true/\cA wr x (jA pre)/\(pre=[]\/rest.length%19=0)/\Below w.heap.size w wr
theorem Ub (l:List UInt8) (w:World) (hl:l.length<=100000) (hG:Gr w):Calls Tryz.prog 64 #[str l] w (caA w l):=by
 have HG:=ca hG;clear hG;by_cases h0:l=[]
 ·subst h0;have hk:uJ []=false:=rfl
  go_enter Tryz.func64,Tryz.ntmps64
  go_wp2_with fail;refine cP (v:=.tuple #[.slice none 0 0,.bool false]) (by simp [results,Tryz.results64,go_sem]) rfl ?_;exact .inr ⟨hk,rfl,cw _ _⟩
 ·have e0:l.isEmpty=false:=by cases l<;>simp_all
  have H0:=ca h0;clear h0
  go_enter Tryz.func64,Tryz.ntmps64
  go_wp2_with fail
  go_loopw [0,4] (fun s x wr=>Hid (ReadRel w l s x wr)) (fun s _ _=>cgz s)
  case atStart=>exact⟨[],l,rfl,rfl,rfl,cA.zero w,.inl rfl,cw _ _⟩
  case round =>
   obtain⟨pre,rest,rfl,hpre,hd,hx,h19,hb⟩:=hrel.out;clear hrel;by_cases hr:rest=[]
   ·subst hr;obtain⟨xa,xl,xc,rfl,_⟩:=hx.form;have hfin:uJ l=true/\cA wr (.slice xa xl xc) (jA l):=by
     rw[uE] at hpre;subst hpre;refine⟨?_,hx⟩;unfold uJ;rw[hd,e0];rfl
    have HFin:=ca hfin;have HB:=ca hb;clear hfin hb hx h19 hpre hd;go_wp2_with fail;refine cP (v:=.tuple #[.slice xa xl xc,.bool true]) (by simp [results,Tryz.results64,go_sem]) rfl ?_;exact .inl ⟨HFin.out.1,_,rfl,HFin.out.2,HB.out⟩
   ·have e1:rest.isEmpty=false:=by cases rest<;>simp_all
    have hm0:0<rest.length:=by cases rest<;>simp_all
    obtain⟨q,hq⟩:∃ q,q=(rest.length-1)%19:=⟨_,rfl⟩;have hq19:q<19:=by omega
    have hqm:q+1<=rest.length:=by have:=Nat.mod_le (rest.length-1) 19;omega
    have g1:((rest.length:Nat):Int)-1=((rest.length-1:Nat):Int):=by omega
    have g2:Int.tmod ((rest.length:Nat)-1:Int) 19=(q:Int):=by rw[g1,cgh (by omega)];omega
    have g3:(((rest.length:Nat):Int)-1)%19=(q:Int):=by omega
    have hxt:=YV rest (q+1);have hxd:=YJ rest (q+1);have hl1:(rest.length:Int)<=100000:=by
     have:=cu List.length hpre;rw[kR] at this;omega
    have hqmi:(q:Int)+1<=(rest.length:Int):=by omega
    have HPre:=ca hpre;have HD:=ca hd;have HX:=ca hx;have H19:=ca h19;have HB:=ca hb;have HQ:=ca hq;obtain⟨xa,xl,xc,rfl,_⟩:=hx.form;clear hpre hd hx h19 hb hq g1 hr;go_wp2_with fail;by_cases hg:(rest.take (q+1)).all kS=true
    ·refine(cpx (rest.take (q+1)) (by intro e;have:=cu List.length e;rw[cT,KK] at this;omega) (by rw[cT];omega) hg wr).mono ?_;rintro e W1 ⟨rfl,hb1⟩;have hval:jA (pre++rest.take (q+1))=jA pre*10000000000000000000+jA (rest.take (q+1)):=by
      rw[UI];rcases H19.out with h|h
      ·subst h;simp [jA]
      ·have hq18:q=18:=by have:=HQ.out;omega
       rw[cT,hq18,um (by omega)];rw[jg]
     have hgl:jA (rest.take (q+1))<B:=by
      have h1:=WD (rest.take (q+1)) (by simpa using hg);have h2:10^(rest.take (q+1)).length<=10^19:=ke (by omega) (by rw[cT];omega);exact cF h1 (cC h2 (by decide))
     obtain⟨K,hK1,hK2⟩:∃ K:Nat,100000<=K/\((K+1:Nat):Int)<=1073741824:=⟨100001,by omega,by omega⟩;have hBK:B<=B^K:=by
      have:=ke ki (show 1<=K by omega)
      rwa [Jp] at this
     have hpl:jA pre<B^K:=by
      have h1:=WD pre (by simpa using HD.out);have h2:pre.length<=100000:=by
       have:=cu List.length HPre.out;rw[kR] at this;omega
      exact cF h1 (cC (cbk (by decide) _) (ke ki (by omega)))
     have hnew:pre++rest.take (q+1)++rest.drop (q+1)=l:=by rw[yX,kC];exact HPre.out.symm
     have hall:(pre++rest.take (q+1)).all kS=true:=by rw[List.all_append,HD.out,hg];rfl
     have hmod:(rest.drop (q+1)).length%19=0:=by rw[kL,HQ.out];omega
     have hprod:jA pre*10000000000000000000<B^(K+1):=by
      rw[jl];exact Nat.mul_lt_mul'' hpl (by decide)
     have hgk:jA (rest.take (q+1))<B^(K+1):=cF hgl (by
      rw[jl];exact Nat.le_mul_of_pos_left _ (kM ki))
     have HW:=ca (fun W=>Uu (jA (rest.take (q+1))) W hgl);have HT:=ca (fun x y W (hx:cA W x (jA pre)) (hy:cA W y 10000000000000000000)=>Cw x y (jA pre) 10000000000000000000 K W hx hy hpl (cF (by decide) hBK) (by omega));have HP:=ca (fun x y W (hx:cA W x (jA pre*10000000000000000000)) (hy:cA W y (jA (rest.take (q+1))))=>chL x y _ _ (K+1) W hx hy hprod hgk hK2);have HVal:=ca hval;have HNew:=ca hnew;have HAll:=ca hall;have HMod:=ca hmod;have HX1:=ca (HX.out.below hb1 (cb _));have HB1:=ca (cn HB.out hb1);have hms:cgz (str (rest.drop (q+1)))<cgz (str rest):=by
      simp [cgz,ByteArray.size];omega
     have HMs:=ca hms;clear hval hgl hpl hnew hall hmod hprod hgk hms hb1 hg HX HB hBK hK1 hK2;generalize jA (rest.take (q+1))=gv at *;generalize rest.drop (q+1)=rest2 at *;go_wp2_with fail;have hone:cA (W1.alloc (.cells #[.int .u64 10000000000000000000] 36)) (.slice (some ⟨W1.heap.size,0,none⟩) 1 1) 10000000000000000000:=clr W1 10000000000000000000 (by decide) (by decide);have hb2:=jI W1 (.cells #[.int .u64 10000000000000000000] 36);refine(HT.out _ _ _ (HX1.out.below hb2 (cb _)) hone).mono ?_;rintro e W2 ⟨v2,rfl,hv2,hb3⟩;have HV2:=ca hv2;have HB2:=ca (cn (cn HB1.out hb2) hb3);obtain⟨_,_,_,rfl,_⟩:=hv2.form;clear hv2 hone hb2 hb3 HT HX1 HB1;go_wp2_with fail;refine(HW.out _).mono ?_;rintro e W3 ⟨v3,rfl,hv3,hb3⟩;have HV3:=ca hv3;have HV2:=ca (HV2.out.below hb3 (cb _));have HB3:=ca (cn HB2.out hb3);obtain⟨_,_,_,rfl,_⟩:=hv3.form;clear hv3 hb3 HW HB2;go_wp2_with fail;refine(HP.out _ _ _ HV2.out HV3.out).mono ?_;rintro e W4 ⟨v4,rfl,hv4,hb4⟩;rw[← HVal.out] at hv4;have HV4:=ca hv4;have HB4:=ca (cn HB3.out hb4);obtain⟨_,_,_,rfl,_⟩:=hv4.form;clear hv4 hb4 HP HV2 HV3 HB3;go_wp2_with fail
     go_roundw
     case rel=>exact⟨pre++rest.take (q+1),rest2,rfl,HNew.out.symm,HAll.out,HV4.out,.inr HMod.out,HB4.out⟩
     case measure=>exact HMs.out
    ·have hg:(rest.take (q+1)).all kS=false:=by simpa using hg
     refine(cml (rest.take (q+1)) (by intro e;have:=cu List.length e;rw[cT,KK] at this;omega) (by rw[cT];omega) hg wr (HG.out.below HB.out HG.out.size)).mono ?_;rintro e W1 ⟨t,p,rfl,hb1⟩;have hfin:uJ l=false:=by
      rw[HPre.out];unfold uJ;rw[← kC (q+1) rest,List.all_append,List.all_append,hg];simp
     have HFin:=ca hfin;have HB1:=ca (cn HB.out hb1);clear hfin hb1 hg hxt hxd;go_wp2_with fail;refine cP (v:=.tuple #[.slice none 0 0,.bool false]) (by simp [results,Tryz.results64,go_sem]) rfl ?_;exact .inr ⟨HFin.out,rfl,HB1.out⟩
end Go.Proofs.YtclihnehnkijgaaGreatDoor
