/- Part 17. -/
import Derived.Test.YtgdnkbajagfijaaGreatDoorD16
import Derived.Lib.ParseIntB
set_option linter.all false

namespace Go.Proofs.YtgdnkbajagfijaaGreatDoor
open Go Go.RowKit Go.Proofs Lim
theorem yG (v1 v2:Value) (m n k:Nat) (w:World) (h1:cw w v1 m) (h2:cw w v2 n) (hn:0<n) (hm:m<B^k) (hk:(k:Int)<=1073741824) :
 Calls Tryz.prog 141 #[v1,v2] w (Ue w (m/n)):=by
 have HOv:=ca (Zi v1 v2 m n k w h1 h2 hn hm hk);have H1:=ca h1;by_cases o2:n=1
 ·have HI:=ca (WN v2 n w h2 o2);subst o2;obtain⟨xs,⟨⟨xa,xc,rfl,_⟩,_⟩,_⟩:=h1;obtain⟨ys,⟨⟨ya,yc,rfl,_⟩,_⟩,_⟩:=h2;clear hm hn hk HOv
  go_enter Tryz.func141,Tryz.ntmps141
  go_wp2_with fail;refine HI.out.mono ?_;rintro e w1 ⟨rfl,rfl⟩;go_wp2_with fail
  go_ret
  refine⟨_,rfl,?_,cu _ _⟩;rw[Nat.div_one];exact H1.out
 ·have HI:=ca (UB v2 n w h2 o2);obtain⟨xs,⟨⟨xa,xc,rfl,_⟩,_⟩,_⟩:=h1;obtain⟨ys,⟨⟨ya,yc,rfl,_⟩,_⟩,_⟩:=h2;clear hm hn hk o2
  go_enter Tryz.func141,Tryz.ntmps141
  go_wp2_with fail;refine HI.out.mono ?_;rintro e w1 ⟨rfl,rfl⟩;go_wp2_with fail;refine HOv.out.mono ?_;rintro e w' ⟨q,r,rfl,hq,hr,hbel⟩;have HQ:=ca hq;have HB:=ca hbel;clear hq hr hbel;go_wp2_with fail
  go_ret
  exact⟨q,rfl,HQ.out,HB.out⟩
set_option maxHeartbeats 3200000 in
theorem cdE (v1 v2:Value) (neg1 neg2:Bool) (n1 d1 n2 d2 k:Nat) (w:World) (h1:Num w v1 neg1 n1 d1) (h2:Num w v2 neg2 n2 d2)
 (hn1:n1<B^k) (hd1:d1<B^k) (hn2:n2<B^k) (hd2:d2<B^k) (p1:0<d1) (p2:0<d2) (hk:(k:Int)<=1073741824) (hG:Gr w) :
 Calls Tryz.prog 106 #[v1,v2] w (yz w (!neg1 == neg2) (n1/Nat.gcd n1 d2*(n2/Nat.gcd n2 d1)) (d1/Nat.gcd n2 d1*(d2/Nat.gcd n1 d2))):=by
 have HP1:=ca (fun W (hW:Below w.heap.size w W)=>Ex v1 neg1 n1 d1 W (h1.below hW (cb _)));have HP2:=ca (fun W (hW:Below w.heap.size w W)=>Ex v2 neg2 n2 d2 W (h2.below hW (cb _)));obtain⟨a1,b1,q1,rfl,_⟩:=h1.form;obtain⟨a2,b2,q2,rfl,_⟩:=h2.form;have HC1:=ca (fun x y W (hx:cw W x n1) (hy:cw W y d2) (hW:Below w.heap.size w W)=>Ki x y n1 d2 k W hx hy hn1 hd2 hk (hG.below hW hG.size));have HC2:=ca (fun x y W (hx:cw W x n2) (hy:cw W y d1) (hW:Below w.heap.size w W)=>Ki x y n2 d1 k W hx hy hn2 hd1 hk (hG.below hW hG.size));have hg1:0<Nat.gcd n1 d2:=zd _ p2;have hg2:0<Nat.gcd n2 d1:=zd _ p1;have hl1:Nat.gcd n1 d2<=d2:=Wm _ p2;have hl2:Nat.gcd n2 d1<=d1:=Wm _ p1;generalize Nat.gcd n1 d2=g1 at *;generalize Nat.gcd n2 d1=g2 at *;have HO1:=ca (fun x y W (hx:cw W x n1) (hy:cw W y g1)=>yG x y n1 g1 k W hx hy hg1 hn1 hk);have HO2:=ca (fun x y W (hx:cw W x n2) (hy:cw W y g2)=>yG x y n2 g2 k W hx hy hg2 hn2 hk);have HO3:=ca (fun x y W (hx:cw W x d1) (hy:cw W y g2)=>yG x y d1 g2 k W hx hy hg2 hd1 hk);have HO4:=ca (fun x y W (hx:cw W x d2) (hy:cw W y g1)=>yG x y d2 g1 k W hx hy hg1 hd2 hk);have l1:n1/g1<B^k:=jq (kF _ _) hn1;have l2:n2/g2<B^k:=jq (kF _ _) hn2;have l3:d1/g2<B^k:=jq (kF _ _) hd1;have l4:d2/g1<B^k:=jq (kF _ _) hd2;have hpos:0<d1/g2*(d2/g1):=Ch (Jp hl2 hg2) (Jp hl1 hg1);generalize n1/g1=m1 at *;generalize n2/g2=m2 at *;generalize d1/g2=e1 at *;generalize d2/g1=e2 at *;have HT1:=ca (fun x y W (hx:cw W x m1) (hy:cw W y m2)=>Cv x y m1 m2 k W hx hy l1 l2 hk)
 have HT2:=ca (fun x y W (hx:cw W x e1) (hy:cw W y e2)=>Cv x y e1 e2 k W hx hy l3 l4 hk);have HF:=ca (fun x y W (hx:cw W x (m1*m2)) (hy:cw W y (e1*e2))=>GC (!neg1 == neg2) x y (m1*m2) (e1*e2) W hx hy hpos);clear h1 h2 hn1 hd1 hn2 hd2 hG hg1 hg2 hl1 hl2 l1 l2 l3 l4 hpos p1 p2;generalize m1*m2=NUM at *;generalize e1*e2=DEN at *
 go_enter Tryz.func106,Tryz.ntmps106
 go_wp2_with fail;obtain⟨W0,hW0,hb0,⟨f0,f1,f2,f3⟩,⟨g0,g1,g2,g3⟩,hz⟩:=caz w (.bool neg1) (u a1) (u b1) (.pointer q1) (.bool neg2) (u a2) (u b2) (.pointer q2);rw[← hW0];clear hW0;have HZ:=ca hz;have HW0:=ca hb0;have hb0:=cu W0.heap.size W0;clear hz;refine(HP1.out _ (cn HW0.out hb0)).mono ?_;rintro e W1 ⟨x1,y1,rfl,hx1,hy1,hb⟩
 (obtain⟨_,_,_,_,_,_,_,_⟩:=kL w hb)
 obtain⟨xa1,xl1,xc1,rfl,_⟩:=hx1.form;obtain⟨ya1,yl1,yc1,rfl,_⟩:=hy1.form;have HX1:=ca hx1;have HY1:=ca hy1;have HA1:=ca (cn hb0 hb);clear hb0 hb hx1 hy1 f0 f1 f2 f3 g0 g1 g2 g3;go_wp2_with fail;refine(HP2.out _ (cn HW0.out HA1.out)).mono ?_;rintro e W2 ⟨x2,y2,rfl,hx2,hy2,hb⟩
 (obtain⟨_,_,_,_,_,_,_,_⟩:=kL w hb)
 obtain⟨xa2,xl2,xc2,rfl,_⟩:=hx2.form;obtain⟨ya2,yl2,yc2,rfl,_⟩:=hy2.form;have HX1:=ca (HX1.out.below hb (cb _));have HY1:=ca (HY1.out.below hb (cb _));have HX2:=ca hx2;have HY2:=ca hy2;have HA2:=ca (cn HA1.out hb);clear hb hx2 hy2 HA1;have HA:=HA2;clear HA2;go_wp2_with fail;refine(HC1.out _ _ _ HX1.out HY2.out (cn HW0.out HA.out)).mono ?_;rintro e W3 ⟨g,rfl,hv,hb⟩
 (obtain⟨_,_,_,_,_,_,_,_⟩:=kL w hb)
 obtain⟨_,_,_,rfl,_⟩:=hv.form;have HX1:=ca (HX1.out.below hb (cb _));have HY1:=ca (HY1.out.below hb (cb _));have HX2:=ca (HX2.out.below hb (cb _));have HY2:=ca (HY2.out.below hb (cb _));have H_g:=ca hv;have HA:=ca (cn HA.out hb);clear hb hv;go_wp2_with fail;refine(HC2.out _ _ _ HX2.out HY1.out (cn HW0.out HA.out)).mono ?_;rintro e W4 ⟨h,rfl,hv,hb⟩
 (obtain⟨_,_,_,_,_,_,_,_⟩:=kL w hb)
 obtain⟨_,_,_,rfl,_⟩:=hv.form;have HX1:=ca (HX1.out.below hb (cb _));have HY1:=ca (HY1.out.below hb (cb _));have HX2:=ca (HX2.out.below hb (cb _));have HY2:=ca (HY2.out.below hb (cb _));have H_g:=ca (H_g.out.below hb (cb _));have H_h:=ca hv;have HA:=ca (cn HA.out hb);clear hb hv;go_wp2_with fail;refine(HO1.out _ _ _ HX1.out H_g.out).mono ?_;rintro e W5 ⟨r,rfl,hv,hb⟩
 (obtain⟨_,_,_,_,_,_,_,_⟩:=kL w hb)
 obtain⟨_,_,_,rfl,_⟩:=hv.form;have HY1:=ca (HY1.out.below hb (cb _));have HX2:=ca (HX2.out.below hb (cb _));have HY2:=ca (HY2.out.below hb (cb _));have H_g:=ca (H_g.out.below hb (cb _));have H_h:=ca (H_h.out.below hb (cb _));have H_r:=ca hv;have HA:=ca (cn HA.out hb);clear hb hv;go_wp2_with fail;refine(HO2.out _ _ _ HX2.out H_h.out).mono ?_;rintro e W6 ⟨s,rfl,hv,hb⟩
 (obtain⟨_,_,_,_,_,_,_,_⟩:=kL w hb)
 obtain⟨_,_,_,rfl,_⟩:=hv.form;have HY1:=ca (HY1.out.below hb (cb _));have HY2:=ca (HY2.out.below hb (cb _));have H_g:=ca (H_g.out.below hb (cb _));have H_h:=ca (H_h.out.below hb (cb _));have H_r:=ca (H_r.out.below hb (cb _));have H_s:=ca hv;have HA:=ca (cn HA.out hb);clear hb hv;go_wp2_with fail;refine(HT1.out _ _ _ H_r.out H_s.out).mono ?_;rintro e W7 ⟨num,rfl,hv,hb⟩
 (obtain⟨_,_,_,_,_,_,_,_⟩:=kL w hb)
 obtain⟨_,_,_,rfl,_⟩:=hv.form;have HY1:=ca (HY1.out.below hb (cb _));have HY2:=ca (HY2.out.below hb (cb _));have H_g:=ca (H_g.out.below hb (cb _));have H_h:=ca (H_h.out.below hb (cb _));have H_num:=ca hv;have HA:=ca (cn HA.out hb);clear hb hv;go_wp2_with fail;refine(HO3.out _ _ _ HY1.out H_h.out).mono ?_;rintro e W8 ⟨r,rfl,hv,hb⟩
 (obtain⟨_,_,_,_,_,_,_,_⟩:=kL w hb)
 obtain⟨_,_,_,rfl,_⟩:=hv.form;have HY2:=ca (HY2.out.below hb (cb _));have H_g:=ca (H_g.out.below hb (cb _));have H_num:=ca (H_num.out.below hb (cb _));have H_r:=ca hv;have HA:=ca (cn HA.out hb);clear hb hv;go_wp2_with fail;refine(HO4.out _ _ _ HY2.out H_g.out).mono ?_;rintro e W9 ⟨s,rfl,hv,hb⟩
 (obtain⟨_,_,_,_,_,_,_,_⟩:=kL w hb)
 obtain⟨_,_,_,rfl,_⟩:=hv.form;have H_num:=ca (H_num.out.below hb (cb _));have H_r:=ca (H_r.out.below hb (cb _));have H_s:=ca hv;have HA:=ca (cn HA.out hb);clear hb hv;go_wp2_with fail;refine(HT2.out _ _ _ H_r.out H_s.out).mono ?_;rintro e W10 ⟨den,rfl,hv,hb⟩
 (obtain⟨_,_,_,_,_,_,_,_⟩:=kL w hb)
 obtain⟨_,_,_,rfl,_⟩:=hv.form;have H_num:=ca (H_num.out.below hb (cb _));have H_den:=ca hv;have HA:=ca (cn HA.out hb);clear hb hv;go_wp2_with fail;refine(HF.out _ _ _ H_num.out H_den.out).mono ?_;rintro e W11 ⟨v,rfl,hN,hb⟩
 (obtain⟨_,_,_,_,_,_,_,_⟩:=kL w hb)
 have hb3:=cn HA.out hb;obtain⟨a,b,p,rfl,_⟩:=hN.form;have hz:=HZ.out.below hb3 (cb _);have hfin:=yz.stored (a0:=.bool ((!neg1 == neg2)&&!decide (NUM=0))) (a1:=u a) (a2:=u b) (a3:=.pointer p) hz hN (cn HW0.out hb3) (by omega);have HFin:=ca hfin
 (obtain⟨z0,z1,z2,z3,zf0,zf1,zf2,zf3⟩:=HZ.out.zed hb3)
 clear hfin hN hb hb3;generalize ((!neg1 == neg2)&&!decide (NUM=0))=sg at *;go_wp2_with fail;refine cP (v:=.agg #[.bool sg,u a,u b,.pointer p]) (by simp [results,Tryz.results106,go_sem,z0,z1,z2,z3]) rfl ?_;exact HFin.out
theorem addS_lt {a b:Bool}{x y j:Nat}(hx:x<B^j) (hy:y<B^j):(zj a x b y).2<B^(j+1):=by
 have h2:2*B^j<=B^(j+1):=by
  rw[ji,je];exact jr _ (by decide)
 have:(zj a x b y).2<=x+y:=by
  unfold zj;split
  ·exact cb _
  ·split
   ·show x-y<=x+y;omega
   ·show y-x<=x+y;omega
 omega
set_option maxHeartbeats 3200000 in
theorem cfZ (v1 v2:Value) (neg1 neg2:Bool) (n1 d1 n2 d2 k:Nat) (w:World) (h1:Num w v1 neg1 n1 d1) (h2:Num w v2 neg2 n2 d2)
 (hn1:n1<B^k) (hd1:d1<B^k) (hn2:n2<B^k) (hd2:d2<B^k) (p1:0<d1) (p2:0<d2) (hk:((k+k+1:Nat):Int)<=1073741824) (hG:Gr w) :
 Calls Tryz.prog 119 #[v1,v2] w (yz w (ccT neg1 n1 d1 neg2 n2 d2).1 (YV neg1 n1 d1 neg2 n2 d2) (sumD neg1 n1 d1 neg2 n2 d2)):=by
 have HP1:=ca (fun W (hW:Below w.heap.size w W)=>Ex v1 neg1 n1 d1 W (h1.below hW (cb _)));have HP2:=ca (fun W (hW:Below w.heap.size w W)=>Ex v2 neg2 n2 d2 W (h2.below hW (cb _)));obtain⟨a1,b1,q1,rfl,_⟩:=h1.form;obtain⟨a2,b2,q2,rfl,_⟩:=h2.form;have hk1:(k:Int)<=1073741824:=by omega
 have hk2:((k+k:Nat):Int)<=1073741824:=by omega
 have HC1:=ca (fun x y W (hx:cw W x d1) (hy:cw W y d2) (hW:Below w.heap.size w W)=>Ki x y d1 d2 k W hx hy hd1 hd2 hk1 (hG.below hW hG.size));have hg:0<Nat.gcd d1 d2:=zd _ p2;have hgl:Nat.gcd d1 d2<=d1:=Nat.gcd_le_left _ p1;have hdv:Nat.gcd d1 d2 ∣ d2:=yN _ _;unfold YV sumD sumX ccT;generalize Nat.gcd d1 d2=g at *;have HO1:=ca (fun x y W (hx:cw W x d1) (hy:cw W y g)=>yG x y d1 g k W hx hy hg hd1 hk1);have HO2:=ca (fun x y W (hx:cw W x d2) (hy:cw W y g)=>yG x y d2 g k W hx hy hg hd2 hk1);have l1:d1/g<B^k:=jq (kF _ _) hd1;have l2:d2/g<B^k:=jq (kF _ _) hd2;have hr1:0<d1/g:=Jp hgl hg;generalize d1/g=r1 at *;generalize d2/g=r2 at *;have HT1:=ca (fun x y W (hx:cw W x n1) (hy:cw W y r2)=>Cv x y n1 r2 k W hx hy hn1 l2 hk1);have HT2:=ca (fun x y W (hx:cw W x n2) (hy:cw W y r1)=>Cv x y n2 r1 k W hx hy hn2 l1 hk1);have m1:n1*r2<B^(k+k):=Cq hn1 l2;have m2:n2*r1<B^(k+k):=Cq hn2 l1;generalize n1*r2=L at *;generalize n2*r1=R at *;have HAS:=ca (fun x y W (hx:cw W x L) (hy:cw W y R)=>cdB neg1 neg2 x y L R (k+k) W hx hy m1 m2 hk2);have hsum:=addS_lt (a:=neg1) (b:=neg2) m1 m2;generalize (zj neg1 L neg2 R).1=NEG at *;generalize (zj neg1 L neg2 R).2=S at *;have hgB:g<B^(k+k+1):=jq hgl (cE hd1 (jW ke (by omega)));have HC2:=ca (fun x y W (hx:cw W x S) (hy:cw W y g) (hW:Below w.heap.size w W)=>Ki x y S g (k+k+1) W hx hy hsum hgB hk (hG.below hW hG.size));have hx0:0<Nat.gcd S g:=zd _ hg;have hxl:Nat.gcd S g<=d2:=cB (Wm _ hg) (Nat.le_of_dvd p2 hdv)
 generalize Nat.gcd S g=X at *;have HO3:=ca (fun x y W (hx:cw W x S) (hy:cw W y X)=>yG x y S X (k+k+1) W hx hy hx0 hsum hk);have HO4:=ca (fun x y W (hx:cw W x d2) (hy:cw W y X)=>yG x y d2 X k W hx hy hx0 hd2 hk1);have l4:d2/X<B^k:=jq (kF _ _) hd2;have hpos:0<r1*(d2/X):=Ch hr1 (Jp hxl hx0);generalize d2/X=E at *;generalize S/X=NUM at *;have HT3:=ca (fun x y W (hx:cw W x r1) (hy:cw W y E)=>Cv x y r1 E k W hx hy l1 l4 hk1);have HF:=ca (fun x y W (hx:cw W x NUM) (hy:cw W y (r1*E))=>GC NEG x y NUM (r1*E) W hx hy hpos);generalize r1*E=DEN at *;clear h1 h2 hn1 hd1 hn2 hd2 hG hg hgl hdv l1 l2 hr1 m1 m2 hsum hgB hx0 hxl l4 hpos p1 p2 hk1 hk2
 go_enter Tryz.func119,Tryz.ntmps119
 go_wp2_with fail;obtain⟨W0,hW0,hb0,⟨f0,f1,f2,f3⟩,⟨g0,g1,g2,g3⟩,hz⟩:=caz w (.bool neg1) (u a1) (u b1) (.pointer q1) (.bool neg2) (u a2) (u b2) (.pointer q2);rw[← hW0];clear hW0;have HZ:=ca hz;have HW0:=ca hb0;have hb0:=cu W0.heap.size W0;clear hz;refine(HP1.out _ (cn HW0.out hb0)).mono ?_;rintro e W1 ⟨x1,y1,rfl,hx1,hy1,hb⟩
 (obtain⟨_,_,_,_,_,_,_,_⟩:=kL w hb)
 obtain⟨xa1,xl1,xc1,rfl,_⟩:=hx1.form;obtain⟨ya1,yl1,yc1,rfl,_⟩:=hy1.form;have HX1:=ca hx1;have HY1:=ca hy1;have HA1:=ca (cn hb0 hb);clear hb0 hb hx1 hy1 f0 f1 f2 f3 g0 g1 g2 g3;go_wp2_with fail;refine(HP2.out _ (cn HW0.out HA1.out)).mono ?_;rintro e W2 ⟨x2,y2,rfl,hx2,hy2,hb⟩
 (obtain⟨_,_,_,_,_,_,_,_⟩:=kL w hb)
 obtain⟨xa2,xl2,xc2,rfl,_⟩:=hx2.form;obtain⟨ya2,yl2,yc2,rfl,_⟩:=hy2.form;have HX1:=ca (HX1.out.below hb (cb _));have HY1:=ca (HY1.out.below hb (cb _));have HX2:=ca hx2;have HY2:=ca hy2;have HA2:=ca (cn HA1.out hb);clear hb hx2 hy2 HA1;have HA:=HA2;clear HA2;go_wp2_with fail;refine(HC1.out _ _ _ HY1.out HY2.out (cn HW0.out HA.out)).mono ?_;rintro e W3 ⟨g,rfl,hv,hb⟩
 (obtain⟨_,_,_,_,_,_,_,_⟩:=kL w hb)
 obtain⟨_,_,_,rfl,_⟩:=hv.form;have HX1:=ca (HX1.out.below hb (cb _));have HY1:=ca (HY1.out.below hb (cb _));have HX2:=ca (HX2.out.below hb (cb _));have HY2:=ca (HY2.out.below hb (cb _));have H_g:=ca hv;have HA:=ca (cn HA.out hb);clear hb hv;go_wp2_with fail;refine(HO1.out _ _ _ HY1.out H_g.out).mono ?_;rintro e W4 ⟨r,rfl,hv,hb⟩
 (obtain⟨_,_,_,_,_,_,_,_⟩:=kL w hb)
 obtain⟨_,_,_,rfl,_⟩:=hv.form;have HX1:=ca (HX1.out.below hb (cb _));have HX2:=ca (HX2.out.below hb (cb _));have HY2:=ca (HY2.out.below hb (cb _));have H_g:=ca (H_g.out.below hb (cb _));have H_r:=ca hv;have HA:=ca (cn HA.out hb);clear hb hv;go_wp2_with fail;refine(HO2.out _ _ _ HY2.out H_g.out).mono ?_;rintro e W5 ⟨s,rfl,hv,hb⟩
 (obtain⟨_,_,_,_,_,_,_,_⟩:=kL w hb)
 obtain⟨_,_,_,rfl,_⟩:=hv.form;have HX1:=ca (HX1.out.below hb (cb _));have HX2:=ca (HX2.out.below hb (cb _));have HY2:=ca (HY2.out.below hb (cb _));have H_g:=ca (H_g.out.below hb (cb _));have H_r:=ca (H_r.out.below hb (cb _));have H_s:=ca hv;have HA:=ca (cn HA.out hb);clear hb hv;go_wp2_with fail
 go_region_held3 (fun w'=>(w'.cell? ⟨w.heap.size,0,none⟩=some (.bool neg1)/\w'.cell? ⟨w.heap.size,1,none⟩=some (u a1)/\w'.cell? ⟨w.heap.size,2,none⟩=some (u b1)/\w'.cell? ⟨w.heap.size,3,none⟩=some (.pointer q1))/\(w'.cell? ⟨w.heap.size+1,0,none⟩=some (.bool neg2)/\w'.cell? ⟨w.heap.size+1,1,none⟩=some (u a2)/\w'.cell? ⟨w.heap.size+1,2,none⟩=some (u b2)/\w'.cell? ⟨w.heap.size+1,3,none⟩=some (.pointer q2))) (go_keep) (first|((with_reducible refine(HT1.out _ _ _ (HX1.out.below (cu _ _).drew (cb _)) (H_s.out.below (cu _ _).drew (cb _))).mono ?_);rintro e W6 ⟨a,rfl,ha,hb⟩;(obtain⟨_,_,_,_,_,_,_,_⟩:=kL w hb);obtain⟨_,_,_,rfl,_⟩:=ha.form)|((with_reducible refine(HT2.out _ _ _ (HX2.out.below (uk (cu _ _) hb) (cb _)) (H_r.out.below (uk (cu _ _) hb) (cb _))).mono ?_);rintro e W7 ⟨b,rfl,hv,hb'⟩;(obtain⟨_,_,_,_,_,_,_,_⟩:=kL w hb');obtain⟨_,_,_,rfl,_⟩:=hv.form)|((with_reducible refine(HAS.out _ _ _ (ha.below hb' (cb _)) hv).mono ?_);rintro e W8 ⟨t,rfl,ht,hb''⟩;(obtain⟨_,_,_,_,_,_,_,_⟩:=kL w hb'');obtain⟨_,_,_,rfl,_⟩:=ht.form))
 have hbb:=cn (cn (uk (cu _ _) hb) hb') hb'';have HY2:=ca (HY2.out.below hbb (cb _));have H_g:=ca (H_g.out.below hbb (cb _));have H_r:=ca (H_r.out.below hbb (cb _));have H_t:=ca ht;have HA:=ca (cn HA.out hbb);clear hb hb' hb'' hbb ha hv ht;go_wp2_with fail;refine(HC2.out _ _ _ H_t.out H_g.out (cn HW0.out HA.out)).mono ?_;rintro e W9 ⟨x,rfl,hv,hb⟩
 (obtain⟨_,_,_,_,_,_,_,_⟩:=kL w hb)
 obtain⟨_,_,_,rfl,_⟩:=hv.form;have HY2:=ca (HY2.out.below hb (cb _));have H_r:=ca (H_r.out.below hb (cb _));have H_t:=ca (H_t.out.below hb (cb _));have H_x:=ca hv;have HA:=ca (cn HA.out hb);clear hb hv;go_wp2_with fail;refine(HO3.out _ _ _ H_t.out H_x.out).mono ?_;rintro e W10 ⟨num,rfl,hv,hb⟩
 (obtain⟨_,_,_,_,_,_,_,_⟩:=kL w hb)
 obtain⟨_,_,_,rfl,_⟩:=hv.form;have HY2:=ca (HY2.out.below hb (cb _));have H_r:=ca (H_r.out.below hb (cb _));have H_x:=ca (H_x.out.below hb (cb _));have H_num:=ca hv;have HA:=ca (cn HA.out hb);clear hb hv;go_wp2_with fail;refine(HO4.out _ _ _ HY2.out H_x.out).mono ?_;rintro e W11 ⟨q,rfl,hv,hb⟩
 (obtain⟨_,_,_,_,_,_,_,_⟩:=kL w hb)
 obtain⟨_,_,_,rfl,_⟩:=hv.form;have H_r:=ca (H_r.out.below hb (cb _));have H_num:=ca (H_num.out.below hb (cb _));have H_q:=ca hv;have HA:=ca (cn HA.out hb);clear hb hv;go_wp2_with fail;refine(HT3.out _ _ _ H_r.out H_q.out).mono ?_;rintro e W12 ⟨den,rfl,hv,hb⟩
 (obtain⟨_,_,_,_,_,_,_,_⟩:=kL w hb)
 obtain⟨_,_,_,rfl,_⟩:=hv.form;have H_num:=ca (H_num.out.below hb (cb _));have H_den:=ca hv;have HA:=ca (cn HA.out hb);clear hb hv;go_wp2_with fail;refine(HF.out _ _ _ H_num.out H_den.out).mono ?_;rintro e W13 ⟨v,rfl,hN,hb⟩
 (obtain⟨_,_,_,_,_,_,_,_⟩:=kL w hb)
 have hb3:=cn HA.out hb;obtain⟨a,b,p,rfl,_⟩:=hN.form;have hz:=HZ.out.below hb3 (cb _);have hfin:=yz.stored (a0:=.bool (NEG&&!decide (NUM=0))) (a1:=u a) (a2:=u b) (a3:=.pointer p) hz hN (cn HW0.out hb3) (by omega);have HFin:=ca hfin
 (obtain⟨z0,z1,z2,z3,zf0,zf1,zf2,zf3⟩:=HZ.out.zed hb3)
 clear hfin hN hb hb3;generalize (NEG&&!decide (NUM=0))=sg at *;go_wp2_with fail;refine cP (v:=.agg #[.bool sg,u a,u b,.pointer p]) (by simp [results,Tryz.results119,go_sem,z0,z1,z2,z3]) rfl ?_;exact HFin.out
def sgn (neg:Bool) (n:Nat):Int:=if neg then -(n:Int) else (n:Int)
theorem Gp (neg:Bool) (n:Nat):(sgn neg n).natAbs=n:=by unfold sgn;split<;>omega
theorem cbi (neg:Bool) (n:Nat):decide (sgn neg n<0)=(neg&&!decide (n=0)):=by
 unfold sgn;cases neg
 ·simp
 ·rw[Ji];simp;omega
theorem Uy (i:Int):sgn (decide (i<0)) i.natAbs=i:=by
 unfold sgn;by_cases h:i<0
 ·simp only[h,decide_true,Cn];omega
 ·simp only[h,decide_false,Uq,Gi];omega
theorem con (a b:Bool) (x y:Nat):sgn (zj a x b y).1 (zj a x b y).2=sgn a x+sgn b y:=by
 unfold zj sgn;by_cases h:y<=x<;>cases a<;>cases b<;>simp [h]<;>omega
theorem rat_eq {r:Rat}{N:Int}{D:Nat}(hD:0<D) (hc:N.natAbs.Coprime D) (P:Int) (Q:Nat) (hQ:Q≠0) (hr:r=mkRat P Q) (h:P*D=N*Q):r.num=N/\r.den=D:=by
 have hq:r=⟨N,D,Nat.ne_of_gt hD,hc⟩:=by
  rw[hr,← Rat.mkRat_self ⟨N,D,Nat.ne_of_gt hD,hc⟩];exact(Rat.mkRat_eq_iff hQ (Nat.ne_of_gt hD)).2 h
 subst hq;exact⟨rfl,rfl⟩
abbrev neg? (r:Rat):Bool:=decide (r.num<0)
theorem Wo (a b:Rat) :
 (a+b).num=sgn (ccT (neg? a) a.num.natAbs a.den (neg? b) b.num.natAbs b.den).1 (YV (neg? a) a.num.natAbs a.den (neg? b) b.num.natAbs b.den)/\
  (a+b).den=sumD (neg? a) a.num.natAbs a.den (neg? b) b.num.natAbs b.den:=by
 have hg:0<Nat.gcd a.den b.den:=zd _ b.den_pos;have haux:=Rat.add.aux a b (g:=Nat.gcd a.den b.den) rfl rfl rfl;simp only at haux;have e1:a.den/Nat.gcd a.den b.den*Nat.gcd a.den b.den=a.den:=Jr (ze _ _);have e2:b.den/Nat.gcd a.den b.den*Nat.gcd a.den b.den=b.den:=Jr (yN _ _);have hdvd:=yN a.den b.den;have hr1:0<a.den/Nat.gcd a.den b.den:=Jp (Nat.gcd_le_left _ a.den_pos) hg;have hsum:=con (neg? a) (neg? b) (a.num.natAbs*(b.den/Nat.gcd a.den b.den)) (b.num.natAbs*(a.den/Nat.gcd a.den b.den));have hm:∀ (i:Int) (x:Nat),sgn (decide (i<0)) (i.natAbs*x)=i*x:=by
  intro i x;have:=Uy i;unfold sgn at this ⊢;split
  ·rename_i h;rw[co h] at this;rw[ut,← Int.neg_mul,this]
  ·rename_i h;rw[cg h] at this;rw[ut,this]
 rw[hm,hm] at hsum;have hb:=b.den_pos;have hnz:a.den*b.den≠0:=Nat.ne_of_gt (Ch a.den_pos b.den_pos);have hdef:=Rat.add_def' a b;unfold YV sumD sumX ccT;rw[← hsum] at haux;rw[Gp] at haux;generalize hSS:zj (neg? a) (a.num.natAbs*(b.den/Nat.gcd a.den b.den)) (neg? b) (b.num.natAbs*(a.den/Nat.gcd a.den b.den))=S at *;generalize Nat.gcd a.den b.den=g at *;generalize a.den/g=r1 at *;generalize b.den/g=r2 at *;have hX0:0<Nat.gcd S.2 g:=zd _ hg;have hXb:Nat.gcd S.2 g ∣ b.den:=Nat.dvd_trans (yN _ _) hdvd;have hXS:S.2/Nat.gcd S.2 g*Nat.gcd S.2 g=S.2:=Jr (ze _ _);have hXE:b.den/Nat.gcd S.2 g*Nat.gcd S.2 g=b.den:=Jr hXb;have hcop:Nat.Coprime (S.2/Nat.gcd S.2 g) (r1*(b.den/Nat.gcd S.2 g)):=by
  rw[← Nat.mul_div_assoc _ hXb,haux];refine cgC ?_;rw[← haux];exact hX0
 have hE0:0<b.den/Nat.gcd S.2 g:=Jp (Nat.le_of_dvd hb hXb) hX0;generalize Nat.gcd S.2 g=X at *;generalize S.2/X=N at *;generalize hE:b.den/X=E at *;refine rat_eq (Ch hr1 hE0) (by rw[Gp];exact hcop) _ _ hnz hdef ?_;have hs:sgn S.1 S.2=sgn S.1 N*X:=by
  unfold sgn;rw[← hXS];split<;>rw[ut];rw[Int.neg_mul]
 rw[hs] at hsum;generalize sgn S.1 N=NN at *;generalize a.num=an at *;generalize b.num=bn at *;rw[← e1];have e2':((b.den:Nat):Int)=(r2:Int)*g:=by rw[← e2];simp
 have e3':((b.den:Nat):Int)=(E:Int)*X:=by rw[← hXE];simp
 simp only[ut];generalize ((b.den:Nat):Int)=bd at *;grind
theorem WF (a b:Rat) :
 (a*b).num=sgn (!neg? a == neg? b) (a.num.natAbs/Nat.gcd a.num.natAbs b.den*(b.num.natAbs/Nat.gcd b.num.natAbs a.den))/\
  (a*b).den=a.den/Nat.gcd b.num.natAbs a.den*(b.den/Nat.gcd a.num.natAbs b.den):=by
 have hg1:0<Nat.gcd a.num.natAbs b.den:=zd _ b.den_pos;have hg2:0<Nat.gcd b.num.natAbs a.den:=zd _ a.den_pos;have hc:((a.num.natAbs/Nat.gcd a.num.natAbs b.den)*(b.num.natAbs/Nat.gcd b.num.natAbs a.den)).Coprime ((a.den/Nat.gcd b.num.natAbs a.den)*(b.den/Nat.gcd a.num.natAbs b.den)):=by
  rw[Nat.coprime_mul_iff_left];refine⟨Nat.coprime_mul_iff_right.2 ⟨?_,?_⟩,Nat.coprime_mul_iff_right.2 ⟨?_,?_⟩⟩
  ·exact a.reduced.coprime_div_left (ze ..) |>.coprime_div_right (yN ..)
  ·exact cgC hg1
  ·exact cgC hg2
  ·exact b.reduced.coprime_div_left (ze ..) |>.coprime_div_right (yN ..)
 have e1:a.num.natAbs/Nat.gcd a.num.natAbs b.den*Nat.gcd a.num.natAbs b.den=a.num.natAbs:=Jr (ze _ _);have e2:b.num.natAbs/Nat.gcd b.num.natAbs a.den*Nat.gcd b.num.natAbs a.den=b.num.natAbs:=Jr (ze _ _);have e3:a.den/Nat.gcd b.num.natAbs a.den*Nat.gcd b.num.natAbs a.den=a.den:=Jr (yN _ _);have e4:b.den/Nat.gcd a.num.natAbs b.den*Nat.gcd a.num.natAbs b.den=b.den:=Jr (yN _ _);have p3:0<a.den/Nat.gcd b.num.natAbs a.den:=Jp (Wm _ a.den_pos) hg2;have p4:0<b.den/Nat.gcd a.num.natAbs b.den:=Jp (Wm _ b.den_pos) hg1;have hnz:a.den*b.den≠0:=Nat.ne_of_gt (Ch a.den_pos b.den_pos);have hdef:=Rat.mul_def' a b;have ha:=Uy a.num;have hb:=Uy b.num;generalize Nat.gcd a.num.natAbs b.den=g1 at *;generalize Nat.gcd b.num.natAbs a.den=g2 at *;generalize a.num.natAbs/g1=m1 at *;generalize b.num.natAbs/g2=m2 at *;generalize a.den/g2=q1 at *;generalize b.den/g1=q2 at *;refine rat_eq (Ch p3 p4) (by rw[Gp];exact hc) _ _ hnz hdef ?_;have hs:a.num*b.num=sgn (!neg? a == neg? b) (m1*m2)*(g1*g2):=by
  rw[← ha,← hb,← e1,← e2];unfold sgn;by_cases h1:a.num<0<;>by_cases h2:b.num<0<;>simp [h1,h2]<;>grind
 rw[hs,← e3,← e4];simp only[ut];grind
theorem yz.q {w w':World}{neg:Bool}{n d:Nat}{e:Ending}{r:Rat}(h:yz w neg n d e w') (hn:r.num=sgn neg n) (hd:r.den=d):ym w r e w':=by
 obtain⟨v,he,hN,hb⟩:=h;refine⟨v,he,?_,hb⟩;unfold IsQ;rw[hn,Gp,cbi];have:r.den=if n=0 then 1 else d:=by
  split
  ·rename_i h0;have hz:r.num=0:=by rw[hn,h0];unfold sgn;simp
   have:=r.reduced;rw[hz] at this;simpa using this
  ·exact hd
 rw[this];exact hN
theorem ym.stored {w W:World}{R:Nat}{v:Value}{r:Rat}{a0 a1 a2 a3:Value}(hR:Box W R (.bool false) (.int .u64 0) (.int .u64 0) (.pointer none))
 (h:IsQ W v r) (hb:Below w.heap.size w W) (hw:w.heap.size<=R) :
 ym w r (.returned v) ((((W.setCell ⟨R,0,none⟩ a0).setCell ⟨R,1,none⟩ a1).setCell ⟨R,2,none⟩ a2).setCell ⟨R,3,none⟩ a3):=by
 have ho:=((((jF.refl R W).set 0 a0).set 1 a1).set 2 a2).set 3 a3;exact⟨v,rfl,Num.only hR h ho,hb.trans (ho.below hw)⟩
theorem IsQ.form {w:World}{v:Value}{r:Rat}(h:IsQ w v r):∃ sg a b p,v=.agg #[.bool sg,u a,u b,.pointer p]:=by
 obtain⟨a,b,p,h,_⟩:=Num.form h;exact⟨_,a,b,p,h⟩
theorem cji (v1 v2:Value) (r s:Rat) (k:Nat) (w:World) (h1:IsQ w v1 r) (h2:IsQ w v2 s) (z1:Siz r k) (z2:Siz s k) (hk:((k+k+1:Nat):Int)<=1073741824) (hG:Gr w) :
 Calls Tryz.prog 119 #[v1,v2] w (ym w (r+s)) :=
 (cfZ v1 v2 _ _ _ _ _ _ k w h1 h2 z1.1 z1.2 z2.1 z2.2 r.den_pos s.den_pos hk hG).mono fun _ _ h=>h.q (Wo r s).1 (Wo r s).2
theorem Uu (v1 v2:Value) (r s:Rat) (k:Nat) (w:World) (h1:IsQ w v1 r) (h2:IsQ w v2 s) (z1:Siz r k) (z2:Siz s k) (hk:(k:Int)<=1073741824) (hG:Gr w) :
 Calls Tryz.prog 106 #[v1,v2] w (ym w (r*s)) :=
 (cdE v1 v2 _ _ _ _ _ _ k w h1 h2 z1.1 z1.2 z2.1 z2.2 r.den_pos s.den_pos hk hG).mono fun _ _ h=>h.q (WF r s).1 (WF r s).2
def cjo (w:World) (r:Rat) (e:Ending) (w':World):Prop :=
 ∃ a b c,∃ ok:Bool,e=.returned (.tuple #[lo a b c,.bool ok])/\(ok=true->∀ W,IsQ W (lo a b c) r)/\Below w.heap.size w w'
theorem Wp.q {w w':World}{neg:Bool}{n d:Nat}{e:Ending}{r:Rat}(h:Wp w neg n d e w') (hn:r.num=sgn neg n) (hd:r.den=d):cjo w r e w':=by
 obtain⟨a,b,c,ok,he,h1,h2,hb⟩:=h;refine⟨a,b,c,ok,he,fun hok W=>?_,hb⟩;obtain⟨i1,i2⟩:=h2 hok;obtain⟨j1,j2,j3⟩:=h1 hok ⟨i1,i2,hd▸r.den_pos⟩;unfold IsQ;rw[hn,Gp,cbi,← j1,hd,← j2];exact Num.low c rfl j3.symm (j2▸i1) i2
theorem IsQ.forms {w:World}{v:Value}{r:Rat}(h:IsQ w v r) :
 (∃ l,v=lo (neg? r) r.num.natAbs l/\r.den=l+1/\r.num.natAbs<B/\r.den<B)\/(∃ b,v=wi (neg? r) ⟨b,0,none⟩):=by
 cases h with
 |low l hv hd hn hdB=>exact .inl ⟨l,hv,hd,hn,hdB⟩
 |wide b x y hv hx hy h1 h2 hB h0 hd=>exact .inr ⟨b,hv⟩
theorem chM (r s:Rat) (l1 l2:Nat) (w:World) (d1:r.den=l1+1) (d2:s.den=l2+1) (h1:r.num.natAbs<B) (h2:r.den<B) (h3:s.num.natAbs<B) (h4:s.den<B) (hG:Gr w) :
 Calls Tryz.prog 118 #[lo (neg? r) r.num.natAbs l1,lo (neg? s) s.num.natAbs l2] w (cjo w (r+s)):=by
 refine(cdH (neg? r) (neg? s) _ l1 _ l2 h1 (d1▸h2) h3 (d2▸h4) w hG).mono fun _ _ h=>?_;rw[← d1,← d2] at h;exact h.q (Wo r s).1 (Wo r s).2
theorem cgp (r s:Rat) (l1 l2:Nat) (w:World) (d1:r.den=l1+1) (d2:s.den=l2+1) (h1:r.num.natAbs<B) (h2:r.den<B) (h3:s.num.natAbs<B) (h4:s.den<B) (hG:Gr w) :
 Calls Tryz.prog 121 #[lo (neg? r) r.num.natAbs l1,lo (neg? s) s.num.natAbs l2] w (cjo w (r*s)):=by
 refine(ccZ (neg? r) (neg? s) _ l1 _ l2 h1 (d1▸h2) h3 (d2▸h4) w hG).mono fun _ _ h=>?_;rw[← d1,← d2] at h;refine h.q ?_ (WF r s).2;have:=(WF r s).1;rw[this];congr 1
theorem ciB (v1 v2:Value) (r s:Rat) (k:Nat) (w:World) (h1:IsQ w v1 r) (h2:IsQ w v2 s) (z1:Siz r k) (z2:Siz s k) (hk:((k+k+1:Nat):Int)<=1073741824) (hG:Gr w) :
 Calls Tryz.prog 71 #[v1,v2] w (ym w (r+s)):=by
 have HW:=ca (fun W (hW:Below w.heap.size w W)=>cji v1 v2 r s k W (h1.below hW (cb _)) (h2.below hW (cb _)) z1 z2 hk (hG.below hW hG.size));rcases h1.forms with⟨l1,rfl,d1,i1,j1⟩|⟨b1,rfl⟩
 ·rcases h2.forms with⟨l2,rfl,d2,i2,j2⟩|⟨b2,rfl⟩
  ·have HS:=ca (fun W (hW:Below w.heap.size w W)=>chM r s l1 l2 W d1 d2 i1 j1 i2 j2 (hG.below hW hG.size));clear h1 h2 z1 z2 hk hG d1 d2 j1 j2;generalize neg? r=neg1 at *;generalize neg? s=neg2 at *;generalize r.num.natAbs=n1 at *;generalize s.num.natAbs=n2 at *;generalize r+s=t at *
   go_enter Tryz.func71,Tryz.ntmps71
   go_wp2_with fail;obtain⟨W0,hW0,hb0,⟨f0,f1,f2,f3⟩,⟨g0,g1,g2,g3⟩,hz⟩:=caz w (.bool neg1) (u n1) (u l1) (.pointer none) (.bool neg2) (u n2) (u l2) (.pointer none);rw[← hW0];clear hW0;have HZ:=ca hz;have HW0:=ca hb0;have hb0:=cu W0.heap.size W0;clear hz;refine(HS.out _ (cn HW0.out hb0)).mono ?_;rintro e W1 ⟨a,b,c,ok,rfl,hok,hb⟩
   (obtain⟨_,_,_,_,_,_,_,_⟩:=kL w hb)
   have HA:=ca (cn hb0 hb);have HOK:=ca hok;clear hb0 hb hok f0 f1 f2 f3 g0 g1 g2 g3
   (obtain⟨z0,z1,z2,z3,zf0,zf1,zf2,zf3⟩:=HZ.out.zed HA.out)
   have q0:w.heap.size<W1.heap.size:=jv W1 ⟨w.heap.size,0,none⟩ (by assumption);have q1:w.heap.size+1<W1.heap.size:=jv W1 ⟨w.heap.size+1,0,none⟩ (by assumption);have q2:w.heap.size+1+1<W1.heap.size:=jv W1 ⟨w.heap.size+1+1,0,none⟩ z0;cases ok
   ·go_wp2_with fail;have HA':=ca (cn HA.out (jI W1 (.cells #[.bool a,.int .u64 (b:Int),.int .u64 (c:Int),.pointer none] 34)));clear z0 z1 z2 z3 zf0 zf1 zf2 zf3 q0 q1 q2;refine(HW.out _ (cn HW0.out HA'.out)).mono ?_;rintro e W9 ⟨v,rfl,hN,hb⟩;have hb3:=cn HA'.out hb;have hN':=hN;obtain⟨sg,a9,b9,p9,rfl⟩:=hN'.form;have hz:=HZ.out.below hb3 (cb _);have hfin:=ym.stored (a0:=.bool sg) (a1:=u a9) (a2:=u b9) (a3:=.pointer p9) hz hN (cn HW0.out hb3) (by omega);have HFin:=ca hfin
    (obtain⟨z0,z1,z2,z3,zf0,zf1,zf2,zf3⟩:=HZ.out.zed hb3)
    clear hfin hN hN' hb hb3;go_wp2_with fail;refine cP (v:=.agg #[.bool sg,u a9,u b9,.pointer p9]) (by simp [results,Tryz.results71,go_sem,z0,z1,z2,z3]) rfl ?_;exact HFin.out
   ·have hT:=HOK.out rfl;have HT:=ca hT;clear hT;go_wp2_with fail;refine cP (v:=lo a b c) (by simp [results,Tryz.results71,go_sem,z0,z1,z2,z3,q2]) rfl ?_;exact⟨_,rfl,HT.out _,(uX HW0.out HA.out (by omega) _ _ _ _).trans ((jI _ _).mono (uX HW0.out HA.out (by omega) _ _ _ _).size)⟩
  ·clear h1 h2 z1 z2 hk hG;generalize neg? r=neg1 at *;generalize neg? s=neg2 at *;generalize r.num.natAbs=n1 at *;generalize r+s=t at *;clear d1 i1 j1
   go_enter Tryz.func71,Tryz.ntmps71
   go_wp2_with fail;obtain⟨W0,hW0,hb0,⟨f0,f1,f2,f3⟩,⟨g0,g1,g2,g3⟩,hz⟩:=caz w (.bool neg1) (u n1) (u l1) (.pointer none) (.bool neg2) (u 0) (u 0) (.pointer (some ⟨b2,0,none⟩));rw[← hW0];clear hW0;have HZ:=ca hz;have HW0:=ca hb0;have hb0:=cu W0.heap.size W0;clear hz;refine(HW.out _ (cn HW0.out hb0)).mono ?_;rintro e W9 ⟨v,rfl,hN,hb⟩;have hb3:=cn hb0 hb;have hN':=hN;obtain⟨sg,a9,b9,p9,rfl⟩:=hN'.form;have hz:=HZ.out.below hb3 (cb _);have hfin:=ym.stored (a0:=.bool sg) (a1:=u a9) (a2:=u b9) (a3:=.pointer p9) hz hN (cn HW0.out hb3) (by omega);have HFin:=ca hfin
   (obtain⟨z0,z1,z2,z3,zf0,zf1,zf2,zf3⟩:=HZ.out.zed hb3)
   clear hfin hN hN' hb hb3;go_wp2_with fail;refine cP (v:=.agg #[.bool sg,u a9,u b9,.pointer p9]) (by simp [results,Tryz.results71,go_sem,z0,z1,z2,z3]) rfl ?_;exact HFin.out
 ·obtain⟨neg2,a2,b2,p2,rfl⟩:=h2.form;clear h1 h2 z1 z2 hk hG;generalize neg? r=neg1 at *;generalize r+s=t at *
  go_enter Tryz.func71,Tryz.ntmps71
  go_wp2_with fail;obtain⟨W0,hW0,hb0,⟨f0,f1,f2,f3⟩,⟨g0,g1,g2,g3⟩,hz⟩:=caz w (.bool neg1) (u 0) (u 0) (.pointer (some ⟨b1,0,none⟩)) (.bool neg2) (u a2) (u b2) (.pointer p2);rw[← hW0];clear hW0;have HZ:=ca hz;have HW0:=ca hb0;have hb0:=cu W0.heap.size W0;clear hz;refine(HW.out _ (cn HW0.out hb0)).mono ?_;rintro e W9 ⟨v,rfl,hN,hb⟩;have hb3:=cn hb0 hb;have hN':=hN;obtain⟨sg,a9,b9,p9,rfl⟩:=hN'.form;have hz:=HZ.out.below hb3 (cb _);have hfin:=ym.stored (a0:=.bool sg) (a1:=u a9) (a2:=u b9) (a3:=.pointer p9) hz hN (cn HW0.out hb3) (by omega);have HFin:=ca hfin
  (obtain⟨z0,z1,z2,z3,zf0,zf1,zf2,zf3⟩:=HZ.out.zed hb3)
  clear hfin hN hN' hb hb3;go_wp2_with fail;refine cP (v:=.agg #[.bool sg,u a9,u b9,.pointer p9]) (by simp [results,Tryz.results71,go_sem,z0,z1,z2,z3]) rfl ?_;exact HFin.out
theorem clj (v1 v2:Value) (r s:Rat) (k:Nat) (w:World) (h1:IsQ w v1 r) (h2:IsQ w v2 s) (z1:Siz r k) (z2:Siz s k) (hk:(k:Int)<=1073741824) (hG:Gr w) :
 Calls Tryz.prog 73 #[v1,v2] w (ym w (r*s)):=by
 have HW:=ca (fun W (hW:Below w.heap.size w W)=>Uu v1 v2 r s k W (h1.below hW (cb _)) (h2.below hW (cb _)) z1 z2 hk (hG.below hW hG.size));rcases h1.forms with⟨l1,rfl,d1,i1,j1⟩|⟨b1,rfl⟩
 ·rcases h2.forms with⟨l2,rfl,d2,i2,j2⟩|⟨b2,rfl⟩
  ·have HS:=ca (fun W (hW:Below w.heap.size w W)=>cgp r s l1 l2 W d1 d2 i1 j1 i2 j2 (hG.below hW hG.size));clear h1 h2 z1 z2 hk hG d1 d2 j1 j2;generalize neg? r=neg1 at *;generalize neg? s=neg2 at *;generalize r.num.natAbs=n1 at *;generalize s.num.natAbs=n2 at *;generalize r*s=t at *
   go_enter Tryz.func73,Tryz.ntmps73
   go_wp2_with fail;obtain⟨W0,hW0,hb0,⟨f0,f1,f2,f3⟩,⟨g0,g1,g2,g3⟩,hz⟩:=caz w (.bool neg1) (u n1) (u l1) (.pointer none) (.bool neg2) (u n2) (u l2) (.pointer none);rw[← hW0];clear hW0;have HZ:=ca hz;have HW0:=ca hb0;have hb0:=cu W0.heap.size W0;clear hz;refine(HS.out _ (cn HW0.out hb0)).mono ?_;rintro e W1 ⟨a,b,c,ok,rfl,hok,hb⟩
   (obtain⟨_,_,_,_,_,_,_,_⟩:=kL w hb)
   have HA:=ca (cn hb0 hb);have HOK:=ca hok;clear hb0 hb hok f0 f1 f2 f3 g0 g1 g2 g3
   (obtain⟨z0,z1,z2,z3,zf0,zf1,zf2,zf3⟩:=HZ.out.zed HA.out)
   have q0:w.heap.size<W1.heap.size:=jv W1 ⟨w.heap.size,0,none⟩ (by assumption);have q1:w.heap.size+1<W1.heap.size:=jv W1 ⟨w.heap.size+1,0,none⟩ (by assumption);have q2:w.heap.size+1+1<W1.heap.size:=jv W1 ⟨w.heap.size+1+1,0,none⟩ z0;cases ok
   ·go_wp2_with fail;have HA':=ca (cn HA.out (jI W1 (.cells #[.bool a,.int .u64 (b:Int),.int .u64 (c:Int),.pointer none] 34)));clear z0 z1 z2 z3 zf0 zf1 zf2 zf3 q0 q1 q2;refine(HW.out _ (cn HW0.out HA'.out)).mono ?_;rintro e W9 ⟨v,rfl,hN,hb⟩;have hb3:=cn HA'.out hb;have hN':=hN;obtain⟨sg,a9,b9,p9,rfl⟩:=hN'.form;have hz:=HZ.out.below hb3 (cb _);have hfin:=ym.stored (a0:=.bool sg) (a1:=u a9) (a2:=u b9) (a3:=.pointer p9) hz hN (cn HW0.out hb3) (by omega);have HFin:=ca hfin
    (obtain⟨z0,z1,z2,z3,zf0,zf1,zf2,zf3⟩:=HZ.out.zed hb3)
    clear hfin hN hN' hb hb3;go_wp2_with fail;refine cP (v:=.agg #[.bool sg,u a9,u b9,.pointer p9]) (by simp [results,Tryz.results73,go_sem,z0,z1,z2,z3]) rfl ?_;exact HFin.out
   ·have hT:=HOK.out rfl;have HT:=ca hT;clear hT;go_wp2_with fail;refine cP (v:=lo a b c) (by simp [results,Tryz.results73,go_sem,z0,z1,z2,z3,q2]) rfl ?_;exact⟨_,rfl,HT.out _,(uX HW0.out HA.out (by omega) _ _ _ _).trans ((jI _ _).mono (uX HW0.out HA.out (by omega) _ _ _ _).size)⟩
  ·clear h1 h2 z1 z2 hk hG;generalize neg? r=neg1 at *;generalize neg? s=neg2 at *;generalize r.num.natAbs=n1 at *;generalize r*s=t at *;clear d1 i1 j1
   go_enter Tryz.func73,Tryz.ntmps73
   go_wp2_with fail;obtain⟨W0,hW0,hb0,⟨f0,f1,f2,f3⟩,⟨g0,g1,g2,g3⟩,hz⟩:=caz w (.bool neg1) (u n1) (u l1) (.pointer none) (.bool neg2) (u 0) (u 0) (.pointer (some ⟨b2,0,none⟩));rw[← hW0];clear hW0;have HZ:=ca hz;have HW0:=ca hb0;have hb0:=cu W0.heap.size W0;clear hz;refine(HW.out _ (cn HW0.out hb0)).mono ?_;rintro e W9 ⟨v,rfl,hN,hb⟩;have hb3:=cn hb0 hb;have hN':=hN;obtain⟨sg,a9,b9,p9,rfl⟩:=hN'.form;have hz:=HZ.out.below hb3 (cb _);have hfin:=ym.stored (a0:=.bool sg) (a1:=u a9) (a2:=u b9) (a3:=.pointer p9) hz hN (cn HW0.out hb3) (by omega);have HFin:=ca hfin
   (obtain⟨z0,z1,z2,z3,zf0,zf1,zf2,zf3⟩:=HZ.out.zed hb3)
   clear hfin hN hN' hb hb3;go_wp2_with fail;refine cP (v:=.agg #[.bool sg,u a9,u b9,.pointer p9]) (by simp [results,Tryz.results73,go_sem,z0,z1,z2,z3]) rfl ?_;exact HFin.out
 ·obtain⟨neg2,a2,b2,p2,rfl⟩:=h2.form;clear h1 h2 z1 z2 hk hG;generalize neg? r=neg1 at *;generalize r*s=t at *
  go_enter Tryz.func73,Tryz.ntmps73
  go_wp2_with fail;obtain⟨W0,hW0,hb0,⟨f0,f1,f2,f3⟩,⟨g0,g1,g2,g3⟩,hz⟩:=caz w (.bool neg1) (u 0) (u 0) (.pointer (some ⟨b1,0,none⟩)) (.bool neg2) (u a2) (u b2) (.pointer p2);rw[← hW0];clear hW0;have HZ:=ca hz;have HW0:=ca hb0;have hb0:=cu W0.heap.size W0;clear hz;refine(HW.out _ (cn HW0.out hb0)).mono ?_;rintro e W9 ⟨v,rfl,hN,hb⟩;have hb3:=cn hb0 hb;have hN':=hN;obtain⟨sg,a9,b9,p9,rfl⟩:=hN'.form;have hz:=HZ.out.below hb3 (cb _);have hfin:=ym.stored (a0:=.bool sg) (a1:=u a9) (a2:=u b9) (a3:=.pointer p9) hz hN (cn HW0.out hb3) (by omega);have HFin:=ca hfin
  (obtain⟨z0,z1,z2,z3,zf0,zf1,zf2,zf3⟩:=HZ.out.zed hb3)
  clear hfin hN hN' hb hb3;go_wp2_with fail;refine cP (v:=.agg #[.bool sg,u a9,u b9,.pointer p9]) (by simp [results,Tryz.results73,go_sem,z0,z1,z2,z3]) rfl ?_;exact HFin.out
theorem Za (sg:Bool) (a b:Nat) (p:Option Addr) (w:World) :
 Calls Tryz.prog 64 #[.agg #[.bool sg,u a,u b,.pointer p]] w (Val w (.int .i64 (if sg then -1 else 1))):=by
 cases sg
 ·go_enter Tryz.func64,Tryz.ntmps64
  go_wp2_with fail
  go_ret
  exact⟨rfl,jI w _⟩
 ·go_enter Tryz.func64,Tryz.ntmps64
  go_wp2_with fail
  go_ret
  exact⟨rfl,jI w _⟩
def sign (r:Rat):Int:=if r.num=0 then 0 else if r.num<0 then -1 else 1
theorem cgq (v:Value) (r:Rat) (w:World) (h:IsQ w v r) :
 Calls Tryz.prog 25 #[v] w (Val w (.int .i64 (sign r))):=by
 have hsg:(if decide (r.num<0) then (-1:Int) else 1)=if r.num<0 then -1 else 1:=by
  by_cases h:r.num<0<;>simp [h]
 cases h with
 |low l hv hd hn hdB =>
  subst hv;by_cases h0:r.num.natAbs=0
  ·have hs:sign r=0:=by unfold sign;rw[co (by omega)]
   rw[hs,h0];generalize decide (r.num<0)=sg at *
   go_enter Tryz.func25,Tryz.ntmps25
   go_wp2_with fail
   go_ret
   exact⟨rfl,jI w _⟩
  ·have hs:sign r=if decide (r.num<0) then -1 else 1:=by unfold sign;rw[cg (by omega),hsg]
   rw[hs];have HS:=ca (fun W=>Za (decide (r.num<0)) r.num.natAbs l none W);clear hs hsg hn hd hdB;have h1:(((r.num.natAbs:Nat):Int) == 0)=false:=by rw[jz];omega
   obtain⟨sv,hsv⟩:∃ sv:Int,sv=if decide (r.num<0) then -1 else 1:=⟨_,rfl⟩
   rw[← hsv] at HS ⊢;clear hsv;generalize decide (r.num<0)=sg at *;generalize r.num.natAbs=n at *;clear h0
   go_enter Tryz.func25,Tryz.ntmps25
   go_wp2_with fail;refine(HS.out _).mono ?_;rintro e W1 ⟨rfl,hb⟩;have HB:=ca (cn (jI w _) hb);clear hb;go_wp2_with fail
   go_ret
   exact⟨rfl,HB.out⟩
 |wide b x y hv hx hy h1 h2 hB h0 hd =>
  subst hv;have hs:sign r=if decide (r.num<0) then -1 else 1:=by unfold sign;rw[cg (by omega),hsg]
  rw[hs];have HS:=ca (fun W=>Za (decide (r.num<0)) 0 0 (some ⟨b,0,none⟩) W);clear hs hsg hx hy h1 h2 hB h0 hd;obtain⟨sv,hsv⟩:∃ sv:Int,sv=if decide (r.num<0) then -1 else 1:=⟨_,rfl⟩
  rw[← hsv] at HS ⊢;clear hsv;generalize decide (r.num<0)=sg at *
  go_enter Tryz.func25,Tryz.ntmps25
  go_wp2_with fail;refine(HS.out _).mono ?_;rintro e W1 ⟨rfl,hb⟩;have HB:=ca (cn (jI w _) hb);clear hb;go_wp2_with fail
  go_ret
  exact⟨rfl,HB.out⟩
theorem Num.resign {w:World}{s1 s2 s3:Bool}{a b:Nat}{p:Option Addr}{n d:Nat}(h:Num w (.agg #[.bool s1,u a,u b,.pointer p]) s2 n d):Num w (.agg #[.bool s3,u a,u b,.pointer p]) s3 n d:=by
 cases h with
 |low l hv hd hn hdB =>
  simp at hv;obtain⟨_,e1,e2,rfl⟩:=hv;have e1:a=n:=by omega
  have e2:b=l:=by omega
  subst e1 e2;exact .low _ rfl hd hn hdB
 |wide b' x y hv hx hy h1 h2 hB h0 hd =>
  simp at hv;obtain⟨_,e1,e2,rfl⟩:=hv;have e1:a=0:=by omega
  have e2:b=0:=by omega
  subst e1 e2;exact .wide b' x y rfl hx hy h1 h2 hB h0 hd
theorem UZ (w:World) (a0 a1 a2 a3:Value):∃ W,W=(w.alloc (.cells #[a0,a1,a2,a3] 34)).alloc (.cells #[.bool false,.int .u64 0,.int .u64 0,.pointer none] 34)/\Below w.heap.size w W/\
 Box W w.heap.size a0 a1 a2 a3/\Box W (w.heap.size+1) (.bool false) (.int .u64 0) (.int .u64 0) (.pointer none):=by
 refine⟨_,rfl,cn (jI w _) (jI _ _),?_,?_⟩
 ·have h1:Box (w.alloc (.cells #[a0,a1,a2,a3] 34)) w.heap.size a0 a1 a2 a3:=Ga w _;exact h1.below (jI _ _) (cb _)
 ·have hs:(w.alloc (.cells #[a0,a1,a2,a3] 34)).heap.size=w.heap.size+1:=by
   show (w.heap.push _).size=_;simp
  rw[← hs];exact Ga _ _
theorem neg_q (v:Value) (r:Rat) (w:World) (h:IsQ w v r) :
 Calls Tryz.prog 120 #[v] w (ym w (-r)):=by
 have hq:∀ W sg neg a b p,v=.agg #[.bool neg,u a,u b,.pointer p]->sg=decide (0<sign r)->Below w.heap.size w W->IsQ W (.agg #[.bool sg,u a,u b,.pointer p]) (-r):=by
  intro W sg neg a b p hv hs hW;have h':=h.below hW (cb _);have e3:decide ((-r).num<0)=sg:=by
   rw[hs];unfold sign;rw[Rat.neg_num,Ji];simp only[Ky];split
   ·omega
   ·split<;>omega
  unfold IsQ;rw[e3,Rat.neg_num,Int.natAbs_neg,Rat.neg_den];subst hv;exact Num.resign h'
 have HQ:=ca hq;have HS:=ca (fun W (hW:Below w.heap.size w W)=>cgq v r W (h.below hW (cb _)));obtain⟨neg,a,b,p,rfl⟩:=h.form;clear h hq;generalize sign r=sv at *;generalize -r=t at *
 go_enter Tryz.func120,Tryz.ntmps120
 go_wp2_with fail;obtain⟨W0,hW0,hb0,hx,hz⟩:=UZ w (.bool neg) (u a) (u b) (.pointer p);rw[← hW0];clear hW0;refine(HS.out _ hb0).mono ?_;rintro e W1 ⟨rfl,hb⟩;have hx1:=hx.below hb (cb _);have hz1:=hz.below hb (cb _);have HB:=ca (cn hb0 hb);have xf:=hx1.frozen;obtain⟨x0,x1,x2,x3⟩:=hx1.cells;have xf0:=xf 0;have zf:=hz1.frozen;obtain⟨z0,z1,z2,z3⟩:=hz1.cells;have zf0:=zf 0;have zf1:=zf 1;have zf2:=zf 2;have zf3:=zf 3;clear xf zf hx hz hx1 hz1 hb hb0;go_wp2_with fail;have hb5:Below w.heap.size w (((((W1.setCell ⟨w.heap.size,0,none⟩ (.bool (decide (0<sv)))).setCell ⟨w.heap.size+1,0,none⟩ (.bool (decide (0<sv)))).setCell ⟨w.heap.size+1,1,none⟩ (u a)).setCell ⟨w.heap.size+1,2,none⟩ (u b)).setCell ⟨w.heap.size+1,3,none⟩ (.pointer p)) :=
  (HB.out.trans (((jF.refl w.heap.size W1).set 0 _).below (cb _))).trans ((((((jF.refl (w.heap.size+1) _).set 0 _).set 1 _).set 2 _).set 3 _).below (by omega))
 refine cP (v:=.agg #[.bool (decide (0<sv)),u a,u b,.pointer p]) (by simp [results,Tryz.results120,go_sem,z0,z1,z2,z3]) rfl ?_;exact⟨_,rfl,HQ.out _ _ _ _ _ _ rfl rfl hb5,hb5⟩
theorem Siz.neg {r:Rat}{k:Nat}(h:Siz r k):Siz (-r) k:=by
 unfold Siz at *;rw[Rat.neg_num,Int.natAbs_neg,Rat.neg_den];exact h
theorem ckr (v1 v2:Value) (r s:Rat) (k:Nat) (w:World) (h1:IsQ w v1 r) (h2:IsQ w v2 s) (z1:Siz r k) (z2:Siz s k) (hk:((k+k+1:Nat):Int)<=1073741824) (hG:Gr w) :
 Calls Tryz.prog 72 #[v1,v2] w (ym w (r-s)):=by
 have HN:=ca (fun W (hW:Below w.heap.size w W)=>neg_q v2 s W (h2.below hW (cb _)));have HP:=ca (fun v W (hv:IsQ W v (-s)) (hW:Below w.heap.size w W)=>ciB v1 v r (-s) k W (h1.below hW (cb _)) hv z1 z2.neg hk (hG.below hW hG.size));rw[← Rat.sub_eq_add_neg] at HP;obtain⟨neg1,a1,b1,p1,rfl⟩:=h1.form;obtain⟨neg2,a2,b2,p2,rfl⟩:=h2.form;clear h1 h2 z1 z2 hk hG;generalize r-s=t at *;generalize -s=s' at *
 go_enter Tryz.func72,Tryz.ntmps72
 go_wp2_with fail;obtain⟨W0,hW0,hb0,⟨f0,f1,f2,f3⟩,⟨g0,g1,g2,g3⟩,hz⟩:=caz w (.bool neg1) (u a1) (u b1) (.pointer p1) (.bool neg2) (u a2) (u b2) (.pointer p2);rw[← hW0];clear hW0;have HZ:=ca hz;have HW0:=ca hb0;have hb0:=cu W0.heap.size W0;clear hz;have n1:¬ w.heap.size=w.heap.size+1+1:=by omega
 have n2:¬ w.heap.size+1+1=w.heap.size:=by omega
 have n3:w.heap.size≠w.heap.size+1+1:=by omega
 go_region_held3 (fun w'=>(w'.cell? ⟨w.heap.size,0,none⟩=some (.bool neg1)/\w'.cell? ⟨w.heap.size,1,none⟩=some (u a1)/\w'.cell? ⟨w.heap.size,2,none⟩=some (u b1)/\w'.cell? ⟨w.heap.size,3,none⟩=some (.pointer p1))/\(w'.cell? ⟨w.heap.size+1,0,none⟩=some (.bool neg2)/\w'.cell? ⟨w.heap.size+1,1,none⟩=some (u a2)/\w'.cell? ⟨w.heap.size+1,2,none⟩=some (u b2)/\w'.cell? ⟨w.heap.size+1,3,none⟩=some (.pointer p2))) (go_keep) (first|((with_reducible refine(HN.out _ ((cn HW0.out hb0).drew)).mono ?_);rintro e W1 ⟨vn,rfl,hvn,hb⟩;(obtain⟨_,_,_,_,_,_,_,_⟩:=kL w hb);obtain⟨_,_,_,_,rfl⟩:=hvn.form)|((with_reducible refine(HP.out _ _ hvn (cn HW0.out (uk hb0 hb))).mono ?_);rintro e W9 ⟨v,rfl,hv,hb'⟩;(obtain⟨_,_,_,_,_,_,_,_⟩:=kL w hb');have hv':=hv;obtain⟨sg9,a9,b9,p9,rfl⟩:=hv'.form;have hb3:=cn (uk hb0 hb) hb';(obtain⟨z0,z1,z2,z3,zf0,zf1,zf2,zf3⟩:=HZ.out.zed hb3)))
 have hz:=HZ.out.below hb3 (cb _);have hfin:=ym.stored (a0:=.bool sg9) (a1:=u a9) (a2:=u b9) (a3:=.pointer p9) hz hv (cn HW0.out hb3) (by omega);have HFin:=ca hfin;clear hfin hv hv' hvn hb hb' hb0 hb3 hz f0 f1 f2 f3 g0 g1 g2 g3;go_wp2_with fail;refine cP (v:=.agg #[.bool sg9,u a9,u b9,.pointer p9]) (by simp [results,Tryz.results72,go_sem,z0,z1,z2,z3]) rfl ?_;exact HFin.out
def kd (r s:Rat):Int:=if r<s then -1 else if s<r then 1 else 0
theorem chG (r s:Rat):kd r s=if r.num*s.den<s.num*r.den then -1 else if s.num*r.den<r.num*s.den then 1 else 0:=by
 unfold kd;simp only[Rat.lt_iff]
theorem cnD {m n:Int}{a b:Nat}(ha:0<a) (hb:0<b) (h:decide (m<0)≠decide (n<0)) :
 (if m*b<n*a then (-1:Int) else if n*a<m*b then 1 else 0)=if decide (m<0) then -1 else 1:=by
 have ha':(0:Int)<a:=by omega
 have hb':(0:Int)<b:=by omega
 by_cases hm:m<0
 ·have hn:0<=n:=by
   by_cases hn:n<0
   ·exact absurd (by simp [hm,hn]) h
   ·omega
  have h1:m*b<0:=Int.mul_neg_of_neg_of_pos hm hb';have h2:0<=n*a:=Int.mul_nonneg hn (Int.le_of_lt ha');rw[co (by omega)];simp [hm]
 ·have hn:n<0:=by
   by_cases hn:n<0
   ·exact hn
   ·exact absurd (by simp [hm,hn]) h
  have h1:n*a<0:=Int.mul_neg_of_neg_of_pos hn ha';have h2:0<=m*b:=Int.mul_nonneg (by omega) (Int.le_of_lt hb');rw[cg (by omega),co (by omega)];simp [hm]
theorem coQ {m n:Int}{a b:Nat}(h:decide (m<0)=decide (n<0)) :
 (if decide (m<0) then (-1:Int) else 1)*jo (m.natAbs*b) (n.natAbs*a)=if m*b<n*a then (-1:Int) else if n*a<m*b then 1 else 0:=by
 unfold jo;by_cases hm:m<0
 ·have hn:n<0:=by
   by_cases hn:n<0
   ·exact hn
   ·simp [hm,hn] at h
  have e1:m*b=-((m.natAbs*b:Nat):Int):=by
   rw[ut,← Int.neg_mul];congr 1;omega
  have e2:n*a=-((n.natAbs*a:Nat):Int):=by
   rw[ut,← Int.neg_mul];congr 1;omega
  rw[e1,e2];generalize m.natAbs*b=x;generalize n.natAbs*a=y;simp only[hm,decide_true,Cn];rcases KF x y with g|g|g
  ·rw[co g,cg (by omega),co (by omega)];rfl
  ·rw[cg (by omega),cg (by omega),cg (by omega),cg (by omega)];rfl
  ·rw[cg (by omega),co g,co (by omega)];rfl
 ·have hn:¬ n<0:=by
   intro hn;simp [hm,hn] at h
  have e1:m*b=((m.natAbs*b:Nat):Int):=by
   rw[ut];congr 1;omega
  have e2:n*a=((n.natAbs*a:Nat):Int):=by
   rw[ut];congr 1;omega
  rw[e1,e2];generalize m.natAbs*b=x;generalize n.natAbs*a=y;simp only[hm,decide_false,Uq,Gi];rcases KF x y with g|g|g
  ·rw[co g,co (by omega)];rfl
  ·rw[cg (by omega),cg (by omega),cg (by omega),cg (by omega)];rfl
  ·rw[cg (by omega),co g,cg (by omega),co (by omega)];rfl
theorem cjF {r s:Rat}(h:neg? r≠neg? s):kd r s=if neg? r then -1 else 1:=by
 rw[chG];exact cnD r.den_pos s.den_pos h
theorem cnq {r s:Rat}(h:neg? r=neg? s):(if neg? r then (-1:Int) else 1)*jo (r.num.natAbs*s.den) (s.num.natAbs*r.den)=kd r s:=by
 rw[chG];exact coQ h
theorem cmg (r s:Rat):IntKind.i64.wrap (kd r s)=kd r s:=by
 unfold kd;split
 ·rfl
 ·split<;>rfl
theorem ckm (v1 v2:Value) (r s:Rat) (k:Nat) (w:World) (h1:IsQ w v1 r) (h2:IsQ w v2 s) (z1:Siz r k) (z2:Siz s k) (hk:(k:Int)<=1073741824) :
 Calls Tryz.prog 27 #[v1,v2] w (Val w (.int .i64 (kd r s))):=by
 have HW:=ca (fun W (hW:Below w.heap.size w W)=>cbe v1 v2 _ _ _ _ _ _ k W (h1.below hW (cb _)) (h2.below hW (cb _)) z1.1 z1.2 z2.1 z2.2 hk);by_cases hne:neg? r=neg? s
 ·have hres:=cnq hne;have hwr:=cmg r s;rw[← hres] at hwr;have hbn:(neg? r == neg? s)=true:=by rw[hne];simp
  obtain⟨sv,hsv⟩:∃ sv:Int,sv=if neg? r then -1 else 1:=⟨_,rfl⟩
  have hside:=fun a b p W=>Za (neg? r) a b p W;rw[← hsv] at hside hres hwr;clear hsv;rcases h1.forms with⟨l1,rfl,d1,i1,j1⟩|⟨b1,rfl⟩
  ·have HS:=ca (hside r.num.natAbs l1 none);rcases h2.forms with⟨l2,rfl,d2,i2,j2⟩|⟨b2,rfl⟩
   ·have HC:=ca (fun W=>Zu (neg? r) (neg? s) r.num.natAbs l1 s.num.natAbs l2 i1 (d1▸j1) i2 (d2▸j2) W);rw[← d1,← d2] at HC;generalize jo (r.num.natAbs*s.den) (s.num.natAbs*r.den)=cv at *;clear h1 h2 z1 z2 hk hne hside i1 i2 j1 j2 d1 d2 HW;generalize kd r s=t at *;generalize neg? r=neg1 at *;generalize neg? s=neg2 at *;generalize r.num.natAbs=n1 at *;generalize s.num.natAbs=n2 at *;subst hres;generalize hpr:sv*cv=pr at *
    go_enter Tryz.func27,Tryz.ntmps27
    go_wp2_with fail;obtain⟨W0,hW0,hb0,⟨f0,f1,f2,f3⟩,⟨g0,g1,g2,g3⟩⟩:=box2 w (.bool neg1) (u n1) (u l1) (.pointer none) (.bool neg2) (u n2) (u l2) (.pointer none);rw[← hW0];clear hW0
    go_region_held3 (fun w'=>(w'.cell? ⟨w.heap.size,0,none⟩=some (.bool neg1)/\w'.cell? ⟨w.heap.size,1,none⟩=some (u n1)/\w'.cell? ⟨w.heap.size,2,none⟩=some (u l1)/\w'.cell? ⟨w.heap.size,3,none⟩=some (.pointer none))/\(w'.cell? ⟨w.heap.size+1,0,none⟩=some (.bool neg2)/\w'.cell? ⟨w.heap.size+1,1,none⟩=some (u n2)/\w'.cell? ⟨w.heap.size+1,2,none⟩=some (u l2)/\w'.cell? ⟨w.heap.size+1,3,none⟩=some (.pointer none))) (go_keep) (first|((with_reducible refine(HS.out _).mono ?_);rintro e W1 ⟨rfl,hb⟩;(obtain⟨_,_,_,_,_,_,_,_⟩:=kL w hb))|((with_reducible refine(HC.out _).mono ?_);rintro e W2 ⟨rfl,hb'⟩;(obtain⟨_,_,_,_,_,_,_,_⟩:=kL w hb')))
    have HB:=ca (cn (uk hb0 hb) hb');clear hb0 hb hb' f0 f1 f2 f3 g0 g1 g2 g3;go_wp2_with fail
    go_ret
    exact⟨rfl,HB.out⟩
   ·generalize jo (r.num.natAbs*s.den) (s.num.natAbs*r.den)=cv at *;clear h1 h2 z1 z2 hk hne hside i1 j1 d1;generalize kd r s=t at *;generalize neg? r=neg1 at *;generalize neg? s=neg2 at *;generalize r.num.natAbs=n1 at *;subst hres;generalize hpr:sv*cv=pr at *
    go_enter Tryz.func27,Tryz.ntmps27
    go_wp2_with fail;obtain⟨W0,hW0,hb0,⟨f0,f1,f2,f3⟩,⟨g0,g1,g2,g3⟩⟩:=box2 w (.bool neg1) (u n1) (u l1) (.pointer none) (.bool neg2) (u 0) (u 0) (.pointer (some ⟨b2,0,none⟩));rw[← hW0];clear hW0
    go_region_held3 (fun w'=>(w'.cell? ⟨w.heap.size,0,none⟩=some (.bool neg1)/\w'.cell? ⟨w.heap.size,1,none⟩=some (u n1)/\w'.cell? ⟨w.heap.size,2,none⟩=some (u l1)/\w'.cell? ⟨w.heap.size,3,none⟩=some (.pointer none))/\(w'.cell? ⟨w.heap.size+1,0,none⟩=some (.bool neg2)/\w'.cell? ⟨w.heap.size+1,1,none⟩=some (u 0)/\w'.cell? ⟨w.heap.size+1,2,none⟩=some (u 0)/\w'.cell? ⟨w.heap.size+1,3,none⟩=some (.pointer (some ⟨b2,0,none⟩)))) (go_keep) (first|((with_reducible refine(HS.out _).mono ?_);rintro e W1 ⟨rfl,hb⟩;(obtain⟨_,_,_,_,_,_,_,_⟩:=kL w hb))|((with_reducible refine(HW.out _ (uk hb0 hb)).mono ?_);rintro e W2 ⟨rfl,hb'⟩;(obtain⟨_,_,_,_,_,_,_,_⟩:=kL w hb')))
    have HB:=ca (cn (uk hb0 hb) hb');clear hb0 hb hb' f0 f1 f2 f3 g0 g1 g2 g3;go_wp2_with fail
    go_ret
    exact⟨rfl,HB.out⟩
  ·have HS:=ca (hside 0 0 (some ⟨b1,0,none⟩));obtain⟨a2,b2,p2,rfl,_⟩:=Num.form h2;clear h1 h2 z1 z2 hk hbn;obtain⟨neg2,hn2⟩:∃ neg2,neg2=decide (s.num<0):=⟨_,rfl⟩;rw[← hn2] at HW ⊢;have hne2:neg? r=neg2:=hne.trans hn2.symm;have hbn:(neg? r == neg2)=true:=by rw[hne2];simp
   clear hne hne2;generalize jo (r.num.natAbs*s.den) (s.num.natAbs*r.den)=cv at *;clear hside hn2;generalize kd r s=t at *;generalize neg? r=neg1 at *;subst hres;generalize hpr:sv*cv=pr at *
   go_enter Tryz.func27,Tryz.ntmps27
   go_wp2_with fail;obtain⟨W0,hW0,hb0,⟨f0,f1,f2,f3⟩,⟨g0,g1,g2,g3⟩⟩:=box2 w (.bool neg1) (u 0) (u 0) (.pointer (some ⟨b1,0,none⟩)) (.bool neg2) (u a2) (u b2) (.pointer p2);rw[← hW0];clear hW0
   go_region_held3 (fun w'=>(w'.cell? ⟨w.heap.size,0,none⟩=some (.bool neg1)/\w'.cell? ⟨w.heap.size,1,none⟩=some (u 0)/\w'.cell? ⟨w.heap.size,2,none⟩=some (u 0)/\w'.cell? ⟨w.heap.size,3,none⟩=some (.pointer (some ⟨b1,0,none⟩)))/\(w'.cell? ⟨w.heap.size+1,0,none⟩=some (.bool neg2)/\w'.cell? ⟨w.heap.size+1,1,none⟩=some (u a2)/\w'.cell? ⟨w.heap.size+1,2,none⟩=some (u b2)/\w'.cell? ⟨w.heap.size+1,3,none⟩=some (.pointer p2))) (go_keep) (first|((with_reducible refine(HS.out _).mono ?_);rintro e W1 ⟨rfl,hb⟩;(obtain⟨_,_,_,_,_,_,_,_⟩:=kL w hb))|((with_reducible refine(HW.out _ (uk hb0 hb)).mono ?_);rintro e W2 ⟨rfl,hb'⟩;(obtain⟨_,_,_,_,_,_,_,_⟩:=kL w hb')))
   have HB:=ca (cn (uk hb0 hb) hb');clear hb0 hb hb' f0 f1 f2 f3 g0 g1 g2 g3;go_wp2_with fail
   go_ret
   exact⟨rfl,HB.out⟩
 ·have hres:=cjF hne;obtain⟨a1,b1,p1,rfl,_⟩:=Num.form h1;obtain⟨a2,b2,p2,rfl,_⟩:=Num.form h2;have HS:=ca (fun W=>Za (decide (r.num<0)) a1 b1 p1 W);rw[← hres] at HS;have hb:(decide (r.num<0) == decide (s.num<0))=false:=by simpa using hne
  clear h1 h2 z1 z2 hk HW hres hne;generalize kd r s=t at *;generalize decide (r.num<0)=neg1 at *;generalize decide (s.num<0)=neg2 at *
  go_enter Tryz.func27,Tryz.ntmps27
  go_wp2_with fail;obtain⟨W0,hW0,hb0,⟨f0,f1,f2,f3⟩,⟨g0,g1,g2,g3⟩⟩:=box2 w (.bool neg1) (u a1) (u b1) (.pointer p1) (.bool neg2) (u a2) (u b2) (.pointer p2);rw[← hW0];clear hW0;refine(HS.out _).mono ?_;rintro e W1 ⟨rfl,hb1⟩;have HB:=ca (cn hb0 hb1);clear hb0 hb1;go_wp2_with fail
  go_ret
  exact⟨rfl,HB.out⟩
theorem cej {r:Rat}(h:r.num≠0):(r⁻¹).num=sgn (neg? r) r.den/\(r⁻¹).den=r.num.natAbs:=by
 show (Rat.inv r).num=_/\(Rat.inv r).den=_;unfold Rat.inv sgn;by_cases h1:r.num<0
 ·simp [h1]
 ·have h2:0<r.num:=by omega
  simp [h1,h2]
theorem cfE (v:Value) (r:Rat) (w:World) (h:IsQ w v r) (h0:r.num≠0) :
 Calls Tryz.prog 108 #[v] w (ym w r⁻¹):=by
 obtain⟨in1,in2⟩:=cej h0;cases h with
 |low l hv hd hn hdB =>
  subst hv;have hq:∀ W,IsQ W (lo (neg? r&&!decide (r.den=0)) r.den (zt r.num.natAbs 1)) r⁻¹:=by
   intro W;unfold IsQ;rw[in1,in2,Gp,cbi];exact Num.low _ rfl (Wx hn (by omega)).symm hdB hn
  have HQ:=ca hq;have HS:=ca (fun W=>GI (neg? r) r.den r.num.natAbs hn W);have HBo:=ca (fun W=>yK (neg? r) r.num.natAbs l none (hd▸hdB) W);rw[← hd] at HBo;clear hq in1 in2 hn hdB hd h0;show Calls Tryz.prog 108 #[lo (neg? r) r.num.natAbs l] w (ym w r⁻¹);generalize r⁻¹=t at *;generalize neg? r=sg at *;generalize r.num.natAbs=n at *;generalize r.den=d at *;generalize (sg&&!decide (d=0))=sg2 at *;generalize zt n 1=l2 at *
  go_enter Tryz.func108,Tryz.ntmps108
  go_wp2_with fail;obtain⟨W0,hW0,hb0,hx0,hz⟩:=UZ w (.bool sg) (u n) (u l) (.pointer none);rw[← hW0];clear hW0;obtain⟨f0,f1,f2,f3⟩:=hx0.cells;have HZ:=ca hz;have HW0:=ca hb0;have hb0:=cu W0.heap.size W0;clear hz hx0;have n1:¬ w.heap.size=w.heap.size+1:=(by omega);have n2:¬ w.heap.size+1=w.heap.size:=(by omega)
  go_region_held3 (fun w'=>(w'.cell? ⟨w.heap.size,0,none⟩=some (.bool sg)/\w'.cell? ⟨w.heap.size,1,none⟩=some (u n)/\w'.cell? ⟨w.heap.size,2,none⟩=some (u l)/\w'.cell? ⟨w.heap.size,3,none⟩=some (.pointer none))) (go_keep) (first|((with_reducible refine(HBo.out _).mono ?_);rintro e W1 ⟨rfl,hb⟩;(obtain⟨_,_,_,_⟩:=Yw w hb))|((with_reducible refine(HS.out _).mono ?_);rintro e W2 ⟨rfl,hb'⟩;(obtain⟨_,_,_,_⟩:=Yw w hb');have hb3:=cn (uk hb0 hb) hb';(obtain⟨z0,z1,z2,z3,zf0,zf1,zf2,zf3⟩:=HZ.out.zed hb3)))
  have hz:=HZ.out.below hb3 (cb _);have hfin:=ym.stored (a0:=.bool sg2) (a1:=u d) (a2:=u l2) (a3:=.pointer none) hz (HQ.out _) (cn HW0.out hb3) (by omega);have HFin:=ca hfin;clear hfin hb hb' hb0 hb3 hz f0 f1 f2 f3;go_wp2_with fail;refine cP (v:=lo sg2 d l2) (by simp [results,Tryz.results108,go_sem,z0,z1,z2,z3]) rfl ?_;exact HFin.out
 |wide b x y hv hx hy h1 h2 hB h0' hd =>
  subst hv;have HF:=ca (fun W (hW:Below w.heap.size w W)=>GC (neg? r) y x r.den r.num.natAbs W (h2.below hW (cb _)) (h1.below hW (cb _)) h0');have HR:=ca (fun W W' e (h:yz W (neg? r) r.den r.num.natAbs e W')=>h.q in1 in2);obtain⟨xa,xl,xc,rfl,_⟩:=h1.form;obtain⟨ya,yl,yc,rfl,_⟩:=h2.form;clear h1 h2 in1 in2 hB h0' hd h0;show Calls Tryz.prog 108 #[wi (neg? r) ⟨b,0,none⟩] w (ym w r⁻¹);generalize r⁻¹=t at *;generalize neg? r=sg at *;generalize r.num.natAbs=n at *;generalize r.den=d at *
  go_enter Tryz.func108,Tryz.ntmps108
  go_wp2_with fail;have p1:¬ b=w.heap.size+1:=by have:=jv w _ hx;simp at this;omega
  have p2:¬ w.heap.size+1=b:=fun h=>p1 h.symm;obtain⟨W0,hW0,hb0,hx0,hz⟩:=UZ w (.bool sg) (u 0) (u 0) (.pointer (some ⟨b,0,none⟩));rw[← hW0];clear hW0;obtain⟨f0,f1,f2,f3⟩:=hx0.cells;have HZ:=ca hz;have HW0:=ca hb0;have hb0:=cu W0.heap.size W0;clear hz hx0;have n1:¬ w.heap.size=w.heap.size+1:=(by omega);have n2:¬ w.heap.size+1=w.heap.size:=(by omega);have hx:W0.cell? ⟨b,0,none⟩=some (.slice xa xl xc):=(HW0.out.cell (p:=⟨b,0,none⟩) (jv w _ hx)).trans hx;have hy:W0.cell? ⟨b,1,none⟩=some (.slice ya yl yc):=(HW0.out.cell (p:=⟨b,1,none⟩) (jv w _ hy)).trans hy
  go_region_held3 (fun w'=>(w'.cell? ⟨w.heap.size,0,none⟩=some (.bool sg)/\w'.cell? ⟨w.heap.size,3,none⟩=some (.pointer (some ⟨b,0,none⟩)))/\w'.cell? ⟨b,0,none⟩=some (.slice xa xl xc)/\w'.cell? ⟨b,1,none⟩=some (.slice ya yl yc)) (go_keep) (((with_reducible refine(HF.out _ (HW0.out.drew)).mono ?_);rintro e W1 hF;have hQ:=HR.out _ _ _ hF;obtain⟨v,rfl,hv,hb⟩:=hQ;(obtain⟨_,_,_,_⟩:=Yw w hb);have hb3:=uk hb0 hb;have k1:=(hb3.cell (p:=⟨b,0,none⟩) (jv W0 _ hx)).trans hx;have k2:=(hb3.cell (p:=⟨b,1,none⟩) (jv W0 _ hy)).trans hy;have hv':=hv;obtain⟨sg9,a9,b9,p9,rfl⟩:=hv'.form;(obtain⟨z0,z1,z2,z3,zf0,zf1,zf2,zf3⟩:=HZ.out.zed hb3)))
  have hz:=HZ.out.below hb3 (cb _);have hfin:=ym.stored (a0:=.bool sg9) (a1:=u a9) (a2:=u b9) (a3:=.pointer p9) hz hv (cn HW0.out hb3) (by omega);have HFin:=ca hfin;clear hfin hb hb0 hb3 hz f0 f1 f2 f3 hv hv' hF;go_wp2_with fail;refine cP (v:=.agg #[.bool sg9,u a9,u b9,.pointer p9]) (by simp [results,Tryz.results108,go_sem,z0,z1,z2,z3]) rfl ?_;exact HFin.out
theorem Siz.inv {r:Rat}{k:Nat}(h:Siz r k) (h0:r.num≠0):Siz r⁻¹ k:=by
 obtain⟨e1,e2⟩:=cej h0;unfold Siz at *;rw[e1,e2,Gp];exact⟨h.2,h.1⟩
theorem cmv (v1 v2:Value) (r s:Rat) (w:World) (h1:IsQ w v1 r) (h2:IsQ w v2 s) (h0:s.num=0) :
 Calls Tryz.prog 117 #[v1,v2] w (fun e w'=>e=.returned (.tuple #[lo false 0 0,.int .i64 10])/\Below w.heap.size w w'):=by
 have HS:=ca (fun W (hW:Below w.heap.size w W)=>cgq v2 s W (h2.below hW (cb _)));have hs:sign s=0:=by unfold sign;rw[co h0]
 rw[hs] at HS;obtain⟨neg1,a1,b1,p1,rfl⟩:=h1.form;obtain⟨neg2,a2,b2,p2,rfl⟩:=h2.form;clear h1 h2 hs h0
 go_enter Tryz.func117,Tryz.ntmps117
 go_wp2_with fail;obtain⟨W0,hW0,hb0,⟨f0,f1,f2,f3⟩,⟨g0,g1,g2,g3⟩,hz⟩:=caz w (.bool neg1) (u a1) (u b1) (.pointer p1) (.bool neg2) (u a2) (u b2) (.pointer p2);rw[← hW0];clear hW0;have HZ:=ca hz;have HW0:=ca hb0;have hb0:=cu W0.heap.size W0;clear hz;refine(HS.out _ (cn HW0.out hb0)).mono ?_;rintro e W1 ⟨rfl,hb⟩
 (obtain⟨_,_,_,_,_,_,_,_⟩:=kL w hb)
 have HA:=ca (cn hb0 hb);clear hb0 hb f0 f1 f2 f3 g0 g1 g2 g3
 (obtain⟨z0,z1,z2,z3,zf0,zf1,zf2,zf3⟩:=HZ.out.zed HA.out)
 go_wp2_with fail;refine cP (v:=.tuple #[lo false 0 0,.int .i64 10]) (by simp [results,Tryz.results117,go_sem,z0,z1,z2,z3]) rfl ?_;exact⟨rfl,uX HW0.out HA.out (by omega) _ _ _ _⟩
def OverQ (w:World) (r:Rat) (e:Ending) (w':World):Prop:=∃ v,e=.returned (.tuple #[v,.int .i64 0])/\IsQ w' v r/\Below w.heap.size w w'
theorem over_q (v1 v2:Value) (r s:Rat) (k:Nat) (w:World) (h1:IsQ w v1 r) (h2:IsQ w v2 s) (h0:s.num≠0) (z1:Siz r k) (z2:Siz s k) (hk:(k:Int)<=1073741824) (hG:Gr w) :
 Calls Tryz.prog 117 #[v1,v2] w (OverQ w (r/s)):=by
 have HS:=ca (fun W (hW:Below w.heap.size w W)=>cgq v2 s W (h2.below hW (cb _)));have hs:((sign s:Int) == 0)=false:=by unfold sign;rw[cg h0];split<;>rfl
 have HR:=ca (fun W (hW:Below w.heap.size w W)=>cfE v2 s W (h2.below hW (cb _)) h0);have HT:=ca (fun v W (hv:IsQ W v s⁻¹) (hW:Below w.heap.size w W)=>clj v1 v r s⁻¹ k W (h1.below hW (cb _)) hv z1 (z2.inv h0) hk (hG.below hW hG.size));rw[← Rat.div_def] at HT;obtain⟨neg1,a1,b1,p1,rfl⟩:=h1.form;obtain⟨neg2,a2,b2,p2,rfl⟩:=h2.form;clear h1 h2 h0 z1 z2 hk hG;generalize r/s=t at *;generalize s⁻¹=s' at *;generalize sign s=sv at *
 go_enter Tryz.func117,Tryz.ntmps117
 go_wp2_with fail;obtain⟨W0,hW0,hb0,⟨f0,f1,f2,f3⟩,⟨g0,g1,g2,g3⟩,hz⟩:=caz w (.bool neg1) (u a1) (u b1) (.pointer p1) (.bool neg2) (u a2) (u b2) (.pointer p2);rw[← hW0];clear hW0;have HZ:=ca hz;have HW0:=ca hb0;have hb0:=cu W0.heap.size W0;clear hz;refine(HS.out _ (cn HW0.out hb0)).mono ?_;rintro e W1 ⟨rfl,hb⟩
 (obtain⟨_,_,_,_,_,_,_,_⟩:=kL w hb)
 have HA:=ca (cn hb0 hb);clear hb0 hb f0 f1 f2 f3 g0 g1 g2 g3;have n1:¬ w.heap.size=w.heap.size+1+1:=by omega
 have n2:¬ w.heap.size+1+1=w.heap.size:=by omega
 go_wp2_with fail
 go_region_held3 (fun w'=>(w'.cell? ⟨w.heap.size,0,none⟩=some (.bool neg1)/\w'.cell? ⟨w.heap.size,1,none⟩=some (u a1)/\w'.cell? ⟨w.heap.size,2,none⟩=some (u b1)/\w'.cell? ⟨w.heap.size,3,none⟩=some (.pointer p1))/\(w'.cell? ⟨w.heap.size+1,0,none⟩=some (.bool neg2)/\w'.cell? ⟨w.heap.size+1,1,none⟩=some (u a2)/\w'.cell? ⟨w.heap.size+1,2,none⟩=some (u b2)/\w'.cell? ⟨w.heap.size+1,3,none⟩=some (.pointer p2))) (go_keep) (first|((with_reducible refine(HR.out _ ((cn HW0.out HA.out).drew)).mono ?_);rintro e W2 ⟨vn,rfl,hvn,hb⟩;(obtain⟨_,_,_,_,_,_,_,_⟩:=kL w hb);obtain⟨_,_,_,_,rfl⟩:=hvn.form)|((with_reducible refine(HT.out _ _ hvn (cn HW0.out (uk HA.out hb))).mono ?_);rintro e W9 ⟨v,rfl,hv,hb'⟩;(obtain⟨_,_,_,_,_,_,_,_⟩:=kL w hb');have hv':=hv;obtain⟨sg9,a9,b9,p9,rfl⟩:=hv'.form;have hb3:=cn (uk HA.out hb) hb';(obtain⟨z0,z1,z2,z3,zf0,zf1,zf2,zf3⟩:=HZ.out.zed hb3)))
 have hz:=HZ.out.below hb3 (cb _);have hfin:=ym.stored (a0:=.bool sg9) (a1:=u a9) (a2:=u b9) (a3:=.pointer p9) hz hv (cn HW0.out hb3) (by omega);have HFin:=ca hfin;clear hfin hv hv' hvn hb hb' hb3 hz;go_wp2_with fail;refine cP (v:=.tuple #[.agg #[.bool sg9,u a9,u b9,.pointer p9],.int .i64 0]) (by simp [results,Tryz.results117,go_sem,z0,z1,z2,z3]) rfl ?_;obtain⟨v,hv,hq,hbb⟩:=HFin.out;injection hv with hv
 subst hv;exact⟨_,rfl,hq,hbb⟩
theorem chl (i:Int) (h1:-9223372036854775808<=i) (h2:i<=9223372036854775807) (w:World) :
 Calls Tryz.prog 33 #[.int .i64 i] w (ym w (i:Rat)):=by
 have hB:i.natAbs<B:=by unfold B;omega
 have hl:zt 1 1=0:=by rfl
 have hq:∀ W,IsQ W (lo (decide (i<0)&&!decide (i.natAbs=0)) i.natAbs (zt 1 1)) (i:Rat):=by
  intro W;rw[hl];unfold IsQ;rw[Jy,Zm];have:(decide (i<0)&&!decide (i.natAbs=0))=decide (i<0):=by
   rw[Ji];simp;omega
  rw[this];exact Num.low 0 rfl rfl hB (by decide)
 have HQ:=ca hq;have HS:=ca (fun W=>GI (decide (i<0)) i.natAbs 1 (by decide) W);by_cases hi:i<0
 ·have hw:IntKind.u64.wrap (-(IntKind.u64.wrap i))=(i.natAbs:Int):=by
   rw[zz,zz];unfold B at hB;omega
  have hw2:IntKind.u64.wrap (-i)=(i.natAbs:Int):=by
   rw[zz];unfold B at hB;omega
  simp only[hi,decide_true] at HS HQ;clear hq hl hB;have HHB:=ca h1;generalize (i:Rat)=t at *;generalize (true&&!decide (i.natAbs=0))=sg at *
  go_enter Tryz.func33,Tryz.ntmps33
  go_wp2_with fail;obtain⟨W0,hW0,hb0,hz,hs⟩:=boxz w;rw[← hW0];clear hW0;have HZ:=ca hz;have HW0:=ca hb0;have hb0:=cu W0.heap.size W0;clear hz;clear hs;generalize zt 1 1=l2 at *;generalize hn:i.natAbs=n at *;refine(HS.out _).mono ?_;rintro e W1 ⟨rfl,hb⟩;have hb3:=cn hb0 hb;have hz:=HZ.out.below hb3 (cb _);have hfin:=ym.stored (a0:=.bool sg) (a1:=u n) (a2:=u l2) (a3:=.pointer none) hz (HQ.out _) (cn HW0.out hb3) (cb _);have HFin:=ca hfin
  (obtain⟨z0,z1,z2,z3,zf0,zf1,zf2,zf3⟩:=HZ.out.zed hb3)
  clear hfin hb hb0 hb3 hz hn;go_wp2_with fail;refine cP (v:=lo sg n l2) (by simp [results,Tryz.results33,go_sem,z0,z1,z2,z3]) rfl ?_;exact HFin.out
 ·have hw:IntKind.u64.wrap i=(i.natAbs:Int):=by
   rw[zz];unfold B at hB;omega
  simp only[hi,decide_false] at HS HQ;clear hq hl hB;have HHB:=ca h1;generalize (i:Rat)=t at *;generalize (false&&!decide (i.natAbs=0))=sg at *
  go_enter Tryz.func33,Tryz.ntmps33
  go_wp2_with fail;obtain⟨W0,hW0,hb0,hz,hs⟩:=boxz w;rw[← hW0];clear hW0;have HZ:=ca hz;have HW0:=ca hb0;have hb0:=cu W0.heap.size W0;clear hz;clear hs;generalize zt 1 1=l2 at *;generalize hn:i.natAbs=n at *;refine(HS.out _).mono ?_;rintro e W1 ⟨rfl,hb⟩;have hb3:=cn hb0 hb;have hz:=HZ.out.below hb3 (cb _);have hfin:=ym.stored (a0:=.bool sg) (a1:=u n) (a2:=u l2) (a3:=.pointer none) hz (HQ.out _) (cn HW0.out hb3) (cb _);have HFin:=ca hfin
  (obtain⟨z0,z1,z2,z3,zf0,zf1,zf2,zf3⟩:=HZ.out.zed hb3)
  clear hfin hb hb0 hb3 hz hn;go_wp2_with fail;refine cP (v:=lo sg n l2) (by simp [results,Tryz.results33,go_sem,z0,z1,z2,z3]) rfl ?_;exact HFin.out
theorem EK (i:Int) (h1:-9223372036854775808<=i) (h2:i<=9223372036854775807):Siz (i:Rat) 1:=by
 unfold Siz;rw[Jy,Zm,JB];exact⟨by unfold B;omega,by decide⟩
def OfPost (w:World) (i j:Int) (e:Ending) (w':World):Prop :=
 (j=0/\e=.returned (.tuple #[lo false 0 0,.int .i64 10])/\Below w.heap.size w w')\/(j≠0/\OverQ w ((i:Rat)/(j:Rat)) e w')
theorem of_q (i j:Int) (h1:-9223372036854775808<=i) (h2:i<=9223372036854775807) (h3:-9223372036854775808<=j) (h4:j<=9223372036854775807) (w:World) (hG:Gr w) :
 Calls Tryz.prog 70 #[.int .i64 i,.int .i64 j] w (OfPost w i j):=by
 have HI:=ca (fun W=>chl i h1 h2 W);have HJ:=ca (fun W=>chl j h3 h4 W);have HO:=ca (fun v1 v2 W (hv1:IsQ W v1 (i:Rat)) (hv2:IsQ W v2 (j:Rat)) (hW:Below w.heap.size w W)=>show Calls Tryz.prog 117 #[v1,v2] W (OfPost W i j) by
  by_cases hj:j=0
  ·exact(cmv v1 v2 _ _ W hv1 hv2 (by rw[Jy];exact hj)).mono fun _ _ h=>.inl ⟨hj,h.1,h.2⟩
  ·exact(over_q v1 v2 _ _ 1 W hv1 hv2 (by rw[Jy];exact hj) (EK i h1 h2) (EK j h3 h4) (by decide) (hG.below hW hG.size)).mono fun _ _ h=>.inr ⟨hj,h⟩)
 clear hG h1 h2 h3 h4
 go_enter Tryz.func70,Tryz.ntmps70
 go_wp2_with fail;obtain⟨W0,hW0,hb0,hz,hs⟩:=boxz w;rw[← hW0];clear hW0;have HZ:=ca hz;have HW0:=ca hb0;have hb0:=cu W0.heap.size W0;clear hz;clear hs;refine(HI.out _).mono ?_;rintro e W1 ⟨v1,rfl,hv1,hb⟩;have HV1:=ca hv1;have HA:=ca (cn hb0 hb);obtain⟨_,_,_,_,rfl⟩:=hv1.form;clear hb hb0 hv1;go_wp2_with fail;refine(HJ.out _).mono ?_;rintro e W2 ⟨v2,rfl,hv2,hb⟩;have HV1':=ca (HV1.out.below hb (cb _));have HV2:=ca hv2;have HA2:=ca (cn HA.out hb);obtain⟨_,_,_,_,rfl⟩:=hv2.form;clear hb hv2;go_wp2_with fail;refine(HO.out _ _ _ HV1'.out HV2.out (cn HW0.out HA2.out)).mono ?_;rintro e W3 (⟨hj,rfl,hb⟩|⟨hj,v,rfl,hv,hb⟩)
 ·have hb3:=cn HA2.out hb;have HB3:=ca hb3;have HHJ:=ca hj
  (obtain⟨z0,z1,z2,z3,zf0,zf1,zf2,zf3⟩:=HZ.out.zed hb3)
  clear hb hb3 hj;go_wp2_with fail;refine cP (v:=.tuple #[lo false 0 0,.int .i64 10]) (by simp [results,Tryz.results70,go_sem,z0,z1,z2,z3]) rfl ?_;exact .inl ⟨HHJ.out,rfl,uX HW0.out HB3.out (cb _) _ _ _ _⟩
 ·have hb3:=cn HA2.out hb;have hv':=hv;obtain⟨sg9,a9,b9,p9,rfl⟩:=hv'.form;have hz:=HZ.out.below hb3 (cb _);have hfin:=ym.stored (a0:=.bool sg9) (a1:=u a9) (a2:=u b9) (a3:=.pointer p9) hz hv (cn HW0.out hb3) (cb _);have HFin:=ca hfin;have HHJ:=ca hj
  (obtain⟨z0,z1,z2,z3,zf0,zf1,zf2,zf3⟩:=HZ.out.zed hb3)
  clear hfin hv hv' hb hb3 hz hj;go_wp2_with fail;refine cP (v:=.tuple #[.agg #[.bool sg9,u a9,u b9,.pointer p9],.int .i64 0]) (by simp [results,Tryz.results70,go_sem,z0,z1,z2,z3]) rfl ?_;obtain⟨v,hv,hq,hbb⟩:=HFin.out;injection hv with hv
  subst hv;exact .inr ⟨HHJ.out,_,rfl,hq,hbb⟩
theorem ym.alloc {w W:World}{r:Rat}{e:Ending}(h:ym w r e W) (o:Obj):ym w r e (W.alloc o):=by
 obtain⟨v,he,hq,hb⟩:=h;exact⟨v,he,hq.below (jI W o) (cb _),hb.trans ((jI W o).mono hb.size)⟩
theorem Siz.le {r:Rat}{k j:Nat}(h:Siz r k) (hj:k<=j):Siz r j :=
 ⟨cE h.1 (jW ke hj),cE h.2 (jW ke hj)⟩
theorem bapp (a b:List UInt8):((⟨a.toArray⟩:ByteArray)++⟨b.toArray⟩)=⟨(a++b).toArray⟩:=by
 apply ByteArray.ext;rw[ByteArray.data_append];simp
theorem cip (c:UInt8) (b:List UInt8):((⟨#[c]⟩:ByteArray)++⟨b.toArray⟩)=⟨(c::b).toArray⟩:=bapp [c] b
theorem cif (a:List UInt8) (c:UInt8):((⟨a.toArray⟩:ByteArray)++⟨#[c]⟩)=⟨(a++[c]).toArray⟩:=bapp a [c]
theorem cez {n k:Nat}(h:n<B^k):(cV n).length<=20*k+1:=by
 unfold cV;split
 ·simp
 ·rw[List.length_reverse,List.length_map];have:=WY h rfl;omega
theorem cw.not_one {w:World}{v:Value}{n:Nat}(h:cw w v n) (h0:0<n) (h1:n≠1) :
 (∃ b o c,v=.slice (some ⟨b,o,none⟩) 1 c/\w.cell? ⟨b,o,none⟩=some (u n))\/(∃ ao l c,v=.slice ao l c/\l≠1):=by
 rcases jb n B with hB|hB
 ·obtain⟨b,o,c,rfl,hc⟩:=h.limb h0 hB;exact .inl ⟨b,o,c,rfl,hc⟩
 ·obtain⟨ao,l,c,rfl,_,_,hl⟩:=h.form;exact .inr ⟨ao,l,c,rfl,by have:=hl.2 hB;omega⟩
theorem cnf (v:Value) (N k:Nat) (w:World) (a1 b1:Nat) (p1:Option Addr) (hv:v=.agg #[.bool false,u a1,u b1,.pointer p1])
 (HP:Hid (∀ W,Below w.heap.size w W->Calls Tryz.prog 76 #[v] W (JJ W N 1))) (HT1:Hid (∀ x W,cw W x N->Calls Tryz.prog 77 #[x] W (zQ W (cV N))))
 (HT2:Hid (∀ x W,cw W x 1->Calls Tryz.prog 77 #[x] W (zQ W (cV 1)))) (hl:(cV N).length<=21474836481) (hl2:(cV 1).length<=21474836481) :
 Calls Tryz.prog 34 #[v] w (zQ w (cV N)):=by
 subst hv;clear hl hl2;generalize cV N=TN at *
 go_enter Tryz.func34,Tryz.ntmps34
 go_wp2_with fail;obtain⟨W0,hW0,hb0,⟨f0,f1,f2,f3⟩⟩:=caq w (.bool false) (u a1) (u b1) (.pointer p1);rw[← hW0];clear hW0;refine(HP.out _ hb0).mono ?_;rintro e W1 ⟨x,y,rfl,hx,hy,hb⟩
 (have hh:=EO (b:=w.heap.size) hb f0 f1 f2 f3;clear f0 f1 f2 f3;obtain⟨f0,f1,f2,f3⟩:=hh)
 obtain⟨ya,yo,yc,rfl,hyc⟩:=hy.limb (by decide) (by decide);have HA:=ca (cn hb0 hb);have HX:=ca hx;have HY:=ca hy;obtain⟨xa,xl,xc,rfl,_⟩:=hx.form;clear hb hb0 hx hy HP;go_wp2_with fail;refine(HT1.out _ _ HX.out).mono ?_;rintro e W2 ⟨rfl,hb⟩
 (have hh:=EO (b:=w.heap.size) hb f0 f1 f2 f3;clear f0 f1 f2 f3;obtain⟨f0,f1,f2,f3⟩:=hh)
 have hyc2:W2.cell? ⟨ya,yo,none⟩=some (.int .u64 1):=(hb.cell (p:=⟨ya,yo,none⟩) (jv W1 _ hyc)).trans hyc;have HA2:=ca (cn HA.out hb);have HY2:=ca (HY.out.below hb (cb _));clear hb HX HT1 hyc;go_wp2_with fail
 go_ret
 refine⟨?_,HA2.out⟩;rfl
theorem cmO (v:Value) (N k:Nat) (D:Nat) (hD0:0<D) (hD1:D≠1) (w:World) (a1 b1:Nat) (p1:Option Addr) (hv:v=.agg #[.bool false,u a1,u b1,.pointer p1])
 (HP:Hid (∀ W,Below w.heap.size w W->Calls Tryz.prog 76 #[v] W (JJ W N D))) (HT1:Hid (∀ x W,cw W x N->Calls Tryz.prog 77 #[x] W (zQ W (cV N))))
 (HT2:Hid (∀ x W,cw W x D->Calls Tryz.prog 77 #[x] W (zQ W (cV D)))) (hl:(cV N).length<=21474836481) (hl2:(cV D).length<=21474836481) :
 Calls Tryz.prog 34 #[v] w (zQ w ((cV N++47::cV D))):=by
 subst hv;have l2:¬ 9223372036854775807<(cV N).length+1:=by omega
 have l3:¬ 9223372036854775807<(cV N).length+1+(cV D).length:=by omega
 clear hl hl2;generalize cV N=TN at *;generalize cV D=TD at *
 go_enter Tryz.func34,Tryz.ntmps34
 go_wp2_with fail;obtain⟨W0,hW0,hb0,⟨f0,f1,f2,f3⟩⟩:=caq w (.bool false) (u a1) (u b1) (.pointer p1);rw[← hW0];clear hW0;refine(HP.out _ hb0).mono ?_;rintro e W1 ⟨x,y,rfl,hx,hy,hb⟩
 (have hh:=EO (b:=w.heap.size) hb f0 f1 f2 f3;clear f0 f1 f2 f3;obtain⟨f0,f1,f2,f3⟩:=hh)
 rcases hy.not_one hD0 hD1 with⟨ya,yo,yc,rfl,hyc⟩|⟨ao,yl,yc,rfl,hy1⟩
 ·have HA:=ca (cn hb0 hb);have HX:=ca hx;have HY:=ca hy;obtain⟨xa,xl,xc,rfl,_⟩:=hx.form;have hD:(((D:Nat):Int) == 1)=false:=by rw[jz];omega
  clear hb hb0 hx hy HP hD0 hD1;go_wp2_with fail;refine(HT1.out _ _ HX.out).mono ?_;rintro e W2 ⟨rfl,hb⟩
  (have hh:=EO (b:=w.heap.size) hb f0 f1 f2 f3;clear f0 f1 f2 f3;obtain⟨f0,f1,f2,f3⟩:=hh)
  have hyc2:W2.cell? ⟨ya,yo,none⟩=some (u D):=(hb.cell (p:=⟨ya,yo,none⟩) (jv W1 _ hyc)).trans hyc;have HA2:=ca (cn HA.out hb);have HY2:=ca (HY.out.below hb (cb _));clear hb HX HT1 hyc;go_wp2_with fail;refine(HT2.out _ _ HY2.out).mono ?_;rintro e W3 ⟨rfl,hb⟩;have HA3:=ca (cn HA2.out hb);clear hb HT2;go_wp2_with fail
  go_ret
  refine⟨?_,HA3.out⟩;simp [bapp,cip,cif]
 ·have HA:=ca (cn hb0 hb);have HX:=ca hx;have HY:=ca hy;obtain⟨xa,xl,xc,rfl,_⟩:=hx.form;have hyl:(((yl:Nat):Int) == 1)=false:=by rw[jz];omega
  clear hb hb0 hx hy HP hD0 hD1 hy1;go_wp2_with fail;refine(HT1.out _ _ HX.out).mono ?_;rintro e W2 ⟨rfl,hb⟩
  (have hh:=EO (b:=w.heap.size) hb f0 f1 f2 f3;clear f0 f1 f2 f3;obtain⟨f0,f1,f2,f3⟩:=hh)
  have HA2:=ca (cn HA.out hb);have HY2:=ca (HY.out.below hb (cb _));clear hb HX HT1;go_wp2_with fail;refine(HT2.out _ _ HY2.out).mono ?_;rintro e W3 ⟨rfl,hb⟩;have HA3:=ca (cn HA2.out hb);clear hb HT2;go_wp2_with fail
  go_ret
  refine⟨?_,HA3.out⟩;simp [bapp,cip,cif]
theorem cnk (v:Value) (N k:Nat) (w:World) (a1 b1:Nat) (p1:Option Addr) (hv:v=.agg #[.bool true,u a1,u b1,.pointer p1])
 (HP:Hid (∀ W,Below w.heap.size w W->Calls Tryz.prog 76 #[v] W (JJ W N 1))) (HT1:Hid (∀ x W,cw W x N->Calls Tryz.prog 77 #[x] W (zQ W (cV N))))
 (HT2:Hid (∀ x W,cw W x 1->Calls Tryz.prog 77 #[x] W (zQ W (cV 1)))) (hl:(cV N).length<=21474836481) (hl2:(cV 1).length<=21474836481) :
 Calls Tryz.prog 34 #[v] w (zQ w (45::cV N)):=by
 subst hv;have l1:¬ 9223372036854775807<1+(cV N).length:=by omega
 clear hl hl2;generalize cV N=TN at *
 go_enter Tryz.func34,Tryz.ntmps34
 go_wp2_with fail;obtain⟨W0,hW0,hb0,⟨f0,f1,f2,f3⟩⟩:=caq w (.bool true) (u a1) (u b1) (.pointer p1);rw[← hW0];clear hW0;refine(HP.out _ hb0).mono ?_;rintro e W1 ⟨x,y,rfl,hx,hy,hb⟩
 (have hh:=EO (b:=w.heap.size) hb f0 f1 f2 f3;clear f0 f1 f2 f3;obtain⟨f0,f1,f2,f3⟩:=hh)
 obtain⟨ya,yo,yc,rfl,hyc⟩:=hy.limb (by decide) (by decide);have HA:=ca (cn hb0 hb);have HX:=ca hx;have HY:=ca hy;obtain⟨xa,xl,xc,rfl,_⟩:=hx.form;clear hb hb0 hx hy HP;go_wp2_with fail;refine(HT1.out _ _ HX.out).mono ?_;rintro e W2 ⟨rfl,hb⟩
 (have hh:=EO (b:=w.heap.size) hb f0 f1 f2 f3;clear f0 f1 f2 f3;obtain⟨f0,f1,f2,f3⟩:=hh)
 have hyc2:W2.cell? ⟨ya,yo,none⟩=some (.int .u64 1):=(hb.cell (p:=⟨ya,yo,none⟩) (jv W1 _ hyc)).trans hyc;have HA2:=ca (cn HA.out hb);have HY2:=ca (HY.out.below hb (cb _));clear hb HX HT1 hyc;go_wp2_with fail
 go_ret
 refine⟨?_,HA2.out⟩;simp [bapp,cip,cif]
theorem cnb (v:Value) (N k:Nat) (D:Nat) (hD0:0<D) (hD1:D≠1) (w:World) (a1 b1:Nat) (p1:Option Addr) (hv:v=.agg #[.bool true,u a1,u b1,.pointer p1])
 (HP:Hid (∀ W,Below w.heap.size w W->Calls Tryz.prog 76 #[v] W (JJ W N D))) (HT1:Hid (∀ x W,cw W x N->Calls Tryz.prog 77 #[x] W (zQ W (cV N))))
 (HT2:Hid (∀ x W,cw W x D->Calls Tryz.prog 77 #[x] W (zQ W (cV D)))) (hl:(cV N).length<=21474836481) (hl2:(cV D).length<=21474836481) :
 Calls Tryz.prog 34 #[v] w (zQ w (45::(cV N++47::cV D))):=by
 subst hv;have l1:¬ 9223372036854775807<1+(cV N).length:=by omega
 have l2:¬ 9223372036854775807<1+(cV N).length+1:=by omega
 have l3:¬ 9223372036854775807<1+(cV N).length+1+(cV D).length:=by omega
 have l4:¬ 9223372036854775807<(cV N).length+1+1:=by omega
 have l5:¬ 9223372036854775807<(cV N).length+1+1+(cV D).length:=by omega
 clear hl hl2;generalize cV N=TN at *;generalize cV D=TD at *
 go_enter Tryz.func34,Tryz.ntmps34
 go_wp2_with fail;obtain⟨W0,hW0,hb0,⟨f0,f1,f2,f3⟩⟩:=caq w (.bool true) (u a1) (u b1) (.pointer p1);rw[← hW0];clear hW0;refine(HP.out _ hb0).mono ?_;rintro e W1 ⟨x,y,rfl,hx,hy,hb⟩
 (have hh:=EO (b:=w.heap.size) hb f0 f1 f2 f3;clear f0 f1 f2 f3;obtain⟨f0,f1,f2,f3⟩:=hh)
 rcases hy.not_one hD0 hD1 with⟨ya,yo,yc,rfl,hyc⟩|⟨ao,yl,yc,rfl,hy1⟩
 ·have HA:=ca (cn hb0 hb);have HX:=ca hx;have HY:=ca hy;obtain⟨xa,xl,xc,rfl,_⟩:=hx.form;have hD:(((D:Nat):Int) == 1)=false:=by rw[jz];omega
  clear hb hb0 hx hy HP hD0 hD1;go_wp2_with fail;refine(HT1.out _ _ HX.out).mono ?_;rintro e W2 ⟨rfl,hb⟩
  (have hh:=EO (b:=w.heap.size) hb f0 f1 f2 f3;clear f0 f1 f2 f3;obtain⟨f0,f1,f2,f3⟩:=hh)
  have hyc2:W2.cell? ⟨ya,yo,none⟩=some (u D):=(hb.cell (p:=⟨ya,yo,none⟩) (jv W1 _ hyc)).trans hyc;have HA2:=ca (cn HA.out hb);have HY2:=ca (HY.out.below hb (cb _));clear hb HX HT1 hyc;go_wp2_with fail;refine(HT2.out _ _ HY2.out).mono ?_;rintro e W3 ⟨rfl,hb⟩;have HA3:=ca (cn HA2.out hb);clear hb HT2;go_wp2_with fail
  go_ret
  refine⟨?_,HA3.out⟩;simp [bapp,cip,cif]
 ·have HA:=ca (cn hb0 hb);have HX:=ca hx;have HY:=ca hy;obtain⟨xa,xl,xc,rfl,_⟩:=hx.form;have hyl:(((yl:Nat):Int) == 1)=false:=by rw[jz];omega
  clear hb hb0 hx hy HP hD0 hD1 hy1;go_wp2_with fail;refine(HT1.out _ _ HX.out).mono ?_;rintro e W2 ⟨rfl,hb⟩
  (have hh:=EO (b:=w.heap.size) hb f0 f1 f2 f3;clear f0 f1 f2 f3;obtain⟨f0,f1,f2,f3⟩:=hh)
  have HA2:=ca (cn HA.out hb);have HY2:=ca (HY.out.below hb (cb _));clear hb HX HT1;go_wp2_with fail;refine(HT2.out _ _ HY2.out).mono ?_;rintro e W3 ⟨rfl,hb⟩;have HA3:=ca (cn HA2.out hb);clear hb HT2;go_wp2_with fail
  go_ret
  refine⟨?_,HA3.out⟩;simp [bapp,cip,cif]
theorem cjP (v:Value) (r:Rat) (k:Nat) (w:World) (h:IsQ w v r) (z:Siz r k) (hk:(k:Int)<=1073741824) :
 Calls Tryz.prog 34 #[v] w (zQ w (zg r)):=by
 have HP:=ca (fun W (hW:Below w.heap.size w W)=>Ex v (decide (r.num<0)) r.num.natAbs r.den W (Num.below h hW (cb _)));have HT1:=ca (fun x W (hx:cw W x r.num.natAbs)=>chm x r.num.natAbs k W hx z.1 hk);have HT2:=ca (fun x W (hx:cw W x r.den)=>chm x r.den k W hx z.2 hk);have hq:zg r=(if r.num<0 then [45] else [])++cV r.num.natAbs++(if r.den=1 then [] else 47::cV r.den):=rfl;have hl1:=cez z.1;have hl2:=cez z.2;have hl1:(cV r.num.natAbs).length<=21474836481:=by omega
 have hl2:(cV r.den).length<=21474836481:=by omega
 obtain⟨a1,b1,p1,hv,_⟩:=Num.form h;have hd0:=r.den_pos;by_cases hd:r.den=1
 ·by_cases hn:r.num<0
  ·rw[co hd,co hn,uv] at hq;rw[hd] at HP HT2 hl2;rw[hq];exact cnk v _ k w a1 b1 p1 (by rw[hv,cG hn]) HP HT1 HT2 hl1 hl2
  ·rw[co hd,cg hn,uv,CR] at hq;rw[hd] at HP HT2 hl2;rw[hq];exact cnf v _ k w a1 b1 p1 (by rw[hv,cJ hn]) HP HT1 HT2 hl1 hl2
 ·by_cases hn:r.num<0
  ·rw[cg hd,co hn,yF] at hq;rw[hq];exact cnb v _ k _ hd0 hd w a1 b1 p1 (by rw[hv,cG hn]) HP HT1 HT2 hl1 hl2
  ·rw[cg hd,cg hn,CR] at hq;rw[hq];exact cmO v _ k _ hd0 hd w a1 b1 p1 (by rw[hv,cJ hn]) HP HT1 HT2 hl1 hl2
theorem caE (l:List UInt8) (acc k:Nat) (ha:acc<10^k) (hk:k+l.length<=19) :
 Lib.parseUintM (2^64-1) acc l=if l.all kP then .ok (l.foldl (fun a c=>10*a+(c.toNat-48)) acc) else Lib.parseUintB 64 []:=by
 induction l generalizing acc k with
 |nil=>simp [Lib.parseUintM]
 |cons c l ih =>
  rw[Lib.parseUintM];simp only[uI] at hk;by_cases hc:48<=c.toNat/\c.toNat<=57
  ·have hd:kP c=true:=by unfold kP;simp [hc]
   have h1:10^k<=10^18:=jW (by omega) (by omega);have h2:acc*10+(c.toNat-48)<10^(k+1):=by rw[ji];omega
   have h3:10^(k+1)<=10^19:=jW (by omega) (by omega);rw[co hc,cg (by omega),cg (by omega),ih _ (k+1) h2 (by omega)];simp only[List.all_cons,hd,Bool.true_and,List.foldl_cons];rw[je acc 10]
  ·have hd:kP c=false:=by unfold kP;simp;omega
   rw[cg hc];simp only[List.all_cons,hd,Jf];rfl
theorem Us (l:List UInt8) {a b:Nat}(h:l.length<=a) (hab:a<=b):(⟨l.toArray⟩:ByteArray).size<=b:=by
 have:(⟨l.toArray⟩:ByteArray).size=l.length:=by simp [ByteArray.size]
 omega
theorem cot (l:List UInt8) (h0:l≠[]) (h19:l.length<=19) (hd:l.all kP=true) (w:World) :
 Calls Tryz.prog 138 #[str l,.int .i64 10,.int .i64 64] w (fun e w'=>e=.returned (.tuple #[u (jt l),.nilIface])/\Below w.heap.size w w'):=by
 have h:Lib.parseUintB 64 (⟨l.toArray⟩:ByteArray).data.toList=.ok (jt l):=by
  unfold Lib.parseUintB;rw[cg (by simpa using h0),caE _ 0 0 (by decide) (by simpa using h19)];simp only[hd,Cn];rfl
 refine(Tryz.strconv_ParseUint_10_at64_ok ⟨l.toArray⟩ (Us l h19 (by omega)) (jt l) h w).mono ?_;rintro e w' ⟨rfl,hw⟩;refine⟨rfl,?_⟩;rcases hw with rfl|rfl
 ·exact cu _ _
 ·exact Lib.bytesWorld_below _ _ _
theorem cmZ (l:List UInt8) (h0:l≠[]) (h19:l.length<=19) (hd:l.all kP=false) (w:World) (hG:Gr w) :
 Calls Tryz.prog 138 #[str l,.int .i64 10,.int .i64 64] w (fun e w'=>∃ t p,e=.returned (.tuple #[.int .u64 0,.iface t (.pointer (some p))])/\Below w.heap.size w w'):=by
 have h:Lib.parseUintB 64 (⟨l.toArray⟩:ByteArray).data.toList=Lib.parseUintB 64 []:=by
  unfold Lib.parseUintB;rw[cg (by simpa using h0),caE _ 0 0 (by decide) (by simpa using h19)];simp only[hd];rfl
 obtain⟨tp,p,hs⟩:=hG.syn;refine(Tryz.strconv_ParseUint_10_at64_syntax ⟨l.toArray⟩ (Us l h19 (by omega)) h (.iface tp p) w hs (.inr ⟨tp,p,rfl⟩)).mono ?_;rintro e w' ⟨N,rfl,_,_,hb⟩;exact⟨_,_,rfl,hb⟩
def cfc:Value->Nat
 |.string s=>s.size
 |_=>0
def caT (w:World) (l:List UInt8) (e:Ending) (w':World):Prop :=
 (uM l=true/\∃ v,e=.returned (.tuple #[v,.bool true])/\cw w' v (jt l)/\Below w.heap.size w w')\/
 (uM l=false/\e=.returned (.tuple #[.slice none 0 0,.bool false])/\Below w.heap.size w w')
theorem Zo (l:List UInt8) (n:Nat):(⟨l.toArray⟩:ByteArray).extract 0 n=⟨(l.take n).toArray⟩:=by
 apply ByteArray.ext;simp [ByteArray.data_extract]
theorem YK (l:List UInt8) (n:Nat):(⟨l.toArray⟩:ByteArray).extract n l.length=⟨(l.drop n).toArray⟩:=by
 apply ByteArray.ext;simp [ByteArray.data_extract];rw[ku (by simp)]
def ReadRel (w:World) (l:List UInt8) (s x:Value) (wr:World):Prop :=
 ∃ pre rest,s=str rest/\l=pre++rest/\pre.all kP=true/\cw wr x (jt pre)/\(pre=[]\/rest.length%19=0)/\Below w.heap.size w wr
theorem Ub (l:List UInt8) (w:World) (hl:l.length<=100000) (hG:Gr w):Calls Tryz.prog 105 #[str l] w (caT w l):=by
 have HG:=ca hG;clear hG;by_cases h0:l=[]
 ·subst h0;have hk:uM []=false:=rfl
  go_enter Tryz.func105,Tryz.ntmps105
  go_wp2_with fail;refine cP (v:=.tuple #[.slice none 0 0,.bool false]) (by simp [results,Tryz.results105,go_sem]) rfl ?_;exact .inr ⟨hk,rfl,cu _ _⟩
 ·have e0:l.isEmpty=false:=by cases l<;>simp_all
  have H0:=ca h0;clear h0
  go_enter Tryz.func105,Tryz.ntmps105
  go_wp2_with fail
  go_loopw [0,4] (fun s x wr=>Hid (ReadRel w l s x wr)) (fun s _ _=>cfc s)
  case atStart=>exact⟨[],l,rfl,rfl,rfl,cw.zero w,.inl rfl,cu _ _⟩
  case round =>
   obtain⟨pre,rest,rfl,hpre,hd,hx,h19,hb⟩:=hrel.out;clear hrel;by_cases hr:rest=[]
   ·subst hr;obtain⟨xa,xl,xc,rfl,_⟩:=hx.form;have hfin:uM l=true/\cw wr (.slice xa xl xc) (jt l):=by
     rw[uv] at hpre;subst hpre;refine⟨?_,hx⟩;unfold uM;rw[hd,e0];rfl
    have HFin:=ca hfin;have HB:=ca hb;clear hfin hb hx h19 hpre hd;go_wp2_with fail;refine cP (v:=.tuple #[.slice xa xl xc,.bool true]) (by simp [results,Tryz.results105,go_sem]) rfl ?_;exact .inl ⟨HFin.out.1,_,rfl,HFin.out.2,HB.out⟩
   ·have e1:rest.isEmpty=false:=by cases rest<;>simp_all
    have hm0:0<rest.length:=by cases rest<;>simp_all
    obtain⟨q,hq⟩:∃ q,q=(rest.length-1)%19:=⟨_,rfl⟩;have hq19:q<19:=by omega
    have hqm:q+1<=rest.length:=by have:=Nat.mod_le (rest.length-1) 19;omega
    have g1:((rest.length:Nat):Int)-1=((rest.length-1:Nat):Int):=by omega
    have g2:Int.tmod ((rest.length:Nat)-1:Int) 19=(q:Int):=by rw[g1,cfJ (by omega)];omega
    have g3:(((rest.length:Nat):Int)-1)%19=(q:Int):=by omega
    have hxt:=Zo rest (q+1);have hxd:=YK rest (q+1);have hl1:(rest.length:Int)<=100000:=by
     have:=cX List.length hpre;rw[kC] at this;omega
    have hqmi:(q:Int)+1<=(rest.length:Int):=by omega
    have HPre:=ca hpre;have HD:=ca hd;have HX:=ca hx;have H19:=ca h19;have HB:=ca hb;have HQ:=ca hq;obtain⟨xa,xl,xc,rfl,_⟩:=hx.form;clear hpre hd hx h19 hb hq g1 hr;go_wp2_with fail;by_cases hg:(rest.take (q+1)).all kP=true
    ·refine(cot (rest.take (q+1)) (by intro e;have:=cX List.length e;rw[cU,Yn] at this;omega) (by rw[cU];omega) hg wr).mono ?_;rintro e W1 ⟨rfl,hb1⟩;have hval:jt (pre++rest.take (q+1))=jt pre*10000000000000000000+jt (rest.take (q+1)):=by
      rw[UW];rcases H19.out with h|h
      ·subst h;simp [jt]
      ·have hq18:q=18:=by have:=HQ.out;omega
       rw[cU,hq18,ul (by omega)];rw[je]
     have hgl:jt (rest.take (q+1))<B:=by
      have h1:=Wy (rest.take (q+1)) (by simpa using hg);have h2:10^(rest.take (q+1)).length<=10^19:=jW (by omega) (by rw[cU];omega);exact cE h1 (cB h2 (by decide))
     obtain⟨K,hK1,hK2⟩:∃ K:Nat,100000<=K/\((K+1:Nat):Int)<=1073741824:=⟨100001,by omega,by omega⟩;have hBK:B<=B^K:=by
      have:=jW ke (show 1<=K by omega)
      rwa [JB] at this
     have hpl:jt pre<B^K:=by
      have h1:=Wy pre (by simpa using HD.out);have h2:pre.length<=100000:=by
       have:=cX List.length HPre.out;rw[kC] at this;omega
      exact cE h1 (cB (cbA (by decide) _) (jW ke (by omega)))
     have hnew:pre++rest.take (q+1)++rest.drop (q+1)=l:=by rw[yF,kj];exact HPre.out.symm
     have hall:(pre++rest.take (q+1)).all kP=true:=by rw[List.all_append,HD.out,hg];rfl
     have hmod:(rest.drop (q+1)).length%19=0:=by rw[uK,HQ.out];omega
     have hprod:jt pre*10000000000000000000<B^(K+1):=by
      rw[ji];exact Nat.mul_lt_mul'' hpl (by decide)
     have hgk:jt (rest.take (q+1))<B^(K+1):=cE hgl (by
      rw[ji];exact Nat.le_mul_of_pos_left _ (kI ke))
     have HW:=ca (fun W=>We (jt (rest.take (q+1))) W hgl);have HT:=ca (fun x y W (hx:cw W x (jt pre)) (hy:cw W y 10000000000000000000)=>Cv x y (jt pre) 10000000000000000000 K W hx hy hpl (cE (by decide) hBK) (by omega));have HP:=ca (fun x y W (hx:cw W x (jt pre*10000000000000000000)) (hy:cw W y (jt (rest.take (q+1))))=>chh x y _ _ (K+1) W hx hy hprod hgk hK2);have HVal:=ca hval;have HNew:=ca hnew;have HAll:=ca hall;have HMod:=ca hmod;have HX1:=ca (HX.out.below hb1 (cb _));have HB1:=ca (cn HB.out hb1);have hms:cfc (str (rest.drop (q+1)))<cfc (str rest):=by
      simp [cfc,ByteArray.size];omega
     have HMs:=ca hms;clear hval hgl hpl hnew hall hmod hprod hgk hms hb1 hg HX HB hBK hK1 hK2;generalize jt (rest.take (q+1))=gv at *;generalize rest.drop (q+1)=rest2 at *;go_wp2_with fail;have hone:cw (W1.alloc (.cells #[.int .u64 10000000000000000000] 31)) (.slice (some ⟨W1.heap.size,0,none⟩) 1 1) 10000000000000000000:=clh W1 10000000000000000000 (by decide) (by decide);have hb2:=jI W1 (.cells #[.int .u64 10000000000000000000] 31);refine(HT.out _ _ _ (HX1.out.below hb2 (cb _)) hone).mono ?_;rintro e W2 ⟨v2,rfl,hv2,hb3⟩;have HV2:=ca hv2;have HB2:=ca (cn (cn HB1.out hb2) hb3);obtain⟨_,_,_,rfl,_⟩:=hv2.form;clear hv2 hone hb2 hb3 HT HX1 HB1;go_wp2_with fail;refine(HW.out _).mono ?_;rintro e W3 ⟨v3,rfl,hv3,hb3⟩;have HV3:=ca hv3;have HV2:=ca (HV2.out.below hb3 (cb _));have HB3:=ca (cn HB2.out hb3);obtain⟨_,_,_,rfl,_⟩:=hv3.form;clear hv3 hb3 HW HB2;go_wp2_with fail;refine(HP.out _ _ _ HV2.out HV3.out).mono ?_;rintro e W4 ⟨v4,rfl,hv4,hb4⟩;rw[← HVal.out] at hv4;have HV4:=ca hv4;have HB4:=ca (cn HB3.out hb4);obtain⟨_,_,_,rfl,_⟩:=hv4.form;clear hv4 hb4 HP HV2 HV3 HB3;go_wp2_with fail
     go_roundw
     case rel=>exact⟨pre++rest.take (q+1),rest2,rfl,HNew.out.symm,HAll.out,HV4.out,.inr HMod.out,HB4.out⟩
     case measure=>exact HMs.out
    ·have hg:(rest.take (q+1)).all kP=false:=by simpa using hg
     refine(cmZ (rest.take (q+1)) (by intro e;have:=cX List.length e;rw[cU,Yn] at this;omega) (by rw[cU];omega) hg wr (HG.out.below HB.out HG.out.size)).mono ?_;rintro e W1 ⟨t,p,rfl,hb1⟩;have hfin:uM l=false:=by
      rw[HPre.out];unfold uM;rw[← kj (q+1) rest,List.all_append,List.all_append,hg];simp
     have HFin:=ca hfin;have HB1:=ca (cn HB.out hb1);clear hfin hb1 hg hxt hxd;go_wp2_with fail;refine cP (v:=.tuple #[.slice none 0 0,.bool false]) (by simp [results,Tryz.results105,go_sem]) rfl ?_;exact .inr ⟨HFin.out,rfl,HB1.out⟩
end Go.Proofs.YtgdnkbajagfijaaGreatDoor
