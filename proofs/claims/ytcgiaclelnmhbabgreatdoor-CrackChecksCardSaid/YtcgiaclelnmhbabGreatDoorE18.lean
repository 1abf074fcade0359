/- Part 18. -/
import Derived.Test.YtcgiaclelnmhbabGreatDoorE17
import Derived.Lib.ParseIntB
set_option linter.all false

namespace Go.Proofs.YtcgiaclelnmhbabGreatDoor
open Go Go.RowKit Go.Proofs Lim
theorem Co (v1 v2:Value) (m n k:Nat) (w:World) (h1:cr w v1 m) (h2:cr w v2 n) (hn:0<n) (hm:m<B^k) (hk:(k:Int)<=1073741824) :
 Calls Tryz.prog 102 #[v1,v2] w (Gm w (m/n)):=by
 have HOv:=ca (Yd v1 v2 m n k w h1 h2 hn hm hk);have H1:=ca h1;by_cases o2:n=1
 ·have HI:=ca (GU v2 n w h2 o2);subst o2;obtain⟨xs,⟨⟨xa,xc,rfl,_⟩,_⟩,_⟩:=h1;obtain⟨ys,⟨⟨ya,yc,rfl,_⟩,_⟩,_⟩:=h2;clear hm hn hk HOv
  go_enter Tryz.func102,Tryz.ntmps102
  go_wp2_with fail;refine HI.out.mono ?_;rintro e w1 ⟨rfl,rfl⟩;go_wp2_with fail
  go_ret
  refine⟨_,rfl,?_,cF _ _⟩;rw[Nat.div_one];exact H1.out
 ·have HI:=ca (GL v2 n w h2 o2);obtain⟨xs,⟨⟨xa,xc,rfl,_⟩,_⟩,_⟩:=h1;obtain⟨ys,⟨⟨ya,yc,rfl,_⟩,_⟩,_⟩:=h2;clear hm hn hk o2
  go_enter Tryz.func102,Tryz.ntmps102
  go_wp2_with fail;refine HI.out.mono ?_;rintro e w1 ⟨rfl,rfl⟩;go_wp2_with fail;refine HOv.out.mono ?_;rintro e w' ⟨q,r,rfl,hq,hr,hbel⟩;have HQ:=ca hq;have HB:=ca hbel;clear hq hr hbel;go_wp2_with fail
  go_ret
  exact⟨q,rfl,HQ.out,HB.out⟩
open Go Go.RowKit Go.Proofs Lim
theorem addS_lt {a b:Bool}{x y j:Nat}(hx:x<B^j) (hy:y<B^j):(yE a x b y).2<B^(j+1):=by
 have h2:2*B^j<=B^(j+1):=by
  rw[js,jf];exact ja _ (by decide)
 have:(yE a x b y).2<=x+y:=by
  unfold yE;split
  ·exact cb _
  ·split
   ·show x-y<=x+y;omega
   ·show y-x<=x+y;omega
 omega
set_option maxHeartbeats 3200000 in
theorem cbn (v1 v2:Value) (neg1 neg2:Bool) (n1 d1 n2 d2 k:Nat) (w:World) (h1:Num w v1 neg1 n1 d1) (h2:Num w v2 neg2 n2 d2)
 (hn1:n1<B^k) (hd1:d1<B^k) (hn2:n2<B^k) (hd2:d2<B^k) (p1:0<d1) (p2:0<d2) (hk:((k+k+1:Nat):Int)<=1073741824) (hG:Gr w) :
 Calls Tryz.prog 80 #[v1,v2] w (zg w (YC neg1 n1 d1 neg2 n2 d2).1 (Kn neg1 n1 d1 neg2 n2 d2) (sumD neg1 n1 d1 neg2 n2 d2)):=by
 have HP1:=ca (fun W (hW:Below w.heap.size w W)=>CU v1 neg1 n1 d1 W (h1.below hW (cb _)));have HP2:=ca (fun W (hW:Below w.heap.size w W)=>CU v2 neg2 n2 d2 W (h2.below hW (cb _)));obtain⟨a1,b1,q1,rfl,_⟩:=h1.form;obtain⟨a2,b2,q2,rfl,_⟩:=h2.form;have hk1:(k:Int)<=1073741824:=by omega
 have hk2:((k+k:Nat):Int)<=1073741824:=by omega
 have HC1:=ca (fun x y W (hx:cr W x d1) (hy:cr W y d2) (hW:Below w.heap.size w W)=>WE x y d1 d2 k W hx hy hd1 hd2 hk1 (hG.below hW hG.size));have hg:0<Nat.gcd d1 d2:=Jh _ p2;have hgl:Nat.gcd d1 d2<=d1:=Nat.gcd_le_left _ p1;have hdv:Nat.gcd d1 d2 ∣ d2:=yX _ _;unfold Kn sumD sumX YC;generalize Nat.gcd d1 d2=g at *;have HO1:=ca (fun x y W (hx:cr W x d1) (hy:cr W y g)=>Co x y d1 g k W hx hy hg hd1 hk1);have HO2:=ca (fun x y W (hx:cr W x d2) (hy:cr W y g)=>Co x y d2 g k W hx hy hg hd2 hk1);have l1:d1/g<B^k:=jH (kz _ _) hd1;have l2:d2/g<B^k:=jH (kz _ _) hd2;have hr1:0<d1/g:=Nat.div_pos hgl hg;generalize d1/g=r1 at *;generalize d2/g=r2 at *;have HT1:=ca (fun x y W (hx:cr W x n1) (hy:cr W y r2)=>CG x y n1 r2 k W hx hy hn1 l2 hk1);have HT2:=ca (fun x y W (hx:cr W x n2) (hy:cr W y r1)=>CG x y n2 r1 k W hx hy hn2 l1 hk1);have m1:n1*r2<B^(k+k):=uT hn1 l2;have m2:n2*r1<B^(k+k):=uT hn2 l1;generalize n1*r2=L at *;generalize n2*r1=R at *;have HAS:=ca (fun x y W (hx:cr W x L) (hy:cr W y R)=>Zc neg1 neg2 x y L R (k+k) W hx hy m1 m2 hk2);have hsum:=addS_lt (a:=neg1) (b:=neg2) m1 m2;generalize (yE neg1 L neg2 R).1=NEG at *;generalize (yE neg1 L neg2 R).2=S at *;have hgB:g<B^(k+k+1):=jH hgl (cT hd1 (jP jE (by omega)));have HC2:=ca (fun x y W (hx:cr W x S) (hy:cr W y g) (hW:Below w.heap.size w W)=>WE x y S g (k+k+1) W hx hy hsum hgB hk (hG.below hW hG.size));have hx0:0<Nat.gcd S g:=Jh _ hg;have hxl:Nat.gcd S g<=d2:=cB (Nat.gcd_le_right _ hg) (Nat.le_of_dvd p2 hdv)
 generalize Nat.gcd S g=X at *;have HO3:=ca (fun x y W (hx:cr W x S) (hy:cr W y X)=>Co x y S X (k+k+1) W hx hy hx0 hsum hk);have HO4:=ca (fun x y W (hx:cr W x d2) (hy:cr W y X)=>Co x y d2 X k W hx hy hx0 hd2 hk1);have l4:d2/X<B^k:=jH (kz _ _) hd2;have hpos:0<r1*(d2/X):=Nat.mul_pos hr1 (Nat.div_pos hxl hx0);generalize d2/X=E at *;generalize S/X=NUM at *;have HT3:=ca (fun x y W (hx:cr W x r1) (hy:cr W y E)=>CG x y r1 E k W hx hy l1 l4 hk1);have HF:=ca (fun x y W (hx:cr W x NUM) (hy:cr W y (r1*E))=>cbc NEG x y NUM (r1*E) W hx hy hpos);generalize r1*E=DEN at *;clear h1 h2 hn1 hd1 hn2 hd2 hG hg hgl hdv l1 l2 hr1 m1 m2 hsum hgB hx0 hxl l4 hpos p1 p2 hk1 hk2
 go_enter Tryz.func80,Tryz.ntmps80
 go_wp2_with fail;obtain⟨W0,hW0,hb0,⟨f0,f1,f2,f3⟩,⟨g0,g1,g2,g3⟩,hz⟩:=box3 w (.bool neg1) (u a1) (u b1) (.pointer q1) (.bool neg2) (u a2) (u b2) (.pointer q2);rw[← hW0];clear hW0;have HZ:=ca hz;have HW0:=ca hb0;have hb0:=cF W0.heap.size W0;clear hz;refine(HP1.out _ (cG HW0.out hb0)).mono ?_;rintro e W1 ⟨x1,y1,rfl,hx1,hy1,hb⟩
 (obtain⟨_,_,_,_,_,_,_,_⟩:=ut w hb)
 obtain⟨xa1,xl1,xc1,rfl,_⟩:=hx1.form;obtain⟨ya1,yl1,yc1,rfl,_⟩:=hy1.form;have HX1:=ca hx1;have HY1:=ca hy1;have HA1:=ca (cG hb0 hb);clear hb0 hb hx1 hy1 f0 f1 f2 f3 g0 g1 g2 g3;go_wp2_with fail;refine(HP2.out _ (cG HW0.out HA1.out)).mono ?_;rintro e W2 ⟨x2,y2,rfl,hx2,hy2,hb⟩
 (obtain⟨_,_,_,_,_,_,_,_⟩:=ut w hb)
 obtain⟨xa2,xl2,xc2,rfl,_⟩:=hx2.form;obtain⟨ya2,yl2,yc2,rfl,_⟩:=hy2.form;have HX1:=ca (HX1.out.below hb (cb _));have HY1:=ca (HY1.out.below hb (cb _));have HX2:=ca hx2;have HY2:=ca hy2;have HA2:=ca (cG HA1.out hb);clear hb hx2 hy2 HA1;have HA:=HA2;clear HA2;go_wp2_with fail;refine(HC1.out _ _ _ HY1.out HY2.out (cG HW0.out HA.out)).mono ?_;rintro e W3 ⟨g,rfl,hv,hb⟩
 (obtain⟨_,_,_,_,_,_,_,_⟩:=ut w hb)
 obtain⟨_,_,_,rfl,_⟩:=hv.form;have HX1:=ca (HX1.out.below hb (cb _));have HY1:=ca (HY1.out.below hb (cb _));have HX2:=ca (HX2.out.below hb (cb _));have HY2:=ca (HY2.out.below hb (cb _));have H_g:=ca hv;have HA:=ca (cG HA.out hb);clear hb hv;go_wp2_with fail;refine(HO1.out _ _ _ HY1.out H_g.out).mono ?_;rintro e W4 ⟨r,rfl,hv,hb⟩
 (obtain⟨_,_,_,_,_,_,_,_⟩:=ut w hb)
 obtain⟨_,_,_,rfl,_⟩:=hv.form;have HX1:=ca (HX1.out.below hb (cb _));have HX2:=ca (HX2.out.below hb (cb _));have HY2:=ca (HY2.out.below hb (cb _));have H_g:=ca (H_g.out.below hb (cb _));have H_r:=ca hv;have HA:=ca (cG HA.out hb);clear hb hv;go_wp2_with fail;refine(HO2.out _ _ _ HY2.out H_g.out).mono ?_;rintro e W5 ⟨s,rfl,hv,hb⟩
 (obtain⟨_,_,_,_,_,_,_,_⟩:=ut w hb)
 obtain⟨_,_,_,rfl,_⟩:=hv.form;have HX1:=ca (HX1.out.below hb (cb _));have HX2:=ca (HX2.out.below hb (cb _));have HY2:=ca (HY2.out.below hb (cb _));have H_g:=ca (H_g.out.below hb (cb _));have H_r:=ca (H_r.out.below hb (cb _));have H_s:=ca hv;have HA:=ca (cG HA.out hb);clear hb hv;go_wp2_with fail
 go_region_held3 (fun w'=>(w'.cell? ⟨w.heap.size,0,none⟩=some (.bool neg1)/\w'.cell? ⟨w.heap.size,1,none⟩=some (u a1)/\w'.cell? ⟨w.heap.size,2,none⟩=some (u b1)/\w'.cell? ⟨w.heap.size,3,none⟩=some (.pointer q1))/\(w'.cell? ⟨w.heap.size+1,0,none⟩=some (.bool neg2)/\w'.cell? ⟨w.heap.size+1,1,none⟩=some (u a2)/\w'.cell? ⟨w.heap.size+1,2,none⟩=some (u b2)/\w'.cell? ⟨w.heap.size+1,3,none⟩=some (.pointer q2))) (go_keep) (first|((with_reducible refine(HT1.out _ _ _ (HX1.out.below (cF _ _).drew (cb _)) (H_s.out.below (cF _ _).drew (cb _))).mono ?_);rintro e W6 ⟨a,rfl,ha,hb⟩;(obtain⟨_,_,_,_,_,_,_,_⟩:=ut w hb);obtain⟨_,_,_,rfl,_⟩:=ha.form)|((with_reducible refine(HT2.out _ _ _ (HX2.out.below (zk (cF _ _) hb) (cb _)) (H_r.out.below (zk (cF _ _) hb) (cb _))).mono ?_);rintro e W7 ⟨b,rfl,hv,hb'⟩;(obtain⟨_,_,_,_,_,_,_,_⟩:=ut w hb');obtain⟨_,_,_,rfl,_⟩:=hv.form)|((with_reducible refine(HAS.out _ _ _ (ha.below hb' (cb _)) hv).mono ?_);rintro e W8 ⟨t,rfl,ht,hb''⟩;(obtain⟨_,_,_,_,_,_,_,_⟩:=ut w hb'');obtain⟨_,_,_,rfl,_⟩:=ht.form))
 have hbb:=cG (cG (zk (cF _ _) hb) hb') hb'';have HY2:=ca (HY2.out.below hbb (cb _));have H_g:=ca (H_g.out.below hbb (cb _));have H_r:=ca (H_r.out.below hbb (cb _));have H_t:=ca ht;have HA:=ca (cG HA.out hbb);clear hb hb' hb'' hbb ha hv ht;go_wp2_with fail;refine(HC2.out _ _ _ H_t.out H_g.out (cG HW0.out HA.out)).mono ?_;rintro e W9 ⟨x,rfl,hv,hb⟩
 (obtain⟨_,_,_,_,_,_,_,_⟩:=ut w hb)
 obtain⟨_,_,_,rfl,_⟩:=hv.form;have HY2:=ca (HY2.out.below hb (cb _));have H_r:=ca (H_r.out.below hb (cb _));have H_t:=ca (H_t.out.below hb (cb _));have H_x:=ca hv;have HA:=ca (cG HA.out hb);clear hb hv;go_wp2_with fail;refine(HO3.out _ _ _ H_t.out H_x.out).mono ?_;rintro e W10 ⟨num,rfl,hv,hb⟩
 (obtain⟨_,_,_,_,_,_,_,_⟩:=ut w hb)
 obtain⟨_,_,_,rfl,_⟩:=hv.form;have HY2:=ca (HY2.out.below hb (cb _));have H_r:=ca (H_r.out.below hb (cb _));have H_x:=ca (H_x.out.below hb (cb _));have H_num:=ca hv;have HA:=ca (cG HA.out hb);clear hb hv;go_wp2_with fail;refine(HO4.out _ _ _ HY2.out H_x.out).mono ?_;rintro e W11 ⟨q,rfl,hv,hb⟩
 (obtain⟨_,_,_,_,_,_,_,_⟩:=ut w hb)
 obtain⟨_,_,_,rfl,_⟩:=hv.form;have H_r:=ca (H_r.out.below hb (cb _));have H_num:=ca (H_num.out.below hb (cb _));have H_q:=ca hv;have HA:=ca (cG HA.out hb);clear hb hv;go_wp2_with fail;refine(HT3.out _ _ _ H_r.out H_q.out).mono ?_;rintro e W12 ⟨den,rfl,hv,hb⟩
 (obtain⟨_,_,_,_,_,_,_,_⟩:=ut w hb)
 obtain⟨_,_,_,rfl,_⟩:=hv.form;have H_num:=ca (H_num.out.below hb (cb _));have H_den:=ca hv;have HA:=ca (cG HA.out hb);clear hb hv;go_wp2_with fail;refine(HF.out _ _ _ H_num.out H_den.out).mono ?_;rintro e W13 ⟨v,rfl,hN,hb⟩
 (obtain⟨_,_,_,_,_,_,_,_⟩:=ut w hb)
 have hb3:=cG HA.out hb;obtain⟨a,b,p,rfl,_⟩:=hN.form;have hz:=HZ.out.below hb3 (cb _);have hfin:=zg.stored (a0:=.bool (NEG&&!decide (NUM=0))) (a1:=u a) (a2:=u b) (a3:=.pointer p) hz hN (cG HW0.out hb3) (by omega);have HFin:=ca hfin
 (obtain⟨z0,z1,z2,z3,zf0,zf1,zf2,zf3⟩:=HZ.out.zed hb3)
 clear hfin hN hb hb3;generalize (NEG&&!decide (NUM=0))=sg at *;go_wp2_with fail;refine jT (v:=.agg #[.bool sg,u a,u b,.pointer p]) (by simp [results,Tryz.results80,go_sem,z0,z1,z2,z3]) rfl ?_;exact HFin.out
def sgn (neg:Bool) (n:Nat):Int:=if neg then -(n:Int) else (n:Int)
theorem Wc (neg:Bool) (n:Nat):(sgn neg n).natAbs=n:=by unfold sgn;split<;>omega
theorem cfR (neg:Bool) (n:Nat):decide (sgn neg n<0)=(neg&&!decide (n=0)):=by
 unfold sgn;cases neg
 ·simp
 ·rw[Gs];simp;omega
theorem cic (i:Int):sgn (decide (i<0)) i.natAbs=i:=by
 unfold sgn;by_cases h:i<0
 ·simp only[h,decide_true,zw];omega
 ·simp only[h,decide_false,EK,yj];omega
theorem ciD (a b:Bool) (x y:Nat):sgn (yE a x b y).1 (yE a x b y).2=sgn a x+sgn b y:=by
 unfold yE sgn;by_cases h:y<=x<;>cases a<;>cases b<;>simp [h]<;>omega
theorem rat_eq {r:Rat}{N:Int}{D:Nat}(hD:0<D) (hc:N.natAbs.Coprime D) (P:Int) (Q:Nat) (hQ:Q≠0) (hr:r=mkRat P Q) (h:P*D=N*Q):r.num=N/\r.den=D:=by
 have hq:r=⟨N,D,Nat.ne_of_gt hD,hc⟩:=by
  rw[hr,← Rat.mkRat_self ⟨N,D,Nat.ne_of_gt hD,hc⟩];exact(Rat.mkRat_eq_iff hQ (Nat.ne_of_gt hD)).2 h
 subst hq;exact⟨rfl,rfl⟩
abbrev neg? (r:Rat):Bool:=decide (r.num<0)
theorem GZ (a b:Rat) :
 (a+b).num=sgn (YC (neg? a) a.num.natAbs a.den (neg? b) b.num.natAbs b.den).1 (Kn (neg? a) a.num.natAbs a.den (neg? b) b.num.natAbs b.den)/\
  (a+b).den=sumD (neg? a) a.num.natAbs a.den (neg? b) b.num.natAbs b.den:=by
 have hg:0<Nat.gcd a.den b.den:=Jh _ b.den_pos;have haux:=Rat.add.aux a b (g:=Nat.gcd a.den b.den) rfl rfl rfl;simp only at haux;have e1:a.den/Nat.gcd a.den b.den*Nat.gcd a.den b.den=a.den:=Wk (Ce _ _);have e2:b.den/Nat.gcd a.den b.den*Nat.gcd a.den b.den=b.den:=Wk (yX _ _);have hdvd:=yX a.den b.den;have hr1:0<a.den/Nat.gcd a.den b.den:=Nat.div_pos (Nat.gcd_le_left _ a.den_pos) hg;have hsum:=ciD (neg? a) (neg? b) (a.num.natAbs*(b.den/Nat.gcd a.den b.den)) (b.num.natAbs*(a.den/Nat.gcd a.den b.den));have hm:∀ (i:Int) (x:Nat),sgn (decide (i<0)) (i.natAbs*x)=i*x:=by
  intro i x;have:=cic i;unfold sgn at this ⊢;split
  ·rename_i h;rw[cq h] at this;rw[kT,← Int.neg_mul,this]
  ·rename_i h;rw[cf h] at this;rw[kT,this]
 rw[hm,hm] at hsum;have hb:=b.den_pos;have hnz:a.den*b.den≠0:=Nat.ne_of_gt (Nat.mul_pos a.den_pos b.den_pos);have hdef:=Rat.add_def' a b;unfold Kn sumD sumX YC;rw[← hsum] at haux;rw[Wc] at haux;generalize hSS:yE (neg? a) (a.num.natAbs*(b.den/Nat.gcd a.den b.den)) (neg? b) (b.num.natAbs*(a.den/Nat.gcd a.den b.den))=S at *;generalize Nat.gcd a.den b.den=g at *;generalize a.den/g=r1 at *;generalize b.den/g=r2 at *;have hX0:0<Nat.gcd S.2 g:=Jh _ hg;have hXb:Nat.gcd S.2 g ∣ b.den:=Nat.dvd_trans (yX _ _) hdvd;have hXS:S.2/Nat.gcd S.2 g*Nat.gcd S.2 g=S.2:=Wk (Ce _ _);have hXE:b.den/Nat.gcd S.2 g*Nat.gcd S.2 g=b.den:=Wk hXb;have hcop:Nat.Coprime (S.2/Nat.gcd S.2 g) (r1*(b.den/Nat.gcd S.2 g)):=by
  rw[← Nat.mul_div_assoc _ hXb,haux];refine Nat.coprime_div_gcd_div_gcd ?_;rw[← haux];exact hX0
 have hE0:0<b.den/Nat.gcd S.2 g:=Nat.div_pos (Nat.le_of_dvd hb hXb) hX0;generalize Nat.gcd S.2 g=X at *;generalize S.2/X=N at *;generalize hE:b.den/X=E at *;refine rat_eq (Nat.mul_pos hr1 hE0) (by rw[Wc];exact hcop) _ _ hnz hdef ?_;have hs:sgn S.1 S.2=sgn S.1 N*X:=by
  unfold sgn;rw[← hXS];split<;>rw[kT];rw[Int.neg_mul]
 rw[hs] at hsum;generalize sgn S.1 N=NN at *;generalize a.num=an at *;generalize b.num=bn at *;rw[← e1];have e2':((b.den:Nat):Int)=(r2:Int)*g:=by rw[← e2];simp
 have e3':((b.den:Nat):Int)=(E:Int)*X:=by rw[← hXE];simp
 simp only[kT];generalize ((b.den:Nat):Int)=bd at *;grind
theorem zg.q {w w':World}{neg:Bool}{n d:Nat}{e:Ending}{r:Rat}(h:zg w neg n d e w') (hn:r.num=sgn neg n) (hd:r.den=d):JP w r e w':=by
 obtain⟨v,he,hN,hb⟩:=h;refine⟨v,he,?_,hb⟩;unfold IsQ;rw[hn,Wc,cfR];have:r.den=if n=0 then 1 else d:=by
  split
  ·rename_i h0;have hz:r.num=0:=by rw[hn,h0];unfold sgn;simp
   have:=r.reduced;rw[hz] at this;simpa using this
  ·exact hd
 rw[this];exact hN
theorem JP.stored {w W:World}{R:Nat}{v:Value}{r:Rat}{a0 a1 a2 a3:Value}(hR:Box W R (.bool false) (.int .u64 0) (.int .u64 0) (.pointer none))
 (h:IsQ W v r) (hb:Below w.heap.size w W) (hw:w.heap.size<=R) :
 JP w r (.returned v) ((((W.setCell ⟨R,0,none⟩ a0).setCell ⟨R,1,none⟩ a1).setCell ⟨R,2,none⟩ a2).setCell ⟨R,3,none⟩ a3):=by
 have ho:=((((ju.refl R W).set 0 a0).set 1 a1).set 2 a2).set 3 a3;exact⟨v,rfl,Num.only hR h ho,hb.trans (ho.below hw)⟩
theorem IsQ.form {w:World}{v:Value}{r:Rat}(h:IsQ w v r):∃ sg a b p,v=.agg #[.bool sg,u a,u b,.pointer p]:=by
 obtain⟨a,b,p,h,_⟩:=Num.form h;exact⟨_,a,b,p,h⟩
theorem ceT (v1 v2:Value) (r s:Rat) (k:Nat) (w:World) (h1:IsQ w v1 r) (h2:IsQ w v2 s) (z1:Siz r k) (z2:Siz s k) (hk:((k+k+1:Nat):Int)<=1073741824) (hG:Gr w) :
 Calls Tryz.prog 80 #[v1,v2] w (JP w (r+s)) :=
 (cbn v1 v2 _ _ _ _ _ _ k w h1 h2 z1.1 z1.2 z2.1 z2.2 r.den_pos s.den_pos hk hG).mono fun _ _ h=>h.q (GZ r s).1 (GZ r s).2
def SmallQ (w:World) (r:Rat) (e:Ending) (w':World):Prop :=
 ∃ a b c,∃ ok:Bool,e=.returned (.tuple #[lo a b c,.bool ok])/\(ok=true->∀ W,IsQ W (lo a b c) r)/\Below w.heap.size w w'
theorem KX.q {w w':World}{neg:Bool}{n d:Nat}{e:Ending}{r:Rat}(h:KX w neg n d e w') (hn:r.num=sgn neg n) (hd:r.den=d):SmallQ w r e w':=by
 obtain⟨a,b,c,ok,he,h1,h2,hb⟩:=h;refine⟨a,b,c,ok,he,fun hok W=>?_,hb⟩;obtain⟨i1,i2⟩:=h2 hok;obtain⟨j1,j2,j3⟩:=h1 hok ⟨i1,i2,hd▸r.den_pos⟩;unfold IsQ;rw[hn,Wc,cfR,← j1,hd,← j2];exact Num.low c rfl j3.symm (j2▸i1) i2
theorem IsQ.forms {w:World}{v:Value}{r:Rat}(h:IsQ w v r) :
 (∃ l,v=lo (neg? r) r.num.natAbs l/\r.den=l+1/\r.num.natAbs<B/\r.den<B)\/(∃ b,v=wi (neg? r) ⟨b,0,none⟩):=by
 cases h with
 |low l hv hd hn hdB=>exact .inl ⟨l,hv,hd,hn,hdB⟩
 |wide b x y hv hx hy h1 h2 hB h0 hd=>exact .inr ⟨b,hv⟩
theorem ccB (r s:Rat) (l1 l2:Nat) (w:World) (d1:r.den=l1+1) (d2:s.den=l2+1) (h1:r.num.natAbs<B) (h2:r.den<B) (h3:s.num.natAbs<B) (h4:s.den<B) (hG:Gr w) :
 Calls Tryz.prog 79 #[lo (neg? r) r.num.natAbs l1,lo (neg? s) s.num.natAbs l2] w (SmallQ w (r+s)):=by
 refine(Zd (neg? r) (neg? s) _ l1 _ l2 h1 (d1▸h2) h3 (d2▸h4) w hG).mono fun _ _ h=>?_;rw[← d1,← d2] at h;exact h.q (GZ r s).1 (GZ r s).2
theorem plus_q (v1 v2:Value) (r s:Rat) (k:Nat) (w:World) (h1:IsQ w v1 r) (h2:IsQ w v2 s) (z1:Siz r k) (z2:Siz s k) (hk:((k+k+1:Nat):Int)<=1073741824) (hG:Gr w) :
 Calls Tryz.prog 60 #[v1,v2] w (JP w (r+s)):=by
 have HW:=ca (fun W (hW:Below w.heap.size w W)=>ceT v1 v2 r s k W (h1.below hW (cb _)) (h2.below hW (cb _)) z1 z2 hk (hG.below hW hG.size));rcases h1.forms with⟨l1,rfl,d1,i1,j1⟩|⟨b1,rfl⟩
 ·rcases h2.forms with⟨l2,rfl,d2,i2,j2⟩|⟨b2,rfl⟩
  ·have HS:=ca (fun W (hW:Below w.heap.size w W)=>ccB r s l1 l2 W d1 d2 i1 j1 i2 j2 (hG.below hW hG.size));clear h1 h2 z1 z2 hk hG d1 d2 j1 j2;generalize neg? r=neg1 at *;generalize neg? s=neg2 at *;generalize r.num.natAbs=n1 at *;generalize s.num.natAbs=n2 at *;generalize r+s=t at *
   go_enter Tryz.func60,Tryz.ntmps60
   go_wp2_with fail;obtain⟨W0,hW0,hb0,⟨f0,f1,f2,f3⟩,⟨g0,g1,g2,g3⟩,hz⟩:=box3 w (.bool neg1) (u n1) (u l1) (.pointer none) (.bool neg2) (u n2) (u l2) (.pointer none);rw[← hW0];clear hW0;have HZ:=ca hz;have HW0:=ca hb0;have hb0:=cF W0.heap.size W0;clear hz;refine(HS.out _ (cG HW0.out hb0)).mono ?_;rintro e W1 ⟨a,b,c,ok,rfl,hok,hb⟩
   (obtain⟨_,_,_,_,_,_,_,_⟩:=ut w hb)
   have HA:=ca (cG hb0 hb);have HOK:=ca hok;clear hb0 hb hok f0 f1 f2 f3 g0 g1 g2 g3
   (obtain⟨z0,z1,z2,z3,zf0,zf1,zf2,zf3⟩:=HZ.out.zed HA.out)
   have q0:w.heap.size<W1.heap.size:=kA W1 ⟨w.heap.size,0,none⟩ (by assumption);have q1:w.heap.size+1<W1.heap.size:=kA W1 ⟨w.heap.size+1,0,none⟩ (by assumption);have q2:w.heap.size+1+1<W1.heap.size:=kA W1 ⟨w.heap.size+1+1,0,none⟩ z0;cases ok
   ·go_wp2_with fail;have HA':=ca (cG HA.out (jS W1 (.cells #[.bool a,.int .u64 (b:Int),.int .u64 (c:Int),.pointer none] 45)));clear z0 z1 z2 z3 zf0 zf1 zf2 zf3 q0 q1 q2;refine(HW.out _ (cG HW0.out HA'.out)).mono ?_;rintro e W9 ⟨v,rfl,hN,hb⟩;have hb3:=cG HA'.out hb;have hN':=hN;obtain⟨sg,a9,b9,p9,rfl⟩:=hN'.form;have hz:=HZ.out.below hb3 (cb _);have hfin:=JP.stored (a0:=.bool sg) (a1:=u a9) (a2:=u b9) (a3:=.pointer p9) hz hN (cG HW0.out hb3) (by omega);have HFin:=ca hfin
    (obtain⟨z0,z1,z2,z3,zf0,zf1,zf2,zf3⟩:=HZ.out.zed hb3)
    clear hfin hN hN' hb hb3;go_wp2_with fail;refine jT (v:=.agg #[.bool sg,u a9,u b9,.pointer p9]) (by simp [results,Tryz.results60,go_sem,z0,z1,z2,z3]) rfl ?_;exact HFin.out
   ·have hT:=HOK.out rfl;have HT:=ca hT;clear hT;go_wp2_with fail;refine jT (v:=lo a b c) (by simp [results,Tryz.results60,go_sem,z0,z1,z2,z3,q2]) rfl ?_;exact⟨_,rfl,HT.out _,(JH HW0.out HA.out (by omega) _ _ _ _).trans ((jS _ _).mono (JH HW0.out HA.out (by omega) _ _ _ _).size)⟩
  ·clear h1 h2 z1 z2 hk hG;generalize neg? r=neg1 at *;generalize neg? s=neg2 at *;generalize r.num.natAbs=n1 at *;generalize r+s=t at *;clear d1 i1 j1
   go_enter Tryz.func60,Tryz.ntmps60
   go_wp2_with fail;obtain⟨W0,hW0,hb0,⟨f0,f1,f2,f3⟩,⟨g0,g1,g2,g3⟩,hz⟩:=box3 w (.bool neg1) (u n1) (u l1) (.pointer none) (.bool neg2) (u 0) (u 0) (.pointer (some ⟨b2,0,none⟩));rw[← hW0];clear hW0;have HZ:=ca hz;have HW0:=ca hb0;have hb0:=cF W0.heap.size W0;clear hz;refine(HW.out _ (cG HW0.out hb0)).mono ?_;rintro e W9 ⟨v,rfl,hN,hb⟩;have hb3:=cG hb0 hb;have hN':=hN;obtain⟨sg,a9,b9,p9,rfl⟩:=hN'.form;have hz:=HZ.out.below hb3 (cb _);have hfin:=JP.stored (a0:=.bool sg) (a1:=u a9) (a2:=u b9) (a3:=.pointer p9) hz hN (cG HW0.out hb3) (by omega);have HFin:=ca hfin
   (obtain⟨z0,z1,z2,z3,zf0,zf1,zf2,zf3⟩:=HZ.out.zed hb3)
   clear hfin hN hN' hb hb3;go_wp2_with fail;refine jT (v:=.agg #[.bool sg,u a9,u b9,.pointer p9]) (by simp [results,Tryz.results60,go_sem,z0,z1,z2,z3]) rfl ?_;exact HFin.out
 ·obtain⟨neg2,a2,b2,p2,rfl⟩:=h2.form;clear h1 h2 z1 z2 hk hG;generalize neg? r=neg1 at *;generalize r+s=t at *
  go_enter Tryz.func60,Tryz.ntmps60
  go_wp2_with fail;obtain⟨W0,hW0,hb0,⟨f0,f1,f2,f3⟩,⟨g0,g1,g2,g3⟩,hz⟩:=box3 w (.bool neg1) (u 0) (u 0) (.pointer (some ⟨b1,0,none⟩)) (.bool neg2) (u a2) (u b2) (.pointer p2);rw[← hW0];clear hW0;have HZ:=ca hz;have HW0:=ca hb0;have hb0:=cF W0.heap.size W0;clear hz;refine(HW.out _ (cG HW0.out hb0)).mono ?_;rintro e W9 ⟨v,rfl,hN,hb⟩;have hb3:=cG hb0 hb;have hN':=hN;obtain⟨sg,a9,b9,p9,rfl⟩:=hN'.form;have hz:=HZ.out.below hb3 (cb _);have hfin:=JP.stored (a0:=.bool sg) (a1:=u a9) (a2:=u b9) (a3:=.pointer p9) hz hN (cG HW0.out hb3) (by omega);have HFin:=ca hfin
  (obtain⟨z0,z1,z2,z3,zf0,zf1,zf2,zf3⟩:=HZ.out.zed hb3)
  clear hfin hN hN' hb hb3;go_wp2_with fail;refine jT (v:=.agg #[.bool sg,u a9,u b9,.pointer p9]) (by simp [results,Tryz.results60,go_sem,z0,z1,z2,z3]) rfl ?_;exact HFin.out
theorem Kb (sg:Bool) (a b:Nat) (p:Option Addr) (w:World) :
 Calls Tryz.prog 63 #[.agg #[.bool sg,u a,u b,.pointer p]] w (Val w (.int .i64 (if sg then -1 else 1))):=by
 cases sg
 ·go_enter Tryz.func63,Tryz.ntmps63
  go_wp2_with fail
  go_ret
  exact⟨rfl,jS w _⟩
 ·go_enter Tryz.func63,Tryz.ntmps63
  go_wp2_with fail
  go_ret
  exact⟨rfl,jS w _⟩
def sign (r:Rat):Int:=if r.num=0 then 0 else if r.num<0 then -1 else 1
theorem sign_q (v:Value) (r:Rat) (w:World) (h:IsQ w v r) :
 Calls Tryz.prog 58 #[v] w (Val w (.int .i64 (sign r))):=by
 have hsg:(if decide (r.num<0) then (-1:Int) else 1)=if r.num<0 then -1 else 1:=by
  by_cases h:r.num<0<;>simp [h]
 cases h with
 |low l hv hd hn hdB =>
  subst hv;by_cases h0:r.num.natAbs=0
  ·have hs:sign r=0:=by unfold sign;rw[cq (by omega)]
   rw[hs,h0];generalize decide (r.num<0)=sg at *
   go_enter Tryz.func58,Tryz.ntmps58
   go_wp2_with fail
   go_ret
   exact⟨rfl,jS w _⟩
  ·have hs:sign r=if decide (r.num<0) then -1 else 1:=by unfold sign;rw[cf (by omega),hsg]
   rw[hs];have HS:=ca (fun W=>Kb (decide (r.num<0)) r.num.natAbs l none W);clear hs hsg hn hd hdB;have h1:(((r.num.natAbs:Nat):Int) == 0)=false:=by rw[jn];omega
   obtain⟨sv,hsv⟩:∃ sv:Int,sv=if decide (r.num<0) then -1 else 1:=⟨_,rfl⟩
   rw[← hsv] at HS ⊢;clear hsv;generalize decide (r.num<0)=sg at *;generalize r.num.natAbs=n at *;clear h0
   go_enter Tryz.func58,Tryz.ntmps58
   go_wp2_with fail;refine(HS.out _).mono ?_;rintro e W1 ⟨rfl,hb⟩;have HB:=ca (cG (jS w _) hb);clear hb;go_wp2_with fail
   go_ret
   exact⟨rfl,HB.out⟩
 |wide b x y hv hx hy h1 h2 hB h0 hd =>
  subst hv;have hs:sign r=if decide (r.num<0) then -1 else 1:=by unfold sign;rw[cf (by omega),hsg]
  rw[hs];have HS:=ca (fun W=>Kb (decide (r.num<0)) 0 0 (some ⟨b,0,none⟩) W);clear hs hsg hx hy h1 h2 hB h0 hd;obtain⟨sv,hsv⟩:∃ sv:Int,sv=if decide (r.num<0) then -1 else 1:=⟨_,rfl⟩
  rw[← hsv] at HS ⊢;clear hsv;generalize decide (r.num<0)=sg at *
  go_enter Tryz.func58,Tryz.ntmps58
  go_wp2_with fail;refine(HS.out _).mono ?_;rintro e W1 ⟨rfl,hb⟩;have HB:=ca (cG (jS w _) hb);clear hb;go_wp2_with fail
  go_ret
  exact⟨rfl,HB.out⟩
open Go Go.RowKit Go.Proofs Lim
def Ur (r s:Rat):Int:=if r<s then -1 else if s<r then 1 else 0
theorem ccV (r s:Rat):Ur r s=if r.num*s.den<s.num*r.den then -1 else if s.num*r.den<r.num*s.den then 1 else 0:=by
 unfold Ur;simp only[Rat.lt_iff]
theorem cgK {m n:Int}{a b:Nat}(ha:0<a) (hb:0<b) (h:decide (m<0)≠decide (n<0)) :
 (if m*b<n*a then (-1:Int) else if n*a<m*b then 1 else 0)=if decide (m<0) then -1 else 1:=by
 have ha':(0:Int)<a:=by omega
 have hb':(0:Int)<b:=by omega
 by_cases hm:m<0
 ·have hn:0<=n:=by
   by_cases hn:n<0
   ·exact absurd (by simp [hm,hn]) h
   ·omega
  have h1:m*b<0:=Int.mul_neg_of_neg_of_pos hm hb';have h2:0<=n*a:=Int.mul_nonneg hn (Int.le_of_lt ha');rw[cq (by omega)];simp [hm]
 ·have hn:n<0:=by
   by_cases hn:n<0
   ·exact hn
   ·exact absurd (by simp [hm,hn]) h
  have h1:n*a<0:=Int.mul_neg_of_neg_of_pos hn ha';have h2:0<=m*b:=Int.mul_nonneg (by omega) (Int.le_of_lt hb');rw[cf (by omega),cq (by omega)];simp [hm]
theorem cip {m n:Int}{a b:Nat}(h:decide (m<0)=decide (n<0)) :
 (if decide (m<0) then (-1:Int) else 1)*cY (m.natAbs*b) (n.natAbs*a)=if m*b<n*a then (-1:Int) else if n*a<m*b then 1 else 0:=by
 unfold cY;by_cases hm:m<0
 ·have hn:n<0:=by
   by_cases hn:n<0
   ·exact hn
   ·simp [hm,hn] at h
  have e1:m*b=-((m.natAbs*b:Nat):Int):=by
   rw[kT,← Int.neg_mul];congr 1;omega
  have e2:n*a=-((n.natAbs*a:Nat):Int):=by
   rw[kT,← Int.neg_mul];congr 1;omega
  rw[e1,e2];generalize m.natAbs*b=x;generalize n.natAbs*a=y;simp only[hm,decide_true,zw];rcases Kc x y with g|g|g
  ·rw[cq g,cf (by omega),cq (by omega)];rfl
  ·rw[cf (by omega),cf (by omega),cf (by omega),cf (by omega)];rfl
  ·rw[cf (by omega),cq g,cq (by omega)];rfl
 ·have hn:¬ n<0:=by
   intro hn;simp [hm,hn] at h
  have e1:m*b=((m.natAbs*b:Nat):Int):=by
   rw[kT];congr 1;omega
  have e2:n*a=((n.natAbs*a:Nat):Int):=by
   rw[kT];congr 1;omega
  rw[e1,e2];generalize m.natAbs*b=x;generalize n.natAbs*a=y;simp only[hm,decide_false,EK,yj];rcases Kc x y with g|g|g
  ·rw[cq g,cq (by omega)];rfl
  ·rw[cf (by omega),cf (by omega),cf (by omega),cf (by omega)];rfl
  ·rw[cf (by omega),cq g,cf (by omega),cq (by omega)];rfl
theorem cdH {r s:Rat}(h:neg? r≠neg? s):Ur r s=if neg? r then -1 else 1:=by
 rw[ccV];exact cgK r.den_pos s.den_pos h
theorem cgG {r s:Rat}(h:neg? r=neg? s):(if neg? r then (-1:Int) else 1)*cY (r.num.natAbs*s.den) (s.num.natAbs*r.den)=Ur r s:=by
 rw[ccV];exact cip h
theorem chp (r s:Rat):IntKind.i64.wrap (Ur r s)=Ur r s:=by
 unfold Ur;split
 ·rfl
 ·split<;>rfl
theorem cmp_q (v1 v2:Value) (r s:Rat) (k:Nat) (w:World) (h1:IsQ w v1 r) (h2:IsQ w v2 s) (z1:Siz r k) (z2:Siz s k) (hk:(k:Int)<=1073741824) :
 Calls Tryz.prog 36 #[v1,v2] w (Val w (.int .i64 (Ur r s))):=by
 have HW:=ca (fun W (hW:Below w.heap.size w W)=>Wa v1 v2 _ _ _ _ _ _ k W (h1.below hW (cb _)) (h2.below hW (cb _)) z1.1 z1.2 z2.1 z2.2 hk);by_cases hne:neg? r=neg? s
 ·have hres:=cgG hne;have hwr:=chp r s;rw[← hres] at hwr;have hbn:(neg? r == neg? s)=true:=by rw[hne];simp
  obtain⟨sv,hsv⟩:∃ sv:Int,sv=if neg? r then -1 else 1:=⟨_,rfl⟩
  have hside:=fun a b p W=>Kb (neg? r) a b p W;rw[← hsv] at hside hres hwr;clear hsv;rcases h1.forms with⟨l1,rfl,d1,i1,j1⟩|⟨b1,rfl⟩
  ·have HS:=ca (hside r.num.natAbs l1 none);rcases h2.forms with⟨l2,rfl,d2,i2,j2⟩|⟨b2,rfl⟩
   ·have HC:=ca (fun W=>Un (neg? r) (neg? s) r.num.natAbs l1 s.num.natAbs l2 i1 (d1▸j1) i2 (d2▸j2) W);rw[← d1,← d2] at HC;generalize cY (r.num.natAbs*s.den) (s.num.natAbs*r.den)=cv at *;clear h1 h2 z1 z2 hk hne hside i1 i2 j1 j2 d1 d2 HW;generalize Ur r s=t at *;generalize neg? r=neg1 at *;generalize neg? s=neg2 at *;generalize r.num.natAbs=n1 at *;generalize s.num.natAbs=n2 at *;subst hres;generalize hpr:sv*cv=pr at *
    go_enter Tryz.func36,Tryz.ntmps36
    go_wp2_with fail;obtain⟨W0,hW0,hb0,⟨f0,f1,f2,f3⟩,⟨g0,g1,g2,g3⟩⟩:=box2 w (.bool neg1) (u n1) (u l1) (.pointer none) (.bool neg2) (u n2) (u l2) (.pointer none);rw[← hW0];clear hW0
    go_region_held3 (fun w'=>(w'.cell? ⟨w.heap.size,0,none⟩=some (.bool neg1)/\w'.cell? ⟨w.heap.size,1,none⟩=some (u n1)/\w'.cell? ⟨w.heap.size,2,none⟩=some (u l1)/\w'.cell? ⟨w.heap.size,3,none⟩=some (.pointer none))/\(w'.cell? ⟨w.heap.size+1,0,none⟩=some (.bool neg2)/\w'.cell? ⟨w.heap.size+1,1,none⟩=some (u n2)/\w'.cell? ⟨w.heap.size+1,2,none⟩=some (u l2)/\w'.cell? ⟨w.heap.size+1,3,none⟩=some (.pointer none))) (go_keep) (first|((with_reducible refine(HS.out _).mono ?_);rintro e W1 ⟨rfl,hb⟩;(obtain⟨_,_,_,_,_,_,_,_⟩:=ut w hb))|((with_reducible refine(HC.out _).mono ?_);rintro e W2 ⟨rfl,hb'⟩;(obtain⟨_,_,_,_,_,_,_,_⟩:=ut w hb')))
    have HB:=ca (cG (zk hb0 hb) hb');clear hb0 hb hb' f0 f1 f2 f3 g0 g1 g2 g3;go_wp2_with fail
    go_ret
    exact⟨rfl,HB.out⟩
   ·generalize cY (r.num.natAbs*s.den) (s.num.natAbs*r.den)=cv at *;clear h1 h2 z1 z2 hk hne hside i1 j1 d1;generalize Ur r s=t at *;generalize neg? r=neg1 at *;generalize neg? s=neg2 at *;generalize r.num.natAbs=n1 at *;subst hres;generalize hpr:sv*cv=pr at *
    go_enter Tryz.func36,Tryz.ntmps36
    go_wp2_with fail;obtain⟨W0,hW0,hb0,⟨f0,f1,f2,f3⟩,⟨g0,g1,g2,g3⟩⟩:=box2 w (.bool neg1) (u n1) (u l1) (.pointer none) (.bool neg2) (u 0) (u 0) (.pointer (some ⟨b2,0,none⟩));rw[← hW0];clear hW0
    go_region_held3 (fun w'=>(w'.cell? ⟨w.heap.size,0,none⟩=some (.bool neg1)/\w'.cell? ⟨w.heap.size,1,none⟩=some (u n1)/\w'.cell? ⟨w.heap.size,2,none⟩=some (u l1)/\w'.cell? ⟨w.heap.size,3,none⟩=some (.pointer none))/\(w'.cell? ⟨w.heap.size+1,0,none⟩=some (.bool neg2)/\w'.cell? ⟨w.heap.size+1,1,none⟩=some (u 0)/\w'.cell? ⟨w.heap.size+1,2,none⟩=some (u 0)/\w'.cell? ⟨w.heap.size+1,3,none⟩=some (.pointer (some ⟨b2,0,none⟩)))) (go_keep) (first|((with_reducible refine(HS.out _).mono ?_);rintro e W1 ⟨rfl,hb⟩;(obtain⟨_,_,_,_,_,_,_,_⟩:=ut w hb))|((with_reducible refine(HW.out _ (zk hb0 hb)).mono ?_);rintro e W2 ⟨rfl,hb'⟩;(obtain⟨_,_,_,_,_,_,_,_⟩:=ut w hb')))
    have HB:=ca (cG (zk hb0 hb) hb');clear hb0 hb hb' f0 f1 f2 f3 g0 g1 g2 g3;go_wp2_with fail
    go_ret
    exact⟨rfl,HB.out⟩
  ·have HS:=ca (hside 0 0 (some ⟨b1,0,none⟩));obtain⟨a2,b2,p2,rfl,_⟩:=Num.form h2;clear h1 h2 z1 z2 hk hbn;obtain⟨neg2,hn2⟩:∃ neg2,neg2=decide (s.num<0):=⟨_,rfl⟩;rw[← hn2] at HW ⊢;have hne2:neg? r=neg2:=hne.trans hn2.symm;have hbn:(neg? r == neg2)=true:=by rw[hne2];simp
   clear hne hne2;generalize cY (r.num.natAbs*s.den) (s.num.natAbs*r.den)=cv at *;clear hside hn2;generalize Ur r s=t at *;generalize neg? r=neg1 at *;subst hres;generalize hpr:sv*cv=pr at *
   go_enter Tryz.func36,Tryz.ntmps36
   go_wp2_with fail;obtain⟨W0,hW0,hb0,⟨f0,f1,f2,f3⟩,⟨g0,g1,g2,g3⟩⟩:=box2 w (.bool neg1) (u 0) (u 0) (.pointer (some ⟨b1,0,none⟩)) (.bool neg2) (u a2) (u b2) (.pointer p2);rw[← hW0];clear hW0
   go_region_held3 (fun w'=>(w'.cell? ⟨w.heap.size,0,none⟩=some (.bool neg1)/\w'.cell? ⟨w.heap.size,1,none⟩=some (u 0)/\w'.cell? ⟨w.heap.size,2,none⟩=some (u 0)/\w'.cell? ⟨w.heap.size,3,none⟩=some (.pointer (some ⟨b1,0,none⟩)))/\(w'.cell? ⟨w.heap.size+1,0,none⟩=some (.bool neg2)/\w'.cell? ⟨w.heap.size+1,1,none⟩=some (u a2)/\w'.cell? ⟨w.heap.size+1,2,none⟩=some (u b2)/\w'.cell? ⟨w.heap.size+1,3,none⟩=some (.pointer p2))) (go_keep) (first|((with_reducible refine(HS.out _).mono ?_);rintro e W1 ⟨rfl,hb⟩;(obtain⟨_,_,_,_,_,_,_,_⟩:=ut w hb))|((with_reducible refine(HW.out _ (zk hb0 hb)).mono ?_);rintro e W2 ⟨rfl,hb'⟩;(obtain⟨_,_,_,_,_,_,_,_⟩:=ut w hb')))
   have HB:=ca (cG (zk hb0 hb) hb');clear hb0 hb hb' f0 f1 f2 f3 g0 g1 g2 g3;go_wp2_with fail
   go_ret
   exact⟨rfl,HB.out⟩
 ·have hres:=cdH hne;obtain⟨a1,b1,p1,rfl,_⟩:=Num.form h1;obtain⟨a2,b2,p2,rfl,_⟩:=Num.form h2;have HS:=ca (fun W=>Kb (decide (r.num<0)) a1 b1 p1 W);rw[← hres] at HS;have hb:(decide (r.num<0) == decide (s.num<0))=false:=by simpa using hne
  clear h1 h2 z1 z2 hk HW hres hne;generalize Ur r s=t at *;generalize decide (r.num<0)=neg1 at *;generalize decide (s.num<0)=neg2 at *
  go_enter Tryz.func36,Tryz.ntmps36
  go_wp2_with fail;obtain⟨W0,hW0,hb0,⟨f0,f1,f2,f3⟩,⟨g0,g1,g2,g3⟩⟩:=box2 w (.bool neg1) (u a1) (u b1) (.pointer p1) (.bool neg2) (u a2) (u b2) (.pointer p2);rw[← hW0];clear hW0;refine(HS.out _).mono ?_;rintro e W1 ⟨rfl,hb1⟩;have HB:=ca (cG hb0 hb1);clear hb0 hb1;go_wp2_with fail
  go_ret
  exact⟨rfl,HB.out⟩
open Go Go.RowKit Go.Proofs Lim
theorem int_q (i:Int) (h1:-9223372036854775808<=i) (h2:i<=9223372036854775807) (w:World) :
 Calls Tryz.prog 13 #[.int .i64 i] w (JP w (i:Rat)):=by
 have hB:i.natAbs<B:=by unfold B;omega
 have hl:ze 1 1=0:=by rfl
 have hq:∀ W,IsQ W (lo (decide (i<0)&&!decide (i.natAbs=0)) i.natAbs (ze 1 1)) (i:Rat):=by
  intro W;rw[hl];unfold IsQ;rw[Rat.num_intCast,Rat.den_intCast];have:(decide (i<0)&&!decide (i.natAbs=0))=decide (i<0):=by
   rw[Gs];simp;omega
  rw[this];exact Num.low 0 rfl rfl hB (by decide)
 have HQ:=ca hq;have HS:=ca (fun W=>KZ (decide (i<0)) i.natAbs 1 (by decide) W);by_cases hi:i<0
 ·have hw:IntKind.u64.wrap (-(IntKind.u64.wrap i))=(i.natAbs:Int):=by
   rw[zQ,zQ];unfold B at hB;omega
  have hw2:IntKind.u64.wrap (-i)=(i.natAbs:Int):=by
   rw[zQ];unfold B at hB;omega
  simp only[hi,decide_true] at HS HQ;clear hq hl hB;have HHB:=ca h1;generalize (i:Rat)=t at *;generalize (true&&!decide (i.natAbs=0))=sg at *
  go_enter Tryz.func13,Tryz.ntmps13
  go_wp2_with fail;obtain⟨W0,hW0,hb0,hz,hs⟩:=boxz w;rw[← hW0];clear hW0;have HZ:=ca hz;have HW0:=ca hb0;have hb0:=cF W0.heap.size W0;clear hz;clear hs;generalize ze 1 1=l2 at *;generalize hn:i.natAbs=n at *;refine(HS.out _).mono ?_;rintro e W1 ⟨rfl,hb⟩;have hb3:=cG hb0 hb;have hz:=HZ.out.below hb3 (cb _);have hfin:=JP.stored (a0:=.bool sg) (a1:=u n) (a2:=u l2) (a3:=.pointer none) hz (HQ.out _) (cG HW0.out hb3) (cb _);have HFin:=ca hfin
  (obtain⟨z0,z1,z2,z3,zf0,zf1,zf2,zf3⟩:=HZ.out.zed hb3)
  clear hfin hb hb0 hb3 hz hn;go_wp2_with fail;refine jT (v:=lo sg n l2) (by simp [results,Tryz.results13,go_sem,z0,z1,z2,z3]) rfl ?_;exact HFin.out
 ·have hw:IntKind.u64.wrap i=(i.natAbs:Int):=by
   rw[zQ];unfold B at hB;omega
  simp only[hi,decide_false] at HS HQ;clear hq hl hB;have HHB:=ca h1;generalize (i:Rat)=t at *;generalize (false&&!decide (i.natAbs=0))=sg at *
  go_enter Tryz.func13,Tryz.ntmps13
  go_wp2_with fail;obtain⟨W0,hW0,hb0,hz,hs⟩:=boxz w;rw[← hW0];clear hW0;have HZ:=ca hz;have HW0:=ca hb0;have hb0:=cF W0.heap.size W0;clear hz;clear hs;generalize ze 1 1=l2 at *;generalize hn:i.natAbs=n at *;refine(HS.out _).mono ?_;rintro e W1 ⟨rfl,hb⟩;have hb3:=cG hb0 hb;have hz:=HZ.out.below hb3 (cb _);have hfin:=JP.stored (a0:=.bool sg) (a1:=u n) (a2:=u l2) (a3:=.pointer none) hz (HQ.out _) (cG HW0.out hb3) (cb _);have HFin:=ca hfin
  (obtain⟨z0,z1,z2,z3,zf0,zf1,zf2,zf3⟩:=HZ.out.zed hb3)
  clear hfin hb hb0 hb3 hz hn;go_wp2_with fail;refine jT (v:=lo sg n l2) (by simp [results,Tryz.results13,go_sem,z0,z1,z2,z3]) rfl ?_;exact HFin.out
theorem siz_int (i:Int) (h1:-9223372036854775808<=i) (h2:i<=9223372036854775807):Siz (i:Rat) 1:=by
 unfold Siz;rw[Rat.num_intCast,Rat.den_intCast,Es];exact⟨by unfold B;omega,by decide⟩
theorem Siz.le {r:Rat}{k j:Nat}(h:Siz r k) (hj:k<=j):Siz r j :=
 ⟨cT h.1 (jP jE hj),cT h.2 (jP jE hj)⟩
theorem bapp (a b:List UInt8):((⟨a.toArray⟩:ByteArray)++⟨b.toArray⟩)=⟨(a++b).toArray⟩:=by
 apply ByteArray.ext;rw[ByteArray.data_append];simp
theorem cco (c:UInt8) (b:List UInt8):((⟨#[c]⟩:ByteArray)++⟨b.toArray⟩)=⟨(c::b).toArray⟩:=bapp [c] b
theorem ccJ (a:List UInt8) (c:UInt8):((⟨a.toArray⟩:ByteArray)++⟨#[c]⟩)=⟨(a++[c]).toArray⟩:=bapp a [c]
theorem Zr {n k:Nat}(h:n<B^k):(je n).length<=20*k+1:=by
 unfold je;split
 ·simp
 ·rw[List.length_reverse,CC];have:=Jr h rfl;omega
theorem cr.not_one {w:World}{v:Value}{n:Nat}(h:cr w v n) (h0:0<n) (h1:n≠1) :
 (∃ b o c,v=.slice (some ⟨b,o,none⟩) 1 c/\w.cell? ⟨b,o,none⟩=some (u n))\/(∃ ao l c,v=.slice ao l c/\l≠1):=by
 rcases jj n B with hB|hB
 ·obtain⟨b,o,c,rfl,hc⟩:=h.limb h0 hB;exact .inl ⟨b,o,c,rfl,hc⟩
 ·obtain⟨ao,l,c,rfl,_,_,hl⟩:=h.form;exact .inr ⟨ao,l,c,rfl,by have:=hl.2 hB;omega⟩
theorem cgi (v:Value) (N k:Nat) (w:World) (a1 b1:Nat) (p1:Option Addr) (hv:v=.agg #[.bool false,u a1,u b1,.pointer p1])
 (HP:Hid (∀ W,Below w.heap.size w W->Calls Tryz.prog 37 #[v] W (CL W N 1))) (HT1:Hid (∀ x W,cr W x N->Calls Tryz.prog 38 #[x] W (uA W (je N))))
 (HT2:Hid (∀ x W,cr W x 1->Calls Tryz.prog 38 #[x] W (uA W (je 1)))) (hl:(je N).length<=21474836481) (hl2:(je 1).length<=21474836481) :
 Calls Tryz.prog 16 #[v] w (uA w (je N)):=by
 subst hv;clear hl hl2;generalize je N=TN at *
 go_enter Tryz.func16,Tryz.ntmps16
 go_wp2_with fail;obtain⟨W0,hW0,hb0,⟨f0,f1,f2,f3⟩⟩:=box1 w (.bool false) (u a1) (u b1) (.pointer p1);rw[← hW0];clear hW0;refine(HP.out _ hb0).mono ?_;rintro e W1 ⟨x,y,rfl,hx,hy,hb⟩
 (have hh:=JI (b:=w.heap.size) hb f0 f1 f2 f3;clear f0 f1 f2 f3;obtain⟨f0,f1,f2,f3⟩:=hh)
 obtain⟨ya,yo,yc,rfl,hyc⟩:=hy.limb (by decide) (by decide);have HA:=ca (cG hb0 hb);have HX:=ca hx;have HY:=ca hy;obtain⟨xa,xl,xc,rfl,_⟩:=hx.form;clear hb hb0 hx hy HP;go_wp2_with fail;refine(HT1.out _ _ HX.out).mono ?_;rintro e W2 ⟨rfl,hb⟩
 (have hh:=JI (b:=w.heap.size) hb f0 f1 f2 f3;clear f0 f1 f2 f3;obtain⟨f0,f1,f2,f3⟩:=hh)
 have hyc2:W2.cell? ⟨ya,yo,none⟩=some (.int .u64 1):=(hb.cell (p:=⟨ya,yo,none⟩) (kA W1 _ hyc)).trans hyc;have HA2:=ca (cG HA.out hb);have HY2:=ca (HY.out.below hb (cb _));clear hb HX HT1 hyc;go_wp2_with fail
 go_ret
 refine⟨?_,HA2.out⟩;rfl
theorem chx (v:Value) (N k:Nat) (D:Nat) (hD0:0<D) (hD1:D≠1) (w:World) (a1 b1:Nat) (p1:Option Addr) (hv:v=.agg #[.bool false,u a1,u b1,.pointer p1])
 (HP:Hid (∀ W,Below w.heap.size w W->Calls Tryz.prog 37 #[v] W (CL W N D))) (HT1:Hid (∀ x W,cr W x N->Calls Tryz.prog 38 #[x] W (uA W (je N))))
 (HT2:Hid (∀ x W,cr W x D->Calls Tryz.prog 38 #[x] W (uA W (je D)))) (hl:(je N).length<=21474836481) (hl2:(je D).length<=21474836481) :
 Calls Tryz.prog 16 #[v] w (uA w ((je N++47::je D))):=by
 subst hv;have l2:¬ 9223372036854775807<(je N).length+1:=by omega
 have l3:¬ 9223372036854775807<(je N).length+1+(je D).length:=by omega
 clear hl hl2;generalize je N=TN at *;generalize je D=TD at *
 go_enter Tryz.func16,Tryz.ntmps16
 go_wp2_with fail;obtain⟨W0,hW0,hb0,⟨f0,f1,f2,f3⟩⟩:=box1 w (.bool false) (u a1) (u b1) (.pointer p1);rw[← hW0];clear hW0;refine(HP.out _ hb0).mono ?_;rintro e W1 ⟨x,y,rfl,hx,hy,hb⟩
 (have hh:=JI (b:=w.heap.size) hb f0 f1 f2 f3;clear f0 f1 f2 f3;obtain⟨f0,f1,f2,f3⟩:=hh)
 rcases hy.not_one hD0 hD1 with⟨ya,yo,yc,rfl,hyc⟩|⟨ao,yl,yc,rfl,hy1⟩
 ·have HA:=ca (cG hb0 hb);have HX:=ca hx;have HY:=ca hy;obtain⟨xa,xl,xc,rfl,_⟩:=hx.form;have hD:(((D:Nat):Int) == 1)=false:=by rw[jn];omega
  clear hb hb0 hx hy HP hD0 hD1;go_wp2_with fail;refine(HT1.out _ _ HX.out).mono ?_;rintro e W2 ⟨rfl,hb⟩
  (have hh:=JI (b:=w.heap.size) hb f0 f1 f2 f3;clear f0 f1 f2 f3;obtain⟨f0,f1,f2,f3⟩:=hh)
  have hyc2:W2.cell? ⟨ya,yo,none⟩=some (u D):=(hb.cell (p:=⟨ya,yo,none⟩) (kA W1 _ hyc)).trans hyc;have HA2:=ca (cG HA.out hb);have HY2:=ca (HY.out.below hb (cb _));clear hb HX HT1 hyc;go_wp2_with fail;refine(HT2.out _ _ HY2.out).mono ?_;rintro e W3 ⟨rfl,hb⟩;have HA3:=ca (cG HA2.out hb);clear hb HT2;go_wp2_with fail
  go_ret
  refine⟨?_,HA3.out⟩;simp [bapp,cco,ccJ]
 ·have HA:=ca (cG hb0 hb);have HX:=ca hx;have HY:=ca hy;obtain⟨xa,xl,xc,rfl,_⟩:=hx.form;have hyl:(((yl:Nat):Int) == 1)=false:=by rw[jn];omega
  clear hb hb0 hx hy HP hD0 hD1 hy1;go_wp2_with fail;refine(HT1.out _ _ HX.out).mono ?_;rintro e W2 ⟨rfl,hb⟩
  (have hh:=JI (b:=w.heap.size) hb f0 f1 f2 f3;clear f0 f1 f2 f3;obtain⟨f0,f1,f2,f3⟩:=hh)
  have HA2:=ca (cG HA.out hb);have HY2:=ca (HY.out.below hb (cb _));clear hb HX HT1;go_wp2_with fail;refine(HT2.out _ _ HY2.out).mono ?_;rintro e W3 ⟨rfl,hb⟩;have HA3:=ca (cG HA2.out hb);clear hb HT2;go_wp2_with fail
  go_ret
  refine⟨?_,HA3.out⟩;simp [bapp,cco,ccJ]
theorem cgC (v:Value) (N k:Nat) (w:World) (a1 b1:Nat) (p1:Option Addr) (hv:v=.agg #[.bool true,u a1,u b1,.pointer p1])
 (HP:Hid (∀ W,Below w.heap.size w W->Calls Tryz.prog 37 #[v] W (CL W N 1))) (HT1:Hid (∀ x W,cr W x N->Calls Tryz.prog 38 #[x] W (uA W (je N))))
 (HT2:Hid (∀ x W,cr W x 1->Calls Tryz.prog 38 #[x] W (uA W (je 1)))) (hl:(je N).length<=21474836481) (hl2:(je 1).length<=21474836481) :
 Calls Tryz.prog 16 #[v] w (uA w (45::je N)):=by
 subst hv;have l1:¬ 9223372036854775807<1+(je N).length:=by omega
 clear hl hl2;generalize je N=TN at *
 go_enter Tryz.func16,Tryz.ntmps16
 go_wp2_with fail;obtain⟨W0,hW0,hb0,⟨f0,f1,f2,f3⟩⟩:=box1 w (.bool true) (u a1) (u b1) (.pointer p1);rw[← hW0];clear hW0;refine(HP.out _ hb0).mono ?_;rintro e W1 ⟨x,y,rfl,hx,hy,hb⟩
 (have hh:=JI (b:=w.heap.size) hb f0 f1 f2 f3;clear f0 f1 f2 f3;obtain⟨f0,f1,f2,f3⟩:=hh)
 obtain⟨ya,yo,yc,rfl,hyc⟩:=hy.limb (by decide) (by decide);have HA:=ca (cG hb0 hb);have HX:=ca hx;have HY:=ca hy;obtain⟨xa,xl,xc,rfl,_⟩:=hx.form;clear hb hb0 hx hy HP;go_wp2_with fail;refine(HT1.out _ _ HX.out).mono ?_;rintro e W2 ⟨rfl,hb⟩
 (have hh:=JI (b:=w.heap.size) hb f0 f1 f2 f3;clear f0 f1 f2 f3;obtain⟨f0,f1,f2,f3⟩:=hh)
 have hyc2:W2.cell? ⟨ya,yo,none⟩=some (.int .u64 1):=(hb.cell (p:=⟨ya,yo,none⟩) (kA W1 _ hyc)).trans hyc;have HA2:=ca (cG HA.out hb);have HY2:=ca (HY.out.below hb (cb _));clear hb HX HT1 hyc;go_wp2_with fail
 go_ret
 refine⟨?_,HA2.out⟩;simp [bapp,cco,ccJ]
theorem chu (v:Value) (N k:Nat) (D:Nat) (hD0:0<D) (hD1:D≠1) (w:World) (a1 b1:Nat) (p1:Option Addr) (hv:v=.agg #[.bool true,u a1,u b1,.pointer p1])
 (HP:Hid (∀ W,Below w.heap.size w W->Calls Tryz.prog 37 #[v] W (CL W N D))) (HT1:Hid (∀ x W,cr W x N->Calls Tryz.prog 38 #[x] W (uA W (je N))))
 (HT2:Hid (∀ x W,cr W x D->Calls Tryz.prog 38 #[x] W (uA W (je D)))) (hl:(je N).length<=21474836481) (hl2:(je D).length<=21474836481) :
 Calls Tryz.prog 16 #[v] w (uA w (45::(je N++47::je D))):=by
 subst hv;have l1:¬ 9223372036854775807<1+(je N).length:=by omega
 have l2:¬ 9223372036854775807<1+(je N).length+1:=by omega
 have l3:¬ 9223372036854775807<1+(je N).length+1+(je D).length:=by omega
 have l4:¬ 9223372036854775807<(je N).length+1+1:=by omega
 have l5:¬ 9223372036854775807<(je N).length+1+1+(je D).length:=by omega
 clear hl hl2;generalize je N=TN at *;generalize je D=TD at *
 go_enter Tryz.func16,Tryz.ntmps16
 go_wp2_with fail;obtain⟨W0,hW0,hb0,⟨f0,f1,f2,f3⟩⟩:=box1 w (.bool true) (u a1) (u b1) (.pointer p1);rw[← hW0];clear hW0;refine(HP.out _ hb0).mono ?_;rintro e W1 ⟨x,y,rfl,hx,hy,hb⟩
 (have hh:=JI (b:=w.heap.size) hb f0 f1 f2 f3;clear f0 f1 f2 f3;obtain⟨f0,f1,f2,f3⟩:=hh)
 rcases hy.not_one hD0 hD1 with⟨ya,yo,yc,rfl,hyc⟩|⟨ao,yl,yc,rfl,hy1⟩
 ·have HA:=ca (cG hb0 hb);have HX:=ca hx;have HY:=ca hy;obtain⟨xa,xl,xc,rfl,_⟩:=hx.form;have hD:(((D:Nat):Int) == 1)=false:=by rw[jn];omega
  clear hb hb0 hx hy HP hD0 hD1;go_wp2_with fail;refine(HT1.out _ _ HX.out).mono ?_;rintro e W2 ⟨rfl,hb⟩
  (have hh:=JI (b:=w.heap.size) hb f0 f1 f2 f3;clear f0 f1 f2 f3;obtain⟨f0,f1,f2,f3⟩:=hh)
  have hyc2:W2.cell? ⟨ya,yo,none⟩=some (u D):=(hb.cell (p:=⟨ya,yo,none⟩) (kA W1 _ hyc)).trans hyc;have HA2:=ca (cG HA.out hb);have HY2:=ca (HY.out.below hb (cb _));clear hb HX HT1 hyc;go_wp2_with fail;refine(HT2.out _ _ HY2.out).mono ?_;rintro e W3 ⟨rfl,hb⟩;have HA3:=ca (cG HA2.out hb);clear hb HT2;go_wp2_with fail
  go_ret
  refine⟨?_,HA3.out⟩;simp [bapp,cco,ccJ]
 ·have HA:=ca (cG hb0 hb);have HX:=ca hx;have HY:=ca hy;obtain⟨xa,xl,xc,rfl,_⟩:=hx.form;have hyl:(((yl:Nat):Int) == 1)=false:=by rw[jn];omega
  clear hb hb0 hx hy HP hD0 hD1 hy1;go_wp2_with fail;refine(HT1.out _ _ HX.out).mono ?_;rintro e W2 ⟨rfl,hb⟩
  (have hh:=JI (b:=w.heap.size) hb f0 f1 f2 f3;clear f0 f1 f2 f3;obtain⟨f0,f1,f2,f3⟩:=hh)
  have HA2:=ca (cG HA.out hb);have HY2:=ca (HY.out.below hb (cb _));clear hb HX HT1;go_wp2_with fail;refine(HT2.out _ _ HY2.out).mono ?_;rintro e W3 ⟨rfl,hb⟩;have HA3:=ca (cG HA2.out hb);clear hb HT2;go_wp2_with fail
  go_ret
  refine⟨?_,HA3.out⟩;simp [bapp,cco,ccJ]
theorem text_q (v:Value) (r:Rat) (k:Nat) (w:World) (h:IsQ w v r) (z:Siz r k) (hk:(k:Int)<=1073741824) :
 Calls Tryz.prog 16 #[v] w (uA w (ES r)):=by
 have HP:=ca (fun W (hW:Below w.heap.size w W)=>CU v (decide (r.num<0)) r.num.natAbs r.den W (Num.below h hW (cb _)));have HT1:=ca (fun x W (hx:cr W x r.num.natAbs)=>ccz x r.num.natAbs k W hx z.1 hk);have HT2:=ca (fun x W (hx:cr W x r.den)=>ccz x r.den k W hx z.2 hk);have hq:ES r=(if r.num<0 then [45] else [])++je r.num.natAbs++(if r.den=1 then [] else 47::je r.den):=rfl;have hl1:=Zr z.1;have hl2:=Zr z.2;have hl1:(je r.num.natAbs).length<=21474836481:=by omega
 have hl2:(je r.den).length<=21474836481:=by omega
 obtain⟨a1,b1,p1,hv,_⟩:=Num.form h;have hd0:=r.den_pos;by_cases hd:r.den=1
 ·by_cases hn:r.num<0
  ·rw[cq hd,cq hn,JM] at hq;rw[hd] at HP HT2 hl2;rw[hq];exact cgC v _ k w a1 b1 p1 (by rw[hv,uk hn]) HP HT1 HT2 hl1 hl2
  ·rw[cq hd,cf hn,JM,EU] at hq;rw[hd] at HP HT2 hl2;rw[hq];exact cgi v _ k w a1 b1 p1 (by rw[hv,Wx hn]) HP HT1 HT2 hl1 hl2
 ·by_cases hn:r.num<0
  ·rw[cf hd,cq hn,uU] at hq;rw[hq];exact chu v _ k _ hd0 hd w a1 b1 p1 (by rw[hv,uk hn]) HP HT1 HT2 hl1 hl2
  ·rw[cf hd,cf hn,EU] at hq;rw[hq];exact chx v _ k _ hd0 hd w a1 b1 p1 (by rw[hv,Wx hn]) HP HT1 HT2 hl1 hl2
end Go.Proofs.YtcgiaclelnmhbabGreatDoor
