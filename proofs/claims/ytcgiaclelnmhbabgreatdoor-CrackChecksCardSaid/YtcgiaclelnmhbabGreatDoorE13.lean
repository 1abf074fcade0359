/- Part 13. -/
import Derived.Test.YtcgiaclelnmhbabGreatDoorE11
import Derived.Test.YtcgiaclelnmhbabGreatDoorE12
set_option linter.all false

namespace Go.Proofs.YtcgiaclelnmhbabGreatDoor
open Go Go.RowKit Go.Proofs Lim
theorem chO {r l d:Nat}(hr:r<d) (hl:l<B):(r*B+l)/d<B:=by
 refine uM ?_;have:(r+1)*B<=d*B:=cK _ hr;rw[cD] at this;omega
structure yZ (L L':List Nat) (n j d r:Nat):Prop where
 len:L'.length=L.length
 ok:Ok L'
 low:L'.take j=L.take j
 high:L'.drop n=L.drop n
 rest:r<d
 sum:val ((L.take n).drop j)=val ((L'.take n).drop j)*d+r
theorem yZ.start (L:List Nat) (n d:Nat) (h:Ok L) (hd:0<d):yZ L L n n d 0 :=
 ⟨rfl,h,rfl,rfl,hd,by rw[cax (by simp;omega)];simp [val]⟩
theorem Gv (L:List Nat) (n j:Nat) (hj:j<n) (hn:n<=L.length):(L.take n).drop j=L[j]?.getD 0::(L.take n).drop (j+1):=by
 rw[JB (by simp;omega)];congr 1;rw[List.getElem_take,jl (by omega)];rfl
theorem yZ.step {L L':List Nat}{n j d r:Nat}(h:yZ L L' n (j+1) d r) (hj:j<n) (hn:n<=L.length) :
 yZ L (L'.set j (quo2 r (L'[j]?.getD 0) d)) n j d (rem2 r (L'[j]?.getD 0) d):=by
 unfold quo2 rem2;have hl:L'[j]?.getD 0=L[j]?.getD 0:=by
  have:=cw (fun l=>l[j]?) h.low;simp only[kB,cq (show j<j+1 from by omega)] at this;rw[this]
 have hq:=chO (d:=d) h.rest (h.ok.get j);refine⟨by rw[Cz,h.len],h.ok.set _ _ hq,?_,?_,jJ _ (by have:=h.rest;omega),?_⟩
 ·rw[List.take_set,List.set_eq_of_length_le (by simp;omega)];have:=cw (List.take j) h.low;simpa [List.take_take,kQ (show j<=j+1 from by omega)] using this
 ·rw[List.drop_set,cq hj,h.high]
 ·rw[Gv _ _ _ hj hn,Gv _ _ _ hj (by rw[Cz,h.len];exact hn)];have e1:(L'.set j ((r*B+L'[j]?.getD 0)/d))[j]?.getD 0=(r*B+L'[j]?.getD 0)/d:=by
   rw[cbS (by rw[h.len];omega)];rfl
  have e2:((L'.set j ((r*B+L'[j]?.getD 0)/d)).take n).drop (j+1)=(L'.take n).drop (j+1):=by
   rw[List.take_set,List.drop_set,cq (by omega)]
  rw[e1,e2,val,val,h.sum,← hl];have:=kf (r*B+L'[j]?.getD 0) d;generalize L'[j]?.getD 0=l at *;generalize (r*B+l)/d=q at *;generalize (r*B+l)%d=m at *;generalize val (List.drop (j+1) (List.take n L'))=v at *;grind
def cfL (w:World) (b n:Nat) (L:List Nat) (d:Nat) (e:Ending) (w':World):Prop :=
 ∃ r L',e=.returned (u r)/\ju b w w'/\Blk w' b L'/\yZ L L' n 0 d r
theorem CM (b n:Nat) (cap:Nat) (L:List Nat) (d:Nat) (w:World) (hL:Blk w b L) (hn:n<=L.length) (hmax:(n:Int)<=4611686018427387904)
 (hd:0<d) (hdB:d<B) (okL:Ok L):Calls Tryz.prog 94 #[.slice (some ⟨b,0,none⟩) n cap,u d] w (cfL w b n L d):=by
 have HL:=ca hL;have HO:=ca okL;clear hL okL
 go_enter Tryz.func94,Tryz.ntmps94
 go_wp2_with fail
 go_loopw [5,10] (fun r i wr=>∃ k c L',k<=n/\i=.int .i64 (k:Int)/\r=u c/\Hid (yZ L L' n (n-k) d c)/\Hid (Blk wr b L')/\Hid (ju b w wr)) (fun _ i _=>n-(intOf i).toNat)
 case atStart=>exact⟨0,0,L,cQ _,rfl,rfl,yZ.start L n d HO.out hd,HL.out,ju.refl _ _⟩
 case round =>
  obtain⟨k,c,L',hk,rfl,rfl,hD,hB,hO⟩:=hrel;by_cases hlt:k<n
  ·obtain⟨j,hj⟩:∃ j,j+1+k=n:=⟨n-1-k,by omega⟩;have hlen:L'.length=L.length:=hD.out.len;have hc:wr.cell? ⟨b,j,none⟩=some (u (L'[j]?.getD 0)):=hB.out.cell j (by omega);have hfz:wr.frozen? ⟨b,j,none⟩=false:=hB.out.frozen _;have hix:((n:Nat):Int)-1-(k:Int)=(j:Int):=by omega
   have hjn:(j:Int)<(n:Int):=by omega
   have hcd:c<d:=hD.out.rest;have hl:L'[j]?.getD 0<B:=hD.out.ok.get j;have hst:yZ L (L'.set j (quo2 c (L'[j]?.getD 0) d)) n j d (rem2 c (L'[j]?.getD 0) d):=by
    refine yZ.step ?_ (by omega) hn;have:=hD.out;rw[show n-k=j+1 from by omega] at this;exact this
   have HS:=ca hst;have HJ:=ca hj;have HLn:=ca hlen;clear hst hD hj hlen;generalize hlg:L'[j]?.getD 0=l at *;clear hlg;go_wp2_with (go_at_call 112;refine(Zl c l d hcd hl hdB _).mono ?_;rintro e w' ⟨rfl,q,rfl⟩)
   go_roundw
   case rel =>
    refine⟨k+1,_,_,by omega,by go_num,rfl,?_,hB.out.set j _ (by rw[HLn.out];omega),((hO.out.trans ((ju.refl b wr).drewN q)).set j _)⟩;rw[show n-(k+1)=j from by have:=HJ.out;omega];exact HS.out
   case measure=>simp [intOf];omega
  ·obtain rfl:k=n:=by omega
   go_wp2_with fail
   go_ret
   refine⟨c,L',rfl,hO.out,hB.out,?_⟩;have:=hD.out;rw[Nat.sub_self] at this;exact this
def JZ (w:World) (m n:Nat) (e:Ending) (w':World):Prop :=
 ∃ q r,e=.returned (.tuple #[q,r])/\cr w' q (m/n)/\cr w' r (m%n)/\Below w.heap.size w w'
theorem cr.zero (w:World):cr w (.slice none 0 0) 0:=⟨[],Sl.nil w,fun h=>absurd rfl h,rfl⟩
theorem cgz (v1 v2:Value) (m n:Nat) (w:World) (h1:cr w v1 m) (h2:cr w v2 n) (hlt:m<n) :
 Calls Tryz.prog 118 #[v1,v2] w (JZ w m n):=by
 have hc:=uY v1 v2 m n w h1 h2;rw[show cY m n=-1 from cq hlt] at hc;have HC:=ca hc;have H1:=ca h1;clear hc h1 h2;obtain⟨xs,⟨⟨xa,xc,rfl,_⟩,_⟩,_⟩:=H1.out
 go_enter Tryz.func118,Tryz.ntmps118
 go_wp2_with fail;refine HC.out.mono ?_;rintro e w' ⟨rfl,k,rfl⟩;go_wp2_with fail
 go_ret2
 refine⟨.slice none 0 0,.slice xa xs.length xc,rfl,?_,?_,kV (cF _ _)⟩
 ·rw[Wh hlt];exact cr.zero _
 ·rw[kP hlt];exact H1.out.below (B:=w.heap.size) (kV (cF _ _)) (cb _)
theorem cgW (v1 v2:Value) (m n k:Nat) (w:World) (h1:cr w v1 m) (h2:cr w v2 n) (hle:n<=m) (hn:0<n) (hnB:n<B) (hm:m<B^k) (hk:(k:Int)<=1073741824) :
 Calls Tryz.prog 118 #[v1,v2] w (JZ w m n):=by
 have hc:=uY v1 v2 m n w h1 h2;have hcmp:cY m n=0\/cY m n=1:=by
  unfold cY;rw[cf (by omega)];split
  ·exact .inr rfl
  ·exact .inl rfl
 have hcb:(0:Int)<=cY m n:=by rcases hcmp with h|h<;>rw[h]<;>omega
 generalize cY m n=cm at *;clear hcmp;have HC:=ca hc;clear hc;obtain⟨xs,s1,t1,e1⟩:=h1;obtain⟨ys,s2,t2,e2⟩:=h2;have lx:=cr.len t1 e1 hm;have ly:ys.length=1:=by
  have l1:ys.length<=1:=cr.len t2 e2 (by rw[Es];exact hnB);rcases ys with _|⟨y,ys⟩
  ·simp [val] at e2;omega
  ·simp at l1 ⊢;exact l1
 obtain⟨y,rfl⟩:∃ y,ys=[y]:=by
  rcases ys with _|⟨y,_|⟨z,ys⟩⟩
  ·simp at ly
  ·exact⟨y,rfl⟩
  ·simp at ly
 obtain rfl:y=n:=by simpa [val] using e2
 have hx1:0<xs.length:=by
  rcases xs with _|⟨x,xs⟩
  ·simp [val] at e1;omega
  ·simp
 obtain⟨⟨xa,xc,rfl,hc1,hc2,hr1⟩,ok1⟩:=s1;obtain⟨⟨ya,yc,rfl,hd1,hd2,hr2⟩,ok2⟩:=s2;obtain⟨xb,xo,rfl,rowx⟩:=hr1 hx1;obtain⟨yb,yo,rfl,rowy⟩:=hr2 (by simp);have cy:w.cell? ⟨yb,yo,none⟩=some (u y):=rowy 0 (by simp);have hyb:=rowy.lt (by simp);have rowx':∀ j,j<xs.length->w.cell? ((⟨xb,xo,none⟩:Addr).add j)=some (u (xs[j]?.getD 0)):=fun j hj=>by rw[YB];exact rowx j hj
 have HR1:=ca rowx';have HO1:=ca ok1;have HE1:=ca e1;have HY:=ca cy;clear rowx rowx' rowy hr1 hr2 ok1 ok2 e1 e2 t1 t2 hm ly cy;simp only[caN] at *
 go_enter Tryz.func118,Tryz.ntmps118
 go_wp2_with fail;refine HC.out.mono ?_;rintro e w' ⟨rfl,q,rfl⟩;go_wp2_with fail;refine(Ue _ xs xc (w.drewN q) (by omega) HR1.out).mono ?_;rintro e w1 ⟨b,cap,rfl,hb,hB1,hcap1,hcap2,hbel⟩;have cy1:w1.cell? ⟨yb,yo,none⟩=some (u y):=(hbel.cell (p:=⟨yb,yo,none⟩) hyb).trans HY.out;have HB1:=ca hB1;have HBel:=ca hbel;clear hB1 hbel;go_wp2_with fail;refine(CM b xs.length cap xs y w1 HB1.out (cb _) (by omega) hn hnB HO1.out).mono ?_;rintro e w2 ⟨r,L',rfl,hO2,hB2,hD⟩;have hlen:L'.length=xs.length:=hD.len;have hsum:=hD.sum;rw[kr,kr,uO,← hlen,uO,HE1.out] at hsum;have hr:=hD.rest;have hq:val L'=m/y:=by
  rw[hsum,jf,Nat.mul_add_div hn,Wh hr,jz]
 have hr':r=m%y:=by
  rw[hsum,jf,Nat.mul_add_mod,kP hr]
 have hs:=Sl.of_blk hB2 hD.ok 0 xs.length cap (by omega) hcap1 hcap2;rw[kr,← hlen,uO,hlen] at hs;have hb2:Below w.heap.size w w2:=(kV (cF _ _)).trans (HBel.out.trans (hO2.below hb));have HS:=ca hs;have HB2:=ca hb2;have HQ:=ca hq;have HR:=ca hr';have HL:=ca hlen;clear hs hb2 hq hr' hsum hlen hB2 hO2 hD;go_wp2_with fail;refine(uo L' _ _ HS.out (by rw[HL.out];omega)).mono ?_;rintro e w4 ⟨v,rfl,hnat,rfl⟩;rw[HQ.out] at hnat;have HN:=ca hnat;clear hnat;go_wp2_with fail;refine(JT r w2 (by omega)).mono ?_;rintro e w5 ⟨vr,rfl,hnr,hb5⟩;rw[HR.out] at hnr;have HN2:=ca hnr;have HB5:=ca hb5;clear hnr hb5;go_wp2_with fail
 go_ret2
 exact⟨v,vr,rfl,HN.out.below HB5.out (cb _),HN2.out,HB2.out.trans (HB5.out.mono HB2.out.size)⟩
theorem cgX (v1 v2:Value) (m n k:Nat) (w:World) (h1:cr w v1 m) (h2:cr w v2 n) (hle:n<=m) (hnB:B<=n) (hm:m<B^k) (hk:(k:Int)<=1073741824) :
 Calls Tryz.prog 118 #[v1,v2] w (JZ w m n):=by
 have hc:=uY v1 v2 m n w h1 h2;have hcmp:cY m n=0\/cY m n=1:=by
  unfold cY;rw[cf (by omega)];split
  ·exact .inr rfl
  ·exact .inl rfl
 have hcb:(0:Int)<=cY m n:=by rcases hcmp with h|h<;>rw[h]<;>omega
 generalize cY m n=cm at *;clear hcmp;have HC:=ca hc;clear hc;obtain⟨xs,s1,t1,e1⟩:=h1;obtain⟨ys,s2,t2,e2⟩:=h2;have lx:=cr.len t1 e1 hm;have lxy:ys.length<=xs.length:=uE t2 s1.ok (by omega);have ly:2<=ys.length:=by
  rcases jj ys.length 2 with h|h
  ·exfalso;have h3:=jR s2.ok;have h4:B^ys.length<=B^1:=jP jE (by omega);rw[Es] at h4;omega
  ·exact h
 obtain⟨j,hj⟩:∃ j,ys.length=j+1:=⟨ys.length-1,by omega⟩;have htop:0<ys[j]?.getD 0:=by
  have hne:ys≠[]:=by intro h;subst h;simp at ly
  have:=t2 hne;rw[ceD hne] at this;rw[jl (by omega)];simp only[GN];have e:ys.length-1=j:=by omega
  simp only[e] at this;omega
 have htB:=s2.ok.get j;obtain⟨z1,z2,z3⟩:=caL htop htB;have S1:=ca s1;have S2:=ca s2;have HE1:=ca e1;have HE2:=ca e2;have HZ2:=ca z2;have HZ3:=ca z3;obtain⟨⟨xa,xc,rfl,hc1,hc2,hr1⟩,ok1⟩:=s1;obtain⟨⟨ya,yc,rfl,hd1,hd2,hr2⟩,ok2⟩:=s2;obtain⟨yb,yo,rfl,rowy⟩:=hr2 (by omega);have cy:w.cell? ⟨yb,yo+j,none⟩=some (u (ys[j]?.getD 0)):=rowy j (by omega);have HO1:=ca ok1;have HO2:=ca ok2;have hne1:(((ys.length:Nat):Int) == 1)=false:=by rw[jn];omega
 have hlj:((ys.length:Nat):Int)-1=(j:Int):=by omega
 have hjl:(j:Int)<((ys.length:Nat):Int):=by omega
 have HJ:=ca hj;generalize htg:ys[j]?.getD 0=top at *;have HTG:=ca htg;unfold maxLen at hc2 hd2;clear rowy hr1 hr2 ok1 ok2 e1 e2 t1 t2 hm z2 z3 hj htg
 go_enter Tryz.func118,Tryz.ntmps118
 go_wp2_with fail;refine HC.out.mono ?_;rintro e w' ⟨rfl,q,rfl⟩;go_wp2_with fail;refine(Yn top htB _).mono ?_;rintro e w' ⟨rfl,rfl⟩;go_wp2_with fail;refine(UO _ ys (lz top) (w.drewN q) (S2.out.below (kV (cF w.heap.size w)) (cb _)) z1 (by omega)).mono ?_;rintro e w1 ⟨b1,L1,rfl,hb1,hB1,hl1,hok1,hv1,hbel1⟩;go_wp2_with fail;have hsl1:=Sl.of_blk hB1 hok1 0 (ys.length+1) (ys.length+1) (by omega) (cb _) (by unfold maxLen;omega);rw[kr,← hl1,uO,hl1] at hsl1;have hbw1:Below w.heap.size w w1:=(kV (cF _ _)).trans hbel1;have HS1:=ca hsl1;have HBW1:=ca hbw1;have HL1:=ca hl1;have HV1:=ca hv1;clear hsl1 hbw1 hl1 hv1 hbel1 hB1 hok1 hb1;refine(uo L1 _ _ HS1.out (by rw[HL1.out];omega)).mono ?_;rintro e w' ⟨vD,rfl,hD,rfl⟩;rw[HV1.out] at hD;obtain⟨D,sD,tD,eD⟩:=hD;obtain⟨nl1,nl2,nl3⟩:=ciH tD sD.ok eD S2.out.ok j HJ.out (by rw[HTG.out];exact HZ2.out) (by rw[HTG.out];exact HZ3.out);have hDy:D.length=ys.length:=by rw[nl1,HJ.out]
 rw[← nl1] at nl3;obtain⟨⟨da,dc,rfl,hdc1,hdc2,hrD⟩,okD⟩:=sD;obtain⟨db,dof,rfl,rowD⟩:=hrD (by omega);have hdb:=rowD.lt (by omega);have hD2:2<=D.length:=by omega
 have hDmax:(D.length:Int)<=1073741824:=by omega
 unfold maxLen at hdc2;have hDx:D.length<=xs.length:=by omega
 have HDy:=ca hDy;have HeD:=ca eD;have HokD:=ca okD;have Hrow:=ca rowD;have Hn2:=ca nl2;have Hn3:=ca nl3;have Hnl1:=ca nl1;clear hDy eD okD rowD nl2 nl3 nl1 tD hrD;go_wp2_with fail;refine(UO _ xs (lz top) w1 (S1.out.below HBW1.out (cb _)) z1 (by omega)).mono ?_;rintro e w2 ⟨b2,R,rfl,hb2,hB2,hl2,hok2,hv2,hbel2⟩;have HB2:=ca hB2;have HL2:=ca hl2;have HOk2:=ca hok2;have HV2:=ca hv2;have HBel2:=ca hbel2;have HRow2:=ca (Hrow.out.below hbel2 hdb);have hsz2:=hbel2.size;have hb2lt:=hB2.lt;clear hB2 hl2 hok2 hv2 hbel2;obtain⟨lc,hlc⟩:∃ lc,lc+D.length=xs.length+1:=⟨xs.length+1-D.length,by omega⟩;have HLc:=ca hlc;have hlcmax:(lc:Int)<=1073741825:=by omega
 have hlc1:1<=lc:=by omega
 clear hlc;obtain⟨i0,hi,hz0,hz1,hz2⟩:=Ge zZ;go_wp2_with (at_make;refine JN _ rfl _ _ 89 rfl w2.heap.size 42 i0 (.int .u64 0) 1 Tryz.underlying89 hi hz0 hz1 _ _ _ _ lc rfl rfl (by have:=HLc.out;omega) (by have:=HLc.out;omega) ?qb2 ?qb3 ?qb4 ?_)
 case qb2=>rw[hz2];omega
 case qb3=>unfold maxLen;omega
 case qb4=>exact cb _
 intro w3 hown hgrow;obtain⟨hB3,hbel3⟩:=Ca hown hgrow;clear hown hgrow hi hz0 hz1 hz2;have HB3:=ca hB3;have HB23:=ca (HB2.out.below hbel3 hb2lt);have HRow3:=ca (HRow2.out.below hbel3 (by omega));have HBel3:=ca (HBW1.out.trans (HBel2.out.mono HBW1.out.size |>.trans (hbel3.mono (cB HBW1.out.size hsz2))));clear hB3 hbel3;have hwsz:w.heap.size<=w1.heap.size:=HBW1.out.size;have hvp:0<val D:=by
  have:=Hn3.out;have h2:0<B^D.length:=jV jE;omega
 have hbne:b2≠w2.heap.size:=by omega
 have hdne2:db≠b2:=by omega
 have hdne3:db≠w2.heap.size:=by omega
 go_wp2_with fail
 go_loopw [55] (fun i wr=>∃ k R QL,k<=lc/\i=.int .i64 (k:Int)/\Hid (Blk wr b2 R)/\Hid (Blk wr w2.heap.size QL)/\Hid (UV (val xs*2^lz top) (val D) R QL (xs.length+1) lc (lc-k))/\Hid (Row wr db dof D)/\Hid (Below w.heap.size w wr)) (fun i _=>lc-(intOf i).toNat)
 case atStart =>
  exact⟨0,R,_,cQ _,rfl,HB23.out,HB3.out,by rw[Nat.sub_zero];exact UV.start HV2.out HOk2.out HL2.out HO1.out rfl z1 Hn3.out HLc.out,HRow3.out,HBel3.out⟩
 case round =>
  clear HB2 HL2 HOk2 HV2 HB3 HB23 HRow2 HRow3 HBel3 HBel2;obtain⟨k,R,QL,hk,rfl,hBR,hBQ,hLg,hRD,hBW⟩:=hrel;by_cases hlt:k<lc
  ·obtain⟨a,ha⟩:∃ a,a+1+k=lc:=⟨lc-1-k,by omega⟩;have hLg':UV (val xs*2^lz top) (val D) R QL (xs.length+1) lc (a+1):=by
    have:=hLg.out;rw[show lc-k=a+1 from by omega] at this;exact this
   have hanr:a+(D.length+1)<=xs.length+1:=by have:=HLc.out;omega
   have HNext:=ca (caI b2 a (xs.length+1-a) D.length (D.length+1) db dof dc R D wr rfl hD2 rfl hBR.out (by rw[hLg'.lenR];exact hanr) hRD.out hdne2 hLg'.okR HokD.out
    (by rw[Hnl1.out,Nat.add_sub_cancel];exact Hn2.out) (hLg'.window_lt hanr) (by omega))
   have hix:((lc:Nat):Int)-1-(k:Int)=(a:Int):=by omega
   have hac:(a:Int)<(lc:Int):=by omega
   have ha0:(0:Int)<=(a:Int):=by omega
   obtain⟨top2,htop2⟩:∃ top2,top2=a+D.length+1:=⟨_,rfl⟩;have HA:=ca ha;have HLg:=ca hLg';have HAnr:=ca hanr;have Htop2:=ca htop2;clear ha hLg' hLg hanr htop2;have hq1:(a:Int)+((D.length:Nat):Int)+1<=((xs.length:Nat):Int)+1:=by have:=HAnr.out;omega
   have hq2:(a:Int)<=(a:Int)+((D.length:Nat):Int)+1:=by omega
   have hanx:¬ xs.length+1=a:=by have:=HAnr.out;omega
   go_wp2_with fail;rw[show a+D.length+1-a=D.length+1 from by omega];refine HNext.out.mono ?_;rintro e w5 ⟨R',rfl,hO5,hB5,hT5⟩;have hBQ5:Blk w5 w2.heap.size QL:=hBQ.out.only hO5 (by omega);have hfz:w5.frozen? ⟨w2.heap.size,a,none⟩=false:=hBQ5.frozen _;have hcl:w5.cell? ⟨w2.heap.size,a,none⟩=some (u (QL[a]?.getD 0)):=hBQ5.cell a (by rw[HLg.out.lenQ];omega);have hqB:val ((R.drop a).take (D.length+1))/val D<B:=uM (HLg.out.window_lt HAnr.out);have hstep:=HLg.out.step HAnr.out (by have:=HA.out;omega) hvp (jR HokD.out) hT5 hqB;have hBS:=hBQ5.set a (val ((R.drop a).take (D.length+1))/val D) (by rw[HLg.out.lenQ];have:=HA.out;omega);have hR5:Row w5 db dof D:=hO5.row hdne2 hRD.out;have hB5':Blk (w5.setCell ⟨w2.heap.size,a,none⟩ (u (val ((R.drop a).take (D.length+1))/val D))) b2 R':=hB5.only ((ju.refl w2.heap.size w5).set a _) hbne;have hR5':Row (w5.setCell ⟨w2.heap.size,a,none⟩ (u (val ((R.drop a).take (D.length+1))/val D))) db dof D:=((ju.refl w2.heap.size w5).set a _).row hdne3 hR5;have hBW5:Below w.heap.size w (w5.setCell ⟨w2.heap.size,a,none⟩ (u (val ((R.drop a).take (D.length+1))/val D))) :=
    (hBW.out.trans (hO5.below (by omega))).trans (((ju.refl w2.heap.size w5).set a _).below (by omega))
   generalize val ((R.drop a).take (D.length+1))/val D=qd at *;generalize QL[a]?.getD 0=ql at *;have G1:=ca hstep;have G2:=ca hBS;have G3:=ca hB5';have G4:=ca hR5';have G5:=ca hBW5;clear hstep hBS hB5' hR5' hBW5 hBQ5 hR5 hO5 hB5 hT5 hqB;go_wp2_with fail
   go_roundw
   case rel =>
    refine⟨k+1,R',_,by omega,by go_num,G3.out,G2.out,?_,G4.out,G5.out⟩;rw[show lc-(k+1)=a from by have:=HA.out;omega];exact G1.out
   case measure=>simp [intOf];omega
  ·obtain rfl:k=lc:=by omega
   have hL:=hLg.out;rw[Nat.sub_self,HeD.out] at hL;obtain⟨hqv,hrv⟩:=hL.done rfl (jV (by omega)) (by rw[HE2.out];have:=jE;omega);rw[HE1.out,HE2.out] at hqv hrv;have hsQ:=Sl.of_blk hBQ.out hL.okQ 0 k k (by rw[hL.lenQ];omega) (cb _) (by unfold maxLen;omega);have hQl:(QL.drop 0).take k=QL:=by rw[kr,kH (by rw[hL.lenQ];omega)]
   rw[hQl] at hsQ;have hsR:=Sl.of_blk hBR.out hL.okR 0 (xs.length+1) (xs.length+1) (by rw[hL.lenR];omega) (cb _) (by unfold maxLen;omega);have hRl:(R.drop 0).take (xs.length+1)=R:=by rw[kr,kH (by rw[hL.lenR];omega)]
   rw[hRl] at hsR;have hlQ:=hL.lenQ;have hlR:=hL.lenR;have GQ:=ca hsQ;have GR:=ca hsR;have Gq:=ca hqv;have Gr:=ca hrv;have GlQ:=ca hlQ;have GlR:=ca hlR;clear hL hqv hrv hsQ hsR hQl hRl hlQ hlR;go_wp2_with fail;refine(uo QL _ _ GQ.out (by rw[GlQ.out];omega)).mono ?_;rintro e w6 ⟨vq,rfl,hnq,rfl⟩;rw[Gq.out] at hnq;have HNQ:=ca hnq;clear hnq;go_wp2_with fail;have hcd:=Zi (.slice (some ⟨b2,0,none⟩) (xs.length+1) (xs.length+1)) R (lz top) wr GR.out z1 (by rw[GlR.out];omega);rw[GlR.out,Gr.out] at hcd;refine hcd.mono ?_;rintro e w7 ⟨b7,L7,rfl,hb7,hB7,hl7,hok7,hv7,hbel7⟩;have hs7:=Sl.of_blk hB7 hok7 0 (xs.length+1) (xs.length+1) (by omega) (cb _) (by unfold maxLen;omega);rw[kr,← hl7,uO,hl7] at hs7;have G7:=ca hs7;have GV7:=ca hv7;have GL7:=ca hl7;have GB7:=ca hbel7;clear hs7 hv7 hl7 hbel7 hB7 hok7 hcd;go_wp2_with fail;refine(uo L7 _ _ G7.out (by rw[GL7.out];omega)).mono ?_;rintro e w8 ⟨vr,rfl,hnr,rfl⟩;rw[GV7.out] at hnr;have HNR:=ca hnr;clear hnr;go_wp2_with fail
   go_ret2
   exact⟨vq,vr,rfl,HNQ.out.below GB7.out (cb _),HNR.out,hBW.out.trans (GB7.out.mono hBW.out.size)⟩
theorem Yd (v1 v2:Value) (m n k:Nat) (w:World) (h1:cr w v1 m) (h2:cr w v2 n) (hn:0<n) (hm:m<B^k) (hk:(k:Int)<=1073741824) :
 Calls Tryz.prog 118 #[v1,v2] w (JZ w m n):=by
 rcases jj m n with h|h
 ·exact cgz v1 v2 m n w h1 h2 h
 ·rcases jj n B with hB|hB
  ·exact cgW v1 v2 m n k w h1 h2 h hn hB hm hk
  ·exact cgX v1 v2 m n k w h1 h2 h hB hm hk
end Go.Proofs.YtcgiaclelnmhbabGreatDoor
