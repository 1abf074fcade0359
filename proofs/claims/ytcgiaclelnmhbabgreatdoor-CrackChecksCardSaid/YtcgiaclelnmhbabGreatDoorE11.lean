/- Part 11. -/
import Derived.Test.YtcgiaclelnmhbabGreatDoorE10
set_option linter.all false

namespace Go.Proofs.YtcgiaclelnmhbabGreatDoor
open Go Go.RowKit Go.Proofs Lim
def cY (x y:Nat):Int:=if x<y then -1 else if y<x then 1 else 0
theorem KJ (x:Nat) (w:World):Calls Tryz.prog 109 #[u x] w fun e w'=>e=.returned (.bool false)/\w=w':=by
 go_enter Tryz.func109,Tryz.ntmps109
 go_wp2
 go_ret
 exact⟨rfl,rfl⟩
theorem Gk (x y:Nat) (w:World):Calls Tryz.prog 88 #[u x,u y] w fun e w'=>e=.returned (.int .i64 (cY x y))/\w=w':=by
 by_cases h1:x<y
 ·go_enter Tryz.func88,Tryz.ntmps88
  go_wp2_with (go_at_call 109;refine(KJ _ _).mono ?_;rintro e w' ⟨rfl,rfl⟩)
  go_ret
  exact⟨by rw[cY,cq h1];rfl,rfl⟩
 ·by_cases h2:y<x
  ·go_enter Tryz.func88,Tryz.ntmps88
   go_wp2_with (go_at_call 109;refine(KJ _ _).mono ?_;rintro e w' ⟨rfl,rfl⟩)
   go_ret
   exact⟨by rw[cY,cf (by omega),cq h2];rfl,rfl⟩
  ·go_enter Tryz.func88,Tryz.ntmps88
   go_wp2_with (go_at_call 109;refine(KJ _ _).mono ?_;rintro e w' ⟨rfl,rfl⟩)
   go_ret
   exact⟨by rw[cY,cf (by omega),cf (by omega)];rfl,rfl⟩
theorem Zx (l:List Nat) (j:Nat) (h:j<l.length):val l=val (l.take j)+B^j*(l[j]?.getD 0+B*val (l.drop (j+1))):=by
 rw[Ct l j (by omega),JB h,val,jl h];rfl
theorem EL {l m:List Nat}{j:Nat}(ol:Ok l) (hl:j<l.length) (hm:j<m.length) (hd:l.drop (j+1)=m.drop (j+1))
 (hlt:l[j]?.getD 0<m[j]?.getD 0):val l<val m:=by
 rw[Zx l j hl,Zx m j hm,hd];have h1:=jR (ol.take j);rw[ji,kQ (by omega)] at h1;have h2:B^j*(l[j]?.getD 0+B*val (m.drop (j+1))+1)<=B^j*(m[j]?.getD 0+B*val (m.drop (j+1))):=ja _ (by omega);rw[cI _ _ 1,zc] at h2;omega
theorem Jt {l m:List Nat}(ol:Ok l) (tm:YM m) (h:l.length<m.length):val l<val m:=by
 have h1:=jR ol;have h2:=kj tm (by intro e;subst e;simp at h);have h3:B^l.length<=B^(m.length-1):=jP jE (by omega);omega
theorem cho {l m:List Nat}{j:Nat}(hl:j<l.length) (hm:j<m.length) (hd:l.drop (j+1)=m.drop (j+1)) (he:l[j]?.getD 0=m[j]?.getD 0) :
 l.drop j=m.drop j:=by
 rw[JB hl,JB hm,hd];rw[jl hl,jl hm] at he;exact cw (·::m.drop (j+1)) he
def Gives (w:World) (v:Value) (e:Ending) (w':World):Prop:=e=.returned v/\∃ k,w'=w.drewN k
theorem uY (v1 v2:Value) (m n:Nat) (w:World) (h1:cr w v1 m) (h2:cr w v2 n) :
 Calls Tryz.prog 90 #[v1,v2] w (Gives w (.int .i64 (cY m n))):=by
 obtain⟨xs,⟨⟨ao,cap1,rfl,hc1,hc2,hr1⟩,ok1⟩,t1,rfl⟩:=h1;obtain⟨ys,⟨⟨bo,cap2,rfl,hd1,hd2,hr2⟩,ok2⟩,t2,rfl⟩:=h2;unfold maxLen at hc2 hd2;have HR1:=ca hr1;have HR2:=ca hr2;have HO1:=ca ok1;have HO2:=ca ok2;have HT1:=ca t1;have HT2:=ca t2;clear hr1 hr2 ok1 ok2 t1 t2;by_cases hlen:xs.length=ys.length
 ·have hb:(((xs.length:Nat):Int) != ((ys.length:Nat):Int))=false:=by rw[hlen];simp
  have HLen:=ca hlen;clear hlen
  go_enter Tryz.func90,Tryz.ntmps90
  go_wp2_with fail
  go_loopw [19] (fun i wr=>∃ k q,k<=xs.length/\i=.int .i64 (k:Int)/\wr=w.drewN q/\Hid (xs.drop (xs.length-k)=ys.drop (xs.length-k))) (fun i _=>xs.length-(intOf i).toNat)
  case atStart=>exact⟨0,0,cQ _,rfl,rfl,by rw[Nat.sub_zero,List.drop_length,HLen.out,List.drop_length];rfl⟩
  case round =>
   obtain⟨k,q,hk,rfl,rfl,hd⟩:=hrel;by_cases hlt:k<xs.length
   ·obtain⟨b1,o1,rfl,row1⟩:=HR1.out (by omega);obtain⟨b2,o2,rfl,row2⟩:=HR2.out (by have:=HLen.out;omega);obtain⟨j,hj⟩:∃ j,j+1+k=xs.length:=⟨xs.length-1-k,by omega⟩;have hc1:w.cell? ⟨b1,o1+j,none⟩=some (u (xs[j]?.getD 0)):=row1 j (by omega);have hc2:w.cell? ⟨b2,o2+j,none⟩=some (u (ys[j]?.getD 0)):=row2 j (by have:=HLen.out;omega);have hy:(j:Int)<(ys.length:Int):=by have:=HLen.out;omega
    have hx:(j:Int)<(xs.length:Int):=by omega
    have hix:((xs.length:Nat):Int)-1-(k:Int)=(j:Int):=by omega
    have HJ:=ca hj;clear hj;generalize hxg:xs[j]?.getD 0=x at *;generalize hyg:ys[j]?.getD 0=y at *;have HX:=ca hxg;have HY:=ca hyg;clear hxg hyg row1 row2;by_cases hxy:x=y
    ·have hne:(((x:Nat):Int) != ((y:Nat):Int))=false:=by rw[hxy];simp
     have HXY:=ca hxy;clear hxy;go_wp2_with fail
     go_quiet (fail)
     go_wp2_with fail
     go_roundw
     case rel =>
      refine⟨k+1,_,by omega,by go_num,rfl,?_⟩;have hj:=HJ.out;have hlen:=HLen.out;rw[show xs.length-(k+1)=j from by omega];refine cho (by omega) (by omega) ?_ (by rw[HX.out,HY.out,HXY.out]);have:=hd.out;rw[show xs.length-k=j+1 from by omega] at this;exact this
     case measure=>simp [intOf];omega
    ·have hne:(((x:Nat):Int) != ((y:Nat):Int))=true:=by rw[zv];omega
     have HXY:=ca hxy;clear hxy;go_wp2_with fail
     go_quiet (fail)
     go_wp2_with fail
     go_quiet ((go_at_call 88;refine(Gk x y _).mono ?_;rintro e w' ⟨rfl,rfl⟩;exact⟨rfl,_,rfl⟩))
     go_wp2_with fail
     go_ret
     refine⟨?_,_,drew3 _ _ _ _⟩;have hj:=HJ.out;have hlen:=HLen.out;have hdd:=hd.out;rw[show xs.length-k=j+1 from by omega] at hdd;show Ending.returned (.int .i64 (cY x y))=_;rcases Nat.lt_or_gt_of_ne HXY.out with h|h
     ·have:=EL HO1.out (by omega) (by omega) hdd (by rw[HX.out,HY.out];exact h);rw[cY,cq h,cY,cq this]
     ·have:=EL HO2.out (by omega) (by omega) hdd.symm (by rw[HX.out,HY.out];exact h);rw[cY,cf (by omega),cq h,cY,cf (by omega),cq this]
   ·obtain rfl:k=xs.length:=by omega
    go_wp2_with fail
    go_ret
    refine⟨?_,_,rfl⟩;have h0:=hd.out;rw[Nat.sub_self] at h0;have:xs=ys:=by simpa using h0
    subst this;show Ending.returned (.int .i64 0)=_;rw[cY,cf (by omega),cf (by omega)]
 ·have hb:(((xs.length:Nat):Int) != ((ys.length:Nat):Int))=true:=by rw[zv];omega
  go_enter Tryz.func90,Tryz.ntmps90
  go_wp2_with fail;refine(Tryz.cmp_Compare_int _ _ _).mono ?_;rintro e w' ⟨rfl,rfl⟩;go_wp2_with fail
  go_ret
  refine⟨?_,0,rfl⟩;rcases Nat.lt_or_gt_of_ne hlen with h|h
  ·have:=Jt HO1.out HT2.out h;rw[cY,cq this];show Ending.returned (.int .i64 (Lib.compareInt _ _))=_;rw[Lib.compareInt,cq (by omega)]
  ·have:=Jt HO2.out HT1.out h;rw[cY,cf (by omega),cq this];show Ending.returned (.int .i64 (Lib.compareInt _ _))=_;rw[Lib.compareInt,cf (by omega),cq (by omega)]
attribute [local go_sem] Ja KV
theorem top2 (D:List Nat) (j:Nat) (h:D.length=j+2):val D=(D[j+1]?.getD 0*B+D[j]?.getD 0)*B^j+val (D.take j):=by
 have h1:val D=val (D.take (j+1+1)):=by rw[kH (by omega)]
 rw[h1,jg D (j+1) (by omega),jg D j (by omega),js,cD];generalize B^j=P;generalize D[j+1]?.getD 0=a;generalize D[j]?.getD 0=b;grind
theorem top3 (D:List Nat) (j:Nat) (h:D.length=j+3) :
 val D=((D[j+2]?.getD 0*B+D[j+1]?.getD 0)*B+D[j]?.getD 0)*B^j+val (D.take j):=by
 have h1:val D=val (D.take (j+2+1)):=by rw[kH (by omega)]
 rw[h1,jg D (j+2) (by omega),jg D (j+1) (by omega),jg D j (by omega),show B^(j+2)=B^j*B*B from by rw[js,js],show B^(j+1)=B^j*B from js ..];clear h1;generalize B^j=P;generalize D[j+2]?.getD 0=a;generalize D[j+1]?.getD 0=b;generalize D[j]?.getD 0=c;grind
structure JS (u0 u1 u2 v1 v2 q:Nat):Prop where
 hu2:u2<B
 hv2:v2<B
 lo:∃ u' v' W,u'<W/\v'<W/\q*((v1*B+v2)*W+v')<=((u0*B+u1)*B+u2)*W+u'/\((u0*B+u1)*B+u2)*W+u'<(q+1)*((v1*B+v2)*W+v')
theorem JS.of {D W:List Nat}{j:Nat}(hD:D.length=j+2) (hW:W.length=j+3) (okD:Ok D) (okW:Ok W) (hv:0<val D) :
 JS (W[j+2]?.getD 0) (W[j+1]?.getD 0) (W[j]?.getD 0) (D[j+1]?.getD 0) (D[j]?.getD 0) (val W/val D):=by
 refine⟨okW.get j,okD.get j,val (W.take j),val (D.take j),B^j,?_,?_,?_,?_⟩
 ·have:=jR (okW.take j);rwa [ji,kQ (by omega)] at this
 ·have:=jR (okD.take j);rwa [ji,kQ (by omega)] at this
 ·rw[← top2 D j hD,← top3 W j hW];exact Jc _ _
 ·rw[← top2 D j hD,← top3 W j hW,jf];exact Nat.lt_mul_div_succ _ hv
theorem JS.init {u0 u1 u2 v1 v2 q g r:Nat}(h:JS u0 u1 u2 v1 v2 q) (hg:g*v1+r=u0*B+u1) (hr:r<v1):q<=g:=by
 obtain⟨u',v',W,hu,hv,h1,_⟩:=h.lo;exact YZ v1 v2 v' u0 u1 u2 u' W B g r q hv hu h.hu2 hg hr h1
theorem JS.lower {u0 u1 u2 v1 v2 q g r:Nat}(h:JS u0 u1 u2 v1 v2 q) (hg:g*v1+r=u0*B+u1) (hbig:r*B+u2<g*v2):q<g:=by
 obtain⟨u',v',W,hu,hv,h1,_⟩:=h.lo;exact UT v1 v2 v' u0 u1 u2 u' W B g r q hu hg hbig h1
theorem fit_of (v1 v2 T u2 g r Bs:Nat) (hg:g*v1+r=T) (hfit:g*v2<=r*Bs+u2):g*(v1*Bs+v2)<=T*Bs+u2:=by
 rw[← hg,cI,cD,jk];omega
theorem JS.done {u0 u1 u2 v1 v2 q g r:Nat}(h:JS u0 u1 u2 v1 v2 q) (hg:g*v1+r=u0*B+u1) (hgB:g<B) (hv1:0<v1) (hfit:g*v2<=r*B+u2):g<=q+1:=by
 obtain⟨u',v',W,hu,hv,_,h2⟩:=h.lo;exact cdE v1 v2 v' u0 u1 u2 u' W B g q hv (uK hgB) hv1 (fit_of v1 v2 _ u2 g r B hg hfit) h2
theorem chW (g v2 r u2 Bs:Nat) (hg:g<Bs) (hv2:v2<Bs) (hr:Bs<=r):g*v2<=r*Bs+u2:=by
 have h1:g*v2<=Bs*Bs:=uN (by omega) (by omega);have h2:Bs*Bs<=r*Bs:=cK _ hr;omega
theorem JS.over {u0 u1 u2 v1 v2 q g r:Nat}(h:JS u0 u1 u2 v1 v2 q) (hg:g*v1+r=u0*B+u1) (hgB:g<B) (hv1:0<v1) (hr:B<=r):g<=q+1 :=
 h.done hg hgB hv1 (chW g v2 r u2 B hgB h.hv2 hr)
theorem JS.full {u0 u1 u2 v1 v2 q:Nat}(h:JS u0 u1 u2 v1 v2 q) (hu0:v1<=u0) (hv1:B<=2*v1):B-1<=q+1:=by
 obtain⟨u',v',W,hu,hv,_,h2⟩:=h.lo;exact cez v1 v2 v' u0 u1 u2 u' W B q hv jE h.hv2 hu0 hv1 h2
def Zn (w:World) (q:Nat) (e:Ending) (w':World):Prop:=∃ g k,e=.returned (u g)/\q<=g/\g<=q+1/\g<B/\w'=w.drewN k
theorem drewA (w:World) (a b c:Nat):(w.drewN (a+b)).drewN c=w.drewN (a+(b+c)):=by rw[caa,Ck]
theorem next_eq {g v1 r T:Nat}(h:g*v1+r=T) (hg:1<=g):(g-1)*v1+(r+v1)=T:=by
 rw[← h];have:g*v1=(g-1)*v1+v1:=by rw[← GP];congr 1;omega
 omega
theorem Zj (rb ro rc n n1 j N:Nat) (db dof:Nat) (dc:Nat) (u0 u1 u2 v1 v2 q:Nat) (w:World) (e1:n1+1=n) (e2:j+2=n) (e3:N=n+1)
 (c0:w.cell? ⟨rb,ro+n,none⟩=some (u u0)) (c1:w.cell? ⟨rb,ro+n1,none⟩=some (u u1)) (c2:w.cell? ⟨rb,ro+j,none⟩=some (u u2))
 (d1:w.cell? ⟨db,dof+n1,none⟩=some (u v1)) (d2:w.cell? ⟨db,dof+j,none⟩=some (u v2))
 (hT:JS u0 u1 u2 v1 v2 q) (h1:u1<B) (hv1B:v1<B) (hnorm:B<=2*v1) (hq:q<B) (hj:(n:Int)<=1073741827) :
 Calls Tryz.prog 132 #[.slice (some ⟨rb,ro,none⟩) N rc,.slice (some ⟨db,dof,none⟩) n dc] w (Zn w q):=by
 have HT:=ca hT;have hu2:=hT.hu2;have hv2:=hT.hv2;clear hT;have hj0:(0:Int)<=(j:Int):=by omega
 have hj1:(0:Int)<=(n1:Int):=by omega
 have hj2:(0:Int)<=(n:Int):=by omega
 have s1:((n:Nat):Int)-1=((n1:Nat):Int):=by omega
 have s2:((n:Nat):Int)-2=((j:Nat):Int):=by omega
 have b1:(n:Int)<(N:Int):=by omega
 have b2:(n1:Int)<(N:Int):=by omega
 have b3:(j:Int)<(N:Int):=by omega
 have b4:(n1:Int)<(n:Int):=by omega
 have b5:(j:Int)<(n:Int):=by omega
 clear e1 e2 e3;by_cases hfull:v1<=u0
 ·have hge:(v1:Int)<=(u0:Int):=by omega
  go_enter Tryz.func132,Tryz.ntmps132
  go_wp2_with fail
  go_quiet (fail)
  go_wp2_with fail
  go_ret
  refine⟨B-1,_,?_,?_,HT.out.full hfull hnorm,by have:=jE;omega,rfl⟩
  ·show Ending.returned (.int .u64 18446744073709551615)=_;congr 2
  ·omega
 ·go_enter Tryz.func132,Tryz.ntmps132
  go_wp2_with fail
  go_quiet (fail)
  go_wp2_with fail
  go_quiet ((go_at_call 112;go_must (refine(Zl u0 u1 v1 (by omega) h1 hv1B _).mono ?_);rintro e w' ⟨rfl,m,rfl⟩;exact⟨rfl,_,drewA _ _ _ _⟩))
  have hg0:quo2 u0 u1 v1*v1+rem2 u0 u1 v1=u0*B+u1:=by unfold quo2 rem2;rw[jf];exact kf _ _
  have hr0:rem2 u0 u1 v1<v1:=jJ _ (by omega);have hq0:=HT.out.init hg0 hr0;have hgB0:quo2 u0 u1 v1<B:=by
   refine uM ?_;have:(u0+1)*B<=v1*B:=cK _ (by omega);rw[cD] at this;omega
  go_wp2_with fail
  go_loopw [8,9] (fun s8 s9 wr=>∃ g r k:Nat,s8=u g/\s9=u r/\wr=w.drewN k/\Hid (g*v1+r=u0*B+u1/\q<=g/\g<B/\r<B)) (fun s8 _ _=>(intOf s8).toNat)
  case atStart=>exact⟨_,_,_,rfl,rfl,caa _ _ _,hg0,hq0,hgB0,Je hr0 hv1B⟩
  case round =>
   clear hg0 hr0 hq0 hgB0;obtain⟨g,r,k,rfl,rfl,rfl,hG⟩:=hrel;have hgB:g<B:=hG.out.2.2.1;have hP:=ca (Wv g v2);have hplo:jo g v2<B:=Jd g v2;generalize hhi:kh g v2=hi at *;generalize hlo:jo g v2=lo at *;have hcall:∀ w,Calls Tryz.prog 87 #[u g,u v2] w fun e w'=>e=.returned (.tuple #[u hi,u lo])/\w=w':=fun w=>by
    rw[← hhi,← hlo];exact cac g v2 hgB hv2 w
   have HC:=ca hcall;clear hcall hhi hlo;by_cases hfit:hi<r\/(hi=r/\lo<=u2)
   ·have hdone:g<=q+1:=by
     refine HT.out.done hG.out.1 hgB (by omega) ?_;rw[← hP.out,jf B hi];rcases hfit with h|⟨h,h'⟩
     ·have:(hi+1)*B<=r*B:=cK _ h;rw[cD] at this;omega
     ·subst h;omega
    have HD:=ca hdone;clear hdone;by_cases hlt:hi<r
    ·clear hfit;go_wp2_with (go_at_call 87;refine(HC.out _).mono ?_;rintro e w' ⟨rfl,rfl⟩)
     go_ret
     exact⟨g,k,rfl,hG.out.2.1,HD.out,hgB,rfl⟩
    ·obtain⟨rfl,hle⟩:hi=r/\lo<=u2:=hfit.resolve_left hlt;have hb:(((hi:Nat):Int) == ((hi:Nat):Int))=true:=by simp
     clear hfit;go_wp2_with (go_at_call 87;refine(HC.out _).mono ?_;rintro e w' ⟨rfl,rfl⟩)
     go_ret
     exact⟨g,k,rfl,hG.out.2.1,HD.out,hgB,rfl⟩
   ·have hbig:r*B+u2<g*v2:=by
     rw[← hP.out,jf B hi];rcases Kc hi r with h|h|h
     ·exact absurd (.inl h) hfit
     ·subst h;have:¬ lo<=u2:=fun h'=>hfit (.inr ⟨rfl,h'⟩);omega
     ·have:(r+1)*B<=hi*B:=cK _ h;rw[cD] at this;omega
    have hql:=HT.out.lower hG.out.1 hbig;have hg1:(1:Int)<=(g:Int):=by omega
    have hnx:=ca (next_eq hG.out.1 (show 1<=g by omega));have hsum:=ca (KR r v1);have hn1:¬ hi<r:=fun h=>hfit (.inl h);have hslo:=GG r v1;obtain⟨p,hp⟩:∃ p,p=g-1:=⟨_,rfl⟩;have hwr:IntKind.u64.wrap ((g:Int)-1)=(p:Int):=by
     rw[hp,show ((g:Int)-1)=((g-1:Nat):Int) from by omega,jX (by omega)]
    rw[← hp] at hnx;have hqp:q<=p:=by omega
    have hpB:p<B:=by omega
    have HP2:=ca hp;clear hbig hql hp;by_cases hov:kS r v1=0
    ·have hob:(((kS r v1:Nat):Int) != 0)=false:=by rw[hov];rfl
     have HOV:=ca hov;clear hov;by_cases heq:hi=r
     ·have hb:(((hi:Nat):Int) == ((r:Nat):Int))=true:=by rw[heq];simp
      have hle:¬ lo<=u2:=fun h'=>hfit (.inr ⟨heq,h'⟩);clear hfit heq;go_wp2_with (go_at_call 87;refine(HC.out _).mono ?_;rintro e w' ⟨rfl,rfl⟩)
      go_roundw
      case rel=>exact⟨p,_,k,rfl,rfl,rfl,by have h1:=hnx.out;have h2:=hsum.out;have h3:=HOV.out;rw[h3,Cf,jz] at h2;rw[h2];exact h1,hqp,hpB,hslo⟩
      case measure=>simp [intOf];have:=HP2.out;omega
     ·have hb:(((hi:Nat):Int) == ((r:Nat):Int))=false:=by rw[jn];omega
      clear hfit;go_wp2_with (go_at_call 87;refine(HC.out _).mono ?_;rintro e w' ⟨rfl,rfl⟩)
      go_roundw
      case rel=>exact⟨p,_,k,rfl,rfl,rfl,by have h1:=hnx.out;have h2:=hsum.out;have h3:=HOV.out;rw[h3,Cf,jz] at h2;rw[h2];exact h1,hqp,hpB,hslo⟩
      case measure=>simp [intOf];have:=HP2.out;omega
    ·have hob:(((kS r v1:Nat):Int) != 0)=true:=by rw[zv];omega
     have hdone:p<=q+1:=by
      refine HT.out.over hnx.out hpB (by omega) ?_;have h2:=hsum.out;have h4:B*1<=B*kS r v1:=ja _ (by omega);omega
     have HD:=ca hdone;clear hov hdone;by_cases heq:hi=r
     ·have hb:(((hi:Nat):Int) == ((r:Nat):Int))=true:=by rw[heq];simp
      have hle:¬ lo<=u2:=fun h'=>hfit (.inr ⟨heq,h'⟩);clear hfit heq;go_wp2_with (go_at_call 87;refine(HC.out _).mono ?_;rintro e w' ⟨rfl,rfl⟩)
      go_ret
      exact⟨p,k,rfl,hqp,HD.out,hpB,rfl⟩
     ·have hb:(((hi:Nat):Int) == ((r:Nat):Int))=false:=by rw[jn];omega
      clear hfit;go_wp2_with (go_at_call 87;refine(HC.out _).mono ?_;rintro e w' ⟨rfl,rfl⟩)
      go_ret
      exact⟨p,k,rfl,hqp,HD.out,hpB,rfl⟩
theorem lead2 {xs:List Nat}{j s:Nat}(hl:xs.length=j+2) (ok:Ok xs) (hs:s<=64) :
 ∃ r,r<B^j*2^(64-s)/\val xs=(xs[j+1]?.getD 0*2^s+xs[j]?.getD 0/2^(64-s))*(B^j*2^(64-s))+r:=by
 have e1:2^(64-s)*2^s=B:=by rw[← jW,Uo];congr 1;omega
 have hlow:=jR (ok.take j);rw[ji,kQ (by omega)] at hlow;have hp:0<2^(64-s):=jV (by omega);have hd:=kf (xs[j]?.getD 0) (2^(64-s));have hm:=jJ (xs[j]?.getD 0) hp;rw[top2 xs j hl];refine⟨B^j*(xs[j]?.getD 0%2^(64-s))+val (xs.take j),?_,?_⟩
 ·have h1:B^j*(xs[j]?.getD 0%2^(64-s)+1)<=B^j*2^(64-s):=ja _ hm;rw[cI,zc] at h1;omega
 ·generalize xs[j+1]?.getD 0=a at *;generalize xs[j]?.getD 0/2^(64-s)=q at *;generalize xs[j]?.getD 0%2^(64-s)=r at *;generalize xs[j]?.getD 0=b at *;generalize val (xs.take j)=v at *;generalize B^j=P at *;generalize 2^(64-s)=p at *;generalize 2^s=t at *;rw[← hd,← e1];grind
theorem lead1 {ys:List Nat}{j s:Nat}(hl:ys.length=j+1) (ok:Ok ys) :
 ∃ r,r<B^j*2^(64-s)/\val ys=ys[j]?.getD 0/2^(64-s)*(B^j*2^(64-s))+r:=by
 have hlow:=jR (ok.take j);rw[ji,kQ (by omega)] at hlow;have hp:0<2^(64-s):=jV (by omega);have hd:=kf (ys[j]?.getD 0) (2^(64-s));have hm:=jJ (ys[j]?.getD 0) hp;have ev:val ys=val (ys.take j)+B^j*ys[j]?.getD 0:=by
  have:=jg ys j (by omega)
  rwa [kH (by omega)] at this
 rw[ev];refine⟨B^j*(ys[j]?.getD 0%2^(64-s))+val (ys.take j),?_,?_⟩
 ·have h1:B^j*(ys[j]?.getD 0%2^(64-s)+1)<=B^j*2^(64-s):=ja _ hm;rw[cI,zc] at h1;omega
 ·generalize ys[j]?.getD 0/2^(64-s)=q at *;generalize ys[j]?.getD 0%2^(64-s)=r at *;generalize ys[j]?.getD 0=b at *;generalize val (ys.take j)=v at *;generalize B^j=P at *;generalize 2^(64-s)=p at *;rw[← hd];grind
theorem Zp {t s c:Nat}(hs:s<=64) (hc:c<2^s) (h:t*2^s<B):t*2^s+c<B:=by
 have e1:2^(64-s)*2^s=B:=by rw[← jW,Uo];congr 1;omega
 have ht:t<2^(64-s):=by rw[← e1] at h;exact Eo h
 have h3:(t+1)*2^s<=2^(64-s)*2^s:=cK _ ht;rw[e1,cD,jI] at h3;omega
structure Leads (x y a b:Nat):Prop where
 la:a<B
 le:b<=a
 split:∃ K x' y',x'<K/\y'<K/\x=a*K+x'/\y=b*K+y'
def ciz (w:World) (x y:Nat) (e:Ending) (w':World):Prop:=∃ a b k,e=.returned (.tuple #[u a,u b])/\Leads x y a b/\w'=w.drewN k
theorem caC {a b K x y x' y':Nat}(hx:x=a*K+x') (hy:y=b*K+y') (hx':x'<K) (h:y<=x):b<=a:=by
 rcases jj a b with hlt|hge
 ·exfalso;have:(a+1)*K<=b*K:=cK _ hlt;rw[cD,jI] at this;omega
 ·exact hge
theorem cct (v1 v2:Value) (m n:Nat) (w:World) (h1:cr w v1 m) (h2:cr w v2 n) (hle:n<=m) (hmB:B<=m) :
 Calls Tryz.prog 125 #[v1,v2] w (ciz w m n):=by
 obtain⟨xs,s1,t1,rfl⟩:=h1;obtain⟨ys,s2,t2,rfl⟩:=h2;have lxy:ys.length<=xs.length:=uE t2 s1.ok (by omega);have lx:2<=xs.length:=by
  rcases jj xs.length 2 with h|h
  ·exfalso;have h3:=jR s1.ok;have h4:B^xs.length<=B^1:=jP jE (by omega);rw[Es] at h4;omega
  ·exact h
 obtain⟨j,hj⟩:∃ j,xs.length=j+2:=⟨xs.length-2,by omega⟩;obtain⟨⟨xa,xc,rfl,hc1,hc2,hr1⟩,ok1⟩:=s1;obtain⟨⟨ya,yc,rfl,hd1,hd2,hr2⟩,ok2⟩:=s2;obtain⟨xb,xo,rfl,rowx⟩:=hr1 (by omega);have htop:0<xs[j+1]?.getD 0:=by
  have hne:xs≠[]:=by intro h;subst h;simp at lx
  have:=t1 hne;rw[ceD hne] at this;rw[jl (by omega)];simp only[GN];have e:xs.length-1=j+1:=by omega
  simp only[e] at this;omega
 have htB:=ok1.get (j+1);obtain⟨z1,z2,z3⟩:=caL htop htB;have cx1:w.cell? ⟨xb,xo+(j+1),none⟩=some (u (xs[j+1]?.getD 0)):=rowx (j+1) (by omega);have cx2:w.cell? ⟨xb,xo+j,none⟩=some (u (xs[j]?.getD 0)):=rowx j (by omega);obtain⟨rx,hrx,exv⟩:=lead2 (s:=lz (xs[j+1]?.getD 0)) hj ok1 (by omega);have hx2:=ok1.get j;have hsh:=cbx hx2 (s:=lz (xs[j+1]?.getD 0)) (by omega);have hfit:xs[j+1]?.getD 0*2^lz (xs[j+1]?.getD 0)+xs[j]?.getD 0/2^(64-lz (xs[j+1]?.getD 0))<B:=by
  have h:=Zp (by omega) hsh z2;exact h
 unfold maxLen at hc2 hd2;have e1:IntKind.u64.wrap ((xs[j+1]?.getD 0:Int)*2^lz (xs[j+1]?.getD 0))=((xs[j+1]?.getD 0*2^lz (xs[j+1]?.getD 0):Nat):Int):=by rw[zi,kP z2]
 have e3:=yU (xs[j]?.getD 0) (64-lz (xs[j+1]?.getD 0));have e2:=ceP hsh hfit;have hytop:ys.length=xs.length->ys[j+1]?.getD 0<=xs[j+1]?.getD 0:=by
  intro hyl;have ex:=jg xs (j+1) (by omega);rw[kH (by omega),GS,jf] at ex;have ey:=jg ys (j+1) (by omega);rw[kH (by omega),GS,jf] at ey;have hlow:=jR (ok1.take (j+1));rw[ji,kQ (by omega)] at hlow;have hlow2:=jR (ok2.take (j+1));exact caC ex ey hlow (by omega)
 obtain⟨j1,hj1⟩:∃ j1,j1=j+1:=⟨_,rfl⟩;rw[← hj1] at e1 e2 e3 hytop cx1 z1 z2 hsh exv hrx hfit htB;generalize htg:xs[j1]?.getD 0=top at *;generalize hsg:lz top=s at *;generalize xs[j]?.getD 0=x2 at *;generalize x2/2^(64-s)=h at *;generalize htp:top*2^s=tp at *;obtain⟨A,hA⟩:∃ A,A=tp+h:=⟨_,rfl⟩;rw[← hA] at e2 exv hfit;have HEX:=ca exv;have HRX:=ca hrx;have HFit:=ca hfit;have HTP:=ca htp;have HA:=ca hA;have HSG:=ca hsg;have HYT:=ca hytop;have HR2:=ca hr2;have HO2:=ca ok2;have HE1:=ca e1;have HE2:=ca e2;have i1:((xs.length:Nat):Int)-1=(j1:Int):=by omega
 have i2:((xs.length:Nat):Int)-2=(j:Int):=by omega
 have i3:(j1:Int)<((xs.length:Nat):Int):=by omega
 have i4:(j:Int)<((xs.length:Nat):Int):=by omega
 have i5:(0:Int)<=(j:Int):=by omega
 have i6:(0:Int)<=(j1:Int):=by omega
 have i7:(0:Int)<=(s:Int):=by omega
 have i8:(s:Int)<=63:=by omega
 have HJ:=ca hj;have HJ1:=ca hj1;clear exv hrx hfit htp hA hsg hytop hr1 hr2 ok1 ok2 t1 t2 rowx hj hj1 z2 z3 hsh hx2 htop htg;clear HE1 HE2;have HLE:=ca hle;clear hle hmB lx;by_cases hl1:ys.length=xs.length
 ·have b1:(((ys.length:Nat):Int) == ((xs.length:Nat):Int))=true:=by rw[hl1];simp
  have HL1:=ca hl1;clear hl1;obtain⟨yb,yo,rfl,rowy⟩:=HR2.out (by have:=HL1.out;omega);have cy1:w.cell? ⟨yb,yo+j1,none⟩=some (u (ys[j1]?.getD 0)):=rowy j1 (by have:=HL1.out;omega);have cy2:w.cell? ⟨yb,yo+j,none⟩=some (u (ys[j]?.getD 0)):=rowy j (by have:=HL1.out;omega);have k3:(j1:Int)<((ys.length:Nat):Int):=by have:=HL1.out;omega
  have k4:(j:Int)<((ys.length:Nat):Int):=by have:=HL1.out;omega
  obtain⟨ry,hry,eyv⟩:=lead2 (xs:=ys) (j:=j) (s:=s) (by have:=HL1.out;have:=HJ.out;omega) HO2.out (by omega);rw[← HJ1.out] at eyv;have hyt:ys[j1]?.getD 0*2^s<B:=by
   have h1:ys[j1]?.getD 0*2^s<=top*2^s:=cK _ (HYT.out HL1.out);have:=HTP.out;have:=HFit.out;have:=HA.out;omega
  have hysh:=cbx (HO2.out.get j) (s:=s) (by omega);have hyfit:=Zp (by omega) hysh hyt;have f1:IntKind.u64.wrap ((ys[j1]?.getD 0:Int)*2^s)=((ys[j1]?.getD 0*2^s:Nat):Int):=by rw[zi,kP hyt]
  have f3:=yU (ys[j]?.getD 0) (64-s);have f2:=ceP hysh hyfit;generalize ys[j]?.getD 0=y2 at *;generalize ys[j1]?.getD 0=y1 at *;generalize y2/2^(64-s)=yh at *;generalize y1*2^s=yp at *;obtain⟨C,hC⟩:∃ C,C=yp+yh:=⟨_,rfl⟩;rw[← hC] at f2 eyv;have HEY:=ca eyv;have HRY:=ca hry;clear eyv hry hyt hysh hyfit hC rowy
  go_enter Tryz.func125,Tryz.ntmps125
  go_wp2_with (go_at_call 123;refine(Yn top htB _).mono ?_;rintro e w' ⟨rfl,rfl⟩;rw[HSG.out])
  go_quiet (fail)
  go_wp2_with fail
  go_quiet (fail)
  go_wp2_with fail
  go_ret2
  exact⟨A,C,_,rfl,⟨HFit.out,caC HEX.out HEY.out HRX.out HLE.out,B^j*2^(64-s),_,_,HRX.out,HRY.out,HEX.out,HEY.out⟩,caa _ _ _⟩
 ·have b1:(((ys.length:Nat):Int) == ((xs.length:Nat):Int))=false:=by rw[jn];omega
  by_cases hl2:ys.length=j1
  ·have b2:(((ys.length:Nat):Int) == ((j1:Nat):Int))=true:=by rw[hl2];simp
   have HL2:=ca hl2;clear hl1 hl2;obtain⟨yb,yo,rfl,rowy⟩:=HR2.out (by have:=HL2.out;have:=HJ1.out;omega);have cy2:w.cell? ⟨yb,yo+j,none⟩=some (u (ys[j]?.getD 0)):=rowy j (by have:=HL2.out;have:=HJ1.out;omega);have k4:(j:Int)<((ys.length:Nat):Int):=by have:=HL2.out;have:=HJ1.out;omega
   obtain⟨ry,hry,eyv⟩:=lead1 (ys:=ys) (j:=j) (s:=s) (by have:=HL2.out;have:=HJ1.out;omega) HO2.out;have f3:=yU (ys[j]?.getD 0) (64-s);generalize ys[j]?.getD 0=y2 at *;generalize y2/2^(64-s)=yh at *;have HEY:=ca eyv;have HRY:=ca hry;clear eyv hry rowy
   go_enter Tryz.func125,Tryz.ntmps125
   go_wp2_with (go_at_call 123;refine(Yn top htB _).mono ?_;rintro e w' ⟨rfl,rfl⟩;rw[HSG.out])
   go_quiet (fail)
   go_wp2_with fail
   go_quiet (fail)
   go_wp2_with fail
   go_ret2
   exact⟨A,yh,_,rfl,⟨HFit.out,caC HEX.out HEY.out HRX.out HLE.out,B^j*2^(64-s),_,_,HRX.out,HRY.out,HEX.out,HEY.out⟩,caa _ _ _⟩
  ·have b2:(((ys.length:Nat):Int) == ((j1:Nat):Int))=false:=by rw[jn];omega
   have hlj:ys.length<=j:=by have:=HJ1.out;have:=HJ.out;omega
   have hvy:val ys<B^j*2^(64-s):=by
    have h1:=jR HO2.out;have h2:B^ys.length<=B^j:=jP jE hlj;have h3:B^j*1<=B^j*2^(64-s):=ja _ (jV (by omega));omega
   have HVY:=ca hvy;clear hl1 hl2 hvy hlj
   go_enter Tryz.func125,Tryz.ntmps125
   go_wp2_with (go_at_call 123;refine(Yn top htB _).mono ?_;rintro e w' ⟨rfl,rfl⟩;rw[HSG.out])
   go_quiet (fail)
   go_wp2_with fail
   go_ret2
   exact⟨A,0,_,rfl,⟨HFit.out,cQ _,B^j*2^(64-s),_,val ys,HRX.out,HVY.out,HEX.out,by rw[Cg,jb]⟩,rfl⟩
theorem yP (L:List Nat) (so n:Nat) (h:so+n<=L.length) :
 val L=val (L.take so)+B^so*val ((L.drop so).take n)+B^(so+n)*val (L.drop (so+n)):=by
 rw[Ct L so (by omega),Ct (L.drop so) n (by rw[kL];omega),uF,jW,cI,jk];omega
theorem window_lt {L:List Nat}(ok:Ok L) (so n:Nat) (h:so+n<=L.length):val ((L.drop so).take n)<B^n:=by
 have:=jR ((ok.drop so).take n)
 rwa [ji,kL,kQ (by omega)] at this
theorem win_eq (a P Q W1 W2 x c b:Nat) (hP:0<P) (h:a+P*W1+P*Q*b+P*x=a+P*W2+P*Q*b+P*Q*c):W1+x=W2+Q*c:=by
 have:P*(W1+x)=P*(W2+Q*c):=by rw[cI,cI,← jk];omega
 exact Nat.eq_of_mul_eq_mul_left hP this
theorem yx.window {L L':List Nat}{so n x c:Nat}(h:yx L L' so n x c) (hn:so+n<=L.length) :
 val ((L'.drop so).take n)+x=val ((L.drop so).take n)+B^n*c:=by
 have h1:=h.sum;rw[yP L so n hn,yP L' so n (by rw[h.len];exact hn),h.low,h.high,jW] at h1;exact win_eq _ _ _ _ _ _ _ _ (jV jE) h1
theorem zd.window {L L':List Nat}{so n x c:Nat}(h:zd L L' so n x c) (hn:so+n<=L.length) :
 val ((L.drop so).take n)+x=val ((L'.drop so).take n)+B^n*c:=by
 have h1:=h.sum;rw[yP L so n hn,yP L' so n (by rw[h.len];exact hn),h.low,h.high,jW] at h1;exact win_eq _ _ _ _ _ _ _ _ (jV jE) h1.symm
theorem back_eq (P U V W1 W2 c c2 g q:Nat) (h1:W1+g*V=U+P*c) (h2:W1+V=W2+P*c2) (hg:g=q+1) (hq:q*V<=U) (hr:U-q*V<P) (hW:W2<P) :
 c2=c/\W2=U-q*V:=by
 subst hg;rw[cD,jI] at h1;have h3:W2+P*c2=(U-q*V)+P*c:=by omega
 have:=JQ h3 hW hr;exact⟨this.2,this.1⟩
theorem yx.back {R R1 R2:List Nat}{ro N v g q c c2:Nat}(h:yx R R1 ro N (g*v) c) (h':zd R1 R2 ro N v c2) (hn:ro+N<=R.length) (hg:g=q+1)
 (hq:q*v<=val ((R.drop ro).take N)) (hr:val ((R.drop ro).take N)-q*v<B^N):yx R R2 ro N (q*v) 0:=by
 have h1:=h.window hn;have h2:=h'.window (by rw[h.len];exact hn);have h3:=window_lt h'.ok ro N (by rw[h'.len,h.len];exact hn);obtain⟨e1,_⟩:=back_eq _ _ _ _ _ _ _ _ _ h1 h2 hg hq hr h3;subst e1;refine⟨by rw[h'.len,h.len],h'.ok,by rw[h'.low,h.low],by rw[h'.high,h.high],?_⟩;have s1:=h.sum;have s2:=h'.sum;rw[hg,cD,jI,cI] at s1;rw[Cf,jz];omega
def chE (w:World) (rb ro N:Nat) (R:List Nat) (q v:Nat) (e:Ending) (w':World):Prop :=
 ∃ R',e=.returned (u q)/\ju rb w w'/\Blk w' rb R'/\yx R R' ro N (q*v) 0
theorem JL (R:List Nat) (ro N i:Nat) (h:i<N):((R.drop ro).take N)[i]?.getD 0=R[ro+i]?.getD 0:=by
 rw[kB,cq h,kJ]
theorem caI (rb ro rc n N:Nat) (db dof:Nat) (dc:Nat) (R D:List Nat) (w:World) (hN:N=n+1) (h2:2<=n) (hDl:D.length=n)
 (hR:Blk w rb R) (hn:ro+N<=R.length) (hD:Row w db dof D) (hne:db≠rb) (okR:Ok R) (okD:Ok D) (hnorm:B<=2*D[n-1]?.getD 0)
 (hU:val ((R.drop ro).take N)<val D*B) (hmax:(n:Int)<=1073741827) :
 Calls Tryz.prog 128 #[.slice (some ⟨rb,ro,none⟩) N rc,.slice (some ⟨db,dof,none⟩) n dc] w (chE w rb ro N R (val ((R.drop ro).take N)/val D) (val D)):=by
 subst hDl;obtain⟨j,hj⟩:∃ j,D.length=j+2:=⟨D.length-2,by omega⟩;have okW:Ok ((R.drop ro).take N):=(okR.drop _).take _;have hWl:((R.drop ro).take N).length=N:=by rw[ji,kL];omega
 have hvp:0<val D:=by
  rcases jr (val D) with h|h
  ·rw[h] at hU;omega
  ·exact h
 have hT:=JS.of (D:=D) (W:=(R.drop ro).take N) (j:=j) (by omega) (by omega) okD okW hvp;rw[JL _ _ _ _ (by omega),JL _ _ _ _ (by omega),JL _ _ _ _ (by omega)] at hT;have hqB:val ((R.drop ro).take N)/val D<B:=uM hU;have hql:val ((R.drop ro).take N)/val D*val D<=val ((R.drop ro).take N):=Jc _ _;have hqu:val ((R.drop ro).take N)<(val ((R.drop ro).take N)/val D+1)*val D:=by rw[jf];exact Nat.lt_mul_div_succ _ hvp
 have hvlt:val D<B^N:=by
  have:=jR okD;have h3:B^D.length<=B^N:=jP jE (by omega);omega
 rw[show D.length-1=j+1 from by omega] at hnorm;have c0:w.cell? ⟨rb,ro+(j+2),none⟩=_:=hR.cell (ro+(j+2)) (by omega);have c1:w.cell? ⟨rb,ro+(j+1),none⟩=_:=hR.cell (ro+(j+1)) (by omega);have c2:w.cell? ⟨rb,ro+j,none⟩=_:=hR.cell (ro+j) (by omega);have d1:w.cell? ⟨db,dof+(j+1),none⟩=_:=hD (j+1) (by omega);have d2:w.cell? ⟨db,dof+j,none⟩=_:=hD j (by omega);have HG:Calls Tryz.prog 132 #[.slice (some ⟨rb,ro,none⟩) N rc,.slice (some ⟨db,dof,none⟩) D.length dc] w (Zn w (val ((R.drop ro).take N)/val D)) :=
  Zj rb ro rc D.length (j+1) j N db dof dc _ _ _ _ _ _ w (by omega) (by omega) hN (by rw[hj];exact c0) c1 c2 d1 d2 hT (okR.get _) (okD.get _) hnorm hqB hmax
 generalize hq:val ((R.drop ro).take N)/val D=q at *;have HGG:=ca HG;have HR:=ca hR;have HD:=ca hD;have HOR:=ca okR;have HOD:=ca okD;have HN:=ca hN;have Hql:=ca hql;have Hqu:=ca hqu;have Hvl:=ca hvlt;clear HG hR hD okR okD hN hT c0 c1 c2 d1 d2 okW hWl hq hj hql hqu hU hvp hvlt
 go_enter Tryz.func128,Tryz.ntmps128
 go_wp2_with fail;refine HGG.out.mono ?_;rintro e w' ⟨g,k,rfl,hg1,hg2,hgB,rfl⟩;go_wp2_with fail;refine(yM rb ro N rc dc R D (some ⟨db,dof,none⟩) g (w.drewN k) (show Blk (w.drewN k) rb R from HR.out) hn (by have:=HN.out;omega) (by have:=HN.out;omega) hgB HOR.out HOD.out
  (fun _=>⟨db,dof,rfl,hne,HD.out⟩)).mono ?_
 rintro e w2 ⟨c,R1,hc,rfl,hO2,hB2,hA2⟩;have HB2:=ca hB2;have HO2:=ca (((ju.refl rb w).drewN k).trans hO2);have HA2:=ca hA2;clear hB2 hO2 hA2;have hwin:=HA2.out.window hn;rw[jf (B^N) c] at hwin;by_cases hc0:c=0
 ·have hgq:g=q:=by
   subst hc0;rcases jj q g with h|h
   ·exfalso;have h1:(q+1)*val D<=g*val D:=cK _ h;have:=Hqu.out;omega
   ·omega
  subst hgq;have hb:(((c:Nat):Int) != 0)=false:=by subst hc0;rfl
  have HC0:=ca hc0;clear hc0 hwin;go_wp2_with fail
  go_ret
  refine⟨R1,rfl,HO2.out,HB2.out,?_⟩;have:=HA2.out;rw[HC0.out] at this;exact this
 ·have hb:(((c:Nat):Int) != 0)=true:=by rw[zv];omega
  have hgq:g=q+1:=by
   rcases jj q g with h|h
   ·omega
   ·exfalso;have hgg:g=q:=by omega
    subst hgg;have h1:=window_lt HA2.out.ok ro N (by rw[HA2.out.len];exact hn);have h2:1*B^N<=c*B^N:=cK _ (by omega);have:=Hql.out;omega
  have hgi:IntKind.u64.wrap ((g:Int)-1)=(q:Int):=by
   rw[hgq,show (((q+1:Nat):Int)-1)=((q:Nat):Int) from by omega,jX (by omega)]
  have HGQ:=ca hgq;clear hc0 hwin hgq;go_wp2_with fail;refine(zl rb ro N rc dc R1 D (some ⟨db,dof,none⟩) w2 HB2.out (by rw[HA2.out.len];exact hn) (by have:=HN.out;omega) (by have:=HN.out;omega) HA2.out.ok HOD.out
   (fun _=>⟨db,dof,rfl,hne,HO2.out.row hne HD.out⟩)).mono ?_
  rintro e w3 ⟨rfl,hO3,c2,R2,hB3,hA3⟩;have HB3:=ca hB3;have HO3:=ca (HO2.out.trans hO3);have HA3:=ca hA3;clear hB3 hO3 hA3;go_wp2_with fail
  go_ret
  refine⟨R2,rfl,HO3.out,HB3.out,HA2.out.back HA3.out hn HGQ.out Hql.out ?_⟩;have:=Hqu.out;have:=Hvl.out;rw[cD] at *;omega
structure UV (X v:Nat) (R QL:List Nat) (nr lc j:Nat):Prop where
 lenR:R.length=nr
 lenQ:QL.length=lc
 okR:Ok R
 okQ:Ok QL
 lt:val R<v*B^j
 sum:X=val R+v*(B^j*val (QL.drop j))
theorem UV.window_lt {X v:Nat}{R QL:List Nat}{nr lc j n:Nat}(h:UV X v R QL nr lc (j+1)) (hn:j+(n+1)<=nr):val ((R.drop j).take (n+1))<v*B:=by
 have h1:=yP R j (n+1) (by rw[h.lenR];exact hn);have h2:=h.lt;have h3:B^j*val ((R.drop j).take (n+1))<=val R:=by
  rw[h1];generalize val (R.take j)=a;generalize B^j*val ((R.drop j).take (n+1))=b;generalize B^(j+(n+1))*val (R.drop (j+(n+1)))=c;omega
 have h4:B^j*val ((R.drop j).take (n+1))<B^j*(v*B):=by
  have e:v*B^(j+1)=B^j*(v*B):=by rw[js];grind
  rw[e] at h2;exact jH h3 h2
 exact EA h4
theorem ciW (P a W Q c V:Nat) (h:a+P*W+P*Q*c<P*V) (hV:V<=Q):c=0:=by
 rcases jr c with h0|h0
 ·exact h0
 ·exfalso;have h1:P*Q*1<=P*Q*c:=ja _ h0;have h2:P*V<=P*Q:=ja _ hV;omega
theorem rest_lt (P a W v q R' R:Nat) (ha:a<P) (hR:R=a+P*W) (hq:W<(q+1)*v) (hs:R'+P*(q*v)=R):R'<v*P:=by
 have h1:P*W<P*((q+1)*v)\/P=0:=by
  rcases jr P with h|h
  ·exact .inr h
  ·exact .inl ((Nat.mul_lt_mul_left h).2 hq)
 rcases h1 with h1|h1
 ·have h2:P*(W+1)<=P*((q+1)*v):=ja _ hq;rw[cD q 1 v,jI,cI,cI,zc] at h2;rw[jf v P];omega
 ·omega
theorem UV.step {X v:Nat}{R R' QL:List Nat}{nr lc j n:Nat}(h:UV X v R QL nr lc (j+1)) (hn:j+(n+1)<=nr) (hj:j<lc) (hv:0<v) (hvn:v<B^n)
 (ht:yx R R' j (n+1) (val ((R.drop j).take (n+1))/v*v) 0) (hqB:val ((R.drop j).take (n+1))/v<B) :
 UV X v R' (QL.set j (val ((R.drop j).take (n+1))/v)) nr lc j:=by
 have h1:=yP R j (n+1) (by rw[h.lenR];exact hn);have h2:=h.lt;have hz:val (R.drop (j+(n+1)))=0:=by
  rw[h1,jW] at h2;have e:v*B^(j+1)=B^j*(v*B):=by rw[js];grind
  rw[e] at h2;refine ciW _ _ _ _ _ _ h2 ?_;rw[js];exact cK _ (uK hvn)
 rw[hz,Cf,jz] at h1;have hq:val ((R.drop j).take (n+1))<(val ((R.drop j).take (n+1))/v+1)*v:=by rw[jf];exact Nat.lt_mul_div_succ _ hv
 generalize hW:val ((R.drop j).take (n+1))=W at *;generalize hqg:W/v=q at *;have hs:=ht.sum;rw[Cf,jz] at hs;have ha:val (R.take j)<B^j:=by
  have:=jR (h.okR.take j);rwa [ji,kQ (by have:=h.lenR;omega)] at this
 refine⟨by rw[ht.len,h.lenR],by rw[Cz,h.lenQ],ht.ok,h.okQ.set _ _ hqB,rest_lt _ _ _ _ _ _ _ ha h1 hq hs,?_⟩;have hd:(QL.set j q).drop j=q::QL.drop (j+1):=by
  rw[JB (by rw[Cz,h.lenQ];exact hj),List.getElem_set_self,List.drop_set,cq (by omega)]
 rw[hd,val,h.sum,← hs,js];generalize val R'=r;generalize val (QL.drop (j+1))=z;generalize B^j=P;grind
theorem UV.done {m n p X:Nat}{R QL:List Nat}{nr lc:Nat}(h:UV X (n*p) R QL nr lc 0) (hX:X=m*p) (hp:0<p) (hn:0<n):val QL=m/n/\val R/p=m%n:=by
 have h1:=h.sum;have h2:=h.lt;rw[Ch,jI,kr] at h1;rw[Ch,zc] at h2;subst hX;have e1:val QL=m*p/(n*p):=by
  rw[h1,Nat.add_mul_div_left _ _ (Nat.mul_pos hn hp),Wh h2,jb]
 have e2:val R=m*p%(n*p):=by rw[h1,Ki,kP h2]
 rw[e1,e2,caE _ _ hp,caD,Nat.mul_div_cancel _ hp];exact⟨rfl,rfl⟩
theorem ciH {D ys:List Nat}{s:Nat}(tD:YM D) (okD:Ok D) (hD:val D=val ys*2^s) (okY:Ok ys) (k:Nat) (hk:ys.length=k+1)
 (h1:ys[k]?.getD 0*2^s<B) (h2:B<=2*(ys[k]?.getD 0*2^s)):D.length=k+1/\B<=2*D[k]?.getD 0/\B^(k+1)<=2*val D:=by
 have ey:val ys=val (ys.take k)+B^k*ys[k]?.getD 0:=by
  have:=jg ys k (by omega)
  rwa [kH (by omega)] at this
 have hlow:val (ys.take k)<B^k:=by
  have:=jR (okY.take k);rwa [ji,kQ (by omega)] at this
 generalize ys[k]?.getD 0=t at *;generalize val (ys.take k)=a at *;have hup:val D<B^(k+1):=by
  rw[hD,ey,js];have hs63:s<=64:=by
   rcases jj s 65 with h|h
   ·omega
   ·exfalso;have h3:2^65<=2^s:=jP (by omega) h;have h4:(2:Nat)^65=2*B:=by decide
    rcases jr t with ht|ht
    ·subst ht;have:=jE;omega
    ·have h5:1*2^s<=t*2^s:=cK _ ht;have:=jE;omega
  have e1:2^(64-s)*2^s=B:=by rw[← jW,Uo];congr 1;omega
  have ht:t<2^(64-s):=by rw[← e1] at h1;exact Eo h1
  have h3:(t+1)*2^s<=2^(64-s)*2^s:=cK _ ht;rw[e1] at h3;have h4:(a+B^k*t)<B^k*(t+1):=by rw[cI,zc];omega
  have hp:0<2^s:=jV (by omega);have h5:(a+B^k*t)*2^s<B^k*(t+1)*2^s:=(Nat.mul_lt_mul_right hp).2 h4;have h6:B^k*((t+1)*2^s)<=B^k*B:=ja _ h3;rw[← jk] at h6;omega
 have hlo:B^(k+1)<=2*val D:=by
  rw[hD,ey,js,cD,cI,jk];have h3:B^k*B<=B^k*(2*(t*2^s)):=ja _ h2;have e:B^k*(2*(t*2^s))=2*(B^k*(t*2^s)):=by rw[Wj]
  omega
 have hlen:D.length=k+1:=by
  have l1:=cr.len tD rfl hup;have l2:k<D.length:=by
   have h3:=jR okD;have h4:B^k*2<=B^k*B:=ja _ YQ;rw[js] at hlo;have h5:B^k<B^D.length\/B^k=val D:=by omega
   rcases h5 with h5|h5
   ·exact(WC (show 1<B by decide)).1 h5
   ·rw[h5] at *;have h6:B^k<B^D.length:=by omega
    exact(WC (show 1<B by decide)).1 h6
  omega
 refine⟨hlen,?_,hlo⟩;have eD:val D=val (D.take k)+B^k*D[k]?.getD 0:=by
  have:=jg D k (by omega)
  rwa [kH (by omega)] at this
 have hl2:val (D.take k)<B^k:=by
  have:=jR (okD.take k);rwa [ji,kQ (by omega)] at this
 generalize D[k]?.getD 0=d at *;rw[eD,js] at hlo;have h7:B^k*B<B^k*(2*(d+1)):=by
  have e:B^k*(2*(d+1))=2*(B^k*d)+2*B^k:=by rw[Wj,cI,cI,zc]
  omega
 have h8:=EA h7;have:B%2=0:=by decide
 omega
theorem UV.start {xs D R:List Nat}{s lx lc:Nat}(hR:val R=val xs*2^s) (okR:Ok R) (hlR:R.length=lx+1) (okX:Ok xs) (hlx:xs.length=lx) (hs:s<=63)
 (hD:B^D.length<=2*val D) (hlc:lc+D.length=lx+1):UV (val xs*2^s) (val D) R (List.replicate lc 0) (lx+1) lc lc:=by
 refine⟨hlR,by simp,okR,Ok.replicate _,?_,by rw[hR,cax (by simp)];simp [val]⟩;have h1:=jR okX;rw[hlx] at h1;have h2:2^s<=2^63:=jP (by omega) hs;have e1:2*2^63=B:=by decide
 have h3:val xs*2^s<=val xs*2^63:=ja _ h2;have h4:val xs*2^63<B^lx*2^63:=(Nat.mul_lt_mul_right (jV (by omega))).2 h1;have h5:B^D.length*B^lc<=2*val D*B^lc:=cK _ hD;have e2:B^lx*B=2*(B^lx*2^63):=by rw[show B^lx*B=B^lx*(2*2^63) from by rw[e1],Wj]
 rw[← jW,show D.length+lc=lx+1 from by omega,js,e2,jk] at h5;rw[hR];omega
end Go.Proofs.YtcgiaclelnmhbabGreatDoor
