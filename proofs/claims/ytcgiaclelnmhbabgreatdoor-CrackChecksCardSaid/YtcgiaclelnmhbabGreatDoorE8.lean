/- Part 8. -/
import Derived.Test.YtcgiaclelnmhbabGreatDoorE7
set_option linter.all false

namespace Go.Proofs.YtcgiaclelnmhbabGreatDoor.Lim
structure Steps (x0 y0 xi yi a b c d:Nat) (odd:Bool):Prop where
 lx:if odd then xi+a*x0=b*y0 else xi+b*y0=a*x0
 ly:if odd then yi+d*y0=c*x0 else yi+c*x0=d*y0
 hx:x0=d*xi+b*yi
 hy:y0=c*xi+a*yi
 det:if odd then b*c=a*d+1 else a*d=b*c+1
 cd:c<=d
 d1:1<=d
 st:(a=1/\b=0/\c=0/\d=1/\yi<=xi)\/(a<=b/\1<=b/\1<=c/\d<=yi/\b+d<=xi-yi/\yi<=xi)
theorem Steps.start (x y:Nat) (h:y<=x):Steps x y x y 1 0 0 1 false :=
 ⟨by simp,by simp,by simp,by simp,by simp,by omega,by omega,.inl ⟨rfl,rfl,rfl,rfl,h⟩⟩
theorem Steps.bd {x0 y0 xi yi a b c d:Nat}{odd:Bool}(h:Steps x0 y0 xi yi a b c d odd) (hy:0<yi):b+xi/yi*d<=x0/\a+xi/yi*c<=y0:=by
 have hq:xi/yi*yi<=xi:=Jc xi yi;have h1:d*(xi/yi*yi)<=d*xi:=ja _ hq;have h2:c*(xi/yi*yi)<=c*xi:=ja _ hq;have e1:(b+xi/yi*d)*yi=d*(xi/yi*yi)+b*yi:=by grind
 have e2:(a+xi/yi*c)*yi=c*(xi/yi*yi)+a*yi:=by grind
 have h3:=h.hx;have h4:=h.hy;have h5:(b+xi/yi*d)*1<=(b+xi/yi*d)*yi:=ja _ hy;have h6:(a+xi/yi*c)*1<=(a+xi/yi*c)*yi:=ja _ hy;omega
theorem Steps.next {x0 y0 xi yi a b c d:Nat}{odd:Bool}(h:Steps x0 y0 xi yi a b c d odd) (hy:0<yi)
 (c1:b+xi/yi*d<=xi%yi) (c2:d+(b+xi/yi*d)<=yi-xi%yi) :
 Steps x0 y0 yi (xi%yi) c d (a+xi/yi*c) (b+xi/yi*d) (!odd):=by
 have hle:yi<=xi:=by rcases h.st with h|h<;>omega
 have hq:1<=xi/yi:=(Nat.le_div_iff_mul_le hy).2 (by omega);have hdm:xi=yi*(xi/yi)+xi%yi:=(kf xi yi).symm;have hlt:xi%yi<yi:=jJ _ hy;have hd1:=h.d1;generalize hqq:xi/yi=q at *;generalize hrr:xi%yi=r at *;have hqd:1*d<=q*d:=cK _ hq;have hqc:q*c<=q*d:=ja _ h.cd;refine⟨?_,?_,?_,?_,?_,?_,by omega,.inr ⟨h.cd,hd1,?_,c1,c2,by omega⟩⟩
 ·have:=h.ly;cases odd<;>simpa using this
 ·have h1:=h.ly;have h2:=h.lx;cases odd
  ·simp only[Bool.not_false,zw,EK,yj] at h1 h2 ⊢;subst hdm;grind
  ·simp only[Bool.not_true,zw,EK,yj] at h1 h2 ⊢;subst hdm;grind
 ·have:=h.hx;subst hdm;grind
 ·have:=h.hy;subst hdm;grind
 ·have:=h.det;cases odd
  ·simp only[Bool.not_false,zw,EK,yj] at this ⊢;grind
  ·simp only[Bool.not_true,zw,EK,yj] at this ⊢;grind
 ·rcases h.st with⟨rfl,rfl,rfl,rfl,_⟩|⟨ha,_⟩
  ·omega
  ·omega
 ·rcases h.st with⟨rfl,rfl,rfl,rfl,_⟩|⟨_,_,hc,_⟩
  ·omega
  ·have:1*c<=q*c:=cK _ hq;omega
theorem Steps.even {x0 y0 xi yi a b c d K x' y':Nat}(h:Steps x0 y0 xi yi a b c d false) (hb:b≠0) (hx':x'<K) (hy':y'<K) :
 ∃ X Y,X+b*(y0*K+y')=a*(x0*K+x')/\Y+c*(x0*K+x')=d*(y0*K+y')/\Y<X/\
  x0*K+x'=d*X+b*Y/\y0*K+y'=c*X+a*Y/\1<=c/\1<=d:=by
 have h1:=h.lx;have h2:=h.ly;have h3:=h.det;have hcd:=h.cd;have hd1:=h.d1;simp only[EK,yj] at h1 h2 h3;rcases h.st with⟨_,rfl,_⟩|⟨hab,hb1,hc1,hdy,hbd,hyx⟩
 ·exact absurd rfl hb
 have e1:a*(x0*K+x')=xi*K+b*y0*K+a*x':=by rw[cI,← jk,← h1,cD]
 have e2:b*(y0*K+y')=b*y0*K+b*y':=by rw[cI,← jk]
 have e3:d*(y0*K+y')=yi*K+c*x0*K+d*y':=by rw[cI,← jk,← h2,cD]
 have e4:c*(x0*K+x')=c*x0*K+c*x':=by rw[cI,← jk]
 have i1:b*y'<=b*K:=ja _ (by omega);have i2:c*x'<=c*K:=ja _ (by omega);have i3:b*K<=xi*K:=cK _ (by omega);have i4:c*K<=yi*K:=cK _ (by omega);have i5:(yi+b+d)*K<=xi*K:=cK _ (by omega);have i6:b*(y'+1)<=b*K:=ja _ (by omega);have i7:d*(y'+1)<=d*K:=ja _ (by omega);rw[cD,cD] at i5;rw[cI] at i6 i7;have hX:a*(x0*K+x')-b*(y0*K+y')+b*(y0*K+y')=a*(x0*K+x'):=by omega
 have hY:d*(y0*K+y')-c*(x0*K+x')+c*(x0*K+x')=d*(y0*K+y'):=by omega
 refine⟨_,_,hX,hY,by omega,?_,?_,hc1,hd1⟩
 ·generalize x0*K+x'=x at *;generalize y0*K+y'=y at *;generalize a*x-b*y=X at *;generalize d*y-c*x=Y at *;have g1:d*X+d*(b*y)=d*(a*x):=by rw[← cI,hX]
  have g2:b*Y+b*(c*x)=b*(d*y):=by rw[← cI,hY]
  have g3:d*(a*x)=b*(c*x)+x:=by
   have:a*d*x=(b*c+1)*x:=by rw[h3]
   grind
  have g4:d*(b*y)=b*(d*y):=by grind
  omega
 ·generalize x0*K+x'=x at *;generalize y0*K+y'=y at *;generalize a*x-b*y=X at *;generalize d*y-c*x=Y at *;have g1:c*X+c*(b*y)=c*(a*x):=by rw[← cI,hX]
  have g2:a*Y+a*(c*x)=a*(d*y):=by rw[← cI,hY]
  have g3:a*(d*y)=c*(b*y)+y:=by
   have:a*d*y=(b*c+1)*y:=by rw[h3]
   grind
  have g4:c*(a*x)=a*(c*x):=by grind
  omega
theorem Steps.odd {x0 y0 xi yi a b c d K x' y':Nat}(h:Steps x0 y0 xi yi a b c d true) (hx':x'<K) (hy':y'<K) :
 ∃ X Y,X+a*(x0*K+x')=b*(y0*K+y')/\Y+d*(y0*K+y')=c*(x0*K+x')/\Y<X/\
  x0*K+x'=d*X+b*Y/\y0*K+y'=c*X+a*Y/\1<=c/\1<=d:=by
 have h1:=h.lx;have h2:=h.ly;have h3:=h.det;have hcd:=h.cd;have hd1:=h.d1;simp only[zw] at h1 h2 h3;rcases h.st with⟨rfl,rfl,rfl,rfl,_⟩|⟨hab,hb1,hc1,hdy,hbd,hyx⟩
 ·omega
 have e1:b*(y0*K+y')=xi*K+a*x0*K+b*y':=by rw[cI,← jk,← h1,cD]
 have e2:a*(x0*K+x')=a*x0*K+a*x':=by rw[cI,← jk]
 have e3:c*(x0*K+x')=yi*K+d*y0*K+c*x':=by rw[cI,← jk,← h2,cD]
 have e4:d*(y0*K+y')=d*y0*K+d*y':=by rw[cI,← jk]
 have i1:a*x'<=a*K:=ja _ (by omega);have i2:d*y'<=d*K:=ja _ (by omega);have i3:a*K<=xi*K:=cK _ (by omega);have i4:d*K<=yi*K:=cK _ (by omega);have i5:(yi+b+d)*K<=xi*K:=cK _ (by omega);have i6:a*K<=b*K:=cK _ hab;have i7:c*(x'+1)<=c*K:=ja _ (by omega);have i8:c*K<=d*K:=cK _ hcd;rw[cD,cD] at i5;rw[cI] at i7;have hX:b*(y0*K+y')-a*(x0*K+x')+a*(x0*K+x')=b*(y0*K+y'):=by omega
 have hY:c*(x0*K+x')-d*(y0*K+y')+d*(y0*K+y')=c*(x0*K+x'):=by omega
 refine⟨_,_,hX,hY,by omega,?_,?_,hc1,hd1⟩
 ·generalize x0*K+x'=x at *;generalize y0*K+y'=y at *;generalize b*y-a*x=X at *;generalize c*x-d*y=Y at *;have g1:d*X+d*(a*x)=d*(b*y):=by rw[← cI,hX]
  have g2:b*Y+b*(d*y)=b*(c*x):=by rw[← cI,hY]
  have g3:b*(c*x)=d*(a*x)+x:=by
   have:b*c*x=(a*d+1)*x:=by rw[h3]
   grind
  have g4:d*(b*y)=b*(d*y):=by grind
  omega
 ·generalize x0*K+x'=x at *;generalize y0*K+y'=y at *;generalize b*y-a*x=X at *;generalize c*x-d*y=Y at *;have g1:c*X+c*(a*x)=c*(b*y):=by rw[← cI,hX]
  have g2:a*Y+a*(d*y)=a*(c*x):=by rw[← cI,hY]
  have g3:c*(b*y)=a*(d*y)+y:=by
   have:b*c*y=(a*d+1)*y:=by rw[h3]
   grind
  have g4:c*(a*x)=a*(c*x):=by grind
  omega
theorem Yw {x y X Y a b c d:Nat}(hx:x=d*X+b*Y) (hy:y=c*X+a*Y)
 (h:(X+b*y=a*x/\Y+c*x=d*y)\/(X+a*x=b*y/\Y+d*y=c*x)):Nat.gcd X Y=Nat.gcd x y:=by
 have dX:Nat.gcd x y ∣ X:=by
  rcases h with⟨h,_⟩|⟨h,_⟩
  ·exact(Wz (uL (yX x y) b)).1 (h▸uL (Ce x y) a)
  ·exact(Wz (uL (Ce x y) a)).1 (h▸uL (yX x y) b)
 have dY:Nat.gcd x y ∣ Y:=by
  rcases h with⟨_,h⟩|⟨_,h⟩
  ·exact(Wz (uL (Ce x y) c)).1 (h▸uL (yX x y) d)
  ·exact(Wz (uL (yX x y) d)).1 (h▸uL (Ce x y) c)
 refine Nat.dvd_antisymm ?_ (Nat.dvd_gcd dX dY);refine Nat.dvd_gcd ?_ ?_
 ·rw[hx];exact Nat.dvd_add (uL (Ce X Y) d) (uL (yX X Y) b)
 ·rw[hy];exact Nat.dvd_add (uL (Ce X Y) c) (uL (yX X Y) a)
end Go.Proofs.YtcgiaclelnmhbabGreatDoor.Lim

namespace Go.Proofs.YtcgiaclelnmhbabGreatDoor
open Go Go.RowKit Go.Proofs Lim
def yt (w:World) (k a b c d:Nat) (odd:Bool):Prop:=w.heap[k]?=some (.cells #[u a,u b,u c,u d,.bool odd] 183 (0,0))
theorem yt.cells {w:World}{k a b c d:Nat}{odd:Bool}(h:yt w k a b c d odd) :
 (w.cell? ⟨k,0,none⟩=some (u a)/\w.cell? ⟨k,1,none⟩=some (u b)/\w.cell? ⟨k,2,none⟩=some (u c)/\w.cell? ⟨k,3,none⟩=some (u d)/\w.cell? ⟨k,4,none⟩=some (.bool odd))/\
  ∀ i,w.frozen? ⟨k,i,none⟩=false:=by
 unfold yt at h;refine⟨by simp [World.cell?,h],fun i=>by simp [World.frozen?,h]⟩
theorem yt.store {w:World}{k a b c d a' b' c' d':Nat}{odd odd':Bool}(h:yt w k a b c d odd) :
 yt (((((w.setCell ⟨k,0,none⟩ (u a')).setCell ⟨k,1,none⟩ (u b')).setCell ⟨k,2,none⟩ (u c')).setCell ⟨k,3,none⟩ (u d')).setCell ⟨k,4,none⟩ (.bool odd')) k a' b' c' d' odd':=by
 unfold yt at h ⊢;simp [World.setCell,cdf,h]
theorem caR {x0 y0 xi yi a b c d:Nat}{odd:Bool}(h:Lim.Steps x0 y0 xi yi a b c d odd) (hy:0<yi) (hr:0<xi%yi):d+(b+xi/yi*d)<=x0:=by
 have hx:=h.hx;have hdm:xi=yi*(xi/yi)+xi%yi:=(kf xi yi).symm;generalize xi/yi=q at *;generalize xi%yi=r at *;rw[hdm] at hx;have e:d*(yi*q+r)+b*yi=(b+q*d)*yi+d*r:=by grind
 rw[e] at hx;have h1:(b+q*d)*1<=(b+q*d)*yi:=ja _ hy;have h2:d*1<=d*r:=ja _ hr;omega
def ccZ (w:World) (x y:Nat) (e:Ending) (w':World):Prop :=
 ∃ a b c d X Y odd,e=.returned (.agg #[u a,u b,u c,u d,.bool odd])/\Lim.Steps x y X Y a b c d odd/\a<B/\b<B/\c<B/\d<B/\Below w.heap.size w w'
theorem cde (x y:Nat) (hx:x<B) (hy:y<B) (hle:y<=x) (w:World):Calls Tryz.prog 124 #[u x,u y] w (ccZ w x y):=by
 go_enter Tryz.func124,Tryz.ntmps124
 go_wp2_with fail
 go_loopw [0,1] (fun s0 s1 wr=>∃ X Y a b c d odd,s0=u X/\s1=u Y/\Hid (yt wr w.heap.size 0 0 0 0 false)/\Hid (yt wr (w.heap.size+1) a b c d odd)/\
  Hid (Lim.Steps x y X Y a b c d odd/\a<B/\b<B/\c<B/\d<B/\X<B/\Y<B)/\Hid (Below w.heap.size w wr)) (fun _ s1 _=>(intOf s1).toNat)
 case atStart =>
  refine⟨x,y,1,0,0,1,false,rfl,rfl,?_,?_,⟨Lim.Steps.start x y hle,by decide,by decide,by decide,by decide,hx,hy⟩,((cF _ w).alloc (cb _) _).alloc (by simp) _⟩
  ·show _=_;rw[Below.heap_alloc _ _ _ (by simp)];exact YE w _
  ·show _=_;have:w.heap.size+1=(w.alloc (Obj.cells #[Value.int .u64 0,Value.int .u64 0,Value.int .u64 0,Value.int .u64 0,Value.bool false] 183)).heap.size:=by simp
   rw[this,YE];rfl
 case round =>
  obtain⟨X,Y,a,b,c,d,odd,rfl,rfl,hR,hS,hI,hBe⟩:=hrel;obtain⟨⟨q0,q1,q2,q3,q4⟩,qf⟩:=hS.out.cells;obtain⟨⟨r0,r1,r2,r3,r4⟩,rf⟩:=hR.out.cells;have p0:=qf 0;have p1:=qf 1;have p2:=qf 2;have p3:=qf 3;have p4:=qf 4;have o0:=rf 0;have o1:=rf 1;have o2:=rf 2;have o3:=rf 3;have o4:=rf 4;clear qf rf;by_cases hY:Y=0
  ·have hb:(((Y:Nat):Int) != 0)=false:=by subst hY;rfl
   clear hY;go_wp2_with fail;refine jT (v:=.agg #[u a,u b,u c,u d,.bool odd]) (by simp [results,Tryz.results124,go_sem,r0,r1,r2,r3,r4]) rfl ?_;refine⟨a,b,c,d,X,Y,odd,rfl,hI.out.1,hI.out.2.1,hI.out.2.2.1,hI.out.2.2.2.1,hI.out.2.2.2.2.1,?_⟩;exact hBe.out.trans ((((((ju.refl w.heap.size wr).set 0 _).set 1 _).set 2 _).set 3 _).set 4 _ |>.below (cb _))
  ·have hb:(((Y:Nat):Int) != 0)=true:=by rw[zv];omega
   have hY0:0<Y:=by omega
   have hb1:=hI.out.1.bd hY0;have hXB:X<B:=hI.out.2.2.2.2.2.1;have hYB:Y<B:=hI.out.2.2.2.2.2.2;have haB:=hI.out.2.1;have hbB:=hI.out.2.2.1;have hcB:=hI.out.2.2.2.1;have hdB:=hI.out.2.2.2.2.1;have hrY:X%Y<Y:=jJ _ hY0;have hnext:=fun c1 c2=>hI.out.1.next hY0 c1 c2;have hsum:=fun hr=>caR hI.out.1 hY0 hr;have hd1:=hI.out.1.d1;have k1:((X:Nat):Int)/((Y:Nat):Int)=((X/Y:Nat):Int):=by rw[Cu]
   have k2:((X:Nat):Int)%((Y:Nat):Int)=((X%Y:Nat):Int):=by rw[Int.natCast_emod]
   have hqle:X/Y<=X:=kz _ _;have hqpos:X/Y*Y<=X:=Jc _ _;generalize X/Y=q at *;generalize X%Y=r at *;obtain⟨qc,hqc⟩:∃ qc,qc=q*c:=⟨_,rfl⟩;obtain⟨qd,hqd⟩:∃ qd,qd=q*d:=⟨_,rfl⟩;rw[← hqc,← hqd] at hb1;have k0:IntKind.u64.wrap ((q:Nat):Int)=(q:Int):=jX (by omega);have k3:IntKind.u64.wrap ((q:Int)*(c:Int))=(qc:Int):=by rw[hqc,← kT,jX (by omega)]
   have k5:IntKind.u64.wrap ((q:Int)*(d:Int))=(qd:Int):=by rw[hqd,← kT,jX (by omega)]
   obtain⟨c',hc'⟩:∃ c',c'=a+qc:=⟨_,rfl⟩;obtain⟨d',hd'⟩:∃ d',d'=b+qd:=⟨_,rfl⟩;have k4:IntKind.u64.wrap ((a:Int)+(qc:Int))=(c':Int):=by rw[CW (by omega),hc']
   have k6:IntKind.u64.wrap ((b:Int)+(qd:Int))=(d':Int):=by rw[CW (by omega),hd']
   have hc'B:c'<B:=by omega
   have hd'B:d'<B:=by omega
   rw[← hqd] at hsum hnext;rw[← hqc] at hnext;rw[← hd'] at hsum hnext;rw[← hc'] at hnext;have HNx:=ca hnext;have HSm:=ca hsum;clear hnext hsum hqc hqd hb1 hqle hqpos;by_cases hlt:r<d'
   ·clear hc' hd';go_wp2_with fail
    go_quiet (fail)
    go_wp2_with fail
    go_quiet (fail)
    go_wp2_with fail;refine jT (v:=.agg #[u a,u b,u c,u d,.bool odd]) (by simp [results,Tryz.results124,go_sem,r0,r1,r2,r3,r4]) rfl ?_;refine⟨a,b,c,d,X,Y,odd,rfl,hI.out.1,hI.out.2.1,hI.out.2.2.1,hI.out.2.2.2.1,hI.out.2.2.2.2.1,?_⟩;exact(hBe.out.trans (kV (cF _ _))).trans ((((((ju.refl w.heap.size _).set 0 _).set 1 _).set 2 _).set 3 _).set 4 _ |>.below (cb _))
   ·obtain⟨dd,hdd⟩:∃ dd,dd=d+d':=⟨_,rfl⟩;obtain⟨yr,hyr⟩:∃ yr,yr=Y-r:=⟨_,rfl⟩;have hd'1:1<=d'\/d'=0:=by omega
    have hddB:dd<B:=by
     rcases jr r with h0|h0
     ·have:d'=0:=by omega
      omega
     ·have:=HSm.out h0;omega
    have k7:IntKind.u64.wrap ((Y:Int)-(r:Int))=(yr:Int):=by rw[zM hYB (by omega),hyr]
    have k8:IntKind.u64.wrap ((d:Int)+(d':Int))=(dd:Int):=by rw[CW (by omega),hdd]
    have HDD:=ca hdd;have HYR:=ca hyr;clear hdd hyr hc' hd' hd'1;by_cases hlt2:yr<dd
    ·go_wp2_with fail
     go_quiet (fail)
     go_wp2_with fail
     go_quiet (fail)
     go_wp2_with fail;refine jT (v:=.agg #[u a,u b,u c,u d,.bool odd]) (by simp [results,Tryz.results124,go_sem,r0,r1,r2,r3,r4]) rfl ?_;refine⟨a,b,c,d,X,Y,odd,rfl,hI.out.1,hI.out.2.1,hI.out.2.2.1,hI.out.2.2.2.1,hI.out.2.2.2.2.1,?_⟩;exact(hBe.out.trans (kV (cF _ _))).trans ((((((ju.refl w.heap.size _).set 0 _).set 1 _).set 2 _).set 3 _).set 4 _ |>.below (cb _))
    ·go_wp2_with fail
     go_quiet (fail)
     go_wp2_with fail
     go_quiet (fail)
     go_wp2_with fail
     go_roundw
     case rel =>
      refine⟨Y,r,c,d,c',d',!odd,rfl,by rw[k2],?_,?_,⟨HNx.out (by omega) (by rw[← HDD.out,← HYR.out];omega),hcB,hdB,hc'B,hd'B,hYB,by omega⟩,?_⟩
      ·exact Eq.trans (((((((ju.refl (w.heap.size+1) wr).drewN _).set 0 _).set 1 _).set 2 _).set 3 _ |>.set 4 _).block w.heap.size (by omega)) hR.out
      ·exact yt.store (w:=wr.drewN _) hS.out
      ·exact hBe.out.trans ((((((ju.refl (w.heap.size+1) wr).drewN _).set 0 _).set 1 _).set 2 _).set 3 _ |>.set 4 _ |>.below (by omega))
     case measure=>simp [intOf,k2];omega
end Go.Proofs.YtcgiaclelnmhbabGreatDoor
