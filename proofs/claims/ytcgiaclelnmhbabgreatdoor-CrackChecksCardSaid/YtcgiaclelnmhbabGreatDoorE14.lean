/- Part 14. -/
import Derived.Test.YtcgiaclelnmhbabGreatDoorE8
import Derived.Test.YtcgiaclelnmhbabGreatDoorE13
set_option linter.all false

namespace Go.Proofs.YtcgiaclelnmhbabGreatDoor
open Go Go.RowKit Go.Proofs Lim
def tz (x:Nat):Nat:=Lib.ctz 64 x
theorem Ey {x:Nat}(h0:0<x) (hx:x<B):(∃ m,x=2^tz x*(2*m+1))/\tz x<64:=by
 obtain⟨m,hm,hk⟩:=Lib.ctzFrom_spec 64 x h0 (by rw[← Uo];exact hx);have e:tz x=Lib.ctzFrom 64 x:=by unfold tz Lib.ctz;rw[cf (by omega)]
 rw[e];exact⟨⟨m,hm⟩,hk⟩
theorem yd {x a m k:Nat}(h:x=2^a*(2*m+1)):2^k ∣ x↔k<=a:=by
 constructor
 ·intro hd;rcases jj a k with hlt|hge
  ·exfalso;have h1:2^(a+1) ∣ 2^k:=Nat.pow_dvd_pow 2 hlt;have h2:2^(a+1) ∣ x:=Nat.dvd_trans h1 hd;rw[h,js] at h2;have h3:2 ∣ 2*m+1:=Nat.dvd_of_mul_dvd_mul_left (jV (by omega)) h2;omega
  ·exact hge
 ·intro hle;rw[h];exact Nat.dvd_mul_right_of_dvd (Nat.pow_dvd_pow 2 hle) _
theorem Yu (k x y:Nat):2^k ∣ x||| y↔2^k ∣ x/\2^k ∣ y:=by
 rw[cbg,cbg,cbg,Nat.or_mod_two_pow,Nat.or_eq_zero_iff]
theorem or_lt {x y:Nat}(hx:x<B) (hy:y<B):x||| y<B:=by
 rw[Uo] at *;exact Nat.or_lt_two_pow hx hy
theorem tz_or {x y:Nat}(h0:0<x) (hx:x<B) (k0:0<y) (hy:y<B):tz (x||| y)=min (tz x) (tz y):=by
 obtain⟨⟨m,hm⟩,_⟩:=Ey h0 hx;obtain⟨⟨n,hn⟩,_⟩:=Ey k0 hy;have hor0:0<x||| y:=by
  rcases jr (x||| y) with h|h
  ·rw[Nat.or_eq_zero_iff] at h;omega
  ·exact h
 obtain⟨⟨p,hp⟩,_⟩:=Ey hor0 (or_lt hx hy);have h1:=(Yu (tz (x||| y)) x y).1 ((yd hp).2 (cb _));have h2:=(yd hm).1 h1.1;have h3:=(yd hn).1 h1.2;have h4:=(yd hp).1 ((Yu (min (tz x) (tz y)) x y).2 ⟨(yd hm).2 (Nat.min_le_left _ _),(yd hn).2 (Nat.min_le_right _ _)⟩);omega
theorem Wo (m b z:Nat):Nat.gcd (2*m+1) (2^b*z)=Nat.gcd (2*m+1) z:=by
 have h:Nat.Coprime (2^b) (2*m+1):=by
  refine Nat.Coprime.pow_left b ?_;show Nat.gcd 2 (2*m+1)=1;rw[Nat.gcd_rec,Nat.mul_add_mod];rfl
 exact Nat.Coprime.gcd_mul_left_cancel_right z h
theorem cgy (a b m n:Nat):Nat.gcd (2^a*(2*m+1)) (2^b*(2*n+1))=Nat.gcd (2*m+1) (2*n+1)*2^min a b:=by
 rcases Nat.le_total a b with h|h
 ·rw[kQ h,show 2^b=2^a*2^(b-a) from by rw[← jW];congr 1;omega,jk,Nat.gcd_mul_left,Wo,jf]
 ·rw[Nat.min_eq_right h,show 2^a=2^b*2^(a-b) from by rw[← jW];congr 1;omega,jk,Nat.gcd_mul_left,zt,Wo,zt,jf]
structure Gr (w:World):Prop where
 size:3<=w.heap.size
 tab:TabAt 2 Lib.deBruijn64tab w
theorem Gr.below {w w':World}{K:Nat}(h:Gr w) (hb:Below K w w') (hK:3<=K):Gr w':=by
 obtain⟨h1,h2⟩:=h;refine⟨cB h1 hb.size,fun j hj=>?_⟩
 ·rw[hb.cell (p:=⟨_,j,none⟩) (cT (show (2:Nat)<3 by decide) hK)];exact h2 j hj
theorem cbB (x:Nat) (hx:x<B) (w:World) (hG:Gr w):Calls Tryz.prog 115 #[u x] w fun e w'=>e=.returned (.int .i64 (tz x:Nat))/\w=w' :=
 (Tryz.bits_TrailingZeros64 x hx w (fun _=>hG.tab)).mono fun _ _ ⟨h,h'⟩=>⟨h,h'.symm⟩
theorem or_u64 {x y:Nat}(hx:x<B) (hy:y<B):bits .or .u64 (x:Int) (y:Int)=((x||| y:Nat):Int) :=
 bits_or_u64_nat _ _ (by unfold B at hx;omega) (by unfold B at hy;omega)
def od (x:Nat):Nat:=x/2^tz x
theorem Wg {x:Nat}(h0:0<x) (hx:x<B):∃ m,od x=2*m+1/\x=2^tz x*(2*m+1):=by
 obtain⟨⟨m,hm⟩,_⟩:=Ey h0 hx;refine⟨m,?_,hm⟩;unfold od;have hp:0<2^tz x:=jV (by omega)
 conv=>lhs;rw[hm]
 generalize hk:tz x=k at *;have:tz (2^k*(2*m+1))=k:=by rw[← hm,hk]
 rw[this,Nat.mul_div_cancel_left _ hp]
theorem od_le (x:Nat):od x<=x:=kz _ _
theorem gcd_od {x y:Nat}(h0:0<x) (hx:x<B) (k0:0<y) (hy:y<B):Nat.gcd x y=Nat.gcd (od x) y*2^tz (x||| y):=by
 obtain⟨m,hm,ex⟩:=Wg h0 hx;obtain⟨n,hn,ey⟩:=Wg k0 hy;rw[tz_or h0 hx k0 hy,hm];generalize tz x=a at *;generalize tz y=b at *
 conv=>lhs;rw[ex,ey]
 rw[cgy]
 conv=>rhs;rw[ey,Wo]
structure Odd (x y G:Nat):Prop where
 odd:∃ m,x=2*m+1
 gcd:Nat.gcd x y=G
 lx:x<B
 ly:y<B
theorem Odd.step {x y G:Nat}(h:Odd x y G) (hy:0<y):od y<B/\0<od y/\(x<=od y->Odd x (od y-x) G)/\(od y<x->Odd (od y) (x-od y) G):=by
 obtain⟨⟨m,hm⟩,hg,lx,ly⟩:=h;obtain⟨n,hn,ey⟩:=Wg hy ly;have hle:=od_le y;have hgo:Nat.gcd x (od y)=G:=by rw[← hg,hm,hn];conv=>rhs;rw[ey,Wo]
 refine⟨by omega,by omega,fun h=>⟨⟨m,hm⟩,?_,lx,by omega⟩,fun h=>⟨⟨n,hn⟩,?_,by omega,by omega⟩⟩
 ·rw[Nat.gcd_sub_self_right h];exact hgo
 ·rw[Nat.gcd_sub_self_right (by omega),zt];exact hgo
theorem gcd_lt {x y:Nat}(hx:x<B) (hy:y<B):Nat.gcd x y<B:=by
 rcases jr x with h|h
 ·subst h;rw[Nat.gcd_zero_left];exact hy
 ·exact jH (Nat.gcd_le_left y h) hx
theorem EH (x y:Nat) (hx:x<B) (hy:y<B) (w:World) (h:x=0\/y=0) :
 Calls Tryz.prog 98 #[u x,u y] w fun e w'=>e=.returned (u (Nat.gcd x y))/\w=w':=by
 have e0:=or_u64 hx hy;have e1:x||| y=Nat.gcd x y:=by
  rcases h with h|h
  ·subst h;simp
  ·subst h;simp
 rw[e1] at e0;generalize hg:Nat.gcd x y=g at *;clear e1 hg;by_cases h0:x=0
 ·have hb:(((x:Nat):Int) == 0)=true:=by subst h0;rfl
  clear h h0
  go_enter Tryz.func98,Tryz.ntmps98
  go_wp2_with fail
  go_ret
  exact⟨rfl,rfl⟩
 ·have hb:(((x:Nat):Int) == 0)=false:=by rw[jn];omega
  have hb2:(((y:Nat):Int) == 0)=true:=by rcases h with h|h;exact absurd h h0;subst h;rfl
  clear h h0
  go_enter Tryz.func98,Tryz.ntmps98
  go_wp2_with fail
  go_ret
  exact⟨rfl,rfl⟩
theorem WL (x y:Nat) (n1:¬ x=1) (n2:¬ y=1) (h0:0<x) (hx:x<B) (k0:0<y) (hy:y<B) (w:World) (hG:Gr w) :
 Calls Tryz.prog 98 #[u x,u y] w fun e w'=>e=.returned (u (Nat.gcd x y))/\w=w':=by
 have hb1:(((x:Nat):Int) == 0)=false:=by rw[jn];omega
 have hb2:(((y:Nat):Int) == 0)=false:=by rw[jn];omega
 have hb3:(((x:Nat):Int) == 1)=false:=by rw[jn];omega
 have hb4:(((y:Nat):Int) == 1)=false:=by rw[jn];omega
 clear n1 n2;have e0:=or_u64 hx hy;have hor:=or_lt hx hy;have hgo:=gcd_od h0 hx k0 hy;have hod:=Wg h0 hx;have htl:tz (x||| y)<64:=(Ey (by
  rcases jr (x||| y) with h|h
  ·rw[Nat.or_eq_zero_iff] at h;omega
  ·exact h) hor).2
 have htx:tz x<64:=(Ey h0 hx).2;have ex:=yU x (tz x);rw[show x/2^tz x=od x from rfl] at ex;have hgl:Nat.gcd x y<B:=gcd_lt hx hy;obtain⟨G,hGd⟩:∃ G,G=Nat.gcd (od x) y:=⟨_,rfl⟩;have hO:Odd (od x) y G:=⟨let ⟨m,h,_⟩:=hod;⟨m,h⟩,hGd.symm,jH (od_le x) hx,hy⟩;rw[← hGd] at hgo;generalize x||| y=z at *
 have htl0:(0:Int)<=((tz z:Nat):Int):=by omega
 have htx0:(0:Int)<=((tz x:Nat):Int):=by omega
 have HO:=ca hO;have HG:=ca hG;have Hgo:=ca hgo;have Hgl:=ca hgl;have Hy:=ca hy;have Hx:=ca hx;have Hor:=ca hor;clear hO hG hgo hod hGd hgl;generalize hgg:Nat.gcd x y=gg at *;clear hgg
 go_enter Tryz.func98,Tryz.ntmps98
 go_wp2_with fail;refine(cbB z Hor.out w HG.out).mono ?_;rintro e w' ⟨rfl,rfl⟩;go_wp2_with fail;refine(cbB x Hx.out w HG.out).mono ?_;rintro e w' ⟨rfl,rfl⟩;go_wp2_with fail
 go_loop [0,1] (fun s0 s1=>∃ X Y:Nat,s0=u X/\s1=u Y/\Hid (Odd X Y G)) (fun s0 s1=>(intOf s0+intOf s1).toNat)
 case atStart=>exact⟨od x,y,rfl,rfl,HO.out⟩
 case round =>
  clear HO;obtain⟨X,Y,rfl,rfl,hXY⟩:=hrel;by_cases hY:Y=0
  ·have hb:(((Y:Nat):Int) != 0)=false:=by subst hY;rfl
   have hXG:X=G:=by have:=hXY.out.gcd;subst hY;rw[Nat.gcd_zero_right] at this;exact this
   have e3:IntKind.u64.wrap ((X:Int)*2^tz z)=((gg:Nat):Int):=by
    rw[zi,hXG,← Hgo.out,kP Hgl.out]
   clear hY hXG;go_wp2_with fail
   go_ret
   exact⟨rfl,rfl⟩
  ·have hb:(((Y:Nat):Int) != 0)=true:=by rw[zv];omega
   obtain⟨s1,s2,s3,s4⟩:=hXY.out.step (by omega);have hYB:Y<B:=hXY.out.ly;have hX1:0<X:=by obtain⟨m,hm⟩:=hXY.out.odd;omega
   have htY:tz Y<64:=(Ey (by omega) hYB).2;have htY0:(0:Int)<=((tz Y:Nat):Int):=by omega
   have eY:=yU Y (tz Y);rw[show Y/2^tz Y=od Y from rfl] at eY;have hole:=od_le Y;generalize hoy:od Y=oy at *;have S3:=ca s3;have S4:=ca s4;have hXB:=hXY.out.lx;clear s3 s4 hoy hY;by_cases hgt:oy<X
   ·have ew:IntKind.u64.wrap ((X:Int)-(oy:Int))=((X-oy:Nat):Int):=zM hXB (by omega);obtain⟨dd,hdd⟩:∃ dd,dd=X-oy:=⟨_,rfl⟩;rw[← hdd] at ew;have HDD:=ca hdd;clear hdd;go_wp2_with (go_at_call 115;refine(cbB Y hYB w HG.out).mono ?_;rintro e w' ⟨rfl,rfl⟩)
    go_round
    case rel=>exact⟨oy,dd,rfl,rfl,by rw[HDD.out];exact S4.out hgt⟩
    case measure=>simp [intOf];have:=HDD.out;omega
   ·have ew:IntKind.u64.wrap ((oy:Int)-(X:Int))=((oy-X:Nat):Int):=zM s1 (by omega);obtain⟨dd,hdd⟩:∃ dd,dd=oy-X:=⟨_,rfl⟩;rw[← hdd] at ew;have HDD:=ca hdd;clear hdd;go_wp2_with (go_at_call 115;refine(cbB Y hYB w HG.out).mono ?_;rintro e w' ⟨rfl,rfl⟩)
    go_round
    case rel=>exact⟨X,dd,rfl,rfl,by rw[HDD.out];exact S3.out (by omega)⟩
    case measure=>simp [intOf];have:=HDD.out;omega
theorem EP (x y:Nat) (h0:0<x) (k0:0<y) (h:x=1\/y=1) (w:World) :
 Calls Tryz.prog 98 #[u x,u y] w fun e w'=>e=.returned (u (Nat.gcd x y))/\w=w':=by
 have e1:Nat.gcd x y=1:=by
  rcases h with h|h
  ·subst h;simp
  ·subst h;simp
 rw[e1];have hb1:(((x:Nat):Int) == 0)=false:=by rw[jn];omega
 have hb2:(((y:Nat):Int) == 0)=false:=by rw[jn];omega
 clear e1;by_cases h1:x=1
 ·have hb3:(((x:Nat):Int) == 1)=true:=by subst h1;rfl
  clear h h1
  go_enter Tryz.func98,Tryz.ntmps98
  go_wp2_with fail
  go_ret
  exact⟨rfl,rfl⟩
 ·have h2:y=1:=by omega
  have hb3:(((x:Nat):Int) == 1)=false:=by rw[jn];omega
  have hb4:(((y:Nat):Int) == 1)=true:=by subst h2;rfl
  clear h h1 h2
  go_enter Tryz.func98,Tryz.ntmps98
  go_wp2_with fail
  go_ret
  exact⟨rfl,rfl⟩
theorem zP (x y:Nat) (hx:x<B) (hy:y<B) (w:World) (hG:Gr w) :
 Calls Tryz.prog 98 #[u x,u y] w fun e w'=>e=.returned (u (Nat.gcd x y))/\w=w':=by
 rcases jr x with h|h
 ·exact EH x y hx hy w (.inl h)
 ·rcases jr y with h'|h'
  ·exact EH x y hx hy w (.inr h')
  ·by_cases n1:x=1
   ·exact EP x y h h' (.inl n1) w
   ·by_cases n2:y=1
    ·exact EP x y h h' (.inr n2) w
    ·exact WL x y n1 n2 h hx h' hy w hG
def ceZ (w:World) (m n:Nat) (e:Ending) (w':World):Prop :=
 ∃ p q X Y,e=.returned (.tuple #[p,q])/\cr w' p X/\cr w' q Y/\Nat.gcd X Y=Nat.gcd m n/\Y<n/\Y<=X/\X<=m/\Below w.heap.size w w'
theorem sizes {m n X Y a b c d:Nat}(hm:m=d*X+b*Y) (hn:n=c*X+a*Y) (hYX:Y<X) (hc:1<=c) (hd:1<=d):Y<n/\X<=m/\X<=n:=by
 have h1:1*X<=d*X:=cK _ hd;have h2:1*X<=c*X:=cK _ hc;omega
theorem euclid {m n A C X0 Y0 a b c d:Nat}{odd:Bool}(hL:Leads m n A C) (hS:Lim.Steps A C X0 Y0 a b c d odd) (hb:b≠0\/odd=true) :
 ∃ X Y,(if odd then X=b*n-a*m/\a*m<=b*n/\Y=c*m-d*n/\d*n<=c*m else X=a*m-b*n/\b*n<=a*m/\Y=d*n-c*m/\c*m<=d*n)/\
  Nat.gcd X Y=Nat.gcd m n/\Y<n/\Y<X/\X<=m/\X<=n:=by
 obtain⟨K,x',y',hx',hy',rfl,rfl⟩:=hL.split;cases odd
 ·obtain⟨X,Y,h1,h2,h3,h4,h5,h6,h7⟩:=hS.even (by simpa using hb) hx' hy';obtain⟨s1,s2,s3⟩:=sizes h4 h5 h3 h6 h7;refine⟨X,Y,?_,Yw h4 h5 (.inl ⟨h1,h2⟩),s1,h3,s2,s3⟩;simp only[EK,yj];omega
 ·obtain⟨X,Y,h1,h2,h3,h4,h5,h6,h7⟩:=hS.odd hx' hy';obtain⟨s1,s2,s3⟩:=sizes h4 h5 h3 h6 h7;refine⟨X,Y,?_,Yw h4 h5 (.inr ⟨h1,h2⟩),s1,h3,s2,s3⟩;simp only[zw];omega
theorem ceI (v1 v2:Value) (m n k:Nat) (w:World) (h1:cr w v1 m) (h2:cr w v2 n) (hle:n<=m) (hnB:B<=n) (hm:m<B^k) (hk:(k:Int)<=1073741824) :
 Calls Tryz.prog 117 #[v1,v2] w (ceZ w m n):=by
 have HLd:=ca (cct v1 v2 m n w h1 h2 hle (by omega));have H1:=ca h1;have H2:=ca h2;obtain⟨xs,⟨⟨xa,xc,rfl,_,_,_⟩,_⟩,_⟩:=h1;obtain⟨ys,⟨⟨ya,yc,rfl,_,_,_⟩,_⟩,_⟩:=h2;have hmB:B<=m:=by omega
 go_enter Tryz.func117,Tryz.ntmps117
 go_wp2_with fail;refine HLd.out.mono ?_;rintro e w1 ⟨A,C,q,rfl,hL,rfl⟩;have HL:=ca hL;clear hL;go_wp2_with fail;refine(cde A C HL.out.la (jH HL.out.le HL.out.la) HL.out.le _).mono ?_;rintro e w2 ⟨a,b,c,d,X0,Y0,odd,rfl,hS,haB,hbB,hcB,hdB,hbel⟩;have HS:=ca hS;have HBel:=ca ((kV (cF w.heap.size w)).trans hbel);clear hS hbel;by_cases hb0:b=0
 ·have hbb:(((b:Nat):Int) == 0)=true:=by subst hb0;rfl
  clear hb0;have hbw:Below w.heap.size w (w2.alloc (.cells #[u a,u b,u c,u d,.bool odd] 183)):=HBel.out.alloc HBel.out.size _;have HBW:=ca hbw;clear hbw;go_wp2_with fail;refine(Yd _ _ m n k _ (H1.out.below HBW.out (cb _)) (H2.out.below HBW.out (cb _)) (by have:=jE;omega) hm hk).mono ?_;rintro e w4 ⟨vq,vr,rfl,_,hr,hb4⟩;have HR:=ca hr;have HB4:=ca hb4;clear hr hb4;go_wp2_with fail
  go_ret2
  have hn0:0<n:=by have:=jE;omega
  have hbz:Below w.heap.size w w4:=HBW.out.trans (HB4.out.mono HBW.out.size);refine⟨_,vr,n,m%n,rfl,H2.out.below hbz (cb _),HR.out,?_,jJ _ hn0,uK (jJ _ hn0),hle,hbz⟩;rw[zt m n,Nat.gcd_rec n m,zt]
 ·have hbb:(((b:Nat):Int) == 0)=false:=by rw[jn];omega
  obtain⟨X,Y,hXY,hg,hYn,hYX,hXm,hXn⟩:=euclid HL.out HS.out (.inl hb0);have hnk:n<B^k:=by omega
  have hbw:Below w.heap.size w (w2.alloc (.cells #[u a,u b,u c,u d,.bool odd] 183)):=HBel.out.alloc HBel.out.size _;have hSA:yt (w2.alloc (.cells #[u a,u b,u c,u d,.bool odd] 183)) w2.heap.size a b c d odd:=YE w2 _;have hwK:w.heap.size<=w2.heap.size:=HBel.out.size;obtain⟨K,hK⟩:∃ K,K=w2.heap.size:=⟨_,rfl⟩;have hKlt:K<(w2.alloc (.cells #[u a,u b,u c,u d,.bool odd] 183)).heap.size:=by rw[hK];simp
  have HXY:=ca hXY;have HG:=ca hg;have hm':=hm;clear hXY hg hb0;cases odd
  ·obtain⟨eX,leX,eY,leY⟩:X=a*m-b*n/\b*n<=a*m/\Y=d*n-c*m/\c*m<=d*n:=by simpa using HXY.out
   have D1:=ca (fun(W:World) (hW:Below w.heap.size w W)=>yq _ _ a b m n k W (H1.out.below hW (cb _)) (H2.out.below hW (cb _)) haB hbB leX (.inl (by omega)) hm hnk hk);have D2:=ca (fun(W:World) (hW:Below w.heap.size w W)=>yq _ _ d c n m k W (H2.out.below hW (cb _)) (H1.out.below hW (cb _)) hdB hcB leY (.inl (by omega)) hnk hm hk);rw[← eX] at D1;rw[← eY] at D2;have EX:=ca eX;have EY:=ca eY;clear eX eY leX leY hm hm' hnk;obtain⟨W,hW⟩:∃ W,W=w2.alloc (.cells #[u a,u b,u c,u d,.bool false] 183):=⟨_,rfl⟩;rw[← hW] at hbw hSA hKlt;go_wp2_with fail;rw[← hK,← hW];rw[← hK] at hSA;obtain⟨⟨q0,q1,q2,q3,q4⟩,_⟩:=hSA.cells;have HW:=ca hW;have HKl:=ca hKlt;have HBW:=ca hbw;have HKK:=ca hK;clear hW hSA hKlt hbw hK
   go_region_held3 (fun w'=>w'.cell? ⟨K,0,none⟩=some (u a)/\w'.cell? ⟨K,1,none⟩=some (u b)/\w'.cell? ⟨K,2,none⟩=some (u c)/\w'.cell? ⟨K,3,none⟩=some (u d)) (go_keep) (first|((with_reducible refine(D1.out W.drew HBW.out.drew).mono ?_);rintro e W1 ⟨pv,rfl,hp,hb1⟩;have s0:=(hb1.cell (p:=⟨K,0,none⟩) HKl.out).trans q0;have s1:=(hb1.cell (p:=⟨K,1,none⟩) HKl.out).trans q1;have s2:=(hb1.cell (p:=⟨K,2,none⟩) HKl.out).trans q2;have s3:=(hb1.cell (p:=⟨K,3,none⟩) HKl.out).trans q3;have HP:=ca hp;have HB1:=ca hb1;clear hp hb1)|((with_reducible refine(D2.out W1 (HBW.out.drew.trans (HB1.out.mono (HBW.out.drew.size)))).mono ?_);rintro e W2 ⟨qv,rfl,hq,hb2⟩;have t0:=(hb2.cell (p:=⟨K,0,none⟩) (cT HKl.out HB1.out.size)).trans s0;have t1:=(hb2.cell (p:=⟨K,1,none⟩) (cT HKl.out HB1.out.size)).trans s1;have t2:=(hb2.cell (p:=⟨K,2,none⟩) (cT HKl.out HB1.out.size)).trans s2;have t3:=(hb2.cell (p:=⟨K,3,none⟩) (cT HKl.out HB1.out.size)).trans s3;have HQ:=ca hq;have HB2:=ca hb2;clear hq hb2))
   go_wp2_with fail
   go_ret2
   have hs1:w.heap.size<=W1.heap.size:=cB HBW.out.drew.size HB1.out.size;refine⟨pv,qv,X,Y,rfl,HP.out.below HB2.out (cb _),HQ.out,HG.out,hYn,uK hYX,hXm,?_⟩;exact(HBW.out.drew.trans (HB1.out.mono HBW.out.drew.size)).trans (HB2.out.mono hs1)
  ·obtain⟨eX,leX,eY,leY⟩:X=b*n-a*m/\a*m<=b*n/\Y=c*m-d*n/\d*n<=c*m:=by simpa using HXY.out
   have D1:=ca (fun(W:World) (hW:Below w.heap.size w W)=>yq _ _ b a n m k W (H2.out.below hW (cb _)) (H1.out.below hW (cb _)) hbB haB leX (.inl (by omega)) hnk hm hk);have D2:=ca (fun(W:World) (hW:Below w.heap.size w W)=>yq _ _ c d m n k W (H1.out.below hW (cb _)) (H2.out.below hW (cb _)) hcB hdB leY (.inr (by omega)) hm hnk hk);rw[← eX] at D1;rw[← eY] at D2;have EX:=ca eX;have EY:=ca eY;clear eX eY leX leY hm hm' hnk;obtain⟨W,hW⟩:∃ W,W=w2.alloc (.cells #[u a,u b,u c,u d,.bool true] 183):=⟨_,rfl⟩;rw[← hW] at hbw hSA hKlt;go_wp2_with fail;rw[← hK,← hW];rw[← hK] at hSA;obtain⟨⟨q0,q1,q2,q3,q4⟩,_⟩:=hSA.cells;have HW:=ca hW;have HKl:=ca hKlt;have HBW:=ca hbw;have HKK:=ca hK;clear hW hSA hKlt hbw hK
   go_region_held3 (fun w'=>w'.cell? ⟨K,0,none⟩=some (u a)/\w'.cell? ⟨K,1,none⟩=some (u b)/\w'.cell? ⟨K,2,none⟩=some (u c)/\w'.cell? ⟨K,3,none⟩=some (u d)) (go_keep) (first|((with_reducible refine(D1.out W.drew HBW.out.drew).mono ?_);rintro e W1 ⟨pv,rfl,hp,hb1⟩;have s0:=(hb1.cell (p:=⟨K,0,none⟩) HKl.out).trans q0;have s1:=(hb1.cell (p:=⟨K,1,none⟩) HKl.out).trans q1;have s2:=(hb1.cell (p:=⟨K,2,none⟩) HKl.out).trans q2;have s3:=(hb1.cell (p:=⟨K,3,none⟩) HKl.out).trans q3;have HP:=ca hp;have HB1:=ca hb1;clear hp hb1)|((with_reducible refine(D2.out W1 (HBW.out.drew.trans (HB1.out.mono (HBW.out.drew.size)))).mono ?_);rintro e W2 ⟨qv,rfl,hq,hb2⟩;have t0:=(hb2.cell (p:=⟨K,0,none⟩) (cT HKl.out HB1.out.size)).trans s0;have t1:=(hb2.cell (p:=⟨K,1,none⟩) (cT HKl.out HB1.out.size)).trans s1;have t2:=(hb2.cell (p:=⟨K,2,none⟩) (cT HKl.out HB1.out.size)).trans s2;have t3:=(hb2.cell (p:=⟨K,3,none⟩) (cT HKl.out HB1.out.size)).trans s3;have HQ:=ca hq;have HB2:=ca hb2;clear hq hb2))
   go_wp2_with fail
   go_ret2
   have hs1:w.heap.size<=W1.heap.size:=cB HBW.out.drew.size HB1.out.size;refine⟨pv,qv,X,Y,rfl,HP.out.below HB2.out (cb _),HQ.out,HG.out,hYn,uK hYX,hXm,?_⟩;exact(HBW.out.drew.trans (HB1.out.mono HBW.out.drew.size)).trans (HB2.out.mono hs1)
theorem cr.unique {w:World}{v:Value}{m n:Nat}(h1:cr w v m) (h2:cr w v n):m=n:=by
 obtain⟨xs,⟨⟨xa,xc,rfl,_,_,hr1⟩,ok1⟩,_,rfl⟩:=h1;obtain⟨ys,⟨⟨ya,yc,he,_,_,hr2⟩,ok2⟩,_,rfl⟩:=h2;injection he with e1 e2 e3
 subst e1;have:xs=ys:=by
  refine List.ext_getElem e2 fun i h1 h2=>?_;obtain⟨b,o,rfl,r1⟩:=hr1 (by omega);obtain⟨b',o',e,r2⟩:=hr2 (by omega);injection e with e
  injection e with eb eo
  subst eb;subst eo;have a1:=r1 i h1;have a2:=r2 i h2;rw[a1] at a2;rw[jl h1,jl h2] at a2;injection a2 with a2
  injection a2 with _ a2
  simp only[GN] at a2;omega
 rw[this]
open Classical in
noncomputable def natOf (w:World) (v:Value):Nat:=if h:∃ n,cr w v n then h.choose else 0
theorem Km {w:World}{v:Value}{n:Nat}(h:cr w v n):natOf w v=n:=by
 unfold natOf;have he:∃ n,cr w v n:=⟨n,h⟩;rw[dif_pos he];exact cr.unique he.choose_spec h
theorem cr.form {w:World}{v:Value}{n:Nat}(h:cr w v n):∃ ao l c,v=.slice ao l c/\(l:Int)<=9223372036854775807/\(l=0↔n=0)/\(1<l↔B<=n):=by
 obtain⟨xs,⟨⟨xa,xc,rfl,h1,h2,hr1⟩,ok1⟩,t1,rfl⟩:=h;unfold maxLen at h2;refine⟨xa,xs.length,xc,rfl,by omega,?_,?_⟩
 ·rw[cdo t1];exact List.length_eq_zero_iff
 ·constructor
  ·intro hl;have h3:=kj t1 (by intro e;subst e;simp at hl);have h4:B^1<=B^(xs.length-1):=jP jE (by omega);rw[Es] at h4;omega
  ·intro hB;rcases jj 1 xs.length with h|h
   ·exact h
   ·exfalso;have h3:=jR ok1;have h4:B^xs.length<=B^1:=jP jE h;rw[Es] at h4;omega
theorem cr.limb {w:World}{v:Value}{n:Nat}(h:cr w v n) (h0:0<n) (hB:n<B):∃ b o c,v=.slice (some ⟨b,o,none⟩) 1 c/\w.cell? ⟨b,o,none⟩=some (u n):=by
 obtain⟨xs,⟨⟨xa,xc,rfl,h1,h2,hr1⟩,ok1⟩,t1,rfl⟩:=h;have hl:xs.length<=1:=cr.len t1 rfl (by rw[Es];exact hB);rcases xs with _|⟨x,_|⟨y,xs⟩⟩
 ·simp [val] at h0
 ·obtain⟨b,o,rfl,r⟩:=hr1 (by simp);refine⟨b,o,xc,rfl,?_⟩;have:=r 0 (by simp);simpa [val] using this
 ·simp at hl
def ComRel (w:World) (m G:Nat) (s0 s1:Value) (wr:World):Prop:=∃ M N,cr wr s0 M/\cr wr s1 N/\N<=M/\M<=m/\Nat.gcd M N=G/\Below w.heap.size w wr
theorem WE (v1 v2:Value) (m n k:Nat) (w:World) (h1:cr w v1 m) (h2:cr w v2 n) (hm:m<B^k) (hn:n<B^k) (hk:(k:Int)<=1073741824) (hG:Gr w) :
 Calls Tryz.prog 101 #[v1,v2] w (Gm w (Nat.gcd m n)):=by
 have HC:=ca (uY v1 v2 m n w h1 h2);have H1:=ca h1;have H2:=ca h2;have HG:=ca hG;obtain⟨xs,⟨⟨xa,xc,rfl,_,_,_⟩,_⟩,_⟩:=h1;obtain⟨ys,⟨⟨ya,yc,rfl,_,_,_⟩,_⟩,_⟩:=h2
 go_enter Tryz.func101,Tryz.ntmps101
 go_upto_if 10 with(go_at_call 90;refine HC.out.mono ?_;rintro e w1 ⟨rfl,q,rfl⟩)
 go_cut [0,1] (fun s0 s1 wc=>ComRel w (max m n) (Nat.gcd m n) s0 s1 wc)
 case first =>
  by_cases hlt:m<n
  ·have hc:cY m n=-1:=cq hlt;have hcm:cY m n<0:=by rw[hc];omega
   have HH:=ca hlt;clear hc hlt HC;generalize cY m n=cm at *;go_wp2_with fail
   go_meet
   case rel =>
    have hlt:=HH.out;exact⟨n,m,H2.out.below (kV (cF w.heap.size w)) (cb _),H1.out.below (kV (cF w.heap.size w)) (cb _),by omega,by omega,zt n m,kV (cF _ _)⟩
  ·have hc:¬ cY m n<0:=by
    unfold cY;rw[cf hlt];split<;>omega
   have hcm:0<=cY m n:=by omega
   have HH:=ca hlt;clear hc hlt HC;generalize cY m n=cm at *;go_wp2_with fail
   go_meet
   case rel =>
    have hlt:=HH.out;exact⟨m,n,H1.out.below (kV (cF w.heap.size w)) (cb _),H2.out.below (kV (cF w.heap.size w)) (cb _),by omega,by omega,rfl,kV (cF _ _)⟩
 case rest =>
  have hmax:max m n<B^k:=by rcases Nat.le_total m n with h|h<;>omega
  have HM:=ca hmax;have HCut:=ca hcut;clear hcut hmax hm hn HC H1 H2;generalize Nat.gcd m n=G at *;generalize max m n=mm at *;go_wp2_with fail
  go_loopw [0,1] (fun s0 s1 wr=>Hid (ComRel w mm G s0 s1 wr)) (fun _ s1 wr=>natOf wr s1)
  case atStart=>exact HCut.out
  case round =>
   obtain⟨M,N,i1,i2,hNM,hMm,hg,hbe⟩:=hrel.out;obtain⟨ao,l,c,rfl,hl1,hl2,hl3⟩:=i2.form;obtain⟨bo,l',c',rfl,hl1',_,_⟩:=i1.form;have I1:=ca i1;have I2:=ca i2;have HBe:=ca hbe;have HGG:=ca hg;have hMk:M<B^k:=by have:=HM.out;omega
   have HMk:=ca hMk;have HL2:=ca hl2;have HL3:=ca hl3;clear i1 i2 hbe hg hMk hl2 hl3 hrel HCut;by_cases h1:1<l
   ·have h1i:(1:Int)<(l:Int):=by omega
    go_wp2_with fail;refine(ceI _ _ M N k wr I1.out I2.out hNM (HL3.out.1 h1) HMk.out hk).mono ?_;rintro e w1 ⟨p,q,X,Y,rfl,hp,hq,hXY,hYN,hYX,hXM,hb⟩;have HP:=ca hp;have HQ:=ca hq;have HXY:=ca hXY;have HB1:=ca hb;clear hp hq hXY hb;go_wp2_with fail
    go_roundw
    case rel=>exact⟨X,Y,HP.out,HQ.out,hYX,by omega,by rw[HXY.out];exact HGG.out,HBe.out.trans (HB1.out.mono HBe.out.size)⟩
    case measure=>rw[Km HQ.out,Km I2.out];exact hYN
   ·by_cases h0:l=0
    ·have hN0:N=0:=HL2.out.1 h0;have h0b:(((l:Nat):Int) == 0)=true:=by subst h0;rfl
     have h0i:¬ (1:Int)<(l:Int):=by omega
     have HN0:=ca hN0;clear h1 h0 hN0;go_wp2_with fail
     go_ret
     refine⟨_,rfl,?_,HBe.out⟩;have:=HGG.out;rw[HN0.out,Nat.gcd_zero_right] at this;rw[← this];exact I1.out
    ·have hNB:N<B:=by
      rcases jj N B with h|h
      ·exact h
      ·exact absurd (HL3.out.2 h) h1
     have hN0:0<N:=by
      rcases jr N with h|h
      ·exact absurd (HL2.out.2 h) h0
      ·exact h
     have h0b:(((l:Nat):Int) == 0)=false:=by rw[jn];omega
     have h0i:¬ (1:Int)<(l:Int):=by omega
     clear h1 h0;by_cases hN1:N=1
     ·have HI:=ca (GU _ N wr I2.out hN1);have HG1:=ca hN1;clear hN1;go_wp2_with fail;refine HI.out.mono ?_;rintro e w1 ⟨rfl,rfl⟩;go_wp2_with fail
      go_ret
      refine⟨_,rfl,?_,HBe.out⟩;have:=HGG.out;rw[HG1.out,Nat.gcd_one_right] at this;rw[← this,← HG1.out];exact I2.out
     ·have HI:=ca (GL _ N wr I2.out hN1);clear hN1;go_wp2_with fail;refine HI.out.mono ?_;rintro e w1 ⟨rfl,rfl⟩;go_wp2_with fail;refine(Yd _ _ M N k wr I1.out I2.out hN0 HMk.out hk).mono ?_;rintro e w1 ⟨p,q,rfl,hp,hq,hb⟩;obtain⟨ro,rl,rc,rfl,hr1,hr2,hr3⟩:=hq.form;have HQ:=ca hq;have HB1:=ca hb;have HR2:=ca hr2;have HR3:=ca hr3;clear hp hq hb hr2 hr3;by_cases hz:rl=0
      ·have hzb:(((rl:Nat):Int) == 0)=true:=by subst hz;rfl
       have HZ:=ca (HR2.out.1 hz);clear hz;go_wp2_with fail
       go_ret
       refine⟨_,rfl,?_,HBe.out.trans (HB1.out.mono HBe.out.size)⟩;have:=HGG.out;rw[zt,Nat.gcd_rec,HZ.out,Nat.gcd_zero_left] at this;rw[← this];exact I2.out.below HB1.out (cb _)
      ·have hzb:(((rl:Nat):Int) == 0)=false:=by rw[jn];omega
       have hR0:0<M%N:=by
        rcases jr (M%N) with h|h
        ·exact absurd (HR2.out.2 h) hz
        ·exact h
       have hRB:M%N<B:=Je (jJ _ hN0) hNB;obtain⟨yb,yo,yc',hye,hcy⟩:=I2.out.limb hN0 hNB;obtain⟨zb,zo,zc',hze,hcz⟩:=HQ.out.limb hR0 hRB;injection hye with e1 e2 e3
       injection hze with f1 f2 f3
       subst e1 e2 e3 f1 f2 f3;have hcy1:w1.cell? ⟨yb,yo,none⟩=some (u N):=(HB1.out.cell (p:=⟨yb,yo,none⟩) (kA wr _ hcy)).trans hcy;have hgc:Nat.gcd N (M%N)=G:=by
        have:=HGG.out;rw[zt,Nat.gcd_rec,zt] at this;exact this
       have hGr:Gr w1:=(HG.out.below HBe.out HG.out.size).below HB1.out (cB HG.out.size HBe.out.size);have HGr:=ca hGr;have HCW:=ca (fun W hW=>zP N (M%N) hNB hRB W hW);rw[hgc] at HCW;have hGB:G<B:=by rw[← hgc];exact gcd_lt hNB hRB
       have HWd:=ca (fun W=>JT G W hGB);generalize M%N=Rr at *;clear hgc hGr hcy;go_wp2_with fail
       go_region_held3 (fun w'=>w'.cell? ⟨yb,yo,none⟩=some (u N)/\w'.cell? ⟨zb,zo,none⟩=some (u Rr)) (go_keep) (first|((with_reducible refine(HCW.out w1.drew (HGr.out.below (cF _ _).drew HGr.out.size)).mono ?_);rintro e W1 ⟨rfl,rfl⟩)|((with_reducible refine(HWd.out _).mono ?_);rintro e W2 ⟨vr,rfl,hv,hb2⟩;have HV:=ca hv;have HB2:=ca hb2;have g1:=(hb2.cell (p:=⟨yb,yo,none⟩) (kA w1 _ hcy1)).trans hcy1;have g2:=(hb2.cell (p:=⟨zb,zo,none⟩) (kA w1 _ hcz)).trans hcz;clear hv hb2))
       go_wp2_with fail
       go_ret
       refine⟨vr,rfl,HV.out,?_⟩;have b1:Below w.heap.size w w1:=HBe.out.trans (HB1.out.mono HBe.out.size);exact b1.drew.trans (HB2.out.mono b1.size)
end Go.Proofs.YtcgiaclelnmhbabGreatDoor
