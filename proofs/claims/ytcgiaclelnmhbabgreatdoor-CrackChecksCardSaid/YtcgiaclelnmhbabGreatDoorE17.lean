/- Part 17. -/
import Derived.Laws.IdiomStrings
import Derived.RangeFuncBox
import Derived.Test.YtcgiaclelnmhbabGreatDoorE16
set_option linter.all false

namespace Go.Proofs.YtcgiaclelnmhbabGreatDoor
open Go Go.RowKit Go.Proofs Lim
abbrev lo (neg:Bool) (n l:Nat):Value:=.agg #[.bool neg,u n,u l,.pointer none]
abbrev wi (neg:Bool) (p:Addr):Value:=.agg #[.bool neg,u 0,u 0,.pointer (some p)]
def WTy (w:World) (b:Nat):Prop:=∃ cs,w.heap[b]?=some (.cells cs 122 (0,0))
theorem WTy.to {w w':World}{b:Nat}(h:WTy w b) (hb:w'.heap[b]?=w.heap[b]?):WTy w' b:=let ⟨cs,h⟩:=h;⟨cs,hb.trans h⟩
inductive Num (w:World) (v:Value) (neg:Bool) (n d:Nat):Prop
 |low (l:Nat) (hv:v=lo neg n l) (hd:d=l+1) (hn:n<B) (hdB:d<B)
 |wide (b:Nat) (x y:Value) (hv:v=wi neg ⟨b,0,none⟩) (hx:w.cell? ⟨b,0,none⟩=some x) (hy:w.cell? ⟨b,1,none⟩=some y) (h1:cr w x n) (h2:cr w y d) (hB:(B<=n\/B<=d)/\WTy w b) (h0:0<n) (hd:0<d)
theorem Num.below {w w':World}{v:Value}{neg:Bool}{n d:Nat}{k:Nat}(h:Num w v neg n d) (hb:Below k w w') (hk:w.heap.size<=k):Num w' v neg n d:=by
 cases h with
 |low l hv hd hn hdB=>exact .low l hv hd hn hdB
 |wide b x y hv hx hy h1 h2 hB h0 hd =>
  have hlt:=kA w _ hx;exact .wide b x y hv ((hb.cell (p:=⟨b,0,none⟩) (cT hlt hk)).trans hx) ((hb.cell (p:=⟨b,1,none⟩) (cT hlt hk)).trans hy) (h1.below hb hk) (h2.below hb hk) ⟨hB.1,hB.2.to (hb.block b (cT hlt hk))⟩ h0 hd
def IsQ (w:World) (v:Value) (r:Rat):Prop:=Num w v (decide (r.num<0)) r.num.natAbs r.den
theorem IsQ.below {w w':World}{v:Value}{r:Rat}{k:Nat}(h:IsQ w v r) (hb:Below k w w') (hk:w.heap.size<=k):IsQ w' v r:=Num.below h hb hk
def Siz (r:Rat) (k:Nat):Prop:=r.num.natAbs<B^k/\r.den<B^k
def JP (w:World) (r:Rat) (e:Ending) (w':World):Prop:=∃ v,e=.returned v/\IsQ w' v r/\Below w.heap.size w w'
def Val (w:World) (v:Value) (e:Ending) (w':World):Prop:=e=.returned v/\Below w.heap.size w w'
theorem jS (w:World) (o:Obj):Below w.heap.size w (w.alloc o):=(cF _ w).alloc (cb _) o
theorem KZ (neg:Bool) (n d:Nat) (hd:d<B) (w:World) :
 Calls Tryz.prog 30 #[.bool neg,u n,u d] w (Val w (lo (neg&&!decide (n=0)) n (ze d 1))):=by
 have k0:IntKind.u64.wrap ((d:Nat)-(1:Int))=((ze d 1:Nat):Int):=by
  have:=caw (x:=d) (y:=1) hd (by decide);have h2:=Kk d 1;have h3:=cdg d 1;rw[zQ];generalize CS d 1=c at *;generalize ze d 1=b at *;unfold B at *;omega
 generalize ze d 1=l at *;have k1:(((n:Nat):Int) != 0)=!decide (n=0):=by rw[Gs];simp
 go_enter Tryz.func30,Tryz.ntmps30
 go_wp2_with fail
 ·rename_i h;subst h;refine jT (v:=lo (!decide (n=0)) n l) (by simp [results,Tryz.results30,go_sem]) rfl ?_;exact⟨by simp,jS w _⟩
 ·rename_i h;have h:neg=false:=by simpa using h
  subst h;refine jT (v:=lo false n l) (by simp [results,Tryz.results30,go_sem]) rfl ?_;exact⟨by simp,jS w _⟩
theorem Cb (neg:Bool) (n l:Nat) (p:Option Addr) (hd:l+1<B) (w:World) :
 Calls Tryz.prog 67 #[.agg #[.bool neg,u n,u l,.pointer p]] w (Val w (u (l+1))):=by
 have k0:IntKind.u64.wrap ((l:Nat)+(1:Int))=((l+1:Nat):Int):=by
  exact CW (x:=l) (y:=1) hd
 go_enter Tryz.func67,Tryz.ntmps67
 go_wp2_with fail
 go_ret
 exact⟨rfl,jS w _⟩
theorem Cy (x y:Nat) (hx:x<B) (hy:y<B) (w:World) :
 Calls Tryz.prog 99 #[u x,u y] w (fun e w'=>e=.returned (.tuple #[u (jo x y),.bool (decide (kh x y=0))])/\Below w.heap.size w w'):=by
 go_enter Tryz.func99,Tryz.ntmps99
 go_wp2_with fail;refine(cac x y hx hy w).mono ?_;rintro e w' ⟨rfl,rfl⟩;have k0:(((kh x y:Nat):Int) == 0)=decide (kh x y=0):=by rw[Gs];simp
 go_wp2_with fail;refine jT (v:=.tuple #[u (jo x y),.bool (decide (kh x y=0))]) (by simp [results,Tryz.results99,go_sem]) rfl ?_;exact⟨rfl,by first|exact cF _ _|exact jS w _⟩
def yE (a:Bool) (x:Nat) (b:Bool) (y:Nat):Bool×Nat:=if a=b then (a,x+y) else if y<=x then (a,x-y) else (b,y-x)
def ciu (w:World) (neg:Bool) (t:Nat) (e:Ending) (w':World):Prop :=
 ∃ s,s<B/\∃ ok:Bool,(ok=true->s=t)/\e=.returned (.tuple #[.bool neg,u s,.bool ok])/\Below w.heap.size w w'
attribute [local go_sem] Ja
theorem cbu (a b:Bool) (x y:Nat) (hx:x<B) (hy:y<B) (w:World) :
 Calls Tryz.prog 100 #[.bool a,u x,.bool b,u y] w (ciu w (yE a x b y).1 (yE a x b y).2):=by
 have k0:=KR x y;have k1:=cdn hx hy;have k2:=GG x y;have K0:=ca k0;have k5:(((kS x y:Nat):Int) == 0)=decide (kS x y=0):=by rw[Gs];simp
 clear k0;by_cases hab:a=b
 ·subst hab
  go_enter Tryz.func100,Tryz.ntmps100
  go_wp2_with fail;refine jT (v:=.tuple #[.bool a,u (uz x y),.bool (decide (kS x y=0))]) (by simp [results,Tryz.results100,go_sem]) rfl ?_;refine⟨uz x y,k2,decide (kS x y=0),?_,by simp [yE],by first|exact cF _ _|exact jS w _⟩;intro h;have h:kS x y=0:=by simpa using h
  have:=K0.out;rw[h] at this;simp [yE];omega
 ·have hab':(a == b)=false:=by simpa using hab
  by_cases hc:y<=x
  ·have k3:IntKind.u64.wrap ((x:Int)-(y:Int))=((x-y:Nat):Int):=zM hx hc
   go_enter Tryz.func100,Tryz.ntmps100
   go_wp2_with fail;refine jT (v:=.tuple #[.bool a,u (x-y),.bool true]) (by simp [results,Tryz.results100,go_sem]) rfl ?_;exact⟨x-y,by omega,true,by simp [yE,hab,hc],by simp [yE,hab,hc],by first|exact cF _ _|exact jS w _⟩
  ·have k3:IntKind.u64.wrap ((y:Int)-(x:Int))=((y-x:Nat):Int):=zM hy (by omega)
   go_enter Tryz.func100,Tryz.ntmps100
   go_wp2_with fail;refine jT (v:=.tuple #[.bool b,u (y-x),.bool true]) (by simp [results,Tryz.results100,go_sem]) rfl ?_;exact⟨y-x,by omega,true,by simp [yE,hab,hc],by simp [yE,hab,hc],by first|exact cF _ _|exact jS w _⟩
theorem JI {X W:World}{b:Nat}{a0 a1 a2 a3:Value}(hb:Below X.heap.size X W) (h0:X.cell? ⟨b,0,none⟩=some a0) (h1:X.cell? ⟨b,1,none⟩=some a1) (h2:X.cell? ⟨b,2,none⟩=some a2) (h3:X.cell? ⟨b,3,none⟩=some a3) :
 W.cell? ⟨b,0,none⟩=some a0/\W.cell? ⟨b,1,none⟩=some a1/\W.cell? ⟨b,2,none⟩=some a2/\W.cell? ⟨b,3,none⟩=some a3:=by
 have hlt:=kA X _ h0;exact⟨(hb.cell (p:=⟨b,0,none⟩) hlt).trans h0,(hb.cell (p:=⟨b,1,none⟩) hlt).trans h1,(hb.cell (p:=⟨b,2,none⟩) hlt).trans h2,(hb.cell (p:=⟨b,3,none⟩) hlt).trans h3⟩
theorem boxa {X W:World}(w:World) {a0 a1 a2 a3:Value}(hb:Below X.heap.size X W) (h0:X.cell? ⟨w.heap.size,0,none⟩=some a0:=by assumption) (h1:X.cell? ⟨w.heap.size,1,none⟩=some a1:=by assumption) (h2:X.cell? ⟨w.heap.size,2,none⟩=some a2:=by assumption) (h3:X.cell? ⟨w.heap.size,3,none⟩=some a3:=by assumption) :
 W.cell? ⟨w.heap.size,0,none⟩=some a0/\W.cell? ⟨w.heap.size,1,none⟩=some a1/\W.cell? ⟨w.heap.size,2,none⟩=some a2/\W.cell? ⟨w.heap.size,3,none⟩=some a3:=JI hb h0 h1 h2 h3
theorem ut {X W:World}(w:World) {a0 a1 a2 a3 b0 b1 b2 b3:Value}(hb:Below X.heap.size X W) (h0:X.cell? ⟨w.heap.size,0,none⟩=some a0:=by assumption) (h1:X.cell? ⟨w.heap.size,1,none⟩=some a1:=by assumption) (h2:X.cell? ⟨w.heap.size,2,none⟩=some a2:=by assumption) (h3:X.cell? ⟨w.heap.size,3,none⟩=some a3:=by assumption) (k0:X.cell? ⟨w.heap.size+1,0,none⟩=some b0:=by assumption) (k1:X.cell? ⟨w.heap.size+1,1,none⟩=some b1:=by assumption) (k2:X.cell? ⟨w.heap.size+1,2,none⟩=some b2:=by assumption) (k3:X.cell? ⟨w.heap.size+1,3,none⟩=some b3:=by assumption) :
 W.cell? ⟨w.heap.size,0,none⟩=some a0/\W.cell? ⟨w.heap.size,1,none⟩=some a1/\W.cell? ⟨w.heap.size,2,none⟩=some a2/\W.cell? ⟨w.heap.size,3,none⟩=some a3/\W.cell? ⟨w.heap.size+1,0,none⟩=some b0/\W.cell? ⟨w.heap.size+1,1,none⟩=some b1/\W.cell? ⟨w.heap.size+1,2,none⟩=some b2/\W.cell? ⟨w.heap.size+1,3,none⟩=some b3:=by
 obtain⟨p0,p1,p2,p3⟩:=JI hb h0 h1 h2 h3;exact⟨p0,p1,p2,p3,JI hb k0 k1 k2 k3⟩
theorem box2 (w:World) (a0 a1 a2 a3 b0 b1 b2 b3:Value):∃ W,W=(w.alloc (.cells #[a0,a1,a2,a3] 45)).alloc (.cells #[b0,b1,b2,b3] 45)/\Below w.heap.size w W/\
 (W.cell? ⟨w.heap.size,0,none⟩=some a0/\W.cell? ⟨w.heap.size,1,none⟩=some a1/\W.cell? ⟨w.heap.size,2,none⟩=some a2/\W.cell? ⟨w.heap.size,3,none⟩=some a3)/\
 (W.cell? ⟨w.heap.size+1,0,none⟩=some b0/\W.cell? ⟨w.heap.size+1,1,none⟩=some b1/\W.cell? ⟨w.heap.size+1,2,none⟩=some b2/\W.cell? ⟨w.heap.size+1,3,none⟩=some b3):=by
 refine⟨_,rfl,(jS w _).alloc (jS w _).size _,?_,?_⟩
 ·have h:((w.alloc (.cells #[a0,a1,a2,a3] 45)).alloc (.cells #[b0,b1,b2,b3] 45)).heap[w.heap.size]?=some (.cells #[a0,a1,a2,a3] 45):=by
   show ((w.heap.push _).push _)[w.heap.size]?=_;simp [cfh]
  unfold World.cell?;rw[h];exact⟨rfl,rfl,rfl,rfl⟩
 ·have h:((w.alloc (.cells #[a0,a1,a2,a3] 45)).alloc (.cells #[b0,b1,b2,b3] 45)).heap[w.heap.size+1]?=some (.cells #[b0,b1,b2,b3] 45):=by
   show ((w.heap.push _).push _)[w.heap.size+1]?=_;rw[cfh,cq (by simp)]
  unfold World.cell?;rw[h];exact⟨rfl,rfl,rfl,rfl⟩
def Box (W:World) (b:Nat) (a0 a1 a2 a3:Value):Prop:=W.heap[b]?=some (.cells #[a0,a1,a2,a3] 45 (0,0))
theorem Box.below {W W':World}{b k:Nat}{a0 a1 a2 a3:Value}(h:Box W b a0 a1 a2 a3) (hb:Below k W W') (hk:W.heap.size<=k):Box W' b a0 a1 a2 a3 :=
 (hb.block b (cT (Array.getElem?_eq_some_iff.1 h).1 hk)).trans h
theorem Box.cells {W:World}{b:Nat}{a0 a1 a2 a3:Value}(h:Box W b a0 a1 a2 a3) :
 W.cell? ⟨b,0,none⟩=some a0/\W.cell? ⟨b,1,none⟩=some a1/\W.cell? ⟨b,2,none⟩=some a2/\W.cell? ⟨b,3,none⟩=some a3:=by
 unfold Box at h;simp [World.cell?,h]
theorem Box.frozen {W:World}{b:Nat}{a0 a1 a2 a3:Value}(h:Box W b a0 a1 a2 a3) (i:Nat):W.frozen? ⟨b,i,none⟩=false:=by
 unfold Box at h;simp [World.frozen?,h]
theorem Box.zed {X W:World}{b:Nat}{a0 a1 a2 a3:Value}(h:Box X b a0 a1 a2 a3) (hb:Below X.heap.size X W) :
 W.cell? ⟨b,0,none⟩=some a0/\W.cell? ⟨b,1,none⟩=some a1/\W.cell? ⟨b,2,none⟩=some a2/\W.cell? ⟨b,3,none⟩=some a3/\W.frozen? ⟨b,0,none⟩=false/\W.frozen? ⟨b,1,none⟩=false/\W.frozen? ⟨b,2,none⟩=false/\W.frozen? ⟨b,3,none⟩=false:=by
 have hz:=h.below hb (cb _);obtain⟨p0,p1,p2,p3⟩:=hz.cells;exact⟨p0,p1,p2,p3,hz.frozen 0,hz.frozen 1,hz.frozen 2,hz.frozen 3⟩
theorem boxz (w:World):∃ W,W=w.alloc (.cells #[.bool false,.int .u64 0,.int .u64 0,.pointer none] 45)/\Below w.heap.size w W/\Box W w.heap.size (.bool false) (.int .u64 0) (.int .u64 0) (.pointer none)/\W.heap.size=w.heap.size+1 :=
 ⟨_,rfl,jS w _,YE w _,by show (w.heap.push _).size=_;simp⟩
theorem box3 (w:World) (a0 a1 a2 a3 b0 b1 b2 b3:Value):∃ W,W=((w.alloc (.cells #[a0,a1,a2,a3] 45)).alloc (.cells #[b0,b1,b2,b3] 45)).alloc (.cells #[.bool false,.int .u64 0,.int .u64 0,.pointer none] 45)/\Below w.heap.size w W/\
 (W.cell? ⟨w.heap.size,0,none⟩=some a0/\W.cell? ⟨w.heap.size,1,none⟩=some a1/\W.cell? ⟨w.heap.size,2,none⟩=some a2/\W.cell? ⟨w.heap.size,3,none⟩=some a3)/\
 (W.cell? ⟨w.heap.size+1,0,none⟩=some b0/\W.cell? ⟨w.heap.size+1,1,none⟩=some b1/\W.cell? ⟨w.heap.size+1,2,none⟩=some b2/\W.cell? ⟨w.heap.size+1,3,none⟩=some b3)/\
 Box W (w.heap.size+1+1) (.bool false) (.int .u64 0) (.int .u64 0) (.pointer none):=by
 obtain⟨W,hW,hb,hf,hg⟩:=box2 w a0 a1 a2 a3 b0 b1 b2 b3;rw[← hW];have hs:W.heap.size=w.heap.size+1+1:=by
  rw[hW];show ((w.heap.push _).push _).size=_;simp
 have hb2:=jS W (.cells #[.bool false,.int .u64 0,.int .u64 0,.pointer none] 45);refine⟨_,rfl,hb.trans (hb2.mono hb.size),JI hb2 hf.1 hf.2.1 hf.2.2.1 hf.2.2.2,JI hb2 hg.1 hg.2.1 hg.2.2.1 hg.2.2.2,?_⟩;rw[← hs];exact YE W _
theorem zk {w W0 W1:World}(h:Below w.heap.size w W0) (k:Below W0.drew.heap.size W0.drew W1):Below w.heap.size w W1 :=
 h.drew.trans (k.mono h.drew.size)
theorem cG {w W0 W1:World}(h:Below w.heap.size w W0) (k:Below W0.heap.size W0 W1):Below w.heap.size w W1 :=
 h.trans (k.mono h.size)
theorem box1 (w:World) (a0 a1 a2 a3:Value):∃ W,W=w.alloc (.cells #[a0,a1,a2,a3] 45)/\Below w.heap.size w W/\
 (W.cell? ⟨w.heap.size,0,none⟩=some a0/\W.cell? ⟨w.heap.size,1,none⟩=some a1/\W.cell? ⟨w.heap.size,2,none⟩=some a2/\W.cell? ⟨w.heap.size,3,none⟩=some a3):=by
 refine⟨_,rfl,jS w _,?_⟩;have h:(w.alloc (.cells #[a0,a1,a2,a3] 45)).heap[w.heap.size]?=some (.cells #[a0,a1,a2,a3] 45):=by
  show (w.heap.push _)[w.heap.size]?=_;simp
 unfold World.cell?;rw[h];exact⟨rfl,rfl,rfl,rfl⟩
def Eu (a c:Int):Int:=if a=0 then c else a
theorem or_two (a c:Int) (b:Nat) (w:World) (h0:w.cell? ⟨b,0,none⟩=some (.int .i64 a)) (h1:w.cell? ⟨b,1,none⟩=some (.int .i64 c)) :
 Calls Tryz.prog 72 #[.slice (some ⟨b,0,none⟩) 2 2] w (Val w (.int .i64 (Eu a c))):=by
 obtain⟨f,hf⟩:∃ f,f=Eu a c:=⟨_,rfl⟩;rw[← hf];have HF:=ca hf;clear hf
 go_enter Tryz.func72,Tryz.ntmps72
 go_wp2_with fail
 go_loopw [8] (fun i wr=>wr=w/\(i=.int .i64 0\/(i=.int .i64 1/\a=0)\/(i=.int .i64 2/\a=0/\c=0))) (fun i _=>2-(intOf i).toNat)
 case atStart=>exact⟨rfl,.inl rfl⟩
 case round =>
  obtain⟨rfl,rfl|⟨rfl,ha⟩|⟨rfl,ha,hc⟩⟩:=hrel
  ·by_cases ha:a=0
   ·subst ha;go_wp2_with fail
    go_roundw
    case rel=>simp
    case measure=>simp [intOf]
   ·go_wp2_with fail
    go_ret
    have:=HF.out;rw[Eu,cf ha] at this;rw[this];exact⟨rfl,cF _ _⟩
  ·subst ha;by_cases hc:c=0
   ·subst hc;go_wp2_with fail
    go_roundw
    case rel=>simp
    case measure=>simp [intOf]
   ·go_wp2_with fail
    go_ret
    have:=HF.out;rw[Eu,cq rfl] at this;rw[this];exact⟨rfl,cF _ _⟩
  ·subst ha hc;go_wp2_with fail
   go_ret
   have:=HF.out;exact⟨by rw[this];rfl,cF _ _⟩
theorem cgp (m n:Nat):Eu (cY (m/B) (n/B)) (cY (m%B) (n%B))=cY m n:=by
 have h1:=kf m B;have h2:=kf n B;have h3:=jJ m jE;have h4:=jJ n jE;generalize m/B=q at *;generalize n/B=r at *;generalize m%B=s at *;generalize n%B=t at *;generalize B=b at *;unfold Eu cY;rcases Kc q r with h|h|h
 ·have:b*q+b<=b*r:=by rw[← Nat.mul_succ];exact ja _ h
  have g1:m<n:=by omega
  have g2:¬ q=r:=by omega
  simp [*]
 ·subst h;simp;omega
 ·have:b*r+b<=b*q:=by rw[← Nat.mul_succ];exact ja _ h
  have g1:n<m:=by omega
  have g2:¬ q<r:=by omega
  have g3:¬ m<n:=by omega
  simp [*]
theorem Un (neg1 neg2:Bool) (n1 l1 n2 l2:Nat) (h1:n1<B) (h2:l1+1<B) (h3:n2<B) (h4:l2+1<B) (w:World) :
 Calls Tryz.prog 64 #[lo neg1 n1 l1,lo neg2 n2 l2] w (Val w (.int .i64 (cY (n1*(l2+1)) (n2*(l1+1))))):=by
 have HB2:=ca (fun W=>Cb neg2 n2 l2 none h4 W);have HB1:=ca (fun W=>Cb neg1 n1 l1 none h2 W);have HM1:=ca (fun W=>cac n1 (l2+1) h1 h4 W);have HM2:=ca (fun W=>cac n2 (l1+1) h3 h2 W)
 go_enter Tryz.func64,Tryz.ntmps64
 go_wp2_with fail;obtain⟨W0,hW0,hb0,⟨f0,f1,f2,f3⟩,⟨g0,g1,g2,g3⟩⟩:=box2 w (.bool neg1) (u n1) (u l1) (.pointer none) (.bool neg2) (u n2) (u l2) (.pointer none);rw[← hW0];clear hW0
 go_region_held3 (fun w'=>(w'.cell? ⟨w.heap.size,0,none⟩=some (.bool neg1)/\w'.cell? ⟨w.heap.size,1,none⟩=some (u n1)/\w'.cell? ⟨w.heap.size,2,none⟩=some (u l1)/\w'.cell? ⟨w.heap.size,3,none⟩=some (.pointer none))/\(w'.cell? ⟨w.heap.size+1,0,none⟩=some (.bool neg2)/\w'.cell? ⟨w.heap.size+1,1,none⟩=some (u n2)/\w'.cell? ⟨w.heap.size+1,2,none⟩=some (u l2)/\w'.cell? ⟨w.heap.size+1,3,none⟩=some (.pointer none))) (go_keep) (first|((with_reducible refine(HB2.out _).mono ?_);rintro e W1 ⟨rfl,hb⟩;(obtain⟨_,_,_,_,_,_,_,_⟩:=ut w hb))|((with_reducible refine(HM1.out _).mono ?_);rintro e W2 ⟨rfl,rfl⟩))
 have HBa:=ca (zk hb0 hb);clear hb0 hb;have hfin:Eu (cY (kh n1 (l2+1)) (kh n2 (l1+1))) (cY (jo n1 (l2+1)) (jo n2 (l1+1)))=cY (n1*(l2+1)) (n2*(l1+1)):=cgp _ _;have HFin:=ca hfin;clear hfin;generalize kh n1 (l2+1)=hi1 at *;generalize jo n1 (l2+1)=lo1 at *;go_wp2_with fail
 go_region_held3 (fun w'=>(w'.cell? ⟨w.heap.size,0,none⟩=some (.bool neg1)/\w'.cell? ⟨w.heap.size,1,none⟩=some (u n1)/\w'.cell? ⟨w.heap.size,2,none⟩=some (u l1)/\w'.cell? ⟨w.heap.size,3,none⟩=some (.pointer none))/\(w'.cell? ⟨w.heap.size+1,0,none⟩=some (.bool neg2)/\w'.cell? ⟨w.heap.size+1,1,none⟩=some (u n2)/\w'.cell? ⟨w.heap.size+1,2,none⟩=some (u l2)/\w'.cell? ⟨w.heap.size+1,3,none⟩=some (.pointer none))) (go_keep) (first|((with_reducible refine(HB1.out _).mono ?_);rintro e W3 ⟨rfl,hb⟩;(obtain⟨_,_,_,_,_,_,_,_⟩:=ut w hb))|((with_reducible refine(HM2.out _).mono ?_);rintro e W4 ⟨rfl,rfl⟩))
 have HBb:=ca (zk HBa.out hb);clear HBa hb;generalize kh n2 (l1+1)=hi2 at *;generalize jo n2 (l1+1)=lo2 at *;go_wp2_with fail;refine(Gk hi1 hi2 _).mono ?_;rintro e W5 ⟨rfl,rfl⟩;go_wp2_with fail;refine(Gk lo1 lo2 _).mono ?_;rintro e W6 ⟨rfl,rfl⟩;go_wp2_with fail;refine(or_two (cY hi1 hi2) (cY lo1 lo2) W3.heap.size _ (YV ..) (YV ..)).mono ?_;rintro e W7 ⟨rfl,hb7⟩;go_wp2_with fail
 go_ret
 rw[HFin.out];refine⟨rfl,HBb.out.trans ((jS W3 _).trans (hb7.mono (jS W3 _).size) |>.mono HBb.out.size)⟩
abbrev b8 (c:UInt8):Value:=.int .u8 (c.toNat:Int)
abbrev str (l:List UInt8):Value:=.string ⟨l.toArray⟩
def Jl (w:World) (b:Nat) (l:List UInt8):Prop:=∃ T:List Value,w.heap[b]?=some (.cells (l.map b8++T).toArray 5 (0,0))
theorem Jl.lt {w:World}{b:Nat}{l:List UInt8}(h:Jl w b l):b<w.heap.size:=let ⟨_,h⟩:=h;(Array.getElem?_eq_some_iff.1 h).1
theorem Jl.cell {w:World}{b:Nat}{l:List UInt8}(h:Jl w b l) (i:Nat) (hi:i<l.length):w.cell? ⟨b,i,none⟩=some (b8 l[i]):=by
 obtain⟨T,h⟩:=h;simp only[World.cell?,h];simp [hi,JO]
theorem Jl.frozen {w:World}{b:Nat}{l:List UInt8}(h:Jl w b l) (i:Nat):w.frozen? ⟨b,i,none⟩=false:=by
 obtain⟨T,h⟩:=h;simp only[World.frozen?,h];simp
theorem Jl.set {w:World}{b:Nat}{l:List UInt8}(h:Jl w b l) (i:Nat) (c:UInt8) (hi:i<l.length):Jl (w.setCell ⟨b,i,none⟩ (b8 c)) b (l.set i c):=by
 obtain⟨T,h⟩:=h;refine⟨T,?_⟩;simp only[World.setCell,cdf];simp [h,List.map_set,List.set_append_left,hi]
theorem Jl.of_block {w w':World}{b:Nat}{l:List UInt8}(h:Jl w b l) (hb:w'.heap[b]?=w.heap[b]?):Jl w' b l:=let ⟨T,h⟩:=h;⟨T,by rw[hb,h]⟩
theorem Boxed.of_block {W W':World}{B:Nat}{t:TypeId}{v:Value}(h:Boxed W B t v) (hb:W'.heap[B]?=W.heap[B]?):Boxed W' B t v:=hb.trans h
theorem cdM (n:Nat):(madeCells #[Value.int .u8 0] n).toList=(List.replicate n (0:UInt8)).map b8:=by
 have h:(fun x=>(#[Value.int .u8 0]:Array Value)[x%1]!)=fun _=>b8 0:=by funext x;simp [Nat.mod_one]
 show ((Array.range n).map (fun x=>(#[Value.int .u8 0]:Array Value)[x%1]!)).toList=_;rw[h];simp [List.map_const']
theorem info_u8:(Tryz.prog.info? 5).map (fun i=>(i.zero,i.size,i.bytes))=some (some (.int .u8 0),1,1):=by kernel_rfl
theorem cgY {w w1:World}{n:Nat}(hown:w1.ownsRow w.heap.size 5 1 (.slice (some ⟨w.heap.size,0,none⟩) n n) n (madeCells #[Value.int .u8 0] n).toList)
 (hgrow:w.grownBy w1 none):Jl w1 w.heap.size (List.replicate n 0)/\Below w.heap.size w w1:=by
 rw[cdM] at hown;obtain⟨h1,⟨h2,_⟩|⟨g,cap,cur,hv,hb,hg,hn,hm,hs,ht⟩⟩:=hown
 ·cases h2
 ·injection hv with hv1 hv2 hv3
  injection hv1 with hv1
  injection hv1 with hv1
  subst hv1;refine⟨⟨cur.toList.drop (n*1),?_⟩,(cF _ w).grown hgrow (cb _) (by intro k hk;cases hk)⟩;rw[hg,← ht,jZ]
theorem cgI (j:Nat) (r:List UInt8) (c:UInt8):(List.replicate (j+1) (0:UInt8)++r).set j c=List.replicate j 0++(c::r):=by
 rw[List.replicate_succ',uU];rw[List.set_append_right _ _ (by simp)];simp
def Jq (pre:List Nat):List UInt8:=(pre.map EW).reverse
theorem ceR (pre:List Nat) (d:Nat):Jq (pre++[d])=EW d::Jq pre:=by unfold Jq;simp
theorem chj (pre:List Nat):(Jq pre).length=pre.length:=by unfold Jq;simp
theorem cih {d:Nat}(h:d<10):KA d=b8 (EW d):=by
 unfold KA b8;rw[Gd h];congr 1
def uA (w:World) (l:List UInt8) (e:Ending) (w':World):Prop:=e=.returned (str l)/\Below w.heap.size w w'
theorem ccv (v:Value) (n:Nat) (w:World) (h:cr w v n) :
 Calls Tryz.prog 68 #[v] w (fun e w'=>e=.returned (.func (.func 92) #[] #[.pointer (some ⟨w.heap.size,0,none⟩)])/\w'=w.alloc (.cells #[v] 90)):=by
 obtain⟨xs,⟨⟨xa,xc,rfl,_⟩,_⟩,_⟩:=h
 go_enter Tryz.func68,Tryz.ntmps68
 go_wp2_with fail
 go_ret
 exact⟨rfl,rfl⟩
theorem chr (v:Value) (w:World) (h:cr w v 0):Calls Tryz.prog 38 #[v] w (uA w (je 0)):=by
 obtain⟨ao,l,c,rfl,hl,hz,hB⟩:=h.form;have hl0:l=0:=hz.2 rfl;subst hl0;have e:je 0=[48]:=rfl;rw[e];clear h
 go_enter Tryz.func38,Tryz.ntmps38
 go_wp2_with fail
 go_ret
 exact⟨rfl,cF _ _⟩
theorem Jr {n k m:Nat}(hk:n<B^k) (hm:k=m):(uB n).length<=20*m:=by
 subst hm;refine chP (cT hk ?_);rw[Nat.pow_mul];exact Nat.pow_le_pow_left (by decide) k
def zD (w:World) (bt N K:Nat) (pre:List Nat) (W:World):Prop :=
 Jl W w.heap.size (List.replicate (K-pre.length) 0++Jq pre)/\Boxed W bt 123 (.slice (some ⟨w.heap.size,0,none⟩) K K)/\
  Boxed W (bt+1) 3 (.int .i64 ((K-pre.length:Nat):Int))/\Below w.heap.size w W/\pre <+: uB N
theorem zD.lies (w:World) (bt N K B:Nat) (hB:w.heap.size<bt) (h2:bt+1<B):Lies B (zD w bt N K):=by
 rintro pre A C ⟨h1,hx,h3,h4,h5⟩ hb;exact⟨h1.of_block (hb.block _ (by omega)),Boxed.of_block hx (hb.block _ (by omega)),Boxed.of_block h3 (hb.block _ (by omega)),h4.trans (hb.mono (by omega)),h5⟩
theorem Gz.setCell (m:Nat) (A:World) (b o:Nat) (v:Value) (h:b<m):Gz m A (A.setCell ⟨b,o,none⟩ v) :=
 ⟨by simp [World.setCell],fun k hk _=>Below.heap_setCell _ _ _ _ (by show k≠b;omega)⟩
theorem zD.step {w W:World}{bt N K j:Nat}{pre:List Nat}{d:Nat}(h:zD w bt N K pre W) (hb:w.heap.size<bt) (hj:K-pre.length=j+1) (hd:d<10) (hp:(pre++[d]) <+: uB N) :
 zD w bt N K (pre++[d]) ((W.setCell ⟨bt+1,0,none⟩ (.int .i64 (j:Int))).setCell ⟨w.heap.size,j,none⟩ (KA d)):=by
 obtain⟨h1,h2,h3,h4,h5⟩:=h;have e1:K-(pre++[d]).length=j:=by rw[kp,caN];omega
 have o1:ju (bt+1) W (W.setCell ⟨bt+1,0,none⟩ (.int .i64 (j:Int))):=(ju.refl _ W).set 0 _;have o2:ju w.heap.size (W.setCell ⟨bt+1,0,none⟩ (.int .i64 (j:Int))) ((W.setCell ⟨bt+1,0,none⟩ (.int .i64 (j:Int))).setCell ⟨w.heap.size,j,none⟩ (KA d)):=(ju.refl _ _).set j _;refine⟨?_,?_,?_,?_,hp⟩
 ·have:=Jl.set (h1.of_block (o1.block w.heap.size (by omega))) j (EW d) (by rw[hj];simp;omega);rw[← cih hd,hj,cgI] at this;rw[e1,ceR];exact this
 ·exact Boxed.of_block (Boxed.of_block h2 (o1.block bt (by omega))) (o2.block bt (by omega))
 ·rw[e1];exact Boxed.of_block (Boxed.set _ h3) (o2.block (bt+1) (by omega))
 ·exact(h4.trans (o1.below (by omega))).trans (o2.below (cb _))
attribute [local go_sem] Oper.semAt_some
set_option maxRecDepth 100000 in
set_option maxHeartbeats 2000000 in
theorem cil (v:Value) (N k:Nat) (w:World) (h:cr w v N) (h0:0<N) (hk:N<B^k) (hk2:(k:Int)<=1073741824):Calls Tryz.prog 38 #[v] w (uA w (je N)):=by
 have h':=h;obtain⟨xs,⟨⟨xa,xc,rfl,_,_,_⟩,ok⟩,ht,hval⟩:=h';have hl:=cr.len ht hval hk;have hx0:0<xs.length:=by
  rcases xs with _|⟨x,xs⟩
  ·simp [val] at hval;omega
  ·simp
 have hdl:(uB N).length<=20*xs.length:=Jr (k:=xs.length) (by rw[← hval];exact jR ok) rfl;obtain⟨i0,hi,hz0,hz1,hz2⟩:=Ge info_u8;obtain⟨w1,hmk,hown,hgrow⟩:=run_make_full (P:=Tryz.prog) w w.heap.size 123 5 i0 (.int .u8 0) 1 Tryz.underlying123 hi hz0 hz1 .i64 .i64 (20*xs.length) (by rw[hz2];omega) (by unfold maxLen;omega) (cb _);have hblk:=cgY (by rw[zc] at hown;exact hown) hgrow;have hcast:((20*xs.length:Nat):Int)=20*(xs.length:Int):=by omega
 rw[hcast] at hmk;have e0:(((xs.length:Nat):Int) == 0)=false:=by rw[jn];omega
 obtain⟨K,hKdef⟩:∃ K,K=20*xs.length:=⟨_,rfl⟩;rw[← hKdef] at hmk hblk hdl;obtain⟨hB1,hbel1⟩:=hblk;have HB1:=ca hB1;have HBel1:=ca hbel1;have HH:=ca h;have HK:=ca hKdef;have HDL:=ca hdl;have HXL:=ca hl;have HNk:=ca hk;have hl30:(xs.length:Int)<=1073741824:=by omega
 have hK30:(K:Int)<=21474836480:=by omega
 clear hown hgrow hB1 hbel1 h hKdef hdl hcast hi hz0 hz1 hz2 ht hval ok hl hk;refine callsIn_wide (n:=3) |>.1 ?_
 refine ceB Tryz.func38 rfl trivial ?_ rfl;simp only[Tryz.ntmps38,Gt,CA,List.length_nil,Nat.reduceAdd,Nat.reduceSub,Array.replicate_succ,Array.replicate_zero,List.push_toArray,List.append_toArray,EU,WY]
 gi_wp2
 have hbt:w.heap.size<w1.heap.size:=HB1.out.lt;have hT1:=Boxed.new w1 123 (.slice (some ⟨w.heap.size,0,none⟩) K K);have hS1:=Boxed.new (w1.alloc (.cells #[.slice (some ⟨w.heap.size,0,none⟩) K K] 123)) 3 (.int .i64 (K:Int));rw[JG] at hS1;have hI:zD w w1.heap.size N K [] ((w1.alloc (.cells #[.slice (some ⟨w.heap.size,0,none⟩) K K] 123)).alloc (.cells #[.int .i64 (K:Int)] 3)):=by
  have b1:=jS w1 (.cells #[.slice (some ⟨w.heap.size,0,none⟩) K K] 123);have b2:=jS (w1.alloc (.cells #[.slice (some ⟨w.heap.size,0,none⟩) K K] 123)) (.cells #[.int .i64 (K:Int)] 3);have b3:=cG b1 b2;refine⟨?_,hT1.alloc _,?_,cG HBel1.out b3,List.nil_prefix⟩
  ·have:Jl w1 w.heap.size (List.replicate (K-([]:List Nat).length) 0++Jq []):=by simpa [Jq] using HB1.out
   exact this.of_block (b3.block _ hbt)
  ·simpa using hS1
 have hs2:((w1.alloc (.cells #[.slice (some ⟨w.heap.size,0,none⟩) K K] 123)).alloc (.cells #[.int .i64 (K:Int)] 3)).heap.size=w1.heap.size+1+1:=by rw[JG,JG]
 obtain⟨W2,hW2⟩:∃ W2,(w1.alloc (.cells #[.slice (some ⟨w.heap.size,0,none⟩) K K] 123)).alloc (.cells #[.int .i64 (K:Int)] 3)=W2:=⟨_,rfl⟩;rw[hW2] at hI hs2 ⊢;have HI:=ca hI;have HS2:=ca hs2;have HBt:=ca hbt;clear hW2 hI hs2 hT1 hS1 hmk hbt;have hN2:=HH.out.below HI.out.2.2.2.1 (cb _);refine⟨trivial,(cbE (ccv _ N W2 hN2)).mono ?_⟩;rintro e W3 ⟨rfl,rfl⟩;have hI3:=zD.lies w w1.heap.size N K W2.heap.size HBt.out (by rw[HS2.out];omega) _ _ _ HI.out (jS W2 (.cells #[.slice xa xs.length xc] 90));have hc3:(W2.alloc (.cells #[.slice xa xs.length xc] 90)).cell? ⟨W2.heap.size,0,none⟩=some (.slice xa xs.length xc):=YV ..;have hN3:=hN2.below (jS W2 (.cells #[.slice xa xs.length xc] 90)) (cb _);have hs3:(W2.alloc (.cells #[.slice xa xs.length xc] 90)).heap.size=w1.heap.size+1+1+1:=by rw[JG,HS2.out]
 rw[HS2.out] at hc3 ⊢;obtain⟨W3,hW3⟩:∃ W3,W2.alloc (.cells #[.slice xa xs.length xc] 90)=W3:=⟨_,rfl⟩;rw[hW3] at hI3 hc3 hN3 hs3 ⊢;have HI3:=ca hI3;have HN3:=ca hN3;have HC3:=ca hc3;have HS3:=ca hs3;clear hW3 hI3 hN3 hc3 hs3 hN2 HI HS2;generalize w1.heap.size=bt at *
 gi_wp2
 refine GE (w0:=W3) rfl (by decide) (gf:=92) (lb:=#[.pointer (some ⟨bt+1+1,0,none⟩)]) rfl trivial (jB Tryz.func92 (by kernel_rfl) rfl)
  (cel (3-1) (by decide) (bt+1+1) _ N k W3 HC3.out HN3.out h0 HNk.out hk2) (cF _ _) rfl (zD w bt N K) (zD.lies w bt N K W3.heap.size HBt.out (by rw[HS3.out];omega)) HI3.out
  (fun d=>{ tmps:=#[.slice xa xs.length xc,undef,.string { data:=#[] },.pointer (some ⟨bt,0,none⟩),.pointer (some ⟨bt+1,0,none⟩),KA d,.slice xa xs.length xc,.int .i64 (xs.length:Int),.bool false,.slice xa xs.length xc,.int .i64 (xs.length:Int),.int .i64 (20*(xs.length:Int)),.slice (some ⟨w.heap.size,0,none⟩) K K,.slice (some ⟨w.heap.size,0,none⟩) K K,.int .i64 (K:Int),.slice xa xs.length xc,.func (.func 92) #[] #[.pointer (some ⟨bt+1+1,0,none⟩)],KA d,undef,undef,undef,undef,undef,undef,undef,undef,undef,undef],defers:=[] }) ?assign ?body ?done
 case assign =>
  intro l d W K' hK'
  gi_wp2
  exact hK'
 case body =>
  intro l pre d W hI hok hsz;have hlen:pre.length+1<=K:=by
   have h1:=List.IsPrefix.length_le hok;rw[kp,caN] at h1;have:=HDL.out;omega
  obtain⟨j,hj⟩:∃ j,K-pre.length=j+1:=⟨K-pre.length-1,by omega⟩;have hjK:(j:Int)<(K:Int):=by omega
  have hd10:d<10:=digs_lt N d (hok.subset (by simp));have HStep:=ca (hI.step HBt.out hj hd10 hok);obtain⟨h1,h2,h3,h4,h5⟩:=hI;rw[hj] at h1 h3;have c1:=h1.cell j (by simp;omega);have f1:=h1.frozen j;have c2:=h2.cell;have c3:W.cell? ⟨bt+1,0,none⟩=some (.int .i64 ((j:Int)+1)):=h3.cell;have f3:=h3.frozen;have hbt:=HBt.out;have m1:¬ w.heap.size=bt+1:=by omega
  have m2:¬ bt+1=w.heap.size:=by omega
  have m3:¬ bt=bt+1:=by omega
  have m4:¬ bt+1=bt:=by omega
  have hW3:bt+1<W3.heap.size:=by rw[HS3.out];omega
  have HK1:=ca (((Gz.setCell W3.heap.size W (bt+1) 0 (.int .i64 (j:Int)) hW3).trans (Gz.setCell W3.heap.size _ w.heap.size j (KA d) (by omega))));clear h1 h2 h3 h4 h5 hok hj hlen hsz hW3 hd10
  gi_wp2
  exact⟨HK1.out,HStep.out⟩
 case done =>
  intro ys W hS hI hlt hD;subst hS;obtain⟨h1,h2,h3,h4,h5⟩:=hI;have hso:Jq (uB N)=je N:=by unfold Jq je;rw[cf (by omega)]
  rw[hso] at h1;have hnl:(je N).length=(uB N).length:=by rw[← hso,chj]
  have hdl:=HDL.out;have hd0:0<(uB N).length:=by rw[CR (by omega)];simp
  obtain⟨s,hs⟩:∃ s,s=K-(uB N).length:=⟨_,rfl⟩;rw[← hs] at h1 h3;have hlK:(je N).length=K-s:=by omega
  have hsK:(s:Int)<(K:Int):=by omega
  have hsK1:(s:Int)<=(K:Int):=by omega
  have hns:¬ K=s:=by omega
  have hconv:=fun cap=>run_convert_bytes_back (P:=Tryz.prog) W 123 9 5 ⟨w.heap.size,s,none⟩ cap (je N) Tryz.underlying123 Tryz.underlying5 Tryz.underlying9 (fun j hj=>by
   rw[YB,h1.cell (s+j) (by simp;omega)];have e:(List.replicate s (0:UInt8)++je N)[s+j]'(by simp;omega)=(je N)[j]:=by
    rw[List.getElem_append_right (by simp)];simp
   rw[e])
  rw[hlK] at hconv;have hconv:=hconv (K-s);have c2:=h2.cell;have c3:W.cell? ⟨bt+1,0,none⟩=some (.int .i64 (s:Int)):=h3.cell;have HH4:=ca h4;have HD:=ca hD;have HSz:=ca hlt;clear h1 h2 h3 h4 h5 hso hnl hdl hd0 hs hlK hD hlt
  gi_wp2
  refine⟨by simp,.inl ⟨_,_,rfl,run_takeDeferred HD.out,?_⟩⟩;refine⟨_,results_tmp rfl _ _ _,rfl,HH4.out.trans (zC _ _ ?_)⟩;have:=HBt.out;rw[HS3.out];omega
theorem ccz (v:Value) (N k:Nat) (w:World) (h:cr w v N) (hk:N<B^k) (hk2:(k:Int)<=1073741824):Calls Tryz.prog 38 #[v] w (uA w (je N)):=by
 rcases jr N with h0|h0
 ·subst h0;exact chr v w h
 ·exact cil v N k w h h0 hk hk2
def KX (w:World) (neg:Bool) (num den:Nat) (e:Ending) (w':World):Prop :=
 ∃ a b c,∃ ok:Bool,e=.returned (.tuple #[lo a b c,.bool ok])/\(ok=true->num<B/\den<B/\0<den->a=(neg&&!decide (num=0))/\b=num/\c+1=den)/\(ok=true->num<B/\den<B)/\Below w.heap.size w w'
theorem JH {w W0 W:World}{b:Nat}(h0:Below w.heap.size w W0) (h:Below W0.heap.size W0 W) (hb:w.heap.size<=b) (a0 a1 a2 a3:Value) :
 Below w.heap.size w ((((W.setCell ⟨b,0,none⟩ a0).setCell ⟨b,1,none⟩ a1).setCell ⟨b,2,none⟩ a2).setCell ⟨b,3,none⟩ a3) :=
 (h0.trans (h.mono h0.size)).trans (((((ju.refl b W).set 0 a0).set 1 a1).set 2 a2).set 3 a3 |>.below hb)
theorem Zm {d:Nat}(hd:d<B) (h0:0<d):ze d 1+1=d:=by
 have:=caw (x:=d) (y:=1) hd (by decide);have h2:CS d 1=0:=by rw[CS,cf (by omega)]
 rw[h2] at this;omega
theorem fits {x y:Nat}(h:decide (kh x y=0)=true):jo x y=x*y:=by
 have h:kh x y=0:=by simpa using h
 have:=Wv x y;rw[h,Cf,jz] at this;exact this
def YC (neg1:Bool) (n1 d1:Nat) (neg2:Bool) (n2 d2:Nat):Bool×Nat:=yE neg1 (n1*(d2/Nat.gcd d1 d2)) neg2 (n2*(d1/Nat.gcd d1 d2))
def sumX (neg1:Bool) (n1 d1:Nat) (neg2:Bool) (n2 d2:Nat):Nat:=Nat.gcd (YC neg1 n1 d1 neg2 n2 d2).2 (Nat.gcd d1 d2)
def Kn (neg1:Bool) (n1 d1:Nat) (neg2:Bool) (n2 d2:Nat):Nat:=(YC neg1 n1 d1 neg2 n2 d2).2/sumX neg1 n1 d1 neg2 n2 d2
def sumD (neg1:Bool) (n1 d1:Nat) (neg2:Bool) (n2 d2:Nat):Nat:=d1/Nat.gcd d1 d2*(d2/sumX neg1 n1 d1 neg2 n2 d2)
set_option maxHeartbeats 3200000 in
theorem Zd (neg1 neg2:Bool) (n1 l1 n2 l2:Nat) (h1:n1<B) (h2:l1+1<B) (h3:n2<B) (h4:l2+1<B) (w:World) (hG:Gr w) :
 Calls Tryz.prog 79 #[lo neg1 n1 l1,lo neg2 n2 l2] w (KX w (YC neg1 n1 (l1+1) neg2 n2 (l2+1)).1 (Kn neg1 n1 (l1+1) neg2 n2 (l2+1)) (sumD neg1 n1 (l1+1) neg2 n2 (l2+1))):=by
 have HB2:=ca (fun W=>Cb neg2 n2 l2 none h4 W);have HB1:=ca (fun W=>Cb neg1 n1 l1 none h2 W);have HC1:=ca (fun W (hW:Below w.heap.size w W)=>zP (l1+1) (l2+1) h2 h4 W (hG.below hW hG.size));have hg1:0<Nat.gcd (l1+1) (l2+1):=Jh _ (by omega);have hgB:Nat.gcd (l1+1) (l2+1)<B:=jH (Nat.gcd_le_left _ (by omega)) h2;have o1:0<l1+1:=by omega
 have o2:0<l2+1:=by omega
 obtain⟨NEG,hNEG⟩:∃ x,x=(YC neg1 n1 (l1+1) neg2 n2 (l2+1)).1:=⟨_,rfl⟩;obtain⟨NUM,hNUM⟩:∃ x,x=Kn neg1 n1 (l1+1) neg2 n2 (l2+1):=⟨_,rfl⟩;obtain⟨DEN,hDEN⟩:∃ x,x=sumD neg1 n1 (l1+1) neg2 n2 (l2+1):=⟨_,rfl⟩;rw[← hNEG,← hNUM,← hDEN];unfold Kn sumX YC at hNUM;unfold sumD sumX YC at hDEN;unfold YC at hNEG;have HNEG:=ca hNEG;have HNUM:=ca hNUM;have HDEN:=ca hDEN;clear hNEG hNUM hDEN;generalize l1+1=e1 at *;generalize l2+1=e2 at *;generalize Nat.gcd e1 e2=c at *;have t1:Int.tdiv ((e1:Nat):Int) ((c:Nat):Int)=((e1/c:Nat):Int):=by rw[Uh (by omega),Cu]
 have t2:Int.tdiv ((e2:Nat):Int) ((c:Nat):Int)=((e2/c:Nat):Int):=by rw[Uh (by omega),Cu]
 have b1:e1/c<B:=jH (kz _ _) h2;have b2:e2/c<B:=jH (kz _ _) h4;generalize e1/c=q1 at *;generalize e2/c=q2 at *;have w1:IntKind.u64.wrap ((q1:Nat):Int)=(q1:Int):=jX b1;have w2:IntKind.u64.wrap ((q2:Nat):Int)=(q2:Int):=jX b2;have x1:¬ c=0:=by omega
 have HT1:=ca (fun W=>Cy n1 q2 h1 b2 W);have HT2:=ca (fun W=>Cy n2 q1 h3 b1 W);have B1:=ca b1;have HHG:=ca hG;have HE:=ca h4;have HgB:=ca hgB;have Hg1:=ca hg1;clear b1 b2 hG h4 hgB hg1 h1 h2 h3 o1 o2
 go_enter Tryz.func79,Tryz.ntmps79
 go_wp2_with fail;obtain⟨W0,hW0,hb0,⟨f0,f1,f2,f3⟩,⟨g0,g1,g2,g3⟩,hz⟩:=box3 w (.bool neg1) (u n1) (u l1) (.pointer none) (.bool neg2) (u n2) (u l2) (.pointer none);rw[← hW0];clear hW0;have HZ:=ca hz;have HW0:=ca hb0;have hb0:=cF W0.heap.size W0;clear hz
 go_region_held3 (fun w'=>(w'.cell? ⟨w.heap.size,0,none⟩=some (.bool neg1)/\w'.cell? ⟨w.heap.size,1,none⟩=some (u n1)/\w'.cell? ⟨w.heap.size,2,none⟩=some (u l1)/\w'.cell? ⟨w.heap.size,3,none⟩=some (.pointer none))/\(w'.cell? ⟨w.heap.size+1,0,none⟩=some (.bool neg2)/\w'.cell? ⟨w.heap.size+1,1,none⟩=some (u n2)/\w'.cell? ⟨w.heap.size+1,2,none⟩=some (u l2)/\w'.cell? ⟨w.heap.size+1,3,none⟩=some (.pointer none))) (go_keep) (first|((with_reducible refine(HB1.out _).mono ?_);rintro e W1 ⟨rfl,hb⟩;(obtain⟨_,_,_,_,_,_,_,_⟩:=ut w hb))|((with_reducible refine(HB2.out _).mono ?_);rintro e W2 ⟨rfl,hb'⟩;(obtain⟨_,_,_,_,_,_,_,_⟩:=ut w hb'))|((with_reducible refine(HC1.out _ (cG HW0.out (cG (zk hb0 hb) hb'))).mono ?_);rintro e W3 ⟨rfl,rfl⟩))
 have HBa:=ca (cG (zk hb0 hb) hb');clear hb0 hb hb' f0 f1 f2 f3 g0 g1 g2 g3;go_wp2_with fail
 go_region_held3 (fun w'=>(w'.cell? ⟨w.heap.size,0,none⟩=some (.bool neg1)/\w'.cell? ⟨w.heap.size,1,none⟩=some (u n1)/\w'.cell? ⟨w.heap.size,2,none⟩=some (u l1)/\w'.cell? ⟨w.heap.size,3,none⟩=some (.pointer none))/\(w'.cell? ⟨w.heap.size+1,0,none⟩=some (.bool neg2)/\w'.cell? ⟨w.heap.size+1,1,none⟩=some (u n2)/\w'.cell? ⟨w.heap.size+1,2,none⟩=some (u l2)/\w'.cell? ⟨w.heap.size+1,3,none⟩=some (.pointer none))) (go_keep) (first|((with_reducible refine(HB2.out _).mono ?_);rintro e W4 ⟨rfl,hb⟩;(obtain⟨_,_,_,_,_,_,_,_⟩:=ut w hb))|((with_reducible refine(HT1.out _).mono ?_);rintro e W5 ⟨rfl,hb'⟩;(obtain⟨_,_,_,_,_,_,_,_⟩:=ut w hb')))
 have HBb:=ca (cG (zk HBa.out hb) hb');clear HBa hb hb';have HF1:=ca (fits (x:=n1) (y:=q2));have HL1:=ca (Jd n1 q2);generalize jo n1 q2=left at *;generalize decide (kh n1 q2=0)=fits1 at *;go_wp2_with fail
 go_region_held3 (fun w'=>(w'.cell? ⟨w.heap.size,0,none⟩=some (.bool neg1)/\w'.cell? ⟨w.heap.size,1,none⟩=some (u n1)/\w'.cell? ⟨w.heap.size,2,none⟩=some (u l1)/\w'.cell? ⟨w.heap.size,3,none⟩=some (.pointer none))/\(w'.cell? ⟨w.heap.size+1,0,none⟩=some (.bool neg2)/\w'.cell? ⟨w.heap.size+1,1,none⟩=some (u n2)/\w'.cell? ⟨w.heap.size+1,2,none⟩=some (u l2)/\w'.cell? ⟨w.heap.size+1,3,none⟩=some (.pointer none))) (go_keep) (first|((with_reducible refine(HB1.out _).mono ?_);rintro e W6 ⟨rfl,hb⟩;(obtain⟨_,_,_,_,_,_,_,_⟩:=ut w hb))|((with_reducible refine(HT2.out _).mono ?_);rintro e W7 ⟨rfl,hb'⟩;(obtain⟨_,_,_,_,_,_,_,_⟩:=ut w hb')))
 have HBc:=ca (cG (zk HBb.out hb) hb');clear HBb hb hb';have HF2:=ca (fits (x:=n2) (y:=q1));have HL2:=ca (Jd n2 q1);generalize jo n2 q1=right at *;generalize decide (kh n2 q1=0)=fits2 at *;have HA:=ca (fun W=>cbu neg1 neg2 left right HL1.out HL2.out W);go_wp2_with fail;refine(HA.out _).mono ?_;rintro e W8 ⟨t,htB,fits3,ht,rfl,hb⟩
 (obtain⟨_,_,_,_,_,_,_,_⟩:=ut w hb)
 have HBd:=ca (cG HBc.out hb);have HtB:=ca htB;have HF3:=ca ht;clear HBc hb HA htB ht;generalize hsg0:(yE neg1 left neg2 right).1=sg0 at *;have HS0:=ca hsg0;clear hsg0;have hx1:0<Nat.gcd t c:=Jh _ Hg1.out;have hxB:Nat.gcd t c<B:=jH (Nat.gcd_le_right _ Hg1.out) HgB.out;have HC2:=ca (fun W (hW:Below w.heap.size w W)=>zP t c HtB.out HgB.out W (HHG.out.below hW HHG.out.size));obtain⟨ex,hex⟩:∃ ex,ex=Nat.gcd t c:=⟨_,rfl⟩;rw[← hex] at hx1 hxB HC2;have HX:=ca hex;clear hex;have t3:Int.tdiv ((t:Nat):Int) ((ex:Nat):Int)=((t/ex:Nat):Int):=by rw[Uh (by omega),Cu]
 have t4:Int.tdiv ((e2:Nat):Int) ((ex:Nat):Int)=((e2/ex:Nat):Int):=by rw[Uh (by omega),Cu]
 have b3:t/ex<B:=jH (kz _ _) HtB.out;have b4:e2/ex<B:=jH (kz _ _) HE.out;obtain⟨num,hnum⟩:∃ num,num=t/ex:=⟨_,rfl⟩;obtain⟨q5,hq5⟩:∃ q5,q5=e2/ex:=⟨_,rfl⟩;rw[← hnum] at t3 b3;rw[← hq5] at t4 b4;have d3:((t:Nat):Int)/((ex:Nat):Int)=(num:Int):=by rw[hnum,Cu]
 have HN:=ca hnum;have HQ5:=ca hq5;clear hnum hq5;have w3:IntKind.u64.wrap ((num:Nat):Int)=(num:Int):=jX b3;have w4:IntKind.u64.wrap ((q5:Nat):Int)=(q5:Int):=jX b4;have x2:¬ ex=0:=by omega
 have x3:¬ ((ex:Nat):Int)=0:=by omega
 have HT3:=ca (fun W=>Cy q1 q5 B1.out b4 W);have HB3:=ca b3;clear hx1 hxB b3 b4;go_wp2_with fail;refine(HC2.out _ (cG HW0.out HBd.out)).mono ?_;rintro e W9 ⟨rfl,rfl⟩;go_wp2_with fail
 go_region_held3 (fun w'=>(w'.cell? ⟨w.heap.size,0,none⟩=some (.bool neg1)/\w'.cell? ⟨w.heap.size,1,none⟩=some (u n1)/\w'.cell? ⟨w.heap.size,2,none⟩=some (u l1)/\w'.cell? ⟨w.heap.size,3,none⟩=some (.pointer none))/\(w'.cell? ⟨w.heap.size+1,0,none⟩=some (.bool neg2)/\w'.cell? ⟨w.heap.size+1,1,none⟩=some (u n2)/\w'.cell? ⟨w.heap.size+1,2,none⟩=some (u l2)/\w'.cell? ⟨w.heap.size+1,3,none⟩=some (.pointer none))) (go_keep) (first|((with_reducible refine(HB1.out _).mono ?_);rintro e W9 ⟨rfl,hb⟩;(obtain⟨_,_,_,_,_,_,_,_⟩:=ut w hb))|((with_reducible refine(HB2.out _).mono ?_);rintro e W10 ⟨rfl,hb'⟩;(obtain⟨_,_,_,_,_,_,_,_⟩:=ut w hb'))|((with_reducible refine(HT3.out _).mono ?_);rintro e W11 ⟨rfl,hb''⟩;(obtain⟨_,_,_,_,_,_,_,_⟩:=ut w hb'')))
 have HBe:=ca (cG (cG (zk HBd.out hb) hb') hb'');clear HBd hb hb' hb'';have HF4:=ca (fits (x:=q1) (y:=q5));have HL4:=ca (Jd q1 q5);generalize jo q1 q5=den at *;generalize decide (kh q1 q5=0)=fits4 at *;have hok:fits1=true->fits2=true->fits3=true->fits4=true->NEG=sg0/\NUM=num/\DEN=den:=by
  intro k1 k2 k3 k4;have f1:=HF1.out k1;have f2:=HF2.out k2;have f3:=HF3.out k3;have f4:=HF4.out k4;subst f1 f2;have f3:=f3.symm;refine⟨?_,?_,?_⟩
  ·rw[HNEG.out,HS0.out]
  ·rw[HNUM.out,f3,HN.out,HX.out]
  ·rw[HDEN.out,f3,f4,HQ5.out,HX.out]
 have HOK:=ca hok;clear hok HF1 HF2 HF3 HF4 HN HX HQ5 HS0 HNEG HNUM HDEN HT3 HC2 HT1 HT2;go_wp2_with fail;refine(KZ sg0 num den HL4.out _).mono ?_;rintro e W12 ⟨rfl,hb⟩
 (obtain⟨_,_,_,_,_,_,_,_⟩:=ut w hb)
 have HBf:=ca (cG HBe.out hb);clear HBe hb;have HD:=ca (Zm (d:=den) HL4.out);generalize hsg:(sg0&&!decide (num=0))=sg;have HSG:=ca hsg;clear hsg;generalize ze den 1=ll at *;have hz:=HZ.out.below HBf.out (cb _);have zf:=hz.frozen;obtain⟨z0,z1,z2,z3⟩:=hz.cells;have zf0:=zf 0;have zf1:=zf 1;have zf2:=zf 2;have zf3:=zf 3;clear zf hz;go_wp2_with fail
 ·rename_i k1 k2 k3;refine jT (v:=.tuple #[lo sg num ll,.bool fits4]) (by simp [results,Tryz.results79,go_sem,z0,z1,z2,z3]) rfl ?_;refine⟨sg,num,ll,fits4,rfl,?_,?_,JH HW0.out HBf.out (by omega) _ _ _ _⟩
  ·intro k4 hh;obtain⟨e1,e2,e3⟩:=HOK.out (by simpa using k1) (by simpa using k2) (by simpa using k3) k4;subst e1 e2 e3;exact⟨HSG.out.symm,rfl,HD.out hh.2.2⟩
  ·intro k4;obtain⟨e1,e2,e3⟩:=HOK.out (by simpa using k1) (by simpa using k2) (by simpa using k3) k4;rw[e2,e3];exact⟨HB3.out,HL4.out⟩
 ·refine jT (v:=.tuple #[lo sg num ll,.bool false]) (by simp [results,Tryz.results79,go_sem,z0,z1,z2,z3]) rfl ?_;refine⟨sg,num,ll,false,rfl,?_,?_,JH HW0.out HBf.out (by omega) _ _ _ _⟩<;>intro hok<;>exact absurd hok (by simp)
 ·refine jT (v:=.tuple #[lo sg num ll,.bool false]) (by simp [results,Tryz.results79,go_sem,z0,z1,z2,z3]) rfl ?_;refine⟨sg,num,ll,false,rfl,?_,?_,JH HW0.out HBf.out (by omega) _ _ _ _⟩<;>intro hok<;>exact absurd hok (by simp)
 ·refine jT (v:=.tuple #[lo sg num ll,.bool false]) (by simp [results,Tryz.results79,go_sem,z0,z1,z2,z3]) rfl ?_;refine⟨sg,num,ll,false,rfl,?_,?_,JH HW0.out HBf.out (by omega) _ _ _ _⟩<;>intro hok<;>exact absurd hok (by simp)
theorem Num.form {w:World}{v:Value}{neg:Bool}{n d:Nat}(h:Num w v neg n d):∃ a b p,v=.agg #[.bool neg,u a,u b,.pointer p]/\a<B:=by
 cases h with
 |low l hv hd hn hdB=>exact⟨_,_,_,hv,hn⟩
 |wide b x y hv hx hy h1 h2 hB h0 hd=>exact⟨_,_,_,hv,jE⟩
theorem WU.other {W W':World}{R:Nat}{v:Value}{cs:Array Value}{t:TypeId}{fr:Nat×Nat}(h:WU W v) (hR:W.heap[R]?=some (.cells cs t fr)) (ht:t≠42) (ho:ju R W W'):WU W' v:=by
 intro a n c e hn;obtain⟨cs',fr',hc⟩:=h a n c e hn;have hne:a.block≠R:=by
  intro e2;rw[e2,hR] at hc;injection hc with hc
  injection hc with _ hc
  exact ht hc
 exact⟨cs',fr',(ho.block _ hne).trans hc⟩
theorem cr.only {W W':World}{R:Nat}{v:Value}{n:Nat}(hR:Box W R (.bool false) (.int .u64 0) (.int .u64 0) (.pointer none)) (h:cr W v n) (ho:ju R W W'):cr W' v n:=by
 obtain⟨xs,⟨⟨ao,c,rfl,h1,h2,hr⟩,ok,typ⟩,ht,hv⟩:=h;refine⟨xs,⟨⟨ao,c,rfl,h1,h2,fun hn=>?_⟩,ok,typ.other hR (by decide) ho⟩,ht,hv⟩;obtain⟨b,off,rfl,row⟩:=hr hn;refine⟨b,off,rfl,?_⟩;by_cases hb:b=R
 ·exfalso;subst hb;have hl:=row (xs.length-1) (by omega);have hne:xs≠[]:=by intro e;subst e;simp at hn
  have hz:xs[xs.length-1]?.getD 0≠0:=by
   have:=ht hne;rw[ceD] at this;rw[jl (by omega)];exact this
  generalize xs[xs.length-1]?.getD 0=z at *;unfold Box at hR;rw[World.cell?,hR] at hl;simp only at hl;generalize off+(xs.length-1)=i at hl;rcases i with _|_|_|_|i<;>simp at hl<;>omega
 ·exact ho.row hb row
theorem Num.only {W W':World}{R:Nat}{v:Value}{neg:Bool}{n d:Nat}(hR:Box W R (.bool false) (.int .u64 0) (.int .u64 0) (.pointer none)) (h:Num W v neg n d) (ho:ju R W W'):Num W' v neg n d:=by
 cases h with
 |low l hv hd hn hdB=>exact .low l hv hd hn hdB
 |wide b x y hv hx hy h1 h2 hB h0 hd =>
  have hb:b≠R:=by
   intro e;subst e;rw[hR.cells.1] at hx;obtain⟨_,_,_,rfl,_⟩:=h1.form;injection hx with hx
   exact absurd hx (by simp)
  exact .wide b x y hv ((ho.cell (p:=⟨b,0,none⟩) hb).trans hx) ((ho.cell (p:=⟨b,1,none⟩) hb).trans hy) (h1.only hR ho) (h2.only hR ho) ⟨hB.1,hB.2.to (ho.block b hb)⟩ h0 hd
def zg (w:World) (neg:Bool) (n d:Nat) (e:Ending) (w':World):Prop :=
 ∃ v,e=.returned v/\Num w' v (neg&&!decide (n=0)) n (if n=0 then 1 else d)/\Below w.heap.size w w'
theorem zg.stored {w W:World}{R:Nat}{v:Value}{neg:Bool}{n d:Nat}{a0 a1 a2 a3:Value}(hR:Box W R (.bool false) (.int .u64 0) (.int .u64 0) (.pointer none))
 (h:Num W v (neg&&!decide (n=0)) n (if n=0 then 1 else d)) (hb:Below w.heap.size w W) (hw:w.heap.size<=R) :
 zg w neg n d (.returned v) ((((W.setCell ⟨R,0,none⟩ a0).setCell ⟨R,1,none⟩ a1).setCell ⟨R,2,none⟩ a2).setCell ⟨R,3,none⟩ a3):=by
 have ho:=((((ju.refl R W).set 0 a0).set 1 a1).set 2 a2).set 3 a3;exact⟨v,rfl,h.only hR ho,hb.trans (ho.below hw)⟩
theorem cdt {w:World}{neg:Bool}{x y:Value}{n d:Nat}(o:Obj) (h1:cr w x n) (h2:cr w y d) (hn:0<n) (hd:0<d) (hB:¬ (n<B/\d<B)) :
 zg w neg n d (.returned (wi neg ⟨w.heap.size+1,0,none⟩)) ((w.alloc o).alloc (.cells #[x,y] 122)):=by
 have hb1:=jS w o;have hb2:=jS (w.alloc o) (.cells #[x,y] 122);have hb:=cG hb1 hb2;have hs:(w.alloc o).heap.size=w.heap.size+1:=by
  show (w.heap.push _).size=_;simp
 refine⟨_,rfl,?_,hb⟩;have hn':¬ n=0:=by omega
 rw[cf hn',show (neg&&!decide (n=0))=neg from by simp [hn']];refine Num.wide (w.heap.size+1) x y rfl ?_ ?_ (h1.below hb (cb _)) (h2.below hb (cb _)) ⟨by omega,#[x,y],?_⟩ hn hd
 ·rw[← hs];exact YV ..
 ·rw[← hs];exact YV ..
 ·rw[← hs];show ((w.alloc o).heap.push _)[(w.alloc o).heap.size]?=_;rw[cfh,cq rfl]
theorem cbc (neg:Bool) (v1 v2:Value) (n d:Nat) (w:World) (h1:cr w v1 n) (h2:cr w v2 d) (h0:0<d) :
 Calls Tryz.prog 104 #[.bool neg,v1,v2] w (zg w neg n d):=by
 by_cases hn:n=0
 ·subst hn;obtain⟨ao,l,c,rfl,hl,hz,hB⟩:=h1.form;have hl0:l=0:=hz.2 rfl;subst hl0;obtain⟨bo,m,c',rfl,_,_,_⟩:=h2.form
  go_enter Tryz.func104,Tryz.ntmps104
  go_wp2_with fail;refine jT (v:=lo false 0 0) (by simp [results,Tryz.results104,go_sem]) rfl ?_;exact⟨_,rfl,by simpa using Num.low 0 rfl rfl jE (by decide),jS w _⟩
 ·have hn0:0<n:=Nat.pos_of_ne_zero hn;by_cases hw:n<B/\d<B
  ·obtain⟨b1,o1,c1,rfl,f1⟩:=h1.limb hn0 hw.1;obtain⟨b2,o2,c2,rfl,f2⟩:=h2.limb h0 hw.2;have HS:=ca (fun W=>KZ neg n d hw.2 W);have HD:=ca (Zm hw.2 h0);have HN:=ca hn;have HW:=ca hw;have H0:=ca h0;clear hn hw h1 h2 h0 hn0;generalize hsg:(neg&&!decide (n=0))=sg at *;generalize ze d 1=ll at *
   go_enter Tryz.func104,Tryz.ntmps104
   go_wp2_with fail;obtain⟨W0,hW0,hb0,hz,hs⟩:=boxz w;rw[← hW0];clear hW0;have HZ:=ca hz;have HW0:=ca hb0;have hb0:=cF W0.heap.size W0;clear hz;clear hs;have p1:¬ b1=w.heap.size:=Nat.ne_of_lt (kA w _ f1);have p2:¬ b2=w.heap.size:=Nat.ne_of_lt (kA w _ f2);have p3:¬ w.heap.size=b1:=fun h=>p1 h.symm;have p4:¬ w.heap.size=b2:=fun h=>p2 h.symm;have HG1:=ca f1;have HG2:=ca f2;have f1:W0.cell? ⟨b1,o1,none⟩=some (u n):=(HW0.out.cell (p:=⟨b1,o1,none⟩) (kA w _ f1)).trans f1;have f2:W0.cell? ⟨b2,o2,none⟩=some (u d):=(HW0.out.cell (p:=⟨b2,o2,none⟩) (kA w _ f2)).trans f2
   go_region_held3 (fun w'=>w'.cell? ⟨b1,o1,none⟩=some (u n)/\w'.cell? ⟨b2,o2,none⟩=some (u d)) (go_keep) (((with_reducible refine(HS.out _).mono ?_);rintro e W1 ⟨rfl,hb⟩;have hb1:=zk hb0 hb;have i1:=(hb1.cell (p:=⟨b1,o1,none⟩) (kA W0 _ f1)).trans f1;have i2:=(hb1.cell (p:=⟨b2,o2,none⟩) (kA W0 _ f2)).trans f2;(obtain⟨z0,z1,z2,z3,zf0,zf1,zf2,zf3⟩:=HZ.out.zed hb1)))
   go_wp2_with fail;refine jT (v:=lo sg n ll) (by simp [results,Tryz.results104,go_sem,z0,z1,z2,z3]) rfl ?_;refine⟨_,rfl,?_,JH HW0.out hb1 (cb _) _ _ _ _⟩;rw[hsg,cf HN.out];exact Num.low ll rfl HD.out.symm HW.out.1 HW.out.2
  ·obtain⟨ao,l,c,rfl,hl,hz,hB⟩:=h1.form;obtain⟨bo,m,c',rfl,hm,hz',hB'⟩:=h2.form;have HH1:=ca h1;have HH2:=ca h2;have HHn:=ca hn;have HHw:=ca hw;have HH0:=ca h0;have HHn0:=ca hn0;have hl0:¬ l=0:=fun h=>hn (hz.1 h);have hm0:¬ m=0:=fun h=>by have:=hz'.1 h;omega
   have hlm:¬ (l=1/\m=1):=by
    rintro⟨rfl,rfl⟩;refine hw ⟨?_,?_⟩
    ·rcases jj n B with h|h
     ·exact h
     ·exact absurd (hB.2 h) (by omega)
    ·rcases jj d B with h|h
     ·exact h
     ·exact absurd (hB'.2 h) (by omega)
   have e0:(((l:Nat):Int) == 0)=false:=by rw[jn];omega
   clear hz hz' hB hB' hn hw h1 h2 h0 hn0;by_cases hl1:l=1
   ·have e1:(((m:Nat):Int) == 1)=false:=by rw[jn];omega
    subst hl1;clear hm0 hl0 hlm
    go_enter Tryz.func104,Tryz.ntmps104
    go_wp2_with fail;refine jT (v:=wi neg ⟨w.heap.size+1,0,none⟩) (by simp [results,Tryz.results104,go_sem]) rfl ?_;exact cdt _ HH1.out HH2.out HHn0.out HH0.out HHw.out
   ·have e1:(((l:Nat):Int) == 1)=false:=by rw[jn];omega
    clear hm0 hl0 hlm hl1
    go_enter Tryz.func104,Tryz.ntmps104
    go_wp2_with fail;refine jT (v:=wi neg ⟨w.heap.size+1,0,none⟩) (by simp [results,Tryz.results104,go_sem]) rfl ?_;exact cdt _ HH1.out HH2.out HHn0.out HH0.out HHw.out
def CL (w:World) (n d:Nat) (e:Ending) (w':World):Prop:=∃ x y,e=.returned (.tuple #[x,y])/\cr w' x n/\cr w' y d/\Below w.heap.size w w'
theorem CU (v:Value) (neg:Bool) (n d:Nat) (w:World) (h:Num w v neg n d) :
 Calls Tryz.prog 37 #[v] w (CL w n d):=by
 cases h with
 |low l hv hd hn hdB =>
  subst hv hd;have HW1:=ca (fun W=>JT n W hn);have HW2:=ca (fun W=>JT (l+1) W hdB);have HBo:=ca (fun W=>Cb neg n l none hdB W);clear hn hdB;generalize l+1=d at *
  go_enter Tryz.func37,Tryz.ntmps37
  go_wp2_with fail;obtain⟨W0,hW0,hb0,⟨f0,f1,f2,f3⟩⟩:=box1 w (.bool neg) (u n) (u l) (.pointer none);rw[← hW0];clear hW0
  go_region_held3 (fun w'=>(w'.cell? ⟨w.heap.size,0,none⟩=some (.bool neg)/\w'.cell? ⟨w.heap.size,1,none⟩=some (u n)/\w'.cell? ⟨w.heap.size,2,none⟩=some (u l)/\w'.cell? ⟨w.heap.size,3,none⟩=some (.pointer none))) (go_keep) (first|((with_reducible refine(HW1.out _).mono ?_);rintro e W1 ⟨x,rfl,hx,hb⟩;(obtain⟨_,_,_,_⟩:=boxa w hb))|((with_reducible refine(HBo.out _).mono ?_);rintro e W2 ⟨rfl,hb'⟩;(obtain⟨_,_,_,_⟩:=boxa w hb'))|((with_reducible refine(HW2.out _).mono ?_);rintro e W3 ⟨y,rfl,hy,hb''⟩;(obtain⟨_,_,_,_⟩:=boxa w hb'')))
  have HX:=ca hx;have HY:=ca hy;have HBa:=ca (zk hb0 hb);have HBb:=ca hb';have HBc:=ca hb'';clear hx hy hb0 hb hb' hb'' f0 f1 f2 f3;go_wp2_with fail;refine jT (v:=.tuple #[x,y]) (by simp [results,Tryz.results37,go_sem]) rfl ?_;exact⟨x,y,rfl,(HX.out.below HBb.out (cb _)).below HBc.out (cb _),HY.out,cG (cG HBa.out HBb.out) HBc.out⟩
 |wide b x y hv hx hy h1 h2 hB h0 hd =>
  subst hv;have H1:=ca h1;have H2:=ca h2;obtain⟨xa,xl,xc,rfl,_,_,_⟩:=h1.form;obtain⟨ya,yl,yc,rfl,_,_,_⟩:=h2.form;clear h1 h2 hB h0 hd
  go_enter Tryz.func37,Tryz.ntmps37
  go_wp2_with fail;obtain⟨W0,hW0,hb0,⟨f0,f1,f2,f3⟩⟩:=box1 w (.bool neg) (u 0) (u 0) (.pointer (some ⟨b,0,none⟩));rw[← hW0];clear hW0;have g0:W0.cell? ⟨b,0,none⟩=some (.slice xa xl xc):=(hb0.cell (p:=⟨b,0,none⟩) (kA w _ hx)).trans hx;have g1:W0.cell? ⟨b,1,none⟩=some (.slice ya yl yc):=(hb0.cell (p:=⟨b,1,none⟩) (kA w _ hy)).trans hy;clear hx hy;have HB0:=ca hb0;clear hb0
  go_quiet (fail)
  go_wp2_with fail;refine jT (v:=.tuple #[.slice xa xl xc,.slice ya yl yc]) (by simp [results,Tryz.results37,go_sem]) rfl ?_;have hB:=kV (n:=nq) HB0.out;exact⟨_,_,rfl,H1.out.below hB (cb _),H2.out.below hB (cb _),hB⟩
def ciT (w:World) (neg:Bool) (t:Nat) (e:Ending) (w':World):Prop:=∃ v,e=.returned (.tuple #[.bool neg,v])/\cr w' v t/\Below w.heap.size w w'
theorem Zc (a b:Bool) (v1 v2:Value) (x y k:Nat) (w:World) (h1:cr w v1 x) (h2:cr w v2 y) (hx:x<B^k) (hy:y<B^k) (hk:(k:Int)<=1073741824) :
 Calls Tryz.prog 103 #[.bool a,v1,.bool b,v2] w (ciT w (yE a x b y).1 (yE a x b y).2):=by
 have HP:=ca (fun W (hW:Below w.heap.size w W)=>ciM v1 v2 x y k W (h1.below hW (cb _)) (h2.below hW (cb _)) hx hy hk);have HC:=ca (fun W (hW:Below w.heap.size w W)=>uY v1 v2 x y W (h1.below hW (cb _)) (h2.below hW (cb _)));have HM:=ca (fun(h:y<=x) W (hW:Below w.heap.size w W)=>ZO v1 v2 x y k W (h1.below hW (cb _)) (h2.below hW (cb _)) hx h hk);have HM':=ca (fun(h:x<=y) W (hW:Below w.heap.size w W)=>ZO v2 v1 y x k W (h2.below hW (cb _)) (h1.below hW (cb _)) hy h hk);obtain⟨xa,xl,xc,rfl,_,_,_⟩:=h1.form;obtain⟨ya,yl,yc,rfl,_,_,_⟩:=h2.form;clear h1 h2 hx hy;by_cases hab:a=b
 ·subst hab
  go_enter Tryz.func103,Tryz.ntmps103
  go_wp2_with fail;refine(HP.out w (cF _ _)).mono ?_;rintro e W1 ⟨v,rfl,hv,hb⟩;have HV:=ca hv;have HB:=ca hb;clear hv hb;go_wp2_with fail;refine jT (v:=.tuple #[.bool a,v]) (by simp [results,Tryz.results103,go_sem]) rfl ?_;rw[show yE a x a y=(a,x+y) from by simp [yE]];exact⟨v,rfl,HV.out,HB.out⟩
 ·have hab':(a == b)=false:=by simpa using hab
  have HAB:=ca hab;clear hab;by_cases hc:y<=x
  ·have hcv:0<=cY x y:=by unfold cY;split<;>first|omega|(split<;>omega)
   have HHC:=ca hc;clear hc;generalize cY x y=cv at *
   go_enter Tryz.func103,Tryz.ntmps103
   go_wp2_with fail;refine(HC.out w (cF _ _)).mono ?_;rintro e W1 ⟨rfl,q,rfl⟩;go_wp2_with fail;refine(HM.out HHC.out _ (kV (cF _ _))).mono ?_;rintro e W1 ⟨v,rfl,hv,hb⟩;have HV:=ca hv;have HB:=ca ((kV (n:=q) (cF w.heap.size w)).trans hb);clear hv hb;go_wp2_with fail;refine jT (v:=.tuple #[.bool a,v]) (by simp [results,Tryz.results103,go_sem]) rfl ?_;rw[show yE a x b y=(a,x-y) from by simp [yE,HAB.out,HHC.out]];exact⟨v,rfl,HV.out,HB.out⟩
  ·have hcv:¬ 0<=cY x y:=by unfold cY;split<;>omega
   have HHC:=ca hc;clear hc;generalize cY x y=cv at *
   go_enter Tryz.func103,Tryz.ntmps103
   go_wp2_with fail;refine(HC.out w (cF _ _)).mono ?_;rintro e W1 ⟨rfl,q,rfl⟩;go_wp2_with fail;refine(HM'.out (by have:=HHC.out;omega) _ (kV (cF _ _))).mono ?_;rintro e W1 ⟨v,rfl,hv,hb⟩;have HV:=ca hv;have HB:=ca ((kV (n:=q) (cF w.heap.size w)).trans hb);clear hv hb;go_wp2_with fail;refine jT (v:=.tuple #[.bool b,v]) (by simp [results,Tryz.results103,go_sem]) rfl ?_;rw[show yE a x b y=(b,y-x) from by simp [yE,HAB.out,HHC.out]];exact⟨v,rfl,HV.out,HB.out⟩
theorem uT {x y j k:Nat}(hx:x<B^j) (hy:y<B^k):x*y<B^(j+k):=by
 rw[jW];exact Nat.mul_lt_mul'' hx hy
theorem Wa (v1 v2:Value) (neg1 neg2:Bool) (n1 d1 n2 d2 k:Nat) (w:World) (h1:Num w v1 neg1 n1 d1) (h2:Num w v2 neg2 n2 d2)
 (hn1:n1<B^k) (hd1:d1<B^k) (hn2:n2<B^k) (hd2:d2<B^k) (hk:(k:Int)<=1073741824) :
 Calls Tryz.prog 65 #[v1,v2] w (Val w (.int .i64 (cY (n1*d2) (n2*d1)))):=by
 have HP1:=ca (fun W (hW:Below w.heap.size w W)=>CU v1 neg1 n1 d1 W (h1.below hW (cb _)));have HP2:=ca (fun W (hW:Below w.heap.size w W)=>CU v2 neg2 n2 d2 W (h2.below hW (cb _)));obtain⟨a1,b1,p1,rfl,_⟩:=h1.form;obtain⟨a2,b2,p2,rfl,_⟩:=h2.form;have HT1:=ca (fun x y W (hx:cr W x n1) (hy:cr W y d2)=>CG x y n1 d2 k W hx hy hn1 hd2 hk);have HT2:=ca (fun x y W (hx:cr W x n2) (hy:cr W y d1)=>CG x y n2 d1 k W hx hy hn2 hd1 hk);clear h1 h2 hn1 hd1 hn2 hd2
 go_enter Tryz.func65,Tryz.ntmps65
 go_wp2_with fail;obtain⟨W0,hW0,hb0,⟨f0,f1,f2,f3⟩,⟨g0,g1,g2,g3⟩⟩:=box2 w (.bool neg1) (u a1) (u b1) (.pointer p1) (.bool neg2) (u a2) (u b2) (.pointer p2);rw[← hW0];clear hW0;refine(HP1.out _ hb0).mono ?_;rintro e W1 ⟨x1,y1,rfl,hx1,hy1,hb⟩
 (obtain⟨_,_,_,_,_,_,_,_⟩:=ut w hb)
 have hb1:=cG hb0 hb;obtain⟨xa1,xl1,xc1,rfl,_⟩:=hx1.form;obtain⟨ya1,yl1,yc1,rfl,_⟩:=hy1.form;have HX1:=ca hx1;have HY1:=ca hy1;have HA1:=ca hb1;clear hb0 hb hb1 hx1 hy1 f0 f1 f2 f3 g0 g1 g2 g3;go_wp2_with fail;refine(HP2.out _ HA1.out).mono ?_;rintro e W2 ⟨x2,y2,rfl,hx2,hy2,hb⟩
 (obtain⟨_,_,_,_,_,_,_,_⟩:=ut w hb)
 obtain⟨xa2,xl2,xc2,rfl,_⟩:=hx2.form;obtain⟨ya2,yl2,yc2,rfl,_⟩:=hy2.form;have HX1':=ca (HX1.out.below hb (cb _));have HY1':=ca (HY1.out.below hb (cb _));have HX2:=ca hx2;have HY2:=ca hy2;have HA2:=ca (cG HA1.out hb);clear hb hx2 hy2 HA1 HX1 HY1;go_wp2_with fail;refine(HT1.out _ _ _ HX1'.out HY2.out).mono ?_;rintro e W3 ⟨z1,rfl,hz1,hb⟩;obtain⟨za1,zl1,zc1,rfl,_⟩:=hz1.form;have HX2':=ca (HX2.out.below hb (cb _));have HY1'':=ca (HY1'.out.below hb (cb _));have HZ1:=ca hz1;have HA3:=ca (cG HA2.out hb);clear hb hz1 HA2 HX1' HX2 HY1' HY2;go_wp2_with fail;refine(HT2.out _ _ _ HX2'.out HY1''.out).mono ?_;rintro e W4 ⟨z2,rfl,hz2,hb⟩;obtain⟨za2,zl2,zc2,rfl,_⟩:=hz2.form;have HZ1':=ca (HZ1.out.below hb (cb _));have HZ2:=ca hz2;have HA4:=ca (cG HA3.out hb);clear hb hz2 HA3 HX2' HY1'' HZ1;go_wp2_with fail;refine(uY _ _ _ _ _ HZ1'.out HZ2.out).mono ?_;rintro e W5 ⟨rfl,q,rfl⟩;generalize cY (n1*d2) (n2*d1)=cv at *;go_wp2_with fail
 go_ret
 exact⟨rfl,kV HA4.out⟩
end Go.Proofs.YtcgiaclelnmhbabGreatDoor
