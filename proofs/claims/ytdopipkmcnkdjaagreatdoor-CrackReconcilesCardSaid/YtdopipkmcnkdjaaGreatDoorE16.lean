/- Part 16. -/
import Derived.Laws.IdiomStrings
import Derived.RangeFuncBox
import Derived.Test.YtdopipkmcnkdjaaGreatDoorE15
set_option linter.all false

namespace Go.Proofs.YtdopipkmcnkdjaaGreatDoor
open Go Go.RowKit Go.Proofs Lim
abbrev lo (neg:Bool) (n l:Nat):Value:=.agg #[.bool neg,u n,u l,.pointer none]
abbrev wi (neg:Bool) (p:Addr):Value:=.agg #[.bool neg,u 0,u 0,.pointer (some p)]
def WTy (w:World) (b:Nat):Prop:=∃ cs,w.heap[b]?=some (.cells cs 138 (0,0))
theorem WTy.to {w w':World}{b:Nat}(h:WTy w b) (hb:w'.heap[b]?=w.heap[b]?):WTy w' b:=let ⟨cs,h⟩:=h;⟨cs,hb.trans h⟩
inductive Num (w:World) (v:Value) (neg:Bool) (n d:Nat):Prop
 |low (l:Nat) (hv:v=lo neg n l) (hd:d=l+1) (hn:n<B) (hdB:d<B)
 |wide (b:Nat) (x y:Value) (hv:v=wi neg ⟨b,0,none⟩) (hx:w.cell? ⟨b,0,none⟩=some x) (hy:w.cell? ⟨b,1,none⟩=some y) (h1:cu w x n) (h2:cu w y d) (hB:(B<=n\/B<=d)/\WTy w b) (h0:0<n) (hd:0<d)
theorem Num.below {w w':World}{v:Value}{neg:Bool}{n d:Nat}{k:Nat}(h:Num w v neg n d) (hb:Below k w w') (hk:w.heap.size<=k):Num w' v neg n d:=by
 cases h with
 |low l hv hd hn hdB=>exact .low l hv hd hn hdB
 |wide b x y hv hx hy h1 h2 hB h0 hd =>
  have hlt:=kS w _ hx;exact .wide b x y hv ((hb.cell (p:=⟨b,0,none⟩) (cI hlt hk)).trans hx) ((hb.cell (p:=⟨b,1,none⟩) (cI hlt hk)).trans hy) (h1.below hb hk) (h2.below hb hk) ⟨hB.1,hB.2.to (hb.block b (cI hlt hk))⟩ h0 hd
def IsQ (w:World) (v:Value) (r:Rat):Prop:=Num w v (decide (r.num<0)) r.num.natAbs r.den
theorem IsQ.below {w w':World}{v:Value}{r:Rat}{k:Nat}(h:IsQ w v r) (hb:Below k w w') (hk:w.heap.size<=k):IsQ w' v r:=Num.below h hb hk
def Siz (r:Rat) (k:Nat):Prop:=r.num.natAbs<B^k/\r.den<B^k
def Gf (w:World) (r:Rat) (e:Ending) (w':World):Prop:=∃ v,e=.returned v/\IsQ w' v r/\Below w.heap.size w w'
def Val (w:World) (v:Value) (e:Ending) (w':World):Prop:=e=.returned v/\Below w.heap.size w w'
theorem jV (w:World) (o:Obj):Below w.heap.size w (w.alloc o):=(cw _ w).alloc (cb _) o
theorem Wm (neg:Bool) (n d:Nat) (hd:d<B) (w:World) :
 Calls Tryz.prog 34 #[.bool neg,u n,u d] w (Val w (lo (neg&&!decide (n=0)) n (Eo d 1))):=by
 have k0:IntKind.u64.wrap ((d:Nat)-(1:Int))=((Eo d 1:Nat):Int):=by
  have:=cgi (x:=d) (y:=1) hd (by decide);have h2:=YR d 1;have h3:=cii d 1;rw[zA];generalize JM d 1=c at *;generalize Eo d 1=b at *;unfold B at *;omega
 generalize Eo d 1=l at *;have k1:(((n:Nat):Int) != 0)=!decide (n=0):=by rw[YD];simp
 go_enter Tryz.func34,Tryz.ntmps34
 go_wp2_with fail
 ·rename_i h;subst h;refine jw (v:=lo (!decide (n=0)) n l) (by simp [results,Tryz.results34,go_sem]) rfl ?_;exact⟨by simp,jV w _⟩
 ·rename_i h;have h:neg=false:=by simpa using h
  subst h;refine jw (v:=lo false n l) (by simp [results,Tryz.results34,go_sem]) rfl ?_;exact⟨by simp,jV w _⟩
theorem EI (neg:Bool) (n l:Nat) (p:Option Addr) (hd:l+1<B) (w:World) :
 Calls Tryz.prog 73 #[.agg #[.bool neg,u n,u l,.pointer p]] w (Val w (u (l+1))):=by
 have k0:IntKind.u64.wrap ((l:Nat)+(1:Int))=((l+1:Nat):Int):=by
  exact JS (x:=l) (y:=1) hd
 go_enter Tryz.func73,Tryz.ntmps73
 go_wp2_with fail
 go_ret
 exact⟨rfl,jV w _⟩
theorem JA (x y:Nat) (hx:x<B) (hy:y<B) (w:World) :
 Calls Tryz.prog 138 #[u x,u y] w (fun e w'=>e=.returned (.tuple #[u (ke x y),.bool (decide (uC x y=0))])/\Below w.heap.size w w'):=by
 go_enter Tryz.func138,Tryz.ntmps138
 go_wp2_with fail;refine(ced x y hx hy w).mono ?_;rintro e w' ⟨rfl,rfl⟩;have k0:(((uC x y:Nat):Int) == 0)=decide (uC x y=0):=by rw[YD];simp
 go_wp2_with fail;refine jw (v:=.tuple #[u (ke x y),.bool (decide (uC x y=0))]) (by simp [results,Tryz.results138,go_sem]) rfl ?_;exact⟨rfl,by first|exact cw _ _|exact jV w _⟩
def zu (a:Bool) (x:Nat) (b:Bool) (y:Nat):Bool×Nat:=if a=b then (a,x+y) else if y<=x then (a,x-y) else (b,y-x)
def cpc (w:World) (neg:Bool) (t:Nat) (e:Ending) (w':World):Prop :=
 ∃ s,s<B/\∃ ok:Bool,(ok=true->s=t)/\e=.returned (.tuple #[.bool neg,u s,.bool ok])/\Below w.heap.size w w'
attribute [local go_sem] Yb
theorem cgm (a b:Bool) (x y:Nat) (hx:x<B) (hy:y<B) (w:World) :
 Calls Tryz.prog 139 #[.bool a,u x,.bool b,u y] w (cpc w (zu a x b y).1 (zu a x b y).2):=by
 have k0:=caJ x y;have k1:=cgY hx hy;have k2:=UN x y;have K0:=ca k0;have k5:(((yD x y:Nat):Int) == 0)=decide (yD x y=0):=by rw[YD];simp
 clear k0;by_cases hab:a=b
 ·subst hab
  go_enter Tryz.func139,Tryz.ntmps139
  go_wp2_with fail;refine jw (v:=.tuple #[.bool a,u (zT x y),.bool (decide (yD x y=0))]) (by simp [results,Tryz.results139,go_sem]) rfl ?_;refine⟨zT x y,k2,decide (yD x y=0),?_,by simp [zu],by first|exact cw _ _|exact jV w _⟩;intro h;have h:yD x y=0:=by simpa using h
  have:=K0.out;rw[h] at this;simp [zu];omega
 ·have hab':(a == b)=false:=by simpa using hab
  by_cases hc:y<=x
  ·have k3:IntKind.u64.wrap ((x:Int)-(y:Int))=((x-y:Nat):Int):=GW hx hc
   go_enter Tryz.func139,Tryz.ntmps139
   go_wp2_with fail;refine jw (v:=.tuple #[.bool a,u (x-y),.bool true]) (by simp [results,Tryz.results139,go_sem]) rfl ?_;exact⟨x-y,by omega,true,by simp [zu,hab,hc],by simp [zu,hab,hc],by first|exact cw _ _|exact jV w _⟩
  ·have k3:IntKind.u64.wrap ((y:Int)-(x:Int))=((y-x:Nat):Int):=GW hy (by omega)
   go_enter Tryz.func139,Tryz.ntmps139
   go_wp2_with fail;refine jw (v:=.tuple #[.bool b,u (y-x),.bool true]) (by simp [results,Tryz.results139,go_sem]) rfl ?_;exact⟨y-x,by omega,true,by simp [zu,hab,hc],by simp [zu,hab,hc],by first|exact cw _ _|exact jV w _⟩
theorem Jk {X W:World}{b:Nat}{a0 a1 a2 a3:Value}(hb:Below X.heap.size X W) (h0:X.cell? ⟨b,0,none⟩=some a0) (h1:X.cell? ⟨b,1,none⟩=some a1) (h2:X.cell? ⟨b,2,none⟩=some a2) (h3:X.cell? ⟨b,3,none⟩=some a3) :
 W.cell? ⟨b,0,none⟩=some a0/\W.cell? ⟨b,1,none⟩=some a1/\W.cell? ⟨b,2,none⟩=some a2/\W.cell? ⟨b,3,none⟩=some a3:=by
 have hlt:=kS X _ h0;exact⟨(hb.cell (p:=⟨b,0,none⟩) hlt).trans h0,(hb.cell (p:=⟨b,1,none⟩) hlt).trans h1,(hb.cell (p:=⟨b,2,none⟩) hlt).trans h2,(hb.cell (p:=⟨b,3,none⟩) hlt).trans h3⟩
theorem boxa {X W:World}(w:World) {a0 a1 a2 a3:Value}(hb:Below X.heap.size X W) (h0:X.cell? ⟨w.heap.size,0,none⟩=some a0:=by assumption) (h1:X.cell? ⟨w.heap.size,1,none⟩=some a1:=by assumption) (h2:X.cell? ⟨w.heap.size,2,none⟩=some a2:=by assumption) (h3:X.cell? ⟨w.heap.size,3,none⟩=some a3:=by assumption) :
 W.cell? ⟨w.heap.size,0,none⟩=some a0/\W.cell? ⟨w.heap.size,1,none⟩=some a1/\W.cell? ⟨w.heap.size,2,none⟩=some a2/\W.cell? ⟨w.heap.size,3,none⟩=some a3:=Jk hb h0 h1 h2 h3
theorem yj {X W:World}(w:World) {a0 a1 a2 a3 b0 b1 b2 b3:Value}(hb:Below X.heap.size X W) (h0:X.cell? ⟨w.heap.size,0,none⟩=some a0:=by assumption) (h1:X.cell? ⟨w.heap.size,1,none⟩=some a1:=by assumption) (h2:X.cell? ⟨w.heap.size,2,none⟩=some a2:=by assumption) (h3:X.cell? ⟨w.heap.size,3,none⟩=some a3:=by assumption) (k0:X.cell? ⟨w.heap.size+1,0,none⟩=some b0:=by assumption) (k1:X.cell? ⟨w.heap.size+1,1,none⟩=some b1:=by assumption) (k2:X.cell? ⟨w.heap.size+1,2,none⟩=some b2:=by assumption) (k3:X.cell? ⟨w.heap.size+1,3,none⟩=some b3:=by assumption) :
 W.cell? ⟨w.heap.size,0,none⟩=some a0/\W.cell? ⟨w.heap.size,1,none⟩=some a1/\W.cell? ⟨w.heap.size,2,none⟩=some a2/\W.cell? ⟨w.heap.size,3,none⟩=some a3/\W.cell? ⟨w.heap.size+1,0,none⟩=some b0/\W.cell? ⟨w.heap.size+1,1,none⟩=some b1/\W.cell? ⟨w.heap.size+1,2,none⟩=some b2/\W.cell? ⟨w.heap.size+1,3,none⟩=some b3:=by
 obtain⟨p0,p1,p2,p3⟩:=Jk hb h0 h1 h2 h3;exact⟨p0,p1,p2,p3,Jk hb k0 k1 k2 k3⟩
theorem box2 (w:World) (a0 a1 a2 a3 b0 b1 b2 b3:Value):∃ W,W=(w.alloc (.cells #[a0,a1,a2,a3] 34)).alloc (.cells #[b0,b1,b2,b3] 34)/\Below w.heap.size w W/\
 (W.cell? ⟨w.heap.size,0,none⟩=some a0/\W.cell? ⟨w.heap.size,1,none⟩=some a1/\W.cell? ⟨w.heap.size,2,none⟩=some a2/\W.cell? ⟨w.heap.size,3,none⟩=some a3)/\
 (W.cell? ⟨w.heap.size+1,0,none⟩=some b0/\W.cell? ⟨w.heap.size+1,1,none⟩=some b1/\W.cell? ⟨w.heap.size+1,2,none⟩=some b2/\W.cell? ⟨w.heap.size+1,3,none⟩=some b3):=by
 refine⟨_,rfl,(jV w _).alloc (jV w _).size _,?_,?_⟩
 ·have h:((w.alloc (.cells #[a0,a1,a2,a3] 34)).alloc (.cells #[b0,b1,b2,b3] 34)).heap[w.heap.size]?=some (.cells #[a0,a1,a2,a3] 34):=by
   show ((w.heap.push _).push _)[w.heap.size]?=_;simp [chk]
  unfold World.cell?;rw[h];exact⟨rfl,rfl,rfl,rfl⟩
 ·have h:((w.alloc (.cells #[a0,a1,a2,a3] 34)).alloc (.cells #[b0,b1,b2,b3] 34)).heap[w.heap.size+1]?=some (.cells #[b0,b1,b2,b3] 34):=by
   show ((w.heap.push _).push _)[w.heap.size+1]?=_;rw[chk,co (by simp)]
  unfold World.cell?;rw[h];exact⟨rfl,rfl,rfl,rfl⟩
def Box (W:World) (b:Nat) (a0 a1 a2 a3:Value):Prop:=W.heap[b]?=some (.cells #[a0,a1,a2,a3] 34 (0,0))
theorem Box.below {W W':World}{b k:Nat}{a0 a1 a2 a3:Value}(h:Box W b a0 a1 a2 a3) (hb:Below k W W') (hk:W.heap.size<=k):Box W' b a0 a1 a2 a3 :=
 (hb.block b (cI (Array.getElem?_eq_some_iff.1 h).1 hk)).trans h
theorem Box.cells {W:World}{b:Nat}{a0 a1 a2 a3:Value}(h:Box W b a0 a1 a2 a3) :
 W.cell? ⟨b,0,none⟩=some a0/\W.cell? ⟨b,1,none⟩=some a1/\W.cell? ⟨b,2,none⟩=some a2/\W.cell? ⟨b,3,none⟩=some a3:=by
 unfold Box at h;simp [World.cell?,h]
theorem Box.frozen {W:World}{b:Nat}{a0 a1 a2 a3:Value}(h:Box W b a0 a1 a2 a3) (i:Nat):W.frozen? ⟨b,i,none⟩=false:=by
 unfold Box at h;simp [World.frozen?,h]
theorem Box.zed {X W:World}{b:Nat}{a0 a1 a2 a3:Value}(h:Box X b a0 a1 a2 a3) (hb:Below X.heap.size X W) :
 W.cell? ⟨b,0,none⟩=some a0/\W.cell? ⟨b,1,none⟩=some a1/\W.cell? ⟨b,2,none⟩=some a2/\W.cell? ⟨b,3,none⟩=some a3/\W.frozen? ⟨b,0,none⟩=false/\W.frozen? ⟨b,1,none⟩=false/\W.frozen? ⟨b,2,none⟩=false/\W.frozen? ⟨b,3,none⟩=false:=by
 have hz:=h.below hb (cb _);obtain⟨p0,p1,p2,p3⟩:=hz.cells;exact⟨p0,p1,p2,p3,hz.frozen 0,hz.frozen 1,hz.frozen 2,hz.frozen 3⟩
theorem boxz (w:World):∃ W,W=w.alloc (.cells #[.bool false,.int .u64 0,.int .u64 0,.pointer none] 34)/\Below w.heap.size w W/\Box W w.heap.size (.bool false) (.int .u64 0) (.int .u64 0) (.pointer none)/\W.heap.size=w.heap.size+1 :=
 ⟨_,rfl,jV w _,Gh w _,by show (w.heap.push _).size=_;simp⟩
theorem box3 (w:World) (a0 a1 a2 a3 b0 b1 b2 b3:Value):∃ W,W=((w.alloc (.cells #[a0,a1,a2,a3] 34)).alloc (.cells #[b0,b1,b2,b3] 34)).alloc (.cells #[.bool false,.int .u64 0,.int .u64 0,.pointer none] 34)/\Below w.heap.size w W/\
 (W.cell? ⟨w.heap.size,0,none⟩=some a0/\W.cell? ⟨w.heap.size,1,none⟩=some a1/\W.cell? ⟨w.heap.size,2,none⟩=some a2/\W.cell? ⟨w.heap.size,3,none⟩=some a3)/\
 (W.cell? ⟨w.heap.size+1,0,none⟩=some b0/\W.cell? ⟨w.heap.size+1,1,none⟩=some b1/\W.cell? ⟨w.heap.size+1,2,none⟩=some b2/\W.cell? ⟨w.heap.size+1,3,none⟩=some b3)/\
 Box W (w.heap.size+1+1) (.bool false) (.int .u64 0) (.int .u64 0) (.pointer none):=by
 obtain⟨W,hW,hb,hf,hg⟩:=box2 w a0 a1 a2 a3 b0 b1 b2 b3;rw[← hW];have hs:W.heap.size=w.heap.size+1+1:=by
  rw[hW];show ((w.heap.push _).push _).size=_;simp
 have hb2:=jV W (.cells #[.bool false,.int .u64 0,.int .u64 0,.pointer none] 34);refine⟨_,rfl,hb.trans (hb2.mono hb.size),Jk hb2 hf.1 hf.2.1 hf.2.2.1 hf.2.2.2,Jk hb2 hg.1 hg.2.1 hg.2.2.1 hg.2.2.2,?_⟩;rw[← hs];exact Gh W _
theorem CZ {w W0 W1:World}(h:Below w.heap.size w W0) (k:Below W0.drew.heap.size W0.drew W1):Below w.heap.size w W1 :=
 h.drew.trans (k.mono h.drew.size)
theorem cq {w W0 W1:World}(h:Below w.heap.size w W0) (k:Below W0.heap.size W0 W1):Below w.heap.size w W1 :=
 h.trans (k.mono h.size)
theorem ccP (w:World) (a0 a1 a2 a3:Value):∃ W,W=w.alloc (.cells #[a0,a1,a2,a3] 34)/\Below w.heap.size w W/\
 (W.cell? ⟨w.heap.size,0,none⟩=some a0/\W.cell? ⟨w.heap.size,1,none⟩=some a1/\W.cell? ⟨w.heap.size,2,none⟩=some a2/\W.cell? ⟨w.heap.size,3,none⟩=some a3):=by
 refine⟨_,rfl,jV w _,?_⟩;have h:(w.alloc (.cells #[a0,a1,a2,a3] 34)).heap[w.heap.size]?=some (.cells #[a0,a1,a2,a3] 34):=by
  show (w.heap.push _)[w.heap.size]?=_;simp
 unfold World.cell?;rw[h];exact⟨rfl,rfl,rfl,rfl⟩
def Ku (a c:Int):Int:=if a=0 then c else a
theorem or_two (a c:Int) (b:Nat) (w:World) (h0:w.cell? ⟨b,0,none⟩=some (.int .i64 a)) (h1:w.cell? ⟨b,1,none⟩=some (.int .i64 c)) :
 Calls Tryz.prog 57 #[.slice (some ⟨b,0,none⟩) 2 2] w (Val w (.int .i64 (Ku a c))):=by
 obtain⟨f,hf⟩:∃ f,f=Ku a c:=⟨_,rfl⟩;rw[← hf];have HF:=ca hf;clear hf
 go_enter Tryz.func57,Tryz.ntmps57
 go_wp2_with fail
 go_loopw [8] (fun i wr=>wr=w/\(i=.int .i64 0\/(i=.int .i64 1/\a=0)\/(i=.int .i64 2/\a=0/\c=0))) (fun i _=>2-(intOf i).toNat)
 case atStart=>exact⟨rfl,.inl rfl⟩
 case round =>
  obtain⟨rfl,rfl|⟨rfl,ha⟩|⟨rfl,ha,hc⟩⟩:=hrel
  ·by_cases ha:a=0
   ·subst ha;go_wp2_with fail
    go_roundw
    case rel=>simp
    case measure=>simp [intOf]
   ·go_wp2_with fail
    go_ret
    have:=HF.out;rw[Ku,cg ha] at this;rw[this];exact⟨rfl,cw _ _⟩
  ·subst ha;by_cases hc:c=0
   ·subst hc;go_wp2_with fail
    go_roundw
    case rel=>simp
    case measure=>simp [intOf]
   ·go_wp2_with fail
    go_ret
    have:=HF.out;rw[Ku,co rfl] at this;rw[this];exact⟨rfl,cw _ _⟩
  ·subst ha hc;go_wp2_with fail
   go_ret
   have:=HF.out;exact⟨by rw[this];rfl,cw _ _⟩
theorem cme (m n:Nat):Ku (jt (m/B) (n/B)) (jt (m%B) (n%B))=jt m n:=by
 have h1:=kY m B;have h2:=kY n B;have h3:=ki m kn;have h4:=ki n kn;generalize m/B=q at *;generalize n/B=r at *;generalize m%B=s at *;generalize n%B=t at *;generalize B=b at *;unfold Ku jt;rcases KH q r with h|h|h
 ·have:b*q+b<=b*r:=by rw[← Nat.mul_succ];exact jz _ h
  have g1:m<n:=by omega
  have g2:¬ q=r:=by omega
  simp [*]
 ·subst h;simp;omega
 ·have:b*r+b<=b*q:=by rw[← Nat.mul_succ];exact jz _ h
  have g1:n<m:=by omega
  have g2:¬ q<r:=by omega
  have g3:¬ m<n:=by omega
  simp [*]
theorem ZP (neg1 neg2:Bool) (n1 l1 n2 l2:Nat) (h1:n1<B) (h2:l1+1<B) (h3:n2<B) (h4:l2+1<B) (w:World) :
 Calls Tryz.prog 70 #[lo neg1 n1 l1,lo neg2 n2 l2] w (Val w (.int .i64 (jt (n1*(l2+1)) (n2*(l1+1))))):=by
 have HB2:=ca (fun W=>EI neg2 n2 l2 none h4 W);have HB1:=ca (fun W=>EI neg1 n1 l1 none h2 W);have HM1:=ca (fun W=>ced n1 (l2+1) h1 h4 W);have HM2:=ca (fun W=>ced n2 (l1+1) h3 h2 W)
 go_enter Tryz.func70,Tryz.ntmps70
 go_wp2_with fail;obtain⟨W0,hW0,hb0,⟨f0,f1,f2,f3⟩,⟨g0,g1,g2,g3⟩⟩:=box2 w (.bool neg1) (u n1) (u l1) (.pointer none) (.bool neg2) (u n2) (u l2) (.pointer none);rw[← hW0];clear hW0
 go_region_held3 (fun w'=>(w'.cell? ⟨w.heap.size,0,none⟩=some (.bool neg1)/\w'.cell? ⟨w.heap.size,1,none⟩=some (u n1)/\w'.cell? ⟨w.heap.size,2,none⟩=some (u l1)/\w'.cell? ⟨w.heap.size,3,none⟩=some (.pointer none))/\(w'.cell? ⟨w.heap.size+1,0,none⟩=some (.bool neg2)/\w'.cell? ⟨w.heap.size+1,1,none⟩=some (u n2)/\w'.cell? ⟨w.heap.size+1,2,none⟩=some (u l2)/\w'.cell? ⟨w.heap.size+1,3,none⟩=some (.pointer none))) (go_keep) (first|((with_reducible refine(HB2.out _).mono ?_);rintro e W1 ⟨rfl,hb⟩;(obtain⟨_,_,_,_,_,_,_,_⟩:=yj w hb))|((with_reducible refine(HM1.out _).mono ?_);rintro e W2 ⟨rfl,rfl⟩))
 have HBa:=ca (CZ hb0 hb);clear hb0 hb;have hfin:Ku (jt (uC n1 (l2+1)) (uC n2 (l1+1))) (jt (ke n1 (l2+1)) (ke n2 (l1+1)))=jt (n1*(l2+1)) (n2*(l1+1)):=cme _ _;have HFin:=ca hfin;clear hfin;generalize uC n1 (l2+1)=hi1 at *;generalize ke n1 (l2+1)=lo1 at *;go_wp2_with fail
 go_region_held3 (fun w'=>(w'.cell? ⟨w.heap.size,0,none⟩=some (.bool neg1)/\w'.cell? ⟨w.heap.size,1,none⟩=some (u n1)/\w'.cell? ⟨w.heap.size,2,none⟩=some (u l1)/\w'.cell? ⟨w.heap.size,3,none⟩=some (.pointer none))/\(w'.cell? ⟨w.heap.size+1,0,none⟩=some (.bool neg2)/\w'.cell? ⟨w.heap.size+1,1,none⟩=some (u n2)/\w'.cell? ⟨w.heap.size+1,2,none⟩=some (u l2)/\w'.cell? ⟨w.heap.size+1,3,none⟩=some (.pointer none))) (go_keep) (first|((with_reducible refine(HB1.out _).mono ?_);rintro e W3 ⟨rfl,hb⟩;(obtain⟨_,_,_,_,_,_,_,_⟩:=yj w hb))|((with_reducible refine(HM2.out _).mono ?_);rintro e W4 ⟨rfl,rfl⟩))
 have HBb:=ca (CZ HBa.out hb);clear HBa hb;generalize uC n2 (l1+1)=hi2 at *;generalize ke n2 (l1+1)=lo2 at *;go_wp2_with fail;refine(UW hi1 hi2 _).mono ?_;rintro e W5 ⟨rfl,rfl⟩;go_wp2_with fail;refine(UW lo1 lo2 _).mono ?_;rintro e W6 ⟨rfl,rfl⟩;go_wp2_with fail;refine(or_two (jt hi1 hi2) (jt lo1 lo2) W3.heap.size _ (ZX ..) (ZX ..)).mono ?_;rintro e W7 ⟨rfl,hb7⟩;go_wp2_with fail
 go_ret
 rw[HFin.out];refine⟨rfl,HBb.out.trans ((jV W3 _).trans (hb7.mono (jV W3 _).size) |>.mono HBb.out.size)⟩
abbrev b8 (c:UInt8):Value:=.int .u8 (c.toNat:Int)
abbrev str (l:List UInt8):Value:=.string ⟨l.toArray⟩
def Yc (w:World) (b:Nat) (l:List UInt8):Prop:=∃ T:List Value,w.heap[b]?=some (.cells (l.map b8++T).toArray 5 (0,0))
theorem Yc.lt {w:World}{b:Nat}{l:List UInt8}(h:Yc w b l):b<w.heap.size:=let ⟨_,h⟩:=h;(Array.getElem?_eq_some_iff.1 h).1
theorem Yc.cell {w:World}{b:Nat}{l:List UInt8}(h:Yc w b l) (i:Nat) (hi:i<l.length):w.cell? ⟨b,i,none⟩=some (b8 l[i]):=by
 obtain⟨T,h⟩:=h;simp only[World.cell?,h];simp [hi,KQ]
theorem Yc.frozen {w:World}{b:Nat}{l:List UInt8}(h:Yc w b l) (i:Nat):w.frozen? ⟨b,i,none⟩=false:=by
 obtain⟨T,h⟩:=h;simp only[World.frozen?,h];simp
theorem Yc.set {w:World}{b:Nat}{l:List UInt8}(h:Yc w b l) (i:Nat) (c:UInt8) (hi:i<l.length):Yc (w.setCell ⟨b,i,none⟩ (b8 c)) b (l.set i c):=by
 obtain⟨T,h⟩:=h;refine⟨T,?_⟩;simp only[World.setCell,cbW];simp [h,List.map_set,List.set_append_left,hi]
theorem Yc.of_block {w w':World}{b:Nat}{l:List UInt8}(h:Yc w b l) (hb:w'.heap[b]?=w.heap[b]?):Yc w' b l:=let ⟨T,h⟩:=h;⟨T,by rw[hb,h]⟩
theorem Boxed.of_block {W W':World}{B:Nat}{t:TypeId}{v:Value}(h:Boxed W B t v) (hb:W'.heap[B]?=W.heap[B]?):Boxed W' B t v:=hb.trans h
theorem ciM (n:Nat):(madeCells #[Value.int .u8 0] n).toList=(List.replicate n (0:UInt8)).map b8:=by
 have h:(fun x=>(#[Value.int .u8 0]:Array Value)[x%1]!)=fun _=>b8 0:=by funext x;simp [Nat.mod_one]
 show ((Array.range n).map (fun x=>(#[Value.int .u8 0]:Array Value)[x%1]!)).toList=_;rw[h];simp [List.map_const']
theorem info_u8:(Tryz.prog.info? 5).map (fun i=>(i.zero,i.size,i.bytes))=some (some (.int .u8 0),1,1):=by kernel_rfl
theorem cmJ {w w1:World}{n:Nat}(hown:w1.ownsRow w.heap.size 5 1 (.slice (some ⟨w.heap.size,0,none⟩) n n) n (madeCells #[Value.int .u8 0] n).toList)
 (hgrow:w.grownBy w1 none):Yc w1 w.heap.size (List.replicate n 0)/\Below w.heap.size w w1:=by
 rw[ciM] at hown;obtain⟨h1,⟨h2,_⟩|⟨g,cap,cur,hv,hb,hg,hn,hm,hs,ht⟩⟩:=hown
 ·cases h2
 ·injection hv with hv1 hv2 hv3
  injection hv1 with hv1
  injection hv1 with hv1
  subst hv1;refine⟨⟨cur.toList.drop (n*1),?_⟩,(cw _ w).grown hgrow (cb _) (by intro k hk;cases hk)⟩;rw[hg,← ht,kv]
theorem cni (j:Nat) (r:List UInt8) (c:UInt8):(List.replicate (j+1) (0:UInt8)++r).set j c=List.replicate j 0++(c::r):=by
 rw[List.replicate_succ',uM];rw[cbD _ _ (by simp)];simp
def Yi (pre:List Nat):List UInt8:=(pre.map Gl).reverse
theorem ciB (pre:List Nat) (d:Nat):Yi (pre++[d])=Gl d::Yi pre:=by unfold Yi;simp
theorem cnu (pre:List Nat):(Yi pre).length=pre.length:=by unfold Yi;simp
theorem cnU {d:Nat}(h:d<10):Ze d=b8 (Gl d):=by
 unfold Ze b8;rw[Jw h];congr 1
def zY (w:World) (l:List UInt8) (e:Ending) (w':World):Prop:=e=.returned (str l)/\Below w.heap.size w w'
theorem cgM (v:Value) (n:Nat) (w:World) (h:cu w v n) :
 Calls Tryz.prog 74 #[v] w (fun e w'=>e=.returned (.func (.func 114) #[] #[.pointer (some ⟨w.heap.size,0,none⟩)])/\w'=w.alloc (.cells #[v] 99)):=by
 obtain⟨xs,⟨⟨xa,xc,rfl,_⟩,_⟩,_⟩:=h
 go_enter Tryz.func74,Tryz.ntmps74
 go_wp2_with fail
 go_ret
 exact⟨rfl,rfl⟩
theorem cmi (v:Value) (w:World) (h:cu w v 0):Calls Tryz.prog 41 #[v] w (zY w (cS 0)):=by
 obtain⟨ao,l,c,rfl,hl,hz,hB⟩:=h.form;have hl0:l=0:=hz.2 rfl;subst hl0;have e:cS 0=[48]:=rfl;rw[e];clear h
 go_enter Tryz.func41,Tryz.ntmps41
 go_wp2_with fail
 go_ret
 exact⟨rfl,cw _ _⟩
theorem Yn {n k m:Nat}(hk:n<B^k) (hm:k=m):(digs n).length<=20*m:=by
 subst hm;refine digs_len (cI hk ?_);rw[Nat.pow_mul];exact cbB (by decide) k
def Gz (w:World) (bt N K:Nat) (pre:List Nat) (W:World):Prop :=
 Yc W w.heap.size (List.replicate (K-pre.length) 0++Yi pre)/\Boxed W bt 139 (.slice (some ⟨w.heap.size,0,none⟩) K K)/\
  Boxed W (bt+1) 3 (.int .i64 ((K-pre.length:Nat):Int))/\Below w.heap.size w W/\pre <+: digs N
theorem Gz.lies (w:World) (bt N K B:Nat) (hB:w.heap.size<bt) (h2:bt+1<B):Lies B (Gz w bt N K):=by
 rintro pre A C ⟨h1,hx,h3,h4,h5⟩ hb;exact⟨h1.of_block (hb.block _ (by omega)),Boxed.of_block hx (hb.block _ (by omega)),Boxed.of_block h3 (hb.block _ (by omega)),h4.trans (hb.mono (by omega)),h5⟩
theorem UB.setCell (m:Nat) (A:World) (b o:Nat) (v:Value) (h:b<m):UB m A (A.setCell ⟨b,o,none⟩ v) :=
 ⟨by simp [World.setCell],fun k hk _=>Below.heap_setCell _ _ _ _ (by show k≠b;omega)⟩
theorem Gz.step {w W:World}{bt N K j:Nat}{pre:List Nat}{d:Nat}(h:Gz w bt N K pre W) (hb:w.heap.size<bt) (hj:K-pre.length=j+1) (hd:d<10) (hp:(pre++[d]) <+: digs N) :
 Gz w bt N K (pre++[d]) ((W.setCell ⟨bt+1,0,none⟩ (.int .i64 (j:Int))).setCell ⟨w.heap.size,j,none⟩ (Ze d)):=by
 obtain⟨h1,h2,h3,h4,h5⟩:=h;have e1:K-(pre++[d]).length=j:=by rw[kI,Ud];omega
 have o1:jJ (bt+1) W (W.setCell ⟨bt+1,0,none⟩ (.int .i64 (j:Int))):=(jJ.refl _ W).set 0 _;have o2:jJ w.heap.size (W.setCell ⟨bt+1,0,none⟩ (.int .i64 (j:Int))) ((W.setCell ⟨bt+1,0,none⟩ (.int .i64 (j:Int))).setCell ⟨w.heap.size,j,none⟩ (Ze d)):=(jJ.refl _ _).set j _;refine⟨?_,?_,?_,?_,hp⟩
 ·have:=Yc.set (h1.of_block (o1.block w.heap.size (by omega))) j (Gl d) (by rw[hj];simp;omega);rw[← cnU hd,hj,cni] at this;rw[e1,ciB];exact this
 ·exact Boxed.of_block (Boxed.of_block h2 (o1.block bt (by omega))) (o2.block bt (by omega))
 ·rw[e1];exact Boxed.of_block (Boxed.set _ h3) (o2.block (bt+1) (by omega))
 ·exact(h4.trans (o1.below (by omega))).trans (o2.below (cb _))
attribute [local go_sem] Oper.semAt_some
set_option maxRecDepth 100000 in
set_option maxHeartbeats 2000000 in
theorem cpm (v:Value) (N k:Nat) (w:World) (h:cu w v N) (h0:0<N) (hk:N<B^k) (hk2:(k:Int)<=1073741824):Calls Tryz.prog 41 #[v] w (zY w (cS N)):=by
 have h':=h;obtain⟨xs,⟨⟨xa,xc,rfl,_,_,_⟩,ok⟩,ht,hval⟩:=h';have hl:=cu.len ht hval hk;have hx0:0<xs.length:=by
  rcases xs with _|⟨x,xs⟩
  ·simp [val] at hval;omega
  ·simp
 have hdl:(digs N).length<=20*xs.length:=Yn (k:=xs.length) (by rw[← hval];exact kR ok) rfl;obtain⟨i0,hi,hz0,hz1,hz2⟩:=Ur info_u8;obtain⟨w1,hmk,hown,hgrow⟩:=run_make_full (P:=Tryz.prog) w w.heap.size 139 5 i0 (.int .u8 0) 1 Tryz.underlying139 hi hz0 hz1 .i64 .i64 (20*xs.length) (by rw[hz2];omega) (by unfold maxLen;omega) (cb _);have hblk:=cmJ (by rw[Cm] at hown;exact hown) hgrow;have hcast:((20*xs.length:Nat):Int)=20*(xs.length:Int):=by omega
 rw[hcast] at hmk;have e0:(((xs.length:Nat):Int) == 0)=false:=by rw[jO];omega
 obtain⟨K,hKdef⟩:∃ K,K=20*xs.length:=⟨_,rfl⟩;rw[← hKdef] at hmk hblk hdl;obtain⟨hB1,hbel1⟩:=hblk;have HB1:=ca hB1;have HBel1:=ca hbel1;have HH:=ca h;have HK:=ca hKdef;have HDL:=ca hdl;have HXL:=ca hl;have HNk:=ca hk;have hl30:(xs.length:Int)<=1073741824:=by omega
 have hK30:(K:Int)<=21474836480:=by omega
 clear hown hgrow hB1 hbel1 h hKdef hdl hcast hi hz0 hz1 hz2 ht hval ok hl hk;refine callsIn_wide (n:=3) |>.1 ?_
 refine cjF Tryz.func41 rfl trivial ?_ rfl;simp only[Tryz.ntmps41,Ek,uP,Ys,Nat.reduceAdd,Nat.reduceSub,Array.replicate_succ,Array.replicate_zero,List.push_toArray,List.append_toArray,Em,JB]
 gi_wp2
 have hbt:w.heap.size<w1.heap.size:=HB1.out.lt;have hT1:=Boxed.new w1 139 (.slice (some ⟨w.heap.size,0,none⟩) K K);have hS1:=Boxed.new (w1.alloc (.cells #[.slice (some ⟨w.heap.size,0,none⟩) K K] 139)) 3 (.int .i64 (K:Int));rw[Gc] at hS1;have hI:Gz w w1.heap.size N K [] ((w1.alloc (.cells #[.slice (some ⟨w.heap.size,0,none⟩) K K] 139)).alloc (.cells #[.int .i64 (K:Int)] 3)):=by
  have b1:=jV w1 (.cells #[.slice (some ⟨w.heap.size,0,none⟩) K K] 139);have b2:=jV (w1.alloc (.cells #[.slice (some ⟨w.heap.size,0,none⟩) K K] 139)) (.cells #[.int .i64 (K:Int)] 3);have b3:=cq b1 b2;refine⟨?_,hT1.alloc _,?_,cq HBel1.out b3,List.nil_prefix⟩
  ·have:Yc w1 w.heap.size (List.replicate (K-([]:List Nat).length) 0++Yi []):=by simpa [Yi] using HB1.out
   exact this.of_block (b3.block _ hbt)
  ·simpa using hS1
 have hs2:((w1.alloc (.cells #[.slice (some ⟨w.heap.size,0,none⟩) K K] 139)).alloc (.cells #[.int .i64 (K:Int)] 3)).heap.size=w1.heap.size+1+1:=by rw[Gc,Gc]
 obtain⟨W2,hW2⟩:∃ W2,(w1.alloc (.cells #[.slice (some ⟨w.heap.size,0,none⟩) K K] 139)).alloc (.cells #[.int .i64 (K:Int)] 3)=W2:=⟨_,rfl⟩;rw[hW2] at hI hs2 ⊢;have HI:=ca hI;have HS2:=ca hs2;have HBt:=ca hbt;clear hW2 hI hs2 hT1 hS1 hmk hbt;have hN2:=HH.out.below HI.out.2.2.2.1 (cb _);refine⟨trivial,(cgk (cgM _ N W2 hN2)).mono ?_⟩;rintro e W3 ⟨rfl,rfl⟩;have hI3:=Gz.lies w w1.heap.size N K W2.heap.size HBt.out (by rw[HS2.out];omega) _ _ _ HI.out (jV W2 (.cells #[.slice xa xs.length xc] 99));have hc3:(W2.alloc (.cells #[.slice xa xs.length xc] 99)).cell? ⟨W2.heap.size,0,none⟩=some (.slice xa xs.length xc):=ZX ..;have hN3:=hN2.below (jV W2 (.cells #[.slice xa xs.length xc] 99)) (cb _);have hs3:(W2.alloc (.cells #[.slice xa xs.length xc] 99)).heap.size=w1.heap.size+1+1+1:=by rw[Gc,HS2.out]
 rw[HS2.out] at hc3 ⊢;obtain⟨W3,hW3⟩:∃ W3,W2.alloc (.cells #[.slice xa xs.length xc] 99)=W3:=⟨_,rfl⟩;rw[hW3] at hI3 hc3 hN3 hs3 ⊢;have HI3:=ca hI3;have HN3:=ca hN3;have HC3:=ca hc3;have HS3:=ca hs3;clear hW3 hI3 hN3 hc3 hs3 hN2 HI HS2;generalize w1.heap.size=bt at *
 gi_wp2
 refine UG (w0:=W3) rfl (by decide) (gf:=114) (lb:=#[.pointer (some ⟨bt+1+1,0,none⟩)]) rfl trivial (cY Tryz.func114 (by kernel_rfl) rfl)
  (cjm (3-1) (by decide) (bt+1+1) _ N k W3 HC3.out HN3.out h0 HNk.out hk2) (cw _ _) rfl (Gz w bt N K) (Gz.lies w bt N K W3.heap.size HBt.out (by rw[HS3.out];omega)) HI3.out
  (fun d=>{ tmps:=#[.slice xa xs.length xc,undef,.string { data:=#[] },.pointer (some ⟨bt,0,none⟩),.pointer (some ⟨bt+1,0,none⟩),Ze d,.slice xa xs.length xc,.int .i64 (xs.length:Int),.bool false,.slice xa xs.length xc,.int .i64 (xs.length:Int),.int .i64 (20*(xs.length:Int)),.slice (some ⟨w.heap.size,0,none⟩) K K,.slice (some ⟨w.heap.size,0,none⟩) K K,.int .i64 (K:Int),.slice xa xs.length xc,.func (.func 114) #[] #[.pointer (some ⟨bt+1+1,0,none⟩)],Ze d,undef,undef,undef,undef,undef,undef,undef,undef,undef,undef],defers:=[] }) ?assign ?body ?done
 case assign =>
  intro l d W K' hK'
  gi_wp2
  exact hK'
 case body =>
  intro l pre d W hI hok hsz;have hlen:pre.length+1<=K:=by
   have h1:=List.IsPrefix.length_le hok;rw[kI,Ud] at h1;have:=HDL.out;omega
  obtain⟨j,hj⟩:∃ j,K-pre.length=j+1:=⟨K-pre.length-1,by omega⟩;have hjK:(j:Int)<(K:Int):=by omega
  have hd10:d<10:=Gv N d (hok.subset (by simp));have HStep:=ca (hI.step HBt.out hj hd10 hok);obtain⟨h1,h2,h3,h4,h5⟩:=hI;rw[hj] at h1 h3;have c1:=h1.cell j (by simp;omega);have f1:=h1.frozen j;have c2:=h2.cell;have c3:W.cell? ⟨bt+1,0,none⟩=some (.int .i64 ((j:Int)+1)):=h3.cell;have f3:=h3.frozen;have hbt:=HBt.out;have m1:¬ w.heap.size=bt+1:=by omega
  have m2:¬ bt+1=w.heap.size:=by omega
  have m3:¬ bt=bt+1:=by omega
  have m4:¬ bt+1=bt:=by omega
  have hW3:bt+1<W3.heap.size:=by rw[HS3.out];omega
  have HK1:=ca (((UB.setCell W3.heap.size W (bt+1) 0 (.int .i64 (j:Int)) hW3).trans (UB.setCell W3.heap.size _ w.heap.size j (Ze d) (by omega))));clear h1 h2 h3 h4 h5 hok hj hlen hsz hW3 hd10
  gi_wp2
  exact⟨HK1.out,HStep.out⟩
 case done =>
  intro ys W hS hI hlt hD;subst hS;obtain⟨h1,h2,h3,h4,h5⟩:=hI;have hso:Yi (digs N)=cS N:=by unfold Yi cS;rw[cg (by omega)]
  rw[hso] at h1;have hnl:(cS N).length=(digs N).length:=by rw[← hso,cnu]
  have hdl:=HDL.out;have hd0:0<(digs N).length:=by rw[digs_pos (by omega)];simp
  obtain⟨s,hs⟩:∃ s,s=K-(digs N).length:=⟨_,rfl⟩;rw[← hs] at h1 h3;have hlK:(cS N).length=K-s:=by omega
  have hsK:(s:Int)<(K:Int):=by omega
  have hsK1:(s:Int)<=(K:Int):=by omega
  have hns:¬ K=s:=by omega
  have hconv:=fun cap=>run_convert_bytes_back (P:=Tryz.prog) W 139 9 5 ⟨w.heap.size,s,none⟩ cap (cS N) Tryz.underlying139 Tryz.underlying5 Tryz.underlying9 (fun j hj=>by
   rw[ccq,h1.cell (s+j) (by simp;omega)];have e:(List.replicate s (0:UInt8)++cS N)[s+j]'(by simp;omega)=(cS N)[j]:=by
    rw[List.getElem_append_right (by simp)];simp
   rw[e])
  rw[hlK] at hconv;have hconv:=hconv (K-s);have c2:=h2.cell;have c3:W.cell? ⟨bt+1,0,none⟩=some (.int .i64 (s:Int)):=h3.cell;have HH4:=ca h4;have HD:=ca hD;have HSz:=ca hlt;clear h1 h2 h3 h4 h5 hso hnl hdl hd0 hs hlK hD hlt
  gi_wp2
  refine⟨by simp,.inl ⟨_,_,rfl,run_takeDeferred HD.out,?_⟩⟩;refine⟨_,results_tmp rfl _ _ _,rfl,HH4.out.trans (GA _ _ ?_)⟩;have:=HBt.out;rw[HS3.out];omega
theorem che (v:Value) (N k:Nat) (w:World) (h:cu w v N) (hk:N<B^k) (hk2:(k:Int)<=1073741824):Calls Tryz.prog 41 #[v] w (zY w (cS N)):=by
 rcases kH N with h0|h0
 ·subst h0;exact cmi v w h
 ·exact cpm v N k w h h0 hk hk2
def cac (w:World) (neg:Bool) (num den:Nat) (e:Ending) (w':World):Prop :=
 ∃ a b c,∃ ok:Bool,e=.returned (.tuple #[lo a b c,.bool ok])/\(ok=true->num<B/\den<B/\0<den->a=(neg&&!decide (num=0))/\b=num/\c+1=den)/\(ok=true->num<B/\den<B)/\Below w.heap.size w w'
theorem zE {w W0 W:World}{b:Nat}(h0:Below w.heap.size w W0) (h:Below W0.heap.size W0 W) (hb:w.heap.size<=b) (a0 a1 a2 a3:Value) :
 Below w.heap.size w ((((W.setCell ⟨b,0,none⟩ a0).setCell ⟨b,1,none⟩ a1).setCell ⟨b,2,none⟩ a2).setCell ⟨b,3,none⟩ a3) :=
 (h0.trans (h.mono h0.size)).trans (((((jJ.refl b W).set 0 a0).set 1 a1).set 2 a2).set 3 a3 |>.below hb)
theorem caf {d:Nat}(hd:d<B) (h0:0<d):Eo d 1+1=d:=by
 have:=cgi (x:=d) (y:=1) hd (by decide);have h2:JM d 1=0:=by rw[JM,cg (by omega)]
 rw[h2] at this;omega
theorem fits {x y:Nat}(h:decide (uC x y=0)=true):ke x y=x*y:=by
 have h:uC x y=0:=by simpa using h
 have:=cbr x y;rw[h,Ck,kh] at this;exact this
def cdd (neg1:Bool) (n1 d1:Nat) (neg2:Bool) (n2 d2:Nat):Bool×Nat:=zu neg1 (n1*(d2/Nat.gcd d1 d2)) neg2 (n2*(d1/Nat.gcd d1 d2))
def sumX (neg1:Bool) (n1 d1:Nat) (neg2:Bool) (n2 d2:Nat):Nat:=Nat.gcd (cdd neg1 n1 d1 neg2 n2 d2).2 (Nat.gcd d1 d2)
def ZA (neg1:Bool) (n1 d1:Nat) (neg2:Bool) (n2 d2:Nat):Nat:=(cdd neg1 n1 d1 neg2 n2 d2).2/sumX neg1 n1 d1 neg2 n2 d2
def sumD (neg1:Bool) (n1 d1:Nat) (neg2:Bool) (n2 d2:Nat):Nat:=d1/Nat.gcd d1 d2*(d2/sumX neg1 n1 d1 neg2 n2 d2)
set_option maxHeartbeats 3200000 in
theorem cdN (neg1 neg2:Bool) (n1 l1 n2 l2:Nat) (h1:n1<B) (h2:l1+1<B) (h3:n2<B) (h4:l2+1<B) (w:World) (hG:Gr w) :
 Calls Tryz.prog 102 #[lo neg1 n1 l1,lo neg2 n2 l2] w (cac w (cdd neg1 n1 (l1+1) neg2 n2 (l2+1)).1 (ZA neg1 n1 (l1+1) neg2 n2 (l2+1)) (sumD neg1 n1 (l1+1) neg2 n2 (l2+1))):=by
 have HB2:=ca (fun W=>EI neg2 n2 l2 none h4 W);have HB1:=ca (fun W=>EI neg1 n1 l1 none h2 W);have HC1:=ca (fun W (hW:Below w.heap.size w W)=>Jc (l1+1) (l2+1) h2 h4 W (hG.below hW hG.size));have hg1:0<Nat.gcd (l1+1) (l2+1):=Cy _ (by omega);have hgB:Nat.gcd (l1+1) (l2+1)<B:=jP (Nat.gcd_le_left _ (by omega)) h2;have o1:0<l1+1:=by omega
 have o2:0<l2+1:=by omega
 obtain⟨NEG,hNEG⟩:∃ x,x=(cdd neg1 n1 (l1+1) neg2 n2 (l2+1)).1:=⟨_,rfl⟩;obtain⟨NUM,hNUM⟩:∃ x,x=ZA neg1 n1 (l1+1) neg2 n2 (l2+1):=⟨_,rfl⟩;obtain⟨DEN,hDEN⟩:∃ x,x=sumD neg1 n1 (l1+1) neg2 n2 (l2+1):=⟨_,rfl⟩;rw[← hNEG,← hNUM,← hDEN];unfold ZA sumX cdd at hNUM;unfold sumD sumX cdd at hDEN;unfold cdd at hNEG;have HNEG:=ca hNEG;have HNUM:=ca hNUM;have HDEN:=ca hDEN;clear hNEG hNUM hDEN;generalize l1+1=e1 at *;generalize l2+1=e2 at *;generalize Nat.gcd e1 e2=c at *;have t1:Int.tdiv ((e1:Nat):Int) ((c:Nat):Int)=((e1/c:Nat):Int):=by rw[car (by omega),JG]
 have t2:Int.tdiv ((e2:Nat):Int) ((c:Nat):Int)=((e2/c:Nat):Int):=by rw[car (by omega),JG]
 have b1:e1/c<B:=jP (kX _ _) h2;have b2:e2/c<B:=jP (kX _ _) h4;generalize e1/c=q1 at *;generalize e2/c=q2 at *;have w1:IntKind.u64.wrap ((q1:Nat):Int)=(q1:Int):=ua b1;have w2:IntKind.u64.wrap ((q2:Nat):Int)=(q2:Int):=ua b2;have x1:¬ c=0:=by omega
 have HT1:=ca (fun W=>JA n1 q2 h1 b2 W);have HT2:=ca (fun W=>JA n2 q1 h3 b1 W);have B1:=ca b1;have HHG:=ca hG;have HE:=ca h4;have HgB:=ca hgB;have Hg1:=ca hg1;clear b1 b2 hG h4 hgB hg1 h1 h2 h3 o1 o2
 go_enter Tryz.func102,Tryz.ntmps102
 go_wp2_with fail;obtain⟨W0,hW0,hb0,⟨f0,f1,f2,f3⟩,⟨g0,g1,g2,g3⟩,hz⟩:=box3 w (.bool neg1) (u n1) (u l1) (.pointer none) (.bool neg2) (u n2) (u l2) (.pointer none);rw[← hW0];clear hW0;have HZ:=ca hz;have HW0:=ca hb0;have hb0:=cw W0.heap.size W0;clear hz
 go_region_held3 (fun w'=>(w'.cell? ⟨w.heap.size,0,none⟩=some (.bool neg1)/\w'.cell? ⟨w.heap.size,1,none⟩=some (u n1)/\w'.cell? ⟨w.heap.size,2,none⟩=some (u l1)/\w'.cell? ⟨w.heap.size,3,none⟩=some (.pointer none))/\(w'.cell? ⟨w.heap.size+1,0,none⟩=some (.bool neg2)/\w'.cell? ⟨w.heap.size+1,1,none⟩=some (u n2)/\w'.cell? ⟨w.heap.size+1,2,none⟩=some (u l2)/\w'.cell? ⟨w.heap.size+1,3,none⟩=some (.pointer none))) (go_keep) (first|((with_reducible refine(HB1.out _).mono ?_);rintro e W1 ⟨rfl,hb⟩;(obtain⟨_,_,_,_,_,_,_,_⟩:=yj w hb))|((with_reducible refine(HB2.out _).mono ?_);rintro e W2 ⟨rfl,hb'⟩;(obtain⟨_,_,_,_,_,_,_,_⟩:=yj w hb'))|((with_reducible refine(HC1.out _ (cq HW0.out (cq (CZ hb0 hb) hb'))).mono ?_);rintro e W3 ⟨rfl,rfl⟩))
 have HBa:=ca (cq (CZ hb0 hb) hb');clear hb0 hb hb' f0 f1 f2 f3 g0 g1 g2 g3;go_wp2_with fail
 go_region_held3 (fun w'=>(w'.cell? ⟨w.heap.size,0,none⟩=some (.bool neg1)/\w'.cell? ⟨w.heap.size,1,none⟩=some (u n1)/\w'.cell? ⟨w.heap.size,2,none⟩=some (u l1)/\w'.cell? ⟨w.heap.size,3,none⟩=some (.pointer none))/\(w'.cell? ⟨w.heap.size+1,0,none⟩=some (.bool neg2)/\w'.cell? ⟨w.heap.size+1,1,none⟩=some (u n2)/\w'.cell? ⟨w.heap.size+1,2,none⟩=some (u l2)/\w'.cell? ⟨w.heap.size+1,3,none⟩=some (.pointer none))) (go_keep) (first|((with_reducible refine(HB2.out _).mono ?_);rintro e W4 ⟨rfl,hb⟩;(obtain⟨_,_,_,_,_,_,_,_⟩:=yj w hb))|((with_reducible refine(HT1.out _).mono ?_);rintro e W5 ⟨rfl,hb'⟩;(obtain⟨_,_,_,_,_,_,_,_⟩:=yj w hb')))
 have HBb:=ca (cq (CZ HBa.out hb) hb');clear HBa hb hb';have HF1:=ca (fits (x:=n1) (y:=q2));have HL1:=ca (WD n1 q2);generalize ke n1 q2=left at *;generalize decide (uC n1 q2=0)=fits1 at *;go_wp2_with fail
 go_region_held3 (fun w'=>(w'.cell? ⟨w.heap.size,0,none⟩=some (.bool neg1)/\w'.cell? ⟨w.heap.size,1,none⟩=some (u n1)/\w'.cell? ⟨w.heap.size,2,none⟩=some (u l1)/\w'.cell? ⟨w.heap.size,3,none⟩=some (.pointer none))/\(w'.cell? ⟨w.heap.size+1,0,none⟩=some (.bool neg2)/\w'.cell? ⟨w.heap.size+1,1,none⟩=some (u n2)/\w'.cell? ⟨w.heap.size+1,2,none⟩=some (u l2)/\w'.cell? ⟨w.heap.size+1,3,none⟩=some (.pointer none))) (go_keep) (first|((with_reducible refine(HB1.out _).mono ?_);rintro e W6 ⟨rfl,hb⟩;(obtain⟨_,_,_,_,_,_,_,_⟩:=yj w hb))|((with_reducible refine(HT2.out _).mono ?_);rintro e W7 ⟨rfl,hb'⟩;(obtain⟨_,_,_,_,_,_,_,_⟩:=yj w hb')))
 have HBc:=ca (cq (CZ HBb.out hb) hb');clear HBb hb hb';have HF2:=ca (fits (x:=n2) (y:=q1));have HL2:=ca (WD n2 q1);generalize ke n2 q1=right at *;generalize decide (uC n2 q1=0)=fits2 at *;have HA:=ca (fun W=>cgm neg1 neg2 left right HL1.out HL2.out W);go_wp2_with fail;refine(HA.out _).mono ?_;rintro e W8 ⟨t,htB,fits3,ht,rfl,hb⟩
 (obtain⟨_,_,_,_,_,_,_,_⟩:=yj w hb)
 have HBd:=ca (cq HBc.out hb);have HtB:=ca htB;have HF3:=ca ht;clear HBc hb HA htB ht;generalize hsg0:(zu neg1 left neg2 right).1=sg0 at *;have HS0:=ca hsg0;clear hsg0;have hx1:0<Nat.gcd t c:=Cy _ Hg1.out;have hxB:Nat.gcd t c<B:=jP (WH _ Hg1.out) HgB.out;have HC2:=ca (fun W (hW:Below w.heap.size w W)=>Jc t c HtB.out HgB.out W (HHG.out.below hW HHG.out.size));obtain⟨ex,hex⟩:∃ ex,ex=Nat.gcd t c:=⟨_,rfl⟩;rw[← hex] at hx1 hxB HC2;have HX:=ca hex;clear hex;have t3:Int.tdiv ((t:Nat):Int) ((ex:Nat):Int)=((t/ex:Nat):Int):=by rw[car (by omega),JG]
 have t4:Int.tdiv ((e2:Nat):Int) ((ex:Nat):Int)=((e2/ex:Nat):Int):=by rw[car (by omega),JG]
 have b3:t/ex<B:=jP (kX _ _) HtB.out;have b4:e2/ex<B:=jP (kX _ _) HE.out;obtain⟨num,hnum⟩:∃ num,num=t/ex:=⟨_,rfl⟩;obtain⟨q5,hq5⟩:∃ q5,q5=e2/ex:=⟨_,rfl⟩;rw[← hnum] at t3 b3;rw[← hq5] at t4 b4;have d3:((t:Nat):Int)/((ex:Nat):Int)=(num:Int):=by rw[hnum,JG]
 have HN:=ca hnum;have HQ5:=ca hq5;clear hnum hq5;have w3:IntKind.u64.wrap ((num:Nat):Int)=(num:Int):=ua b3;have w4:IntKind.u64.wrap ((q5:Nat):Int)=(q5:Int):=ua b4;have x2:¬ ex=0:=by omega
 have x3:¬ ((ex:Nat):Int)=0:=by omega
 have HT3:=ca (fun W=>JA q1 q5 B1.out b4 W);have HB3:=ca b3;clear hx1 hxB b3 b4;go_wp2_with fail;refine(HC2.out _ (cq HW0.out HBd.out)).mono ?_;rintro e W9 ⟨rfl,rfl⟩;go_wp2_with fail
 go_region_held3 (fun w'=>(w'.cell? ⟨w.heap.size,0,none⟩=some (.bool neg1)/\w'.cell? ⟨w.heap.size,1,none⟩=some (u n1)/\w'.cell? ⟨w.heap.size,2,none⟩=some (u l1)/\w'.cell? ⟨w.heap.size,3,none⟩=some (.pointer none))/\(w'.cell? ⟨w.heap.size+1,0,none⟩=some (.bool neg2)/\w'.cell? ⟨w.heap.size+1,1,none⟩=some (u n2)/\w'.cell? ⟨w.heap.size+1,2,none⟩=some (u l2)/\w'.cell? ⟨w.heap.size+1,3,none⟩=some (.pointer none))) (go_keep) (first|((with_reducible refine(HB1.out _).mono ?_);rintro e W9 ⟨rfl,hb⟩;(obtain⟨_,_,_,_,_,_,_,_⟩:=yj w hb))|((with_reducible refine(HB2.out _).mono ?_);rintro e W10 ⟨rfl,hb'⟩;(obtain⟨_,_,_,_,_,_,_,_⟩:=yj w hb'))|((with_reducible refine(HT3.out _).mono ?_);rintro e W11 ⟨rfl,hb''⟩;(obtain⟨_,_,_,_,_,_,_,_⟩:=yj w hb'')))
 have HBe:=ca (cq (cq (CZ HBd.out hb) hb') hb'');clear HBd hb hb' hb'';have HF4:=ca (fits (x:=q1) (y:=q5));have HL4:=ca (WD q1 q5);generalize ke q1 q5=den at *;generalize decide (uC q1 q5=0)=fits4 at *;have hok:fits1=true->fits2=true->fits3=true->fits4=true->NEG=sg0/\NUM=num/\DEN=den:=by
  intro k1 k2 k3 k4;have f1:=HF1.out k1;have f2:=HF2.out k2;have f3:=HF3.out k3;have f4:=HF4.out k4;subst f1 f2;have f3:=f3.symm;refine⟨?_,?_,?_⟩
  ·rw[HNEG.out,HS0.out]
  ·rw[HNUM.out,f3,HN.out,HX.out]
  ·rw[HDEN.out,f3,f4,HQ5.out,HX.out]
 have HOK:=ca hok;clear hok HF1 HF2 HF3 HF4 HN HX HQ5 HS0 HNEG HNUM HDEN HT3 HC2 HT1 HT2;go_wp2_with fail;refine(Wm sg0 num den HL4.out _).mono ?_;rintro e W12 ⟨rfl,hb⟩
 (obtain⟨_,_,_,_,_,_,_,_⟩:=yj w hb)
 have HBf:=ca (cq HBe.out hb);clear HBe hb;have HD:=ca (caf (d:=den) HL4.out);generalize hsg:(sg0&&!decide (num=0))=sg;have HSG:=ca hsg;clear hsg;generalize Eo den 1=ll at *;have hz:=HZ.out.below HBf.out (cb _);have zf:=hz.frozen;obtain⟨z0,z1,z2,z3⟩:=hz.cells;have zf0:=zf 0;have zf1:=zf 1;have zf2:=zf 2;have zf3:=zf 3;clear zf hz;go_wp2_with fail
 ·rename_i k1 k2 k3;refine jw (v:=.tuple #[lo sg num ll,.bool fits4]) (by simp [results,Tryz.results102,go_sem,z0,z1,z2,z3]) rfl ?_;refine⟨sg,num,ll,fits4,rfl,?_,?_,zE HW0.out HBf.out (by omega) _ _ _ _⟩
  ·intro k4 hh;obtain⟨e1,e2,e3⟩:=HOK.out (by simpa using k1) (by simpa using k2) (by simpa using k3) k4;subst e1 e2 e3;exact⟨HSG.out.symm,rfl,HD.out hh.2.2⟩
  ·intro k4;obtain⟨e1,e2,e3⟩:=HOK.out (by simpa using k1) (by simpa using k2) (by simpa using k3) k4;rw[e2,e3];exact⟨HB3.out,HL4.out⟩
 ·refine jw (v:=.tuple #[lo sg num ll,.bool false]) (by simp [results,Tryz.results102,go_sem,z0,z1,z2,z3]) rfl ?_;refine⟨sg,num,ll,false,rfl,?_,?_,zE HW0.out HBf.out (by omega) _ _ _ _⟩<;>intro hok<;>exact absurd hok (by simp)
 ·refine jw (v:=.tuple #[lo sg num ll,.bool false]) (by simp [results,Tryz.results102,go_sem,z0,z1,z2,z3]) rfl ?_;refine⟨sg,num,ll,false,rfl,?_,?_,zE HW0.out HBf.out (by omega) _ _ _ _⟩<;>intro hok<;>exact absurd hok (by simp)
 ·refine jw (v:=.tuple #[lo sg num ll,.bool false]) (by simp [results,Tryz.results102,go_sem,z0,z1,z2,z3]) rfl ?_;refine⟨sg,num,ll,false,rfl,?_,?_,zE HW0.out HBf.out (by omega) _ _ _ _⟩<;>intro hok<;>exact absurd hok (by simp)
theorem Num.form {w:World}{v:Value}{neg:Bool}{n d:Nat}(h:Num w v neg n d):∃ a b p,v=.agg #[.bool neg,u a,u b,.pointer p]/\a<B:=by
 cases h with
 |low l hv hd hn hdB=>exact⟨_,_,_,hv,hn⟩
 |wide b x y hv hx hy h1 h2 hB h0 hd=>exact⟨_,_,_,hv,kn⟩
theorem ccc.other {W W':World}{R:Nat}{v:Value}{cs:Array Value}{t:TypeId}{fr:Nat×Nat}(h:ccc W v) (hR:W.heap[R]?=some (.cells cs t fr)) (ht:t≠31) (ho:jJ R W W'):ccc W' v:=by
 intro a n c e hn;obtain⟨cs',fr',hc⟩:=h a n c e hn;have hne:a.block≠R:=by
  intro e2;rw[e2,hR] at hc;injection hc with hc
  injection hc with _ hc
  exact ht hc
 exact⟨cs',fr',(ho.block _ hne).trans hc⟩
theorem cu.only {W W':World}{R:Nat}{v:Value}{n:Nat}(hR:Box W R (.bool false) (.int .u64 0) (.int .u64 0) (.pointer none)) (h:cu W v n) (ho:jJ R W W'):cu W' v n:=by
 obtain⟨xs,⟨⟨ao,c,rfl,h1,h2,hr⟩,ok,typ⟩,ht,hv⟩:=h;refine⟨xs,⟨⟨ao,c,rfl,h1,h2,fun hn=>?_⟩,ok,typ.other hR (by decide) ho⟩,ht,hv⟩;obtain⟨b,off,rfl,row⟩:=hr hn;refine⟨b,off,rfl,?_⟩;by_cases hb:b=R
 ·exfalso;subst hb;have hl:=row (xs.length-1) (by omega);have hne:xs≠[]:=by intro e;subst e;simp at hn
  have hz:xs[xs.length-1]?.getD 0≠0:=by
   have:=ht hne;rw[cjK] at this;rw[kb (by omega)];exact this
  generalize xs[xs.length-1]?.getD 0=z at *;unfold Box at hR;rw[World.cell?,hR] at hl;simp only at hl;generalize off+(xs.length-1)=i at hl;rcases i with _|_|_|_|i<;>simp at hl<;>omega
 ·exact ho.row hb row
theorem Num.only {W W':World}{R:Nat}{v:Value}{neg:Bool}{n d:Nat}(hR:Box W R (.bool false) (.int .u64 0) (.int .u64 0) (.pointer none)) (h:Num W v neg n d) (ho:jJ R W W'):Num W' v neg n d:=by
 cases h with
 |low l hv hd hn hdB=>exact .low l hv hd hn hdB
 |wide b x y hv hx hy h1 h2 hB h0 hd =>
  have hb:b≠R:=by
   intro e;subst e;rw[hR.cells.1] at hx;obtain⟨_,_,_,rfl,_⟩:=h1.form;injection hx with hx
   exact absurd hx (by simp)
  exact .wide b x y hv ((ho.cell (p:=⟨b,0,none⟩) hb).trans hx) ((ho.cell (p:=⟨b,1,none⟩) hb).trans hy) (h1.only hR ho) (h2.only hR ho) ⟨hB.1,hB.2.to (ho.block b hb)⟩ h0 hd
theorem cku (w:World) (x:Nat) (h0:0<x) (hx:x<B):cu (w.alloc (.cells #[u x] 31)) (.slice (some ⟨w.heap.size,0,none⟩) 1 1) x:=by
 have hB:Blk (w.alloc (.cells #[u x] 31)) w.heap.size [x]:=Blk.new w [x];have hok:Ok [x]:=by intro y hy;simp at hy;omega
 refine⟨[x],Sl.of_blk hB hok 0 1 1 (by simp) (by simp) (by unfold maxLen;omega),?_,by simp [val]⟩;intro h;simp;omega
def yJ (w:World) (neg:Bool) (n d:Nat) (e:Ending) (w':World):Prop :=
 ∃ v,e=.returned v/\Num w' v (neg&&!decide (n=0)) n (if n=0 then 1 else d)/\Below w.heap.size w w'
theorem yJ.stored {w W:World}{R:Nat}{v:Value}{neg:Bool}{n d:Nat}{a0 a1 a2 a3:Value}(hR:Box W R (.bool false) (.int .u64 0) (.int .u64 0) (.pointer none))
 (h:Num W v (neg&&!decide (n=0)) n (if n=0 then 1 else d)) (hb:Below w.heap.size w W) (hw:w.heap.size<=R) :
 yJ w neg n d (.returned v) ((((W.setCell ⟨R,0,none⟩ a0).setCell ⟨R,1,none⟩ a1).setCell ⟨R,2,none⟩ a2).setCell ⟨R,3,none⟩ a3):=by
 have ho:=((((jJ.refl R W).set 0 a0).set 1 a1).set 2 a2).set 3 a3;exact⟨v,rfl,h.only hR ho,hb.trans (ho.below hw)⟩
theorem cgX {w:World}{neg:Bool}{x y:Value}{n d:Nat}(o:Obj) (h1:cu w x n) (h2:cu w y d) (hn:0<n) (hd:0<d) (hB:¬ (n<B/\d<B)) :
 yJ w neg n d (.returned (wi neg ⟨w.heap.size+1,0,none⟩)) ((w.alloc o).alloc (.cells #[x,y] 138)):=by
 have hb1:=jV w o;have hb2:=jV (w.alloc o) (.cells #[x,y] 138);have hb:=cq hb1 hb2;have hs:(w.alloc o).heap.size=w.heap.size+1:=by
  show (w.heap.push _).size=_;simp
 refine⟨_,rfl,?_,hb⟩;have hn':¬ n=0:=by omega
 rw[cg hn',show (neg&&!decide (n=0))=neg from by simp [hn']];refine Num.wide (w.heap.size+1) x y rfl ?_ ?_ (h1.below hb (cb _)) (h2.below hb (cb _)) ⟨by omega,#[x,y],?_⟩ hn hd
 ·rw[← hs];exact ZX ..
 ·rw[← hs];exact ZX ..
 ·rw[← hs];show ((w.alloc o).heap.push _)[(w.alloc o).heap.size]?=_;rw[chk,co rfl]
theorem GC (neg:Bool) (v1 v2:Value) (n d:Nat) (w:World) (h1:cu w v1 n) (h2:cu w v2 d) (h0:0<d) :
 Calls Tryz.prog 133 #[.bool neg,v1,v2] w (yJ w neg n d):=by
 by_cases hn:n=0
 ·subst hn;obtain⟨ao,l,c,rfl,hl,hz,hB⟩:=h1.form;have hl0:l=0:=hz.2 rfl;subst hl0;obtain⟨bo,m,c',rfl,_,_,_⟩:=h2.form
  go_enter Tryz.func133,Tryz.ntmps133
  go_wp2_with fail;refine jw (v:=lo false 0 0) (by simp [results,Tryz.results133,go_sem]) rfl ?_;exact⟨_,rfl,by simpa using Num.low 0 rfl rfl kn (by decide),jV w _⟩
 ·have hn0:0<n:=cbI hn;by_cases hw:n<B/\d<B
  ·obtain⟨b1,o1,c1,rfl,f1⟩:=h1.limb hn0 hw.1;obtain⟨b2,o2,c2,rfl,f2⟩:=h2.limb h0 hw.2;have HS:=ca (fun W=>Wm neg n d hw.2 W);have HD:=ca (caf hw.2 h0);have HN:=ca hn;have HW:=ca hw;have H0:=ca h0;clear hn hw h1 h2 h0 hn0;generalize hsg:(neg&&!decide (n=0))=sg at *;generalize Eo d 1=ll at *
   go_enter Tryz.func133,Tryz.ntmps133
   go_wp2_with fail;obtain⟨W0,hW0,hb0,hz,hs⟩:=boxz w;rw[← hW0];clear hW0;have HZ:=ca hz;have HW0:=ca hb0;have hb0:=cw W0.heap.size W0;clear hz;clear hs;have p1:¬ b1=w.heap.size:=Nat.ne_of_lt (kS w _ f1);have p2:¬ b2=w.heap.size:=Nat.ne_of_lt (kS w _ f2);have p3:¬ w.heap.size=b1:=fun h=>p1 h.symm;have p4:¬ w.heap.size=b2:=fun h=>p2 h.symm;have HG1:=ca f1;have HG2:=ca f2;have f1:W0.cell? ⟨b1,o1,none⟩=some (u n):=(HW0.out.cell (p:=⟨b1,o1,none⟩) (kS w _ f1)).trans f1;have f2:W0.cell? ⟨b2,o2,none⟩=some (u d):=(HW0.out.cell (p:=⟨b2,o2,none⟩) (kS w _ f2)).trans f2
   go_region_held3 (fun w'=>w'.cell? ⟨b1,o1,none⟩=some (u n)/\w'.cell? ⟨b2,o2,none⟩=some (u d)) (go_keep) (((with_reducible refine(HS.out _).mono ?_);rintro e W1 ⟨rfl,hb⟩;have hb1:=CZ hb0 hb;have i1:=(hb1.cell (p:=⟨b1,o1,none⟩) (kS W0 _ f1)).trans f1;have i2:=(hb1.cell (p:=⟨b2,o2,none⟩) (kS W0 _ f2)).trans f2;(obtain⟨z0,z1,z2,z3,zf0,zf1,zf2,zf3⟩:=HZ.out.zed hb1)))
   go_wp2_with fail;refine jw (v:=lo sg n ll) (by simp [results,Tryz.results133,go_sem,z0,z1,z2,z3]) rfl ?_;refine⟨_,rfl,?_,zE HW0.out hb1 (cb _) _ _ _ _⟩;rw[hsg,cg HN.out];exact Num.low ll rfl HD.out.symm HW.out.1 HW.out.2
  ·obtain⟨ao,l,c,rfl,hl,hz,hB⟩:=h1.form;obtain⟨bo,m,c',rfl,hm,hz',hB'⟩:=h2.form;have HH1:=ca h1;have HH2:=ca h2;have HHn:=ca hn;have HHw:=ca hw;have HH0:=ca h0;have HHn0:=ca hn0;have hl0:¬ l=0:=fun h=>hn (hz.1 h);have hm0:¬ m=0:=fun h=>by have:=hz'.1 h;omega
   have hlm:¬ (l=1/\m=1):=by
    rintro⟨rfl,rfl⟩;refine hw ⟨?_,?_⟩
    ·rcases jd n B with h|h
     ·exact h
     ·exact absurd (hB.2 h) (by omega)
    ·rcases jd d B with h|h
     ·exact h
     ·exact absurd (hB'.2 h) (by omega)
   have e0:(((l:Nat):Int) == 0)=false:=by rw[jO];omega
   clear hz hz' hB hB' hn hw h1 h2 h0 hn0;by_cases hl1:l=1
   ·have e1:(((m:Nat):Int) == 1)=false:=by rw[jO];omega
    subst hl1;clear hm0 hl0 hlm
    go_enter Tryz.func133,Tryz.ntmps133
    go_wp2_with fail;refine jw (v:=wi neg ⟨w.heap.size+1,0,none⟩) (by simp [results,Tryz.results133,go_sem]) rfl ?_;exact cgX _ HH1.out HH2.out HHn0.out HH0.out HHw.out
   ·have e1:(((l:Nat):Int) == 1)=false:=by rw[jO];omega
    clear hm0 hl0 hlm hl1
    go_enter Tryz.func133,Tryz.ntmps133
    go_wp2_with fail;refine jw (v:=wi neg ⟨w.heap.size+1,0,none⟩) (by simp [results,Tryz.results133,go_sem]) rfl ?_;exact cgX _ HH1.out HH2.out HHn0.out HH0.out HHw.out
theorem WR (neg:Bool) (v1:Value) (n:Nat) (w:World) (h1:cu w v1 n) :
 Calls Tryz.prog 95 #[.bool neg,v1] w (yJ w neg n 1):=by
 have HF:=ca (fun W x (hx:cu W x 1) (hb:Below w.heap.size w W)=>GC neg v1 x n 1 W (h1.below hb (cb _)) hx (by omega));obtain⟨ao,l,c,rfl,_,_,_⟩:=h1.form;clear h1
 go_enter Tryz.func95,Tryz.ntmps95
 go_wp2_with fail;obtain⟨W0,hW0,hb0,hz,hs⟩:=boxz w;rw[← hW0];clear hW0;have HZ:=ca hz;have HW0:=ca hb0;have hb0:=cw W0.heap.size W0;clear hz;have h1n:=cku W0 1 (by decide) (by decide);have hb1:=jV W0 (.cells #[u 1] 31);rw[hs] at h1n;have hb2:=cq hb0 hb1;refine(HF.out _ _ h1n (cq HW0.out hb2)).mono ?_;rintro e W1 ⟨v,rfl,hN,hb⟩;have hb3:=cq hb2 hb;obtain⟨a,b,p,rfl,_⟩:=hN.form;have HN:=ca hN;have HB3:=ca hb3
 (obtain⟨z0,z1,z2,z3,zf0,zf1,zf2,zf3⟩:=HZ.out.zed hb3)
 clear hN hb0 hb1 hb2 hb hb3 h1n;have hz:=HZ.out.below HB3.out (cb _);have hfin:=yJ.stored (a0:=.bool (neg&&!decide (n=0))) (a1:=u a) (a2:=u b) (a3:=.pointer p) hz HN.out (cq HW0.out HB3.out) (cb _);have HFin:=ca hfin;clear hfin hz HN;generalize (neg&&!decide (n=0))=sg at *;go_wp2_with fail;refine jw (v:=.agg #[.bool sg,u a,u b,.pointer p]) (by simp [results,Tryz.results95,go_sem,z0,z1,z2,z3]) rfl ?_;exact HFin.out
def JW (w:World) (n d:Nat) (e:Ending) (w':World):Prop:=∃ x y,e=.returned (.tuple #[x,y])/\cu w' x n/\cu w' y d/\Below w.heap.size w w'
theorem Ey (v:Value) (neg:Bool) (n d:Nat) (w:World) (h:Num w v neg n d) :
 Calls Tryz.prog 40 #[v] w (JW w n d):=by
 cases h with
 |low l hv hd hn hdB =>
  subst hv hd;have HW1:=ca (fun W=>UV n W hn);have HW2:=ca (fun W=>UV (l+1) W hdB);have HBo:=ca (fun W=>EI neg n l none hdB W);clear hn hdB;generalize l+1=d at *
  go_enter Tryz.func40,Tryz.ntmps40
  go_wp2_with fail;obtain⟨W0,hW0,hb0,⟨f0,f1,f2,f3⟩⟩:=ccP w (.bool neg) (u n) (u l) (.pointer none);rw[← hW0];clear hW0
  go_region_held3 (fun w'=>(w'.cell? ⟨w.heap.size,0,none⟩=some (.bool neg)/\w'.cell? ⟨w.heap.size,1,none⟩=some (u n)/\w'.cell? ⟨w.heap.size,2,none⟩=some (u l)/\w'.cell? ⟨w.heap.size,3,none⟩=some (.pointer none))) (go_keep) (first|((with_reducible refine(HW1.out _).mono ?_);rintro e W1 ⟨x,rfl,hx,hb⟩;(obtain⟨_,_,_,_⟩:=boxa w hb))|((with_reducible refine(HBo.out _).mono ?_);rintro e W2 ⟨rfl,hb'⟩;(obtain⟨_,_,_,_⟩:=boxa w hb'))|((with_reducible refine(HW2.out _).mono ?_);rintro e W3 ⟨y,rfl,hy,hb''⟩;(obtain⟨_,_,_,_⟩:=boxa w hb'')))
  have HX:=ca hx;have HY:=ca hy;have HBa:=ca (CZ hb0 hb);have HBb:=ca hb';have HBc:=ca hb'';clear hx hy hb0 hb hb' hb'' f0 f1 f2 f3;go_wp2_with fail;refine jw (v:=.tuple #[x,y]) (by simp [results,Tryz.results40,go_sem]) rfl ?_;exact⟨x,y,rfl,(HX.out.below HBb.out (cb _)).below HBc.out (cb _),HY.out,cq (cq HBa.out HBb.out) HBc.out⟩
 |wide b x y hv hx hy h1 h2 hB h0 hd =>
  subst hv;have H1:=ca h1;have H2:=ca h2;obtain⟨xa,xl,xc,rfl,_,_,_⟩:=h1.form;obtain⟨ya,yl,yc,rfl,_,_,_⟩:=h2.form;clear h1 h2 hB h0 hd
  go_enter Tryz.func40,Tryz.ntmps40
  go_wp2_with fail;obtain⟨W0,hW0,hb0,⟨f0,f1,f2,f3⟩⟩:=ccP w (.bool neg) (u 0) (u 0) (.pointer (some ⟨b,0,none⟩));rw[← hW0];clear hW0;have g0:W0.cell? ⟨b,0,none⟩=some (.slice xa xl xc):=(hb0.cell (p:=⟨b,0,none⟩) (kS w _ hx)).trans hx;have g1:W0.cell? ⟨b,1,none⟩=some (.slice ya yl yc):=(hb0.cell (p:=⟨b,1,none⟩) (kS w _ hy)).trans hy;clear hx hy;have HB0:=ca hb0;clear hb0
  go_quiet (fail)
  go_wp2_with fail;refine jw (v:=.tuple #[.slice xa xl xc,.slice ya yl yc]) (by simp [results,Tryz.results40,go_sem]) rfl ?_;have hB:=yx (n:=nq) HB0.out;exact⟨_,_,rfl,H1.out.below hB (cb _),H2.out.below hB (cb _),hB⟩
def coi (w:World) (neg:Bool) (t:Nat) (e:Ending) (w':World):Prop:=∃ v,e=.returned (.tuple #[.bool neg,v])/\cu w' v t/\Below w.heap.size w w'
theorem cdK (a b:Bool) (v1 v2:Value) (x y k:Nat) (w:World) (h1:cu w v1 x) (h2:cu w v2 y) (hx:x<B^k) (hy:y<B^k) (hk:(k:Int)<=1073741824) :
 Calls Tryz.prog 140 #[.bool a,v1,.bool b,v2] w (coi w (zu a x b y).1 (zu a x b y).2):=by
 have HP:=ca (fun W (hW:Below w.heap.size w W)=>cgP v1 v2 x y k W (h1.below hW (cb _)) (h2.below hW (cb _)) hx hy hk);have HC:=ca (fun W (hW:Below w.heap.size w W)=>CJ v1 v2 x y W (h1.below hW (cb _)) (h2.below hW (cb _)));have HM:=ca (fun(h:y<=x) W (hW:Below w.heap.size w W)=>ceG v1 v2 x y k W (h1.below hW (cb _)) (h2.below hW (cb _)) hx h hk);have HM':=ca (fun(h:x<=y) W (hW:Below w.heap.size w W)=>ceG v2 v1 y x k W (h2.below hW (cb _)) (h1.below hW (cb _)) hy h hk);obtain⟨xa,xl,xc,rfl,_,_,_⟩:=h1.form;obtain⟨ya,yl,yc,rfl,_,_,_⟩:=h2.form;clear h1 h2 hx hy;by_cases hab:a=b
 ·subst hab
  go_enter Tryz.func140,Tryz.ntmps140
  go_wp2_with fail;refine(HP.out w (cw _ _)).mono ?_;rintro e W1 ⟨v,rfl,hv,hb⟩;have HV:=ca hv;have HB:=ca hb;clear hv hb;go_wp2_with fail;refine jw (v:=.tuple #[.bool a,v]) (by simp [results,Tryz.results140,go_sem]) rfl ?_;rw[show zu a x a y=(a,x+y) from by simp [zu]];exact⟨v,rfl,HV.out,HB.out⟩
 ·have hab':(a == b)=false:=by simpa using hab
  have HAB:=ca hab;clear hab;by_cases hc:y<=x
  ·have hcv:0<=jt x y:=by unfold jt;split<;>first|omega|(split<;>omega)
   have HHC:=ca hc;clear hc;generalize jt x y=cv at *
   go_enter Tryz.func140,Tryz.ntmps140
   go_wp2_with fail;refine(HC.out w (cw _ _)).mono ?_;rintro e W1 ⟨rfl,q,rfl⟩;go_wp2_with fail;refine(HM.out HHC.out _ (yx (cw _ _))).mono ?_;rintro e W1 ⟨v,rfl,hv,hb⟩;have HV:=ca hv;have HB:=ca ((yx (n:=q) (cw w.heap.size w)).trans hb);clear hv hb;go_wp2_with fail;refine jw (v:=.tuple #[.bool a,v]) (by simp [results,Tryz.results140,go_sem]) rfl ?_;rw[show zu a x b y=(a,x-y) from by simp [zu,HAB.out,HHC.out]];exact⟨v,rfl,HV.out,HB.out⟩
  ·have hcv:¬ 0<=jt x y:=by unfold jt;split<;>omega
   have HHC:=ca hc;clear hc;generalize jt x y=cv at *
   go_enter Tryz.func140,Tryz.ntmps140
   go_wp2_with fail;refine(HC.out w (cw _ _)).mono ?_;rintro e W1 ⟨rfl,q,rfl⟩;go_wp2_with fail;refine(HM'.out (by have:=HHC.out;omega) _ (yx (cw _ _))).mono ?_;rintro e W1 ⟨v,rfl,hv,hb⟩;have HV:=ca hv;have HB:=ca ((yx (n:=q) (cw w.heap.size w)).trans hb);clear hv hb;go_wp2_with fail;refine jw (v:=.tuple #[.bool b,v]) (by simp [results,Tryz.results140,go_sem]) rfl ?_;rw[show zu a x b y=(b,y-x) from by simp [zu,HAB.out,HHC.out]];exact⟨v,rfl,HV.out,HB.out⟩
theorem CC {x y j k:Nat}(hx:x<B^j) (hy:y<B^k):x*y<B^(j+k):=by
 rw[kP];exact Nat.mul_lt_mul'' hx hy
theorem cbm (v1 v2:Value) (neg1 neg2:Bool) (n1 d1 n2 d2 k:Nat) (w:World) (h1:Num w v1 neg1 n1 d1) (h2:Num w v2 neg2 n2 d2)
 (hn1:n1<B^k) (hd1:d1<B^k) (hn2:n2<B^k) (hd2:d2<B^k) (hk:(k:Int)<=1073741824) :
 Calls Tryz.prog 71 #[v1,v2] w (Val w (.int .i64 (jt (n1*d2) (n2*d1)))):=by
 have HP1:=ca (fun W (hW:Below w.heap.size w W)=>Ey v1 neg1 n1 d1 W (h1.below hW (cb _)));have HP2:=ca (fun W (hW:Below w.heap.size w W)=>Ey v2 neg2 n2 d2 W (h2.below hW (cb _)));obtain⟨a1,b1,p1,rfl,_⟩:=h1.form;obtain⟨a2,b2,p2,rfl,_⟩:=h2.form;have HT1:=ca (fun x y W (hx:cu W x n1) (hy:cu W y d2)=>CE x y n1 d2 k W hx hy hn1 hd2 hk);have HT2:=ca (fun x y W (hx:cu W x n2) (hy:cu W y d1)=>CE x y n2 d1 k W hx hy hn2 hd1 hk);clear h1 h2 hn1 hd1 hn2 hd2
 go_enter Tryz.func71,Tryz.ntmps71
 go_wp2_with fail;obtain⟨W0,hW0,hb0,⟨f0,f1,f2,f3⟩,⟨g0,g1,g2,g3⟩⟩:=box2 w (.bool neg1) (u a1) (u b1) (.pointer p1) (.bool neg2) (u a2) (u b2) (.pointer p2);rw[← hW0];clear hW0;refine(HP1.out _ hb0).mono ?_;rintro e W1 ⟨x1,y1,rfl,hx1,hy1,hb⟩
 (obtain⟨_,_,_,_,_,_,_,_⟩:=yj w hb)
 have hb1:=cq hb0 hb;obtain⟨xa1,xl1,xc1,rfl,_⟩:=hx1.form;obtain⟨ya1,yl1,yc1,rfl,_⟩:=hy1.form;have HX1:=ca hx1;have HY1:=ca hy1;have HA1:=ca hb1;clear hb0 hb hb1 hx1 hy1 f0 f1 f2 f3 g0 g1 g2 g3;go_wp2_with fail;refine(HP2.out _ HA1.out).mono ?_;rintro e W2 ⟨x2,y2,rfl,hx2,hy2,hb⟩
 (obtain⟨_,_,_,_,_,_,_,_⟩:=yj w hb)
 obtain⟨xa2,xl2,xc2,rfl,_⟩:=hx2.form;obtain⟨ya2,yl2,yc2,rfl,_⟩:=hy2.form;have HX1':=ca (HX1.out.below hb (cb _));have HY1':=ca (HY1.out.below hb (cb _));have HX2:=ca hx2;have HY2:=ca hy2;have HA2:=ca (cq HA1.out hb);clear hb hx2 hy2 HA1 HX1 HY1;go_wp2_with fail;refine(HT1.out _ _ _ HX1'.out HY2.out).mono ?_;rintro e W3 ⟨z1,rfl,hz1,hb⟩;obtain⟨za1,zl1,zc1,rfl,_⟩:=hz1.form;have HX2':=ca (HX2.out.below hb (cb _));have HY1'':=ca (HY1'.out.below hb (cb _));have HZ1:=ca hz1;have HA3:=ca (cq HA2.out hb);clear hb hz1 HA2 HX1' HX2 HY1' HY2;go_wp2_with fail;refine(HT2.out _ _ _ HX2'.out HY1''.out).mono ?_;rintro e W4 ⟨z2,rfl,hz2,hb⟩;obtain⟨za2,zl2,zc2,rfl,_⟩:=hz2.form;have HZ1':=ca (HZ1.out.below hb (cb _));have HZ2:=ca hz2;have HA4:=ca (cq HA3.out hb);clear hb hz2 HA3 HX2' HY1'' HZ1;go_wp2_with fail;refine(CJ _ _ _ _ _ HZ1'.out HZ2.out).mono ?_;rintro e W5 ⟨rfl,q,rfl⟩;generalize jt (n1*d2) (n2*d1)=cv at *;go_wp2_with fail
 go_ret
 exact⟨rfl,yx HA4.out⟩
end Go.Proofs.YtdopipkmcnkdjaaGreatDoor
