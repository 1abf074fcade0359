/- Part 16. -/
import Derived.Laws.IdiomStrings
import Derived.RangeFuncBox
import Derived.Test.YtokieocpdcngcaaGreatDoorZ15
set_option linter.all false
open Int (natCast_ediv tdiv_eq_ediv_of_nonneg)
open Go.IntKind (wrap_u64)
open Go.Lib (hid)
open List (append_assoc cons_append length_append length_cons nil_append size_toArray take_append_drop)
open Nat (add_zero div_add_mod div_le_self eq_zero_or_pos gcd_pos_of_pos_right le_refl lt_of_le_of_lt lt_of_lt_of_le lt_or_ge mod_lt mul_le_mul_left mul_one mul_zero pow_add)
open Go.World (size_alloc)

namespace Go.Proofs.YtokieocpdcngcaaGreatDoor
open Go Go.RowKit Go.Proofs Lim
abbrev lo (neg:Bool) (n l:Nat):Value:=.agg #[.bool neg,u n,u l,.pointer none]
abbrev wi (neg:Bool) (p:Addr):Value:=.agg #[.bool neg,u 0,u 0,.pointer (some p)]
def WTy (w:World) (b:Nat):Prop:=∃ cs,w.heap[b]?=some (.cells cs 145 (0,0))
theorem WTy.to {w w':World}{b:Nat}(h:WTy w b) (hb:w'.heap[b]?=w.heap[b]?):WTy w' b:=let ⟨cs,h⟩:=h;⟨cs,hb.trans h⟩
inductive Num (w:World) (v:Value) (neg:Bool) (n d:Nat):Prop
 |low (l:Nat) (hv:v=lo neg n l) (hd:d=l+1) (hn:n<B) (hdB:d<B)
 |wide (b:Nat) (x y:Value) (hv:v=wi neg ⟨b,0,none⟩) (hx:w.cell? ⟨b,0,none⟩=some x) (hy:w.cell? ⟨b,1,none⟩=some y) (h1:cg w x n) (h2:cg w y d) (hB:(B<=n\/B<=d)/\WTy w b) (h0:0<n) (hd:0<d)
theorem Num.below {w w':World}{v:Value}{neg:Bool}{n d:Nat}{k:Nat}(h:Num w v neg n d) (hb:Below k w w') (hk:w.heap.size<=k):Num w' v neg n d:=by
 cases h with
 |low l hv hd hn hdB=>exact .low l hv hd hn hdB
 |wide b x y hv hx hy h1 h2 hB h0 hd =>
  have hlt:=World.block_lt_of_cell? w _ hx;exact .wide b x y hv ((hb.cell (p:=⟨b,0,none⟩) (lt_of_lt_of_le hlt hk)).trans hx) ((hb.cell (p:=⟨b,1,none⟩) (lt_of_lt_of_le hlt hk)).trans hy) (h1.below hb hk) (h2.below hb hk) ⟨hB.1,hB.2.to (hb.block b (lt_of_lt_of_le hlt hk))⟩ h0 hd
def IsQ (w:World) (v:Value) (r:Rat):Prop:=Num w v (decide (r.num<0)) r.num.natAbs r.den
theorem IsQ.below {w w':World}{v:Value}{r:Rat}{k:Nat}(h:IsQ w v r) (hb:Below k w w') (hk:w.heap.size<=k):IsQ w' v r:=Num.below h hb hk
def Siz (r:Rat) (k:Nat):Prop:=r.num.natAbs<B^k/\r.den<B^k
def uF (w:World) (r:Rat) (e:Ending) (w':World):Prop:=∃ v,e=.returned v/\IsQ w' v r/\Below w.heap.size w w'
def Val (w:World) (v:Value) (e:Ending) (w':World):Prop:=e=.returned v/\Below w.heap.size w w'
theorem ja (w:World) (o:Obj):Below w.heap.size w (w.alloc o):=(Below.refl _ w).alloc (le_refl _) o
theorem yP (neg:Bool) (n d:Nat) (hd:d<B) (w:World) :
 Calls Tryz.prog 96 #[.bool neg,u n,u d] w (Val w (lo (neg&&!decide (n=0)) n (uQ d 1))):=by
 have k0:IntKind.u64.wrap ((d:Nat)-(1:Int))=((uQ d 1:Nat):Int):=by
  have:=ZV (x:=d) (y:=1) hd (by decide);have h2:=JO d 1;have h3:=cbP d 1;rw[wrap_u64];generalize CT d 1=c at *;generalize uQ d 1=b at *;unfold B at *;omega
 generalize uQ d 1=l at *;have k1:(((n:Nat):Int) != 0)=!decide (n=0):=by rw[Bool.eq_iff_iff];simp
 go_enter Tryz.func96,Tryz.ntmps96
 go_wp2_with fail
 ·rename_i h;subst h;refine bodyPost_ret (v:=lo (!decide (n=0)) n l) (by simp [results,Tryz.results96,go_sem]) rfl ?_;exact⟨by simp,ja w _⟩
 ·rename_i h;have h:neg=false:=by simpa using h
  subst h;refine bodyPost_ret (v:=lo false n l) (by simp [results,Tryz.results96,go_sem]) rfl ?_;exact⟨by simp,ja w _⟩
theorem kH (neg:Bool) (n l:Nat) (p:Option Addr) (hd:l+1<B) (w:World) :
 Calls Tryz.prog 73 #[.agg #[.bool neg,u n,u l,.pointer p]] w (Val w (u (l+1))):=by
 have k0:IntKind.u64.wrap ((l:Nat)+(1:Int))=((l+1:Nat):Int):=by
  exact CB (x:=l) (y:=1) hd
 go_enter Tryz.func73,Tryz.ntmps73
 go_wp2_with fail
 go_ret
 exact⟨rfl,ja w _⟩
theorem uy (x y:Nat) (hx:x<B) (hy:y<B) (w:World) :
 Calls Tryz.prog 140 #[u x,u y] w (fun e w'=>e=.returned (.tuple #[u (cW x y),.bool (decide (jD x y=0))])/\Below w.heap.size w w'):=by
 go_enter Tryz.func140,Tryz.ntmps140
 go_wp2_with fail;refine(ZM x y hx hy w).mono ?_;rintro e w' ⟨rfl,rfl⟩;have k0:(((jD x y:Nat):Int) == 0)=decide (jD x y=0):=by rw[Bool.eq_iff_iff];simp
 go_wp2_with fail;refine bodyPost_ret (v:=.tuple #[u (cW x y),.bool (decide (jD x y=0))]) (by simp [results,Tryz.results140,go_sem]) rfl ?_;exact⟨rfl,by first|exact Below.refl _ _|exact ja w _⟩
def kS (a:Bool) (x:Nat) (b:Bool) (y:Nat):Bool×Nat:=if a=b then (a,x+y) else if y<=x then (a,x-y) else (b,y-x)
def cgL (w:World) (neg:Bool) (t:Nat) (e:Ending) (w':World):Prop :=
 ∃ s,s<B/\∃ ok:Bool,(ok=true->s=t)/\e=.returned (.tuple #[.bool neg,u s,.bool ok])/\Below w.heap.size w w'
attribute [local go_sem] GC
theorem cat (a b:Bool) (x y:Nat) (hx:x<B) (hy:y<B) (w:World) :
 Calls Tryz.prog 150 #[.bool a,u x,.bool b,u y] w (cgL w (kS a x b y).1 (kS a x b y).2):=by
 have k0:=Km x y;have k1:=cbc hx hy;have k2:=Gb x y;have K0:=hid k0;have k5:(((kA x y:Nat):Int) == 0)=decide (kA x y=0):=by rw[Bool.eq_iff_iff];simp
 clear k0;by_cases hab:a=b
 ·subst hab
  go_enter Tryz.func150,Tryz.ntmps150
  go_wp2_with fail;refine bodyPost_ret (v:=.tuple #[.bool a,u (ul x y),.bool (decide (kA x y=0))]) (by simp [results,Tryz.results150,go_sem]) rfl ?_;refine⟨ul x y,k2,decide (kA x y=0),?_,by simp [kS],by first|exact Below.refl _ _|exact ja w _⟩;intro h;have h:kA x y=0:=by simpa using h
  have:=K0.out;rw[h] at this;simp [kS];omega
 ·have hab':(a == b)=false:=by simpa using hab
  by_cases hc:y<=x
  ·have k3:IntKind.u64.wrap ((x:Int)-(y:Int))=((x-y:Nat):Int):=zL hx hc
   go_enter Tryz.func150,Tryz.ntmps150
   go_wp2_with fail;refine bodyPost_ret (v:=.tuple #[.bool a,u (x-y),.bool true]) (by simp [results,Tryz.results150,go_sem]) rfl ?_;exact⟨x-y,by omega,true,by simp [kS,hab,hc],by simp [kS,hab,hc],by first|exact Below.refl _ _|exact ja w _⟩
  ·have k3:IntKind.u64.wrap ((y:Int)-(x:Int))=((y-x:Nat):Int):=zL hy (by omega)
   go_enter Tryz.func150,Tryz.ntmps150
   go_wp2_with fail;refine bodyPost_ret (v:=.tuple #[.bool b,u (y-x),.bool true]) (by simp [results,Tryz.results150,go_sem]) rfl ?_;exact⟨y-x,by omega,true,by simp [kS,hab,hc],by simp [kS,hab,hc],by first|exact Below.refl _ _|exact ja w _⟩
theorem Cu {X W:World}{b:Nat}{a0 a1 a2 a3:Value}(hb:Below X.heap.size X W) (h0:X.cell? ⟨b,0,none⟩=some a0) (h1:X.cell? ⟨b,1,none⟩=some a1) (h2:X.cell? ⟨b,2,none⟩=some a2) (h3:X.cell? ⟨b,3,none⟩=some a3) :
 W.cell? ⟨b,0,none⟩=some a0/\W.cell? ⟨b,1,none⟩=some a1/\W.cell? ⟨b,2,none⟩=some a2/\W.cell? ⟨b,3,none⟩=some a3:=by
 have hlt:=World.block_lt_of_cell? X _ h0;exact⟨(hb.cell (p:=⟨b,0,none⟩) hlt).trans h0,(hb.cell (p:=⟨b,1,none⟩) hlt).trans h1,(hb.cell (p:=⟨b,2,none⟩) hlt).trans h2,(hb.cell (p:=⟨b,3,none⟩) hlt).trans h3⟩
theorem boxa {X W:World}(w:World) {a0 a1 a2 a3:Value}(hb:Below X.heap.size X W) (h0:X.cell? ⟨w.heap.size,0,none⟩=some a0:=by assumption) (h1:X.cell? ⟨w.heap.size,1,none⟩=some a1:=by assumption) (h2:X.cell? ⟨w.heap.size,2,none⟩=some a2:=by assumption) (h3:X.cell? ⟨w.heap.size,3,none⟩=some a3:=by assumption) :
 W.cell? ⟨w.heap.size,0,none⟩=some a0/\W.cell? ⟨w.heap.size,1,none⟩=some a1/\W.cell? ⟨w.heap.size,2,none⟩=some a2/\W.cell? ⟨w.heap.size,3,none⟩=some a3:=Cu hb h0 h1 h2 h3
theorem jw {X W:World}(w:World) {a0 a1 a2 a3 b0 b1 b2 b3:Value}(hb:Below X.heap.size X W) (h0:X.cell? ⟨w.heap.size,0,none⟩=some a0:=by assumption) (h1:X.cell? ⟨w.heap.size,1,none⟩=some a1:=by assumption) (h2:X.cell? ⟨w.heap.size,2,none⟩=some a2:=by assumption) (h3:X.cell? ⟨w.heap.size,3,none⟩=some a3:=by assumption) (k0:X.cell? ⟨w.heap.size+1,0,none⟩=some b0:=by assumption) (k1:X.cell? ⟨w.heap.size+1,1,none⟩=some b1:=by assumption) (k2:X.cell? ⟨w.heap.size+1,2,none⟩=some b2:=by assumption) (k3:X.cell? ⟨w.heap.size+1,3,none⟩=some b3:=by assumption) :
 W.cell? ⟨w.heap.size,0,none⟩=some a0/\W.cell? ⟨w.heap.size,1,none⟩=some a1/\W.cell? ⟨w.heap.size,2,none⟩=some a2/\W.cell? ⟨w.heap.size,3,none⟩=some a3/\W.cell? ⟨w.heap.size+1,0,none⟩=some b0/\W.cell? ⟨w.heap.size+1,1,none⟩=some b1/\W.cell? ⟨w.heap.size+1,2,none⟩=some b2/\W.cell? ⟨w.heap.size+1,3,none⟩=some b3:=by
 obtain⟨p0,p1,p2,p3⟩:=Cu hb h0 h1 h2 h3;exact⟨p0,p1,p2,p3,Cu hb k0 k1 k2 k3⟩
theorem box2 (w:World) (a0 a1 a2 a3 b0 b1 b2 b3:Value):∃ W,W=(w.alloc (.cells #[a0,a1,a2,a3] 50)).alloc (.cells #[b0,b1,b2,b3] 50)/\Below w.heap.size w W/\
 (W.cell? ⟨w.heap.size,0,none⟩=some a0/\W.cell? ⟨w.heap.size,1,none⟩=some a1/\W.cell? ⟨w.heap.size,2,none⟩=some a2/\W.cell? ⟨w.heap.size,3,none⟩=some a3)/\
 (W.cell? ⟨w.heap.size+1,0,none⟩=some b0/\W.cell? ⟨w.heap.size+1,1,none⟩=some b1/\W.cell? ⟨w.heap.size+1,2,none⟩=some b2/\W.cell? ⟨w.heap.size+1,3,none⟩=some b3):=by
 refine⟨_,rfl,(ja w _).alloc (ja w _).size _,?_,?_⟩
 ·have h:((w.alloc (.cells #[a0,a1,a2,a3] 50)).alloc (.cells #[b0,b1,b2,b3] 50)).heap[w.heap.size]?=some (.cells #[a0,a1,a2,a3] 50):=by
   show ((w.heap.push _).push _)[w.heap.size]?=_;simp [Array.getElem?_push]
  unfold World.cell?;rw[h];exact⟨rfl,rfl,rfl,rfl⟩
 ·have h:((w.alloc (.cells #[a0,a1,a2,a3] 50)).alloc (.cells #[b0,b1,b2,b3] 50)).heap[w.heap.size+1]?=some (.cells #[b0,b1,b2,b3] 50):=by
   show ((w.heap.push _).push _)[w.heap.size+1]?=_;rw[Array.getElem?_push,if_pos (by simp)]
  unfold World.cell?;rw[h];exact⟨rfl,rfl,rfl,rfl⟩
def Box (W:World) (b:Nat) (a0 a1 a2 a3:Value):Prop:=W.heap[b]?=some (.cells #[a0,a1,a2,a3] 50 (0,0))
theorem Box.below {W W':World}{b k:Nat}{a0 a1 a2 a3:Value}(h:Box W b a0 a1 a2 a3) (hb:Below k W W') (hk:W.heap.size<=k):Box W' b a0 a1 a2 a3 :=
 (hb.block b (lt_of_lt_of_le (Array.getElem?_eq_some_iff.1 h).1 hk)).trans h
theorem Box.cells {W:World}{b:Nat}{a0 a1 a2 a3:Value}(h:Box W b a0 a1 a2 a3) :
 W.cell? ⟨b,0,none⟩=some a0/\W.cell? ⟨b,1,none⟩=some a1/\W.cell? ⟨b,2,none⟩=some a2/\W.cell? ⟨b,3,none⟩=some a3:=by
 unfold Box at h;simp [World.cell?,h]
theorem Box.frozen {W:World}{b:Nat}{a0 a1 a2 a3:Value}(h:Box W b a0 a1 a2 a3) (i:Nat):W.frozen? ⟨b,i,none⟩=false:=by
 unfold Box at h;simp [World.frozen?,h]
theorem Box.zed {X W:World}{b:Nat}{a0 a1 a2 a3:Value}(h:Box X b a0 a1 a2 a3) (hb:Below X.heap.size X W) :
 W.cell? ⟨b,0,none⟩=some a0/\W.cell? ⟨b,1,none⟩=some a1/\W.cell? ⟨b,2,none⟩=some a2/\W.cell? ⟨b,3,none⟩=some a3/\W.frozen? ⟨b,0,none⟩=false/\W.frozen? ⟨b,1,none⟩=false/\W.frozen? ⟨b,2,none⟩=false/\W.frozen? ⟨b,3,none⟩=false:=by
 have hz:=h.below hb (le_refl _);obtain⟨p0,p1,p2,p3⟩:=hz.cells;exact⟨p0,p1,p2,p3,hz.frozen 0,hz.frozen 1,hz.frozen 2,hz.frozen 3⟩
theorem boxz (w:World):∃ W,W=w.alloc (.cells #[.bool false,.int .u64 0,.int .u64 0,.pointer none] 50)/\Below w.heap.size w W/\Box W w.heap.size (.bool false) (.int .u64 0) (.int .u64 0) (.pointer none)/\W.heap.size=w.heap.size+1 :=
 ⟨_,rfl,ja w _,heap_alloc_new w _,by show (w.heap.push _).size=_;simp⟩
theorem UF (w:World) (a0 a1 a2 a3 b0 b1 b2 b3:Value):∃ W,W=((w.alloc (.cells #[a0,a1,a2,a3] 50)).alloc (.cells #[b0,b1,b2,b3] 50)).alloc (.cells #[.bool false,.int .u64 0,.int .u64 0,.pointer none] 50)/\Below w.heap.size w W/\
 (W.cell? ⟨w.heap.size,0,none⟩=some a0/\W.cell? ⟨w.heap.size,1,none⟩=some a1/\W.cell? ⟨w.heap.size,2,none⟩=some a2/\W.cell? ⟨w.heap.size,3,none⟩=some a3)/\
 (W.cell? ⟨w.heap.size+1,0,none⟩=some b0/\W.cell? ⟨w.heap.size+1,1,none⟩=some b1/\W.cell? ⟨w.heap.size+1,2,none⟩=some b2/\W.cell? ⟨w.heap.size+1,3,none⟩=some b3)/\
 Box W (w.heap.size+1+1) (.bool false) (.int .u64 0) (.int .u64 0) (.pointer none):=by
 obtain⟨W,hW,hb,hf,hg⟩:=box2 w a0 a1 a2 a3 b0 b1 b2 b3;rw[← hW];have hs:W.heap.size=w.heap.size+1+1:=by
  rw[hW];show ((w.heap.push _).push _).size=_;simp
 have hb2:=ja W (.cells #[.bool false,.int .u64 0,.int .u64 0,.pointer none] 50);refine⟨_,rfl,hb.trans (hb2.mono hb.size),Cu hb2 hf.1 hf.2.1 hf.2.2.1 hf.2.2.2,Cu hb2 hg.1 hg.2.1 hg.2.2.1 hg.2.2.2,?_⟩;rw[← hs];exact heap_alloc_new W _
theorem jP {w W0 W1:World}(h:Below w.heap.size w W0) (k:Below W0.drew.heap.size W0.drew W1):Below w.heap.size w W1 :=
 h.drew.trans (k.mono h.drew.size)
theorem cf {w W0 W1:World}(h:Below w.heap.size w W0) (k:Below W0.heap.size W0 W1):Below w.heap.size w W1 :=
 h.trans (k.mono h.size)
theorem box1 (w:World) (a0 a1 a2 a3:Value):∃ W,W=w.alloc (.cells #[a0,a1,a2,a3] 50)/\Below w.heap.size w W/\
 (W.cell? ⟨w.heap.size,0,none⟩=some a0/\W.cell? ⟨w.heap.size,1,none⟩=some a1/\W.cell? ⟨w.heap.size,2,none⟩=some a2/\W.cell? ⟨w.heap.size,3,none⟩=some a3):=by
 refine⟨_,rfl,ja w _,?_⟩;have h:(w.alloc (.cells #[a0,a1,a2,a3] 50)).heap[w.heap.size]?=some (.cells #[a0,a1,a2,a3] 50):=by
  show (w.heap.push _)[w.heap.size]?=_;simp
 unfold World.cell?;rw[h];exact⟨rfl,rfl,rfl,rfl⟩
def Ee (a c:Int):Int:=if a=0 then c else a
theorem or_two (a c:Int) (b:Nat) (w:World) (h0:w.cell? ⟨b,0,none⟩=some (.int .i64 a)) (h1:w.cell? ⟨b,1,none⟩=some (.int .i64 c)) :
 Calls Tryz.prog 127 #[.slice (some ⟨b,0,none⟩) 2 2] w (Val w (.int .i64 (Ee a c))):=by
 obtain⟨f,hf⟩:∃ f,f=Ee a c:=⟨_,rfl⟩;rw[← hf];have HF:=hid hf;clear hf
 go_enter Tryz.func127,Tryz.ntmps127
 go_wp2_with fail
 go_loopw [8] (fun i wr=>wr=w/\(i=.int .i64 0\/(i=.int .i64 1/\a=0)\/(i=.int .i64 2/\a=0/\c=0))) (fun i _=>2-(intOf i).toNat)
 case atStart=>exact⟨rfl,.inl rfl⟩
 case round =>
  obtain⟨rfl,rfl|⟨rfl,ha⟩|⟨rfl,ha,hc⟩⟩:=hrel
  ·by_cases ha:a=0
   ·subst ha;go_wp2_with fail
    go_roundw
    case rel=>simp
    case measure=>simp [intOf]
   ·go_wp2_with fail
    go_ret
    have:=HF.out;rw[Ee,if_neg ha] at this;rw[this];exact⟨rfl,Below.refl _ _⟩
  ·subst ha;by_cases hc:c=0
   ·subst hc;go_wp2_with fail
    go_roundw
    case rel=>simp
    case measure=>simp [intOf]
   ·go_wp2_with fail
    go_ret
    have:=HF.out;rw[Ee,if_pos rfl] at this;rw[this];exact⟨rfl,Below.refl _ _⟩
  ·subst ha hc;go_wp2_with fail
   go_ret
   have:=HF.out;exact⟨by rw[this];rfl,Below.refl _ _⟩
theorem cgr (m n:Nat):Ee (cH (m/B) (n/B)) (cH (m%B) (n%B))=cH m n:=by
 have h1:=div_add_mod m B;have h2:=div_add_mod n B;have h3:=mod_lt m jk;have h4:=mod_lt n jk;generalize m/B=q at *;generalize n/B=r at *;generalize m%B=s at *;generalize n%B=t at *;generalize B=b at *;unfold Ee cH;rcases Nat.lt_trichotomy q r with h|h|h
 ·have:b*q+b<=b*r:=by rw[← Nat.mul_succ];exact mul_le_mul_left _ h
  have g1:m<n:=by omega
  have g2:¬ q=r:=by omega
  simp [*]
 ·subst h;simp;omega
 ·have:b*r+b<=b*q:=by rw[← Nat.mul_succ];exact mul_le_mul_left _ h
  have g1:n<m:=by omega
  have g2:¬ q<r:=by omega
  have g3:¬ m<n:=by omega
  simp [*]
theorem Ub (neg1 neg2:Bool) (n1 l1 n2 l2:Nat) (h1:n1<B) (h2:l1+1<B) (h3:n2<B) (h4:l2+1<B) (w:World) :
 Calls Tryz.prog 85 #[lo neg1 n1 l1,lo neg2 n2 l2] w (Val w (.int .i64 (cH (n1*(l2+1)) (n2*(l1+1))))):=by
 have HB2:=hid (fun W=>kH neg2 n2 l2 none h4 W);have HB1:=hid (fun W=>kH neg1 n1 l1 none h2 W);have HM1:=hid (fun W=>ZM n1 (l2+1) h1 h4 W);have HM2:=hid (fun W=>ZM n2 (l1+1) h3 h2 W)
 go_enter Tryz.func85,Tryz.ntmps85
 go_wp2_with fail;obtain⟨W0,hW0,hb0,⟨f0,f1,f2,f3⟩,⟨g0,g1,g2,g3⟩⟩:=box2 w (.bool neg1) (u n1) (u l1) (.pointer none) (.bool neg2) (u n2) (u l2) (.pointer none);rw[← hW0];clear hW0
 go_region_held3 (fun w'=>(w'.cell? ⟨w.heap.size,0,none⟩=some (.bool neg1)/\w'.cell? ⟨w.heap.size,1,none⟩=some (u n1)/\w'.cell? ⟨w.heap.size,2,none⟩=some (u l1)/\w'.cell? ⟨w.heap.size,3,none⟩=some (.pointer none))/\(w'.cell? ⟨w.heap.size+1,0,none⟩=some (.bool neg2)/\w'.cell? ⟨w.heap.size+1,1,none⟩=some (u n2)/\w'.cell? ⟨w.heap.size+1,2,none⟩=some (u l2)/\w'.cell? ⟨w.heap.size+1,3,none⟩=some (.pointer none))) (go_keep) (first|((with_reducible refine(HB2.out _).mono ?_);rintro e W1 ⟨rfl,hb⟩;(obtain⟨_,_,_,_,_,_,_,_⟩:=jw w hb))|((with_reducible refine(HM1.out _).mono ?_);rintro e W2 ⟨rfl,rfl⟩))
 have HBa:=hid (jP hb0 hb);clear hb0 hb;have hfin:Ee (cH (jD n1 (l2+1)) (jD n2 (l1+1))) (cH (cW n1 (l2+1)) (cW n2 (l1+1)))=cH (n1*(l2+1)) (n2*(l1+1)):=cgr _ _;have HFin:=hid hfin;clear hfin;generalize jD n1 (l2+1)=hi1 at *;generalize cW n1 (l2+1)=lo1 at *;go_wp2_with fail
 go_region_held3 (fun w'=>(w'.cell? ⟨w.heap.size,0,none⟩=some (.bool neg1)/\w'.cell? ⟨w.heap.size,1,none⟩=some (u n1)/\w'.cell? ⟨w.heap.size,2,none⟩=some (u l1)/\w'.cell? ⟨w.heap.size,3,none⟩=some (.pointer none))/\(w'.cell? ⟨w.heap.size+1,0,none⟩=some (.bool neg2)/\w'.cell? ⟨w.heap.size+1,1,none⟩=some (u n2)/\w'.cell? ⟨w.heap.size+1,2,none⟩=some (u l2)/\w'.cell? ⟨w.heap.size+1,3,none⟩=some (.pointer none))) (go_keep) (first|((with_reducible refine(HB1.out _).mono ?_);rintro e W3 ⟨rfl,hb⟩;(obtain⟨_,_,_,_,_,_,_,_⟩:=jw w hb))|((with_reducible refine(HM2.out _).mono ?_);rintro e W4 ⟨rfl,rfl⟩))
 have HBb:=hid (jP HBa.out hb);clear HBa hb;generalize jD n2 (l1+1)=hi2 at *;generalize cW n2 (l1+1)=lo2 at *;go_wp2_with fail;refine(EQ hi1 hi2 _).mono ?_;rintro e W5 ⟨rfl,rfl⟩;go_wp2_with fail;refine(EQ lo1 lo2 _).mono ?_;rintro e W6 ⟨rfl,rfl⟩;go_wp2_with fail;refine(or_two (cH hi1 hi2) (cH lo1 lo2) W3.heap.size _ (World.cell?_alloc_new ..) (World.cell?_alloc_new ..)).mono ?_;rintro e W7 ⟨rfl,hb7⟩;go_wp2_with fail
 go_ret
 rw[HFin.out];refine⟨rfl,HBb.out.trans ((ja W3 _).trans (hb7.mono (ja W3 _).size) |>.mono HBb.out.size)⟩
abbrev b8 (c:UInt8):Value:=.int .u8 (c.toNat:Int)
abbrev str (l:List UInt8):Value:=.string ⟨l.toArray⟩
def Jb (w:World) (b:Nat) (l:List UInt8):Prop:=∃ T:List Value,w.heap[b]?=some (.cells (l.map b8++T).toArray 5 (0,0))
theorem Jb.lt {w:World}{b:Nat}{l:List UInt8}(h:Jb w b l):b<w.heap.size:=let ⟨_,h⟩:=h;(Array.getElem?_eq_some_iff.1 h).1
theorem Jb.cell {w:World}{b:Nat}{l:List UInt8}(h:Jb w b l) (i:Nat) (hi:i<l.length):w.cell? ⟨b,i,none⟩=some (b8 l[i]):=by
 obtain⟨T,h⟩:=h;simp only[World.cell?,h];simp [hi,List.getElem?_append_left]
theorem Jb.frozen {w:World}{b:Nat}{l:List UInt8}(h:Jb w b l) (i:Nat):w.frozen? ⟨b,i,none⟩=false:=by
 obtain⟨T,h⟩:=h;simp only[World.frozen?,h];simp
theorem Jb.set {w:World}{b:Nat}{l:List UInt8}(h:Jb w b l) (i:Nat) (c:UInt8) (hi:i<l.length):Jb (w.setCell ⟨b,i,none⟩ (b8 c)) b (l.set i c):=by
 obtain⟨T,h⟩:=h;refine⟨T,?_⟩;simp only[World.setCell,Array.getElem?_modify];simp [h,List.map_set,List.set_append_left,hi]
theorem Jb.of_block {w w':World}{b:Nat}{l:List UInt8}(h:Jb w b l) (hb:w'.heap[b]?=w.heap[b]?):Jb w' b l:=let ⟨T,h⟩:=h;⟨T,by rw[hb,h]⟩
theorem Boxed.of_block {W W':World}{B:Nat}{t:TypeId}{v:Value}(h:Boxed W B t v) (hb:W'.heap[B]?=W.heap[B]?):Boxed W' B t v:=hb.trans h
theorem cdP (n:Nat):(madeCells #[Value.int .u8 0] n).toList=(List.replicate n (0:UInt8)).map b8:=by
 have h:(fun x=>(#[Value.int .u8 0]:Array Value)[x%1]!)=fun _=>b8 0:=by funext x;simp [Nat.mod_one]
 show ((Array.range n).map (fun x=>(#[Value.int .u8 0]:Array Value)[x%1]!)).toList=_;rw[h];simp [List.map_const']
theorem info_u8:(Tryz.prog.info? 5).map (fun i=>(i.zero,i.size,i.bytes))=some (some (.int .u8 0),1,1):=by kernel_rfl
theorem cgl {w w1:World}{n:Nat}(hown:w1.ownsRow w.heap.size 5 1 (.slice (some ⟨w.heap.size,0,none⟩) n n) n (madeCells #[Value.int .u8 0] n).toList)
 (hgrow:w.grownBy w1 none):Jb w1 w.heap.size (List.replicate n 0)/\Below w.heap.size w w1:=by
 rw[cdP] at hown;obtain⟨h1,⟨h2,_⟩|⟨g,cap,cur,hv,hb,hg,hn,hm,hs,ht⟩⟩:=hown
 ·cases h2
 ·injection hv with hv1 hv2 hv3
  injection hv1 with hv1
  injection hv1 with hv1
  subst hv1;refine⟨⟨cur.toList.drop (n*1),?_⟩,(Below.refl _ w).grown hgrow (le_refl _) (by intro k hk;cases hk)⟩;rw[hg,← ht,take_append_drop]
theorem cgu (j:Nat) (r:List UInt8) (c:UInt8):(List.replicate (j+1) (0:UInt8)++r).set j c=List.replicate j 0++(c::r):=by
 rw[List.replicate_succ',append_assoc];rw[List.set_append_right _ _ (by simp)];simp
def Jl (pre:List Nat):List UInt8:=(pre.map Gi).reverse
theorem ccs (pre:List Nat) (d:Nat):Jl (pre++[d])=Gi d::Jl pre:=by unfold Jl;simp
theorem cfr (pre:List Nat):(Jl pre).length=pre.length:=by unfold Jl;simp
theorem chr {d:Nat}(h:d<10):JZ d=b8 (Gi d):=by
 unfold JZ b8;rw[ED h];congr 1
def uq (w:World) (l:List UInt8) (e:Ending) (w':World):Prop:=e=.returned (str l)/\Below w.heap.size w w'
theorem cbz (v:Value) (n:Nat) (w:World) (h:cg w v n) :
 Calls Tryz.prog 74 #[v] w (fun e w'=>e=.returned (.func (.func 111) #[] #[.pointer (some ⟨w.heap.size,0,none⟩)])/\w'=w.alloc (.cells #[v] 97)):=by
 obtain⟨xs,⟨⟨xa,xc,rfl,_⟩,_⟩,_⟩:=h
 go_enter Tryz.func74,Tryz.ntmps74
 go_wp2_with fail
 go_ret
 exact⟨rfl,rfl⟩
theorem cgv (v:Value) (w:World) (h:cg w v 0):Calls Tryz.prog 36 #[v] w (uq w (cO 0)):=by
 obtain⟨ao,l,c,rfl,hl,hz,hB⟩:=h.form;have hl0:l=0:=hz.2 rfl;subst hl0;have e:cO 0=[48]:=rfl;rw[e];clear h
 go_enter Tryz.func36,Tryz.ntmps36
 go_wp2_with fail
 go_ret
 exact⟨rfl,Below.refl _ _⟩
theorem Ji {n k m:Nat}(hk:n<B^k) (hm:k=m):(ci n).length<=20*m:=by
 subst hm;refine yd (lt_of_lt_of_le hk ?_);rw[Nat.pow_mul];exact Nat.pow_le_pow_left (by decide) k
def zr (w:World) (bt N K:Nat) (pre:List Nat) (W:World):Prop :=
 Jb W w.heap.size (List.replicate (K-pre.length) 0++Jl pre)/\Boxed W bt 146 (.slice (some ⟨w.heap.size,0,none⟩) K K)/\
  Boxed W (bt+1) 3 (.int .i64 ((K-pre.length:Nat):Int))/\Below w.heap.size w W/\pre <+: ci N
theorem zr.lies (w:World) (bt N K B:Nat) (hB:w.heap.size<bt) (h2:bt+1<B):Lies B (zr w bt N K):=by
 rintro pre A C ⟨h1,hx,h3,h4,h5⟩ hb;exact⟨h1.of_block (hb.block _ (by omega)),Boxed.of_block hx (hb.block _ (by omega)),Boxed.of_block h3 (hb.block _ (by omega)),h4.trans (hb.mono (by omega)),h5⟩
theorem Ez.setCell (m:Nat) (A:World) (b o:Nat) (v:Value) (h:b<m):Ez m A (A.setCell ⟨b,o,none⟩ v) :=
 ⟨by simp [World.setCell],fun k hk _=>Below.heap_setCell _ _ _ _ (by show k≠b;omega)⟩
theorem zr.step {w W:World}{bt N K j:Nat}{pre:List Nat}{d:Nat}(h:zr w bt N K pre W) (hb:w.heap.size<bt) (hj:K-pre.length=j+1) (hd:d<10) (hp:(pre++[d]) <+: ci N) :
 zr w bt N K (pre++[d]) ((W.setCell ⟨bt+1,0,none⟩ (.int .i64 (j:Int))).setCell ⟨w.heap.size,j,none⟩ (JZ d)):=by
 obtain⟨h1,h2,h3,h4,h5⟩:=h;have e1:K-(pre++[d]).length=j:=by rw[length_append,List.length_singleton];omega
 have o1:cV (bt+1) W (W.setCell ⟨bt+1,0,none⟩ (.int .i64 (j:Int))):=(cV.refl _ W).set 0 _;have o2:cV w.heap.size (W.setCell ⟨bt+1,0,none⟩ (.int .i64 (j:Int))) ((W.setCell ⟨bt+1,0,none⟩ (.int .i64 (j:Int))).setCell ⟨w.heap.size,j,none⟩ (JZ d)):=(cV.refl _ _).set j _;refine⟨?_,?_,?_,?_,hp⟩
 ·have:=Jb.set (h1.of_block (o1.block w.heap.size (by omega))) j (Gi d) (by rw[hj];simp;omega);rw[← chr hd,hj,cgu] at this;rw[e1,ccs];exact this
 ·exact Boxed.of_block (Boxed.of_block h2 (o1.block bt (by omega))) (o2.block bt (by omega))
 ·rw[e1];exact Boxed.of_block (Boxed.set _ h3) (o2.block (bt+1) (by omega))
 ·exact(h4.trans (o1.below (by omega))).trans (o2.below (le_refl _))
attribute [local go_sem] Oper.semAt_some
set_option maxRecDepth 100000 in
set_option maxHeartbeats 2000000 in
theorem chy (v:Value) (N k:Nat) (w:World) (h:cg w v N) (h0:0<N) (hk:N<B^k) (hk2:(k:Int)<=1073741824):Calls Tryz.prog 36 #[v] w (uq w (cO N)):=by
 have h':=h;obtain⟨xs,⟨⟨xa,xc,rfl,_,_,_⟩,ok⟩,ht,hval⟩:=h';have hl:=cg.len ht hval hk;have hx0:0<xs.length:=by
  rcases xs with _|⟨x,xs⟩
  ·simp [val] at hval;omega
  ·simp
 have hdl:(ci N).length<=20*xs.length:=Ji (k:=xs.length) (by rw[← hval];exact js ok) rfl;obtain⟨i0,hi,hz0,hz1,hz2⟩:=info_parts info_u8;obtain⟨w1,hmk,hown,hgrow⟩:=run_make_full (P:=Tryz.prog) w w.heap.size 146 5 i0 (.int .u8 0) 1 Tryz.underlying146 hi hz0 hz1 .i64 .i64 (20*xs.length) (by rw[hz2];omega) (by unfold maxLen;omega) (le_refl _);have hblk:=cgl (by rw[mul_one] at hown;exact hown) hgrow;have hcast:((20*xs.length:Nat):Int)=20*(xs.length:Int):=by omega
 rw[hcast] at hmk;have e0:(((xs.length:Nat):Int) == 0)=false:=by rw[beq_eq_false_iff_ne];omega
 obtain⟨K,hKdef⟩:∃ K,K=20*xs.length:=⟨_,rfl⟩;rw[← hKdef] at hmk hblk hdl;obtain⟨hB1,hbel1⟩:=hblk;have HB1:=hid hB1;have HBel1:=hid hbel1;have HH:=hid h;have HK:=hid hKdef;have HDL:=hid hdl;have HXL:=hid hl;have HNk:=hid hk;have hl30:(xs.length:Int)<=1073741824:=by omega
 have hK30:(K:Int)<=21474836480:=by omega
 clear hown hgrow hB1 hbel1 h hKdef hdl hcast hi hz0 hz1 hz2 ht hval ok hl hk;refine callsIn_wide (n:=3) |>.1 ?_
 refine callsIn_of_wp_marks Tryz.func36 rfl trivial ?_ rfl;simp only[Tryz.ntmps36,size_toArray,length_cons,List.length_nil,Nat.reduceAdd,Nat.reduceSub,Array.replicate_succ,Array.replicate_zero,List.push_toArray,List.append_toArray,nil_append,cons_append]
 gi_wp2
 have hbt:w.heap.size<w1.heap.size:=HB1.out.lt;have hT1:=Boxed.new w1 146 (.slice (some ⟨w.heap.size,0,none⟩) K K);have hS1:=Boxed.new (w1.alloc (.cells #[.slice (some ⟨w.heap.size,0,none⟩) K K] 146)) 3 (.int .i64 (K:Int));rw[size_alloc] at hS1;have hI:zr w w1.heap.size N K [] ((w1.alloc (.cells #[.slice (some ⟨w.heap.size,0,none⟩) K K] 146)).alloc (.cells #[.int .i64 (K:Int)] 3)):=by
  have b1:=ja w1 (.cells #[.slice (some ⟨w.heap.size,0,none⟩) K K] 146);have b2:=ja (w1.alloc (.cells #[.slice (some ⟨w.heap.size,0,none⟩) K K] 146)) (.cells #[.int .i64 (K:Int)] 3);have b3:=cf b1 b2;refine⟨?_,hT1.alloc _,?_,cf HBel1.out b3,List.nil_prefix⟩
  ·have:Jb w1 w.heap.size (List.replicate (K-([]:List Nat).length) 0++Jl []):=by simpa [Jl] using HB1.out
   exact this.of_block (b3.block _ hbt)
  ·simpa using hS1
 have hs2:((w1.alloc (.cells #[.slice (some ⟨w.heap.size,0,none⟩) K K] 146)).alloc (.cells #[.int .i64 (K:Int)] 3)).heap.size=w1.heap.size+1+1:=by rw[size_alloc,size_alloc]
 obtain⟨W2,hW2⟩:∃ W2,(w1.alloc (.cells #[.slice (some ⟨w.heap.size,0,none⟩) K K] 146)).alloc (.cells #[.int .i64 (K:Int)] 3)=W2:=⟨_,rfl⟩;rw[hW2] at hI hs2 ⊢;have HI:=hid hI;have HS2:=hid hs2;have HBt:=hid hbt;clear hW2 hI hs2 hT1 hS1 hmk hbt;have hN2:=HH.out.below HI.out.2.2.2.1 (le_refl _);refine⟨trivial,(caE (cbz _ N W2 hN2)).mono ?_⟩;rintro e W3 ⟨rfl,rfl⟩;have hI3:=zr.lies w w1.heap.size N K W2.heap.size HBt.out (by rw[HS2.out];omega) _ _ _ HI.out (ja W2 (.cells #[.slice xa xs.length xc] 97));have hc3:(W2.alloc (.cells #[.slice xa xs.length xc] 97)).cell? ⟨W2.heap.size,0,none⟩=some (.slice xa xs.length xc):=World.cell?_alloc_new ..;have hN3:=hN2.below (ja W2 (.cells #[.slice xa xs.length xc] 97)) (le_refl _);have hs3:(W2.alloc (.cells #[.slice xa xs.length xc] 97)).heap.size=w1.heap.size+1+1+1:=by rw[size_alloc,HS2.out]
 rw[HS2.out] at hc3 ⊢;obtain⟨W3,hW3⟩:∃ W3,W2.alloc (.cells #[.slice xa xs.length xc] 97)=W3:=⟨_,rfl⟩;rw[hW3] at hI3 hc3 hN3 hs3 ⊢;have HI3:=hid hI3;have HN3:=hid hN3;have HC3:=hid hc3;have HS3:=hid hs3;clear hW3 hI3 hN3 hc3 hs3 hN2 HI HS2;generalize w1.heap.size=bt at *
 gi_wp2
 refine Gg (w0:=W3) rfl (by decide) (gf:=111) (lb:=#[.pointer (some ⟨bt+1+1,0,none⟩)]) rfl trivial (enters_of Tryz.func111 (by kernel_rfl) rfl)
  (cdK (3-1) (by decide) (bt+1+1) _ N k W3 HC3.out HN3.out h0 HNk.out hk2) (Below.refl _ _) rfl (zr w bt N K) (zr.lies w bt N K W3.heap.size HBt.out (by rw[HS3.out];omega)) HI3.out
  (fun d=>{ tmps:=#[.slice xa xs.length xc,undef,.string { data:=#[] },.pointer (some ⟨bt,0,none⟩),.pointer (some ⟨bt+1,0,none⟩),JZ d,.slice xa xs.length xc,.int .i64 (xs.length:Int),.bool false,.slice xa xs.length xc,.int .i64 (xs.length:Int),.int .i64 (20*(xs.length:Int)),.slice (some ⟨w.heap.size,0,none⟩) K K,.slice (some ⟨w.heap.size,0,none⟩) K K,.int .i64 (K:Int),.slice xa xs.length xc,.func (.func 111) #[] #[.pointer (some ⟨bt+1+1,0,none⟩)],JZ d,undef,undef,undef,undef,undef,undef,undef,undef,undef,undef],defers:=[] }) ?assign ?body ?done
 case assign =>
  intro l d W K' hK'
  gi_wp2
  exact hK'
 case body =>
  intro l pre d W hI hok hsz;have hlen:pre.length+1<=K:=by
   have h1:=List.IsPrefix.length_le hok;rw[length_append,List.length_singleton] at h1;have:=HDL.out;omega
  obtain⟨j,hj⟩:∃ j,K-pre.length=j+1:=⟨K-pre.length-1,by omega⟩;have hjK:(j:Int)<(K:Int):=by omega
  have hd10:d<10:=Cj N d (hok.subset (by simp));have HStep:=hid (hI.step HBt.out hj hd10 hok);obtain⟨h1,h2,h3,h4,h5⟩:=hI;rw[hj] at h1 h3;have c1:=h1.cell j (by simp;omega);have f1:=h1.frozen j;have c2:=h2.cell;have c3:W.cell? ⟨bt+1,0,none⟩=some (.int .i64 ((j:Int)+1)):=h3.cell;have f3:=h3.frozen;have hbt:=HBt.out;have m1:¬ w.heap.size=bt+1:=by omega
  have m2:¬ bt+1=w.heap.size:=by omega
  have m3:¬ bt=bt+1:=by omega
  have m4:¬ bt+1=bt:=by omega
  have hW3:bt+1<W3.heap.size:=by rw[HS3.out];omega
  have HK1:=hid (((Ez.setCell W3.heap.size W (bt+1) 0 (.int .i64 (j:Int)) hW3).trans (Ez.setCell W3.heap.size _ w.heap.size j (JZ d) (by omega))));clear h1 h2 h3 h4 h5 hok hj hlen hsz hW3 hd10
  gi_wp2
  exact⟨HK1.out,HStep.out⟩
 case done =>
  intro ys W hS hI hlt hD;subst hS;obtain⟨h1,h2,h3,h4,h5⟩:=hI;have hso:Jl (ci N)=cO N:=by unfold Jl cO;rw[if_neg (by omega)]
  rw[hso] at h1;have hnl:(cO N).length=(ci N).length:=by rw[← hso,cfr]
  have hdl:=HDL.out;have hd0:0<(ci N).length:=by rw[jF (by omega)];simp
  obtain⟨s,hs⟩:∃ s,s=K-(ci N).length:=⟨_,rfl⟩;rw[← hs] at h1 h3;have hlK:(cO N).length=K-s:=by omega
  have hsK:(s:Int)<(K:Int):=by omega
  have hsK1:(s:Int)<=(K:Int):=by omega
  have hns:¬ K=s:=by omega
  have hconv:=fun cap=>run_convert_bytes_back (P:=Tryz.prog) W 146 9 5 ⟨w.heap.size,s,none⟩ cap (cO N) Tryz.underlying146 Tryz.underlying5 Tryz.underlying9 (fun j hj=>by
   rw[Addr.add_lit,h1.cell (s+j) (by simp;omega)];have e:(List.replicate s (0:UInt8)++cO N)[s+j]'(by simp;omega)=(cO N)[j]:=by
    rw[List.getElem_append_right (by simp)];simp
   rw[e])
  rw[hlK] at hconv;have hconv:=hconv (K-s);have c2:=h2.cell;have c3:W.cell? ⟨bt+1,0,none⟩=some (.int .i64 (s:Int)):=h3.cell;have HH4:=hid h4;have HD:=hid hD;have HSz:=hid hlt;clear h1 h2 h3 h4 h5 hso hnl hdl hd0 hs hlK hD hlt
  gi_wp2
  refine⟨by simp,.inl ⟨_,_,rfl,run_takeDeferred HD.out,?_⟩⟩;refine⟨_,results_tmp rfl _ _ _,rfl,HH4.out.trans (zA _ _ ?_)⟩;have:=HBt.out;rw[HS3.out];omega
theorem cbE (v:Value) (N k:Nat) (w:World) (h:cg w v N) (hk:N<B^k) (hk2:(k:Int)<=1073741824):Calls Tryz.prog 36 #[v] w (uq w (cO N)):=by
 rcases eq_zero_or_pos N with h0|h0
 ·subst h0;exact cgv v w h
 ·exact chy v N k w h h0 hk hk2
def GP (w:World) (neg:Bool) (num den:Nat) (e:Ending) (w':World):Prop :=
 ∃ a b c,∃ ok:Bool,e=.returned (.tuple #[lo a b c,.bool ok])/\(ok=true->num<B/\den<B/\0<den->a=(neg&&!decide (num=0))/\b=num/\c+1=den)/\(ok=true->num<B/\den<B)/\Below w.heap.size w w'
theorem yQ {w W0 W:World}{b:Nat}(h0:Below w.heap.size w W0) (h:Below W0.heap.size W0 W) (hb:w.heap.size<=b) (a0 a1 a2 a3:Value) :
 Below w.heap.size w ((((W.setCell ⟨b,0,none⟩ a0).setCell ⟨b,1,none⟩ a1).setCell ⟨b,2,none⟩ a2).setCell ⟨b,3,none⟩ a3) :=
 (h0.trans (h.mono h0.size)).trans (((((cV.refl b W).set 0 a0).set 1 a1).set 2 a2).set 3 a3 |>.below hb)
theorem GJ {d:Nat}(hd:d<B) (h0:0<d):uQ d 1+1=d:=by
 have:=ZV (x:=d) (y:=1) hd (by decide);have h2:CT d 1=0:=by rw[CT,if_neg (by omega)]
 rw[h2] at this;omega
theorem fits {x y:Nat}(h:decide (jD x y=0)=true):cW x y=x*y:=by
 have h:jD x y=0:=by simpa using h
 have:=US x y;rw[h,mul_zero,add_zero] at this;exact this
set_option maxHeartbeats 1600000 in
theorem Wj (neg1 neg2:Bool) (n1 l1 n2 l2:Nat) (h1:n1<B) (h2:l1+1<B) (h3:n2<B) (h4:l2+1<B) (w:World) (hG:Gr w) :
 Calls Tryz.prog 108 #[lo neg1 n1 l1,lo neg2 n2 l2] w (GP w (neg1 != neg2) (n1/Nat.gcd n1 (l2+1)*(n2/Nat.gcd n2 (l1+1))) ((l1+1)/Nat.gcd n2 (l1+1)*((l2+1)/Nat.gcd n1 (l2+1)))):=by
 have HB2:=hid (fun W=>kH neg2 n2 l2 none h4 W);have HB1:=hid (fun W=>kH neg1 n1 l1 none h2 W);have HC1:=hid (fun W (hW:Below w.heap.size w W)=>kY n1 (l2+1) h1 h4 W (hG.below hW hG.size));have HC2:=hid (fun W (hW:Below w.heap.size w W)=>kY n2 (l1+1) h3 h2 W (hG.below hW hG.size));have hg1:0<Nat.gcd n1 (l2+1):=gcd_pos_of_pos_right _ (by omega);have hg2:0<Nat.gcd n2 (l1+1):=gcd_pos_of_pos_right _ (by omega);clear hG;have o1:0<l1+1:=by omega
 have o2:0<l2+1:=by omega
 generalize l1+1=e1 at *;generalize l2+1=e2 at *;generalize Nat.gcd n1 e2=c1 at *;generalize Nat.gcd n2 e1=c2 at *;have d1:((n1:Nat):Int)/((c1:Nat):Int)=((n1/c1:Nat):Int):=by rw[natCast_ediv]
 have d2:((n2:Nat):Int)/((c2:Nat):Int)=((n2/c2:Nat):Int):=by rw[natCast_ediv]
 have d3:((e1:Nat):Int)/((c2:Nat):Int)=((e1/c2:Nat):Int):=by rw[natCast_ediv]
 have d4:((e2:Nat):Int)/((c1:Nat):Int)=((e2/c1:Nat):Int):=by rw[natCast_ediv]
 have t1:Int.tdiv ((n1:Nat):Int) ((c1:Nat):Int)=((n1/c1:Nat):Int):=by rw[tdiv_eq_ediv_of_nonneg (by omega),natCast_ediv]
 have t2:Int.tdiv ((n2:Nat):Int) ((c2:Nat):Int)=((n2/c2:Nat):Int):=by rw[tdiv_eq_ediv_of_nonneg (by omega),natCast_ediv]
 have t3:Int.tdiv ((e1:Nat):Int) ((c2:Nat):Int)=((e1/c2:Nat):Int):=by rw[tdiv_eq_ediv_of_nonneg (by omega),natCast_ediv]
 have t4:Int.tdiv ((e2:Nat):Int) ((c1:Nat):Int)=((e2/c1:Nat):Int):=by rw[tdiv_eq_ediv_of_nonneg (by omega),natCast_ediv]
 have b1:n1/c1<B:=lt_of_le_of_lt (div_le_self _ _) h1;have b2:n2/c2<B:=lt_of_le_of_lt (div_le_self _ _) h3;have b3:e1/c2<B:=lt_of_le_of_lt (div_le_self _ _) h2;have b4:e2/c1<B:=lt_of_le_of_lt (div_le_self _ _) h4;generalize n1/c1=q1 at *;generalize n2/c2=q2 at *;generalize e1/c2=q3 at *;generalize e2/c1=q4 at *;have w1:IntKind.u64.wrap ((q1:Nat):Int)=(q1:Int):=jn b1;have w2:IntKind.u64.wrap ((q2:Nat):Int)=(q2:Int):=jn b2;have w3:IntKind.u64.wrap ((q3:Nat):Int)=(q3:Int):=jn b3;have w4:IntKind.u64.wrap ((q4:Nat):Int)=(q4:Int):=jn b4;have z1:¬ ((c1:Nat):Int)=0:=by omega
 have z2:¬ ((c2:Nat):Int)=0:=by omega
 have x1:¬ c1=0:=by omega
 have x2:¬ c2=0:=by omega
 have y1:(((c1:Nat):Int) == 0)=false:=by rw[beq_eq_false_iff_ne];omega
 have y2:(((c2:Nat):Int) == 0)=false:=by rw[beq_eq_false_iff_ne];omega
 have HT1:=hid (fun W=>uy q1 q2 b1 b2 W);have HT2:=hid (fun W=>uy q3 q4 b3 b4 W);clear hg1 hg2 b1 b2 b3 b4
 go_enter Tryz.func108,Tryz.ntmps108
 go_wp2_with fail;obtain⟨W0,hW0,hb0,⟨f0,f1,f2,f3⟩,⟨g0,g1,g2,g3⟩,hz⟩:=UF w (.bool neg1) (u n1) (u l1) (.pointer none) (.bool neg2) (u n2) (u l2) (.pointer none);rw[← hW0];clear hW0;have HZ:=hid hz;have HW0:=hid hb0;have hb0:=Below.refl W0.heap.size W0;clear hz
 go_region_held3 (fun w'=>(w'.cell? ⟨w.heap.size,0,none⟩=some (.bool neg1)/\w'.cell? ⟨w.heap.size,1,none⟩=some (u n1)/\w'.cell? ⟨w.heap.size,2,none⟩=some (u l1)/\w'.cell? ⟨w.heap.size,3,none⟩=some (.pointer none))/\(w'.cell? ⟨w.heap.size+1,0,none⟩=some (.bool neg2)/\w'.cell? ⟨w.heap.size+1,1,none⟩=some (u n2)/\w'.cell? ⟨w.heap.size+1,2,none⟩=some (u l2)/\w'.cell? ⟨w.heap.size+1,3,none⟩=some (.pointer none))) (go_keep) (first|((with_reducible refine(HB2.out _).mono ?_);rintro e W1 ⟨rfl,hb⟩;(obtain⟨_,_,_,_,_,_,_,_⟩:=jw w hb))|((with_reducible refine(HC1.out _ (HW0.out.trans ((jP hb0 hb).mono HW0.out.size))).mono ?_);rintro e W2 ⟨rfl,rfl⟩))
 have HBa:=hid (jP hb0 hb);clear hb0 hb;go_wp2_with fail
 go_region_held3 (fun w'=>(w'.cell? ⟨w.heap.size,0,none⟩=some (.bool neg1)/\w'.cell? ⟨w.heap.size,1,none⟩=some (u n1)/\w'.cell? ⟨w.heap.size,2,none⟩=some (u l1)/\w'.cell? ⟨w.heap.size,3,none⟩=some (.pointer none))/\(w'.cell? ⟨w.heap.size+1,0,none⟩=some (.bool neg2)/\w'.cell? ⟨w.heap.size+1,1,none⟩=some (u n2)/\w'.cell? ⟨w.heap.size+1,2,none⟩=some (u l2)/\w'.cell? ⟨w.heap.size+1,3,none⟩=some (.pointer none))) (go_keep) (first|((with_reducible refine(HB1.out _).mono ?_);rintro e W3 ⟨rfl,hb⟩;(obtain⟨_,_,_,_,_,_,_,_⟩:=jw w hb))|((with_reducible refine(HC2.out _ (HW0.out.trans ((jP HBa.out hb).mono HW0.out.size))).mono ?_);rintro e W4 ⟨rfl,rfl⟩))
 have HBb:=hid (jP HBa.out hb);clear HBa hb;go_wp2_with fail
 go_region_held3 (fun w'=>(w'.cell? ⟨w.heap.size,0,none⟩=some (.bool neg1)/\w'.cell? ⟨w.heap.size,1,none⟩=some (u n1)/\w'.cell? ⟨w.heap.size,2,none⟩=some (u l1)/\w'.cell? ⟨w.heap.size,3,none⟩=some (.pointer none))/\(w'.cell? ⟨w.heap.size+1,0,none⟩=some (.bool neg2)/\w'.cell? ⟨w.heap.size+1,1,none⟩=some (u n2)/\w'.cell? ⟨w.heap.size+1,2,none⟩=some (u l2)/\w'.cell? ⟨w.heap.size+1,3,none⟩=some (.pointer none))) (go_keep) (((with_reducible refine(HT1.out _).mono ?_);rintro e W5 ⟨rfl,hb⟩;(obtain⟨_,_,_,_,_,_,_,_⟩:=jw w hb)))
 have HBc:=hid (jP HBb.out hb);clear HBb hb;have HF1:=hid (fits (x:=q1) (y:=q2));have HL1:=hid (zH q1 q2);generalize cW q1 q2=num at *;generalize decide (jD q1 q2=0)=fits1 at *;go_wp2_with fail
 go_region_held3 (fun w'=>(w'.cell? ⟨w.heap.size,0,none⟩=some (.bool neg1)/\w'.cell? ⟨w.heap.size,1,none⟩=some (u n1)/\w'.cell? ⟨w.heap.size,2,none⟩=some (u l1)/\w'.cell? ⟨w.heap.size,3,none⟩=some (.pointer none))/\(w'.cell? ⟨w.heap.size+1,0,none⟩=some (.bool neg2)/\w'.cell? ⟨w.heap.size+1,1,none⟩=some (u n2)/\w'.cell? ⟨w.heap.size+1,2,none⟩=some (u l2)/\w'.cell? ⟨w.heap.size+1,3,none⟩=some (.pointer none))) (go_keep) (first|((with_reducible refine(HB1.out _).mono ?_);rintro e W6 ⟨rfl,hb⟩;(obtain⟨_,_,_,_,_,_,_,_⟩:=jw w hb))|((with_reducible refine(HB2.out _).mono ?_);rintro e W7 ⟨rfl,hb'⟩;(obtain⟨_,_,_,_,_,_,_,_⟩:=jw w hb'))|((with_reducible refine(HT2.out _).mono ?_);rintro e W8 ⟨rfl,hb''⟩;(obtain⟨_,_,_,_,_,_,_,_⟩:=jw w hb'')))
 have HBd:=hid ((jP HBc.out hb).trans ((hb'.trans (hb''.mono hb'.size)).mono (jP HBc.out hb).size));clear HBc hb hb' hb'';have HF2:=hid (fits (x:=q3) (y:=q4));have HL2:=hid (zH q3 q4);generalize cW q3 q4=den at *;generalize decide (jD q3 q4=0)=fits2 at *;clear f0 f1 f2 f3 g0 g1 g2 g3;go_wp2_with fail;refine(yP (!neg1 == neg2) num den HL2.out _).mono ?_;rintro e W9 ⟨rfl,hb⟩
 (obtain⟨_,_,_,_,_,_,_,_⟩:=jw w hb)
 have HBe:=hid (HBd.out.trans (hb.mono HBd.out.size));clear HBd hb;have HD:=hid (GJ (d:=den) HL2.out);generalize hsg:(!neg1 == neg2&&!decide (num=0))=sg;generalize uQ den 1=ll at *;have hz:=HZ.out.below HBe.out (le_refl _);have zf:=hz.frozen;obtain⟨z0,z1,z2,z3⟩:=hz.cells;have zf0:=zf 0;have zf1:=zf 1;have zf2:=zf 2;have zf3:=zf 3;clear zf hz;go_wp2_with fail
 ·rename_i hf;have hf:fits1=true:=by simpa using hf
  refine bodyPost_ret (v:=.tuple #[lo sg num ll,.bool fits2]) (by simp [results,Tryz.results108,go_sem,z0,z1,z2,z3]) rfl ?_;refine⟨sg,num,ll,fits2,rfl,?_,?_,yQ HW0.out HBe.out (by omega) _ _ _ _⟩
  ·intro hok hh;have f1:=HF1.out hf;have f2:=HF2.out hok;subst f1 f2;exact⟨hsg.symm,rfl,HD.out hh.2.2⟩
  ·intro hok;rw[← HF1.out hf,← HF2.out hok];exact⟨HL1.out,HL2.out⟩
 ·rename_i hf;have hf:fits1=false:=by simpa using hf
  subst hf;refine bodyPost_ret (v:=.tuple #[lo sg num ll,.bool false]) (by simp [results,Tryz.results108,go_sem,z0,z1,z2,z3]) rfl ?_;refine⟨sg,num,ll,false,rfl,?_,?_,yQ HW0.out HBe.out (by omega) _ _ _ _⟩<;>intro hok<;>exact absurd hok (by simp)
def Yb (neg1:Bool) (n1 d1:Nat) (neg2:Bool) (n2 d2:Nat):Bool×Nat:=kS neg1 (n1*(d2/Nat.gcd d1 d2)) neg2 (n2*(d1/Nat.gcd d1 d2))
def sumX (neg1:Bool) (n1 d1:Nat) (neg2:Bool) (n2 d2:Nat):Nat:=Nat.gcd (Yb neg1 n1 d1 neg2 n2 d2).2 (Nat.gcd d1 d2)
def JP (neg1:Bool) (n1 d1:Nat) (neg2:Bool) (n2 d2:Nat):Nat:=(Yb neg1 n1 d1 neg2 n2 d2).2/sumX neg1 n1 d1 neg2 n2 d2
def sumD (neg1:Bool) (n1 d1:Nat) (neg2:Bool) (n2 d2:Nat):Nat:=d1/Nat.gcd d1 d2*(d2/sumX neg1 n1 d1 neg2 n2 d2)
set_option maxHeartbeats 3200000 in
theorem Yz (neg1 neg2:Bool) (n1 l1 n2 l2:Nat) (h1:n1<B) (h2:l1+1<B) (h3:n2<B) (h4:l2+1<B) (w:World) (hG:Gr w) :
 Calls Tryz.prog 124 #[lo neg1 n1 l1,lo neg2 n2 l2] w (GP w (Yb neg1 n1 (l1+1) neg2 n2 (l2+1)).1 (JP neg1 n1 (l1+1) neg2 n2 (l2+1)) (sumD neg1 n1 (l1+1) neg2 n2 (l2+1))):=by
 have HB2:=hid (fun W=>kH neg2 n2 l2 none h4 W);have HB1:=hid (fun W=>kH neg1 n1 l1 none h2 W);have HC1:=hid (fun W (hW:Below w.heap.size w W)=>kY (l1+1) (l2+1) h2 h4 W (hG.below hW hG.size));have hg1:0<Nat.gcd (l1+1) (l2+1):=gcd_pos_of_pos_right _ (by omega);have hgB:Nat.gcd (l1+1) (l2+1)<B:=lt_of_le_of_lt (Nat.gcd_le_left _ (by omega)) h2;have o1:0<l1+1:=by omega
 have o2:0<l2+1:=by omega
 obtain⟨NEG,hNEG⟩:∃ x,x=(Yb neg1 n1 (l1+1) neg2 n2 (l2+1)).1:=⟨_,rfl⟩;obtain⟨NUM,hNUM⟩:∃ x,x=JP neg1 n1 (l1+1) neg2 n2 (l2+1):=⟨_,rfl⟩;obtain⟨DEN,hDEN⟩:∃ x,x=sumD neg1 n1 (l1+1) neg2 n2 (l2+1):=⟨_,rfl⟩;rw[← hNEG,← hNUM,← hDEN];unfold JP sumX Yb at hNUM;unfold sumD sumX Yb at hDEN;unfold Yb at hNEG;have HNEG:=hid hNEG;have HNUM:=hid hNUM;have HDEN:=hid hDEN;clear hNEG hNUM hDEN;generalize l1+1=e1 at *;generalize l2+1=e2 at *;generalize Nat.gcd e1 e2=c at *;have t1:Int.tdiv ((e1:Nat):Int) ((c:Nat):Int)=((e1/c:Nat):Int):=by rw[tdiv_eq_ediv_of_nonneg (by omega),natCast_ediv]
 have t2:Int.tdiv ((e2:Nat):Int) ((c:Nat):Int)=((e2/c:Nat):Int):=by rw[tdiv_eq_ediv_of_nonneg (by omega),natCast_ediv]
 have b1:e1/c<B:=lt_of_le_of_lt (div_le_self _ _) h2;have b2:e2/c<B:=lt_of_le_of_lt (div_le_self _ _) h4;generalize e1/c=q1 at *;generalize e2/c=q2 at *;have w1:IntKind.u64.wrap ((q1:Nat):Int)=(q1:Int):=jn b1;have w2:IntKind.u64.wrap ((q2:Nat):Int)=(q2:Int):=jn b2;have x1:¬ c=0:=by omega
 have HT1:=hid (fun W=>uy n1 q2 h1 b2 W);have HT2:=hid (fun W=>uy n2 q1 h3 b1 W);have B1:=hid b1;have HHG:=hid hG;have HE:=hid h4;have HgB:=hid hgB;have Hg1:=hid hg1;clear b1 b2 hG h4 hgB hg1 h1 h2 h3 o1 o2
 go_enter Tryz.func124,Tryz.ntmps124
 go_wp2_with fail;obtain⟨W0,hW0,hb0,⟨f0,f1,f2,f3⟩,⟨g0,g1,g2,g3⟩,hz⟩:=UF w (.bool neg1) (u n1) (u l1) (.pointer none) (.bool neg2) (u n2) (u l2) (.pointer none);rw[← hW0];clear hW0;have HZ:=hid hz;have HW0:=hid hb0;have hb0:=Below.refl W0.heap.size W0;clear hz
 go_region_held3 (fun w'=>(w'.cell? ⟨w.heap.size,0,none⟩=some (.bool neg1)/\w'.cell? ⟨w.heap.size,1,none⟩=some (u n1)/\w'.cell? ⟨w.heap.size,2,none⟩=some (u l1)/\w'.cell? ⟨w.heap.size,3,none⟩=some (.pointer none))/\(w'.cell? ⟨w.heap.size+1,0,none⟩=some (.bool neg2)/\w'.cell? ⟨w.heap.size+1,1,none⟩=some (u n2)/\w'.cell? ⟨w.heap.size+1,2,none⟩=some (u l2)/\w'.cell? ⟨w.heap.size+1,3,none⟩=some (.pointer none))) (go_keep) (first|((with_reducible refine(HB1.out _).mono ?_);rintro e W1 ⟨rfl,hb⟩;(obtain⟨_,_,_,_,_,_,_,_⟩:=jw w hb))|((with_reducible refine(HB2.out _).mono ?_);rintro e W2 ⟨rfl,hb'⟩;(obtain⟨_,_,_,_,_,_,_,_⟩:=jw w hb'))|((with_reducible refine(HC1.out _ (cf HW0.out (cf (jP hb0 hb) hb'))).mono ?_);rintro e W3 ⟨rfl,rfl⟩))
 have HBa:=hid (cf (jP hb0 hb) hb');clear hb0 hb hb' f0 f1 f2 f3 g0 g1 g2 g3;go_wp2_with fail
 go_region_held3 (fun w'=>(w'.cell? ⟨w.heap.size,0,none⟩=some (.bool neg1)/\w'.cell? ⟨w.heap.size,1,none⟩=some (u n1)/\w'.cell? ⟨w.heap.size,2,none⟩=some (u l1)/\w'.cell? ⟨w.heap.size,3,none⟩=some (.pointer none))/\(w'.cell? ⟨w.heap.size+1,0,none⟩=some (.bool neg2)/\w'.cell? ⟨w.heap.size+1,1,none⟩=some (u n2)/\w'.cell? ⟨w.heap.size+1,2,none⟩=some (u l2)/\w'.cell? ⟨w.heap.size+1,3,none⟩=some (.pointer none))) (go_keep) (first|((with_reducible refine(HB2.out _).mono ?_);rintro e W4 ⟨rfl,hb⟩;(obtain⟨_,_,_,_,_,_,_,_⟩:=jw w hb))|((with_reducible refine(HT1.out _).mono ?_);rintro e W5 ⟨rfl,hb'⟩;(obtain⟨_,_,_,_,_,_,_,_⟩:=jw w hb')))
 have HBb:=hid (cf (jP HBa.out hb) hb');clear HBa hb hb';have HF1:=hid (fits (x:=n1) (y:=q2));have HL1:=hid (zH n1 q2);generalize cW n1 q2=left at *;generalize decide (jD n1 q2=0)=fits1 at *;go_wp2_with fail
 go_region_held3 (fun w'=>(w'.cell? ⟨w.heap.size,0,none⟩=some (.bool neg1)/\w'.cell? ⟨w.heap.size,1,none⟩=some (u n1)/\w'.cell? ⟨w.heap.size,2,none⟩=some (u l1)/\w'.cell? ⟨w.heap.size,3,none⟩=some (.pointer none))/\(w'.cell? ⟨w.heap.size+1,0,none⟩=some (.bool neg2)/\w'.cell? ⟨w.heap.size+1,1,none⟩=some (u n2)/\w'.cell? ⟨w.heap.size+1,2,none⟩=some (u l2)/\w'.cell? ⟨w.heap.size+1,3,none⟩=some (.pointer none))) (go_keep) (first|((with_reducible refine(HB1.out _).mono ?_);rintro e W6 ⟨rfl,hb⟩;(obtain⟨_,_,_,_,_,_,_,_⟩:=jw w hb))|((with_reducible refine(HT2.out _).mono ?_);rintro e W7 ⟨rfl,hb'⟩;(obtain⟨_,_,_,_,_,_,_,_⟩:=jw w hb')))
 have HBc:=hid (cf (jP HBb.out hb) hb');clear HBb hb hb';have HF2:=hid (fits (x:=n2) (y:=q1));have HL2:=hid (zH n2 q1);generalize cW n2 q1=right at *;generalize decide (jD n2 q1=0)=fits2 at *;have HA:=hid (fun W=>cat neg1 neg2 left right HL1.out HL2.out W);go_wp2_with fail;refine(HA.out _).mono ?_;rintro e W8 ⟨t,htB,fits3,ht,rfl,hb⟩
 (obtain⟨_,_,_,_,_,_,_,_⟩:=jw w hb)
 have HBd:=hid (cf HBc.out hb);have HtB:=hid htB;have HF3:=hid ht;clear HBc hb HA htB ht;generalize hsg0:(kS neg1 left neg2 right).1=sg0 at *;have HS0:=hid hsg0;clear hsg0;have hx1:0<Nat.gcd t c:=gcd_pos_of_pos_right _ Hg1.out;have hxB:Nat.gcd t c<B:=lt_of_le_of_lt (Nat.gcd_le_right _ Hg1.out) HgB.out;have HC2:=hid (fun W (hW:Below w.heap.size w W)=>kY t c HtB.out HgB.out W (HHG.out.below hW HHG.out.size));obtain⟨ex,hex⟩:∃ ex,ex=Nat.gcd t c:=⟨_,rfl⟩;rw[← hex] at hx1 hxB HC2;have HX:=hid hex;clear hex;have t3:Int.tdiv ((t:Nat):Int) ((ex:Nat):Int)=((t/ex:Nat):Int):=by rw[tdiv_eq_ediv_of_nonneg (by omega),natCast_ediv]
 have t4:Int.tdiv ((e2:Nat):Int) ((ex:Nat):Int)=((e2/ex:Nat):Int):=by rw[tdiv_eq_ediv_of_nonneg (by omega),natCast_ediv]
 have b3:t/ex<B:=lt_of_le_of_lt (div_le_self _ _) HtB.out;have b4:e2/ex<B:=lt_of_le_of_lt (div_le_self _ _) HE.out;obtain⟨num,hnum⟩:∃ num,num=t/ex:=⟨_,rfl⟩;obtain⟨q5,hq5⟩:∃ q5,q5=e2/ex:=⟨_,rfl⟩;rw[← hnum] at t3 b3;rw[← hq5] at t4 b4;have d3:((t:Nat):Int)/((ex:Nat):Int)=(num:Int):=by rw[hnum,natCast_ediv]
 have HN:=hid hnum;have HQ5:=hid hq5;clear hnum hq5;have w3:IntKind.u64.wrap ((num:Nat):Int)=(num:Int):=jn b3;have w4:IntKind.u64.wrap ((q5:Nat):Int)=(q5:Int):=jn b4;have x2:¬ ex=0:=by omega
 have x3:¬ ((ex:Nat):Int)=0:=by omega
 have HT3:=hid (fun W=>uy q1 q5 B1.out b4 W);have HB3:=hid b3;clear hx1 hxB b3 b4;go_wp2_with fail;refine(HC2.out _ (cf HW0.out HBd.out)).mono ?_;rintro e W9 ⟨rfl,rfl⟩;go_wp2_with fail
 go_region_held3 (fun w'=>(w'.cell? ⟨w.heap.size,0,none⟩=some (.bool neg1)/\w'.cell? ⟨w.heap.size,1,none⟩=some (u n1)/\w'.cell? ⟨w.heap.size,2,none⟩=some (u l1)/\w'.cell? ⟨w.heap.size,3,none⟩=some (.pointer none))/\(w'.cell? ⟨w.heap.size+1,0,none⟩=some (.bool neg2)/\w'.cell? ⟨w.heap.size+1,1,none⟩=some (u n2)/\w'.cell? ⟨w.heap.size+1,2,none⟩=some (u l2)/\w'.cell? ⟨w.heap.size+1,3,none⟩=some (.pointer none))) (go_keep) (first|((with_reducible refine(HB1.out _).mono ?_);rintro e W9 ⟨rfl,hb⟩;(obtain⟨_,_,_,_,_,_,_,_⟩:=jw w hb))|((with_reducible refine(HB2.out _).mono ?_);rintro e W10 ⟨rfl,hb'⟩;(obtain⟨_,_,_,_,_,_,_,_⟩:=jw w hb'))|((with_reducible refine(HT3.out _).mono ?_);rintro e W11 ⟨rfl,hb''⟩;(obtain⟨_,_,_,_,_,_,_,_⟩:=jw w hb'')))
 have HBe:=hid (cf (cf (jP HBd.out hb) hb') hb'');clear HBd hb hb' hb'';have HF4:=hid (fits (x:=q1) (y:=q5));have HL4:=hid (zH q1 q5);generalize cW q1 q5=den at *;generalize decide (jD q1 q5=0)=fits4 at *;have hok:fits1=true->fits2=true->fits3=true->fits4=true->NEG=sg0/\NUM=num/\DEN=den:=by
  intro k1 k2 k3 k4;have f1:=HF1.out k1;have f2:=HF2.out k2;have f3:=HF3.out k3;have f4:=HF4.out k4;subst f1 f2;have f3:=f3.symm;refine⟨?_,?_,?_⟩
  ·rw[HNEG.out,HS0.out]
  ·rw[HNUM.out,f3,HN.out,HX.out]
  ·rw[HDEN.out,f3,f4,HQ5.out,HX.out]
 have HOK:=hid hok;clear hok HF1 HF2 HF3 HF4 HN HX HQ5 HS0 HNEG HNUM HDEN HT3 HC2 HT1 HT2;go_wp2_with fail;refine(yP sg0 num den HL4.out _).mono ?_;rintro e W12 ⟨rfl,hb⟩
 (obtain⟨_,_,_,_,_,_,_,_⟩:=jw w hb)
 have HBf:=hid (cf HBe.out hb);clear HBe hb;have HD:=hid (GJ (d:=den) HL4.out);generalize hsg:(sg0&&!decide (num=0))=sg;have HSG:=hid hsg;clear hsg;generalize uQ den 1=ll at *;have hz:=HZ.out.below HBf.out (le_refl _);have zf:=hz.frozen;obtain⟨z0,z1,z2,z3⟩:=hz.cells;have zf0:=zf 0;have zf1:=zf 1;have zf2:=zf 2;have zf3:=zf 3;clear zf hz;go_wp2_with fail
 ·rename_i k1 k2 k3;refine bodyPost_ret (v:=.tuple #[lo sg num ll,.bool fits4]) (by simp [results,Tryz.results124,go_sem,z0,z1,z2,z3]) rfl ?_;refine⟨sg,num,ll,fits4,rfl,?_,?_,yQ HW0.out HBf.out (by omega) _ _ _ _⟩
  ·intro k4 hh;obtain⟨e1,e2,e3⟩:=HOK.out (by simpa using k1) (by simpa using k2) (by simpa using k3) k4;subst e1 e2 e3;exact⟨HSG.out.symm,rfl,HD.out hh.2.2⟩
  ·intro k4;obtain⟨e1,e2,e3⟩:=HOK.out (by simpa using k1) (by simpa using k2) (by simpa using k3) k4;rw[e2,e3];exact⟨HB3.out,HL4.out⟩
 ·refine bodyPost_ret (v:=.tuple #[lo sg num ll,.bool false]) (by simp [results,Tryz.results124,go_sem,z0,z1,z2,z3]) rfl ?_;refine⟨sg,num,ll,false,rfl,?_,?_,yQ HW0.out HBf.out (by omega) _ _ _ _⟩<;>intro hok<;>exact absurd hok (by simp)
 ·refine bodyPost_ret (v:=.tuple #[lo sg num ll,.bool false]) (by simp [results,Tryz.results124,go_sem,z0,z1,z2,z3]) rfl ?_;refine⟨sg,num,ll,false,rfl,?_,?_,yQ HW0.out HBf.out (by omega) _ _ _ _⟩<;>intro hok<;>exact absurd hok (by simp)
 ·refine bodyPost_ret (v:=.tuple #[lo sg num ll,.bool false]) (by simp [results,Tryz.results124,go_sem,z0,z1,z2,z3]) rfl ?_;refine⟨sg,num,ll,false,rfl,?_,?_,yQ HW0.out HBf.out (by omega) _ _ _ _⟩<;>intro hok<;>exact absurd hok (by simp)
theorem Num.form {w:World}{v:Value}{neg:Bool}{n d:Nat}(h:Num w v neg n d):∃ a b p,v=.agg #[.bool neg,u a,u b,.pointer p]/\a<B:=by
 cases h with
 |low l hv hd hn hdB=>exact⟨_,_,_,hv,hn⟩
 |wide b x y hv hx hy h1 h2 hB h0 hd=>exact⟨_,_,_,hv,jk⟩
theorem Ys.other {W W':World}{R:Nat}{v:Value}{cs:Array Value}{t:TypeId}{fr:Nat×Nat}(h:Ys W v) (hR:W.heap[R]?=some (.cells cs t fr)) (ht:t≠47) (ho:cV R W W'):Ys W' v:=by
 intro a n c e hn;obtain⟨cs',fr',hc⟩:=h a n c e hn;have hne:a.block≠R:=by
  intro e2;rw[e2,hR] at hc;injection hc with hc
  injection hc with _ hc
  exact ht hc
 exact⟨cs',fr',(ho.block _ hne).trans hc⟩
theorem cg.only {W W':World}{R:Nat}{v:Value}{n:Nat}(hR:Box W R (.bool false) (.int .u64 0) (.int .u64 0) (.pointer none)) (h:cg W v n) (ho:cV R W W'):cg W' v n:=by
 obtain⟨xs,⟨⟨ao,c,rfl,h1,h2,hr⟩,ok,typ⟩,ht,hv⟩:=h;refine⟨xs,⟨⟨ao,c,rfl,h1,h2,fun hn=>?_⟩,ok,typ.other hR (by decide) ho⟩,ht,hv⟩;obtain⟨b,off,rfl,row⟩:=hr hn;refine⟨b,off,rfl,?_⟩;by_cases hb:b=R
 ·exfalso;subst hb;have hl:=row (xs.length-1) (by omega);have hne:xs≠[]:=by intro e;subst e;simp at hn
  have hz:xs[xs.length-1]?.getD 0≠0:=by
   have:=ht hne;rw[List.getLast_eq_getElem] at this;rw[List.getElem?_eq_getElem (by omega)];exact this
  generalize xs[xs.length-1]?.getD 0=z at *;unfold Box at hR;rw[World.cell?,hR] at hl;simp only at hl;generalize off+(xs.length-1)=i at hl;rcases i with _|_|_|_|i<;>simp at hl<;>omega
 ·exact ho.row hb row
theorem Num.only {W W':World}{R:Nat}{v:Value}{neg:Bool}{n d:Nat}(hR:Box W R (.bool false) (.int .u64 0) (.int .u64 0) (.pointer none)) (h:Num W v neg n d) (ho:cV R W W'):Num W' v neg n d:=by
 cases h with
 |low l hv hd hn hdB=>exact .low l hv hd hn hdB
 |wide b x y hv hx hy h1 h2 hB h0 hd =>
  have hb:b≠R:=by
   intro e;subst e;rw[hR.cells.1] at hx;obtain⟨_,_,_,rfl,_⟩:=h1.form;injection hx with hx
   exact absurd hx (by simp)
  exact .wide b x y hv ((ho.cell (p:=⟨b,0,none⟩) hb).trans hx) ((ho.cell (p:=⟨b,1,none⟩) hb).trans hy) (h1.only hR ho) (h2.only hR ho) ⟨hB.1,hB.2.to (ho.block b hb)⟩ h0 hd
theorem one_new (w:World) (x:Nat) (h0:0<x) (hx:x<B):cg (w.alloc (.cells #[u x] 47)) (.slice (some ⟨w.heap.size,0,none⟩) 1 1) x:=by
 have hB:Blk (w.alloc (.cells #[u x] 47)) w.heap.size [x]:=Blk.new w [x];have hok:Ok [x]:=by intro y hy;simp at hy;omega
 refine⟨[x],Sl.of_blk hB hok 0 1 1 (by simp) (by simp) (by unfold maxLen;omega),?_,by simp [val]⟩;intro h;simp;omega
def kB (w:World) (neg:Bool) (n d:Nat) (e:Ending) (w':World):Prop :=
 ∃ v,e=.returned v/\Num w' v (neg&&!decide (n=0)) n (if n=0 then 1 else d)/\Below w.heap.size w w'
theorem kB.stored {w W:World}{R:Nat}{v:Value}{neg:Bool}{n d:Nat}{a0 a1 a2 a3:Value}(hR:Box W R (.bool false) (.int .u64 0) (.int .u64 0) (.pointer none))
 (h:Num W v (neg&&!decide (n=0)) n (if n=0 then 1 else d)) (hb:Below w.heap.size w W) (hw:w.heap.size<=R) :
 kB w neg n d (.returned v) ((((W.setCell ⟨R,0,none⟩ a0).setCell ⟨R,1,none⟩ a1).setCell ⟨R,2,none⟩ a2).setCell ⟨R,3,none⟩ a3):=by
 have ho:=((((cV.refl R W).set 0 a0).set 1 a1).set 2 a2).set 3 a3;exact⟨v,rfl,h.only hR ho,hb.trans (ho.below hw)⟩
theorem cbl {w:World}{neg:Bool}{x y:Value}{n d:Nat}(o:Obj) (h1:cg w x n) (h2:cg w y d) (hn:0<n) (hd:0<d) (hB:¬ (n<B/\d<B)) :
 kB w neg n d (.returned (wi neg ⟨w.heap.size+1,0,none⟩)) ((w.alloc o).alloc (.cells #[x,y] 145)):=by
 have hb1:=ja w o;have hb2:=ja (w.alloc o) (.cells #[x,y] 145);have hb:=cf hb1 hb2;have hs:(w.alloc o).heap.size=w.heap.size+1:=by
  show (w.heap.push _).size=_;simp
 refine⟨_,rfl,?_,hb⟩;have hn':¬ n=0:=by omega
 rw[if_neg hn',show (neg&&!decide (n=0))=neg from by simp [hn']];refine Num.wide (w.heap.size+1) x y rfl ?_ ?_ (h1.below hb (le_refl _)) (h2.below hb (le_refl _)) ⟨by omega,#[x,y],?_⟩ hn hd
 ·rw[← hs];exact World.cell?_alloc_new ..
 ·rw[← hs];exact World.cell?_alloc_new ..
 ·rw[← hs];show ((w.alloc o).heap.push _)[(w.alloc o).heap.size]?=_;rw[Array.getElem?_push,if_pos rfl]
theorem zq (neg:Bool) (v1 v2:Value) (n d:Nat) (w:World) (h1:cg w v1 n) (h2:cg w v2 d) (h0:0<d) :
 Calls Tryz.prog 143 #[.bool neg,v1,v2] w (kB w neg n d):=by
 by_cases hn:n=0
 ·subst hn;obtain⟨ao,l,c,rfl,hl,hz,hB⟩:=h1.form;have hl0:l=0:=hz.2 rfl;subst hl0;obtain⟨bo,m,c',rfl,_,_,_⟩:=h2.form
  go_enter Tryz.func143,Tryz.ntmps143
  go_wp2_with fail;refine bodyPost_ret (v:=lo false 0 0) (by simp [results,Tryz.results143,go_sem]) rfl ?_;exact⟨_,rfl,by simpa using Num.low 0 rfl rfl jk (by decide),ja w _⟩
 ·have hn0:0<n:=Nat.pos_of_ne_zero hn;by_cases hw:n<B/\d<B
  ·obtain⟨b1,o1,c1,rfl,f1⟩:=h1.limb hn0 hw.1;obtain⟨b2,o2,c2,rfl,f2⟩:=h2.limb h0 hw.2;have HS:=hid (fun W=>yP neg n d hw.2 W);have HD:=hid (GJ hw.2 h0);have HN:=hid hn;have HW:=hid hw;have H0:=hid h0;clear hn hw h1 h2 h0 hn0;generalize hsg:(neg&&!decide (n=0))=sg at *;generalize uQ d 1=ll at *
   go_enter Tryz.func143,Tryz.ntmps143
   go_wp2_with fail;obtain⟨W0,hW0,hb0,hz,hs⟩:=boxz w;rw[← hW0];clear hW0;have HZ:=hid hz;have HW0:=hid hb0;have hb0:=Below.refl W0.heap.size W0;clear hz;clear hs;have p1:¬ b1=w.heap.size:=Nat.ne_of_lt (World.block_lt_of_cell? w _ f1);have p2:¬ b2=w.heap.size:=Nat.ne_of_lt (World.block_lt_of_cell? w _ f2);have p3:¬ w.heap.size=b1:=fun h=>p1 h.symm;have p4:¬ w.heap.size=b2:=fun h=>p2 h.symm;have HG1:=hid f1;have HG2:=hid f2;have f1:W0.cell? ⟨b1,o1,none⟩=some (u n):=(HW0.out.cell (p:=⟨b1,o1,none⟩) (World.block_lt_of_cell? w _ f1)).trans f1;have f2:W0.cell? ⟨b2,o2,none⟩=some (u d):=(HW0.out.cell (p:=⟨b2,o2,none⟩) (World.block_lt_of_cell? w _ f2)).trans f2
   go_region_held3 (fun w'=>w'.cell? ⟨b1,o1,none⟩=some (u n)/\w'.cell? ⟨b2,o2,none⟩=some (u d)) (go_keep) (((with_reducible refine(HS.out _).mono ?_);rintro e W1 ⟨rfl,hb⟩;have hb1:=jP hb0 hb;have i1:=(hb1.cell (p:=⟨b1,o1,none⟩) (World.block_lt_of_cell? W0 _ f1)).trans f1;have i2:=(hb1.cell (p:=⟨b2,o2,none⟩) (World.block_lt_of_cell? W0 _ f2)).trans f2;(obtain⟨z0,z1,z2,z3,zf0,zf1,zf2,zf3⟩:=HZ.out.zed hb1)))
   go_wp2_with fail;refine bodyPost_ret (v:=lo sg n ll) (by simp [results,Tryz.results143,go_sem,z0,z1,z2,z3]) rfl ?_;refine⟨_,rfl,?_,yQ HW0.out hb1 (le_refl _) _ _ _ _⟩;rw[hsg,if_neg HN.out];exact Num.low ll rfl HD.out.symm HW.out.1 HW.out.2
  ·obtain⟨ao,l,c,rfl,hl,hz,hB⟩:=h1.form;obtain⟨bo,m,c',rfl,hm,hz',hB'⟩:=h2.form;have HH1:=hid h1;have HH2:=hid h2;have HHn:=hid hn;have HHw:=hid hw;have HH0:=hid h0;have HHn0:=hid hn0;have hl0:¬ l=0:=fun h=>hn (hz.1 h);have hm0:¬ m=0:=fun h=>by have:=hz'.1 h;omega
   have hlm:¬ (l=1/\m=1):=by
    rintro⟨rfl,rfl⟩;refine hw ⟨?_,?_⟩
    ·rcases lt_or_ge n B with h|h
     ·exact h
     ·exact absurd (hB.2 h) (by omega)
    ·rcases lt_or_ge d B with h|h
     ·exact h
     ·exact absurd (hB'.2 h) (by omega)
   have e0:(((l:Nat):Int) == 0)=false:=by rw[beq_eq_false_iff_ne];omega
   clear hz hz' hB hB' hn hw h1 h2 h0 hn0;by_cases hl1:l=1
   ·have e1:(((m:Nat):Int) == 1)=false:=by rw[beq_eq_false_iff_ne];omega
    subst hl1;clear hm0 hl0 hlm
    go_enter Tryz.func143,Tryz.ntmps143
    go_wp2_with fail;refine bodyPost_ret (v:=wi neg ⟨w.heap.size+1,0,none⟩) (by simp [results,Tryz.results143,go_sem]) rfl ?_;exact cbl _ HH1.out HH2.out HHn0.out HH0.out HHw.out
   ·have e1:(((l:Nat):Int) == 1)=false:=by rw[beq_eq_false_iff_ne];omega
    clear hm0 hl0 hlm hl1
    go_enter Tryz.func143,Tryz.ntmps143
    go_wp2_with fail;refine bodyPost_ret (v:=wi neg ⟨w.heap.size+1,0,none⟩) (by simp [results,Tryz.results143,go_sem]) rfl ?_;exact cbl _ HH1.out HH2.out HHn0.out HH0.out HHw.out
theorem YG (neg:Bool) (v1:Value) (n:Nat) (w:World) (h1:cg w v1 n) :
 Calls Tryz.prog 156 #[.bool neg,v1] w (kB w neg n 1):=by
 have HF:=hid (fun W x (hx:cg W x 1) (hb:Below w.heap.size w W)=>zq neg v1 x n 1 W (h1.below hb (le_refl _)) hx (by omega));obtain⟨ao,l,c,rfl,_,_,_⟩:=h1.form;clear h1
 go_enter Tryz.func156,Tryz.ntmps156
 go_wp2_with fail;obtain⟨W0,hW0,hb0,hz,hs⟩:=boxz w;rw[← hW0];clear hW0;have HZ:=hid hz;have HW0:=hid hb0;have hb0:=Below.refl W0.heap.size W0;clear hz;have h1n:=one_new W0 1 (by decide) (by decide);have hb1:=ja W0 (.cells #[u 1] 47);rw[hs] at h1n;have hb2:=cf hb0 hb1;refine(HF.out _ _ h1n (cf HW0.out hb2)).mono ?_;rintro e W1 ⟨v,rfl,hN,hb⟩;have hb3:=cf hb2 hb;obtain⟨a,b,p,rfl,_⟩:=hN.form;have HN:=hid hN;have HB3:=hid hb3
 (obtain⟨z0,z1,z2,z3,zf0,zf1,zf2,zf3⟩:=HZ.out.zed hb3)
 clear hN hb0 hb1 hb2 hb hb3 h1n;have hz:=HZ.out.below HB3.out (le_refl _);have hfin:=kB.stored (a0:=.bool (neg&&!decide (n=0))) (a1:=u a) (a2:=u b) (a3:=.pointer p) hz HN.out (cf HW0.out HB3.out) (le_refl _);have HFin:=hid hfin;clear hfin hz HN;generalize (neg&&!decide (n=0))=sg at *;go_wp2_with fail;refine bodyPost_ret (v:=.agg #[.bool sg,u a,u b,.pointer p]) (by simp [results,Tryz.results156,go_sem,z0,z1,z2,z3]) rfl ?_;exact HFin.out
def CU (w:World) (n d:Nat) (e:Ending) (w':World):Prop:=∃ x y,e=.returned (.tuple #[x,y])/\cg w' x n/\cg w' y d/\Below w.heap.size w w'
theorem yH (v:Value) (neg:Bool) (n d:Nat) (w:World) (h:Num w v neg n d) :
 Calls Tryz.prog 35 #[v] w (CU w n d):=by
 cases h with
 |low l hv hd hn hdB =>
  subst hv hd;have HW1:=hid (fun W=>Kl n W hn);have HW2:=hid (fun W=>Kl (l+1) W hdB);have HBo:=hid (fun W=>kH neg n l none hdB W);clear hn hdB;generalize l+1=d at *
  go_enter Tryz.func35,Tryz.ntmps35
  go_wp2_with fail;obtain⟨W0,hW0,hb0,⟨f0,f1,f2,f3⟩⟩:=box1 w (.bool neg) (u n) (u l) (.pointer none);rw[← hW0];clear hW0
  go_region_held3 (fun w'=>(w'.cell? ⟨w.heap.size,0,none⟩=some (.bool neg)/\w'.cell? ⟨w.heap.size,1,none⟩=some (u n)/\w'.cell? ⟨w.heap.size,2,none⟩=some (u l)/\w'.cell? ⟨w.heap.size,3,none⟩=some (.pointer none))) (go_keep) (first|((with_reducible refine(HW1.out _).mono ?_);rintro e W1 ⟨x,rfl,hx,hb⟩;(obtain⟨_,_,_,_⟩:=boxa w hb))|((with_reducible refine(HBo.out _).mono ?_);rintro e W2 ⟨rfl,hb'⟩;(obtain⟨_,_,_,_⟩:=boxa w hb'))|((with_reducible refine(HW2.out _).mono ?_);rintro e W3 ⟨y,rfl,hy,hb''⟩;(obtain⟨_,_,_,_⟩:=boxa w hb'')))
  have HX:=hid hx;have HY:=hid hy;have HBa:=hid (jP hb0 hb);have HBb:=hid hb';have HBc:=hid hb'';clear hx hy hb0 hb hb' hb'' f0 f1 f2 f3;go_wp2_with fail;refine bodyPost_ret (v:=.tuple #[x,y]) (by simp [results,Tryz.results35,go_sem]) rfl ?_;exact⟨x,y,rfl,(HX.out.below HBb.out (le_refl _)).below HBc.out (le_refl _),HY.out,cf (cf HBa.out HBb.out) HBc.out⟩
 |wide b x y hv hx hy h1 h2 hB h0 hd =>
  subst hv;have H1:=hid h1;have H2:=hid h2;obtain⟨xa,xl,xc,rfl,_,_,_⟩:=h1.form;obtain⟨ya,yl,yc,rfl,_,_,_⟩:=h2.form;clear h1 h2 hB h0 hd
  go_enter Tryz.func35,Tryz.ntmps35
  go_wp2_with fail;obtain⟨W0,hW0,hb0,⟨f0,f1,f2,f3⟩⟩:=box1 w (.bool neg) (u 0) (u 0) (.pointer (some ⟨b,0,none⟩));rw[← hW0];clear hW0;have g0:W0.cell? ⟨b,0,none⟩=some (.slice xa xl xc):=(hb0.cell (p:=⟨b,0,none⟩) (World.block_lt_of_cell? w _ hx)).trans hx;have g1:W0.cell? ⟨b,1,none⟩=some (.slice ya yl yc):=(hb0.cell (p:=⟨b,1,none⟩) (World.block_lt_of_cell? w _ hy)).trans hy;clear hx hy;have HB0:=hid hb0;clear hb0
  go_quiet (fail)
  go_wp2_with fail;refine bodyPost_ret (v:=.tuple #[.slice xa xl xc,.slice ya yl yc]) (by simp [results,Tryz.results35,go_sem]) rfl ?_;have hB:=kx (n:=nq) HB0.out;exact⟨_,_,rfl,H1.out.below hB (le_refl _),H2.out.below hB (le_refl _),hB⟩
def cgM (w:World) (neg:Bool) (t:Nat) (e:Ending) (w':World):Prop:=∃ v,e=.returned (.tuple #[.bool neg,v])/\cg w' v t/\Below w.heap.size w w'
theorem Yy (a b:Bool) (v1 v2:Value) (x y k:Nat) (w:World) (h1:cg w v1 x) (h2:cg w v2 y) (hx:x<B^k) (hy:y<B^k) (hk:(k:Int)<=1073741824) :
 Calls Tryz.prog 151 #[.bool a,v1,.bool b,v2] w (cgM w (kS a x b y).1 (kS a x b y).2):=by
 have HP:=hid (fun W (hW:Below w.heap.size w W)=>chD v1 v2 x y k W (h1.below hW (le_refl _)) (h2.below hW (le_refl _)) hx hy hk);have HC:=hid (fun W (hW:Below w.heap.size w W)=>uL v1 v2 x y W (h1.below hW (le_refl _)) (h2.below hW (le_refl _)));have HM:=hid (fun(h:y<=x) W (hW:Below w.heap.size w W)=>Zo v1 v2 x y k W (h1.below hW (le_refl _)) (h2.below hW (le_refl _)) hx h hk);have HM':=hid (fun(h:x<=y) W (hW:Below w.heap.size w W)=>Zo v2 v1 y x k W (h2.below hW (le_refl _)) (h1.below hW (le_refl _)) hy h hk);obtain⟨xa,xl,xc,rfl,_,_,_⟩:=h1.form;obtain⟨ya,yl,yc,rfl,_,_,_⟩:=h2.form;clear h1 h2 hx hy;by_cases hab:a=b
 ·subst hab
  go_enter Tryz.func151,Tryz.ntmps151
  go_wp2_with fail;refine(HP.out w (Below.refl _ _)).mono ?_;rintro e W1 ⟨v,rfl,hv,hb⟩;have HV:=hid hv;have HB:=hid hb;clear hv hb;go_wp2_with fail;refine bodyPost_ret (v:=.tuple #[.bool a,v]) (by simp [results,Tryz.results151,go_sem]) rfl ?_;rw[show kS a x a y=(a,x+y) from by simp [kS]];exact⟨v,rfl,HV.out,HB.out⟩
 ·have hab':(a == b)=false:=by simpa using hab
  have HAB:=hid hab;clear hab;by_cases hc:y<=x
  ·have hcv:0<=cH x y:=by unfold cH;split<;>first|omega|(split<;>omega)
   have HHC:=hid hc;clear hc;generalize cH x y=cv at *
   go_enter Tryz.func151,Tryz.ntmps151
   go_wp2_with fail;refine(HC.out w (Below.refl _ _)).mono ?_;rintro e W1 ⟨rfl,q,rfl⟩;go_wp2_with fail;refine(HM.out HHC.out _ (kx (Below.refl _ _))).mono ?_;rintro e W1 ⟨v,rfl,hv,hb⟩;have HV:=hid hv;have HB:=hid ((kx (n:=q) (Below.refl w.heap.size w)).trans hb);clear hv hb;go_wp2_with fail;refine bodyPost_ret (v:=.tuple #[.bool a,v]) (by simp [results,Tryz.results151,go_sem]) rfl ?_;rw[show kS a x b y=(a,x-y) from by simp [kS,HAB.out,HHC.out]];exact⟨v,rfl,HV.out,HB.out⟩
  ·have hcv:¬ 0<=cH x y:=by unfold cH;split<;>omega
   have HHC:=hid hc;clear hc;generalize cH x y=cv at *
   go_enter Tryz.func151,Tryz.ntmps151
   go_wp2_with fail;refine(HC.out w (Below.refl _ _)).mono ?_;rintro e W1 ⟨rfl,q,rfl⟩;go_wp2_with fail;refine(HM'.out (by have:=HHC.out;omega) _ (kx (Below.refl _ _))).mono ?_;rintro e W1 ⟨v,rfl,hv,hb⟩;have HV:=hid hv;have HB:=hid ((kx (n:=q) (Below.refl w.heap.size w)).trans hb);clear hv hb;go_wp2_with fail;refine bodyPost_ret (v:=.tuple #[.bool b,v]) (by simp [results,Tryz.results151,go_sem]) rfl ?_;rw[show kS a x b y=(b,y-x) from by simp [kS,HAB.out,HHC.out]];exact⟨v,rfl,HV.out,HB.out⟩
theorem uG {x y j k:Nat}(hx:x<B^j) (hy:y<B^k):x*y<B^(j+k):=by
 rw[pow_add];exact Nat.mul_lt_mul'' hx hy
theorem UD (v1 v2:Value) (neg1 neg2:Bool) (n1 d1 n2 d2 k:Nat) (w:World) (h1:Num w v1 neg1 n1 d1) (h2:Num w v2 neg2 n2 d2)
 (hn1:n1<B^k) (hd1:d1<B^k) (hn2:n2<B^k) (hd2:d2<B^k) (hk:(k:Int)<=1073741824) :
 Calls Tryz.prog 86 #[v1,v2] w (Val w (.int .i64 (cH (n1*d2) (n2*d1)))):=by
 have HP1:=hid (fun W (hW:Below w.heap.size w W)=>yH v1 neg1 n1 d1 W (h1.below hW (le_refl _)));have HP2:=hid (fun W (hW:Below w.heap.size w W)=>yH v2 neg2 n2 d2 W (h2.below hW (le_refl _)));obtain⟨a1,b1,p1,rfl,_⟩:=h1.form;obtain⟨a2,b2,p2,rfl,_⟩:=h2.form;have HT1:=hid (fun x y W (hx:cg W x n1) (hy:cg W y d2)=>yA x y n1 d2 k W hx hy hn1 hd2 hk);have HT2:=hid (fun x y W (hx:cg W x n2) (hy:cg W y d1)=>yA x y n2 d1 k W hx hy hn2 hd1 hk);clear h1 h2 hn1 hd1 hn2 hd2
 go_enter Tryz.func86,Tryz.ntmps86
 go_wp2_with fail;obtain⟨W0,hW0,hb0,⟨f0,f1,f2,f3⟩,⟨g0,g1,g2,g3⟩⟩:=box2 w (.bool neg1) (u a1) (u b1) (.pointer p1) (.bool neg2) (u a2) (u b2) (.pointer p2);rw[← hW0];clear hW0;refine(HP1.out _ hb0).mono ?_;rintro e W1 ⟨x1,y1,rfl,hx1,hy1,hb⟩
 (obtain⟨_,_,_,_,_,_,_,_⟩:=jw w hb)
 have hb1:=cf hb0 hb;obtain⟨xa1,xl1,xc1,rfl,_⟩:=hx1.form;obtain⟨ya1,yl1,yc1,rfl,_⟩:=hy1.form;have HX1:=hid hx1;have HY1:=hid hy1;have HA1:=hid hb1;clear hb0 hb hb1 hx1 hy1 f0 f1 f2 f3 g0 g1 g2 g3;go_wp2_with fail;refine(HP2.out _ HA1.out).mono ?_;rintro e W2 ⟨x2,y2,rfl,hx2,hy2,hb⟩
 (obtain⟨_,_,_,_,_,_,_,_⟩:=jw w hb)
 obtain⟨xa2,xl2,xc2,rfl,_⟩:=hx2.form;obtain⟨ya2,yl2,yc2,rfl,_⟩:=hy2.form;have HX1':=hid (HX1.out.below hb (le_refl _));have HY1':=hid (HY1.out.below hb (le_refl _));have HX2:=hid hx2;have HY2:=hid hy2;have HA2:=hid (cf HA1.out hb);clear hb hx2 hy2 HA1 HX1 HY1;go_wp2_with fail;refine(HT1.out _ _ _ HX1'.out HY2.out).mono ?_;rintro e W3 ⟨z1,rfl,hz1,hb⟩;obtain⟨za1,zl1,zc1,rfl,_⟩:=hz1.form;have HX2':=hid (HX2.out.below hb (le_refl _));have HY1'':=hid (HY1'.out.below hb (le_refl _));have HZ1:=hid hz1;have HA3:=hid (cf HA2.out hb);clear hb hz1 HA2 HX1' HX2 HY1' HY2;go_wp2_with fail;refine(HT2.out _ _ _ HX2'.out HY1''.out).mono ?_;rintro e W4 ⟨z2,rfl,hz2,hb⟩;obtain⟨za2,zl2,zc2,rfl,_⟩:=hz2.form;have HZ1':=hid (HZ1.out.below hb (le_refl _));have HZ2:=hid hz2;have HA4:=hid (cf HA3.out hb);clear hb hz2 HA3 HX2' HY1'' HZ1;go_wp2_with fail;refine(uL _ _ _ _ _ HZ1'.out HZ2.out).mono ?_;rintro e W5 ⟨rfl,q,rfl⟩;generalize cH (n1*d2) (n2*d1)=cv at *;go_wp2_with fail
 go_ret
 exact⟨rfl,kx HA4.out⟩
end Go.Proofs.YtokieocpdcngcaaGreatDoor
