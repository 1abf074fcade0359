/- Part 6. -/
import Derived.Test.YtcgiaclelnmhbabGreatDoorE1
import Derived.WalkKit
import Derived.WalkSpells
import Derived.WalkLawsBesides
import Derived.Deep.QuietTactic
import Derived.BigQuiet
import Derived.Deep.RegionHeld3
import Derived.Deep.RegionWith
import Derived.Deep.DeepCutAuto
import Derived.Deep.CutBlock
import Derived.Deep.DeepFit
import Derived.IntWalk
set_option linter.all false

namespace Go.Proofs.YtcgiaclelnmhbabGreatDoor.Lim
def B:Nat:=18446744073709551616
theorem jE:0<B:=by decide
def val:List Nat->Nat
 |[]=>0
 |x::xs=>x+B*val xs
def Ok (l:List Nat):Prop:=∀ x∈l,x<B
theorem Ok.nil:Ok []:=by intro x h;cases h
theorem Ok.cons {x:Nat}{l:List Nat}(hx:x<B) (h:Ok l):Ok (x::l):=by
 intro y hy;rcases List.mem_cons.1 hy with rfl|hy
 ·exact hx
 ·exact h y hy
theorem Ok.head {x:Nat}{l:List Nat}(h:Ok (x::l)):x<B:=h x (by simp)
theorem Ok.tail {x:Nat}{l:List Nat}(h:Ok (x::l)):Ok l:=fun y hy=>h y (by simp [hy])
theorem Ok.append {l m:List Nat}(h:Ok l) (h':Ok m):Ok (l++m):=by
 intro x hx;rcases List.mem_append.1 hx with hx|hx
 ·exact h x hx
 ·exact h' x hx
theorem Ok.take {l:List Nat}(h:Ok l) (k:Nat):Ok (l.take k):=fun x hx=>h x (cbG hx)
theorem Ok.drop {l:List Nat}(h:Ok l) (k:Nat):Ok (l.drop k):=fun x hx=>h x (caK hx)
theorem Ok.set {l:List Nat}(h:Ok l) (k v:Nat) (hv:v<B):Ok (l.set k v):=by
 intro x hx;rcases ceJ hx with hx|hx
 ·exact h x hx
 ·rw[hx];exact hv
theorem Ok.replicate (n:Nat):Ok (List.replicate n 0):=by
 intro x hx;rw[(List.mem_replicate.1 hx).2];exact jE
theorem Ok.get {l:List Nat}(h:Ok l) (k:Nat):l[k]?.getD 0<B:=by
 rcases jj k l.length with hk|hk
 ·rw[jl hk];exact h _ (List.getElem_mem hk)
 ·rw[uC hk];exact jE
theorem val_nil:val []=0:=rfl
theorem cir (x:Nat) (l:List Nat):val (x::l)=x+B*val l:=rfl
theorem Em (l m:List Nat):val (l++m)=val l+B^l.length*val m:=by
 induction l with
 |nil=>simp [val]
 |cons x l ih=>simp only[WY,val,ih,CA,js];grind
theorem jR {l:List Nat}(h:Ok l):val l<B^l.length:=by
 induction l with
 |nil=>simp [val]
 |cons x l ih =>
  have h1:=ih h.tail;have h2:=h.head;simp only[val,CA,js];have:B*(val l+1)<=B*B^l.length:=ja _ h1;rw[jf (B^l.length) B];rw[cI] at this;omega
theorem yV (n:Nat):val (List.replicate n 0)=0:=by
 induction n with
 |zero=>rfl
 |succ n ih=>simp [List.replicate_succ,val,ih]
theorem Ct (l:List Nat) (k:Nat) (h:k<=l.length):val l=val (l.take k)+B^k*val (l.drop k):=by
 conv=>lhs;rw[← jZ k l,Em]
 rw[ji,kQ h]
theorem Js (l:List Nat) (k:Nat) (h:k<l.length):l.take (k+1)=l.take k++[l[k]?.getD 0]:=by
 rw[List.take_succ_eq_append_getElem h,jl h];rfl
theorem jg (l:List Nat) (k:Nat) (h:k<l.length):val (l.take (k+1))=val (l.take k)+B^k*l[k]?.getD 0:=by
 rw[Js l k h,Em,ji,kQ (by omega)];simp [val]
theorem El (l:List Nat) (k v:Nat) (h:k<l.length):val (l.set k v)+B^k*l[k]?.getD 0=val l+B^k*v:=by
 induction l generalizing k with
 |nil=>simp at h
 |cons x l ih =>
  cases k with
  |zero=>simp [val];omega
  |succ k =>
   have h1:=ih k (by simpa using h);simp only[List.set_cons_succ,val,List.getElem?_cons_succ,js];grind
theorem JQ {n a b c d:Nat}(h:a+n*b=c+n*d) (ha:a<n) (hc:c<n):a=c/\b=d:=by
 have h1:(a+n*b)%n=a:=by rw[Ki,kP ha]
 have h2:(c+n*d)%n=c:=by rw[Ki,kP hc]
 have:a=c:=by rw[← h1,← h2,h]
 subst this;refine⟨rfl,?_⟩;have:n*b=n*d:=by omega
 exact Nat.eq_of_mul_eq_mul_left (by omega) this
def YM (l:List Nat):Prop:=∀ h:l≠[],l.getLast h≠0
theorem kj {l:List Nat}(h:YM l) (hn:l≠[]):B^(l.length-1)<=val l:=by
 have h1:l=l.dropLast++[l.getLast hn]:=(List.dropLast_concat_getLast hn).symm;have h2:=h hn;rw[h1,Em];simp only[val,kp,List.length_dropLast,CA,List.length_nil];have:B^(l.length-1)*1<=B^(l.length-1)*(l.getLast hn+B*0):=ja _ (by omega);simp only[Nat.add_sub_cancel,jb];omega
theorem cdo {l:List Nat}(h:YM l):val l=0↔l=[]:=by
 constructor
 ·intro hv;rcases l with _|⟨x,l⟩
  ·rfl
  ·have:=kj h (by simp);have:0<B^((x::l).length-1):=jV jE;omega
 ·rintro rfl;rfl
theorem uE {l m:List Nat}(hl:YM l) (hm:Ok m) (h:val l<=val m):l.length<=m.length:=by
 rcases l with _|⟨x,l⟩
 ·simp
 ·have h1:=kj hl (by simp);have h2:=jR hm;have h3:B^((x::l).length-1)<B^m.length:=by omega
  have:=(WC (show 1<B by decide)).1 h3;simp at this ⊢;omega
end Go.Proofs.YtcgiaclelnmhbabGreatDoor.Lim

namespace Go.Proofs.YtcgiaclelnmhbabGreatDoor
open Go Go.RowKit Lim
abbrev u (n:Nat):Value:=.int .u64 (n:Int)
def Blk (w:World) (b:Nat) (L:List Nat):Prop:=∃ T:List Value,w.heap[b]?=some (.cells (L.map u++T).toArray 42 (0,0))
def Row (w:World) (b off:Nat) (xs:List Nat):Prop:=∀ i,i<xs.length->w.cell? ⟨b,off+i,none⟩=some (u (xs[i]?.getD 0))
structure ju (b:Nat) (w w':World):Prop where
 os:w'.os=w.os
 tape:w'.tape=w.tape
 output:w'.output=w.output
 size:w'.heap.size=w.heap.size
 block:∀ k,k≠b->w'.heap[k]?=w.heap[k]?
theorem ju.refl (b:Nat) (w:World):ju b w w:=⟨rfl,rfl,rfl,rfl,fun _ _=>rfl⟩
theorem ju.trans {b:Nat}{w w' w'':World}(h:ju b w w') (k:ju b w' w''):ju b w w'' :=
 ⟨k.os.trans h.os,k.tape.trans h.tape,k.output.trans h.output,k.size.trans h.size,fun i hi=>(k.block i hi).trans (h.block i hi)⟩
theorem ju.drew {b:Nat}{w w':World}(h:ju b w w'):ju b w w'.drew:=⟨h.os,h.tape,h.output,h.size,h.block⟩
theorem ju.drewN {b:Nat}{w w':World}(h:ju b w w') (n:Nat):ju b w (w'.drewN n):=⟨h.os,h.tape,h.output,h.size,h.block⟩
theorem ju.set {b:Nat}{w w':World}(h:ju b w w') (o:Nat) (v:Value):ju b w (w'.setCell ⟨b,o,none⟩ v) :=
 h.trans ⟨rfl,rfl,rfl,by simp [World.setCell],fun k hk=>Below.heap_setCell _ _ _ _ hk⟩
theorem ju.below {b B:Nat}{w w':World}(h:ju b w w') (hB:B<=b):Below B w w' :=
 ⟨h.os,h.tape,h.output,by rw[h.size];exact cb _,fun k hk=>h.block k (by omega)⟩
theorem ju.cell {b:Nat}{w w':World}(h:ju b w w') {p:Addr}(hp:p.block≠b):w'.cell? p=w.cell? p:=Ub (w:=w) (h.block p.block hp)
theorem ju.row {b c off:Nat}{xs:List Nat}{w w':World}(h:ju b w w') (hc:c≠b) (hr:Row w c off xs):Row w' c off xs :=
 fun i hi=>(h.cell (p:=⟨c,off+i,none⟩) hc).trans (hr i hi)
theorem kV {B n:Nat}{a w:World}(h:Below B a w):Below B a (w.drewN n):=⟨h.os,h.tape,h.output,h.size,h.block⟩
theorem caa (w:World) (a b:Nat):(w.drewN a).drewN b=w.drewN (a+b):=World.drewN_drewN ..
theorem drew3 (w:World) (a b c:Nat):((w.drewN a).drewN b).drewN c=w.drewN (a+b+c):=by rw[caa,caa,Ck]
theorem Blk.lt {w:World}{b:Nat}{L:List Nat}(h:Blk w b L):b<w.heap.size:=let ⟨_,h⟩:=h;(Array.getElem?_eq_some_iff.1 h).1
theorem Blk.cell {w:World}{b:Nat}{L:List Nat}(h:Blk w b L) (i:Nat) (hi:i<L.length):w.cell? ⟨b,i,none⟩=some (u (L[i]?.getD 0)):=by
 obtain⟨T,h⟩:=h;simp only[World.cell?,h];simp [hi,JO]
theorem Blk.frozen {w:World}{b:Nat}{L:List Nat}(h:Blk w b L) (i:Nat):w.frozen? ⟨b,i,none⟩=false:=by
 obtain⟨T,h⟩:=h;simp only[World.frozen?,h];simp
theorem Blk.set {w:World}{b:Nat}{L:List Nat}(h:Blk w b L) (i v:Nat) (hi:i<L.length):Blk (w.setCell ⟨b,i,none⟩ (u v)) b (L.set i v):=by
 obtain⟨T,h⟩:=h;refine⟨T,?_⟩;simp only[World.setCell,cdf];simp [h,List.map_set,List.set_append_left,hi]
theorem Blk.of_block {w w':World}{b:Nat}{L:List Nat}(h:Blk w b L) (hb:w'.heap[b]?=w.heap[b]?):Blk w' b L:=let ⟨T,h⟩:=h;⟨T,by rw[hb,h]⟩
theorem Blk.drew {w:World}{b:Nat}{L:List Nat}(h:Blk w b L):Blk w.drew b L:=h
theorem Blk.below {w w':World}{b B:Nat}{L:List Nat}(h:Blk w b L) (hb:Below B w w') (hB:b<B):Blk w' b L:=h.of_block (hb.block b hB)
theorem Blk.only {w w':World}{b c:Nat}{L:List Nat}(h:Blk w b L) (hb:ju c w w') (hc:b≠c):Blk w' b L:=h.of_block (hb.block b hc)
theorem Blk.row {w:World}{b:Nat}{L:List Nat}(h:Blk w b L) (off n:Nat) (hn:off+n<=L.length):Row w b off ((L.drop off).take n):=by
 intro i hi;simp only[ji,kL] at hi;rw[h.cell (off+i) (by omega)];congr 2;rw[kB,cq (by omega),kJ]
theorem Row.below {w w':World}{b off B:Nat}{xs:List Nat}(h:Row w b off xs) (hb:Below B w w') (hB:b<B):Row w' b off xs :=
 fun i hi=>(hb.cell (p:=⟨b,off+i,none⟩) hB).trans (h i hi)
theorem Row.lt {w:World}{b off:Nat}{xs:List Nat}(h:Row w b off xs) (hn:0<xs.length):b<w.heap.size:=kA w _ (h 0 hn)
def WU (w:World) (v:Value):Prop:=∀ a n c,v=.slice (some a) n c->0<n->∃ cs fr,w.heap[a.block]?=some (.cells cs 42 fr)
theorem WU.below {w w':World}{B:Nat}{v:Value}(h:WU w v) (hb:Below B w w') (hB:w.heap.size<=B):WU w' v:=by
 intro a n c e hn;obtain⟨cs,fr,hc⟩:=h a n c e hn;exact⟨cs,fr,(hb.block a.block (cT (Array.getElem?_eq_some_iff.1 hc).1 hB)).trans hc⟩
structure Sl (w:World) (v:Value) (xs:List Nat):Prop where
 form:∃ ao cap,v=.slice ao xs.length cap/\xs.length<=cap/\cap<=maxLen/\(0<xs.length->∃ b off,ao=some ⟨b,off,none⟩/\Row w b off xs)
 ok:Ok xs
 typ:WU w v
theorem Sl.below {w w':World}{B:Nat}{v:Value}{xs:List Nat}(h:Sl w v xs) (hb:Below B w w') (hB:w.heap.size<=B):Sl w' v xs:=by
 obtain⟨⟨ao,cap,hv,h1,h2,h3⟩,hok,ht⟩:=h;refine⟨⟨ao,cap,hv,h1,h2,fun hn=>?_⟩,hok,ht.below hb hB⟩;obtain⟨b,off,ha,hr⟩:=h3 hn;exact⟨b,off,ha,hr.below hb (cT (hr.lt hn) hB)⟩
theorem Sl.nil (w:World):Sl w (.slice none 0 0) []:=⟨⟨none,0,rfl,cb _,by unfold maxLen;omega,fun h=>absurd h (by simp)⟩,Ok.nil,fun a n c e _=>by cases e⟩
theorem Blk.new (w:World) (L:List Nat):Blk (w.alloc (.cells (L.map u).toArray 42)) w.heap.size L:=by
 refine⟨[],?_⟩;show (w.heap.push _)[w.heap.size]?=_;simp
theorem Blk.of_owned {w:World}{base n:Nat}{v:Value}{xs:List Nat}(h:w.ownsRow base 42 1 v n (xs.map u)) (hv:v≠.slice none 0 0) :
 ∃ b cap,v=.slice (some ⟨b,0,none⟩) n cap/\base<=b/\Blk w b xs/\xs.length=n/\n<=cap/\cap<=maxLen:=by
 obtain⟨h1,⟨h2,_⟩|⟨g,cap,cur,rfl,hb,hg,hn,hm,hs,ht⟩⟩:=h
 ·exact absurd h2 hv
 ·refine⟨g,cap,rfl,hb,⟨cur.toList.drop (n*1),?_⟩,by simpa using h1,hn,hm⟩;rw[hg,← ht,jZ]
theorem Sl.of_blk {w:World}{b:Nat}{L:List Nat}(h:Blk w b L) (ok:Ok L) (off n cap:Nat) (hn:off+n<=L.length) (hc:n<=cap) (hm:cap<=maxLen) :
 Sl w (.slice (some ⟨b,off,none⟩) n cap) ((L.drop off).take n):=by
 have hl:((L.drop off).take n).length=n:=by rw[ji,kL];omega
 refine⟨⟨some ⟨b,off,none⟩,cap,by rw[hl],by rw[hl];exact hc,hm,fun _=>⟨b,off,rfl,h.row off n hn⟩⟩,(ok.drop _).take _,fun a n' c e _=>by
  injection e with e
  injection e with e
  subst e;obtain⟨T,hT⟩:=h;exact⟨_,_,hT⟩⟩
def cr (w:World) (v:Value) (n:Nat):Prop:=∃ xs,Sl w v xs/\YM xs/\val xs=n
theorem cr.below {w w':World}{B n:Nat}{v:Value}(h:cr w v n) (hb:Below B w w') (hB:w.heap.size<=B):cr w' v n:=by
 obtain⟨xs,h1,h2,h3⟩:=h;exact⟨xs,h1.below hb hB,h2,h3⟩
theorem cr.len {n:Nat}{xs:List Nat}(h2:YM xs) (h3:val xs=n) {k:Nat}(hk:n<B^k):xs.length<=k:=by
 rcases xs with _|⟨x,xs⟩
 ·simp
 ·have h1:=kj h2 (by simp);rw[h3] at h1;have h4:B^((x::xs).length-1)<B^k:=by omega
  have:=(WC (show 1<B by decide)).1 h4;simp at this ⊢;omega
def Gm (w:World) (n:Nat) (e:Ending) (w':World):Prop:=∃ v,e=.returned v/\cr w' v n/\Below w.heap.size w w'
def uz (x y:Nat):Nat:=(x+y)%B
def kS (x y:Nat):Nat:=(x+y)/B
def ze (x y:Nat):Nat:=(x+B-y)%B
def CS (x y:Nat):Nat:=if x<y then 1 else 0
def jo (x y:Nat):Nat:=x*y%B
def kh (x y:Nat):Nat:=x*y/B
theorem KR (x y:Nat):uz x y+B*kS x y=x+y:=by unfold uz kS;have:=kf (x+y) B;omega
theorem GG (x y:Nat):uz x y<B:=jJ _ jE
theorem cdn {x y:Nat}(hx:x<B) (hy:y<B):kS x y<=1:=by
 unfold kS;have:(x+y)/B<2:=uM (by omega);omega
theorem caw {x y:Nat}(hx:x<B) (hy:y<B):ze x y+y=x+B*CS x y:=by
 unfold ze CS;split
 ·rw[kP (by omega)];omega
 ·rw[show x+B-y=x-y+B from by omega,Nat.add_mod_right,kP (by omega)];omega
theorem Kk (x y:Nat):ze x y<B:=jJ _ jE
theorem cdg (x y:Nat):CS x y<=1:=by unfold CS;split<;>omega
theorem Wv (x y:Nat):jo x y+B*kh x y=x*y:=by unfold jo kh;have:=kf (x*y) B;omega
theorem Jd (x y:Nat):jo x y<B:=jJ _ jE
theorem jX {x:Nat}(h:x<B):IntKind.u64.wrap (x:Int)=(x:Int):=by
 rw[zQ];unfold B at h;omega
theorem CW {x y:Nat}(h:x+y<B):IntKind.u64.wrap ((x:Int)+(y:Int))=((x+y:Nat):Int):=by
 rw[show ((x:Int)+(y:Int))=((x+y:Nat):Int) from by omega,jX h]
theorem Zq {x y z:Nat}(h:x+y+z<B):IntKind.u64.wrap (IntKind.u64.wrap ((x:Int)+(y:Int))+(z:Int))=((x+y+z:Nat):Int):=by
 rw[CW (x:=x) (y:=y) (by omega),CW h]
theorem zM {x y:Nat}(hx:x<B) (h:y<=x):IntKind.u64.wrap ((x:Int)-(y:Int))=((x-y:Nat):Int):=by
 rw[show ((x:Int)-(y:Int))=((x-y:Nat):Int) from by omega,jX (by omega)]
end Go.Proofs.YtcgiaclelnmhbabGreatDoor
