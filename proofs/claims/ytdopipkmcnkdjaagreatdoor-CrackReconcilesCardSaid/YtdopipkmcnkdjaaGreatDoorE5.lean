/- Part 5. -/
import Derived.Test.YtdopipkmcnkdjaaGreatDoorE1
import Derived.WalkKit
import Derived.WalkSpells
import Derived.WalkLawsBesides
import Derived.Deep.QuietTactic
import Derived.BigQuiet
import Derived.Deep.RegionHeld3
import Derived.Deep.RegionWith
import Derived.Deep.DeepCutAuto
import Derived.Deep.CutBlock
import Derived.Deep.DeepFit
import Derived.IntWalk
set_option linter.all false

namespace Go.Proofs.YtdopipkmcnkdjaaGreatDoor.Lim
def B:Nat:=18446744073709551616
theorem kn:0<B:=by decide
def val:List Nat->Nat
 |[]=>0
 |x::xs=>x+B*val xs
def Ok (l:List Nat):Prop:=∀ x∈l,x<B
theorem Ok.nil:Ok []:=by intro x h;cases h
theorem Ok.cons {x:Nat}{l:List Nat}(hx:x<B) (h:Ok l):Ok (x::l):=by
 intro y hy;rcases List.mem_cons.1 hy with rfl|hy
 ·exact hx
 ·exact h y hy
theorem Ok.head {x:Nat}{l:List Nat}(h:Ok (x::l)):x<B:=h x (by simp)
theorem Ok.tail {x:Nat}{l:List Nat}(h:Ok (x::l)):Ok l:=fun y hy=>h y (by simp [hy])
theorem Ok.append {l m:List Nat}(h:Ok l) (h':Ok m):Ok (l++m):=by
 intro x hx;rcases List.mem_append.1 hx with hx|hx
 ·exact h x hx
 ·exact h' x hx
theorem Ok.take {l:List Nat}(h:Ok l) (k:Nat):Ok (l.take k):=fun x hx=>h x (Wo hx)
theorem Ok.drop {l:List Nat}(h:Ok l) (k:Nat):Ok (l.drop k):=fun x hx=>h x (cbs hx)
theorem Ok.set {l:List Nat}(h:Ok l) (k v:Nat) (hv:v<B):Ok (l.set k v):=by
 intro x hx;rcases List.mem_or_eq_of_mem_set hx with hx|hx
 ·exact h x hx
 ·rw[hx];exact hv
theorem Ok.replicate (n:Nat):Ok (List.replicate n 0):=by
 intro x hx;rw[(List.mem_replicate.1 hx).2];exact kn
theorem Ok.get {l:List Nat}(h:Ok l) (k:Nat):l[k]?.getD 0<B:=by
 rcases jd k l.length with hk|hk
 ·rw[kb hk];exact h _ (Yv hk)
 ·rw[yA hk];exact kn
theorem val_nil:val []=0:=rfl
theorem coP (x:Nat) (l:List Nat):val (x::l)=x+B*val l:=rfl
theorem Kq (l m:List Nat):val (l++m)=val l+B^l.length*val m:=by
 induction l with
 |nil=>simp [val]
 |cons x l ih=>simp only[JB,val,ih,uP,ji];grind
theorem kR {l:List Nat}(h:Ok l):val l<B^l.length:=by
 induction l with
 |nil=>simp [val]
 |cons x l ih =>
  have h1:=ih h.tail;have h2:=h.head;simp only[val,uP,ji];have:B*(val l+1)<=B*B^l.length:=jz _ h1;rw[jf (B^l.length) B];rw[cP] at this;omega
theorem ER (n:Nat):val (List.replicate n 0)=0:=by
 induction n with
 |zero=>rfl
 |succ n ih=>simp [List.replicate_succ,val,ih]
theorem JD (l:List Nat) (k:Nat) (h:k<=l.length):val l=val (l.take k)+B^k*val (l.drop k):=by
 conv=>lhs;rw[← kv k l,Kq]
 rw[jp,uq h]
theorem Yl (l:List Nat) (k:Nat) (h:k<l.length):l.take (k+1)=l.take k++[l[k]?.getD 0]:=by
 rw[cbF h,kb h];rfl
theorem jF (l:List Nat) (k:Nat) (h:k<l.length):val (l.take (k+1))=val (l.take k)+B^k*l[k]?.getD 0:=by
 rw[Yl l k h,Kq,jp,uq (by omega)];simp [val]
theorem Km (l:List Nat) (k v:Nat) (h:k<l.length):val (l.set k v)+B^k*l[k]?.getD 0=val l+B^k*v:=by
 induction l generalizing k with
 |nil=>simp at h
 |cons x l ih =>
  cases k with
  |zero=>simp [val];omega
  |succ k =>
   have h1:=ih k (by simpa using h);simp only[List.set_cons_succ,val,List.getElem?_cons_succ,ji];grind
theorem Zi {n a b c d:Nat}(h:a+n*b=c+n*d) (ha:a<n) (hc:c<n):a=c/\b=d:=by
 have h1:(a+n*b)%n=a:=by rw[YY,yS ha]
 have h2:(c+n*d)%n=c:=by rw[YY,yS hc]
 have:a=c:=by rw[← h1,← h2,h]
 subst this;refine⟨rfl,?_⟩;have:n*b=n*d:=by omega
 exact Nat.eq_of_mul_eq_mul_left (by omega) this
def ccD (l:List Nat):Prop:=∀ h:l≠[],l.getLast h≠0
theorem uy {l:List Nat}(h:ccD l) (hn:l≠[]):B^(l.length-1)<=val l:=by
 have h1:l=l.dropLast++[l.getLast hn]:=(List.dropLast_concat_getLast hn).symm;have h2:=h hn;rw[h1,Kq];simp only[val,kI,List.length_dropLast,uP,Ys];have:B^(l.length-1)*1<=B^(l.length-1)*(l.getLast hn+B*0):=jz _ (by omega);simp only[Nat.add_sub_cancel,je];omega
theorem chQ {l:List Nat}(h:ccD l):val l=0↔l=[]:=by
 constructor
 ·intro hv;rcases l with _|⟨x,l⟩
  ·rfl
  ·have:=uy h (by simp);have:0<B^((x::l).length-1):=kQ kn;omega
 ·rintro rfl;rfl
theorem zX {l m:List Nat}(hl:ccD l) (hm:Ok m) (h:val l<=val m):l.length<=m.length:=by
 rcases l with _|⟨x,l⟩
 ·simp
 ·have h1:=uy hl (by simp);have h2:=kR hm;have h3:B^((x::l).length-1)<B^m.length:=by omega
  have:=(cbp (show 1<B by decide)).1 h3;simp at this ⊢;omega
end Go.Proofs.YtdopipkmcnkdjaaGreatDoor.Lim

namespace Go.Proofs.YtdopipkmcnkdjaaGreatDoor
open Go Go.RowKit Lim
abbrev u (n:Nat):Value:=.int .u64 (n:Int)
def Blk (w:World) (b:Nat) (L:List Nat):Prop:=∃ T:List Value,w.heap[b]?=some (.cells (L.map u++T).toArray 31 (0,0))
def Row (w:World) (b off:Nat) (xs:List Nat):Prop:=∀ i,i<xs.length->w.cell? ⟨b,off+i,none⟩=some (u (xs[i]?.getD 0))
structure jJ (b:Nat) (w w':World):Prop where
 os:w'.os=w.os
 tape:w'.tape=w.tape
 output:w'.output=w.output
 size:w'.heap.size=w.heap.size
 block:∀ k,k≠b->w'.heap[k]?=w.heap[k]?
theorem jJ.refl (b:Nat) (w:World):jJ b w w:=⟨rfl,rfl,rfl,rfl,fun _ _=>rfl⟩
theorem jJ.trans {b:Nat}{w w' w'':World}(h:jJ b w w') (k:jJ b w' w''):jJ b w w'' :=
 ⟨k.os.trans h.os,k.tape.trans h.tape,k.output.trans h.output,k.size.trans h.size,fun i hi=>(k.block i hi).trans (h.block i hi)⟩
theorem jJ.drew {b:Nat}{w w':World}(h:jJ b w w'):jJ b w w'.drew:=⟨h.os,h.tape,h.output,h.size,h.block⟩
theorem jJ.drewN {b:Nat}{w w':World}(h:jJ b w w') (n:Nat):jJ b w (w'.drewN n):=⟨h.os,h.tape,h.output,h.size,h.block⟩
theorem jJ.set {b:Nat}{w w':World}(h:jJ b w w') (o:Nat) (v:Value):jJ b w (w'.setCell ⟨b,o,none⟩ v) :=
 h.trans ⟨rfl,rfl,rfl,by simp [World.setCell],fun k hk=>Below.heap_setCell _ _ _ _ hk⟩
theorem jJ.below {b B:Nat}{w w':World}(h:jJ b w w') (hB:B<=b):Below B w w' :=
 ⟨h.os,h.tape,h.output,by rw[h.size];exact cb _,fun k hk=>h.block k (by omega)⟩
theorem jJ.cell {b:Nat}{w w':World}(h:jJ b w w') {p:Addr}(hp:p.block≠b):w'.cell? p=w.cell? p:=ZV (w:=w) (h.block p.block hp)
theorem jJ.row {b c off:Nat}{xs:List Nat}{w w':World}(h:jJ b w w') (hc:c≠b) (hr:Row w c off xs):Row w' c off xs :=
 fun i hi=>(h.cell (p:=⟨c,off+i,none⟩) hc).trans (hr i hi)
theorem yx {B n:Nat}{a w:World}(h:Below B a w):Below B a (w.drewN n):=⟨h.os,h.tape,h.output,h.size,h.block⟩
theorem ceF (w:World) (a b:Nat):(w.drewN a).drewN b=w.drewN (a+b):=World.drewN_drewN ..
theorem drew3 (w:World) (a b c:Nat):((w.drewN a).drewN b).drewN c=w.drewN (a+b+c):=by rw[ceF,ceF,zO]
theorem Blk.lt {w:World}{b:Nat}{L:List Nat}(h:Blk w b L):b<w.heap.size:=let ⟨_,h⟩:=h;(Array.getElem?_eq_some_iff.1 h).1
theorem Blk.cell {w:World}{b:Nat}{L:List Nat}(h:Blk w b L) (i:Nat) (hi:i<L.length):w.cell? ⟨b,i,none⟩=some (u (L[i]?.getD 0)):=by
 obtain⟨T,h⟩:=h;simp only[World.cell?,h];simp [hi,KQ]
theorem Blk.frozen {w:World}{b:Nat}{L:List Nat}(h:Blk w b L) (i:Nat):w.frozen? ⟨b,i,none⟩=false:=by
 obtain⟨T,h⟩:=h;simp only[World.frozen?,h];simp
theorem Blk.set {w:World}{b:Nat}{L:List Nat}(h:Blk w b L) (i v:Nat) (hi:i<L.length):Blk (w.setCell ⟨b,i,none⟩ (u v)) b (L.set i v):=by
 obtain⟨T,h⟩:=h;refine⟨T,?_⟩;simp only[World.setCell,cbW];simp [h,List.map_set,List.set_append_left,hi]
theorem Blk.of_block {w w':World}{b:Nat}{L:List Nat}(h:Blk w b L) (hb:w'.heap[b]?=w.heap[b]?):Blk w' b L:=let ⟨T,h⟩:=h;⟨T,by rw[hb,h]⟩
theorem Blk.drew {w:World}{b:Nat}{L:List Nat}(h:Blk w b L):Blk w.drew b L:=h
theorem Blk.below {w w':World}{b B:Nat}{L:List Nat}(h:Blk w b L) (hb:Below B w w') (hB:b<B):Blk w' b L:=h.of_block (hb.block b hB)
theorem Blk.only {w w':World}{b c:Nat}{L:List Nat}(h:Blk w b L) (hb:jJ c w w') (hc:b≠c):Blk w' b L:=h.of_block (hb.block b hc)
theorem Blk.row {w:World}{b:Nat}{L:List Nat}(h:Blk w b L) (off n:Nat) (hn:off+n<=L.length):Row w b off ((L.drop off).take n):=by
 intro i hi;simp only[jp,uK] at hi;rw[h.cell (off+i) (by omega)];congr 2;rw[yF,co (by omega),zz]
theorem Row.below {w w':World}{b off B:Nat}{xs:List Nat}(h:Row w b off xs) (hb:Below B w w') (hB:b<B):Row w' b off xs :=
 fun i hi=>(hb.cell (p:=⟨b,off+i,none⟩) hB).trans (h i hi)
theorem Row.lt {w:World}{b off:Nat}{xs:List Nat}(h:Row w b off xs) (hn:0<xs.length):b<w.heap.size:=kS w _ (h 0 hn)
def ccc (w:World) (v:Value):Prop:=∀ a n c,v=.slice (some a) n c->0<n->∃ cs fr,w.heap[a.block]?=some (.cells cs 31 fr)
theorem ccc.below {w w':World}{B:Nat}{v:Value}(h:ccc w v) (hb:Below B w w') (hB:w.heap.size<=B):ccc w' v:=by
 intro a n c e hn;obtain⟨cs,fr,hc⟩:=h a n c e hn;exact⟨cs,fr,(hb.block a.block (cI (Array.getElem?_eq_some_iff.1 hc).1 hB)).trans hc⟩
structure Sl (w:World) (v:Value) (xs:List Nat):Prop where
 form:∃ ao cap,v=.slice ao xs.length cap/\xs.length<=cap/\cap<=maxLen/\(0<xs.length->∃ b off,ao=some ⟨b,off,none⟩/\Row w b off xs)
 ok:Ok xs
 typ:ccc w v
theorem Sl.below {w w':World}{B:Nat}{v:Value}{xs:List Nat}(h:Sl w v xs) (hb:Below B w w') (hB:w.heap.size<=B):Sl w' v xs:=by
 obtain⟨⟨ao,cap,hv,h1,h2,h3⟩,hok,ht⟩:=h;refine⟨⟨ao,cap,hv,h1,h2,fun hn=>?_⟩,hok,ht.below hb hB⟩;obtain⟨b,off,ha,hr⟩:=h3 hn;exact⟨b,off,ha,hr.below hb (cI (hr.lt hn) hB)⟩
theorem Sl.nil (w:World):Sl w (.slice none 0 0) []:=⟨⟨none,0,rfl,cb _,by unfold maxLen;omega,fun h=>absurd h (by simp)⟩,Ok.nil,fun a n c e _=>by cases e⟩
theorem Blk.new (w:World) (L:List Nat):Blk (w.alloc (.cells (L.map u).toArray 31)) w.heap.size L:=by
 refine⟨[],?_⟩;show (w.heap.push _)[w.heap.size]?=_;simp
theorem Blk.of_owned {w:World}{base n:Nat}{v:Value}{xs:List Nat}(h:w.ownsRow base 31 1 v n (xs.map u)) (hv:v≠.slice none 0 0) :
 ∃ b cap,v=.slice (some ⟨b,0,none⟩) n cap/\base<=b/\Blk w b xs/\xs.length=n/\n<=cap/\cap<=maxLen:=by
 obtain⟨h1,⟨h2,_⟩|⟨g,cap,cur,rfl,hb,hg,hn,hm,hs,ht⟩⟩:=h
 ·exact absurd h2 hv
 ·refine⟨g,cap,rfl,hb,⟨cur.toList.drop (n*1),?_⟩,by simpa using h1,hn,hm⟩;rw[hg,← ht,kv]
theorem Sl.of_blk {w:World}{b:Nat}{L:List Nat}(h:Blk w b L) (ok:Ok L) (off n cap:Nat) (hn:off+n<=L.length) (hc:n<=cap) (hm:cap<=maxLen) :
 Sl w (.slice (some ⟨b,off,none⟩) n cap) ((L.drop off).take n):=by
 have hl:((L.drop off).take n).length=n:=by rw[jp,uK];omega
 refine⟨⟨some ⟨b,off,none⟩,cap,by rw[hl],by rw[hl];exact hc,hm,fun _=>⟨b,off,rfl,h.row off n hn⟩⟩,(ok.drop _).take _,fun a n' c e _=>by
  injection e with e
  injection e with e
  subst e;obtain⟨T,hT⟩:=h;exact⟨_,_,hT⟩⟩
def cu (w:World) (v:Value) (n:Nat):Prop:=∃ xs,Sl w v xs/\ccD xs/\val xs=n
theorem cu.below {w w':World}{B n:Nat}{v:Value}(h:cu w v n) (hb:Below B w w') (hB:w.heap.size<=B):cu w' v n:=by
 obtain⟨xs,h1,h2,h3⟩:=h;exact⟨xs,h1.below hb hB,h2,h3⟩
theorem cu.len {n:Nat}{xs:List Nat}(h2:ccD xs) (h3:val xs=n) {k:Nat}(hk:n<B^k):xs.length<=k:=by
 rcases xs with _|⟨x,xs⟩
 ·simp
 ·have h1:=uy h2 (by simp);rw[h3] at h1;have h4:B^((x::xs).length-1)<B^k:=by omega
  have:=(cbp (show 1<B by decide)).1 h4;simp at this ⊢;omega
def We (w:World) (n:Nat) (e:Ending) (w':World):Prop:=∃ v,e=.returned v/\cu w' v n/\Below w.heap.size w w'
def zT (x y:Nat):Nat:=(x+y)%B
def yD (x y:Nat):Nat:=(x+y)/B
def Eo (x y:Nat):Nat:=(x+B-y)%B
def JM (x y:Nat):Nat:=if x<y then 1 else 0
def ke (x y:Nat):Nat:=x*y%B
def uC (x y:Nat):Nat:=x*y/B
theorem caJ (x y:Nat):zT x y+B*yD x y=x+y:=by unfold zT yD;have:=kY (x+y) B;omega
theorem UN (x y:Nat):zT x y<B:=ki _ kn
theorem cgY {x y:Nat}(hx:x<B) (hy:y<B):yD x y<=1:=by
 unfold yD;have:(x+y)/B<2:=zM (by omega);omega
theorem cgi {x y:Nat}(hx:x<B) (hy:y<B):Eo x y+y=x+B*JM x y:=by
 unfold Eo JM;split
 ·rw[yS (by omega)];omega
 ·rw[show x+B-y=x-y+B from by omega,Nat.add_mod_right,yS (by omega)];omega
theorem YR (x y:Nat):Eo x y<B:=ki _ kn
theorem cii (x y:Nat):JM x y<=1:=by unfold JM;split<;>omega
theorem cbr (x y:Nat):ke x y+B*uC x y=x*y:=by unfold ke uC;have:=kY (x*y) B;omega
theorem WD (x y:Nat):ke x y<B:=ki _ kn
theorem ua {x:Nat}(h:x<B):IntKind.u64.wrap (x:Int)=(x:Int):=by
 rw[zA];unfold B at h;omega
theorem JS {x y:Nat}(h:x+y<B):IntKind.u64.wrap ((x:Int)+(y:Int))=((x+y:Nat):Int):=by
 rw[show ((x:Int)+(y:Int))=((x+y:Nat):Int) from by omega,ua h]
theorem ceE {x y z:Nat}(h:x+y+z<B):IntKind.u64.wrap (IntKind.u64.wrap ((x:Int)+(y:Int))+(z:Int))=((x+y+z:Nat):Int):=by
 rw[JS (x:=x) (y:=y) (by omega),JS h]
theorem GW {x y:Nat}(hx:x<B) (h:y<=x):IntKind.u64.wrap ((x:Int)-(y:Int))=((x-y:Nat):Int):=by
 rw[show ((x:Int)-(y:Int))=((x-y:Nat):Int) from by omega,ua (by omega)]
end Go.Proofs.YtdopipkmcnkdjaaGreatDoor
