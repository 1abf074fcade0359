/- Part 5. -/
import Derived.WalkKit
import Derived.WalkSpells
import Derived.WalkLawsBesides
import Derived.Deep.QuietTactic
import Derived.BigQuiet
import Derived.Deep.RegionHeld3
import Derived.Deep.RegionWith
import Derived.Deep.DeepCutAuto
import Derived.Deep.CutBlock
import Derived.Deep.DeepFit
import Derived.IntWalk
import Derived.Lib.Hide
set_option linter.all false
open Go.IntKind (wrap_u64)
open List (cons_append length_append length_cons length_drop length_take take_append_drop)
open Nat (add_assoc div_add_mod div_lt_of_lt_mul le_refl lt_of_lt_of_le lt_or_ge min_eq_left mod_eq_of_lt mod_lt mul_add mul_comm mul_le_mul_left pow_pos pow_succ zero_add)

namespace Go.Proofs.YtokieocpdcngcaaGreatDoor.Lim
def B:Nat:=18446744073709551616
theorem jk:0<B:=by decide
def val:List Nat->Nat
 |[]=>0
 |x::xs=>x+B*val xs
def Ok (l:List Nat):Prop:=∀ x∈l,x<B
theorem Ok.nil:Ok []:=by intro x h;cases h
theorem Ok.cons {x:Nat}{l:List Nat}(hx:x<B) (h:Ok l):Ok (x::l):=by
 intro y hy;rcases List.mem_cons.1 hy with rfl|hy
 ·exact hx
 ·exact h y hy
theorem Ok.head {x:Nat}{l:List Nat}(h:Ok (x::l)):x<B:=h x (by simp)
theorem Ok.tail {x:Nat}{l:List Nat}(h:Ok (x::l)):Ok l:=fun y hy=>h y (by simp [hy])
theorem Ok.append {l m:List Nat}(h:Ok l) (h':Ok m):Ok (l++m):=by
 intro x hx;rcases List.mem_append.1 hx with hx|hx
 ·exact h x hx
 ·exact h' x hx
theorem Ok.take {l:List Nat}(h:Ok l) (k:Nat):Ok (l.take k):=fun x hx=>h x (List.mem_of_mem_take hx)
theorem Ok.drop {l:List Nat}(h:Ok l) (k:Nat):Ok (l.drop k):=fun x hx=>h x (List.mem_of_mem_drop hx)
theorem Ok.set {l:List Nat}(h:Ok l) (k v:Nat) (hv:v<B):Ok (l.set k v):=by
 intro x hx;rcases List.mem_or_eq_of_mem_set hx with hx|hx
 ·exact h x hx
 ·rw[hx];exact hv
theorem Ok.replicate (n:Nat):Ok (List.replicate n 0):=by
 intro x hx;rw[(List.mem_replicate.1 hx).2];exact jk
theorem Ok.get {l:List Nat}(h:Ok l) (k:Nat):l[k]?.getD 0<B:=by
 rcases lt_or_ge k l.length with hk|hk
 ·rw[List.getElem?_eq_getElem hk];exact h _ (List.getElem_mem hk)
 ·rw[List.getElem?_eq_none hk];exact jk
theorem val_nil:val []=0:=rfl
theorem chH (x:Nat) (l:List Nat):val (x::l)=x+B*val l:=rfl
theorem Ec (l m:List Nat):val (l++m)=val l+B^l.length*val m:=by
 induction l with
 |nil=>simp [val]
 |cons x l ih=>simp only[cons_append,val,ih,length_cons,pow_succ];grind
theorem js {l:List Nat}(h:Ok l):val l<B^l.length:=by
 induction l with
 |nil=>simp [val]
 |cons x l ih =>
  have h1:=ih h.tail;have h2:=h.head;simp only[val,length_cons,pow_succ];have:B*(val l+1)<=B*B^l.length:=mul_le_mul_left _ h1;rw[mul_comm (B^l.length) B];rw[mul_add] at this;omega
theorem yV (n:Nat):val (List.replicate n 0)=0:=by
 induction n with
 |zero=>rfl
 |succ n ih=>simp [List.replicate_succ,val,ih]
theorem Cm (l:List Nat) (k:Nat) (h:k<=l.length):val l=val (l.take k)+B^k*val (l.drop k):=by
 conv=>lhs;rw[← take_append_drop k l,Ec]
 rw[length_take,min_eq_left h]
theorem Jd (l:List Nat) (k:Nat) (h:k<l.length):l.take (k+1)=l.take k++[l[k]?.getD 0]:=by
 rw[List.take_succ_eq_append_getElem h,List.getElem?_eq_getElem h];rfl
theorem cQ (l:List Nat) (k:Nat) (h:k<l.length):val (l.take (k+1))=val (l.take k)+B^k*l[k]?.getD 0:=by
 rw[Jd l k h,Ec,length_take,min_eq_left (by omega)];simp [val]
theorem Eo (l:List Nat) (k v:Nat) (h:k<l.length):val (l.set k v)+B^k*l[k]?.getD 0=val l+B^k*v:=by
 induction l generalizing k with
 |nil=>simp at h
 |cons x l ih =>
  cases k with
  |zero=>simp [val];omega
  |succ k =>
   have h1:=ih k (by simpa using h);simp only[List.set_cons_succ,val,List.getElem?_cons_succ,pow_succ];grind
theorem JK {n a b c d:Nat}(h:a+n*b=c+n*d) (ha:a<n) (hc:c<n):a=c/\b=d:=by
 have h1:(a+n*b)%n=a:=by rw[Nat.add_mul_mod_self_left,mod_eq_of_lt ha]
 have h2:(c+n*d)%n=c:=by rw[Nat.add_mul_mod_self_left,mod_eq_of_lt hc]
 have:a=c:=by rw[← h1,← h2,h]
 subst this;refine⟨rfl,?_⟩;have:n*b=n*d:=by omega
 exact Nat.eq_of_mul_eq_mul_left (by omega) this
def Yi (l:List Nat):Prop:=∀ h:l≠[],l.getLast h≠0
theorem jO {l:List Nat}(h:Yi l) (hn:l≠[]):B^(l.length-1)<=val l:=by
 have h1:l=l.dropLast++[l.getLast hn]:=(List.dropLast_concat_getLast hn).symm;have h2:=h hn;rw[h1,Ec];simp only[val,length_append,List.length_dropLast,length_cons,List.length_nil];have:B^(l.length-1)*1<=B^(l.length-1)*(l.getLast hn+B*0):=mul_le_mul_left _ (by omega);simp only[Nat.add_sub_cancel,zero_add];omega
theorem ccf {l:List Nat}(h:Yi l):val l=0↔l=[]:=by
 constructor
 ·intro hv;rcases l with _|⟨x,l⟩
  ·rfl
  ·have:=jO h (by simp);have:0<B^((x::l).length-1):=pow_pos jk;omega
 ·rintro rfl;rfl
theorem up {l m:List Nat}(hl:Yi l) (hm:Ok m) (h:val l<=val m):l.length<=m.length:=by
 rcases l with _|⟨x,l⟩
 ·simp
 ·have h1:=jO hl (by simp);have h2:=js hm;have h3:B^((x::l).length-1)<B^m.length:=by omega
  have:=(Nat.pow_lt_pow_iff_right (show 1<B by decide)).1 h3;simp at this ⊢;omega
end Go.Proofs.YtokieocpdcngcaaGreatDoor.Lim

namespace Go.Proofs.YtokieocpdcngcaaGreatDoor
open Go Go.RowKit Lim
abbrev u (n:Nat):Value:=.int .u64 (n:Int)
def Blk (w:World) (b:Nat) (L:List Nat):Prop:=∃ T:List Value,w.heap[b]?=some (.cells (L.map u++T).toArray 47 (0,0))
def Row (w:World) (b off:Nat) (xs:List Nat):Prop:=∀ i,i<xs.length->w.cell? ⟨b,off+i,none⟩=some (u (xs[i]?.getD 0))
structure cV (b:Nat) (w w':World):Prop where
 os:w'.os=w.os
 tape:w'.tape=w.tape
 output:w'.output=w.output
 size:w'.heap.size=w.heap.size
 block:∀ k,k≠b->w'.heap[k]?=w.heap[k]?
theorem cV.refl (b:Nat) (w:World):cV b w w:=⟨rfl,rfl,rfl,rfl,fun _ _=>rfl⟩
theorem cV.trans {b:Nat}{w w' w'':World}(h:cV b w w') (k:cV b w' w''):cV b w w'' :=
 ⟨k.os.trans h.os,k.tape.trans h.tape,k.output.trans h.output,k.size.trans h.size,fun i hi=>(k.block i hi).trans (h.block i hi)⟩
theorem cV.drew {b:Nat}{w w':World}(h:cV b w w'):cV b w w'.drew:=⟨h.os,h.tape,h.output,h.size,h.block⟩
theorem cV.drewN {b:Nat}{w w':World}(h:cV b w w') (n:Nat):cV b w (w'.drewN n):=⟨h.os,h.tape,h.output,h.size,h.block⟩
theorem cV.set {b:Nat}{w w':World}(h:cV b w w') (o:Nat) (v:Value):cV b w (w'.setCell ⟨b,o,none⟩ v) :=
 h.trans ⟨rfl,rfl,rfl,by simp [World.setCell],fun k hk=>Below.heap_setCell _ _ _ _ hk⟩
theorem cV.below {b B:Nat}{w w':World}(h:cV b w w') (hB:B<=b):Below B w w' :=
 ⟨h.os,h.tape,h.output,by rw[h.size];exact le_refl _,fun k hk=>h.block k (by omega)⟩
theorem cV.cell {b:Nat}{w w':World}(h:cV b w w') {p:Addr}(hp:p.block≠b):w'.cell? p=w.cell? p:=World.cell?_of_block (w:=w) (h.block p.block hp)
theorem cV.row {b c off:Nat}{xs:List Nat}{w w':World}(h:cV b w w') (hc:c≠b) (hr:Row w c off xs):Row w' c off xs :=
 fun i hi=>(h.cell (p:=⟨c,off+i,none⟩) hc).trans (hr i hi)
theorem kx {B n:Nat}{a w:World}(h:Below B a w):Below B a (w.drewN n):=⟨h.os,h.tape,h.output,h.size,h.block⟩
theorem ZA (w:World) (a b:Nat):(w.drewN a).drewN b=w.drewN (a+b):=World.drewN_drewN ..
theorem drew3 (w:World) (a b c:Nat):((w.drewN a).drewN b).drewN c=w.drewN (a+b+c):=by rw[ZA,ZA,add_assoc]
theorem Blk.lt {w:World}{b:Nat}{L:List Nat}(h:Blk w b L):b<w.heap.size:=let ⟨_,h⟩:=h;(Array.getElem?_eq_some_iff.1 h).1
theorem Blk.cell {w:World}{b:Nat}{L:List Nat}(h:Blk w b L) (i:Nat) (hi:i<L.length):w.cell? ⟨b,i,none⟩=some (u (L[i]?.getD 0)):=by
 obtain⟨T,h⟩:=h;simp only[World.cell?,h];simp [hi,List.getElem?_append_left]
theorem Blk.frozen {w:World}{b:Nat}{L:List Nat}(h:Blk w b L) (i:Nat):w.frozen? ⟨b,i,none⟩=false:=by
 obtain⟨T,h⟩:=h;simp only[World.frozen?,h];simp
theorem Blk.set {w:World}{b:Nat}{L:List Nat}(h:Blk w b L) (i v:Nat) (hi:i<L.length):Blk (w.setCell ⟨b,i,none⟩ (u v)) b (L.set i v):=by
 obtain⟨T,h⟩:=h;refine⟨T,?_⟩;simp only[World.setCell,Array.getElem?_modify];simp [h,List.map_set,List.set_append_left,hi]
theorem Blk.of_block {w w':World}{b:Nat}{L:List Nat}(h:Blk w b L) (hb:w'.heap[b]?=w.heap[b]?):Blk w' b L:=let ⟨T,h⟩:=h;⟨T,by rw[hb,h]⟩
theorem Blk.drew {w:World}{b:Nat}{L:List Nat}(h:Blk w b L):Blk w.drew b L:=h
theorem Blk.below {w w':World}{b B:Nat}{L:List Nat}(h:Blk w b L) (hb:Below B w w') (hB:b<B):Blk w' b L:=h.of_block (hb.block b hB)
theorem Blk.only {w w':World}{b c:Nat}{L:List Nat}(h:Blk w b L) (hb:cV c w w') (hc:b≠c):Blk w' b L:=h.of_block (hb.block b hc)
theorem Blk.row {w:World}{b:Nat}{L:List Nat}(h:Blk w b L) (off n:Nat) (hn:off+n<=L.length):Row w b off ((L.drop off).take n):=by
 intro i hi;simp only[length_take,length_drop] at hi;rw[h.cell (off+i) (by omega)];congr 2;rw[List.getElem?_take,if_pos (by omega),List.getElem?_drop]
theorem Row.below {w w':World}{b off B:Nat}{xs:List Nat}(h:Row w b off xs) (hb:Below B w w') (hB:b<B):Row w' b off xs :=
 fun i hi=>(hb.cell (p:=⟨b,off+i,none⟩) hB).trans (h i hi)
theorem Row.lt {w:World}{b off:Nat}{xs:List Nat}(h:Row w b off xs) (hn:0<xs.length):b<w.heap.size:=World.block_lt_of_cell? w _ (h 0 hn)
def Ys (w:World) (v:Value):Prop:=∀ a n c,v=.slice (some a) n c->0<n->∃ cs fr,w.heap[a.block]?=some (.cells cs 47 fr)
theorem Ys.below {w w':World}{B:Nat}{v:Value}(h:Ys w v) (hb:Below B w w') (hB:w.heap.size<=B):Ys w' v:=by
 intro a n c e hn;obtain⟨cs,fr,hc⟩:=h a n c e hn;exact⟨cs,fr,(hb.block a.block (lt_of_lt_of_le (Array.getElem?_eq_some_iff.1 hc).1 hB)).trans hc⟩
structure Sl (w:World) (v:Value) (xs:List Nat):Prop where
 form:∃ ao cap,v=.slice ao xs.length cap/\xs.length<=cap/\cap<=maxLen/\(0<xs.length->∃ b off,ao=some ⟨b,off,none⟩/\Row w b off xs)
 ok:Ok xs
 typ:Ys w v
theorem Sl.below {w w':World}{B:Nat}{v:Value}{xs:List Nat}(h:Sl w v xs) (hb:Below B w w') (hB:w.heap.size<=B):Sl w' v xs:=by
 obtain⟨⟨ao,cap,hv,h1,h2,h3⟩,hok,ht⟩:=h;refine⟨⟨ao,cap,hv,h1,h2,fun hn=>?_⟩,hok,ht.below hb hB⟩;obtain⟨b,off,ha,hr⟩:=h3 hn;exact⟨b,off,ha,hr.below hb (lt_of_lt_of_le (hr.lt hn) hB)⟩
theorem Sl.nil (w:World):Sl w (.slice none 0 0) []:=⟨⟨none,0,rfl,le_refl _,by unfold maxLen;omega,fun h=>absurd h (by simp)⟩,Ok.nil,fun a n c e _=>by cases e⟩
theorem Blk.new (w:World) (L:List Nat):Blk (w.alloc (.cells (L.map u).toArray 47)) w.heap.size L:=by
 refine⟨[],?_⟩;show (w.heap.push _)[w.heap.size]?=_;simp
theorem Blk.of_owned {w:World}{base n:Nat}{v:Value}{xs:List Nat}(h:w.ownsRow base 47 1 v n (xs.map u)) (hv:v≠.slice none 0 0) :
 ∃ b cap,v=.slice (some ⟨b,0,none⟩) n cap/\base<=b/\Blk w b xs/\xs.length=n/\n<=cap/\cap<=maxLen:=by
 obtain⟨h1,⟨h2,_⟩|⟨g,cap,cur,rfl,hb,hg,hn,hm,hs,ht⟩⟩:=h
 ·exact absurd h2 hv
 ·refine⟨g,cap,rfl,hb,⟨cur.toList.drop (n*1),?_⟩,by simpa using h1,hn,hm⟩;rw[hg,← ht,take_append_drop]
theorem Sl.of_blk {w:World}{b:Nat}{L:List Nat}(h:Blk w b L) (ok:Ok L) (off n cap:Nat) (hn:off+n<=L.length) (hc:n<=cap) (hm:cap<=maxLen) :
 Sl w (.slice (some ⟨b,off,none⟩) n cap) ((L.drop off).take n):=by
 have hl:((L.drop off).take n).length=n:=by rw[length_take,length_drop];omega
 refine⟨⟨some ⟨b,off,none⟩,cap,by rw[hl],by rw[hl];exact hc,hm,fun _=>⟨b,off,rfl,h.row off n hn⟩⟩,(ok.drop _).take _,fun a n' c e _=>by
  injection e with e
  injection e with e
  subst e;obtain⟨T,hT⟩:=h;exact⟨_,_,hT⟩⟩
def cg (w:World) (v:Value) (n:Nat):Prop:=∃ xs,Sl w v xs/\Yi xs/\val xs=n
theorem cg.below {w w':World}{B n:Nat}{v:Value}(h:cg w v n) (hb:Below B w w') (hB:w.heap.size<=B):cg w' v n:=by
 obtain⟨xs,h1,h2,h3⟩:=h;exact⟨xs,h1.below hb hB,h2,h3⟩
theorem cg.len {n:Nat}{xs:List Nat}(h2:Yi xs) (h3:val xs=n) {k:Nat}(hk:n<B^k):xs.length<=k:=by
 rcases xs with _|⟨x,xs⟩
 ·simp
 ·have h1:=jO h2 (by simp);rw[h3] at h1;have h4:B^((x::xs).length-1)<B^k:=by omega
  have:=(Nat.pow_lt_pow_iff_right (show 1<B by decide)).1 h4;simp at this ⊢;omega
def EG (w:World) (n:Nat) (e:Ending) (w':World):Prop:=∃ v,e=.returned v/\cg w' v n/\Below w.heap.size w w'
def ul (x y:Nat):Nat:=(x+y)%B
def kA (x y:Nat):Nat:=(x+y)/B
def uQ (x y:Nat):Nat:=(x+B-y)%B
def CT (x y:Nat):Nat:=if x<y then 1 else 0
def cW (x y:Nat):Nat:=x*y%B
def jD (x y:Nat):Nat:=x*y/B
theorem Km (x y:Nat):ul x y+B*kA x y=x+y:=by unfold ul kA;have:=div_add_mod (x+y) B;omega
theorem Gb (x y:Nat):ul x y<B:=mod_lt _ jk
theorem cbc {x y:Nat}(hx:x<B) (hy:y<B):kA x y<=1:=by
 unfold kA;have:(x+y)/B<2:=div_lt_of_lt_mul (by omega);omega
theorem ZV {x y:Nat}(hx:x<B) (hy:y<B):uQ x y+y=x+B*CT x y:=by
 unfold uQ CT;split
 ·rw[mod_eq_of_lt (by omega)];omega
 ·rw[show x+B-y=x-y+B from by omega,Nat.add_mod_right,mod_eq_of_lt (by omega)];omega
theorem JO (x y:Nat):uQ x y<B:=mod_lt _ jk
theorem cbP (x y:Nat):CT x y<=1:=by unfold CT;split<;>omega
theorem US (x y:Nat):cW x y+B*jD x y=x*y:=by unfold cW jD;have:=div_add_mod (x*y) B;omega
theorem zH (x y:Nat):cW x y<B:=mod_lt _ jk
theorem jn {x:Nat}(h:x<B):IntKind.u64.wrap (x:Int)=(x:Int):=by
 rw[wrap_u64];unfold B at h;omega
theorem CB {x y:Nat}(h:x+y<B):IntKind.u64.wrap ((x:Int)+(y:Int))=((x+y:Nat):Int):=by
 rw[show ((x:Int)+(y:Int))=((x+y:Nat):Int) from by omega,jn h]
theorem YY {x y z:Nat}(h:x+y+z<B):IntKind.u64.wrap (IntKind.u64.wrap ((x:Int)+(y:Int))+(z:Int))=((x+y+z:Nat):Int):=by
 rw[CB (x:=x) (y:=y) (by omega),CB h]
theorem zL {x y:Nat}(hx:x<B) (h:y<=x):IntKind.u64.wrap ((x:Int)-(y:Int))=((x-y:Nat):Int):=by
 rw[show ((x:Int)-(y:Int))=((x-y:Nat):Int) from by omega,jn (by omega)]
end Go.Proofs.YtokieocpdcngcaaGreatDoor
