/- Part 5. -/
import Derived.Test.YtgdnkbajagfijaaGreatDoorD1
import Derived.WalkKit
import Derived.WalkSpells
import Derived.WalkLawsBesides
import Derived.Deep.QuietTactic
import Derived.BigQuiet
import Derived.Deep.RegionHeld3
import Derived.Deep.RegionWith
import Derived.Deep.DeepCutAuto
import Derived.Deep.CutBlock
import Derived.Deep.DeepFit
import Derived.IntWalk
set_option linter.all false

namespace Go.Proofs.YtgdnkbajagfijaaGreatDoor.Lim
def B:Nat:=18446744073709551616
theorem ke:0<B:=by decide
def val:List Nat->Nat
 |[]=>0
 |x::xs=>x+B*val xs
def Ok (l:List Nat):Prop:=∀ x∈l,x<B
theorem Ok.nil:Ok []:=by intro x h;cases h
theorem Ok.cons {x:Nat}{l:List Nat}(hx:x<B) (h:Ok l):Ok (x::l):=by
 intro y hy;rcases List.mem_cons.1 hy with rfl|hy
 ·exact hx
 ·exact h y hy
theorem Ok.head {x:Nat}{l:List Nat}(h:Ok (x::l)):x<B:=h x (by simp)
theorem Ok.tail {x:Nat}{l:List Nat}(h:Ok (x::l)):Ok l:=fun y hy=>h y (by simp [hy])
theorem Ok.append {l m:List Nat}(h:Ok l) (h':Ok m):Ok (l++m):=by
 intro x hx;rcases List.mem_append.1 hx with hx|hx
 ·exact h x hx
 ·exact h' x hx
theorem Ok.take {l:List Nat}(h:Ok l) (k:Nat):Ok (l.take k):=fun x hx=>h x (Wt hx)
theorem Ok.drop {l:List Nat}(h:Ok l) (k:Nat):Ok (l.drop k):=fun x hx=>h x (cbG hx)
theorem Ok.set {l:List Nat}(h:Ok l) (k v:Nat) (hv:v<B):Ok (l.set k v):=by
 intro x hx;rcases List.mem_or_eq_of_mem_set hx with hx|hx
 ·exact h x hx
 ·rw[hx];exact hv
theorem Ok.replicate (n:Nat):Ok (List.replicate n 0):=by
 intro x hx;rw[(List.mem_replicate.1 hx).2];exact ke
theorem Ok.get {l:List Nat}(h:Ok l) (k:Nat):l[k]?.getD 0<B:=by
 rcases jb k l.length with hk|hk
 ·rw[jX hk];exact h _ (UC hk)
 ·rw[yu hk];exact ke
theorem val_nil:val []=0:=rfl
theorem coH (x:Nat) (l:List Nat):val (x::l)=x+B*val l:=rfl
theorem KP (l m:List Nat):val (l++m)=val l+B^l.length*val m:=by
 induction l with
 |nil=>simp [val]
 |cons x l ih=>simp only[JG,val,ih,uI,ji];grind
theorem kK {l:List Nat}(h:Ok l):val l<B^l.length:=by
 induction l with
 |nil=>simp [val]
 |cons x l ih =>
  have h1:=ih h.tail;have h2:=h.head;simp only[val,uI,ji];have:B*(val l+1)<=B*B^l.length:=jr _ h1;rw[je (B^l.length) B];rw[cK] at this;omega
theorem EM (n:Nat):val (List.replicate n 0)=0:=by
 induction n with
 |zero=>rfl
 |succ n ih=>simp [List.replicate_succ,val,ih]
theorem JF (l:List Nat) (k:Nat) (h:k<=l.length):val l=val (l.take k)+B^k*val (l.drop k):=by
 conv=>lhs;rw[← kj k l,KP]
 rw[cU,ul h]
theorem Ya (l:List Nat) (k:Nat) (h:k<l.length):l.take (k+1)=l.take k++[l[k]?.getD 0]:=by
 rw[cbz h,jX h];rfl
theorem jB (l:List Nat) (k:Nat) (h:k<l.length):val (l.take (k+1))=val (l.take k)+B^k*l[k]?.getD 0:=by
 rw[Ya l k h,KP,cU,ul (by omega)];simp [val]
theorem Kq (l:List Nat) (k v:Nat) (h:k<l.length):val (l.set k v)+B^k*l[k]?.getD 0=val l+B^k*v:=by
 induction l generalizing k with
 |nil=>simp at h
 |cons x l ih =>
  cases k with
  |zero=>simp [val];omega
  |succ k =>
   have h1:=ih k (by simpa using h);simp only[List.set_cons_succ,val,List.getElem?_cons_succ,ji];grind
theorem Zj {n a b c d:Nat}(h:a+n*b=c+n*d) (ha:a<n) (hc:c<n):a=c/\b=d:=by
 have h1:(a+n*b)%n=a:=by rw[YD,yO ha]
 have h2:(c+n*d)%n=c:=by rw[YD,yO hc]
 have:a=c:=by rw[← h1,← h2,h]
 subst this;refine⟨rfl,?_⟩;have:n*b=n*d:=by omega
 exact Nat.eq_of_mul_eq_mul_left (by omega) this
def ccl (l:List Nat):Prop:=∀ h:l≠[],l.getLast h≠0
theorem ur {l:List Nat}(h:ccl l) (hn:l≠[]):B^(l.length-1)<=val l:=by
 have h1:l=l.dropLast++[l.getLast hn]:=(List.dropLast_concat_getLast hn).symm;have h2:=h hn;rw[h1,KP];simp only[val,kC,List.length_dropLast,uI,Yn];have:B^(l.length-1)*1<=B^(l.length-1)*(l.getLast hn+B*0):=jr _ (by omega);simp only[Nat.add_sub_cancel,jc];omega
theorem cgR {l:List Nat}(h:ccl l):val l=0↔l=[]:=by
 constructor
 ·intro hv;rcases l with _|⟨x,l⟩
  ·rfl
  ·have:=ur h (by simp);have:0<B^((x::l).length-1):=kI ke;omega
 ·rintro rfl;rfl
theorem zO {l m:List Nat}(hl:ccl l) (hm:Ok m) (h:val l<=val m):l.length<=m.length:=by
 rcases l with _|⟨x,l⟩
 ·simp
 ·have h1:=ur hl (by simp);have h2:=kK hm;have h3:B^((x::l).length-1)<B^m.length:=by omega
  have:=(cbp (show 1<B by decide)).1 h3;simp at this ⊢;omega
end Go.Proofs.YtgdnkbajagfijaaGreatDoor.Lim

namespace Go.Proofs.YtgdnkbajagfijaaGreatDoor
open Go Go.RowKit Lim
abbrev u (n:Nat):Value:=.int .u64 (n:Int)
def Blk (w:World) (b:Nat) (L:List Nat):Prop:=∃ T:List Value,w.heap[b]?=some (.cells (L.map u++T).toArray 31 (0,0))
def Row (w:World) (b off:Nat) (xs:List Nat):Prop:=∀ i,i<xs.length->w.cell? ⟨b,off+i,none⟩=some (u (xs[i]?.getD 0))
structure jF (b:Nat) (w w':World):Prop where
 os:w'.os=w.os
 tape:w'.tape=w.tape
 output:w'.output=w.output
 size:w'.heap.size=w.heap.size
 block:∀ k,k≠b->w'.heap[k]?=w.heap[k]?
theorem jF.refl (b:Nat) (w:World):jF b w w:=⟨rfl,rfl,rfl,rfl,fun _ _=>rfl⟩
theorem jF.trans {b:Nat}{w w' w'':World}(h:jF b w w') (k:jF b w' w''):jF b w w'' :=
 ⟨k.os.trans h.os,k.tape.trans h.tape,k.output.trans h.output,k.size.trans h.size,fun i hi=>(k.block i hi).trans (h.block i hi)⟩
theorem jF.drew {b:Nat}{w w':World}(h:jF b w w'):jF b w w'.drew:=⟨h.os,h.tape,h.output,h.size,h.block⟩
theorem jF.drewN {b:Nat}{w w':World}(h:jF b w w') (n:Nat):jF b w (w'.drewN n):=⟨h.os,h.tape,h.output,h.size,h.block⟩
theorem jF.set {b:Nat}{w w':World}(h:jF b w w') (o:Nat) (v:Value):jF b w (w'.setCell ⟨b,o,none⟩ v) :=
 h.trans ⟨rfl,rfl,rfl,by simp [World.setCell],fun k hk=>Below.heap_setCell _ _ _ _ hk⟩
theorem jF.below {b B:Nat}{w w':World}(h:jF b w w') (hB:B<=b):Below B w w' :=
 ⟨h.os,h.tape,h.output,by rw[h.size];exact cb _,fun k hk=>h.block k (by omega)⟩
theorem jF.cell {b:Nat}{w w':World}(h:jF b w w') {p:Addr}(hp:p.block≠b):w'.cell? p=w.cell? p:=cau (w:=w) (h.block p.block hp)
theorem jF.row {b c off:Nat}{xs:List Nat}{w w':World}(h:jF b w w') (hc:c≠b) (hr:Row w c off xs):Row w' c off xs :=
 fun i hi=>(h.cell (p:=⟨c,off+i,none⟩) hc).trans (hr i hi)
theorem yv {B n:Nat}{a w:World}(h:Below B a w):Below B a (w.drewN n):=⟨h.os,h.tape,h.output,h.size,h.block⟩
theorem cdS (w:World) (a b:Nat):(w.drewN a).drewN b=w.drewN (a+b):=World.drewN_drewN ..
theorem drew3 (w:World) (a b c:Nat):((w.drewN a).drewN b).drewN c=w.drewN (a+b+c):=by rw[cdS,cdS,Eg]
theorem Blk.lt {w:World}{b:Nat}{L:List Nat}(h:Blk w b L):b<w.heap.size:=let ⟨_,h⟩:=h;(Array.getElem?_eq_some_iff.1 h).1
theorem Blk.cell {w:World}{b:Nat}{L:List Nat}(h:Blk w b L) (i:Nat) (hi:i<L.length):w.cell? ⟨b,i,none⟩=some (u (L[i]?.getD 0)):=by
 obtain⟨T,h⟩:=h;simp only[World.cell?,h];simp [hi,KC]
theorem Blk.frozen {w:World}{b:Nat}{L:List Nat}(h:Blk w b L) (i:Nat):w.frozen? ⟨b,i,none⟩=false:=by
 obtain⟨T,h⟩:=h;simp only[World.frozen?,h];simp
theorem Blk.set {w:World}{b:Nat}{L:List Nat}(h:Blk w b L) (i v:Nat) (hi:i<L.length):Blk (w.setCell ⟨b,i,none⟩ (u v)) b (L.set i v):=by
 obtain⟨T,h⟩:=h;refine⟨T,?_⟩;simp only[World.setCell,cdn];simp [h,List.map_set,List.set_append_left,hi]
theorem Blk.of_block {w w':World}{b:Nat}{L:List Nat}(h:Blk w b L) (hb:w'.heap[b]?=w.heap[b]?):Blk w' b L:=let ⟨T,h⟩:=h;⟨T,by rw[hb,h]⟩
theorem Blk.drew {w:World}{b:Nat}{L:List Nat}(h:Blk w b L):Blk w.drew b L:=h
theorem Blk.below {w w':World}{b B:Nat}{L:List Nat}(h:Blk w b L) (hb:Below B w w') (hB:b<B):Blk w' b L:=h.of_block (hb.block b hB)
theorem Blk.only {w w':World}{b c:Nat}{L:List Nat}(h:Blk w b L) (hb:jF c w w') (hc:b≠c):Blk w' b L:=h.of_block (hb.block b hc)
theorem Blk.row {w:World}{b:Nat}{L:List Nat}(h:Blk w b L) (off n:Nat) (hn:off+n<=L.length):Row w b off ((L.drop off).take n):=by
 intro i hi;simp only[cU,uK] at hi;rw[h.cell (off+i) (by omega)];congr 2;rw[yB,co (by omega),zq]
theorem Row.below {w w':World}{b off B:Nat}{xs:List Nat}(h:Row w b off xs) (hb:Below B w w') (hB:b<B):Row w' b off xs :=
 fun i hi=>(hb.cell (p:=⟨b,off+i,none⟩) hB).trans (h i hi)
theorem Row.lt {w:World}{b off:Nat}{xs:List Nat}(h:Row w b off xs) (hn:0<xs.length):b<w.heap.size:=jv w _ (h 0 hn)
def ccP (w:World) (v:Value):Prop:=∀ a n c,v=.slice (some a) n c->0<n->∃ cs fr,w.heap[a.block]?=some (.cells cs 31 fr)
theorem ccP.below {w w':World}{B:Nat}{v:Value}(h:ccP w v) (hb:Below B w w') (hB:w.heap.size<=B):ccP w' v:=by
 intro a n c e hn;obtain⟨cs,fr,hc⟩:=h a n c e hn;exact⟨cs,fr,(hb.block a.block (cE (Array.getElem?_eq_some_iff.1 hc).1 hB)).trans hc⟩
structure Sl (w:World) (v:Value) (xs:List Nat):Prop where
 form:∃ ao cap,v=.slice ao xs.length cap/\xs.length<=cap/\cap<=maxLen/\(0<xs.length->∃ b off,ao=some ⟨b,off,none⟩/\Row w b off xs)
 ok:Ok xs
 typ:ccP w v
theorem Sl.below {w w':World}{B:Nat}{v:Value}{xs:List Nat}(h:Sl w v xs) (hb:Below B w w') (hB:w.heap.size<=B):Sl w' v xs:=by
 obtain⟨⟨ao,cap,hv,h1,h2,h3⟩,hok,ht⟩:=h;refine⟨⟨ao,cap,hv,h1,h2,fun hn=>?_⟩,hok,ht.below hb hB⟩;obtain⟨b,off,ha,hr⟩:=h3 hn;exact⟨b,off,ha,hr.below hb (cE (hr.lt hn) hB)⟩
theorem Sl.nil (w:World):Sl w (.slice none 0 0) []:=⟨⟨none,0,rfl,cb _,by unfold maxLen;omega,fun h=>absurd h (by simp)⟩,Ok.nil,fun a n c e _=>by cases e⟩
theorem Blk.new (w:World) (L:List Nat):Blk (w.alloc (.cells (L.map u).toArray 31)) w.heap.size L:=by
 refine⟨[],?_⟩;show (w.heap.push _)[w.heap.size]?=_;simp
theorem Blk.of_owned {w:World}{base n:Nat}{v:Value}{xs:List Nat}(h:w.ownsRow base 31 1 v n (xs.map u)) (hv:v≠.slice none 0 0) :
 ∃ b cap,v=.slice (some ⟨b,0,none⟩) n cap/\base<=b/\Blk w b xs/\xs.length=n/\n<=cap/\cap<=maxLen:=by
 obtain⟨h1,⟨h2,_⟩|⟨g,cap,cur,rfl,hb,hg,hn,hm,hs,ht⟩⟩:=h
 ·exact absurd h2 hv
 ·refine⟨g,cap,rfl,hb,⟨cur.toList.drop (n*1),?_⟩,by simpa using h1,hn,hm⟩;rw[hg,← ht,kj]
theorem Sl.of_blk {w:World}{b:Nat}{L:List Nat}(h:Blk w b L) (ok:Ok L) (off n cap:Nat) (hn:off+n<=L.length) (hc:n<=cap) (hm:cap<=maxLen) :
 Sl w (.slice (some ⟨b,off,none⟩) n cap) ((L.drop off).take n):=by
 have hl:((L.drop off).take n).length=n:=by rw[cU,uK];omega
 refine⟨⟨some ⟨b,off,none⟩,cap,by rw[hl],by rw[hl];exact hc,hm,fun _=>⟨b,off,rfl,h.row off n hn⟩⟩,(ok.drop _).take _,fun a n' c e _=>by
  injection e with e
  injection e with e
  subst e;obtain⟨T,hT⟩:=h;exact⟨_,_,hT⟩⟩
def cw (w:World) (v:Value) (n:Nat):Prop:=∃ xs,Sl w v xs/\ccl xs/\val xs=n
theorem cw.below {w w':World}{B n:Nat}{v:Value}(h:cw w v n) (hb:Below B w w') (hB:w.heap.size<=B):cw w' v n:=by
 obtain⟨xs,h1,h2,h3⟩:=h;exact⟨xs,h1.below hb hB,h2,h3⟩
theorem cw.len {n:Nat}{xs:List Nat}(h2:ccl xs) (h3:val xs=n) {k:Nat}(hk:n<B^k):xs.length<=k:=by
 rcases xs with _|⟨x,xs⟩
 ·simp
 ·have h1:=ur h2 (by simp);rw[h3] at h1;have h4:B^((x::xs).length-1)<B^k:=by omega
  have:=(cbp (show 1<B by decide)).1 h4;simp at this ⊢;omega
def Ue (w:World) (n:Nat) (e:Ending) (w':World):Prop:=∃ v,e=.returned v/\cw w' v n/\Below w.heap.size w w'
def zL (x y:Nat):Nat:=(x+y)%B
def yA (x y:Nat):Nat:=(x+y)/B
def zt (x y:Nat):Nat:=(x+B-y)%B
def Kg (x y:Nat):Nat:=if x<y then 1 else 0
def jR (x y:Nat):Nat:=x*y%B
def uc (x y:Nat):Nat:=x*y/B
theorem ZM (x y:Nat):zL x y+B*yA x y=x+y:=by unfold zL yA;have:=kO (x+y) B;omega
theorem Ux (x y:Nat):zL x y<B:=jY _ ke
theorem cgY {x y:Nat}(hx:x<B) (hy:y<B):yA x y<=1:=by
 unfold yA;have:(x+y)/B<2:=zF (by omega);omega
theorem cfm {x y:Nat}(hx:x<B) (hy:y<B):zt x y+y=x+B*Kg x y:=by
 unfold zt Kg;split
 ·rw[yO (by omega)];omega
 ·rw[show x+B-y=x-y+B from by omega,Nat.add_mod_right,yO (by omega)];omega
theorem YY (x y:Nat):zt x y<B:=jY _ ke
theorem chC (x y:Nat):Kg x y<=1:=by unfold Kg;split<;>omega
theorem cbj (x y:Nat):jR x y+B*uc x y=x*y:=by unfold jR uc;have:=kO (x*y) B;omega
theorem GE (x y:Nat):jR x y<B:=jY _ ke
theorem kn {x:Nat}(h:x<B):IntKind.u64.wrap (x:Int)=(x:Int):=by
 rw[zz];unfold B at h;omega
theorem Kb {x y:Nat}(h:x+y<B):IntKind.u64.wrap ((x:Int)+(y:Int))=((x+y:Nat):Int):=by
 rw[show ((x:Int)+(y:Int))=((x+y:Nat):Int) from by omega,kn h]
theorem ceI {x y z:Nat}(h:x+y+z<B):IntKind.u64.wrap (IntKind.u64.wrap ((x:Int)+(y:Int))+(z:Int))=((x+y+z:Nat):Int):=by
 rw[Kb (x:=x) (y:=y) (by omega),Kb h]
theorem Jj {x y:Nat}(hx:x<B) (h:y<=x):IntKind.u64.wrap ((x:Int)-(y:Int))=((x-y:Nat):Int):=by
 rw[show ((x:Int)-(y:Int))=((x-y:Nat):Int) from by omega,kn (by omega)]
end Go.Proofs.YtgdnkbajagfijaaGreatDoor
