/- Whether a list is a plan, and whether numbers are a block, or the errors, are what the document says. -/
import Derived.Test.YtcgiaclelnmhbabGreatDoorCards
import Derived.Test.YtcgiaclelnmhbabGreatDoorTie
import Derived.ProofKit
import Derived.LaidMore
import Derived.LaidLaws
import Derived.Lib.LaidTab
import Derived.Shelf.Vars
import Derived.Deep.DeepHandedRow
import Derived.Deep.DeepWitnessRowRef
import Derived.Deep.Slices
import Derived.Carry
import Derived.Test.YtcgiaclelnmhbabGreatDoorE33
set_option linter.all false
noncomputable section

namespace Go.Proofs.YtcgiaclelnmhbabGreatDoor
open Go Go.RowKit Go.Proofs Lim
open Go.ChangeShapes Go.WideShapes Go.ChangeAt
theorem own:ownKnob Tryz.prog.godebug=none:=by kernel_rfl
theorem gTab : Tryz.prog.globalNamed "math/bits.deBruijn64tab" = some 2 := by kernel_rfl
theorem tTab:(Tryz.prog.globals[2]?).bind (fun g=>Tryz.prog.underlying g.type)=some (.array 64 5):=by kernel_rfl
theorem cTab:(Tryz.prog.globals[2]?).map (fun g=>Tryz.prog.cellsOf g.type)=some 64:=by kernel_rfl
theorem c8:Tryz.prog.cellsOf 5=1:=by kernel_rfl
theorem cdz {W:World}(h:laidMetH Tryz.prog Rows.crackChecksRow.laid W):∃ ps,DataW.LaidVars Tryz.prog W Rows.crackChecksRow.laid ps:=by
 have h':laidMet Tryz.prog Rows.crackChecksRow.laid W:=h;obtain⟨ps,h1,_⟩:=h';exact⟨ps,h1⟩
set_option maxRecDepth 100000 in
theorem cev {W:World}(h:laidMetH Tryz.prog Rows.crackChecksRow.laid W) (hs:W.ShapedOpen Tryz.prog):Gr W:=by
 obtain⟨ps,⟨g1,t1,cs1,f1,p1,q1,hg1,ht1,hv1,hd1,_⟩⟩:=cdz h;obtain rfl:=Wy (gTab.symm.trans hg1);refine⟨?_,?_⟩
 ·have h0:((begin Tryz.prog (fun _ _=>0) default).world.heap[(2:Nat)]?).bind Obj.row?≠none:=by
   intro h;have:(((begin Tryz.prog (fun _ _=>0) default).world.heap[(2:Nat)]?).bind Obj.row?).isSome=true:=by kernel_rfl
   rw[h] at this;cases this
  cases hh:((begin Tryz.prog (fun _ _=>0) default).world.heap[(2:Nat)]?).bind Obj.row? with
  |none=>exact absurd hh h0
  |some x =>
   obtain⟨cs,hc,_⟩:=hs.1 2 x.1 x.2 (by decide) hh;exact(Array.getElem?_eq_some_iff.1 hc).1
 ·have ht:Tryz.prog.underlying t1=some (.array 64 5):=by
   have:=tTab;cases hx:Tryz.prog.globals[2]? with
   |none=>rw[hx] at ht1;cases ht1
   |some g=>rw[hx] at this ht1;cases ht1;exact this
  have hc:Tryz.prog.cellsOf t1=64:=by
   have:=cTab;cases hx:Tryz.prog.globals[2]? with
   |none=>rw[hx] at ht1;cases ht1
   |some g=>rw[hx] at this ht1;cases ht1;exact Wy this
  have hcs:=Lib.cells_of_tab (zs:=Lib.deBruijn64tab.map Int.ofNat) (k:=.u8) ht Tryz.underlying5 c8 hc hd1;have hv : Lib.TabIs Tryz.prog W "math/bits.deBruijn64tab" .u8 (Lib.deBruijn64tab.map Int.ofNat) := by
   unfold Lib.TabIs;rw[hv1,← hcs]
  intro j hj;have:=hv.cell gTab j (by simpa using hj);rw[this];simp [List.getD,uh,hj]
theorem chL (os:Os) (args:Array Value):laidMetH Tryz.prog Rows.crackChecksRow.laid ((World.doorLaid Tryz.prog 400 os).forCall (fun _ _=>0) ⟨#[],args,[]⟩).memory :=
 laidMet_of_run' 8 (by kernel_rfl) (by kernel_rfl)
open Go.ChangeShapes Go.WideShapes Go.ChangeAt Go.ChangeMaps
namespace Pe
end Pe
open Go.ChangeShapes Go.WideShapes Go.ChangeAt Go.ChangeMaps
namespace Pe
theorem ls_ofH {α:Type}[Inhabited α] {p:α->Prop}{C:α->List Value}{g:α->List (Grp Dx)}{z:Nat}(hz:∀ x,(C x).length=z) (hz0:0<z) (h1:∀ x,p x->∀ v∈C x,v.oneCell'=true) {W:World}(hg:∀ x,p x->GsI W (g x) (C x)) {k off len cap row:Nat}{arr:Array Value}{fr:Nat×Nat}(hk:W.heap[k]?=some (.cells arr row fr)) (ho:off<=arr.size) (hc:len<=cap)
 (h:∀ i,i<len->∃ x:α,p x/\∀ j u,(C x)[j]?=some u->W.cell? ⟨k,off+(i*z+j),none⟩=some u):∃ xs:List α,xs.length=len/\(∀ x∈xs,p x)/\DIs W (.ls (lst 0 row z xs g)) [.slice (some ⟨k,off,none⟩) len cap]:=by
 obtain⟨f,hf⟩:=Deep.choose_lt h;have hgt:∀ i,i<len->∀ j u,(C (f i))[j]?=some u->arr.toList[off+(i*z+j)]?=some u:=fun i hi j u hj=>by
  have:=(hf i hi).2 j u hj;simp only[World.cell?,hk] at this;simpa using this
 have hlen:off+len*z<=arr.toList.length:=by
  rcases jr len with rfl|hp
  ·simpa using ho
  ·have hj:z-1<(C (f (len-1))).length:=by rw[hz];omega
   have:=hgt (len-1) (by omega) (z-1) _ (jl hj);have:=(List.getElem?_eq_some_iff.1 this).1;have e:(len-1)*z+z=len*z:=by rw[← GP,show (len-1).succ=len by omega]
   omega
 have hvs:∀ n,n<len*z->((arr.toList.drop off).take (len*z))[n]?=arr.toList[off+n]?:=fun n hn=>by
  rw[List.getElem?_take_of_lt hn,kJ]
 have hin:∀ j q,j<len->q<z->j*z+q<len*z:=fun j q hj hq=>cT (Nat.add_lt_add_left hq _) (by rw[← GP];exact cK z hj);have hL:(lst 0 row z ((List.range len).map f) g).n=len:=by simp [lst]
 refine⟨(List.range len).map f,by simp,fun x hx=>?_,?_⟩
 ·obtain⟨i,hi,rfl⟩:=List.mem_map.1 hx;exact(hf i (List.mem_range.1 hi)).1
 have:=DIs.ls (w:=W) (L:=lst 0 row z ((List.range len).map f) g) k off cap arr (arr.toList.take off) ((arr.toList.drop off).take (len*z)) ((arr.toList.drop off).drop (len*z)) (by rw[hL];exact hc) ⟨fr,hk⟩
  (by rw[uU,jZ,jZ]) (by rw[ji];omega) (by rw[hL,ji,kL];show _=len*z;omega) (cQ _) ?_ ?_
 ·rw[hL] at this;exact this
 ·intro v hv;obtain⟨n,he⟩:=List.mem_iff_getElem?.1 hv;have hn:=(List.getElem?_eq_some_iff.1 he).1;have hn:n<len*z:=by rw[ji] at hn;omega
  rw[hvs n hn] at he;have hi:n/z<len:=uM (by rw[jf];exact hn);have hj:n%z<(C (f (n/z))).length:=by rw[hz];exact jJ _ hz0
  have:=hgt (n/z) hi (n%z) _ (jl hj);rw[show n/z*z+n%z=n by rw[jf];exact kf n z,he] at this;injection this with this
  rw[this];exact h1 _ (hf _ hi).1 _ (List.getElem_mem _)
 ·intro j hj;rw[hL] at hj;have hx:(lst 0 row z ((List.range len).map f) g).g j=g (f j):=by
   show g (((List.range len).map f).getD j default)=_;rw[uD,uh,List.getElem?_range hj];rfl
  rw[hx];have he:(((arr.toList.drop off).take (len*z)).drop (j*z)).take z=C (f j):=by
   apply yz;intro q;rcases jj q z with hq|hq
   ·rw[List.getElem?_take_of_lt hq,kJ,hvs _ (hin j q hj hq)];have hq':q<(C (f j)).length:=by rw[hz];exact hq
    rw[jl hq'];exact hgt j hj q _ (jl hq')
   ·rw[uC (by rw[ji];omega),uC (by rw[hz];exact hq)]
  show GsI W (g (f j)) ((((arr.toList.drop off).take (len*z)).drop (j*z)).take z);rw[he];exact hg _ (hf j hj).1
theorem ceN {W:World}{a:Addr}{v:Value}(h:W.cell? a=some v):∃ k off arr row fr,a=⟨k,off,none⟩/\W.heap[k]?=some (.cells arr row fr)/\off<arr.size:=by
 obtain⟨k,off,sp⟩:=a;cases sp with
 |some s =>
  simp only[World.cell?] at h;split at h<;>first|cases h|simp at h
 |none =>
  simp only[World.cell?] at h;split at h
  ·rename_i arr row fr hk;exact⟨k,off,arr,row,fr,rfl,hk,(Array.getElem?_eq_some_iff.1 h).1⟩
  ·cases h
section
variable {H:Type}{enc:TypeId×Value->H}{W:World}
set_option maxRecDepth 100000 in
theorem Ww {α:Type}[Inhabited α] {p:α->Prop}{C:α->List Value}{g:α->List (Grp Dx)}{z:Nat}(hz:∀ x,(C x).length=z) (hz0:0<z) (h1:∀ x,p x->∀ v∈C x,v.oneCell'=true) (hg:∀ x,p x->GsI W (g x) (C x)) {t e:TypeId}(hS:Tryz.prog.underlying t=some (.slice e)) (hce:Tryz.prog.cellsOf e=z)
 (step:∀ {n:Nat} {cs:List Value} {x:DataW H×List MemPlace},DataW.trod enc Tryz.prog W 0 (fun _=>true) true n e cs=some x->∃ y:α,p y/\cs=C y)
 {fuel:Nat} {cs:List Value} {x:DataW H×List MemPlace} (h:DataW.trod enc Tryz.prog W 0 (fun _=>true) true fuel t cs=some x):∃ (v:Value) (row:Nat) (xs:List α),cs=[v]/\v.oneCell'=true/\xs.length<=maxLen/\(∀ x∈xs,p x)/\DIs W (.ls (lst 0 row z xs g)) [v]:=by
 rcases Deep.open_slice hS h with⟨h0,_⟩|⟨a,len,cap,m,n,D,Pl,h0,_,hl,hm,hmm,_,hc⟩
 ·exact⟨_,0,[],h0,rfl,cQ _,fun x hx=>by simp at hx,.nil rfl⟩
 ·have hmm:m=cap:=by simpa using hmm
  subst hmm;rcases jr m with rfl|hp
  ·obtain rfl:len=0:=by omega
   exact⟨_,0,[],h0,rfl,cQ _,fun x hx=>by simp at hx,.nil rfl⟩
  ·rw[hce] at hc;obtain⟨cs0,hci0,_⟩:=hc 0 hp;obtain⟨_,hlen0,hcell0⟩:=World.cells?_some hci0;obtain⟨k,off,arr,row,fr,ha,hk,ho⟩:=ceN ((hcell0 0 hz0).trans (jl (by omega:0<cs0.length)));obtain⟨k',off',sp'⟩:=a;simp only[Addr.add,Cg,jz] at ha;injection ha with ha1 ha2 ha3
   have ha3:sp'=none:=ha3;subst ha1;subst ha2;subst ha3;obtain⟨xs,h2,h3,h4⟩:=ls_ofH (p:=p) (C:=C) (g:=g) (cap:=m) hz hz0 h1 hg hk (uK ho) hl (fun i hi=>by
    obtain⟨cs,hci,htr⟩:=hc i (by omega);obtain⟨y,hy,rfl⟩:=step htr;obtain⟨_,_,hcell⟩:=World.cells?_some hci;refine⟨y,hy,fun j v hj=>?_⟩;have hj2:j<z:=by rw[← hz y];exact(List.getElem?_eq_some_iff.1 hj).1
    have:=hcell j hj2;rw[jt,jt] at this;rw[← Ck];rw[this];exact hj)
   exact⟨_,row,xs,h0,rfl,by omega,h3,h4⟩
set_option maxRecDepth 100000 in
theorem slc_one {base:Nat}{t e:TypeId}{v:Value}(hv:Value.okWide Tryz.prog W .any base t v) (hS:Tryz.prog.underlying t=some (.slice e)):v.oneCell'=true:=by
 have hok:Cell.okWide Tryz.prog W .any base t v:=by
  simp only[Value.okWide,hS] at hv;exact hv
 simp only[Cell.okWide,hS] at hok;cases v<;>first|rfl|(simp [Cell.ok] at hok)
theorem trod_of {t:TypeId}{fuel:Nat}{v:Value}{d:DataW H}{pl:List MemPlace}(hc1:v.oneCell'=true) (h:DataW.trod enc Tryz.prog W 0 (fun _=>true) true fuel t v.cells.toList=some (d,pl)):DataW.trod enc Tryz.prog W 0 (fun _=>true) true fuel t [v]=some (d,pl):=by
 cases v<;>first|exact h|cases hc1
end
end Pe
open Go.ChangeShapes Go.WideShapes Go.ChangeAt Go.ChangeMaps
namespace Pe.F
section
variable {H:Type}{enc:TypeId×Value->H}{W:World}{base:Nat}
set_option maxRecDepth 100000 in
theorem chB {sp:Nat->Bool}{held:Bool}{n:Nat}{cs:List Value}{x:DataW H×List MemPlace}(h:DataW.trod enc Tryz.prog W 0 sp held n 65 cs=some x):∃ y:Jb,True/\cs=[ii y.1,ii y.2]:=by
 obtain⟨xs,n,_,rfl,hl,hlen,hf⟩:=cba Tryz.underlying65 h
 match xs,hlen with
 |[x0,x1],_ =>
  obtain⟨i,e0,_⟩:=Ux Tryz.underlying3 (hf 0 _ rfl);obtain⟨j,e1,_⟩:=Ux Tryz.underlying3 (hf 1 _ rfl);have hl:cs.length=2:=hl.trans (by kernel_rfl)
  match cs,hl with
  |[c0,c1],_ =>
   have e0:[c0]=[ii i]:=e0;have e1:[c1]=[ii j]:=e1;injection e0 with e0
   injection e1 with e1
   exact⟨(i,j),trivial,by rw[e0,e1]⟩
set_option maxRecDepth 100000 in
theorem ciV {sp:Nat->Bool}{held:Bool}{n:Nat}{cs:List Value}{x:DataW H×List MemPlace}(h:DataW.trod enc Tryz.prog W 0 sp held n 69 cs=some x):∃ y:Jb,True/\cs=[ii y.1,ii y.2]:=by
 obtain⟨xs,n,_,rfl,hl,hlen,hf⟩:=cba Tryz.underlying69 h
 match xs,hlen with
 |[x0,x1],_ =>
  obtain⟨i,e0,_⟩:=Ux Tryz.underlying3 (hf 0 _ rfl);obtain⟨j,e1,_⟩:=Ux Tryz.underlying3 (hf 1 _ rfl);have hl:cs.length=2:=hl.trans (by kernel_rfl)
  match cs,hl with
  |[c0,c1],_ =>
   have e0:[c0]=[ii i]:=e0;have e1:[c1]=[ii j]:=e1;injection e0 with e0
   injection e1 with e1
   exact⟨(i,j),trivial,by rw[e0,e1]⟩
set_option maxRecDepth 100000 in
theorem open_jobs {fuel:Nat}{cs:List Value}{x:DataW H×List MemPlace}(h:DataW.trod enc Tryz.prog W 0 (fun _=>true) true fuel 22 cs=some x):∃ (v:Value) (row:Nat) (xs:List Jb),cs=[v]/\v.oneCell'=true/\DIs W (.ls (lst 0 row 2 xs fJ)) [v]:=by
 obtain⟨v,row,xs,h1,h2,_,_,h5⟩:=Ww (α:=Jb) (p:=fun _=>True) (C:=fun y=>[ii y.1,ii y.2]) (g:=fJ) (z:=2) (fun _=>rfl) (by decide) (fun x _ v hv=>by simp at hv;rcases hv with rfl|rfl<;>rfl) (fun _ _=>.lit (.lit .nil)) Tryz.underlying22 (by kernel_rfl) chB h;exact⟨v,row,xs,h1,h2,h5⟩
set_option maxRecDepth 100000 in
theorem chm {fuel:Nat}{cs:List Value}{x:DataW H×List MemPlace}(h:DataW.trod enc Tryz.prog W 0 (fun _=>true) true fuel 24 cs=some x):∃ (v:Value) (row:Nat) (xs:List Jb),cs=[v]/\v.oneCell'=true/\DIs W (.ls (lst 0 row 2 xs fVs)) [v]:=by
 obtain⟨v,row,xs,h1,h2,_,_,h5⟩:=Ww (α:=Jb) (p:=fun _=>True) (C:=fun y=>[ii y.1,ii y.2]) (g:=fVs) (z:=2) (fun _=>rfl) (by decide) (fun x _ v hv=>by simp at hv;rcases hv with rfl|rfl<;>rfl) (fun _ _=>.lit (.lit .nil)) Tryz.underlying24 (by kernel_rfl) ciV h;exact⟨v,row,xs,h1,h2,h5⟩
set_option maxRecDepth 100000 in
theorem Zk {fuel:Nat}{cs:List Value}{x:DataW H×List MemPlace}(h:DataW.trod enc Tryz.prog W 0 (fun _=>true) true fuel 25 cs=some x):∃ (v:Value) (row:Nat) (xs:List Int),cs=[v]/\v.oneCell'=true/\DIs W (.ls (lst 0 row 1 xs fz)) [v]:=by
 obtain⟨v,row,xs,h1,h2,_,_,h5⟩:=Ww (α:=Int) (p:=fun _=>True) (C:=fun y=>[ii y]) (g:=fz) (z:=1) (fun _=>rfl) (by decide) (fun x _ v hv=>by simp at hv;rw[hv];rfl) (fun _ _=>.lit .nil) Tryz.underlying25 (by kernel_rfl) (fun h=>by
  obtain⟨i,e0,_⟩:=Ux Tryz.underlying3 h;exact⟨i,trivial,e0⟩) h
 exact⟨v,row,xs,h1,h2,h5⟩
abbrev Tv:=Value×Tm
def okTv (W:World) (y:Tv):Prop:=y.1.oneCell'=true/\y.2.1.1<=255/\DIs W (.ls (lst 0 y.2.1.2 1 y.2.2 fz)) [y.1]
abbrev cTv (y:Tv):List Value:=[.int .u8 (.ofNat y.2.1.1),y.1]
set_option maxRecDepth 100000 in
theorem cgJ {n:Nat}{cs:List Value}{x:DataW H×List MemPlace}(h:DataW.trod enc Tryz.prog W 0 (fun _=>true) true n 30 cs=some x):∃ y:Tv,okTv W y/\cs=cTv y:=by
 obtain⟨xs,n,_,rfl,hl,hlen,hf⟩:=cba Tryz.underlying30 h
 match xs,hlen with
 |[x0,x1],_ =>
  obtain⟨j,e0,_,w1⟩:=Ux Tryz.underlying5 (hf 0 _ rfl);have w1:(decide ((0:Int)<=j)&&decide (j<=255))=true:=w1;simp only[GA,Kt] at w1;obtain⟨v,row,xs,e1,h1,h3⟩:=Zk (hf 1 _ rfl);have hl:cs.length=2:=hl.trans (by kernel_rfl)
  match cs,hl with
  |[c0,c1],_ =>
   have e0:[c0]=[Value.int .u8 j]:=e0;have e1:[c1]=[v]:=e1;injection e0 with e0
   injection e1 with e1
   exact⟨(v,(j.toNat,row),xs),⟨h1,by show j.toNat<=255;omega,h3⟩,by rw[e0,e1,show cTv (v,(j.toNat,row),xs)=[.int .u8 (.ofNat j.toNat),v] from rfl,show Int.ofNat j.toNat=j from Ev w1.1]⟩
set_option maxRecDepth 100000 in
theorem open_teams {fuel:Nat}{cs:List Value}{x:DataW H×List MemPlace}(h:DataW.trod enc Tryz.prog W 0 (fun _=>true) true fuel 23 cs=some x):∃ (v:Value) (row:Nat) (T:List Tm),cs=[v]/\v.oneCell'=true/\Sk8 T/\DIs W (.ls (lst 0 row 2 T (fTm (0,true)))) [v]:=by
 obtain⟨v,row,xs,h1,h2,_,h4,h5⟩:=Ww (α:=Tv) (p:=okTv W) (C:=cTv) (g:=fun y=>fTm (0,true) y.2) (z:=2) (fun _=>rfl) (by decide) (fun x hx v hv=>by simp at hv;rcases hv with rfl|rfl;rfl;exact hx.1) (fun y hy=>.lit (.cls (us:=[y.1]) hy.2.2 .nil)) Tryz.underlying23 (by kernel_rfl) cgJ h;refine⟨v,row,xs.map (·.2),h1,h2,fun i hi=>?_,?_⟩
 ·rw[CC] at hi;rw[uD,uh,jl hi];exact(h4 _ (List.getElem_mem hi)).2.1
 ·exact sub_map (b:=false) (lo:=0) (w0:=W) (f:=fun y:Tv=>fTm (0,true) y.2) (f':=fTm (0,true)) (h:=fun y:Tv=>y.2) (fun _=>rfl) W _ h5
set_option maxRecDepth 100000 in
theorem open_given {v:Value}{d:DataW H}{p:List MemPlace}(hv:Value.okWide Tryz.prog W .any base 27 v) (hT:DataW.Trod enc Tryz.prog W 0 (fun _=>true) true 27 v d p):∃ (r3 r4:Nat) (V:List Vs) (B:List Int),Pat.is (W0 W) W (pGv (0,r3) (0,r4) V B) v:=by
 simp only[Value.okWide,Tryz.underlying27] at hv;obtain⟨cs,rfl,hsz,ts,hts,_,hrow⟩:=hv;obtain⟨fuel,hf⟩:=hT;have h:DataW.trod enc Tryz.prog W 0 (fun _=>true) true fuel 27 cs.toList=some (d,p):=hf;obtain⟨xs,n,_,_,hl,hlen,hf⟩:=cba Tryz.underlying27 h
 match xs,hlen with
 |[x0,x1],_ =>
  obtain⟨v0,r3,V,e0,_,g0⟩:=chm (hf 0 _ rfl);obtain⟨v1,r4,B,e1,_,g1⟩:=Zk (hf 1 _ rfl);have hl:cs.toList.length=2:=hl.trans (by kernel_rfl);refine⟨r3,r4,V,B,cs.toList,?_,rfl⟩;generalize cs.toList=us at hl e0 e1
  match us,hl with
  |[c0,c1],_ =>
   have e0:[c0]=[v0]:=e0;have e1:[c1]=[v1]:=e1;injection e0 with e0
   injection e1 with e1
   rw[e0,e1];exact Ew (.cls (us:=[v0]) g0 (.cls (us:=[v1]) g1 .nil))
end
end Pe.F
open Go.ChangeShapes Go.WideShapes Go.ChangeAt Go.ChangeMaps
theorem caT:laidOutB Tryz.prog=true:=by kernel_rfl
open Go.ChangeShapes Go.WideShapes Go.ChangeAt Go.ChangeMaps
namespace lawCrackChecks
set_option maxRecDepth 100000 in
theorem cie (H:Type) (enc:TypeId×Value->H) (W:World) (base:Nat) (args:Array Value) (ds gs:List (DataW H)) (before:List MemPlace)
 (hval:∀ (j:Nat) t v,Tryz.f3.params[j]?=some t->args[j]?=some v->Value.okWide Tryz.prog W .any base t v)
 (hW:DataW.Whole enc Tryz.prog Tryz.f3.params.toList Rows.crackChecksSpec.vars false W args.toList ds gs before) (hG:Gr W) :
 Calls Tryz.prog 3 args W fun e W'=>∃ v,e=.returned v/\Rows.crackChecksSpec.post enc Tryz.prog Tryz.f3 false true false false W args v W':=by
 have hW':=hW;obtain⟨p,q,hA0,hV,rfl,hfz,hnd⟩:=hW;have hA:DataW.TrodAll enc Tryz.prog W 0 (fun _=>true) true Tryz.f3.params.toList args.toList ds p:=hA0;rw[Tryz.params3] at hA hval;obtain⟨v0,vs0,d0,ds0,p0,q0,hargs0,rfl,rfl,h0,r0⟩:=trodAll_cons hA;obtain⟨v1,vs1,d1,ds1,p1,q1,hargs1,rfl,rfl,h1,r1⟩:=trodAll_cons r0;obtain⟨v2,vs2,d2,ds2,p2,q2,hargs2,rfl,rfl,h2,r2⟩:=trodAll_cons r1;obtain⟨rfl,rfl,rfl⟩:=trodAll_nil r2;obtain rfl:args=#[v0,v1,v2]:=by cases args;simp_all
 obtain⟨rfl,rfl⟩:=trodVars_none hV;have hlt0:∀ x∈p0,x.block<W.heap.size:=fun x hx=>by simpa using hW'.lt x (by simp [hx])
 have hlt1:∀ x∈p1,x.block<W.heap.size:=fun x hx=>by simpa using hW'.lt x (by simp [hx])
 have hlt2:∀ x∈p2,x.block<W.heap.size:=fun x hx=>by simpa using hW'.lt x (by simp [hx])
 obtain⟨f0,hf0⟩:=h0;obtain⟨f1,hf1⟩:=h1;have hc0:v0.oneCell'=true:=Pe.slc_one (hval 0 22 v0 rfl rfl) Tryz.underlying22;have hc1:v1.oneCell'=true:=Pe.slc_one (hval 1 23 v1 rfl rfl) Tryz.underlying23;obtain⟨u0,q0,J,e0,_,hp0⟩:=Pe.F.open_jobs (Pe.trod_of hc0 hf0);obtain⟨u1,q1,T,e1,_,hk,hp1⟩:=Pe.F.open_teams (Pe.trod_of hc1 hf1);injection e0 with e0
 injection e1 with e1
 subst e0;subst e1;have h0:DataW.Trod enc Tryz.prog W 0 (fun _=>true) true 22 v0 d0 p0:=⟨f0,hf0⟩;have h1:DataW.Trod enc Tryz.prog W 0 (fun _=>true) true 23 v1 d1 p1:=⟨f1,hf1⟩;obtain⟨r3,r4,V,B,hp2⟩:=Pe.F.open_given (hval 2 27 v2 rfl rfl) h2;clear hA0;have walk:=(Pe.F.lw_ok Pe.no_name (0,q0) (0,q1) (0,true) (0,r3) (0,r4) J T V B hk W [v0,v1,v2] hG ⟨v0,_,rfl,hp0,v1,_,rfl,hp1,v2,_,rfl,hp2,rfl⟩).2;refine walk.mono fun e W' ⟨v,he,hb,hr⟩=>?_;subst he;have hv:[v]=[Value.bool true]:=hr (fun _=>False) (fun _ h=>h.elim) W' (cb _) (fun _ _ _=>rfl);injection hv with hv _
 subst hv;refine⟨_,rfl,_,_,_,[],p0++(p1++(p2++[])),[],hW',?_,?_,?_,hb.frame _,fun h=>by cases h⟩
 ·exact caM (shut_bool Tryz.underlying4 _) trodAll_mk0
 ·exact caM (Below.trod caT (by kernel_rfl) (cH (by kernel_rfl)) h0 hb hlt0) (caM (Below.trod caT (by kernel_rfl) (cH (by kernel_rfl)) h1 hb hlt1) (caM (Below.trod caT (by kernel_rfl) (cH (by kernel_rfl)) h2 hb hlt2) trodAll_mk0))
 ·trivial
theorem reads (os:Os) {H:Type}(enc:TypeId×Value->H):∃ places,DataW.whole enc Tryz.prog ((World.doorLaid Tryz.prog 400 os).forCall (fun _ _=>0) ⟨#[],#[.slice none 0 0,.slice none 0 0,.agg #[.slice none 0 0,.slice none 0 0]],[]⟩).memory Tryz.f3.params.toList Rows.crackChecksSpec.vars false #[Value.slice none 0 0,.slice none 0 0,.agg #[.slice none 0 0,.slice none 0 0]].toList 8=some ([.nil,.nil,.agg [.nil,.nil]],[],places) :=
 ⟨[],by kernel_rfl⟩
set_option maxRecDepth 100000 in
theorem lifted (os:Os) (started:os.Started) (H:Type) (enc:TypeId×Value->H) (F:Stop.Interp) :
 ReturnsInHanded {} Tryz.checked os 3 .any ((OpenSpec.ofChange Rows.crackChecksSpec).preRow enc Tryz.prog Tryz.f3 Rows.crackChecksRow.domain false Rows.crackChecksRow.laid) (((OpenSpec.ofChange Rows.crackChecksSpec).at F).post enc Tryz.prog Tryz.f3 false true false false):=by
 obtain⟨places,hx⟩:=reads os enc;refine returnsInHanded_of_row (C:=Tryz.checked) (s:=OpenSpec.ofChange Rows.crackChecksSpec) own started (by kernel_rfl) Tryz.func3
  (witness_row_atRef (enc:=enc) (C:=Tryz.checked) false (World.doorLaid Tryz.prog 400 os) #[Value.slice none 0 0,.slice none 0 0,.agg #[.slice none 0 0,.slice none 0 0]] rfl (by kernel_rfl) (by kernel_rfl) (by kernel_rfl)
   (OpenSpec.preRow_of_cond 8 hx (by kernel_rfl) (fun k hk=>by cases hk) (by kernel_rfl) (chL os _))) ?_
 intro W base args ds gs before hval hW _ _ _ hL hS _;exact cie H enc W base args ds gs before hval hW (cev hL hS)
theorem said:Rows.CrackChecksSaid :=
 OpenClaim.holds_of_cond 3 Tryz.f3 rfl rfl rfl rfl rfl rfl rfl ⟨rfl,rfl,rfl,rfl,rfl⟩ rfl rfl rfl rfl rfl (by kernel_rfl) Tryz.func3 (by kernel_rfl)
  (cH (by kernel_rfl)) (by unfold Func.isWrapper;first|(rw[cq (by decide+kernel)];kernel_rfl)|(rw[cf (by decide+kernel)];exact⟨rfl,rfl⟩))
  (fun os started H enc _ F=>by rw[OpenClaim.pre_eq_preRow];exact lifted os started H enc F)
theorem plain (f : FuncId) (fn : Func) (hf : Tryz.pinned.checked.prog.funcNamed "voussoir/voussoirlaw07.CrackChecks" = some f) (hfn : Tryz.pinned.checked.prog.funcs[f]? = some fn) :
 false=Tryz.pinned.checked.prog.looks []/\∀ (j:Nat) t,fn.params[j]?=some t->Tryz.pinned.checked.prog.wantsStandIn t=false:=by
 obtain rfl : f = 3 := Wy ((show Tryz.prog.funcNamed "voussoir/voussoirlaw07.CrackChecks" = some 3 by kernel_rfl).symm.trans hf) |>.symm;obtain rfl:fn=Tryz.f3:=(Wy (Tryz.func3.symm.trans hfn)).symm;refine⟨by kernel_rfl,fun j t ht=>?_⟩;rw[Tryz.params3] at ht;have hm:t∈[22,23,27]:=by simpa using Array.mem_of_getElem? ht
 have hall:([22,23,27].all fun u=>!Tryz.prog.wantsStandIn u)=true:=by kernel_rfl
 exact(show Tryz.prog.wantsStandIn t=false by simpa using List.all_eq_true.1 hall t hm)
theorem card:Rows.CrackChecksCardSaid :=
 Claim7.holds_tied_plain_at .later [] _ _ _ _ said (fun _ h=>by cases h) (by kernel_rfl) (fun _ h=>by cases h) crackChecks_row_tie rfl ⟨rfl,rfl⟩ (by kernel_rfl) rfl plain (by kernel_rfl)
end lawCrackChecks
end Go.Proofs.YtcgiaclelnmhbabGreatDoor
