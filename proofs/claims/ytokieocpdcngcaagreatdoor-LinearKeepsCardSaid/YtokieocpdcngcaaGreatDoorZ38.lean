/- Of all rows and points that LinearKeeps is given, the law returns true: the statement LinearKeepsCardSaid, with no condition beyond it. -/
import Derived.Test.YtokieocpdcngcaaGreatDoorCards
import Derived.Test.YtokieocpdcngcaaGreatDoorTie
import Derived.ProofKit
import Derived.OpenShut
import Derived.LaidMore
import Derived.LaidLaws
import Derived.Lib.LaidTab
import Derived.Shelf.Vars
import Derived.Deep.DeepHandedRow
import Derived.Deep.DeepWitnessRowRef
import Derived.Deep.Slices
import Derived.Carry
import Derived.Test.YtokieocpdcngcaaGreatDoorZ37
set_option linter.all false
open Bool (and_eq_true)
open List (append_assoc length_drop length_take take_append_drop)
open Nat (add_assoc add_zero div_add_mod div_lt_of_lt_mul eq_zero_or_pos le_of_lt le_refl le_trans lt_of_lt_of_le lt_or_ge mod_lt mul_comm mul_le_mul_right zero_le)
noncomputable section

namespace Go.Proofs.YtokieocpdcngcaaGreatDoor
open Go Go.RowKit Go.Proofs Lim
open Go.ChangeShapes Go.WideShapes Go.ChangeAt
theorem own:ownKnob Tryz.prog.godebug=none:=by kernel_rfl
theorem gTab : Tryz.prog.globalNamed "math/bits.deBruijn64tab" = some 2 := by kernel_rfl
theorem tTab:(Tryz.prog.globals[2]?).bind (fun g=>Tryz.prog.underlying g.type)=some (.array 64 5):=by kernel_rfl
theorem cTab:(Tryz.prog.globals[2]?).map (fun g=>Tryz.prog.cellsOf g.type)=some 64:=by kernel_rfl
theorem c8:Tryz.prog.cellsOf 5=1:=by kernel_rfl
theorem ccU {W:World}(h:laidMetH Tryz.prog Rows.linearKeepsRow.laid W):∃ ps,DataW.LaidVars Tryz.prog W Rows.linearKeepsRow.laid ps:=by
 have h':laidMet Tryz.prog Rows.linearKeepsRow.laid W:=h;obtain⟨ps,h1,_⟩:=h';exact⟨ps,h1⟩
set_option maxRecDepth 100000 in
theorem cdn {W:World}(h:laidMetH Tryz.prog Rows.linearKeepsRow.laid W) (hs:W.ShapedOpen Tryz.prog):Gr W:=by
 obtain⟨ps,⟨g1,t1,cs1,f1,p1,q1,hg1,ht1,hv1,hd1,_⟩⟩:=ccU h;obtain rfl:=Option.some.inj (gTab.symm.trans hg1);refine⟨?_,?_⟩
 ·have h0:((begin Tryz.prog (fun _ _=>0) default).world.heap[(2:Nat)]?).bind Obj.row?≠none:=by
   intro h;have:(((begin Tryz.prog (fun _ _=>0) default).world.heap[(2:Nat)]?).bind Obj.row?).isSome=true:=by kernel_rfl
   rw[h] at this;cases this
  cases hh:((begin Tryz.prog (fun _ _=>0) default).world.heap[(2:Nat)]?).bind Obj.row? with
  |none=>exact absurd hh h0
  |some x =>
   obtain⟨cs,hc,_⟩:=hs.1 2 x.1 x.2 (by decide) hh;exact(Array.getElem?_eq_some_iff.1 hc).1
 ·have ht:Tryz.prog.underlying t1=some (.array 64 5):=by
   have:=tTab;cases hx:Tryz.prog.globals[2]? with
   |none=>rw[hx] at ht1;cases ht1
   |some g=>rw[hx] at this ht1;cases ht1;exact this
  have hc:Tryz.prog.cellsOf t1=64:=by
   have:=cTab;cases hx:Tryz.prog.globals[2]? with
   |none=>rw[hx] at ht1;cases ht1
   |some g=>rw[hx] at this ht1;cases ht1;exact Option.some.inj this
  have hcs:=Lib.cells_of_tab (zs:=Lib.deBruijn64tab.map Int.ofNat) (k:=.u8) ht Tryz.underlying5 c8 hc hd1;have hv : Lib.TabIs Tryz.prog W "math/bits.deBruijn64tab" .u8 (Lib.deBruijn64tab.map Int.ofNat) := by
   unfold Lib.TabIs;rw[hv1,← hcs]
  intro j hj;have:=hv.cell gTab j (by simpa using hj);rw[this];simp [List.getD,List.getElem?_map,hj]
theorem chj (os:Os) (args:Array Value):laidMetH Tryz.prog Rows.linearKeepsRow.laid ((World.doorLaid Tryz.prog 400 os).forCall (fun _ _=>0) ⟨#[],args,[]⟩).memory :=
 laidMet_of_run' 8 (by kernel_rfl) (by kernel_rfl)
open Go.ChangeShapes Go.WideShapes Go.ChangeAt Go.ChangeMaps
namespace Pe
section
variable {H:Type}{enc:TypeId×Value->H}{W:World}{base:Nat}
end
end Pe
open Go.ChangeShapes Go.WideShapes Go.ChangeAt Go.ChangeMaps
namespace Pe
theorem ls_ofH {α:Type}[Inhabited α] {p:α->Prop}{C:α->List Value}{g:α->List (Grp Dx)}{z:Nat}(hz:∀ x,(C x).length=z) (hz0:0<z) (h1:∀ x,p x->∀ v∈C x,v.oneCell'=true) {W:World}(hg:∀ x,p x->GsI W (g x) (C x)) {k off len cap row:Nat}{arr:Array Value}{fr:Nat×Nat}(hk:W.heap[k]?=some (.cells arr row fr)) (ho:off<=arr.size) (hc:len<=cap)
 (h:∀ i,i<len->∃ x:α,p x/\∀ j u,(C x)[j]?=some u->W.cell? ⟨k,off+(i*z+j),none⟩=some u):∃ xs:List α,xs.length=len/\(∀ x∈xs,p x)/\DIs W (.ls (lst 0 row z xs g)) [.slice (some ⟨k,off,none⟩) len cap]:=by
 obtain⟨f,hf⟩:=Deep.choose_lt h;have hgt:∀ i,i<len->∀ j u,(C (f i))[j]?=some u->arr.toList[off+(i*z+j)]?=some u:=fun i hi j u hj=>by
  have:=(hf i hi).2 j u hj;simp only[World.cell?,hk] at this;simpa using this
 have hlen:off+len*z<=arr.toList.length:=by
  rcases eq_zero_or_pos len with rfl|hp
  ·simpa using ho
  ·have hj:z-1<(C (f (len-1))).length:=by rw[hz];omega
   have:=hgt (len-1) (by omega) (z-1) _ (List.getElem?_eq_getElem hj);have:=(List.getElem?_eq_some_iff.1 this).1;have e:(len-1)*z+z=len*z:=by rw[← Nat.succ_mul,show (len-1).succ=len by omega]
   omega
 have hvs:∀ n,n<len*z->((arr.toList.drop off).take (len*z))[n]?=arr.toList[off+n]?:=fun n hn=>by
  rw[List.getElem?_take_of_lt hn,List.getElem?_drop]
 have hin:∀ j q,j<len->q<z->j*z+q<len*z:=fun j q hj hq=>lt_of_lt_of_le (Nat.add_lt_add_left hq _) (by rw[← Nat.succ_mul];exact mul_le_mul_right z hj);have hL:(lst 0 row z ((List.range len).map f) g).n=len:=by simp [lst]
 refine⟨(List.range len).map f,by simp,fun x hx=>?_,?_⟩
 ·obtain⟨i,hi,rfl⟩:=List.mem_map.1 hx;exact(hf i (List.mem_range.1 hi)).1
 have:=DIs.ls (w:=W) (L:=lst 0 row z ((List.range len).map f) g) k off cap arr (arr.toList.take off) ((arr.toList.drop off).take (len*z)) ((arr.toList.drop off).drop (len*z)) (by rw[hL];exact hc) ⟨fr,hk⟩
  (by rw[append_assoc,take_append_drop,take_append_drop]) (by rw[length_take];omega) (by rw[hL,length_take,length_drop];show _=len*z;omega) (zero_le _) ?_ ?_
 ·rw[hL] at this;exact this
 ·intro v hv;obtain⟨n,he⟩:=List.mem_iff_getElem?.1 hv;have hn:=(List.getElem?_eq_some_iff.1 he).1;have hn:n<len*z:=by rw[length_take] at hn;omega
  rw[hvs n hn] at he;have hi:n/z<len:=div_lt_of_lt_mul (by rw[mul_comm];exact hn);have hj:n%z<(C (f (n/z))).length:=by rw[hz];exact mod_lt _ hz0
  have:=hgt (n/z) hi (n%z) _ (List.getElem?_eq_getElem hj);rw[show n/z*z+n%z=n by rw[mul_comm];exact div_add_mod n z,he] at this;injection this with this
  rw[this];exact h1 _ (hf _ hi).1 _ (List.getElem_mem _)
 ·intro j hj;rw[hL] at hj;have hx:(lst 0 row z ((List.range len).map f) g).g j=g (f j):=by
   show g (((List.range len).map f).getD j default)=_;rw[List.getD_eq_getElem?_getD,List.getElem?_map,List.getElem?_range hj];rfl
  rw[hx];have he:(((arr.toList.drop off).take (len*z)).drop (j*z)).take z=C (f j):=by
   apply List.ext_getElem?;intro q;rcases lt_or_ge q z with hq|hq
   ·rw[List.getElem?_take_of_lt hq,List.getElem?_drop,hvs _ (hin j q hj hq)];have hq':q<(C (f j)).length:=by rw[hz];exact hq
    rw[List.getElem?_eq_getElem hq'];exact hgt j hj q _ (List.getElem?_eq_getElem hq')
   ·rw[List.getElem?_eq_none (by rw[length_take];omega),List.getElem?_eq_none (by rw[hz];exact hq)]
  show GsI W (g (f j)) ((((arr.toList.drop off).take (len*z)).drop (j*z)).take z);rw[he];exact hg _ (hf j hj).1
theorem ccN {W:World}{a:Addr}{v:Value}(h:W.cell? a=some v):∃ k off arr row fr,a=⟨k,off,none⟩/\W.heap[k]?=some (.cells arr row fr)/\off<arr.size:=by
 obtain⟨k,off,sp⟩:=a;cases sp with
 |some s =>
  simp only[World.cell?] at h;split at h<;>first|cases h|simp at h
 |none =>
  simp only[World.cell?] at h;split at h
  ·rename_i arr row fr hk;exact⟨k,off,arr,row,fr,rfl,hk,(Array.getElem?_eq_some_iff.1 h).1⟩
  ·cases h
section
variable {H:Type}{enc:TypeId×Value->H}{W:World}
set_option maxRecDepth 100000 in
theorem ceM {α:Type}[Inhabited α] {p:α->Prop}{C:α->List Value}{g:α->List (Grp Dx)}{z:Nat}(hz:∀ x,(C x).length=z) (hz0:0<z) (h1:∀ x,p x->∀ v∈C x,v.oneCell'=true) (hg:∀ x,p x->GsI W (g x) (C x)) {t e:TypeId}(hS:Tryz.prog.underlying t=some (.slice e)) (hce:Tryz.prog.cellsOf e=z)
 (step:∀ {n:Nat} {cs:List Value} {x:DataW H×List MemPlace},DataW.trod enc Tryz.prog W 0 (fun _=>true) true n e cs=some x->∃ y:α,p y/\cs=C y)
 {fuel:Nat} {cs:List Value} {x:DataW H×List MemPlace} (h:DataW.trod enc Tryz.prog W 0 (fun _=>true) true fuel t cs=some x):∃ (v:Value) (row:Nat) (xs:List α),cs=[v]/\v.oneCell'=true/\xs.length<=maxLen/\(∀ x∈xs,p x)/\DIs W (.ls (lst 0 row z xs g)) [v]:=by
 rcases Deep.open_slice hS h with⟨h0,_⟩|⟨a,len,cap,m,n,D,Pl,h0,_,hl,hm,hmm,_,hc⟩
 ·exact⟨_,0,[],h0,rfl,zero_le _,fun x hx=>by simp at hx,.nil rfl⟩
 ·have hmm:m=cap:=by simpa using hmm
  subst hmm;rcases eq_zero_or_pos m with rfl|hp
  ·obtain rfl:len=0:=by omega
   exact⟨_,0,[],h0,rfl,zero_le _,fun x hx=>by simp at hx,.nil rfl⟩
  ·rw[hce] at hc;obtain⟨cs0,hci0,_⟩:=hc 0 hp;obtain⟨_,hlen0,hcell0⟩:=World.cells?_some hci0;obtain⟨k,off,arr,row,fr,ha,hk,ho⟩:=ccN ((hcell0 0 hz0).trans (List.getElem?_eq_getElem (by omega:0<cs0.length)));obtain⟨k',off',sp'⟩:=a;simp only[Addr.add,Nat.zero_mul,add_zero] at ha;injection ha with ha1 ha2 ha3
   have ha3:sp'=none:=ha3;subst ha1;subst ha2;subst ha3;obtain⟨xs,h2,h3,h4⟩:=ls_ofH (p:=p) (C:=C) (g:=g) (cap:=m) hz hz0 h1 hg hk (le_of_lt ho) hl (fun i hi=>by
    obtain⟨cs,hci,htr⟩:=hc i (by omega);obtain⟨y,hy,rfl⟩:=step htr;obtain⟨_,_,hcell⟩:=World.cells?_some hci;refine⟨y,hy,fun j v hj=>?_⟩;have hj2:j<z:=by rw[← hz y];exact(List.getElem?_eq_some_iff.1 hj).1
    have:=hcell j hj2;rw[cY,cY] at this;rw[← add_assoc];rw[this];exact hj)
   exact⟨_,row,xs,h0,rfl,by omega,h3,h4⟩
abbrev cX (y:Rt):List Value:=[.int .i32 y.1,.int .u8 (.ofNat y.2)]
set_option maxRecDepth 100000 in
theorem Yr {sp:Nat->Bool}{held:Bool}{n:Nat}{cs:List Value}{x:DataW H×List MemPlace}(h:DataW.trod enc Tryz.prog W 0 sp held n 43 cs=some x):∃ y:Rt,okR y=true/\cs=cX y:=by
 obtain⟨xs,n,_,rfl,hl,hlen,hf⟩:=DataW.trod_struct Tryz.underlying43 h
 match xs,hlen with
 |[x0,x1],_ =>
  have f0:=hf 0 _ rfl;have f1:=hf 1 _ rfl;obtain⟨i,e0,_,w0⟩:=DataW.trod_int Tryz.underlying21 f0;obtain⟨j,e1,_,w1⟩:=DataW.trod_int Tryz.underlying5 f1;have w0:(decide ((-2147483648:Int)<=i)&&decide (i<=2147483647))=true:=w0;have w1:(decide ((0:Int)<=j)&&decide (j<=255))=true:=w1;simp only[and_eq_true,decide_eq_true_eq] at w0 w1;have hl:cs.length=2:=hl.trans (by kernel_rfl)
  match cs,hl with
  |[c0,c1],_ =>
   have e0:[c0]=[Value.int .i32 i]:=e0;have e1:[c1]=[Value.int .u8 j]:=e1;injection e0 with e0
   injection e1 with e1
   refine⟨(i,j.toNat),decide_eq_true ⟨w0.1,w0.2,by show j.toNat<=255;omega⟩,?_⟩;rw[e0,e1,show cX (i,j.toNat)=[.int .i32 i,.int .u8 (.ofNat j.toNat)] from rfl,show Int.ofNat j.toNat=j from Int.toNat_of_nonneg w1.1]
theorem all_of {α:Type}{p:α->Bool}{xs:List α}(h:∀ x∈xs,p x=true):xs.all p=true:=List.all_eq_true.2 h
set_option maxRecDepth 100000 in
theorem open_ratios {fuel:Nat}{cs:List Value}{x:DataW H×List MemPlace}(h:DataW.trod enc Tryz.prog W 0 (fun _=>true) true fuel 23 cs=some x):∃ (v:Value) (row:Nat) (xs:List Rt),cs=[v]/\v.oneCell'=true/\xs.length<=maxLen/\okZ xs=true/\DIs W (.ls (lst 0 row 2 xs fX)) [v]:=by
 obtain⟨v,row,xs,h1,h2,h3,h4,h5⟩:=ceM (α:=Rt) (p:=fun y=>okR y=true) (C:=cX) (g:=fX) (z:=2) (fun _=>rfl) (by decide) (fun x _ v hv=>by simp at hv;rcases hv with rfl|rfl<;>rfl) (fun _ _=>.lit (.lit .nil)) Tryz.underlying23 (by kernel_rfl) Yr h;exact⟨v,row,xs,h1,h2,h3,all_of h4,h5⟩
abbrev Lv:=Value×Ln
def okL2 (W:World) (y:Lv):Prop:=y.1.oneCell'=true/\okN y.2=true/\DIs W (.ls (lst 0 y.2.1 2 y.2.2.1 fX)) [y.1]
abbrev cN (y:Lv):List Value:=[y.1,.int .i32 y.2.2.2.1,.int .u8 (.ofNat y.2.2.2.2)]
set_option maxRecDepth 100000 in
theorem cgc {n:Nat}{cs:List Value}{x:DataW H×List MemPlace}(h:DataW.trod enc Tryz.prog W 0 (fun _=>true) true n 45 cs=some x):∃ y:Lv,okL2 W y/\cs=cN y:=by
 obtain⟨xs,n,_,rfl,hl,hlen,hf⟩:=DataW.trod_struct Tryz.underlying45 h
 match xs,hlen with
 |[x0,x1],_ =>
  have f0:=hf 0 _ rfl;have f1:=hf 1 _ rfl;obtain⟨v,row,xs,e0,h1,_,h2,h3⟩:=open_ratios f0;obtain⟨y,h4,e1⟩:=Yr f1;have hl:cs.length=3:=hl.trans (by kernel_rfl)
  match cs,hl with
  |[c0,c1,c2],_ =>
   have e0:[c0]=[v]:=e0;have e1:[c1,c2]=cX y:=e1;injection e0 with e0
   injection e1 with e1 e2
   injection e2 with e2
   exact⟨(v,row,xs,y),⟨h1,by unfold okN;rw[h2,h4];rfl,h3⟩,by rw[e0,e1,e2]⟩
set_option maxRecDepth 100000 in
theorem open_lines {fuel:Nat}{cs:List Value}{x:DataW H×List MemPlace}(h:DataW.trod enc Tryz.prog W 0 (fun _=>true) true fuel 22 cs=some x):∃ (v:Value) (row:Nat) (l:List Ln),cs=[v]/\l.length<=maxLen/\l.all okN=true/\DIs W (.ls (lst 0 row 3 l fN)) [v]:=by
 obtain⟨v,row,xs,h1,h2,h3,h4,h5⟩:=ceM (α:=Lv) (p:=okL2 W) (C:=cN) (g:=fun y=>fN y.2) (z:=3) (fun _=>rfl) (by decide) (fun x hx v hv=>by simp at hv;rcases hv with rfl|rfl|rfl;exact hx.1;rfl;rfl) (fun y hy=>.cls (us:=[y.1]) hy.2.2 (.lit (.lit .nil))) Tryz.underlying22 (by kernel_rfl) cgc h;refine⟨v,row,xs.map (·.2),h1,by simpa using h3,all_of (fun x hx=>?_),?_⟩
 ·obtain⟨y,hy,rfl⟩:=List.mem_map.1 hx;exact(h4 y hy).2.1
 ·exact Kf (b:=true) (lo:=0) (w0:=W) (f:=fun y:Lv=>fN y.2) (f':=fN) (h:=fun y:Lv=>y.2) (fun _=>rfl) W _ h5
set_option maxRecDepth 100000 in
theorem one_of {base:Nat}{t e:TypeId}{v:Value}(hv:Value.okWide Tryz.prog W .any base t v) (hS:Tryz.prog.underlying t=some (.slice e)):v.oneCell'=true:=by
 have hok:Cell.okWide Tryz.prog W .any base t v:=by
  simp only[Value.okWide,hS] at hv;exact hv
 simp only[Cell.okWide,hS] at hok;cases v<;>first|rfl|(simp [Cell.ok] at hok)
theorem trod_of {t:TypeId}{fuel:Nat}{v:Value}{d:DataW H}{pl:List MemPlace}(hc1:v.oneCell'=true) (h:DataW.trod enc Tryz.prog W 0 (fun _=>true) true fuel t v.cells.toList=some (d,pl)):DataW.trod enc Tryz.prog W 0 (fun _=>true) true fuel t [v]=some (d,pl):=by
 cases v<;>first|exact h|cases hc1
end
end Pe
open Go.ChangeShapes Go.WideShapes Go.ChangeAt Go.ChangeMaps
theorem ceh:laidOutB Tryz.prog=true:=by kernel_rfl
section
variable {H:Type}{enc:TypeId×Value->H}{W:World}{b0:Nat}{sp:Nat->Bool}{held:Bool}
end
open Go.ChangeShapes Go.WideShapes Go.ChangeAt Go.ChangeMaps
namespace lawLinearKeeps
set_option maxRecDepth 100000 in
theorem chL (H:Type) (enc:TypeId×Value->H) (W:World) (base:Nat) (args:Array Value) (ds gs:List (DataW H)) (before:List MemPlace)
 (hval:∀ (j:Nat) t v,Tryz.f3.params[j]?=some t->args[j]?=some v->Value.okWide Tryz.prog W .any base t v)
 (hW:DataW.Whole enc Tryz.prog Tryz.f3.params.toList Rows.linearKeepsSpec.vars false W args.toList ds gs before) (hG:Gr W) :
 Calls Tryz.prog 3 args W fun e W'=>∃ v,e=.returned v/\Rows.linearKeepsSpec.post enc Tryz.prog Tryz.f3 false true false false W args v W':=by
 have hW':=hW;obtain⟨p,q,hA0,hV,rfl,hfz,hnd⟩:=hW;have hA:DataW.TrodAll enc Tryz.prog W 0 (fun _=>true) true Tryz.f3.params.toList args.toList ds p:=hA0;rw[Tryz.params3] at hA hval;obtain⟨v0,vs0,d0,ds0,p0,q0,hargs0,rfl,rfl,h0,r0⟩:=trodAll_cons hA;obtain⟨v1,vs1,d1,ds1,p1,q1,hargs1,rfl,rfl,h1,r1⟩:=trodAll_cons r0;obtain⟨rfl,rfl,rfl⟩:=trodAll_nil r1;obtain rfl:args=#[v0,v1]:=by cases args;simp_all
 obtain⟨rfl,rfl⟩:=trodVars_none hV;have hlt0:∀ x∈p0,x.block<W.heap.size:=fun x hx=>by simpa using hW'.lt x (by simp [hx])
 have hlt1:∀ x∈p1,x.block<W.heap.size:=fun x hx=>by simpa using hW'.lt x (by simp [hx])
 obtain⟨f0,hf0⟩:=h0;obtain⟨f1,hf1⟩:=h1;have hc0:v0.oneCell'=true:=Pe.one_of (hval 0 22 v0 rfl rfl) Tryz.underlying22;have hc1:v1.oneCell'=true:=Pe.one_of (hval 1 23 v1 rfl rfl) Tryz.underlying23;obtain⟨u0,r0',l,e0,hl,hx,hp0⟩:=Pe.open_lines (Pe.trod_of hc0 hf0);obtain⟨u1,r1',p',e1,_,hn,hx1,hp1⟩:=Pe.open_ratios (Pe.trod_of hc1 hf1);injection e0 with e0
 injection e1 with e1
 subst e0;subst e1;clear hA0;have walk:=(Pe.keepsLaw_ok Pe.no_name r0' r1' l p' hx hx1 (le_trans hl (by unfold maxLen;omega)) (le_trans hn (by unfold maxLen;omega)) W [v0,v1] hG ⟨v0,_,rfl,hp0,v1,_,rfl,hp1,rfl⟩).2;refine walk.mono fun e W' ⟨v,he,hb,hr⟩=>?_;subst he;have hv:[v]=[Value.bool true]:=hr (fun _=>False) (fun _ h=>h.elim) W' (le_refl _) (fun _ _ _=>rfl);injection hv with hv _
 subst hv;refine⟨_,rfl,_,_,_,[],p0++(p1++[]),[],hW',?_,?_,?_,hb.frame _,fun h=>by cases h⟩
 ·exact trodAll_cons_mk (shut_bool Tryz.underlying4 _) trodAll_mk0
 ·exact trodAll_cons_mk (Below.trod ceh (by kernel_rfl) (of_decide_eq_true (by kernel_rfl)) ⟨f0,hf0⟩ hb hlt0) (trodAll_cons_mk (Below.trod ceh (by kernel_rfl) (of_decide_eq_true (by kernel_rfl)) ⟨f1,hf1⟩ hb hlt1) trodAll_mk0)
 ·trivial
theorem reads (os:Os) {H:Type}(enc:TypeId×Value->H):∃ places,DataW.whole enc Tryz.prog ((World.doorLaid Tryz.prog 400 os).forCall (fun _ _=>0) ⟨#[],#[.slice none 0 0,.slice none 0 0],[]⟩).memory Tryz.f3.params.toList Rows.linearKeepsSpec.vars false #[Value.slice none 0 0,.slice none 0 0].toList 8=some ([.nil,.nil],[],places) :=
 ⟨[],by kernel_rfl⟩
set_option maxRecDepth 100000 in
theorem lifted (os:Os) (started:os.Started) (H:Type) (enc:TypeId×Value->H) (F:Stop.Interp) :
 ReturnsInHanded {} Tryz.checked os 3 .any ((OpenSpec.ofChange Rows.linearKeepsSpec).preRow enc Tryz.prog Tryz.f3 Rows.linearKeepsRow.domain false Rows.linearKeepsRow.laid) (((OpenSpec.ofChange Rows.linearKeepsSpec).at F).post enc Tryz.prog Tryz.f3 false true false false):=by
 obtain⟨places,hx⟩:=reads os enc;refine returnsInHanded_of_row (C:=Tryz.checked) (s:=OpenSpec.ofChange Rows.linearKeepsSpec) own started (by kernel_rfl) Tryz.func3
  (witness_row_atRef (enc:=enc) (C:=Tryz.checked) false (World.doorLaid Tryz.prog 400 os) #[Value.slice none 0 0,.slice none 0 0] rfl (by kernel_rfl) (by kernel_rfl) (by kernel_rfl)
   (OpenSpec.preRow_of_cond 8 hx (by kernel_rfl) (fun k hk=>by cases hk) (by kernel_rfl) (chj os _))) ?_
 intro W base args ds gs before hval hW _ _ _ hL hS _;exact chL H enc W base args ds gs before hval hW (cdn hL hS)
theorem said:Rows.LinearKeepsSaid :=
 OpenClaim.holds_of_cond 3 Tryz.f3 rfl rfl rfl rfl rfl rfl rfl ⟨rfl,rfl,rfl,rfl,rfl⟩ rfl rfl rfl rfl rfl (by kernel_rfl) Tryz.func3 (by kernel_rfl)
  (of_decide_eq_true (by kernel_rfl)) (by unfold Func.isWrapper;first|(rw[if_pos (by decide+kernel)];kernel_rfl)|(rw[if_neg (by decide+kernel)];exact⟨rfl,rfl⟩))
  (fun os started H enc _ F=>by rw[OpenClaim.pre_eq_preRow];exact lifted os started H enc F)
theorem plain (f : FuncId) (fn : Func) (hf : Tryz.pinned.checked.prog.funcNamed "voussoir/voussoirlaw02.LinearKeeps" = some f) (hfn : Tryz.pinned.checked.prog.funcs[f]? = some fn) :
 false=Tryz.pinned.checked.prog.looks []/\∀ (j:Nat) t,fn.params[j]?=some t->Tryz.pinned.checked.prog.wantsStandIn t=false:=by
 obtain rfl : f = 3 := Option.some.inj ((show Tryz.prog.funcNamed "voussoir/voussoirlaw02.LinearKeeps" = some 3 by kernel_rfl).symm.trans hf) |>.symm;obtain rfl:fn=Tryz.f3:=(Option.some.inj (Tryz.func3.symm.trans hfn)).symm;refine⟨by kernel_rfl,fun j t ht=>?_⟩;rw[Tryz.params3] at ht;have hm:t∈[22,23]:=by simpa using Array.mem_of_getElem? ht
 have hall:([22,23].all fun u=>!Tryz.prog.wantsStandIn u)=true:=by kernel_rfl
 exact(show Tryz.prog.wantsStandIn t=false by simpa using List.all_eq_true.1 hall t hm)
theorem card:Rows.LinearKeepsCardSaid :=
 Claim7.holds_tied_plain_at .later [] _ _ _ _ said (fun _ h=>by cases h) (by kernel_rfl) (fun _ h=>by cases h) linearKeeps_row_tie rfl ⟨rfl,rfl⟩ (by kernel_rfl) rfl plain (by kernel_rfl)
end lawLinearKeeps
end Go.Proofs.YtokieocpdcngcaaGreatDoor
