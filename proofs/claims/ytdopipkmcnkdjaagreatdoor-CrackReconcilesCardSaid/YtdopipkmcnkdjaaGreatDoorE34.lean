/- CrackReconciles is proved: for every expected span and findings as the statement reads them, the law returns true and never panics. -/
import Derived.Test.YtdopipkmcnkdjaaGreatDoorCards
import Derived.Test.YtdopipkmcnkdjaaGreatDoorTie
import Derived.ProofKit
import Derived.OpenShut
import Derived.LaidMore
import Derived.LaidLaws
import Derived.Lib.LaidTab
import Derived.Shelf.Vars
import Derived.Deep.DeepHandedRow
import Derived.Deep.DeepWitnessRowRef
import Derived.Deep.Slices
import Derived.Carry
import Derived.Test.YtdopipkmcnkdjaaGreatDoorE33
set_option linter.all false
noncomputable section

namespace Go.Proofs.YtdopipkmcnkdjaaGreatDoor
open Go Go.RowKit Go.Proofs Lim
open Go.ChangeShapes Go.WideShapes Go.ChangeAt
theorem own:ownKnob Tryz.prog.godebug=none:=by kernel_rfl
theorem gTab : Tryz.prog.globalNamed "math/bits.deBruijn64tab" = some 3 := by kernel_rfl
theorem gSyn : Tryz.prog.globalNamed "strconv.ErrSyntax" = some 4 := by kernel_rfl
theorem gRng : Tryz.prog.globalNamed "strconv.ErrRange" = some 5 := by kernel_rfl
theorem tTab:(Tryz.prog.globals[3]?).bind (fun g=>Tryz.prog.underlying g.type)=some (.array 64 5):=by kernel_rfl
theorem cTab:(Tryz.prog.globals[3]?).map (fun g=>Tryz.prog.cellsOf g.type)=some 64:=by kernel_rfl
theorem c8:Tryz.prog.cellsOf 5=1:=by kernel_rfl
theorem tSyn:(Tryz.prog.globals[4]?).map (·.type)=some 202:=by kernel_rfl
theorem tRng:(Tryz.prog.globals[5]?).map (·.type)=some 202:=by kernel_rfl
theorem uErr:∃ ms,Tryz.prog.underlying 202=some (.interface ms):=⟨_,Tryz.underlying202⟩
theorem cjN {W:World}(h:laidMetH Tryz.prog Rows.crackReconcilesRow.laid W):∃ ps,DataW.LaidVars Tryz.prog W Rows.crackReconcilesRow.laid ps:=by
 have h':laidMet Tryz.prog Rows.crackReconcilesRow.laid W:=h;obtain⟨ps,h1,_⟩:=h';exact⟨ps,h1⟩
set_option maxRecDepth 100000 in
theorem cjI {W:World}(h:laidMetH Tryz.prog Rows.crackReconcilesRow.laid W) (hs:W.ShapedOpen Tryz.prog):Gr W:=by
 obtain⟨ps,⟨_,_,_,_,_,_,_,_,_,_,⟨g1,t1,cs1,f1,p1,q1,hg1,ht1,hv1,hd1,⟨_,_,_,_,_,_,_,_,_,_,⟨g3,t3,cs3,f3,p3,q3,hg3,ht3,hv3,hd3,⟨g4,t4,cs4,f4,p4,q4,hg4,ht4,hv4,hd4,_,_⟩,_⟩,_⟩,_⟩,_⟩⟩:=cjN h;obtain rfl:=Gs (gTab.symm.trans hg1);obtain rfl:=Gs (gRng.symm.trans hg3);obtain rfl:=Gs (gSyn.symm.trans hg4);obtain⟨ms,hi⟩:=uErr;refine⟨?_,?_,?_,?_,?_⟩
 ·have h0:((begin Tryz.prog (fun _ _=>0) default).world.heap[(5:Nat)]?).bind Obj.row?≠none:=by
   intro h;have:(((begin Tryz.prog (fun _ _=>0) default).world.heap[(5:Nat)]?).bind Obj.row?).isSome=true:=by kernel_rfl
   rw[h] at this;cases this
  cases hh:((begin Tryz.prog (fun _ _=>0) default).world.heap[(5:Nat)]?).bind Obj.row? with
  |none=>exact absurd hh h0
  |some x =>
   obtain⟨cs,hc,_⟩:=hs.1 5 x.1 x.2 (by decide) hh;exact(Array.getElem?_eq_some_iff.1 hc).1
 ·have ht:Tryz.prog.underlying t1=some (.array 64 5):=by
   have:=tTab;cases hx:Tryz.prog.globals[3]? with
   |none=>rw[hx] at ht1;cases ht1
   |some g=>rw[hx] at this ht1;cases ht1;exact this
  have hc:Tryz.prog.cellsOf t1=64:=by
   have:=cTab;cases hx:Tryz.prog.globals[3]? with
   |none=>rw[hx] at ht1;cases ht1
   |some g=>rw[hx] at this ht1;cases ht1;exact Gs this
  have hcs:=Lib.cells_of_tab (zs:=Lib.deBruijn64tab.map Int.ofNat) (k:=.u8) ht Tryz.underlying5 c8 hc hd1;have hv : Lib.TabIs Tryz.prog W "math/bits.deBruijn64tab" .u8 (Lib.deBruijn64tab.map Int.ofNat) := by
   unfold Lib.TabIs;rw[hv1,← hcs]
  intro j hj;have:=hv.cell gTab j (by simpa using hj);rw[this];simp [List.getD,JF,hj]
 ·exact cell_of_shapedOpen_int (t:=3) (zero:=#[.int .i64 0]) hs (by decide) (by kernel_rfl) rfl (by kernel_rfl) (by kernel_rfl) Tryz.underlying3
 ·obtain rfl:=Gs (tSyn.symm.trans ht4);obtain⟨f',u,v,hc,_⟩:=iface_of_trod hi hd4;refine⟨u,v,?_⟩;have:=World.var?_cell gSyn hv4 0;rw[Array.eq_one_of_toList hc] at this;simpa using this
 ·obtain rfl:=Gs (tRng.symm.trans ht3);obtain⟨f',u,v,hc,_⟩:=iface_of_trod hi hd3;refine⟨u,v,?_⟩;have:=World.var?_cell gRng hv3 0;rw[Array.eq_one_of_toList hc] at this;simpa using this
theorem cnR (os:Os) (args:Array Value):laidMetH Tryz.prog Rows.crackReconcilesRow.laid ((World.doorLaid Tryz.prog 400 os).forCall (fun _ _=>0) ⟨#[],args,[]⟩).memory :=
 laidMet_of_run' 8 (by kernel_rfl) (by kernel_rfl)
open Go.ChangeShapes Go.WideShapes Go.ChangeAt Go.ChangeMaps
namespace Pe
theorem row_off {P:Program}{fits:TypeId->Bool}{e:TypeId}{count off n:Nat}:∀ {d:Nat},rowAt P fits d e count off n=true->off<=count*P.cellsOf e
 |0,h=>by simp [rowAt] at h
 |d+1,h=>by
  unfold rowAt at h;simp only at h;split at h
  ·cases h
  ·rename_i hs;have hs:0<P.cellsOf e:=by omega
   have hm:=kY off (P.cellsOf e);have hr:=ki off hs;have key:off/P.cellsOf e+1<=count->off<=count*P.cellsOf e:=fun hc=>by
    have:=ja (P.cellsOf e) hc;rw[cT,kB,jf] at this;omega
   rw[Wj] at h;rcases h with h|h
   ·simp only[EL,beq_iff_eq,Ju] at h;obtain⟨⟨h1,h2⟩,_⟩:=h;have:=ja (P.cellsOf e) (show off/P.cellsOf e<=count by omega);rw[jf] at this;omega
   ·rw[EL] at h;exact key (jh h.1)
theorem cig {P:Program}{e:TypeId}{count off:Nat}:∀ {d:Nat}{u:TypeId}{n:Nat},liesAt P d e count off u n=true->off<=count*P.cellsOf e
 |0,u,n,h=>by simp [liesAt] at h
 |d+1,u,n,h=>by
  unfold liesAt at h;rw[Wj] at h;rcases h with h|h
  ·exact row_off h
  ·split at h
   ·exact cig h
   ·cases h
theorem cmw {P:Program}{W:World}{r:Reach}{base:Nat}{a:Addr}{e:TypeId}{n:Nat}(h:W.has P r base a e n):a.spot=none/\∃ arr row fr,W.heap[a.block]?=some (.cells arr row fr)/\a.off<=arr.size:=by
 obtain⟨_,h1,row,cells,h2,h3⟩:=h;refine⟨h1,?_⟩;unfold World.shape? at h2;split at h2
 ·rename_i c el fr hb;injection h2 with h2;injection h2 with h4 h5;subst h4;subst h5
  exact⟨c,el,fr,hb,cA (cig h3) (KX _ _)⟩
 ·cases h2
theorem ls_ofG {α:Type}[Inhabited α] {p:α->Prop}{C:α->List Value}{g:α->List (Grp Dx)}{z:Nat}(hd:p default) (hz:∀ x,(C x).length=z) (hz0:0<z) (h1:∀ x,∀ v∈C x,v.oneCell'=true) {W:World}(hg:∀ x,GsI W (g x) (C x)) {k off len cap row:Nat}{arr:Array Value}{fr:Nat×Nat}(hk:W.heap[k]?=some (.cells arr row fr)) (ho:off<=arr.size) (hc:len<=cap)
 (h:∀ i,i<len->∃ x:α,p x/\∀ j u,(C x)[j]?=some u->W.cell? ⟨k,off+(i*z+j),none⟩=some u):∃ xs:List α,(∀ i,p (xs.getD i default))/\DIs W (.ls (lst 0 row z xs g)) [.slice (some ⟨k,off,none⟩) len cap]:=by
 obtain⟨f,hf⟩:=Deep.choose_lt h;have hgt:∀ i,i<len->∀ j u,(C (f i))[j]?=some u->arr.toList[off+(i*z+j)]?=some u:=fun i hi j u hj=>by
  have:=(hf i hi).2 j u hj;simp only[World.cell?,hk] at this;simpa using this
 have hlen:off+len*z<=arr.toList.length:=by
  rcases kH len with rfl|hp
  ·simpa using ho
  ·have hj:z-1<(C (f (len-1))).length:=by rw[hz];omega
   have:=hgt (len-1) (by omega) (z-1) _ (kb hj);have:=(List.getElem?_eq_some_iff.1 this).1;have e:(len-1)*z+z=len*z:=by rw[← Nat.succ_mul,show (len-1).succ=len by omega]
   omega
 have hvs:∀ n,n<len*z->((arr.toList.drop off).take (len*z))[n]?=arr.toList[off+n]?:=fun n hn=>by
  rw[List.getElem?_take_of_lt hn,zz]
 have hin:∀ j q,j<len->q<z->j*z+q<len*z:=fun j q hj hq=>cI (Nat.add_lt_add_left hq _) (by rw[← Nat.succ_mul];exact ja z hj);have hL:(lst 0 row z ((List.range len).map f) g).n=len:=by simp [lst]
 refine⟨(List.range len).map f,fun i=>?_,?_⟩
 ·rw[yR,JF];rcases jd i len with hi|hi
  ·rw[List.getElem?_range hi];exact(hf i hi).1
  ·rw[yA (by simpa using hi)];exact hd
 have:=DIs.ls (w:=W) (L:=lst 0 row z ((List.range len).map f) g) k off cap arr (arr.toList.take off) ((arr.toList.drop off).take (len*z)) ((arr.toList.drop off).drop (len*z)) (by rw[hL];exact hc) ⟨fr,hk⟩
  (by rw[uM,kv,kv]) (by rw[jp];omega) (by rw[hL,jp,uK];show _=len*z;omega) (ju _) ?_ ?_
 ·rw[hL] at this;exact this
 ·intro v hv;obtain⟨n,he⟩:=List.mem_iff_getElem?.1 hv;have hn:=(List.getElem?_eq_some_iff.1 he).1;have hn:n<len*z:=by rw[jp] at hn;omega
  rw[hvs n hn] at he;have hi:n/z<len:=zM (by rw[jf];exact hn);have hj:n%z<(C (f (n/z))).length:=by rw[hz];exact ki _ hz0
  have:=hgt (n/z) hi (n%z) _ (kb hj);rw[show n/z*z+n%z=n by rw[jf];exact kY n z,he] at this;injection this with this
  rw[this];exact h1 _ _ (Yv _)
 ·intro j hj;rw[hL] at hj;have hx:(lst 0 row z ((List.range len).map f) g).g j=g (f j):=by
   show g (((List.range len).map f).getD j default)=_;rw[yR,JF,List.getElem?_range hj];rfl
  rw[hx];have he:(((arr.toList.drop off).take (len*z)).drop (j*z)).take z=C (f j):=by
   apply Yq;intro q;rcases jd q z with hq|hq
   ·rw[List.getElem?_take_of_lt hq,zz,hvs _ (hin j q hj hq)];have hq':q<(C (f j)).length:=by rw[hz];exact hq
    rw[kb hq'];exact hgt j hj q _ (kb hq')
   ·rw[yA (by rw[jp];omega),yA (by rw[hz];exact hq)]
  show GsI W (g (f j)) ((((arr.toList.drop off).take (len*z)).drop (j*z)).take z);rw[he];exact hg _
section
variable {H:Type}{enc:TypeId×Value->H}{W:World}{base:Nat}
set_option maxRecDepth 100000 in
theorem open_lc {α:Type}[Inhabited α] {p:α->Prop}{C:α->List Value}{g:α->List (Grp Dx)}{z:Nat}(hd:p default) (hz:∀ x,(C x).length=z) (hz0:0<z) (h1:∀ x,∀ v∈C x,v.oneCell'=true) (hg:∀ x,GsI W (g x) (C x)) {t e:TypeId}(hS:Tryz.prog.underlying t=some (.slice e)) (hce:Tryz.prog.cellsOf e=z)
 (step:∀ {sp:Nat->Bool} {held:Bool} {n:Nat} {cs:List Value} {x:DataW H×List MemPlace},DataW.trod enc Tryz.prog W 0 sp held n e cs=some x->∃ y:α,p y/\cs=C y)
 {v:Value} (hok:Cell.okWide Tryz.prog W .any base t v) {fuel:Nat} {x:DataW H×List MemPlace} (h:DataW.trod enc Tryz.prog W 0 (fun _=>true) true fuel t [v]=some x):∃ (row:Nat) (xs:List α),(∀ i,p (xs.getD i default))/\DIs W (.ls (lst 0 row z xs g)) [v]:=by
 rcases Deep.open_slice hS h with⟨h0,_⟩|⟨a,len,cap,m,n,D,Pl,h0,_,hl,hm,hmm,_,hc⟩
 ·injection h0 with h0;subst h0
  exact⟨0,[],fun i=>by simpa using hd,.nil rfl⟩
 ·injection h0 with h0;subst h0
  simp only[Cell.okWide,hS,Cell.ok] at hok;obtain⟨_,_,hh⟩:=hok;obtain⟨hs,arr,row,fr,hb,ho⟩:=cmw hh;obtain⟨k,off,sp⟩:=a;have hs:sp=none:=hs;subst hs;rw[hce] at hc;obtain⟨xs,hp,hx⟩:=ls_ofG (p:=p) (C:=C) (g:=g) (cap:=cap) hd hz hz0 h1 hg hb ho hl (fun i hi=>by
   obtain⟨cs,hci,htr⟩:=hc i (by rw[hmm];simp;omega);obtain⟨y,hy,rfl⟩:=step htr;obtain⟨_,_,hcell⟩:=World.cells?_some hci;refine⟨y,hy,fun j v hj=>?_⟩;have hj2:j<z:=by rw[← hz y];exact(List.getElem?_eq_some_iff.1 hj).1
   have:=hcell j hj2;rw[jL,jL] at this;rw[← zO];rw[this];exact hj)
  exact⟨row,xs,hp,hx⟩
set_option maxRecDepth 100000 in
theorem open_ls {α:Type}[Inhabited α] {p:α->Prop}{C:α->List Value}{g:α->List (Grp Dx)}{z:Nat}(hd:p default) (hz:∀ x,(C x).length=z) (hz0:0<z) (h1:∀ x,∀ v∈C x,v.oneCell'=true) (hg:∀ x,GsI W (g x) (C x)) {t e:TypeId}(hS:Tryz.prog.underlying t=some (.slice e)) (hce:Tryz.prog.cellsOf e=z)
 (step:∀ {sp:Nat->Bool} {held:Bool} {n:Nat} {cs:List Value} {x:DataW H×List MemPlace},DataW.trod enc Tryz.prog W 0 sp held n e cs=some x->∃ y:α,p y/\cs=C y)
 {v:Value} {d:DataW H} {pl:List MemPlace} (hv:Value.okWide Tryz.prog W .any base t v) (hT:DataW.Trod enc Tryz.prog W 0 (fun _=>true) true t v d pl):∃ (row:Nat) (xs:List α),(∀ i,p (xs.getD i default))/\DIs W (.ls (lst 0 row z xs g)) [v]:=by
 obtain⟨fuel,h⟩:=hT;have hok:Cell.okWide Tryz.prog W .any base t v:=by
  simp only[Value.okWide,hS] at hv;exact hv
 have hc1:v.oneCell'=true:=by
  simp only[Cell.okWide,hS] at hok;cases v<;>first|rfl|(simp [Cell.ok] at hok)
 have h:DataW.trod enc Tryz.prog W 0 (fun _=>true) true fuel t [v]=some (d,pl):=by
  cases v<;>first|exact h|cases hc1
 exact open_lc hd hz hz0 h1 hg hS hce step hok h
end
end Pe
open Go.ChangeShapes Go.WideShapes Go.ChangeAt Go.ChangeMaps
namespace Pe
section
variable {H:Type}{enc:TypeId×Value->H}{W:World}{base:Nat}
set_option maxRecDepth 100000 in
theorem ckS {sp:Nat->Bool}{held:Bool}{n:Nat}{cs:List Value}{x:DataW H×List MemPlace}(h:DataW.trod enc Tryz.prog W 0 sp held n 23 cs=some x):∃ y:E2,True/\cs=[str y.1,str y.2]:=by
 obtain⟨xs,n,_,rfl,hl,hlen,hf⟩:=DataW.trod_struct Tryz.underlying23 h
 match xs,hlen with
 |[x0,x1],_ =>
  obtain⟨s,e0,_⟩:=DataW.trod_string Tryz.underlying9 (hf 0 _ rfl);obtain⟨t,e1,_⟩:=DataW.trod_string Tryz.underlying9 (hf 1 _ rfl);have hl:cs.length=2:=hl.trans (by kernel_rfl)
  match cs,hl with
  |[c0,c1],_ =>
   have e0:[c0]=[Value.string s]:=e0;have e1:[c1]=[Value.string t]:=e1;injection e0 with e0
   injection e1 with e1
   exact⟨(s.data.toList,t.data.toList),trivial,by rw[e0,e1]⟩
set_option maxRecDepth 100000 in
theorem open_e1 {v:Value}{d:DataW H}{p:List MemPlace}(hv:Value.okWide Tryz.prog W .any base 23 v) (hT:DataW.Trod enc Tryz.prog W 0 (fun _=>true) true 23 v d p):∃ A B,Pat.is (W0 W) W (pEn A B) v:=by
 simp only[Value.okWide,Tryz.underlying23] at hv;obtain⟨cs,rfl,hsz,ts,hts,_,hrow⟩:=hv;obtain⟨fuel,hf⟩:=hT;have hf:DataW.trod enc Tryz.prog W 0 (fun _=>true) true fuel 23 cs.toList=some (d,p):=hf;obtain⟨y,_,e⟩:=ckS hf;refine⟨y.1,y.2,cs.toList,?_,rfl⟩;rw[e];exact YG (.lit (.lit .nil))
set_option maxRecDepth 100000 in
theorem open_enl {v:Value}{d:DataW H}{pl:List MemPlace}(hv:Value.okWide Tryz.prog W .any base 24 v) (hT:DataW.Trod enc Tryz.prog W 0 (fun _=>true) true 24 v d pl):∃ (row:Nat) (xs:List E2),DIs W (.ls (lst 0 row 2 xs fE)) [v]:=by
 obtain⟨row,xs,_,h2⟩:=open_ls (α:=E2) (p:=fun _=>True) (C:=fun y=>[str y.1,str y.2]) (g:=fE) (z:=2) trivial (fun _=>rfl) (by decide) (fun x v hv=>by simp at hv;rcases hv with rfl|rfl<;>rfl) (fun _=>.lit (.lit .nil)) Tryz.underlying24 (by kernel_rfl) ckS hv hT;exact⟨row,xs,h2⟩
end
end Pe
open Go.ChangeShapes Go.WideShapes Go.ChangeAt Go.ChangeMaps
theorem clk:laidOutB Tryz.prog=true:=by kernel_rfl
open Go.ChangeShapes Go.WideShapes Go.ChangeAt Go.ChangeMaps
namespace lawCrackReconciles
set_option maxRecDepth 100000 in
theorem cpq (H:Type) (enc:TypeId×Value->H) (W:World) (base:Nat) (args:Array Value) (ds gs:List (DataW H)) (before:List MemPlace)
 (hval:∀ (j:Nat) t v,Tryz.f3.params[j]?=some t->args[j]?=some v->Value.okWide Tryz.prog W .any base t v)
 (hW:DataW.Whole enc Tryz.prog Tryz.f3.params.toList Rows.crackReconcilesSpec.vars false W args.toList ds gs before) (hG:Gr W) :
 Calls Tryz.prog 3 args W fun e W'=>∃ v,e=.returned v/\Rows.crackReconcilesSpec.post enc Tryz.prog Tryz.f3 false true false false W args v W':=by
 have hW':=hW;obtain⟨p,q,hA0,hV,rfl,hfz,hnd⟩:=hW;have hA:DataW.TrodAll enc Tryz.prog W 0 (fun _=>true) true Tryz.f3.params.toList args.toList ds p:=hA0;rw[Tryz.params3] at hA hval;obtain⟨v0,vs0,d0,ds0,p0,q0,hargs0,rfl,rfl,h0,r0⟩:=trodAll_cons hA;obtain⟨v1,vs1,d1,ds1,p1,q1,hargs1,rfl,rfl,h1,r1⟩:=trodAll_cons r0;obtain⟨rfl,rfl,rfl⟩:=trodAll_nil r1;obtain rfl:args=#[v0,v1]:=by cases args;simp_all
 obtain⟨rfl,rfl⟩:=trodVars_none hV;have hlt0:∀ x∈p0,x.block<W.heap.size:=fun x hx=>by simpa using hW'.lt x (by simp [hx])
 have hlt1:∀ x∈p1,x.block<W.heap.size:=fun x hx=>by simpa using hW'.lt x (by simp [hx])
 obtain⟨A,B,hp0⟩:=Pe.open_e1 (hval 0 23 v0 rfl rfl) h0;obtain⟨ty,xs,hp1⟩:=Pe.open_enl (hval 1 24 v1 rfl rfl) h1;clear hA0;have walk:=(Pe.cr_ok Pe.no_name ty A B xs W [v0,v1] hG ⟨v0,_,rfl,hp0,v1,_,rfl,hp1,rfl⟩).2;refine walk.mono fun e W' ⟨v,he,hb,hr⟩=>?_;subst he;have hv:[v]=[Value.bool true]:=hr (fun _=>False) (fun _ h=>h.elim) W' (cb _) (fun _ _ _=>rfl);injection hv with hv _
 subst hv;refine⟨_,rfl,_,_,_,[],p0++(p1++[]),[],hW',?_,?_,?_,hb.frame _,fun h=>by cases h⟩
 ·exact trodAll_cons_mk (shut_bool Tryz.underlying4 _) trodAll_mk0
 ·exact trodAll_cons_mk (Below.trod clk (by kernel_rfl) (jh (by kernel_rfl)) h0 hb hlt0) (trodAll_cons_mk (Below.trod clk (by kernel_rfl) (jh (by kernel_rfl)) h1 hb hlt1) trodAll_mk0)
 ·trivial
theorem reads (os:Os) {H:Type}(enc:TypeId×Value->H):∃ places,DataW.whole enc Tryz.prog ((World.doorLaid Tryz.prog 400 os).forCall (fun _ _=>0) ⟨#[],#[.agg #[.string ⟨#[]⟩,.string ⟨#[]⟩],.slice none 0 0],[]⟩).memory Tryz.f3.params.toList Rows.crackReconcilesSpec.vars false #[Value.agg #[.string ⟨#[]⟩,.string ⟨#[]⟩],.slice none 0 0].toList 8=some ([.agg [.lit (.string []),.lit (.string [])],.nil],[],places) :=
 ⟨[],by kernel_rfl⟩
set_option maxRecDepth 100000 in
theorem lifted (os:Os) (started:os.Started) (H:Type) (enc:TypeId×Value->H) (F:Stop.Interp) :
 ReturnsInHanded {} Tryz.checked os 3 .any ((OpenSpec.ofChange Rows.crackReconcilesSpec).preRow enc Tryz.prog Tryz.f3 Rows.crackReconcilesRow.domain false Rows.crackReconcilesRow.laid) (((OpenSpec.ofChange Rows.crackReconcilesSpec).at F).post enc Tryz.prog Tryz.f3 false true false false):=by
 obtain⟨places,hx⟩:=reads os enc;refine returnsInHanded_of_row (C:=Tryz.checked) (s:=OpenSpec.ofChange Rows.crackReconcilesSpec) own started (by kernel_rfl) Tryz.func3
  (witness_row_atRef (enc:=enc) (C:=Tryz.checked) false (World.doorLaid Tryz.prog 400 os) #[Value.agg #[.string ⟨#[]⟩,.string ⟨#[]⟩],.slice none 0 0] rfl (by kernel_rfl) (by kernel_rfl) (by kernel_rfl)
   (OpenSpec.preRow_of_cond 8 hx (by kernel_rfl) (fun k hk=>by cases hk) (by kernel_rfl) (cnR os _))) ?_
 intro W base args ds gs before hval hW _ _ _ hL hS _;exact cpq H enc W base args ds gs before hval hW (cjI hL hS)
theorem said:Rows.CrackReconcilesSaid :=
 OpenClaim.holds_of_cond 3 Tryz.f3 rfl rfl rfl rfl rfl rfl rfl ⟨rfl,rfl,rfl,rfl,rfl⟩ rfl rfl rfl rfl rfl (by kernel_rfl) Tryz.func3 (by kernel_rfl)
  (jh (by kernel_rfl)) (by unfold Func.isWrapper;first|(rw[co (by decide+kernel)];kernel_rfl)|(rw[cg (by decide+kernel)];exact⟨rfl,rfl⟩))
  (fun os started H enc _ F=>by rw[OpenClaim.pre_eq_preRow];exact lifted os started H enc F)
theorem plain (f : FuncId) (fn : Func) (hf : Tryz.pinned.checked.prog.funcNamed "voussoir/voussoirlaw07.CrackReconciles" = some f) (hfn : Tryz.pinned.checked.prog.funcs[f]? = some fn) :
 true=Tryz.pinned.checked.prog.looks []/\∀ (j:Nat) t,fn.params[j]?=some t->Tryz.pinned.checked.prog.wantsStandIn t=false:=by
 obtain rfl : f = 3 := Gs ((show Tryz.prog.funcNamed "voussoir/voussoirlaw07.CrackReconciles" = some 3 by kernel_rfl).symm.trans hf) |>.symm;obtain rfl:fn=Tryz.f3:=(Gs (Tryz.func3.symm.trans hfn)).symm;refine⟨by kernel_rfl,fun j t ht=>?_⟩;rw[Tryz.params3] at ht;have hm:t∈[23,24]:=by simpa using Array.mem_of_getElem? ht
 have hall:([23,24].all fun u=>!Tryz.prog.wantsStandIn u)=true:=by kernel_rfl
 exact(show Tryz.prog.wantsStandIn t=false by simpa using List.all_eq_true.1 hall t hm)
theorem card:Rows.CrackReconcilesCardSaid :=
 Claim7.holds_tied_plain_at .later [] _ _ _ _ said (fun _ h=>by cases h) (by kernel_rfl) (fun _ h=>by cases h) crackReconciles_row_tie rfl ⟨rfl,rfl⟩ (by kernel_rfl) rfl plain (by kernel_rfl)
end lawCrackReconciles
end Go.Proofs.YtdopipkmcnkdjaaGreatDoor
