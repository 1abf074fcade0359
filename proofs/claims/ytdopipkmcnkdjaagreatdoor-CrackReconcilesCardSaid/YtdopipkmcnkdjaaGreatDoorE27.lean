/- Part 27. -/
import Derived.Test.YtdopipkmcnkdjaaGreatDoorE4
import Derived.Test.YtdopipkmcnkdjaaGreatDoorE20
import Derived.Test.YtdopipkmcnkdjaaGreatDoorE26
set_option linter.all false
noncomputable section

namespace Go.Proofs.YtdopipkmcnkdjaaGreatDoor
open Go Go.RowKit Go.Proofs Lim
theorem ciW (l:List UInt8) (w:World) (hl:l.length<=100000) (hG:Gr w):Calls Tryz.prog 20 #[str l] w (Gf w (kG l).1):=by
 have HR:=ca (fun W (hW:Below w.heap.size w W)=>coW l W hl (hG.below hW hG.size));clear hG hl
 go_enter Tryz.func20,Tryz.ntmps20
 go_wp2_with fail;obtain⟨W0,hW0,hb0,hz,hs⟩:=boxz w;rw[← hW0];clear hW0;have HZ:=ca hz;have HW0:=ca hb0;have hb0:=cw W0.heap.size W0;clear hz;refine(HR.out _ HW0.out).mono ?_;rintro e W1 ⟨v,rfl,hv,hbb⟩;generalize (kG l).1=r at *;generalize (kG l).2=ec at *;obtain⟨s1,a1,b1,p1,rfl⟩:=hv.form;have HV:=ca hv;have HB:=ca hbb;clear hv hbb hb0
 go_upto_region 2 with fail
 obtain⟨W2,hW,hb,⟨f0,f1,f2,f3⟩⟩:=ccP W1 (.bool s1) (u a1) (u b1) (.pointer p1);rw[← hW];clear hW;have HB2:=ca (cq HB.out hb);have hn:¬ W1.heap.size=w.heap.size:=by
  have h1:=(Array.getElem?_eq_some_iff.1 HZ.out).1;have h2:=HB.out.size;omega
 have hn':¬ w.heap.size=W1.heap.size:=fun h=>hn h.symm;have HFin:=ca (Gf.stored (a0:=.bool s1) (a1:=u a1) (a2:=u b1) (a3:=.pointer p1) (HZ.out.below HB2.out (cb _)) (HV.out.below hb (cb _)) (cq HW0.out HB2.out) (cb _))
 (obtain⟨z0,z1,z2,z3,zf0,zf1,zf2,zf3⟩:=HZ.out.zed HB2.out)
 clear hb;go_wp2_with fail;refine jw (v:=.agg #[.bool s1,u a1,u b1,.pointer p1]) (by simp [results,Tryz.results20,go_sem,z0,z1,z2,z3]) rfl ?_;exact HFin.out
namespace Pe
inductive Dx where
 |q (r:Rat) (k:Nat)
 |rq (r:Rat) (k:Nat)
 |ls (L:Lt Dx)
def Dx.n:Dx->Nat
 |.q _ _=>4
 |.rq _ _=>3
 |.ls _=>1
mutual
inductive DIs:World->Dx->List Value->Prop
 |q {w:World} {r:Rat} {k:Nat} {l:List Value}:l.length=4->IsQ w (.agg l.toArray) r->Siz r k->DIs w (.q r k) l
 |rq {w:World} {r:Rat} {k:Nat} {l:List Value}:l.length=3->Sym.RQ w (.agg l.toArray) r->Siz r k->DIs w (.rq r k) l
 |nil {w:World} {L:Lt Dx} {a:Option Addr}:L.n=0->DIs w (.ls L) [.slice a 0 0]
 |ls {w:World} {L:Lt Dx} (k o c:Nat) (arr:Array Value) (pre vs rest:List Value):L.n<=c->(∃ fr,w.heap[k]?=some (.cells arr L.ty fr))->arr.toList=pre++vs++rest->pre.length=o->vs.length=L.n*L.z->L.lo<=k->(∀ v∈vs,v.oneCell'=true)->
  (∀ j,j<L.n->GsI w (L.g j) ((vs.drop (j*L.z)).take L.z))->DIs w (.ls L) [.slice (some ⟨k,o,none⟩) L.n c]
inductive GsI:World->List (Grp Dx)->List Value->Prop
 |nil {w:World}:GsI w [] []
 |lit {w:World} {v:Value} {gs:List (Grp Dx)} {vs:List Value}:GsI w gs vs->GsI w (.lit v::gs) (v::vs)
 |cls {w:World} {d:Dx} {gs:List (Grp Dx)} {us vs:List Value}:DIs w d us->GsI w gs vs->GsI w (.cls d::gs) (us++vs)
end
def okX (b:Bool) (t:Nat):Bool :=
 match Nat.beq t 31 with
 |true=>false
 |false=>match Nat.beq t 138 with
  |true=>false
  |false=>match Nat.beq t 3 with
   |true=>!b
   |false=>true
noncomputable def Sx (b:Bool) (lo:Nat):Stat Dx:=⟨Tryz.prog,Dx.n,okX b,.ls,fun d=>match d with
 |.ls L=>some L
 |_=>none,lo⟩
noncomputable def Cx (b:Bool) (lo:Nat) (w0:World):Ctx Dx:={ Sx b lo with E:=fun d w l=>DIs w d l,w0:=w0 }
theorem DIs.len {w:World}{d:Dx}{l:List Value}(h:DIs w d l):l.length=d.n:=by
 cases h with
 |q h=>exact h
 |rq h=>exact h
 |nil h=>rfl
 |ls=>rfl
theorem clU {b:Bool}{lo:Nat}{w0 w:World}:∀ {gs:List (Grp Dx)}{vs:List Value},cO (Cx b lo w0) w gs vs->GsI w gs vs
 |[],vs,h=>by rw[show vs=[] from h];exact .nil
 |.lit v::gs,vs,h=>by
  have h1:vs.take 1=[v]:=h.1;rw[← kv 1 vs,h1];exact .lit (clU h.2)
 |.cls d::gs,vs,h=>by
  rw[← kv d.n vs];exact .cls h.1 (clU h.2)
theorem YG {b:Bool}{lo:Nat}{w0 w:World}:∀ {gs:List (Grp Dx)}{vs:List Value},GsI w gs vs->cO (Cx b lo w0) w gs vs
 |[],vs,h=>by cases h;rfl
 |.lit v::gs,vs,h=>by
  cases h with
  |lit h=>exact⟨rfl,YG h⟩
 |.cls d::gs,vs,h=>by
  cases h with
  |@cls _ _ us vs h1 h2 =>
   have hl:=h1.len;refine⟨?_,?_⟩
   ·show DIs w d ((us++vs).take d.n);rw[← hl,List.take_left];exact h1
   ·show cO (Cx b lo w0) w gs ((us++vs).drop d.n);rw[← hl,List.drop_left];exact YG h2
theorem form4 {w:World}{l:List Value}{r:Rat}(h:IsQ w (.agg l.toArray) r):∃ s a b p,l=[.bool s,u a,u b,.pointer p]:=by
 obtain⟨s,a,b,p,hv⟩:=h.form;injection hv with hv
 exact⟨s,a,b,p,by simpa using cQ Array.toList hv⟩
theorem form3 {w:World}{l:List Value}{r:Rat}(h:Sym.RQ w (.agg l.toArray) r):∃ s x nx cx y ny cy,l=[.bool s,.slice x nx cx,.slice y ny cy]:=by
 obtain⟨a,b,hv,⟨ao,cap,rfl,_⟩,⟨ao',cap',rfl,_⟩⟩:=h;injection hv with hv
 exact⟨_,_,_,_,_,_,_,by simpa using cQ Array.toList hv⟩
theorem ceD {b:Bool}{lo:Nat}{w0:World}(hlo:lo<=w0.heap.size):(Cx b lo w0).Ok:=by
 refine⟨?_,?_,hlo,?_,?_,by kernel_rfl⟩
 ·intro L w v h;rcases h with⟨h1,a,rfl⟩|⟨k,o,c,arr,pre,vs,rest,rfl,h2,h3,h4,h5,h6,h7,h8,h9⟩
  ·exact .nil h1
  ·exact .ls k o c arr pre vs rest h2 h3 h4 h5 h6 h7 h8 (fun j hj=>clU (h9 j hj))
 ·intro d L w l hd h;cases d with
  |q r k=>cases hd
  |rq r k=>cases hd
  |ls L' =>
   injection hd with hd;subst hd
   have h:DIs w (.ls L') l:=h;cases h with
   |nil h1=>exact⟨_,rfl,.inl ⟨h1,_,rfl⟩⟩
   |ls k o c arr pre vs rest h2 h3 h4 h5 h6 h7 h8 h9=>exact⟨_,rfl,.inr ⟨k,o,c,arr,pre,vs,rest,rfl,h2,h3,h4,h5,h6,h7,h8,fun j hj=>YG (h9 j hj)⟩⟩
 ·intro d w l h v hv;have h:DIs w d l:=h;cases h with
  |q _ h2 _ =>
   obtain⟨s,a,b,p,rfl⟩:=form4 h2;simp at hv;rcases hv with rfl|rfl|rfl|rfl<;>rfl
  |rq _ h2 _ =>
   obtain⟨s,x,nx,cx,y,ny,cy,rfl⟩:=form3 h2;simp at hv;rcases hv with rfl|rfl|rfl<;>rfl
  |nil h1=>simp at hv;subst hv;rfl
  |ls=>simp at hv;subst hv;rfl
 ·intro d w l h;exact DIs.len h
theorem natK {W W':World}{v:Value}{n:Nat}(h:cu W v n) (hk:∀ (b:Nat) (cs:Array Value) (fr:Nat×Nat),W.heap[b]?=some (.cells cs 31 fr)->W'.heap[b]?=W.heap[b]?):cu W' v n:=by
 obtain⟨xs,⟨⟨ao,c,rfl,h1,h2,hr⟩,ok,typ⟩,htr,hv⟩:=h;refine⟨xs,⟨⟨ao,c,rfl,h1,h2,fun hn=>?_⟩,ok,?_⟩,htr,hv⟩
 ·obtain⟨b,off,rfl,row⟩:=hr hn;obtain⟨cs,fr,hc⟩:=typ ⟨b,off,none⟩ _ _ rfl hn;exact⟨b,off,rfl,fun i hi=>(ZV (w:=W) (a:=⟨b,off+i,none⟩) (hk b cs fr hc)).trans (row i hi)⟩
 ·intro a n c e hn;obtain⟨cs,fr,hc⟩:=typ a n c e hn;exact⟨cs,fr,(hk _ cs fr hc).trans hc⟩
def caQ (b:Bool) (W W':World):Prop:=∀ (k:Nat) (cs:Array Value) (t:Nat) (fr:Nat×Nat),W.heap[k]?=some (.cells cs t fr)->okX b t=false->W'.heap[k]?=W.heap[k]?
theorem okX_u (b:Bool):okX b 31=false:=by cases b<;>rfl
theorem okX_w (b:Bool):okX b 138=false:=by cases b<;>rfl
theorem isqK {b:Bool}{W W':World}{v:Value}{r:Rat}(h:IsQ W v r) (hk:caQ b W W'):IsQ W' v r:=by
 have h:Num W v _ _ _:=h;show Num W' v _ _ _;cases h with
 |low l hv hd hn hdB=>exact .low l hv hd hn hdB
 |wide k x y hv hx hy h1 h2 hB h0 hd =>
  obtain⟨cs,hc⟩:=hB.2;have hb:=hk k cs _ _ hc (okX_w b);have hn:∀ (k:Nat) (cs:Array Value) (fr:Nat×Nat),W.heap[k]?=some (.cells cs 31 fr)->W'.heap[k]?=W.heap[k]?:=fun k cs fr h=>hk k cs _ fr h (okX_u b);exact .wide k x y hv ((ZV (w:=W) (a:=⟨k,0,none⟩) hb).trans hx) ((ZV (w:=W) (a:=⟨k,1,none⟩) hb).trans hy) (natK h1 hn) (natK h2 hn) ⟨hB.1,hB.2.to hb⟩ h0 hd
theorem dgK {W W':World}{v:Value}{ds:List Nat}(h:Sym.Dg W v ds) (hk:caQ true W W'):Sym.Dg W' v ds:=by
 obtain⟨ao,cap,hv,h1,h2,h3⟩:=h;refine⟨ao,cap,hv,h1,h2,fun hn=>?_⟩;obtain⟨b,off,ha,⟨cs,fr,hc⟩,hr⟩:=h3 hn;have hb:=hk b cs _ fr hc rfl;exact⟨b,off,ha,⟨cs,fr,hb.trans hc⟩,fun i hi=>(ZV (w:=W) (a:=⟨b,off+i,none⟩) hb).trans (hr i hi)⟩
theorem rqK {W W':World}{v:Value}{r:Rat}(h:Sym.RQ W v r) (hk:caQ true W W'):Sym.RQ W' v r:=by
 obtain⟨a,b,h1,h2,h3⟩:=h;exact⟨a,b,h1,dgK h2 hk,dgK h3 hk⟩
theorem cfQ {b:Bool}{C:Ctx Dx}(hC:C.okT=okX b) {w w' w'':World}{S:Nat->Prop}(hS:∀ k,S k->k<w.heap.size/\∃ o,w'.heap[k]?=some o/\CD C o) (hk:∀ k,k<w'.heap.size->¬ S k->w''.heap[k]?=w'.heap[k]?):caQ b w' w'':=by
 intro k cs t fr hb ht;refine hk k (Array.getElem?_eq_some_iff.1 hb).1 (fun hs=>?_);obtain⟨_,o,h1,h2⟩:=hS k hs;rw[hb] at h1;injection h1 with h1
 subst h1;rcases h2 with⟨cs',t',h3,h4⟩|⟨r,h3⟩|⟨r,h3⟩|⟨r,c,h3⟩
 ·injection h3 with _ h3 _
  rw[hC,← h3,ht] at h4;cases h4
 ·cases h3
 ·cases h3
 ·cases h3
theorem cec {b:Bool}{C:Ctx Dx}(hC:C.okT=okX b) {w w':World}(hk:∀ k o,w.heap[k]?=some o->(C.w0.heap.size<=k\/¬ CD C o)->w'.heap[k]?=some o):caQ b w w':=by
 intro k cs t fr h ht;rw[h];refine hk k _ h (.inr (fun ho=>?_));rcases ho with⟨cs',t',h3,h4⟩|⟨r,h3⟩|⟨r,h3⟩|⟨r,c,h3⟩
 ·injection h3 with _ h3 _
  rw[hC,← h3,ht] at h4;cases h4
 ·cases h3
 ·cases h3
 ·cases h3
theorem caQ.all {b:Bool}{w w':World}(h:∀ k,k<w.heap.size->w'.heap[k]?=w.heap[k]?):caQ b w w':=fun k _ _ _ hk _=>h k (Array.getElem?_eq_some_iff.1 hk).1
section
variable {b:Bool}{lo:Nat}{w0:World}
theorem cL (r:Rat) (k:Nat):kE (Cx b lo w0) (.q r k):=by
 intro w w' f h _ hk;have h:DIs w (.q r k) f:=h;cases h with
 |q h1 h2 h3=>exact .q h1 (isqK h2 (cec (b:=b) rfl hk)) h3
theorem cM (r:Rat) (k:Nat):kE (Cx true lo w0) (.rq r k):=by
 intro w w' f h _ hk;have h:DIs w (.rq r k) f:=h;cases h with
 |rq h1 h2 h3=>exact .rq h1 (rqK h2 (cec (b:=true) rfl hk)) h3
theorem Wu {L:Lt Dx}(hl:w0.heap.size<=L.lo) (hd:∀ j,j<L.n->∀ d∈zC (L.g j),kE (Cx b lo w0) d):kE (Cx b lo w0) (.ls L):=by
 intro w w' f h hs hk;have h:DIs w (.ls L) f:=h;cases h with
 |nil h1=>exact .nil h1
 |ls k o c arr pre vs rest h2 h3 h4 h5 h6 h7 h8 h9=>exact .ls k o c arr pre vs rest h2 (h3.imp fun _ h3=>hk k _ h3 (.inl (cA hl h7))) h4 h5 h6 h7 h8 (fun j hj=>clU (lo:=lo) (w0:=w0) (b:=b) (WO hs hk (hd j hj) (YG (h9 j hj))))
mutual
theorem DIs.grow {w w':World}(hk:∀ k,k<w.heap.size->w'.heap[k]?=w.heap[k]?):∀ {d:Dx}{l:List Value},DIs w d l->DIs w' d l
 |_,_,.q h1 h2 h3=>.q h1 (isqK (b:=true) h2 (.all hk)) h3
 |_,_,.rq h1 h2 h3=>.rq h1 (rqK h2 (.all hk)) h3
 |_,_,.nil h1=>.nil h1
 |_,_,.ls k o c arr pre vs rest h2 h3 h4 h5 h6 h7 h8 h9=>.ls k o c arr pre vs rest h2 (h3.imp fun _ h3=>(hk k (Array.getElem?_eq_some_iff.1 h3).1).trans h3) h4 h5 h6 h7 h8 (fun j hj=>GsI.grow hk (h9 j hj))
theorem GsI.grow {w w':World}(hk:∀ k,k<w.heap.size->w'.heap[k]?=w.heap[k]?):∀ {gs:List (Grp Dx)}{vs:List Value},GsI w gs vs->GsI w' gs vs
 |_,_,.nil=>.nil
 |_,_,.lit h=>.lit (GsI.grow hk h)
 |_,_,.cls h1 h2=>.cls (DIs.grow hk h1) (GsI.grow hk h2)
end
end
section
variable {b:Bool}{lo:Nat}{w0 w w':World}{v:Value}
theorem coG {r:Rat}(h:IsQ w v r):∃ l:List Value,v=.agg l.toArray/\l.length=4:=by
 obtain⟨s,a,b,p,hv⟩:=h.form;exact⟨[.bool s,u a,u b,.pointer p],by rw[hv],rfl⟩
theorem pat_q {r:Rat}{k:Nat}(h:IsQ w v r) (z:Siz r k):Pat.is (Cx b lo w0) w (.agg [.cls (.q r k)]) v:=by
 obtain⟨l,rfl,hl⟩:=coG h;refine⟨l,⟨?_,?_⟩,rfl⟩
 ·show DIs w (.q r k) (l.take 4);rw[kA (by omega)];exact .q hl h z
 ·show l.drop 4=[];exact cfD (by omega)
theorem pat_s {x y:Rat}{j k:Nat}(h:IsS w v x y) (za:Siz x j) (zb:Siz y k):Pat.is (Cx b lo w0) w (.agg [.cls (.q x j),.cls (.q y k)]) v:=by
 obtain⟨s1,a1,b1,p1,s2,a2,b2,p2,rfl,h1,h2⟩:=h;exact⟨[.bool s1,u a1,u b1,.pointer p1,.bool s2,u a2,u b2,.pointer p2],⟨.q rfl h1 za,.q rfl h2 zb,rfl⟩,rfl⟩
theorem issK {b:Bool}{W W':World}{v:Value}{x y:Rat}(h:IsS W v x y) (hk:caQ b W W'):IsS W' v x y:=by
 obtain⟨s1,a1,b1,p1,s2,a2,b2,p2,rfl,h1,h2⟩:=h;exact⟨s1,a1,b1,p1,s2,a2,b2,p2,rfl,isqK h1 hk,isqK h2 hk⟩
theorem rob_q {r:Rat}{k:Nat}(h:IsQ w' v r) (z:Siz r k):cdj (Cx b lo w0) w w' (.val (.agg [.cls (.q r k)])) v :=
 fun _ hS _ _ hk=>pat_q (isqK h (cfQ (b:=b) rfl hS hk)) z
theorem rob_s {x y:Rat}{j k:Nat}(h:IsS w' v x y) (za:Siz x j) (zb:Siz y k):cdj (Cx b lo w0) w w' (.val (.agg [.cls (.q x j),.cls (.q y k)])) v :=
 fun _ hS _ _ hk=>pat_s (issK h (cfQ (b:=b) rfl hS hk)) za zb
theorem Yf {x:Value}:cdj (Cx b lo w0) w w' (.val (.one (.lit x))) x:=fun _ _ _ _ _=>rfl
end
def qsOf:List (Grp Dx)->Option ((Rat×Nat)×List (Grp Dx))
 |.cls (.q r k)::l=>some ((r,k),l)
 |.lit (.bool b)::.lit (.int .u64 (.ofNat x))::.lit (.int .u64 (.ofNat y))::.lit (.pointer none)::l=>match b,Nat.beq x 0,Nat.beq y 0 with
  |false,true,true=>some ((0,1),l)
  |_,_,_=>none
 |_=>none
def qOf:Pat Dx->Option (Rat×Nat)
 |.agg gs=>match qsOf gs with
  |some (x,[])=>some x
  |_=>none
 |_=>none
def spOf:Pat Dx->Option ((Rat×Nat)×(Rat×Nat))
 |.agg gs=>match qsOf gs with
  |some (x,gs')=>match qsOf gs' with
   |some (y,[])=>some (x,y)
   |_=>none
  |none=>none
 |_=>none
def rOf:Pat Dx->Option (Rat×Nat)
 |.agg [.cls (.rq r k)]=>some (r,k)
 |_=>none
def lOf:Pat Dx->Option (Lt Dx)
 |.one (.cls (.ls L))=>some L
 |_=>none
theorem zq_is (w:World):IsQ w (.agg #[.bool false,.int .u64 0,.int .u64 0,.pointer none]) 0:=Num.low 0 rfl rfl kn (show 1<B by decide)
section
variable {b:Bool}{lo:Nat}{w0 w:World}{v:Value}
theorem KP {gs gs':List (Grp Dx)}{r:Rat}{k:Nat}{vs:List Value}(h:qsOf gs=some ((r,k),gs')) (hv:cO (Cx b lo w0) w gs vs):∃ xs ys,vs=xs++ys/\DIs w (.q r k) xs/\cO (Cx b lo w0) w gs' ys:=by
 unfold qsOf at h;split at h
 ·injection h with h
  simp only[cr] at h;obtain⟨⟨rfl,rfl⟩,rfl⟩:=h;exact⟨vs.take 4,vs.drop 4,(kv 4 vs).symm,hv.1,hv.2⟩
 ·rename_i b x y l;split at h
  ·rename_i h1 h2;injection h with h
   simp only[cr] at h;obtain⟨⟨rfl,rfl⟩,rfl⟩:=h;have h1:=ct h1;have h2:=ct h2;subst h1;subst h2;obtain⟨q1,q2,q3,q4,q5⟩:=hv;have hvs:vs=[.bool false,u 0,u 0,.pointer none]++vs.drop 4:=by
    match vs,q1,q2,q3,q4 with
    |[],q1,_,_,_=>cases q1
    |[_],_,q2,_,_=>cases q2
    |[_,_],_,_,q3,_=>cases q3
    |[_,_,_],_,_,_,q4=>cases q4
    |a::b::c::d::l,q1,q2,q3,q4 =>
     injection q1 with q1 _
     injection q2 with q2 _
     injection q3 with q3 _
     injection q4 with q4 _
     rw[q1,q2,q3,q4];rfl
   exact⟨_,_,hvs,.q rfl (zq_is _) (Siz.zero _ (by decide)),by
    have h4:(((vs.drop 1).drop 1).drop 1).drop 1=vs.drop 4:=by simp [zU]
    rw[← h4];exact q5⟩
  ·cases h
 ·cases h
theorem ckb {r:Rat}{k:Nat}{l:List Value}(h:DIs w (.q r k) l):l.length=4/\IsQ w (.agg l.toArray) r/\Siz r k:=by
 cases h with
 |q h1 h2 h3=>exact⟨h1,h2,h3⟩
theorem dis_r {r:Rat}{k:Nat}{l:List Value}(h:DIs w (.rq r k) l):l.length=3/\Sym.RQ w (.agg l.toArray) r/\Siz r k:=by
 cases h with
 |rq h1 h2 h3=>exact⟨h1,h2,h3⟩
theorem ccQ {p:Pat Dx}{r:Rat}{k:Nat}(h:qOf p=some (r,k)) (hp:p.is (Cx b lo w0) w v):IsQ w v r/\Siz r k:=by
 unfold qOf at h;split at h
 ·split at h
  ·rename_i gs x hq;injection h with h;subst h
   obtain⟨vs,h1,rfl⟩:=hp;obtain⟨xs,ys,rfl,h2,h3⟩:=KP hq h1;rw[show ys=[] from h3,ug];exact(ckb h2).2
  ·cases h
 ·cases h
theorem ckm {p:Pat Dx}{x y:Rat}{j k:Nat}(h:spOf p=some ((x,j),(y,k))) (hp:p.is (Cx b lo w0) w v):IsS w v x y/\Siz x j/\Siz y k:=by
 unfold spOf at h;split at h
 ·split at h
  ·rename_i gs x gs' hq;split at h
   ·rename_i y hq';injection h with h
    simp only[cr] at h;obtain⟨rfl,rfl⟩:=h;obtain⟨vs,h1,rfl⟩:=hp;obtain⟨xs,ys,rfl,h2,h3⟩:=KP hq h1;obtain⟨xs',ys',rfl,h4,h5⟩:=KP hq' h3;rw[show ys'=[] from h5,ug];have h2:=ckb h2;have h4:=ckb h4;obtain⟨s1,a1,b1,p1,rfl⟩:=form4 h2.2.1;obtain⟨s2,a2,b2,p2,rfl⟩:=form4 h4.2.1;exact⟨⟨s1,a1,b1,p1,s2,a2,b2,p2,rfl,h2.2.1,h4.2.1⟩,h2.2.2,h4.2.2⟩
   ·cases h
  ·cases h
 ·cases h
theorem cfF {p:Pat Dx}{r:Rat}{k:Nat}(h:rOf p=some (r,k)) (hp:p.is (Cx b lo w0) w v):Sym.RQ w v r/\Siz r k:=by
 unfold rOf at h;split at h
 ·injection h with h
  simp only[cr] at h;obtain⟨rfl,rfl⟩:=h;obtain⟨vs,⟨h1,h2⟩,rfl⟩:=hp;have h1:=dis_r h1;have hd:vs.drop 3=[]:=h2;have hl:vs.take 3=vs:=kA (by have:=cQ List.length hd;simp at this;omega);have h1:=h1.2;have h2:Sym.RQ w (.agg (vs.take 3).toArray) _/\_:=h1;rw[hl] at h2;exact h2
 ·cases h
end
def cla:Nat->Nat->List Nat
 |0,_=>[]
 |f+1,n=>match Nat.beq n 0 with
  |true=>[]
  |false=>n%10::cla f (n/10)
theorem chB:∀ (f n:Nat),n<=f->cla f n=digs n
 |0,n,h=>by
  obtain rfl:n=0:=by omega
  rw[digs_zero];rfl
 |f+1,n,h=>by
  unfold cla;split
  ·rename_i hb;rw[ct hb,digs_zero]
  ·rename_i hb;have hn:n≠0:=by rintro rfl;simp at hb
   rw[digs_pos hn,chB f (n/10) (by omega)]
def revF:List Nat->List UInt8->List UInt8
 |[],acc=>acc
 |d::l,acc=>revF l (Gl d::acc)
theorem ckZ:∀ (l:List Nat) (acc:List UInt8),revF l acc=(l.map Gl).reverse++acc
 |[],acc=>rfl
 |d::l,acc=>by rw[revF,ckZ l];simp
def cgb (n:Nat):List UInt8:=match Nat.beq n 0 with
 |true=>[48]
 |false=>revF (cla n n) []
theorem ceS (n:Nat):cgb n=cS n:=by
 unfold cgb cS;split
 ·rename_i hb;rw[co (ct hb)]
 ·rename_i hb;rw[cg (by rintro rfl;simp at hb),ckZ,chB n n (cb _),ug]
def ciy (r:Rat):List UInt8:=(match decide (r.num<0) with
 |true=>[45]
 |false=>[])++(cgb r.num.natAbs++(match Nat.beq r.den 1 with
 |true=>[]
 |false=>47::cgb r.den))
theorem cnb (r:Rat):ciy r=ul r:=by
 unfold ciy ul;rw[ceS,ceS];have h2:Nat.beq r.den 1=decide (r.den=1):=by
  by_cases h:r.den=1
  ·rw[h];rfl
  ·rw[cK h];cases hb:Nat.beq r.den 1 with
   |false=>rfl
   |true=>exact absurd (ct hb) h
 rw[h2];by_cases h1:r.num<0<;>by_cases h3:r.den=1<;>simp [h1,h3]
abbrev Con:=List (Pat Dx)->Option (jH Dx×List Prop)
def ck (m:Bool) (p:Prop) [Decidable p] (r:jH Dx):Option (jH Dx×List Prop):=match m with
 |true=>match decide p with
  |true=>some (r,[])
  |false=>none
 |false=>some (r,[p])
theorem Ug {m:Bool}{p:Prop}[Decidable p] {r res:jH Dx}{ob:List Prop}(h:ck m p r=some (res,ob)) (ho:jE ob):p/\res=r:=by
 unfold ck at h;split at h
 ·split at h
  ·rename_i hp;injection h with h;injection h with h1 h2
   exact⟨jh hp,h1.symm⟩
  ·cases h
 ·injection h with h;injection h with h1 h2;subst h2
  exact⟨ho.1,h1.symm⟩
abbrev qr (r:Rat) (k:Nat):jH Dx:=.val (.agg [.cls (.q r k)])
abbrev rr (r:Rat) (k:Nat):jH Dx:=.val (.agg [.cls (.rq r k)])
abbrev sr (a:Rat) (j:Nat) (b:Rat) (k:Nat):jH Dx:=.val (.agg [.cls (.q a j),.cls (.q b k)])
abbrev vr (x:Value):jH Dx:=.val (.one (.lit x))
def q1 (f:Rat->Nat->Option (jH Dx×List Prop)):Con
 |[p]=>match qOf p with
  |some (r,k)=>f r k
  |none=>none
 |_=>none
def q2 (f:Rat->Nat->Rat->Nat->Option (jH Dx×List Prop)):Con
 |[p,p']=>match qOf p,qOf p' with
  |some (r,j),some (s,k)=>f r j s k
  |_,_=>none
 |_=>none
def r1 (f:Rat->Nat->Option (jH Dx×List Prop)):Con
 |[p]=>match rOf p with
  |some (r,k)=>f r k
  |none=>none
 |_=>none
def r2 (f:Rat->Nat->Rat->Nat->Option (jH Dx×List Prop)):Con
 |[p,p']=>match rOf p,rOf p' with
  |some (r,j),some (s,k)=>f r j s k
  |_,_=>none
 |_=>none
def qr2 (f:Rat->Nat->Rat->Nat->Option (jH Dx×List Prop)):Con
 |[p,p']=>match qOf p,rOf p' with
  |some (r,j),some (s,k)=>f r j s k
  |_,_=>none
 |_=>none
def i1 (f:Int->Option (jH Dx×List Prop)):Con
 |[.one (.lit (.int .i64 i))]=>f i
 |_=>none
def i2 (f:Int->Int->Option (jH Dx×List Prop)):Con
 |[.one (.lit (.int .i64 i)),.one (.lit (.int .i64 j))]=>f i j
 |_=>none
def t1 (f:List UInt8->Option (jH Dx×List Prop)):Con
 |[.one (.lit (.string ⟨⟨l⟩⟩))]=>f l
 |_=>none
abbrev Gd (i:Int):Prop:=-9223372036854775808<=i/\i<=9223372036854775807
def tabX (m:Bool):List (Nat×Con):=[
 (39,q2 fun r j s k=>ck m (j+k<=1000000) (vr (.int .i64 (jk r s)))),
 (59,q1 fun r _=>some (vr (.int .i64 (yK r)),[])),
 (16,q1 fun r k=>ck m (k<=1000000) (vr (str (ciy r)))),
 (13,i1 fun i=>ck m (Gd i) (qr (i:Rat) 1)),
 (66,q2 fun r j s k=>ck m (j+k+1<=1000000) (qr (r+s) (j+k+1)))]
def TX:FuncId->Tab Dx:=fun _ _ h=>match h with
 |.call f=>find f (tabX true)
 |.bs _ 0=>some (fun _=>none)
 |_=>none
end Pe
namespace Pe
section
variable {bb:Bool}{lo:Nat}{w0:World}
abbrev cch (bb:Bool) (lo:Nat) (w0:World) (w:World) (res:jH Dx):Ending->World->Prop:=fun e w'=>∃ v,e=.returned v/\Below w.heap.size w w'/\cdj (Cx bb lo w0) w w' res v
theorem ent_q1 {f:Nat}{g:Rat->Nat->Option (jH Dx×List Prop)}{args:List (Pat Dx)}{res:jH Dx}{ob:List Prop}(h:q1 g args=some (res,ob)) (hE:Enters Tryz.prog f)
 (hc:∀ r k,g r k=some (res,ob)->∀ w v,Below w0.heap.size w0 w->IsQ w v r->Siz r k->Calls Tryz.prog f #[v] w (cch bb lo w0 w res)):jG (Cx bb lo w0) (.call f) args res:=by
 refine⟨hE,fun w vs hb hvs=>?_⟩;unfold q1 at h;split at h
 ·rename_i p;split at h
  ·rename_i r k hq;obtain⟨v,_,rfl,h1,rfl⟩:=hvs;have h1:=ccQ hq h1;exact hc r k h w v hb h1.1 h1.2
  ·cases h
 ·cases h
theorem ent_q2 {f:Nat}{g:Rat->Nat->Rat->Nat->Option (jH Dx×List Prop)}{args:List (Pat Dx)}{res:jH Dx}{ob:List Prop}(h:q2 g args=some (res,ob)) (hE:Enters Tryz.prog f)
 (hc:∀ r j s k,g r j s k=some (res,ob)->∀ w v1 v2,Below w0.heap.size w0 w->IsQ w v1 r->Siz r j->IsQ w v2 s->Siz s k->Calls Tryz.prog f #[v1,v2] w (cch bb lo w0 w res)):jG (Cx bb lo w0) (.call f) args res:=by
 refine⟨hE,fun w vs hb hvs=>?_⟩;unfold q2 at h;split at h
 ·split at h
  ·rename_i r j s k hq hq';obtain⟨v1,_,rfl,h1,v2,_,rfl,h2,rfl⟩:=hvs;have h1:=ccQ hq h1;have h2:=ccQ hq' h2;exact hc r j s k h w v1 v2 hb h1.1 h1.2 h2.1 h2.2
  ·cases h
 ·cases h
theorem ent_i1 {f:Nat}{g:Int->Option (jH Dx×List Prop)}{args:List (Pat Dx)}{res:jH Dx}{ob:List Prop}(h:i1 g args=some (res,ob)) (hE:Enters Tryz.prog f)
 (hc:∀ i,g i=some (res,ob)->∀ w,Below w0.heap.size w0 w->Calls Tryz.prog f #[.int .i64 i] w (cch bb lo w0 w res)):jG (Cx bb lo w0) (.call f) args res:=by
 refine⟨hE,fun w vs hb hvs=>?_⟩;unfold i1 at h;split at h
 ·rename_i i;obtain⟨v1,_,rfl,h1,rfl⟩:=hvs;have h1:[v1]=[.int .i64 i]:=h1;injection h1 with h1 _
  subst h1;exact hc i h w hb
 ·cases h
theorem res_q {w:World}{r:Rat}{k:Nat}(z:Siz r k) {e:Ending}{w':World}(h:Gf w r e w'):cch bb lo w0 w (qr r k) e w':=by
 obtain⟨v,he,hv,hb⟩:=h;exact⟨v,he,hb,rob_q hv z⟩
theorem res_v {w:World}{x:Value}{e:Ending}{w':World}(h:Val w x e w'):cch bb lo w0 w (vr x) e w':=⟨x,h.1,h.2,Yf⟩
theorem res_s {w:World}{a b:Rat}{j k:Nat}(za:Siz a j) (zb:Siz b k) {e:Ending}{w':World}(h:cdc w a b e w'):cch bb lo w0 w (sr a j b k) e w':=by
 obtain⟨v,he,hv,hb⟩:=h;exact⟨v,he,hb,rob_s hv za zb⟩
theorem cfp {m:Bool}(hG:Gr w0) {f:Nat}{F:Con}{args:List (Pat Dx)}{res:jH Dx}{ob:List Prop}(hF:find f (tabX m)=some F) (hres:F args=some (res,ob)) (ho:jE ob):jG (Cx bb lo w0) (.call f) args res:=by
 have hG':∀ w,Below w0.heap.size w0 w->Gr w:=fun w hb=>hG.below hb hG.size;have hm:=uY hF;simp only[tabX,uQ,cr,Zr,or_false] at hm;rcases hm with⟨rfl,rfl⟩|⟨rfl,rfl⟩|⟨rfl,rfl⟩|⟨rfl,rfl⟩|⟨rfl,rfl⟩
 ·refine ent_q2 hres (cY Tryz.func39 (by kernel_rfl) rfl) (fun r j s k h w v1 v2 hb a1 z1 a2 z2=>?_);obtain⟨hk,rfl⟩:=Ug h ho;exact(clX v1 v2 r s (j+k) w a1 a2 (z1.le (by omega)) (z2.le (by omega)) (by omega)).mono fun _ _ h=>res_v h
 ·refine ent_q1 hres (cY Tryz.func59 (by kernel_rfl) rfl) (fun r k h w v hb a1 z1=>?_);injection h with h;injection h with h _;subst h
  exact(sign_q v r w a1).mono fun _ _ h=>res_v h
 ·refine ent_q1 hres (cY Tryz.func16 (by kernel_rfl) rfl) (fun r k h w v hb a1 z1=>?_);obtain⟨hk,rfl⟩:=Ug h ho;refine(cgJ v r k w a1 z1 (by omega)).mono fun _ _ h=>?_;rw[cnb];exact⟨_,h.1,h.2,Yf⟩
 ·refine ent_i1 hres (cY Tryz.func13 (by kernel_rfl) rfl) (fun i h w hb=>?_);obtain⟨h0,rfl⟩:=Ug h ho;exact(int_q i h0.1 h0.2 w).mono fun _ _ h=>res_q (ckP i h0.1 h0.2) h
 ·refine ent_q2 hres (cY Tryz.func66 (by kernel_rfl) rfl) (fun r j s k h w v1 v2 hb a1 z1 a2 z2=>?_);obtain⟨hk,rfl⟩:=Ug h ho;exact(plus_q v1 v2 r s (j+k+1) w a1 a2 (z1.le (by omega)) (z2.le (by omega)) (by omega) (hG' w hb)).mono fun _ _ h=>res_q (z1.add z2) h
theorem tx_ok (hG:Gr w0) (g:FuncId):(TX g).Ok (Cx bb lo w0):=by
 intro n hd F args res ob hF hres ho;unfold TX at hF;split at hF
 ·exact cfp hG hF hres ho
 ·injection hF with hF;subst hF
  cases hres
 ·cases hF
end
end Pe
end Go.Proofs.YtdopipkmcnkdjaaGreatDoor
