/- Part 26. -/
import Derived.Test.YtcgiaclelnmhbabGreatDoorE5
import Derived.Test.YtcgiaclelnmhbabGreatDoorE21
import Derived.Test.YtcgiaclelnmhbabGreatDoorE25
set_option linter.all false
noncomputable section

namespace Go.Proofs.YtcgiaclelnmhbabGreatDoor
open Go Go.RowKit Go.Proofs Lim
open Go Go.RowKit Go.Proofs Lim
namespace Pe
inductive Dx where
 |q (r:Rat) (k:Nat)
 |rq (r:Rat) (k:Nat)
 |ls (L:Lt Dx)
 |fn (f:Nat) (pre:List (Grp Dx)) (cap:List (Nat×Nat×List (Grp Dx)))
def Dx.n:Dx->Nat
 |.q _ _=>4
 |.rq _ _=>3
 |.ls _=>1
 |.fn ..=>1
mutual
inductive DIs:World->Dx->List Value->Prop
 |q {w:World} {r:Rat} {k:Nat} {l:List Value}:l.length=4->IsQ w (.agg l.toArray) r->Siz r k->DIs w (.q r k) l
 |rq {w:World} {r:Rat} {k:Nat} {l:List Value}:l.length=3->Sym.RQ w (.agg l.toArray) r->Siz r k->DIs w (.rq r k) l
 |nil {w:World} {L:Lt Dx} {a:Option Addr}:L.n=0->DIs w (.ls L) [.slice a 0 0]
 |ls {w:World} {L:Lt Dx} (k o c:Nat) (arr:Array Value) (pre vs rest:List Value):L.n<=c->(∃ fr,w.heap[k]?=some (.cells arr L.ty fr))->arr.toList=pre++vs++rest->pre.length=o->vs.length=L.n*L.z->L.lo<=k->(∀ v∈vs,v.oneCell'=true)->
  (∀ j,j<L.n->GsI w (L.g j) ((vs.drop (j*L.z)).take L.z))->DIs w (.ls L) [.slice (some ⟨k,o,none⟩) L.n c]
 |fn {w:World} {f:Nat} {pre:List (Grp Dx)} {cap:List (Nat×Nat×List (Grp Dx))} {p q:List Value}:PrI w pre p->CpI w cap q->DIs w (.fn f pre cap) [.func (.func f) p.toArray q.toArray]
inductive PrI:World->List (Grp Dx)->List Value->Prop
 |nil {w:World}:PrI w [] []
 |agg {w:World} {g:Grp Dx} {gs:List (Grp Dx)} {vs:List Value}:GsI w (g::gs) vs->PrI w (g::gs) [.agg vs.toArray]
inductive CpI:World->List (Nat×Nat×List (Grp Dx))->List Value->Prop
 |nil {w:World}:CpI w [] []
 |cons {w:World} {ty z:Nat} {gs:List (Grp Dx)} {cap:List (Nat×Nat×List (Grp Dx))} {q:List Value} (k o:Nat) (arr:Array Value) (pre vs rest:List Value):(∃ fr,w.heap[k]?=some (.cells arr ty fr))->arr.toList=pre++vs++rest->pre.length=o->vs.length=1*z->(∀ v∈vs,v.oneCell'=true)->
  GsI w gs ((vs.drop (0*z)).take z)->CpI w cap q->CpI w ((ty,z,gs)::cap) (.pointer (some ⟨k,o,none⟩)::q)
inductive GsI:World->List (Grp Dx)->List Value->Prop
 |nil {w:World}:GsI w [] []
 |lit {w:World} {v:Value} {gs:List (Grp Dx)} {vs:List Value}:GsI w gs vs->GsI w (.lit v::gs) (v::vs)
 |cls {w:World} {d:Dx} {gs:List (Grp Dx)} {us vs:List Value}:DIs w d us->GsI w gs vs->GsI w (.cls d::gs) (us++vs)
end
def okX (b:Bool) (t:Nat):Bool :=
 match Nat.beq t 42 with
 |true=>false
 |false=>match Nat.beq t 122 with
  |true=>false
  |false=>match Nat.beq t 3 with
   |true=>!b
   |false=>true
noncomputable def Sx (b:Bool) (lo:Nat):Stat Dx:=⟨Tryz.prog,Dx.n,okX b,.ls,fun d=>match d with
 |.ls L=>some L
 |_=>none,lo,fun f pre cap=>some (.fn f pre cap),fun d=>match d with
 |.fn f pre cap=>some (f,pre,cap)
 |_=>none⟩
noncomputable def Cx (b:Bool) (lo:Nat) (w0:World):Ctx Dx:={ Sx b lo with E:=fun d w l=>DIs w d l,w0:=w0 }
theorem DIs.len {w:World}{d:Dx}{l:List Value}(h:DIs w d l):l.length=d.n:=by
 cases h with
 |q h=>exact h
 |rq h=>exact h
 |nil h=>rfl
 |ls=>rfl
 |fn=>rfl
theorem Zo {b:Bool}{lo:Nat}{w0 w:World}:∀ {gs:List (Grp Dx)}{vs:List Value},Gw (Cx b lo w0) w gs vs->GsI w gs vs
 |[],vs,h=>by rw[show vs=[] from h];exact .nil
 |.lit v::gs,vs,h=>by
  have h1:vs.take 1=[v]:=h.1;rw[← jZ 1 vs,h1];exact .lit (Zo h.2)
 |.cls d::gs,vs,h=>by
  rw[← jZ d.n vs];exact .cls h.1 (Zo h.2)
theorem Ew {b:Bool}{lo:Nat}{w0 w:World}:∀ {gs:List (Grp Dx)}{vs:List Value},GsI w gs vs->Gw (Cx b lo w0) w gs vs
 |[],vs,h=>by cases h;rfl
 |.lit v::gs,vs,h=>by
  cases h with
  |lit h=>exact⟨rfl,Ew h⟩
 |.cls d::gs,vs,h=>by
  cases h with
  |@cls _ _ us vs h1 h2 =>
   have hl:=h1.len;refine⟨?_,?_⟩
   ·show DIs w d ((us++vs).take d.n);rw[← hl,List.take_left];exact h1
   ·show Gw (Cx b lo w0) w gs ((us++vs).drop d.n);rw[← hl,List.drop_left];exact Ew h2
theorem form4 {w:World}{l:List Value}{r:Rat}(h:IsQ w (.agg l.toArray) r):∃ s a b p,l=[.bool s,u a,u b,.pointer p]:=by
 obtain⟨s,a,b,p,hv⟩:=h.form;injection hv with hv
 exact⟨s,a,b,p,by simpa using cw Array.toList hv⟩
theorem form3 {w:World}{l:List Value}{r:Rat}(h:Sym.RQ w (.agg l.toArray) r):∃ s x nx cx y ny cy,l=[.bool s,.slice x nx cx,.slice y ny cy]:=by
 obtain⟨a,b,hv,⟨ao,cap,rfl,_⟩,⟨ao',cap',rfl,_⟩⟩:=h;injection hv with hv
 exact⟨_,_,_,_,_,_,_,by simpa using cw Array.toList hv⟩
theorem cfU {b:Bool}{lo:Nat}{w0 w:World}:∀ {cap:List (Nat×Nat×List (Grp Dx))}{q:List Value},ym (Cx b lo w0) w cap q->CpI w cap q
 |[],q,h=>by rw[show q=[] from h];exact .nil
 |(ty,z,gs)::cap,q,h=>by
  obtain⟨k,o,cp,q',rfl,h1,h2⟩:=h;rcases h1 with⟨h1,_⟩|⟨k',o',c,arr,pre,vs,rest,q1,q2,q3,q4,q5,q6,q7,q8,q9⟩
  ·cases h1
  ·injection q1 with q1;injection q1 with q1;injection q1 with q1 qo
   subst q1;subst qo;exact .cons _ _ arr pre vs rest q3 q4 q5 q6 q8 (Zo (q9 0 Nat.one_pos)) (cfU h2)
theorem cdu {b:Bool}{lo:Nat}{w0 w:World}:∀ {cap:List (Nat×Nat×List (Grp Dx))}{q:List Value},CpI w cap q->ym (Cx b lo w0) w cap q
 |[],q,h=>by cases h;rfl
 |(ty,z,gs)::cap,q,h=>by
  cases h with
  |cons k o arr pre vs rest q3 q4 q5 q6 q8 q9 h2 =>
   refine⟨k,o,1,_,rfl,.inr ⟨k,o,1,arr,pre,vs,rest,rfl,cb _,q3,q4,q5,q6,cQ _,q8,fun j hj=>?_⟩,cdu h2⟩;obtain rfl:j=0:=Nat.lt_one_iff.1 hj;exact Ew q9
theorem pre_of {b:Bool}{lo:Nat}{w0 w:World}:∀ {gs:List (Grp Dx)}{p:List Value},JX (Cx b lo w0) w gs p->PrI w gs p
 |[],p,h=>by rw[show p=[] from h];exact .nil
 |g::gs,p,h=>by
  obtain⟨vs,h1,rfl⟩:=h;exact .agg (Zo h1)
theorem pre_are {b:Bool}{lo:Nat}{w0 w:World}:∀ {gs:List (Grp Dx)}{p:List Value},PrI w gs p->JX (Cx b lo w0) w gs p
 |[],p,h=>by cases h;rfl
 |g::gs,p,h=>by
  cases h with
  |agg h1=>exact⟨_,Ew h1,rfl⟩
theorem cx_ok {b:Bool}{lo:Nat}{w0:World}(hlo:lo<=w0.heap.size):(Cx b lo w0).Ok:=by
 refine⟨?_,?_,hlo,?_,?_,by kernel_rfl,?_,?_⟩
 rotate_left 4
 ·intro f pre cap d w v h1 h2;have h1:some (Dx.fn f pre cap)=some d:=h1;injection h1 with h1;subst h1
  obtain⟨p,q,rfl,h3,h4⟩:=h2;exact .fn (pre_of h3) (cfU h4)
 ·intro d f pre cap w l hd h;cases d with
  |q r k=>cases hd
  |rq r k=>cases hd
  |ls L=>cases hd
  |fn f' pre' cap' =>
   injection hd with hd;simp only[co] at hd;obtain⟨rfl,rfl,rfl⟩:=hd
   have h:DIs w (.fn f' pre' cap') l:=h;cases h with
   |fn h1 h2=>exact⟨_,rfl,_,_,rfl,pre_are h1,cdu h2⟩
 ·intro L w v h;rcases h with⟨h1,a,rfl⟩|⟨k,o,c,arr,pre,vs,rest,rfl,h2,h3,h4,h5,h6,h7,h8,h9⟩
  ·exact .nil h1
  ·exact .ls k o c arr pre vs rest h2 h3 h4 h5 h6 h7 h8 (fun j hj=>Zo (h9 j hj))
 ·intro d L w l hd h;cases d with
  |q r k=>cases hd
  |rq r k=>cases hd
  |fn f pre cap=>cases hd
  |ls L' =>
   injection hd with hd;subst hd
   have h:DIs w (.ls L') l:=h;cases h with
   |nil h1=>exact⟨_,rfl,.inl ⟨h1,_,rfl⟩⟩
   |ls k o c arr pre vs rest h2 h3 h4 h5 h6 h7 h8 h9=>exact⟨_,rfl,.inr ⟨k,o,c,arr,pre,vs,rest,rfl,h2,h3,h4,h5,h6,h7,h8,fun j hj=>Ew (h9 j hj)⟩⟩
 ·intro d w l h v hv;have h:DIs w d l:=h;cases h with
  |q _ h2 _ =>
   obtain⟨s,a,b,p,rfl⟩:=form4 h2;simp at hv;rcases hv with rfl|rfl|rfl|rfl<;>rfl
  |rq _ h2 _ =>
   obtain⟨s,x,nx,cx,y,ny,cy,rfl⟩:=form3 h2;simp at hv;rcases hv with rfl|rfl|rfl<;>rfl
  |nil h1=>simp at hv;subst hv;rfl
  |ls=>simp at hv;subst hv;rfl
  |fn=>simp at hv;subst hv;rfl
 ·intro d w l h;exact DIs.len h
theorem natK {W W':World}{v:Value}{n:Nat}(h:cr W v n) (hk:∀ (b:Nat) (cs:Array Value) (fr:Nat×Nat),W.heap[b]?=some (.cells cs 42 fr)->W'.heap[b]?=W.heap[b]?):cr W' v n:=by
 obtain⟨xs,⟨⟨ao,c,rfl,h1,h2,hr⟩,ok,typ⟩,htr,hv⟩:=h;refine⟨xs,⟨⟨ao,c,rfl,h1,h2,fun hn=>?_⟩,ok,?_⟩,htr,hv⟩
 ·obtain⟨b,off,rfl,row⟩:=hr hn;obtain⟨cs,fr,hc⟩:=typ ⟨b,off,none⟩ _ _ rfl hn;exact⟨b,off,rfl,fun i hi=>(Ub (w:=W) (a:=⟨b,off+i,none⟩) (hk b cs fr hc)).trans (row i hi)⟩
 ·intro a n c e hn;obtain⟨cs,fr,hc⟩:=typ a n c e hn;exact⟨cs,fr,(hk _ cs fr hc).trans hc⟩
def Yo (b:Bool) (W W':World):Prop:=∀ (k:Nat) (cs:Array Value) (t:Nat) (fr:Nat×Nat),W.heap[k]?=some (.cells cs t fr)->okX b t=false->W'.heap[k]?=W.heap[k]?
theorem okX_u (b:Bool):okX b 42=false:=by cases b<;>rfl
theorem okX_w (b:Bool):okX b 122=false:=by cases b<;>rfl
theorem isqK {b:Bool}{W W':World}{v:Value}{r:Rat}(h:IsQ W v r) (hk:Yo b W W'):IsQ W' v r:=by
 have h:Num W v _ _ _:=h;show Num W' v _ _ _;cases h with
 |low l hv hd hn hdB=>exact .low l hv hd hn hdB
 |wide k x y hv hx hy h1 h2 hB h0 hd =>
  obtain⟨cs,hc⟩:=hB.2;have hb:=hk k cs _ _ hc (okX_w b);have hn:∀ (k:Nat) (cs:Array Value) (fr:Nat×Nat),W.heap[k]?=some (.cells cs 42 fr)->W'.heap[k]?=W.heap[k]?:=fun k cs fr h=>hk k cs _ fr h (okX_u b);exact .wide k x y hv ((Ub (w:=W) (a:=⟨k,0,none⟩) hb).trans hx) ((Ub (w:=W) (a:=⟨k,1,none⟩) hb).trans hy) (natK h1 hn) (natK h2 hn) ⟨hB.1,hB.2.to hb⟩ h0 hd
theorem dgK {W W':World}{v:Value}{ds:List Nat}(h:Sym.Dg W v ds) (hk:Yo true W W'):Sym.Dg W' v ds:=by
 obtain⟨ao,cap,hv,h1,h2,h3⟩:=h;refine⟨ao,cap,hv,h1,h2,fun hn=>?_⟩;obtain⟨b,off,ha,⟨cs,fr,hc⟩,hr⟩:=h3 hn;have hb:=hk b cs _ fr hc rfl;exact⟨b,off,ha,⟨cs,fr,hb.trans hc⟩,fun i hi=>(Ub (w:=W) (a:=⟨b,off+i,none⟩) hb).trans (hr i hi)⟩
theorem rqK {W W':World}{v:Value}{r:Rat}(h:Sym.RQ W v r) (hk:Yo true W W'):Sym.RQ W' v r:=by
 obtain⟨a,b,h1,h2,h3⟩:=h;exact⟨a,b,h1,dgK h2 hk,dgK h3 hk⟩
theorem keep_of {b:Bool}{C:Ctx Dx}(hC:C.okT=okX b) {w w' w'':World}{S:Nat->Prop}(hS:∀ k,S k->k<w.heap.size/\∃ o,w'.heap[k]?=some o/\kE C o) (hk:∀ k,k<w'.heap.size->¬ S k->w''.heap[k]?=w'.heap[k]?):Yo b w' w'':=by
 intro k cs t fr hb ht;refine hk k (Array.getElem?_eq_some_iff.1 hb).1 (fun hs=>?_);obtain⟨_,o,h1,h2⟩:=hS k hs;rw[hb] at h1;injection h1 with h1
 subst h1;rcases h2 with⟨cs',t',h3,h4⟩|⟨r,h3⟩|⟨r,h3⟩|⟨r,c,h3⟩
 ·injection h3 with _ h3 _
  rw[hC,← h3,ht] at h4;cases h4
 ·cases h3
 ·cases h3
 ·cases h3
theorem Zy {b:Bool}{C:Ctx Dx}(hC:C.okT=okX b) {w w':World}(hk:∀ k o,w.heap[k]?=some o->(C.w0.heap.size<=k\/¬ kE C o)->w'.heap[k]?=some o):Yo b w w':=by
 intro k cs t fr h ht;rw[h];refine hk k _ h (.inr (fun ho=>?_));rcases ho with⟨cs',t',h3,h4⟩|⟨r,h3⟩|⟨r,h3⟩|⟨r,c,h3⟩
 ·injection h3 with _ h3 _
  rw[hC,← h3,ht] at h4;cases h4
 ·cases h3
 ·cases h3
 ·cases h3
theorem Yo.all {b:Bool}{w w':World}(h:∀ k,k<w.heap.size->w'.heap[k]?=w.heap[k]?):Yo b w w':=fun k _ _ _ hk _=>h k (Array.getElem?_eq_some_iff.1 hk).1
section
variable {b:Bool}{lo:Nat}{w0:World}
theorem cg (r:Rat) (k:Nat):Cs (Cx b lo w0) (.q r k):=by
 intro w w' f h _ hk;have h:DIs w (.q r k) f:=h;cases h with
 |q h1 h2 h3=>exact .q h1 (isqK h2 (Zy (b:=b) rfl hk)) h3
theorem ci (r:Rat) (k:Nat):Cs (Cx true lo w0) (.rq r k):=by
 intro w w' f h _ hk;have h:DIs w (.rq r k) f:=h;cases h with
 |rq h1 h2 h3=>exact .rq h1 (rqK h2 (Zy (b:=true) rfl hk)) h3
theorem cbR {L:Lt Dx}(hl:w0.heap.size<=L.lo) (hd:∀ j,j<L.n->∀ d∈yB (L.g j),Cs (Cx b lo w0) d):Cs (Cx b lo w0) (.ls L):=by
 intro w w' f h hs hk;have h:DIs w (.ls L) f:=h;cases h with
 |nil h1=>exact .nil h1
 |ls k o c arr pre vs rest h2 h3 h4 h5 h6 h7 h8 h9=>exact .ls k o c arr pre vs rest h2 (h3.imp fun _ h3=>hk k _ h3 (.inl (cB hl h7))) h4 h5 h6 h7 h8 (fun j hj=>Zo (lo:=lo) (w0:=w0) (b:=b) (GV hs hk (hd j hj) (Ew (h9 j hj))))
mutual
theorem DIs.grow {w w':World}(hk:∀ k,k<w.heap.size->w'.heap[k]?=w.heap[k]?):∀ {d:Dx}{l:List Value},DIs w d l->DIs w' d l
 |_,_,.q h1 h2 h3=>.q h1 (isqK (b:=true) h2 (.all hk)) h3
 |_,_,.rq h1 h2 h3=>.rq h1 (rqK h2 (.all hk)) h3
 |_,_,.nil h1=>.nil h1
 |_,_,.ls k o c arr pre vs rest h2 h3 h4 h5 h6 h7 h8 h9=>.ls k o c arr pre vs rest h2 (h3.imp fun _ h3=>(hk k (Array.getElem?_eq_some_iff.1 h3).1).trans h3) h4 h5 h6 h7 h8 (fun j hj=>GsI.grow hk (h9 j hj))
 |_,_,.fn h1 h2=>.fn (PrI.grow hk h1) (CpI.grow hk h2)
theorem PrI.grow {w w':World}(hk:∀ k,k<w.heap.size->w'.heap[k]?=w.heap[k]?):∀ {gs:List (Grp Dx)}{vs:List Value},PrI w gs vs->PrI w' gs vs
 |_,_,.nil=>.nil
 |_,_,.agg h=>.agg (GsI.grow hk h)
theorem CpI.grow {w w':World}(hk:∀ k,k<w.heap.size->w'.heap[k]?=w.heap[k]?):∀ {cap:List (Nat×Nat×List (Grp Dx))}{vs:List Value},CpI w cap vs->CpI w' cap vs
 |_,_,.nil=>.nil
 |_,_,.cons k o arr pre vs rest h1 h2 h3 h4 h5 h6 h7=>.cons k o arr pre vs rest (h1.imp fun _ h=>(hk k (Array.getElem?_eq_some_iff.1 h).1).trans h) h2 h3 h4 h5 (GsI.grow hk h6) (CpI.grow hk h7)
theorem GsI.grow {w w':World}(hk:∀ k,k<w.heap.size->w'.heap[k]?=w.heap[k]?):∀ {gs:List (Grp Dx)}{vs:List Value},GsI w gs vs->GsI w' gs vs
 |_,_,.nil=>.nil
 |_,_,.lit h=>.lit (GsI.grow hk h)
 |_,_,.cls h1 h2=>.cls (DIs.grow hk h1) (GsI.grow hk h2)
end
end
section
variable {b:Bool}{lo:Nat}{w0 w w':World}{v:Value}
theorem ciA {r:Rat}(h:IsQ w v r):∃ l:List Value,v=.agg l.toArray/\l.length=4:=by
 obtain⟨s,a,b,p,hv⟩:=h.form;exact⟨[.bool s,u a,u b,.pointer p],by rw[hv],rfl⟩
theorem pat_q {r:Rat}{k:Nat}(h:IsQ w v r) (z:Siz r k):Pat.is (Cx b lo w0) w (.agg [.cls (.q r k)]) v:=by
 obtain⟨l,rfl,hl⟩:=ciA h;refine⟨l,⟨?_,?_⟩,rfl⟩
 ·show DIs w (.q r k) (l.take 4);rw[kH (by omega)];exact .q hl h z
 ·show l.drop 4=[];exact cax (by omega)
theorem rob_q {r:Rat}{k:Nat}(h:IsQ w' v r) (z:Siz r k):UX (Cx b lo w0) w w' (.val (.agg [.cls (.q r k)])) v :=
 fun _ hS _ _ hk=>pat_q (isqK h (keep_of (b:=b) rfl hS hk)) z
theorem Yl {x:Value}:UX (Cx b lo w0) w w' (.val (.one (.lit x))) x:=fun _ _ _ _ _=>rfl
end
def qsOf:List (Grp Dx)->Option ((Rat×Nat)×List (Grp Dx))
 |.cls (.q r k)::l=>some ((r,k),l)
 |.lit (.bool b)::.lit (.int .u64 (.ofNat x))::.lit (.int .u64 (.ofNat y))::.lit (.pointer none)::l=>match b,Nat.beq x 0,Nat.beq y 0 with
  |false,true,true=>some ((0,1),l)
  |_,_,_=>none
 |_=>none
def qOf:Pat Dx->Option (Rat×Nat)
 |.agg gs=>match qsOf gs with
  |some (x,[])=>some x
  |_=>none
 |_=>none
def rOf:Pat Dx->Option (Rat×Nat)
 |.agg [.cls (.rq r k)]=>some (r,k)
 |_=>none
def lOf:Pat Dx->Option (Lt Dx)
 |.one (.cls (.ls L))=>some L
 |_=>none
theorem zq_is (w:World):IsQ w (.agg #[.bool false,.int .u64 0,.int .u64 0,.pointer none]) 0:=Num.low 0 rfl rfl jE (show 1<B by decide)
section
variable {b:Bool}{lo:Nat}{w0 w:World}{v:Value}
theorem Wu {gs gs':List (Grp Dx)}{r:Rat}{k:Nat}{vs:List Value}(h:qsOf gs=some ((r,k),gs')) (hv:Gw (Cx b lo w0) w gs vs):∃ xs ys,vs=xs++ys/\DIs w (.q r k) xs/\Gw (Cx b lo w0) w gs' ys:=by
 unfold qsOf at h;split at h
 ·injection h with h
  simp only[co] at h;obtain⟨⟨rfl,rfl⟩,rfl⟩:=h;exact⟨vs.take 4,vs.drop 4,(jZ 4 vs).symm,hv.1,hv.2⟩
 ·rename_i b x y l;split at h
  ·rename_i h1 h2;injection h with h
   simp only[co] at h;obtain⟨⟨rfl,rfl⟩,rfl⟩:=h;have h1:=cn h1;have h2:=cn h2;subst h1;subst h2;obtain⟨q1,q2,q3,q4,q5⟩:=hv;have hvs:vs=[.bool false,u 0,u 0,.pointer none]++vs.drop 4:=by
    match vs,q1,q2,q3,q4 with
    |[],q1,_,_,_=>cases q1
    |[_],_,q2,_,_=>cases q2
    |[_,_],_,_,q3,_=>cases q3
    |[_,_,_],_,_,_,q4=>cases q4
    |a::b::c::d::l,q1,q2,q3,q4 =>
     injection q1 with q1 _
     injection q2 with q2 _
     injection q3 with q3 _
     injection q4 with q4 _
     rw[q1,q2,q3,q4];rfl
   exact⟨_,_,hvs,.q rfl (zq_is _) (Siz.zero _ (by decide)),by
    have h4:(((vs.drop 1).drop 1).drop 1).drop 1=vs.drop 4:=by simp [uF]
    rw[← h4];exact q5⟩
  ·cases h
 ·cases h
theorem dis_q {r:Rat}{k:Nat}{l:List Value}(h:DIs w (.q r k) l):l.length=4/\IsQ w (.agg l.toArray) r/\Siz r k:=by
 cases h with
 |q h1 h2 h3=>exact⟨h1,h2,h3⟩
theorem cef {p:Pat Dx}{r:Rat}{k:Nat}(h:qOf p=some (r,k)) (hp:p.is (Cx b lo w0) w v):IsQ w v r/\Siz r k:=by
 unfold qOf at h;split at h
 ·split at h
  ·rename_i gs x hq;injection h with h;subst h
   obtain⟨vs,h1,rfl⟩:=hp;obtain⟨xs,ys,rfl,h2,h3⟩:=Wu hq h1;rw[show ys=[] from h3,JM];exact(dis_q h2).2
  ·cases h
 ·cases h
end
def cfG:Nat->Nat->List Nat
 |0,_=>[]
 |f+1,n=>match Nat.beq n 0 with
  |true=>[]
  |false=>n%10::cfG f (n/10)
theorem ccD:∀ (f n:Nat),n<=f->cfG f n=uB n
 |0,n,h=>by
  obtain rfl:n=0:=by omega
  rw[uX];rfl
 |f+1,n,h=>by
  unfold cfG;split
  ·rename_i hb;rw[cn hb,uX]
  ·rename_i hb;have hn:n≠0:=by rintro rfl;simp at hb
   rw[CR hn,ccD f (n/10) (by omega)]
def revF:List Nat->List UInt8->List UInt8
 |[],acc=>acc
 |d::l,acc=>revF l (EW d::acc)
theorem cgb:∀ (l:List Nat) (acc:List UInt8),revF l acc=(l.map EW).reverse++acc
 |[],acc=>rfl
 |d::l,acc=>by rw[revF,cgb l];simp
def caH (n:Nat):List UInt8:=match Nat.beq n 0 with
 |true=>[48]
 |false=>revF (cfG n n) []
theorem caq (n:Nat):caH n=je n:=by
 unfold caH je;split
 ·rename_i hb;rw[cq (cn hb)]
 ·rename_i hb;rw[cf (by rintro rfl;simp at hb),cgb,ccD n n (cb _),JM]
def cdD (r:Rat):List UInt8:=(match decide (r.num<0) with
 |true=>[45]
 |false=>[])++(caH r.num.natAbs++(match Nat.beq r.den 1 with
 |true=>[]
 |false=>47::caH r.den))
theorem cgV (r:Rat):cdD r=ES r:=by
 unfold cdD ES;rw[caq,caq];have h2:Nat.beq r.den 1=decide (r.den=1):=by
  by_cases h:r.den=1
  ·rw[h];rfl
  ·rw[Wx h];cases hb:Nat.beq r.den 1 with
   |false=>rfl
   |true=>exact absurd (cn hb) h
 rw[h2];by_cases h1:r.num<0<;>by_cases h3:r.den=1<;>simp [h1,h3]
abbrev Con:=List (Pat Dx)->Option (RPat Dx×List Prop)
def ck (m:Bool) (p:Prop) [Decidable p] (r:RPat Dx):Option (RPat Dx×List Prop):=match m with
 |true=>match decide p with
  |true=>some (r,[])
  |false=>none
 |false=>some (r,[p])
theorem cfs {m:Bool}{p:Prop}[Decidable p] {r res:RPat Dx}{ob:List Prop}(h:ck m p r=some (res,ob)) (ho:cX ob):p/\res=r:=by
 unfold ck at h;split at h
 ·split at h
  ·rename_i hp;injection h with h;injection h with h1 h2
   exact⟨cH hp,h1.symm⟩
  ·cases h
 ·injection h with h;injection h with h1 h2;subst h2
  exact⟨ho.1,h1.symm⟩
abbrev qr (r:Rat) (k:Nat):RPat Dx:=.val (.agg [.cls (.q r k)])
abbrev rr (r:Rat) (k:Nat):RPat Dx:=.val (.agg [.cls (.rq r k)])
abbrev vr (x:Value):RPat Dx:=.val (.one (.lit x))
def q1 (f:Rat->Nat->Option (RPat Dx×List Prop)):Con
 |[p]=>match qOf p with
  |some (r,k)=>f r k
  |none=>none
 |_=>none
def q2 (f:Rat->Nat->Rat->Nat->Option (RPat Dx×List Prop)):Con
 |[p,p']=>match qOf p,qOf p' with
  |some (r,j),some (s,k)=>f r j s k
  |_,_=>none
 |_=>none
def r1 (f:Rat->Nat->Option (RPat Dx×List Prop)):Con
 |[p]=>match rOf p with
  |some (r,k)=>f r k
  |none=>none
 |_=>none
def r2 (f:Rat->Nat->Rat->Nat->Option (RPat Dx×List Prop)):Con
 |[p,p']=>match rOf p,rOf p' with
  |some (r,j),some (s,k)=>f r j s k
  |_,_=>none
 |_=>none
def i1 (f:Int->Option (RPat Dx×List Prop)):Con
 |[.one (.lit (.int .i64 i))]=>f i
 |_=>none
def i2 (f:Int->Int->Option (RPat Dx×List Prop)):Con
 |[.one (.lit (.int .i64 i)),.one (.lit (.int .i64 j))]=>f i j
 |_=>none
def t1 (f:List UInt8->Option (RPat Dx×List Prop)):Con
 |[.one (.lit (.string ⟨⟨l⟩⟩))]=>f l
 |_=>none
abbrev ko (i:Int):Prop:=-9223372036854775808<=i/\i<=9223372036854775807
def tabX (m:Bool):List (Nat×Con):=[
 (36,q2 fun r j s k=>ck m (j+k<=1000000) (vr (.int .i64 (Ur r s)))),
 (58,q1 fun r _=>some (vr (.int .i64 (sign r)),[])),
 (16,q1 fun r k=>ck m (k<=1000000) (vr (str (cdD r)))),
 (13,i1 fun i=>ck m (ko i) (qr (i:Rat) 1)),
 (60,q2 fun r j s k=>ck m (j+k+1<=1000000) (qr (r+s) (j+k+1)))]
def TX:FuncId->Tab Dx:=fun _ _ h=>match h with
 |.call f=>find f (tabX true)
 |.bs _ 0=>some (fun _=>none)
 |_=>none
end Pe
namespace Pe
section
variable {bb:Bool}{lo:Nat}{w0:World}
abbrev Resu (bb:Bool) (lo:Nat) (w0:World) (w:World) (res:RPat Dx):Ending->World->Prop:=fun e w'=>∃ v,e=.returned v/\Below w.heap.size w w'/\UX (Cx bb lo w0) w w' res v
theorem ent_q1 {f:Nat}{g:Rat->Nat->Option (RPat Dx×List Prop)}{args:List (Pat Dx)}{res:RPat Dx}{ob:List Prop}(h:q1 g args=some (res,ob)) (hE:Enters Tryz.prog f)
 (hc:∀ r k,g r k=some (res,ob)->∀ w v,Below w0.heap.size w0 w->IsQ w v r->Siz r k->Calls Tryz.prog f #[v] w (Resu bb lo w0 w res)):jL (Cx bb lo w0) (.call f) args res:=by
 refine⟨hE,fun w vs hb hvs=>?_⟩;unfold q1 at h;split at h
 ·rename_i p;split at h
  ·rename_i r k hq;obtain⟨v,_,rfl,h1,rfl⟩:=hvs;have h1:=cef hq h1;exact hc r k h w v hb h1.1 h1.2
  ·cases h
 ·cases h
theorem ent_q2 {f:Nat}{g:Rat->Nat->Rat->Nat->Option (RPat Dx×List Prop)}{args:List (Pat Dx)}{res:RPat Dx}{ob:List Prop}(h:q2 g args=some (res,ob)) (hE:Enters Tryz.prog f)
 (hc:∀ r j s k,g r j s k=some (res,ob)->∀ w v1 v2,Below w0.heap.size w0 w->IsQ w v1 r->Siz r j->IsQ w v2 s->Siz s k->Calls Tryz.prog f #[v1,v2] w (Resu bb lo w0 w res)):jL (Cx bb lo w0) (.call f) args res:=by
 refine⟨hE,fun w vs hb hvs=>?_⟩;unfold q2 at h;split at h
 ·split at h
  ·rename_i r j s k hq hq';obtain⟨v1,_,rfl,h1,v2,_,rfl,h2,rfl⟩:=hvs;have h1:=cef hq h1;have h2:=cef hq' h2;exact hc r j s k h w v1 v2 hb h1.1 h1.2 h2.1 h2.2
  ·cases h
 ·cases h
theorem ent_i1 {f:Nat}{g:Int->Option (RPat Dx×List Prop)}{args:List (Pat Dx)}{res:RPat Dx}{ob:List Prop}(h:i1 g args=some (res,ob)) (hE:Enters Tryz.prog f)
 (hc:∀ i,g i=some (res,ob)->∀ w,Below w0.heap.size w0 w->Calls Tryz.prog f #[.int .i64 i] w (Resu bb lo w0 w res)):jL (Cx bb lo w0) (.call f) args res:=by
 refine⟨hE,fun w vs hb hvs=>?_⟩;unfold i1 at h;split at h
 ·rename_i i;obtain⟨v1,_,rfl,h1,rfl⟩:=hvs;have h1:[v1]=[.int .i64 i]:=h1;injection h1 with h1 _
  subst h1;exact hc i h w hb
 ·cases h
theorem res_q {w:World}{r:Rat}{k:Nat}(z:Siz r k) {e:Ending}{w':World}(h:JP w r e w'):Resu bb lo w0 w (qr r k) e w':=by
 obtain⟨v,he,hv,hb⟩:=h;exact⟨v,he,hb,rob_q hv z⟩
theorem res_v {w:World}{x:Value}{e:Ending}{w':World}(h:Val w x e w'):Resu bb lo w0 w (vr x) e w':=⟨x,h.1,h.2,Yl⟩
theorem cfJ {m:Bool}(hG:Gr w0) {f:Nat}{F:Con}{args:List (Pat Dx)}{res:RPat Dx}{ob:List Prop}(hF:find f (tabX m)=some F) (hres:F args=some (res,ob)) (ho:cX ob):jL (Cx bb lo w0) (.call f) args res:=by
 have hG':∀ w,Below w0.heap.size w0 w->Gr w:=fun w hb=>hG.below hb hG.size;have hm:=yg hF;simp only[tabX,zU,co,List.not_mem_nil,or_false] at hm;rcases hm with⟨rfl,rfl⟩|⟨rfl,rfl⟩|⟨rfl,rfl⟩|⟨rfl,rfl⟩|⟨rfl,rfl⟩
 ·refine ent_q2 hres (jB Tryz.func36 (by kernel_rfl) rfl) (fun r j s k h w v1 v2 hb a1 z1 a2 z2=>?_);obtain⟨hk,rfl⟩:=cfs h ho;exact(cmp_q v1 v2 r s (j+k) w a1 a2 (z1.le (by omega)) (z2.le (by omega)) (by omega)).mono fun _ _ h=>res_v h
 ·refine ent_q1 hres (jB Tryz.func58 (by kernel_rfl) rfl) (fun r k h w v hb a1 z1=>?_);injection h with h;injection h with h _;subst h
  exact(sign_q v r w a1).mono fun _ _ h=>res_v h
 ·refine ent_q1 hres (jB Tryz.func16 (by kernel_rfl) rfl) (fun r k h w v hb a1 z1=>?_);obtain⟨hk,rfl⟩:=cfs h ho;refine(text_q v r k w a1 z1 (by omega)).mono fun _ _ h=>?_;rw[cgV];exact⟨_,h.1,h.2,Yl⟩
 ·refine ent_i1 hres (jB Tryz.func13 (by kernel_rfl) rfl) (fun i h w hb=>?_);obtain⟨h0,rfl⟩:=cfs h ho;exact(int_q i h0.1 h0.2 w).mono fun _ _ h=>res_q (siz_int i h0.1 h0.2) h
 ·refine ent_q2 hres (jB Tryz.func60 (by kernel_rfl) rfl) (fun r j s k h w v1 v2 hb a1 z1 a2 z2=>?_);obtain⟨hk,rfl⟩:=cfs h ho;exact(plus_q v1 v2 r s (j+k+1) w a1 a2 (z1.le (by omega)) (z2.le (by omega)) (by omega) (hG' w hb)).mono fun _ _ h=>res_q (z1.add z2) h
theorem tx_ok (hG:Gr w0) (g:FuncId):(TX g).Ok (Cx bb lo w0):=by
 intro n hd F args res ob hF hres ho;unfold TX at hF;split at hF
 ·exact cfJ hG hF hres ho
 ·injection hF with hF;subst hF
  cases hres
 ·cases hF
end
end Pe
end Go.Proofs.YtcgiaclelnmhbabGreatDoor
