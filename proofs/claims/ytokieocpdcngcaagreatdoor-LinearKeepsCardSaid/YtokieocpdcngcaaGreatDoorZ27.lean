/- Part 27. -/
import Derived.Test.YtokieocpdcngcaaGreatDoorZ4
import Derived.Test.YtokieocpdcngcaaGreatDoorZ20
import Derived.Test.YtokieocpdcngcaaGreatDoorZ26
set_option linter.all false
open List (append_nil drop_drop mem_cons take_append_drop take_of_length_le)
open Nat (eq_of_beq_eq_true le_refl le_trans lt_of_le_of_lt)
open Rat (num_intCast)
noncomputable section

namespace Go.Proofs.YtokieocpdcngcaaGreatDoor
open Go Go.RowKit Go.Proofs Lim
open Go Go.RowKit Go.Proofs Lim
namespace Pe
inductive Dx where
 |q (r:Rat) (k:Nat)
 |rq (r:Rat) (k:Nat)
 |ls (L:Lt Dx)
def Dx.n:Dx->Nat
 |.q _ _=>4
 |.rq _ _=>3
 |.ls _=>1
mutual
inductive DIs:World->Dx->List Value->Prop
 |q {w:World} {r:Rat} {k:Nat} {l:List Value}:l.length=4->IsQ w (.agg l.toArray) r->Siz r k->DIs w (.q r k) l
 |rq {w:World} {r:Rat} {k:Nat} {l:List Value}:l.length=3->Sym.RQ w (.agg l.toArray) r->Siz r k->DIs w (.rq r k) l
 |nil {w:World} {L:Lt Dx} {a:Option Addr}:L.n=0->DIs w (.ls L) [.slice a 0 0]
 |ls {w:World} {L:Lt Dx} (k o c:Nat) (arr:Array Value) (pre vs rest:List Value):L.n<=c->(∃ fr,w.heap[k]?=some (.cells arr L.ty fr))->arr.toList=pre++vs++rest->pre.length=o->vs.length=L.n*L.z->L.lo<=k->(∀ v∈vs,v.oneCell'=true)->
  (∀ j,j<L.n->GsI w (L.g j) ((vs.drop (j*L.z)).take L.z))->DIs w (.ls L) [.slice (some ⟨k,o,none⟩) L.n c]
inductive GsI:World->List (Grp Dx)->List Value->Prop
 |nil {w:World}:GsI w [] []
 |lit {w:World} {v:Value} {gs:List (Grp Dx)} {vs:List Value}:GsI w gs vs->GsI w (.lit v::gs) (v::vs)
 |cls {w:World} {d:Dx} {gs:List (Grp Dx)} {us vs:List Value}:DIs w d us->GsI w gs vs->GsI w (.cls d::gs) (us++vs)
end
def okX (b:Bool) (t:Nat):Bool :=
 match Nat.beq t 47 with
 |true=>false
 |false=>match Nat.beq t 145 with
  |true=>false
  |false=>match Nat.beq t 3 with
   |true=>!b
   |false=>true
noncomputable def Sx (b:Bool) (lo:Nat):Stat Dx:=⟨Tryz.prog,Dx.n,okX b,.ls,fun d=>match d with
 |.ls L=>some L
 |_=>none,lo⟩
noncomputable def Cx (b:Bool) (lo:Nat) (w0:World):Ctx Dx:={ Sx b lo with E:=fun d w l=>DIs w d l,w0:=w0 }
theorem DIs.len {w:World}{d:Dx}{l:List Value}(h:DIs w d l):l.length=d.n:=by
 cases h with
 |q h=>exact h
 |rq h=>exact h
 |nil h=>rfl
 |ls=>rfl
theorem Zy {b:Bool}{lo:Nat}{w0 w:World}:∀ {gs:List (Grp Dx)}{vs:List Value},cu (Cx b lo w0) w gs vs->GsI w gs vs
 |[],vs,h=>by rw[show vs=[] from h];exact .nil
 |.lit v::gs,vs,h=>by
  have h1:vs.take 1=[v]:=h.1;rw[← take_append_drop 1 vs,h1];exact .lit (Zy h.2)
 |.cls d::gs,vs,h=>by
  rw[← take_append_drop d.n vs];exact .cls h.1 (Zy h.2)
theorem EE {b:Bool}{lo:Nat}{w0 w:World}:∀ {gs:List (Grp Dx)}{vs:List Value},GsI w gs vs->cu (Cx b lo w0) w gs vs
 |[],vs,h=>by cases h;rfl
 |.lit v::gs,vs,h=>by
  cases h with
  |lit h=>exact⟨rfl,EE h⟩
 |.cls d::gs,vs,h=>by
  cases h with
  |@cls _ _ us vs h1 h2 =>
   have hl:=h1.len;refine⟨?_,?_⟩
   ·show DIs w d ((us++vs).take d.n);rw[← hl,List.take_left];exact h1
   ·show cu (Cx b lo w0) w gs ((us++vs).drop d.n);rw[← hl,List.drop_left];exact EE h2
theorem form4 {w:World}{l:List Value}{r:Rat}(h:IsQ w (.agg l.toArray) r):∃ s a b p,l=[.bool s,u a,u b,.pointer p]:=by
 obtain⟨s,a,b,p,hv⟩:=h.form;injection hv with hv
 exact⟨s,a,b,p,by simpa using congrArg Array.toList hv⟩
theorem form3 {w:World}{l:List Value}{r:Rat}(h:Sym.RQ w (.agg l.toArray) r):∃ s x nx cx y ny cy,l=[.bool s,.slice x nx cx,.slice y ny cy]:=by
 obtain⟨a,b,hv,⟨ao,cap,rfl,_⟩,⟨ao',cap',rfl,_⟩⟩:=h;injection hv with hv
 exact⟨_,_,_,_,_,_,_,by simpa using congrArg Array.toList hv⟩
theorem cx_ok {b:Bool}{lo:Nat}{w0:World}(hlo:lo<=w0.heap.size):(Cx b lo w0).Ok:=by
 refine⟨?_,?_,hlo,?_,?_,by kernel_rfl⟩
 ·intro L w v h;rcases h with⟨h1,a,rfl⟩|⟨k,o,c,arr,pre,vs,rest,rfl,h2,h3,h4,h5,h6,h7,h8,h9⟩
  ·exact .nil h1
  ·exact .ls k o c arr pre vs rest h2 h3 h4 h5 h6 h7 h8 (fun j hj=>Zy (h9 j hj))
 ·intro d L w l hd h;cases d with
  |q r k=>cases hd
  |rq r k=>cases hd
  |ls L' =>
   injection hd with hd;subst hd
   have h:DIs w (.ls L') l:=h;cases h with
   |nil h1=>exact⟨_,rfl,.inl ⟨h1,_,rfl⟩⟩
   |ls k o c arr pre vs rest h2 h3 h4 h5 h6 h7 h8 h9=>exact⟨_,rfl,.inr ⟨k,o,c,arr,pre,vs,rest,rfl,h2,h3,h4,h5,h6,h7,h8,fun j hj=>EE (h9 j hj)⟩⟩
 ·intro d w l h v hv;have h:DIs w d l:=h;cases h with
  |q _ h2 _ =>
   obtain⟨s,a,b,p,rfl⟩:=form4 h2;simp at hv;rcases hv with rfl|rfl|rfl|rfl<;>rfl
  |rq _ h2 _ =>
   obtain⟨s,x,nx,cx,y,ny,cy,rfl⟩:=form3 h2;simp at hv;rcases hv with rfl|rfl|rfl<;>rfl
  |nil h1=>simp at hv;subst hv;rfl
  |ls=>simp at hv;subst hv;rfl
 ·intro d w l h;exact DIs.len h
theorem natK {W W':World}{v:Value}{n:Nat}(h:cg W v n) (hk:∀ (b:Nat) (cs:Array Value) (fr:Nat×Nat),W.heap[b]?=some (.cells cs 47 fr)->W'.heap[b]?=W.heap[b]?):cg W' v n:=by
 obtain⟨xs,⟨⟨ao,c,rfl,h1,h2,hr⟩,ok,typ⟩,htr,hv⟩:=h;refine⟨xs,⟨⟨ao,c,rfl,h1,h2,fun hn=>?_⟩,ok,?_⟩,htr,hv⟩
 ·obtain⟨b,off,rfl,row⟩:=hr hn;obtain⟨cs,fr,hc⟩:=typ ⟨b,off,none⟩ _ _ rfl hn;exact⟨b,off,rfl,fun i hi=>(World.cell?_of_block (w:=W) (a:=⟨b,off+i,none⟩) (hk b cs fr hc)).trans (row i hi)⟩
 ·intro a n c e hn;obtain⟨cs,fr,hc⟩:=typ a n c e hn;exact⟨cs,fr,(hk _ cs fr hc).trans hc⟩
def Um (b:Bool) (W W':World):Prop:=∀ (k:Nat) (cs:Array Value) (t:Nat) (fr:Nat×Nat),W.heap[k]?=some (.cells cs t fr)->okX b t=false->W'.heap[k]?=W.heap[k]?
theorem okX_u (b:Bool):okX b 47=false:=by cases b<;>rfl
theorem okX_w (b:Bool):okX b 145=false:=by cases b<;>rfl
theorem isqK {b:Bool}{W W':World}{v:Value}{r:Rat}(h:IsQ W v r) (hk:Um b W W'):IsQ W' v r:=by
 have h:Num W v _ _ _:=h;show Num W' v _ _ _;cases h with
 |low l hv hd hn hdB=>exact .low l hv hd hn hdB
 |wide k x y hv hx hy h1 h2 hB h0 hd =>
  obtain⟨cs,hc⟩:=hB.2;have hb:=hk k cs _ _ hc (okX_w b);have hn:∀ (k:Nat) (cs:Array Value) (fr:Nat×Nat),W.heap[k]?=some (.cells cs 47 fr)->W'.heap[k]?=W.heap[k]?:=fun k cs fr h=>hk k cs _ fr h (okX_u b);exact .wide k x y hv ((World.cell?_of_block (w:=W) (a:=⟨k,0,none⟩) hb).trans hx) ((World.cell?_of_block (w:=W) (a:=⟨k,1,none⟩) hb).trans hy) (natK h1 hn) (natK h2 hn) ⟨hB.1,hB.2.to hb⟩ h0 hd
theorem dgK {W W':World}{v:Value}{ds:List Nat}(h:Sym.Dg W v ds) (hk:Um true W W'):Sym.Dg W' v ds:=by
 obtain⟨ao,cap,hv,h1,h2,h3⟩:=h;refine⟨ao,cap,hv,h1,h2,fun hn=>?_⟩;obtain⟨b,off,ha,⟨cs,fr,hc⟩,hr⟩:=h3 hn;have hb:=hk b cs _ fr hc rfl;exact⟨b,off,ha,⟨cs,fr,hb.trans hc⟩,fun i hi=>(World.cell?_of_block (w:=W) (a:=⟨b,off+i,none⟩) hb).trans (hr i hi)⟩
theorem rqK {W W':World}{v:Value}{r:Rat}(h:Sym.RQ W v r) (hk:Um true W W'):Sym.RQ W' v r:=by
 obtain⟨a,b,h1,h2,h3⟩:=h;exact⟨a,b,h1,dgK h2 hk,dgK h3 hk⟩
theorem GI {b:Bool}{C:Ctx Dx}(hC:C.okT=okX b) {w w' w'':World}{S:Nat->Prop}(hS:∀ k,S k->k<w.heap.size/\∃ o,w'.heap[k]?=some o/\yx C o) (hk:∀ k,k<w'.heap.size->¬ S k->w''.heap[k]?=w'.heap[k]?):Um b w' w'':=by
 intro k cs t fr hb ht;refine hk k (Array.getElem?_eq_some_iff.1 hb).1 (fun hs=>?_);obtain⟨_,o,h1,h2⟩:=hS k hs;rw[hb] at h1;injection h1 with h1
 subst h1;rcases h2 with⟨cs',t',h3,h4⟩|⟨r,h3⟩|⟨r,h3⟩
 ·injection h3 with _ h3 _
  rw[hC,← h3,ht] at h4;cases h4
 ·cases h3
 ·cases h3
theorem Zv {b:Bool}{C:Ctx Dx}(hC:C.okT=okX b) {w w':World}(hk:∀ k o,w.heap[k]?=some o->(C.w0.heap.size<=k\/¬ yx C o)->w'.heap[k]?=some o):Um b w w':=by
 intro k cs t fr h ht;rw[h];refine hk k _ h (.inr (fun ho=>?_));rcases ho with⟨cs',t',h3,h4⟩|⟨r,h3⟩|⟨r,h3⟩
 ·injection h3 with _ h3 _
  rw[hC,← h3,ht] at h4;cases h4
 ·cases h3
 ·cases h3
theorem Um.all {b:Bool}{w w':World}(h:∀ k,k<w.heap.size->w'.heap[k]?=w.heap[k]?):Um b w w':=fun k _ _ _ hk _=>h k (Array.getElem?_eq_some_iff.1 hk).1
section
variable {b:Bool}{lo:Nat}{w0:World}
theorem zD (r:Rat) (k:Nat):ky (Cx b lo w0) (.q r k):=by
 intro w w' f h _ hk;have h:DIs w (.q r k) f:=h;cases h with
 |q h1 h2 h3=>exact .q h1 (isqK h2 (Zv (b:=b) rfl hk)) h3
theorem zx (r:Rat) (k:Nat):ky (Cx true lo w0) (.rq r k):=by
 intro w w' f h _ hk;have h:DIs w (.rq r k) f:=h;cases h with
 |rq h1 h2 h3=>exact .rq h1 (rqK h2 (Zv (b:=true) rfl hk)) h3
theorem Gx {L:Lt Dx}(hl:w0.heap.size<=L.lo) (hd:∀ j,j<L.n->∀ d∈kU (L.g j),ky (Cx b lo w0) d):ky (Cx b lo w0) (.ls L):=by
 intro w w' f h hs hk;have h:DIs w (.ls L) f:=h;cases h with
 |nil h1=>exact .nil h1
 |ls k o c arr pre vs rest h2 h3 h4 h5 h6 h7 h8 h9=>exact .ls k o c arr pre vs rest h2 (h3.imp fun _ h3=>hk k _ h3 (.inl (le_trans hl h7))) h4 h5 h6 h7 h8 (fun j hj=>Zy (lo:=lo) (w0:=w0) (b:=b) (GF hs hk (hd j hj) (EE (h9 j hj))))
mutual
theorem DIs.grow {w w':World}(hk:∀ k,k<w.heap.size->w'.heap[k]?=w.heap[k]?):∀ {d:Dx}{l:List Value},DIs w d l->DIs w' d l
 |_,_,.q h1 h2 h3=>.q h1 (isqK (b:=true) h2 (.all hk)) h3
 |_,_,.rq h1 h2 h3=>.rq h1 (rqK h2 (.all hk)) h3
 |_,_,.nil h1=>.nil h1
 |_,_,.ls k o c arr pre vs rest h2 h3 h4 h5 h6 h7 h8 h9=>.ls k o c arr pre vs rest h2 (h3.imp fun _ h3=>(hk k (Array.getElem?_eq_some_iff.1 h3).1).trans h3) h4 h5 h6 h7 h8 (fun j hj=>GsI.grow hk (h9 j hj))
theorem GsI.grow {w w':World}(hk:∀ k,k<w.heap.size->w'.heap[k]?=w.heap[k]?):∀ {gs:List (Grp Dx)}{vs:List Value},GsI w gs vs->GsI w' gs vs
 |_,_,.nil=>.nil
 |_,_,.lit h=>.lit (GsI.grow hk h)
 |_,_,.cls h1 h2=>.cls (DIs.grow hk h1) (GsI.grow hk h2)
end
end
section
variable {b:Bool}{lo:Nat}{w0 w w':World}{v:Value}
theorem chO {r:Rat}(h:IsQ w v r):∃ l:List Value,v=.agg l.toArray/\l.length=4:=by
 obtain⟨s,a,b,p,hv⟩:=h.form;exact⟨[.bool s,u a,u b,.pointer p],by rw[hv],rfl⟩
theorem Yj {r:Rat}{k:Nat}(h:IsQ w v r) (z:Siz r k):Pat.is (Cx b lo w0) w (.agg [.cls (.q r k)]) v:=by
 obtain⟨l,rfl,hl⟩:=chO h;refine⟨l,⟨?_,?_⟩,rfl⟩
 ·show DIs w (.q r k) (l.take 4);rw[take_of_length_le (by omega)];exact .q hl h z
 ·show l.drop 4=[];exact List.drop_of_length_le (by omega)
theorem ceG {x y:Rat}{j k:Nat}(h:IsS w v x y) (za:Siz x j) (zb:Siz y k):Pat.is (Cx b lo w0) w (.agg [.cls (.q x j),.cls (.q y k)]) v:=by
 obtain⟨s1,a1,b1,p1,s2,a2,b2,p2,rfl,h1,h2⟩:=h;exact⟨[.bool s1,u a1,u b1,.pointer p1,.bool s2,u a2,u b2,.pointer p2],⟨.q rfl h1 za,.q rfl h2 zb,rfl⟩,rfl⟩
theorem issK {b:Bool}{W W':World}{v:Value}{x y:Rat}(h:IsS W v x y) (hk:Um b W W'):IsS W' v x y:=by
 obtain⟨s1,a1,b1,p1,s2,a2,b2,p2,rfl,h1,h2⟩:=h;exact⟨s1,a1,b1,p1,s2,a2,b2,p2,rfl,isqK h1 hk,isqK h2 hk⟩
theorem rob_q {r:Rat}{k:Nat}(h:IsQ w' v r) (z:Siz r k):KS (Cx b lo w0) w w' (.val (.agg [.cls (.q r k)])) v :=
 fun _ hS _ _ hk=>Yj (isqK h (GI (b:=b) rfl hS hk)) z
theorem rob_s {x y:Rat}{j k:Nat}(h:IsS w' v x y) (za:Siz x j) (zb:Siz y k):KS (Cx b lo w0) w w' (.val (.agg [.cls (.q x j),.cls (.q y k)])) v :=
 fun _ hS _ _ hk=>ceG (issK h (GI (b:=b) rfl hS hk)) za zb
theorem EW {x:Value}:KS (Cx b lo w0) w w' (.val (.one (.lit x))) x:=fun _ _ _ _ _=>rfl
theorem ccY {r:Rat}{k:Nat}{x y:Value}(h:IsQ w' y r) (z:Siz r k):KS (Cx b lo w0) w w' (.tup [.agg [.cls (.q r k)],.one (.lit x)]) (.tuple #[y,x]) :=
 fun _ hS _ _ hk=>⟨[y,x],⟨_,_,rfl,Yj (isqK h (GI (b:=b) rfl hS hk)) z,_,_,rfl,rfl,rfl⟩,rfl⟩
theorem rob_qq {r s:Rat}{k:Nat}{x y:Value}(h:IsQ w' x r) (h':IsQ w' y s) (z:Siz r k) (z':Siz s k):KS (Cx b lo w0) w w' (.tup [.agg [.cls (.q r k)],.agg [.cls (.q s k)]]) (.tuple #[x,y]) :=
 fun _ hS _ _ hk=>⟨[x,y],⟨_,_,rfl,Yj (isqK h (GI (b:=b) rfl hS hk)) z,_,_,rfl,Yj (isqK h' (GI (b:=b) rfl hS hk)) z',rfl⟩,rfl⟩
end
def qsOf:List (Grp Dx)->Option ((Rat×Nat)×List (Grp Dx))
 |.cls (.q r k)::l=>some ((r,k),l)
 |.lit (.bool b)::.lit (.int .u64 (.ofNat x))::.lit (.int .u64 (.ofNat y))::.lit (.pointer none)::l=>match b,Nat.beq x 0,Nat.beq y 0 with
  |false,true,true=>some ((0,1),l)
  |_,_,_=>none
 |_=>none
def qOf:Pat Dx->Option (Rat×Nat)
 |.agg gs=>match qsOf gs with
  |some (x,[])=>some x
  |_=>none
 |_=>none
def spOf:Pat Dx->Option ((Rat×Nat)×(Rat×Nat))
 |.agg gs=>match qsOf gs with
  |some (x,gs')=>match qsOf gs' with
   |some (y,[])=>some (x,y)
   |_=>none
  |none=>none
 |_=>none
def rOf:Pat Dx->Option (Rat×Nat)
 |.agg [.cls (.rq r k)]=>some (r,k)
 |_=>none
def lOf:Pat Dx->Option (Lt Dx)
 |.one (.cls (.ls L))=>some L
 |_=>none
theorem zq_is (w:World):IsQ w (.agg #[.bool false,.int .u64 0,.int .u64 0,.pointer none]) 0:=Num.low 0 rfl rfl jk (show 1<B by decide)
section
variable {b:Bool}{lo:Nat}{w0 w:World}{v:Value}
theorem Gz {gs gs':List (Grp Dx)}{r:Rat}{k:Nat}{vs:List Value}(h:qsOf gs=some ((r,k),gs')) (hv:cu (Cx b lo w0) w gs vs):∃ xs ys,vs=xs++ys/\DIs w (.q r k) xs/\cu (Cx b lo w0) w gs' ys:=by
 unfold qsOf at h;split at h
 ·injection h with h
  simp only[Prod.mk.injEq] at h;obtain⟨⟨rfl,rfl⟩,rfl⟩:=h;exact⟨vs.take 4,vs.drop 4,(take_append_drop 4 vs).symm,hv.1,hv.2⟩
 ·rename_i b x y l;split at h
  ·rename_i h1 h2;injection h with h
   simp only[Prod.mk.injEq] at h;obtain⟨⟨rfl,rfl⟩,rfl⟩:=h;have h1:=eq_of_beq_eq_true h1;have h2:=eq_of_beq_eq_true h2;subst h1;subst h2;obtain⟨q1,q2,q3,q4,q5⟩:=hv;have hvs:vs=[.bool false,u 0,u 0,.pointer none]++vs.drop 4:=by
    match vs,q1,q2,q3,q4 with
    |[],q1,_,_,_=>cases q1
    |[_],_,q2,_,_=>cases q2
    |[_,_],_,_,q3,_=>cases q3
    |[_,_,_],_,_,_,q4=>cases q4
    |a::b::c::d::l,q1,q2,q3,q4 =>
     injection q1 with q1 _
     injection q2 with q2 _
     injection q3 with q3 _
     injection q4 with q4 _
     rw[q1,q2,q3,q4];rfl
   exact⟨_,_,hvs,.q rfl (zq_is _) (Siz.zero _ (by decide)),by
    have h4:(((vs.drop 1).drop 1).drop 1).drop 1=vs.drop 4:=by simp [drop_drop]
    rw[← h4];exact q5⟩
  ·cases h
 ·cases h
theorem dis_q {r:Rat}{k:Nat}{l:List Value}(h:DIs w (.q r k) l):l.length=4/\IsQ w (.agg l.toArray) r/\Siz r k:=by
 cases h with
 |q h1 h2 h3=>exact⟨h1,h2,h3⟩
theorem dis_r {r:Rat}{k:Nat}{l:List Value}(h:DIs w (.rq r k) l):l.length=3/\Sym.RQ w (.agg l.toArray) r/\Siz r k:=by
 cases h with
 |rq h1 h2 h3=>exact⟨h1,h2,h3⟩
theorem Js {p:Pat Dx}{r:Rat}{k:Nat}(h:qOf p=some (r,k)) (hp:p.is (Cx b lo w0) w v):IsQ w v r/\Siz r k:=by
 unfold qOf at h;split at h
 ·split at h
  ·rename_i gs x hq;injection h with h;subst h
   obtain⟨vs,h1,rfl⟩:=hp;obtain⟨xs,ys,rfl,h2,h3⟩:=Gz hq h1;rw[show ys=[] from h3,append_nil];exact(dis_q h2).2
  ·cases h
 ·cases h
theorem UN {p:Pat Dx}{x y:Rat}{j k:Nat}(h:spOf p=some ((x,j),(y,k))) (hp:p.is (Cx b lo w0) w v):IsS w v x y/\Siz x j/\Siz y k:=by
 unfold spOf at h;split at h
 ·split at h
  ·rename_i gs x gs' hq;split at h
   ·rename_i y hq';injection h with h
    simp only[Prod.mk.injEq] at h;obtain⟨rfl,rfl⟩:=h;obtain⟨vs,h1,rfl⟩:=hp;obtain⟨xs,ys,rfl,h2,h3⟩:=Gz hq h1;obtain⟨xs',ys',rfl,h4,h5⟩:=Gz hq' h3;rw[show ys'=[] from h5,append_nil];have h2:=dis_q h2;have h4:=dis_q h4;obtain⟨s1,a1,b1,p1,rfl⟩:=form4 h2.2.1;obtain⟨s2,a2,b2,p2,rfl⟩:=form4 h4.2.1;exact⟨⟨s1,a1,b1,p1,s2,a2,b2,p2,rfl,h2.2.1,h4.2.1⟩,h2.2.2,h4.2.2⟩
   ·cases h
  ·cases h
 ·cases h
theorem cdo {p:Pat Dx}{r:Rat}{k:Nat}(h:rOf p=some (r,k)) (hp:p.is (Cx b lo w0) w v):Sym.RQ w v r/\Siz r k:=by
 unfold rOf at h;split at h
 ·injection h with h
  simp only[Prod.mk.injEq] at h;obtain⟨rfl,rfl⟩:=h;obtain⟨vs,⟨h1,h2⟩,rfl⟩:=hp;have h1:=dis_r h1;have hd:vs.drop 3=[]:=h2;have hl:vs.take 3=vs:=take_of_length_le (by have:=congrArg List.length hd;simp at this;omega);have h1:=h1.2;have h2:Sym.RQ w (.agg (vs.take 3).toArray) _/\_:=h1;rw[hl] at h2;exact h2
 ·cases h
end
def cdY:Nat->Nat->List Nat
 |0,_=>[]
 |f+1,n=>match Nat.beq n 0 with
  |true=>[]
  |false=>n%10::cdY f (n/10)
theorem cbY:∀ (f n:Nat),n<=f->cdY f n=ci n
 |0,n,h=>by
  obtain rfl:n=0:=by omega
  rw[jb];rfl
 |f+1,n,h=>by
  unfold cdY;split
  ·rename_i hb;rw[eq_of_beq_eq_true hb,jb]
  ·rename_i hb;have hn:n≠0:=by rintro rfl;simp at hb
   rw[jF hn,cbY f (n/10) (by omega)]
def revF:List Nat->List UInt8->List UInt8
 |[],acc=>acc
 |d::l,acc=>revF l (Gi d::acc)
theorem cep:∀ (l:List Nat) (acc:List UInt8),revF l acc=(l.map Gi).reverse++acc
 |[],acc=>rfl
 |d::l,acc=>by rw[revF,cep l];simp
def caz (n:Nat):List UInt8:=match Nat.beq n 0 with
 |true=>[48]
 |false=>revF (cdY n n) []
theorem Za (n:Nat):caz n=cO n:=by
 unfold caz cO;split
 ·rename_i hb;rw[if_pos (eq_of_beq_eq_true hb)]
 ·rename_i hb;rw[if_neg (by rintro rfl;simp at hb),cep,cbY n n (le_refl _),append_nil]
def cdq (r:Rat):List UInt8:=(match decide (r.num<0) with
 |true=>[45]
 |false=>[])++(caz r.num.natAbs++(match Nat.beq r.den 1 with
 |true=>[]
 |false=>47::caz r.den))
theorem cfz (r:Rat):cdq r=Gd r:=by
 unfold cdq Gd;rw[Za,Za];have h2:Nat.beq r.den 1=decide (r.den=1):=by
  by_cases h:r.den=1
  ·rw[h];rfl
  ·rw[decide_eq_false h];cases hb:Nat.beq r.den 1 with
   |false=>rfl
   |true=>exact absurd (eq_of_beq_eq_true hb) h
 rw[h2];by_cases h1:r.num<0<;>by_cases h3:r.den=1<;>simp [h1,h3]
abbrev Con:=List (Pat Dx)->Option (cK Dx×List Prop)
def ck (m:Bool) (p:Prop) [Decidable p] (r:cK Dx):Option (cK Dx×List Prop):=match m with
 |true=>match decide p with
  |true=>some (r,[])
  |false=>none
 |false=>some (r,[p])
theorem zd {m:Bool}{p:Prop}[Decidable p] {r res:cK Dx}{ob:List Prop}(h:ck m p r=some (res,ob)) (ho:jc ob):p/\res=r:=by
 unfold ck at h;split at h
 ·split at h
  ·rename_i hp;injection h with h;injection h with h1 h2
   exact⟨of_decide_eq_true hp,h1.symm⟩
  ·cases h
 ·injection h with h;injection h with h1 h2;subst h2
  exact⟨ho.1,h1.symm⟩
abbrev qr (r:Rat) (k:Nat):cK Dx:=.val (.agg [.cls (.q r k)])
abbrev rr (r:Rat) (k:Nat):cK Dx:=.val (.agg [.cls (.rq r k)])
abbrev sr (a:Rat) (j:Nat) (b:Rat) (k:Nat):cK Dx:=.val (.agg [.cls (.q a j),.cls (.q b k)])
abbrev vr (x:Value):cK Dx:=.val (.one (.lit x))
def q1 (f:Rat->Nat->Option (cK Dx×List Prop)):Con
 |[p]=>match qOf p with
  |some (r,k)=>f r k
  |none=>none
 |_=>none
def q2 (f:Rat->Nat->Rat->Nat->Option (cK Dx×List Prop)):Con
 |[p,p']=>match qOf p,qOf p' with
  |some (r,j),some (s,k)=>f r j s k
  |_,_=>none
 |_=>none
def r1 (f:Rat->Nat->Option (cK Dx×List Prop)):Con
 |[p]=>match rOf p with
  |some (r,k)=>f r k
  |none=>none
 |_=>none
def r2 (f:Rat->Nat->Rat->Nat->Option (cK Dx×List Prop)):Con
 |[p,p']=>match rOf p,rOf p' with
  |some (r,j),some (s,k)=>f r j s k
  |_,_=>none
 |_=>none
def s2 (f:Rat->Nat->Rat->Nat->Rat->Nat->Rat->Nat->Option (cK Dx×List Prop)):Con
 |[p,p']=>match spOf p,spOf p' with
  |some ((a,i),(b,j)),some ((c,k),(d,l))=>f a i b j c k d l
  |_,_=>none
 |_=>none
def sq (f:Rat->Nat->Rat->Nat->Rat->Nat->Option (cK Dx×List Prop)):Con
 |[p,p']=>match spOf p,qOf p' with
  |some ((a,i),(b,j)),some (c,k)=>f a i b j c k
  |_,_=>none
 |_=>none
def i1 (f:Int->Option (cK Dx×List Prop)):Con
 |[.one (.lit (.int .i64 i))]=>f i
 |_=>none
def i2 (f:Int->Int->Option (cK Dx×List Prop)):Con
 |[.one (.lit (.int .i64 i)),.one (.lit (.int .i64 j))]=>f i j
 |_=>none
def t1 (f:List UInt8->Option (cK Dx×List Prop)):Con
 |[.one (.lit (.string ⟨⟨l⟩⟩))]=>f l
 |_=>none
abbrev yu (i:Int):Prop:=-9223372036854775808<=i/\i<=9223372036854775807
def ceg (m:Bool) (r:Rat) (j:Nat) (s:Rat) (k:Nat):Option (cK Dx×List Prop):=match m,decide (s.num=0) with
 |true,true=>some (.tup [.agg [.cls (.q 0 1)],.one (.lit (.int .i64 10))],[])
 |m,_=>ck m (s.num≠0/\j+k<=1000000) (.tup [.agg [.cls (.q (r/s) (j+k))],.one (.lit (.int .i64 0))])
def tabX (m:Bool):List (Nat×Con):=[
 (71,q2 fun r j s k=>ck m (j+k<=1000000) (qr (r*s) (j+k))),
 (51,q2 fun r j s k=>ck m (j+k<=1000000) (vr (.int .i64 (uu r s)))),
 (81,q1 fun r _=>some (vr (.int .i64 (zl r)),[])),
 (46,q1 fun r k=>some (qr (-r) k,[])),
 (14,q1 fun r k=>ck m (k<=1000000) (vr (str (cdq r)))),
 (87,q2 (ceg m)),
 (59,i1 fun i=>ck m (yu i) (qr (i:Rat) 1)),
 (52,i2 fun i j=>ck m (yu i/\yu j/\j≠0) (.tup [.agg [.cls (.q ((i:Rat)/(j:Rat)) 2)],.one (.lit (.int .i64 0))])),
 (107,q1 fun r k=>some (qr (if r.num<0 then -r else r) k,[])),
 (136,q1 fun r k=>some (.tup [.agg [.cls (.q (r.num:Rat) k)],.agg [.cls (.q (((r.den:Nat):Int):Rat) k)]],[])),
 (83,q2 fun r j s k=>ck m (j+k+1<=1000000) (qr (r+s) (j+k+1)))]
end Pe
namespace Pe
section
variable {bb:Bool}{lo:Nat}{w0:World}
abbrev caK (bb:Bool) (lo:Nat) (w0:World) (w:World) (res:cK Dx):Ending->World->Prop:=fun e w'=>∃ v,e=.returned v/\Below w.heap.size w w'/\KS (Cx bb lo w0) w w' res v
theorem WX {f:Nat}{g:Rat->Nat->Option (cK Dx×List Prop)}{args:List (Pat Dx)}{res:cK Dx}{ob:List Prop}(h:q1 g args=some (res,ob)) (hE:Enters Tryz.prog f)
 (hc:∀ r k,g r k=some (res,ob)->∀ w v,Below w0.heap.size w0 w->IsQ w v r->Siz r k->Calls Tryz.prog f #[v] w (caK bb lo w0 w res)):cZ (Cx bb lo w0) (.call f) args res:=by
 refine⟨hE,fun w vs hb hvs=>?_⟩;unfold q1 at h;split at h
 ·rename_i p;split at h
  ·rename_i r k hq;obtain⟨v,_,rfl,h1,rfl⟩:=hvs;have h1:=Js hq h1;exact hc r k h w v hb h1.1 h1.2
  ·cases h
 ·cases h
theorem caN {f:Nat}{g:Rat->Nat->Rat->Nat->Option (cK Dx×List Prop)}{args:List (Pat Dx)}{res:cK Dx}{ob:List Prop}(h:q2 g args=some (res,ob)) (hE:Enters Tryz.prog f)
 (hc:∀ r j s k,g r j s k=some (res,ob)->∀ w v1 v2,Below w0.heap.size w0 w->IsQ w v1 r->Siz r j->IsQ w v2 s->Siz s k->Calls Tryz.prog f #[v1,v2] w (caK bb lo w0 w res)):cZ (Cx bb lo w0) (.call f) args res:=by
 refine⟨hE,fun w vs hb hvs=>?_⟩;unfold q2 at h;split at h
 ·split at h
  ·rename_i r j s k hq hq';obtain⟨v1,_,rfl,h1,v2,_,rfl,h2,rfl⟩:=hvs;have h1:=Js hq h1;have h2:=Js hq' h2;exact hc r j s k h w v1 v2 hb h1.1 h1.2 h2.1 h2.2
  ·cases h
 ·cases h
theorem ent_i1 {f:Nat}{g:Int->Option (cK Dx×List Prop)}{args:List (Pat Dx)}{res:cK Dx}{ob:List Prop}(h:i1 g args=some (res,ob)) (hE:Enters Tryz.prog f)
 (hc:∀ i,g i=some (res,ob)->∀ w,Below w0.heap.size w0 w->Calls Tryz.prog f #[.int .i64 i] w (caK bb lo w0 w res)):cZ (Cx bb lo w0) (.call f) args res:=by
 refine⟨hE,fun w vs hb hvs=>?_⟩;unfold i1 at h;split at h
 ·rename_i i;obtain⟨v1,_,rfl,h1,rfl⟩:=hvs;have h1:[v1]=[.int .i64 i]:=h1;injection h1 with h1 _
  subst h1;exact hc i h w hb
 ·cases h
theorem ent_i2 {f:Nat}{g:Int->Int->Option (cK Dx×List Prop)}{args:List (Pat Dx)}{res:cK Dx}{ob:List Prop}(h:i2 g args=some (res,ob)) (hE:Enters Tryz.prog f)
 (hc:∀ i j,g i j=some (res,ob)->∀ w,Below w0.heap.size w0 w->Calls Tryz.prog f #[.int .i64 i,.int .i64 j] w (caK bb lo w0 w res)):cZ (Cx bb lo w0) (.call f) args res:=by
 refine⟨hE,fun w vs hb hvs=>?_⟩;unfold i2 at h;split at h
 ·rename_i i j;obtain⟨v1,_,rfl,h1,v2,_,rfl,h2,rfl⟩:=hvs;have h1:[v1]=[.int .i64 i]:=h1;have h2:[v2]=[.int .i64 j]:=h2;injection h1 with h1 _
  injection h2 with h2 _
  subst h1;subst h2;exact hc i j h w hb
 ·cases h
theorem cbo {w:World}{r:Rat}{k:Nat}(z:Siz r k) {e:Ending}{w':World}(h:uF w r e w'):caK bb lo w0 w (qr r k) e w':=by
 obtain⟨v,he,hv,hb⟩:=h;exact⟨v,he,hb,rob_q hv z⟩
theorem res_v {w:World}{x:Value}{e:Ending}{w':World}(h:Val w x e w'):caK bb lo w0 w (vr x) e w':=⟨x,h.1,h.2,EW⟩
theorem ceH {m:Bool}(hG:Gr w0) {f:Nat}{F:Con}{args:List (Pat Dx)}{res:cK Dx}{ob:List Prop}(hF:find f (tabX m)=some F) (hres:F args=some (res,ob)) (ho:jc ob):cZ (Cx bb lo w0) (.call f) args res:=by
 have hG':∀ w,Below w0.heap.size w0 w->Gr w:=fun w hb=>hG.below hb hG.size;have hm:=jG hF;simp only[tabX,mem_cons,Prod.mk.injEq,List.not_mem_nil,or_false] at hm;rcases hm with⟨rfl,rfl⟩|⟨rfl,rfl⟩|⟨rfl,rfl⟩|⟨rfl,rfl⟩|⟨rfl,rfl⟩|⟨rfl,rfl⟩|⟨rfl,rfl⟩|⟨rfl,rfl⟩|⟨rfl,rfl⟩|⟨rfl,rfl⟩|⟨rfl,rfl⟩
 ·refine caN hres (enters_of Tryz.func71 (by kernel_rfl) rfl) (fun r j s k h w v1 v2 hb a1 z1 a2 z2=>?_);obtain⟨hk,rfl⟩:=zd h ho;exact(ceB v1 v2 r s (j+k) w a1 a2 (z1.le (by omega)) (z2.le (by omega)) (by omega) (hG' w hb)).mono fun _ _ h=>cbo (z1.mul z2) h
 ·refine caN hres (enters_of Tryz.func51 (by kernel_rfl) rfl) (fun r j s k h w v1 v2 hb a1 z1 a2 z2=>?_);obtain⟨hk,rfl⟩:=zd h ho;exact(cmp_q v1 v2 r s (j+k) w a1 a2 (z1.le (by omega)) (z2.le (by omega)) (by omega)).mono fun _ _ h=>res_v h
 ·refine WX hres (enters_of Tryz.func81 (by kernel_rfl) rfl) (fun r k h w v hb a1 z1=>?_);injection h with h;injection h with h _;subst h
  exact(caw v r w a1).mono fun _ _ h=>res_v h
 ·refine WX hres (enters_of Tryz.func46 (by kernel_rfl) rfl) (fun r k h w v hb a1 z1=>?_);injection h with h;injection h with h _;subst h
  exact(neg_q v r w a1).mono fun _ _ h=>cbo z1.neg h
 ·refine WX hres (enters_of Tryz.func14 (by kernel_rfl) rfl) (fun r k h w v hb a1 z1=>?_);obtain⟨hk,rfl⟩:=zd h ho;refine(text_q v r k w a1 z1 (by omega)).mono fun _ _ h=>?_;rw[cfz];exact⟨_,h.1,h.2,EW⟩
 ·refine caN hres (enters_of Tryz.func87 (by kernel_rfl) rfl) (fun r j s k h w v1 v2 hb a1 z1 a2 z2=>?_);unfold ceg at h;split at h
  ·rename_i h0;injection h with h;injection h with h _;subst h
   refine(Zz v1 v2 r s w a1 a2 (of_decide_eq_true h0)).mono ?_;rintro e w' ⟨rfl,hb'⟩;exact⟨_,rfl,hb',ccY (zq_is _) (Siz.zero _ (by decide))⟩
  ·obtain⟨⟨h0,hk⟩,rfl⟩:=zd h ho;refine(over_q v1 v2 r s (j+k) w a1 a2 h0 (z1.le (by omega)) (z2.le (by omega)) (by omega) (hG' w hb)).mono ?_;rintro e w' ⟨v,rfl,hv,hb'⟩;exact⟨_,rfl,hb',ccY hv (z1.div z2 h0)⟩
 ·refine ent_i1 hres (enters_of Tryz.func59 (by kernel_rfl) rfl) (fun i h w hb=>?_);obtain⟨h0,rfl⟩:=zd h ho;exact(int_q i h0.1 h0.2 w).mono fun _ _ h=>cbo (yT i h0.1 h0.2) h
 ·refine ent_i2 hres (enters_of Tryz.func52 (by kernel_rfl) rfl) (fun i j h w hb=>?_);obtain⟨⟨h1,h2,h3⟩,rfl⟩:=zd h ho;refine(of_q i j h1.1 h1.2 h2.1 h2.2 w (hG' w hb)).mono ?_;rintro e w' (⟨h0,_⟩|⟨_,v,rfl,hv,hb'⟩)
  ·exact absurd h0 h3
  ·exact⟨_,rfl,hb',ccY hv ((yT i h1.1 h1.2).div (yT j h2.1 h2.2) (by rw[num_intCast];exact h3))⟩
 ·refine WX hres (enters_of Tryz.func107 (by kernel_rfl) rfl) (fun r k h w v hb a1 z1=>?_);injection h with h;injection h with h _;subst h
  exact(abs_q v r w a1).mono fun _ _ h=>cbo (by split;exact z1.neg;exact z1) h
 ·refine WX hres (enters_of Tryz.func136 (by kernel_rfl) rfl) (fun r k h w v hb a1 z1=>?_);injection h with h;injection h with h _;subst h
  refine(parts_q v r w a1).mono ?_;rintro e w' ⟨x,y,rfl,h1,h2,hb'⟩;have hd:=r.den_pos;exact⟨_,rfl,hb',rob_qq h1 h2 ⟨by rw[num_intCast];exact z1.1,by rw[Rat.den_intCast];exact lt_of_le_of_lt hd z1.2⟩ ⟨by rw[num_intCast];exact z1.2,by rw[Rat.den_intCast];exact lt_of_le_of_lt hd z1.2⟩⟩
 ·refine caN hres (enters_of Tryz.func83 (by kernel_rfl) rfl) (fun r j s k h w v1 v2 hb a1 z1 a2 z2=>?_);obtain⟨hk,rfl⟩:=zd h ho;exact(plus_q v1 v2 r s (j+k+1) w a1 a2 (z1.le (by omega)) (z2.le (by omega)) (by omega) (hG' w hb)).mono fun _ _ h=>cbo (z1.add z2) h
end
end Pe
end Go.Proofs.YtokieocpdcngcaaGreatDoor
