/- Part 3. -/
import Derived.Test.YtcgiaclelnmhbabGreatDoorE2
set_option linter.all false
noncomputable section

namespace Go.Proofs.YtcgiaclelnmhbabGreatDoor
open Go Go.RowKit Go.Proofs
namespace Pe
variable {D:Type}
def Kn (csz:D->Nat):List (Grp D)->Nat
 |[]=>0
 |g::gs=>g.n csz+Kn csz gs
theorem ZV {csz:D->Nat}:∀ {gs r:List (Grp D)}{m:Nat},CE csz gs m=some r->Kn csz r=m
 |[],r,0,h=>by simp [CE] at h;subst h;rfl
 |_::_,r,0,h=>by simp [CE] at h;subst h;rfl
 |[],r,m+1,h=>by simp [CE] at h
 |g::gs,r,m+1,h=>by
  unfold CE at h;split at h
  ·rename_i hle;have hle:=jh hle;split at h
   ·rename_i l hl;injection h with h;subst h
    have:=ZV hl;simp only[Kn,this];omega
   ·cases h
  ·cases h
theorem ccc {C:Ctx D}(hC:C.Ok) {w:World}:∀ {gs:List (Grp D)}{vs:List Value},Gw C w gs vs->vs.length=Kn C.csz gs
 |[],vs,h=>by rw[show vs=[] from h];rfl
 |g::gs,vs,h=>by
  have h1:=cbr hC h.1;have h2:=ccc hC h.2;rw[ji] at h1;rw[kL] at h2;simp only[Kn];omega
theorem ciN {csz:D->Nat}{gs r:List (Grp D)}{o m:Nat}(h:subG csz gs o m=some r):Kn csz r=m:=by
 unfold subG at h;split at h
 ·exact ZV h
 ·cases h
def ZQ (S:Stat D) (n0:Nat) (t:TypeId) (p:Epo D):Option (Out D) :=
 match S.P.underlying t with
 |some d=>match KW d with
  |true=>match S.P.info? t with
   |some inf=>match subG S.csz (p.L.g p.i) p.o inf.size with
    |some gs=>match cji S.csz n0 gs with
     |(cs,ws,n1)=>some ⟨.val (.agg cs),ws,n1,[p.i<p.L.n]⟩
    |none=>none
   |none=>none
  |false=>match subG S.csz (p.L.g p.i) p.o 1 with
   |some gs=>match cji S.csz n0 gs with
    |([c],ws,n1)=>some ⟨.val (.one c),ws,n1,[p.i<p.L.n]⟩
    |_=>none
   |none=>none
 |none=>none
def putG (g:Nat->List (Grp D)) (i:Nat) (x:List (Grp D)):Nat->List (Grp D):=fun j=>match Nat.beq j i with
 |true=>x
 |false=>g j
def CQ (n:Nat) (g h:Nat->List (Grp D)):Nat->List (Grp D):=fun j=>match Nat.blt j n with
 |true=>g j
 |false=>h (j-n)
def takeZ (csz:D->Nat) (gs:List (Grp D)) (o:Nat):Option (List (Grp D)):=match o with
 |0=>some []
 |o+1=>CE csz gs (o+1)
def dropZ (csz:D->Nat) (gs:List (Grp D)) (m z:Nat):Option (List (Grp D)):=match Nat.beq m z with
 |true=>some []
 |false=>UD csz gs m
theorem chA {C:Ctx D}{w:World}{gs r:List (Grp D)}{o:Nat}{vs:List Value}(h:takeZ C.csz gs o=some r) (hv:Gw C w gs vs):Gw C w r (vs.take o):=by
 unfold takeZ at h;split at h
 ·injection h with h;subst h;rfl
 ·exact WO h hv
theorem cia {C:Ctx D}{w:World}{gs r:List (Grp D)}{m z:Nat}{vs:List Value}(h:dropZ C.csz gs m z=some r) (hl:vs.length<=z) (hv:Gw C w gs vs):Gw C w r (vs.drop m):=by
 unfold dropZ at h;split at h
 ·rename_i hm;injection h with h;subst h
  rw[cn hm,List.drop_eq_nil_of_le hl];rfl
 ·exact Yk h hv
def KQ (S:Stat D) (M:ct D) (n0:Nat) (t:TypeId) (p:Epo D) (cs:List AC):Option (Out D) :=
 match p.own,S.P.info? t with
 |true,some inf=>match Nat.beq cs.length inf.size,CB (ky M) cs,uv S.csz M cs.length cs with
  |true,true,some gs=>match takeZ S.csz (p.L.g p.i) p.o,dropZ S.csz (p.L.g p.i) (p.o+cs.length) p.L.z,Nat.ble (p.o+cs.length) p.L.z with
   |some g1,some g2,true=>some ⟨cjl,[(p.id,.gl p.L.ty p.L.z p.L.n (putG p.L.g p.i (g1++(gs++g2))))],n0,[p.i<p.L.n]⟩
   |_,_,_=>none
  |_,_,_=>none
 |_,_=>none
def xIx (S:Stat D) (n0:Nat) (t:TypeId) (s:Src D) (j:Nat):Option (Out D) :=
 match ur S.P t with
 |some (_,inf)=>match Nat.beq inf.size s.L.z with
  |true=>some ⟨.val (.one (.fn n0)),[(n0,match s.own with
   |true=>.ep s.id j s.L.z 0
   |false=>.cp s.id j s.L.z 0)],n0+1,[j<s.L.n]⟩
  |false=>none
 |none=>none
def xFa (S:Stat D) (M:ct D) (n0:Nat) (s f:Nat):Option AV->Option (Out D)
 |some (.val (.one (.fn b)))=>match En S.P s f with
  |some fl=>match S.P.info? fl.type with
   |some inf=>match inf.size with
    |0=>none
    |_+1=>match M b with
     |some (.ep l i z o)=>some ⟨.val (.one (.fn n0)),[(n0,.ep l i z (o+fl.offset))],n0+1,[]⟩
     |some (.cp l i z o)=>some ⟨.val (.one (.fn n0)),[(n0,.cp l i z (o+fl.offset))],n0+1,[]⟩
     |_=>none
   |none=>none
  |none=>none
 |_=>none
def Yj (S:Stat D) (M:ct D) (z:Nat) (x:Option AV):Option (Nat×(Nat->List (Grp D))) :=
 match UZ S M x with
 |some s=>match Nat.beq s.L.z z with
  |true=>some (s.L.n,s.L.g)
  |false=>none
 |none=>match yO M z x with
  |some (1,cs)=>match CB (ky M) cs,uv S.csz M cs.length cs with
   |true,some gs=>some (1,fun _=>gs)
   |_,_=>none
  |_=>none
def cdI (S:Stat D) (M:ct D) (nil:Bool) (e z:Nat):Option AV->Option (Option Nat×Nat×(Nat->List (Grp D)))
 |some (.val (.one (.lit (.slice none 0 0))))=>match nil with
  |true=>some (none,0,fun _=>[])
  |false=>none
 |x=>match UZ S M x with
  |some s=>match s.own,Nat.beq s.L.z z,Nat.beq s.L.ty e with
   |true,true,true=>some (some s.id,s.L.n,s.L.g)
   |_,_,_=>none
  |none=>none
def cgg (b:Option Nat):Ws D:=match b with
 |some b=>[(b,.dead)]
 |none=>[]
def xApp (S:Stat D) (M:ct D) (n0:Nat) (nil:Bool) (ats:List Nat) (s x:Option AV):Option (Out D) :=
 match ats with
 |[t,t']=>match Nat.beq t t',ur S.P t with
  |true,some (e,i)=>match i.zero with
   |some z0=>match Nat.beq z0.cells.size i.size,Nat.blt 0 i.size,Nat.ble i.bytes 1000,S.okT e with
    |true,true,true,true=>match cdI S M nil e i.size s,Yj S M i.size x with
     |some (b,n,g),some (m,h)=>some ⟨.val (.one (.fn n0)),(n0,.gl e i.size (n+m) (CQ n g h))::cgg b,n0+1,[n+m<=1000000]⟩
     |_,_=>none
    |_,_,_,_=>none
   |none=>none
  |_,_=>none
 |_=>none
def xMk (S:Stat D) (n0:Nat) (t:TypeId):Option Value->Option Value->Option (Out D)
 |some (.int _ (.ofNat n)),some (.int _ (.ofNat m))=>match ur S.P t with
  |some (e,i)=>match i.zero with
   |some z0=>match Nat.beq z0.cells.size i.size,Nat.blt 0 i.size,Nat.ble i.bytes 1000,S.okT e with
    |true,true,true,true=>match CB (fun c=>match c with
     |.lit v=>v.oneCell'
     |_=>true) (z0.cells.toList.map .lit) with
     |false=>none
     |true=>some ⟨.val (.one (.fn n0)),[(n0,.gl e i.size n (fun _=>cfg z0.cells.toList))],n0+1,[n<=1000000,m=n]⟩
    |_,_,_,_=>none
   |none=>none
  |none=>none
 |_,_=>none
def xBs (S:Stat D) (n0:Nat) (t:TypeId):Option (Out D) :=
 match ur S.P t with
 |some (e,i)=>match i.zero with
  |some _=>match S.okT e with
   |true=>some ⟨.val (.one (.fn n0)),[(n0,.gl e i.size 0 (fun _=>[]))],n0+1,[]⟩
   |false=>none
  |none=>none
 |none=>none
def xBp (S:Stat D) (n0:Nat) (t:TypeId):Option (Out D) :=
 match ur S.P t with
 |some (e,i)=>match i.zero with
  |some _=>uu S n0 e [] none (.slc n0 0 0 0)
  |none=>none
 |none=>none
def xBox (S:Stat D) (M:ct D) (n0:Nat) (t:TypeId):Option AV->Option (Out D)
 |some (.val a)=>match CB (ky M) a.cells,uv S.csz M a.cells.length a.cells,Nat.blt 0 a.cells.length with
  |true,some gs,true=>some ⟨.val (.one (.fn (n0+1))),[(n0+1,.cp n0 0 a.cells.length 0),(n0,.cls (S.mkL ⟨S.lo,t,a.cells.length,1,fun _=>gs⟩))],n0+2,[]⟩
  |_,_,_=>none
 |_=>none
def glT (T:Tab D) (d:Nat):Bool:=match T d .gl with
 |some _=>true
 |none=>false
def EJ (V:cR):List (Nat×Operand)->Option (List (Nat×Value))
 |[]=>some []
 |p::l=>match yF? (CV V p.2) with
  |some v=>match EJ V l with
   |some vs=>some ((p.1,v)::vs)
   |none=>none
  |none=>none
def xSl (S:Stat D) (n0:Nat) (t:TypeId):Option (Src D)->Option (Option Nat)->Option (Option Nat)->Option (Out D)
 |some s,some l,some h=>match s.own,ur S.P t with
  |false,some (_,i)=>match Nat.beq i.size s.L.z with
   |true=>some ⟨.val (.one (.sym n0 0)),[(n0,.cls (S.mkL ⟨s.L.lo,s.L.ty,s.L.z,h.getD s.L.n-l.getD 0,fun j=>s.L.g (l.getD 0+j)⟩))],n0+1,[l.getD 0<h.getD s.L.n,h.getD s.L.n<=s.L.n]⟩
   |false=>none
  |_,_=>none
 |_,_,_=>none
def Zt (S:Stat D) (T:Tab D) (V:cR) (M:ct D) (n0:Nat) (o:Oper):Option (Out D) :=
 match o.op with
 |.load t x=>match epOf S M (CV V x) with
  |some p=>ZQ S n0 t p
  |none=>none
 |.store t x y=>match epOf S M (CV V x) with
  |some p=>match CV V y with
   |some (.val a)=>KQ S M n0 t p a.cells
   |_=>none
  |none=>none
 |.indexAddr t x i=>match UZ S M (CV V x) with
  |some s=>match lit? (CV V i) with
   |some (.int .i64 (.ofNat j))=>xIx S n0 t s j
   |_=>none
  |none=>match ptr? (CV V x),lit? (CV V i),S.P.underlying t with
   |some (b,p),some (.int .i64 (.ofNat j)),some (.array len e)=>match Nat.blt j len,S.P.info? e with
    |true,some inf=>out n0 (.val (.one (.ptr b (p+j*inf.size))))
    |_,_=>none
   |_,_,_=>none
 |.fieldAddr s x f=>xFa S M n0 s f (CV V x)
 |.nilCheck x=>match CV V x with
  |some (.val (.one (.fn b)))=>match M b with
   |some (.ep ..)=>out n0 (.val (.one (.fn b)))
   |_=>none
  |_=>none
 |.slice t x lo hi none=>xSl S n0 t (UZ S M (CV V x)) (kI V lo) (kI V hi)
 |.makeSlice t l c=>match glT T (o.dst.getD 0) with
  |true=>xMk S n0 t (lit? (CV V l)) (lit? (CV V c))
  |false=>none
 |.buildSlice t 0 ⟨[]⟩=>match T (o.dst.getD 0) (.bs t 0) with
  |some _=>xBp S n0 t
  |none=>xBs S n0 t
 |.box t x=>match S.okT t with
  |true=>none
  |false=>xBox S M n0 t (CV V x)
 |.build t parts=>match S.P.underlying t with
  |some (.array _ _)=>match EJ V parts.toList with
   |some vs=>kX S.P n0 (Instr.build t vs.toArray)
   |none=>none
  |_=>none
 |.binOp .eql t x y _=>match slc? (CV V x),lit? (CV V y),S.P.underlying t with
  |some _,some (.slice none 0 0),some (.slice _)=>out n0 (.val (.one (.lit (.bool false))))
  |_,_,_=>none
 |.call c=>match c.callee with
  |.builtin .len=>match c.args.toList with
   |[x]=>match UZ S M (CV V x),c.argTypes[0]? with
    |some s,some t=>match S.P.underlying t with
     |some (.slice _)=>out n0 (.val (.one (.lit (goInt s.L.n))))
     |_=>none
    |_,_=>none
   |_=>none
  |.builtin .append=>match c.args.toList with
   |[s,x]=>xApp S M n0 (glT T (o.dst.getD 0)) c.argTypes.toList (CV V s) (CV V x)
   |_=>none
  |_=>none
 |_=>none
section
variable {F:Fence}{m:Nat}
variable {C:Ctx D}{e:Env}{a:Act}{w:World}{V:cR}{M:ct D}{T:Tab D}{n0:Nat}{K:Act->World->Prop}{Q:Exit->Act->World->Prop}{o:Oper}{t:Out D}
theorem Wr {z n j:Nat}(hj:j<n):j*z+z<=n*z:=by
 have:(j+1)*z<=n*z:=cK z hj
 rwa [cD,jI] at this
theorem ZY {k o i z q m:Nat}{arr:Array Value}{ty:Nat}{pre vs rest:List Value}(h1:∃ fr,w.heap[k]?=some (.cells arr ty fr)) (h2:arr.toList=pre++vs++rest) (h3:pre.length=o):∀ j u,((((vs.drop (i*z)).take z).drop q).take m)[j]?=some u->w.cell? ⟨k,o+(i*z+q)+j,none⟩=some u:=by
 obtain⟨fr,h1⟩:=h1;intro j u hj;rw[kB] at hj;split at hj
 ·rw[kJ,kB] at hj;split at hj
  ·rw[kJ] at hj;have:=ud h1 h2 h3 (i*z+(q+j)) u hj
   rwa [show o+(i*z+(q+j))=o+(i*z+q)+j by omega] at this
  ·cases hj
 ·cases hj
theorem cim (hC:C.Ok) (hg:Kv C e w) {ty:TypeId}{p:Epo D}(hu:ZQ C.toStat n0 ty p=some t) (hf:jC n0 t.n1 e) {k o:Nat}{arr:Array Value}{pre vs rest:List Value}(h1:∃ fr,w.heap[k]?=some (.cells arr p.L.ty fr)) (h2:arr.toList=pre++vs++rest) (h3:pre.length=o)
 (h5:Cd C e w (p.L.g p.i) ((vs.drop (p.i*p.L.z)).take p.L.z)) :
 ∃ v,(loadVar ty ⟨k,o+(p.i*p.L.z+p.o),none⟩).run C.P w=.ok v w/\jG C e w n0 t v w:=by
 unfold ZQ at hu;split at hu
 rotate_left
 ·cases hu
 rename_i d hd;split at hu
 ·rename_i ha;split at hu
  rotate_left
  ·cases hu
  rename_i inf hinf;split at hu
  rotate_left
  ·cases hu
  rename_i gs hgs;split at hu;rename_i cs ws n1 hm;injection hu with hu;subst hu
  obtain⟨e',q1,q2⟩:=Jg hC hg hm hf (fun w' hk=>cbd hgs (h5 w' hk));have hl:=ccc hC (cbd hgs h5.out);rw[ciN hgs] at hl;refine⟨.agg ((((vs.drop (p.i*p.L.z)).take p.L.z).drop p.o).take inf.size).toArray,?_,e',q1,_,q2,rfl⟩;have:=run_loadCells_list (P:=C.P) (w:=w) ⟨k,o+(p.i*p.L.z+p.o),none⟩ ((((vs.drop (p.i*p.L.z)).take p.L.z).drop p.o).take inf.size) (fun j v hj=>by rw[jt];exact ZY h1 h2 h3 j v hj);rw[hl] at this;simp [loadVar,yK hd,ha,jD hinf,this]
 ·rename_i ha;split at hu
  rotate_left
  ·cases hu
  rename_i gs hgs;split at hu
  ·rename_i c ws n1 hm;injection hu with hu;subst hu
   obtain⟨e',q1,v,us,q2,q3,q4⟩:=Jg hC hg hm hf (fun w' hk=>cbd hgs (h5 w' hk));refine⟨v,?_,e',q1,q3⟩;have:=ZY (w:=w) (m:=1) (i:=p.i) (z:=p.L.z) (q:=p.o) h1 h2 h3 0 v (by rw[q2];rfl);rw[jz] at this;simp [loadVar,yK hd,ha,this]
  ·cases hu
theorem chq (hC:C.Ok) (hM:cA C e w M) (hg:Kv C e w) {ty:TypeId}{p:Epo D}{x:A1}{v:Value}(hx:x.is e v) (hu:KQ C.toStat M n0 ty p x.cells=some t) (hi:p.i<p.L.n)
 {k o:Nat} {arr:Array Value} {pre vs rest:List Value} (h1:∃ fr,w.heap[k]?=some (.cells arr p.L.ty fr)) (h2:arr.toList=pre++vs++rest) (h4:vs.length=p.L.n*p.L.z)
 (h5:∀ j,j<p.L.n->Cd C e w (p.L.g j) ((vs.drop (j*p.L.z)).take p.L.z)) (h13:∀ v∈vs,v.oneCell'=true)
 (h6:p.own=true->M p.id=some (.gl p.L.ty p.L.z p.L.n p.L.g)/\e.ρ p.id=some k/\e.al p.id=true/\o=0/\pre=[]/\∃ c,e.φ p.id=some (.slice (some ⟨k,0,none⟩) p.L.n c)/\arr.size=c*p.L.z/\p.L.n<=c/\w.heap[k]?=some (.cells arr p.L.ty (0,0))) :
 ∃ w',(storeVar ty ⟨k,o+(p.i*p.L.z+p.o),none⟩ v).run C.P w=.ok () w'/\jG C e w n0 t undef w':=by
 unfold KQ at hu;split at hu
 rotate_left
 ·cases hu
 rename_i inf hown hinf;obtain⟨h7,h8,h9,rfl,rfl,c,h10,h11,h12,h1⟩:=h6 hown;split at hu
 rotate_left
 ·cases hu
 rename_i gs hsz hall hgs;split at hu
 rotate_left
 ·cases hu
 rename_i g1 g2 hg1 hg2 hle;injection hu with hu;subst hu
 have hle:=jh hle;have hcs:=A1.cells_are hC hM hx hall;have hlen:v.cells.toList.length=x.cells.length:=hcs.length;have hel:=Wr (z:=p.L.z) hi;rw[← h4] at hel;simp only[EU] at h2;rw[jb];obtain⟨w',arr',r1,r2,r3,r4⟩:=zV C.P k p.L.ty v.cells.toList 0 (p.i*p.L.z+p.o) w (vs.take (p.i*p.L.z+p.o)) ((vs.drop (p.i*p.L.z+p.o)).take x.cells.length) (vs.drop (p.i*p.L.z+p.o+x.cells.length)++rest) arr h1 (by
  rw[h2]
  conv=>lhs;rw[← jZ (p.i*p.L.z+p.o) vs,← jZ x.cells.length (vs.drop (p.i*p.L.z+p.o))]
  simp [uF]) (by simp;omega) (by simp only[ji,kL];omega) (zL hC hM hall hcs)
 refine⟨w',?_,e,?_,rfl⟩
 ·have hs1:¬ v.cells.size≠inf.size:=by
   have:=cn hsz;rw[← this,← hlen];simp
  simp only[storeVar,jA,jD hinf,kG,cf hs1];exact r1
 ·have hok:kE C (.cells arr' p.L.ty (0,0)):=by
   obtain⟨_,o2,q1,q2⟩:=hg.own p.id k h8;rw[h1] at q1;injection q1 with q1;subst q1
   exact YW q2
  have hadv:Adv e w e w':=⟨Ext.refl e,by rw[r4.size];exact cb _,fun x hx hn=>⟨hn,r4.block x (fun h=>hn p.id (by rw[h8,h]))⟩⟩;refine uI hg h8 h9 r4 r2 hok ⟨_,h10,.inr ⟨k,c,arr',vs.take (p.i*p.L.z+p.o)++(v.cells.toList++vs.drop (p.i*p.L.z+p.o+v.cells.toList.length)),rest,h8,h9,rfl,r2,by rw[r3,hlen];simp,?_,?_,h12,?_,?_⟩⟩
  ·simp only[kp,ji,kL];omega
  ·have e1:=cw List.length r3;have e2:=cw List.length h2;simp only[kp,ji,kL,yA] at e1 e2;simp only[yA] at hlen;omega
  ·intro u hu;simp only[List.mem_append] at hu;rcases hu with hu|hu|hu
   ·exact h13 u (cbG hu)
   ·exact zL hC hM hall hcs u hu
   ·exact h13 u (caK hu)
  ·intro j hj;unfold putG;split
   ·rename_i hji;have hji:=cn hji;subst hji;rw[chN vs v.cells.toList (by omega) hel,hlen];have hr:=(h5 _ hj).adv hadv;have hrg:=(Ep hC hM hgs hcs).adv hadv;exact fun w'' hk=>WJ hC (chA hg1 (hr w'' hk)) (WJ hC (hrg w'' hk) (cia hg2 (by simp only[ji];omega) (hr w'' hk)))
   ·rename_i hji;rw[cgN vs v.cells.toList (by omega) (fun h=>by subst h;simp at hji) hel];exact(h5 _ hj).adv hadv
theorem ccq {z n m j:Nat}{g h:Nat->List (Grp D)}{vs us:List Value}{e':Env}{w':World}(hv:vs.length=n*z) (hg:∀ j,j<n->Cd C e' w' (g j) ((vs.drop (j*z)).take z)) (hh:∀ j,j<m->Cd C e' w' (h j) ((us.drop (j*z)).take z)) (hj:j<n+m) :
 Cd C e' w' (CQ n g h j) (((vs++us).drop (j*z)).take z):=by
 unfold CQ;split
 ·rename_i hlt;have hlt:=cjh hlt;have:=Wr (z:=z) hlt;rw[caF (by omega),WN (by simp;omega)];exact hg j hlt
 ·rename_i hlt;have hge:n<=j:=by
   rcases jj j n with h1|h1
   ·rw[show Nat.blt j n=true from zA h1] at hlt;cases hlt
   ·exact h1
  have e1:n*z<=j*z:=cK z hge;have e2:j*z-n*z=(j-n)*z:=by rw[Nat.sub_mul]
  rw[List.drop_append,cax (by omega),EU,hv,e2];exact hh (j-n) (by omega)
theorem cah (hC:C.Ok) (hV:cN e a V) (hM:cA C e w M) (hg:Kv C e w) {z:Nat}{x:Operand}{m:Nat}{h:Nat->List (Grp D)}(ht:Yj C.toStat M z (CV V x)=some (m,h)) :
 ∃ ao c,∃ us:List Value,a.eval x=.slice ao m c/\us.length=m*z/\(∀ v∈us,v.oneCell'=true)/\(0<m->∃ p,ao=some p/\∀ j u,us[j]?=some u->w.cell? (p.add j)=some u)/\(∀ j,j<m->Cd C e w (h j) ((us.drop (j*z)).take z)):=by
 unfold Yj at ht;split at ht
 ·rename_i s hs;split at ht
  ·rename_i hz;have hz:=cn hz;injection ht with ht;simp only[co] at ht;obtain⟨rfl,rfl⟩:=ht
   subst hz;obtain⟨h1,_⟩:=Ka hC hV hM hg hs;rcases h1 with⟨h1,h2⟩|⟨k,o,c,arr,pre,vs,rest,h2,h3,⟨_,h4⟩,h5,h6,h7,h9,h8⟩
   ·obtain⟨ao,h2⟩:=h2;refine⟨ao,0,[],by rw[h2,h1],by simp [h1],by simp,fun hm=>by omega,fun j hj=>by omega⟩
   ·exact⟨_,c,vs,h2,h7,h9,fun _=>⟨_,rfl,fun j u hj=>by rw[jt];exact ud h4 h5 h6 j u hj⟩,h8⟩
  ·cases ht
 ·split at ht
  rotate_left
  ·cases ht
  rename_i cs hcs;split at ht
  ·rename_i gs hall hgs;injection ht with ht;simp only[co] at ht;obtain⟨rfl,rfl⟩:=ht
   cases hx:CV V x with
   |none=>rw[hx] at hcs;simp [yO] at hcs
   |some y =>
    rw[hx] at hcs;obtain⟨p,c,us,h1,h2,h3,h4⟩:=Jo hM hcs (cM hV hx);refine⟨some p,c,us,h1,h2,zL hC hM hall h3,fun _=>⟨p,rfl,h4⟩,fun j hj=>?_⟩;obtain rfl:j=0:=by omega
    rw[Cg,kr,kH (by omega)];exact Ep hC hM hgs h3
  ·cases ht
theorem cgm (hC:C.Ok) (hV:cN e a V) (hM:cA C e w M) (hg:Kv C e w) {nil:Bool}{el z:Nat}{x:Operand}{b:Option Nat}{n:Nat}{g:Nat->List (Grp D)}(ht:cdI C.toStat M nil el z (CV V x)=some (b,n,g)) :
 (n=0/\a.eval x=.slice none 0 0)\/∃ i k c arr vs rest,b=some i/\e.ρ i=some k/\e.al i=true/\a.eval x=.slice (some ⟨k,0,none⟩) n c/\w.heap[k]?=some (.cells arr el (0,0))/\arr.toList=vs++rest/\vs.length=n*z/\arr.size=c*z/\n<=c/\(∀ v∈vs,v.oneCell'=true)/\∀ j,j<n->Cd C e w (g j) ((vs.drop (j*z)).take z):=by
 unfold cdI at ht;split at ht
 ·rename_i hx;split at ht
  ·injection ht with ht;simp only[co] at ht;obtain⟨_,rfl,_⟩:=ht
   exact .inl ⟨rfl,cM hV hx⟩
  ·cases ht
 ·split at ht
  rotate_left
  ·cases ht
  rename_i s hs;split at ht
  ·rename_i hown hz hty;have hz:=cn hz;have hty:=cn hty;injection ht with ht;simp only[co] at ht;obtain⟨rfl,rfl,rfl⟩:=ht
   obtain⟨_,h2⟩:=Ka hC hV hM hg hs;rw[hown] at h2;obtain⟨h2,h3⟩:=h2;obtain⟨v,h4,h5⟩:=hM _ _ h3;rw[h2] at h4;injection h4 with h4;subst h4
   subst hz;subst hty;refine h5.imp id ?_;rintro⟨k,c,arr,vs,rest,q1,q2,q3,q4,q5,q6,q7,q8,q10,q9⟩;exact⟨s.id,k,c,arr,vs,rest,rfl,q1,q2,q3,q4,q5,q6,q7,q8,q10,q9⟩
  ·cases ht
theorem cch {vs : List Value} (h : CB (fun c => match c with
            | .lit v => v.oneCell'
            | _ => true) (vs.map .lit) = true) : ∀ v ∈ vs, v.oneCell' = true := by
  induction vs with
  | nil => intro v hv; simp at hv
  | cons x vs ih =>
    simp only [uf, CB] at h
    split at h
    · rename_i hx
      intro v hv
      rcases List.mem_cons.1 hv with rfl | hv
      · exact hx
      · exact ih h v hv
    · cases h
theorem GY {arr:Array Value}{ty:Nat}(h:C.okT ty=true):kE C (.cells arr ty (0,0)):=.inl ⟨_,_,rfl,h⟩
theorem cav {b:Option Nat}{n1:Nat}{ws:Ws D}{e':Env}{w':World}(h:jM C e w n0 n1 ws e' w'):jM C e w n0 n1 (ws++cgg b) e' w':=by
 cases b with
 |none=>simpa [cgg] using h
 |some b=>exact h.drop
theorem xApp_is (hC:C.Ok) (hV:cN e a V) (hM:cA C e w M) (hg:Kv C e w) {nil:Bool}{ats:List Nat}{s x:Operand}(hu:xApp C.toStat M n0 nil ats (CV V s) (CV V x)=some t) (hf:jC n0 t.n1 e) (ho:cX t.ob) (ty:Nat) :
 ∃ v w',(Builtin.append_ ats.toArray ty #[a.eval s,a.eval x]).run C.P w=.ok v w'/\jG C e w n0 t v w':=by
 unfold xApp at hu;split at hu
 rotate_left
 ·cases hu
 rename_i T1 T2;split at hu
 rotate_left
 ·cases hu
 rename_i el inf hT he;have hT:=cn hT;subst hT;obtain⟨hel,hi⟩:=ka he;split at hu
 rotate_left
 ·cases hu
 rename_i z0 hz0;split at hu
 rotate_left
 ·cases hu
 rename_i h1 h2 h3 hok;have h1:=cn h1;have h2:=cjh h2;have h3:=jh h3;split at hu
 rotate_left
 ·cases hu
 rename_i b n g m h hh ht;injection hu with hu;subst hu
 have hnm:n+m<=1000000:=ho.1;obtain⟨ao,c,us,hx,hul,hu1,hsrc,hrob⟩:=cah hC hV hM hg ht;have hby:∀ k,k<=2000000->k*inf.bytes<=140737488355328:=fun k hk=>cB (uN hk h3) (by decide);rw[hx];have mk:∀ (vs:List Value) (arr:Array Value) (cap:Nat),vs.length=n*inf.size->(∀ v∈vs,v.oneCell'=true)->(∀ j,j<n->Cd C e w (g j) ((vs.drop (j*inf.size)).take inf.size))->n+m<=cap->arr=(vs++us).toArray++Builtin.zeroCells z0.cells (cap-(n+m))->
  ∃ e',jM C e w n0 (n0+1) ([(n0,.gl el inf.size (n+m) (CQ n g h))]++cgg b) e' (w.drew.alloc (.cells arr el))/\e'.φ n0=some (.slice (some ⟨w.heap.size,0,none⟩) (n+m) cap):=by
  intro vs arr cap hvl hv1 hvr hcap harr;have hk:(w.drew.alloc (.cells arr el)).heap[w.heap.size]?=some (.cells arr el (0,0)):=by
   show (w.heap.push _)[w.heap.size]?=_;simp
  obtain⟨e',q1,q2⟩:=zI (v:=.slice (some ⟨w.heap.size,0,none⟩) (n+m) cap) (ob:=.gl el inf.size (n+m) (CQ n g h)) hg hf ((cF _ w).drew.alloc (cb _) (.cells arr el)) (cb _) hk (GY hok) (fun e' hadv p1 p2 p3=>by
   refine⟨_,p3,.inr ⟨w.heap.size,cap,arr,vs++us,(Builtin.zeroCells z0.cells (cap-(n+m))).toList,p1,p2,rfl,hk,by rw[harr];simp,by rw[kp,hvl,hul,cD],?_,hcap,?_,?_⟩⟩
   ·rw[harr];simp only[Array.size_append,Gt,kp,hvl,hul,Ej,h1];rw[← cD,← cD];congr 1;omega
   ·intro v hv;rcases List.mem_append.1 hv with hv|hv
    ·exact hv1 v hv
    ·exact hu1 v hv
   ·intro j hj;exact ccq hvl (fun j hj=>(hvr j hj).adv hadv) (fun j hj=>(hrob j hj).adv hadv) hj)
  exact⟨e',cav q1,q2⟩
 rcases cgm hC hV hM hg hh with⟨rfl,hs⟩|⟨i,k,cp,arr,vs,rest,rfl,hk,hal,hs,q3,q4,q5,q6,q7,q8,q9⟩
 ·rw[hs];rcases jr m with hm|hm
  ·subst hm;refine⟨.slice none 0 0,w,?_,?_⟩
   ·cases ao with
    |none=>simp [Builtin.append_,jm hel,sizeOf,typeInfo,hi,Builtin.lenOf,ced]
    |some p =>
     have hf0:=ceS (P:=C.P) w inf.size 0 p 0 c [] (by simp) (fun j v h=>by simp at h);simp [Builtin.append_,jm hel,sizeOf,typeInfo,hi,Builtin.lenOf,hf0]
   ·obtain⟨e',q1,q2⟩:=ue (v:=.slice none 0 0) (ob:=.gl el inf.size (0+0) (CQ 0 g h)) hg hf (fun e' _ p=>⟨_,p,.inl ⟨rfl,rfl⟩⟩);exact⟨e',cav q1,q2⟩
  ·obtain⟨p,rfl,hget⟩:=hsrc hm;have:=run_append_nil (P:=C.P) w T1 ty el inf z0 hel hi hz0 p m c us hul hget hm (by omega) (cB (hby m (by omega)) (by decide));obtain⟨e',p1,p2⟩:=mk [] _ (grownCap w m 0 el) (by simp) (by simp) (fun j hj=>by omega) (by rw[jb];exact UB _ _ _ _) rfl;refine⟨_,_,this,e',?_,?_⟩
   ·simpa using p1
   ·have p2:e'.φ n0=_:=p2;rw[jb] at p2;exact p2
 ·rw[hs];by_cases hroom:n+m<=cp
  ·have hfit:n*inf.size+us.length<=arr.size:=by rw[hul,← cD,q6];exact cK _ hroom
   have hasz:arr.size=vs.length+rest.length:=by simpa using cw List.length q4
   have hobj:∃ w',(Builtin.append_ #[T1,T1] ty #[.slice (some ⟨k,0,none⟩) n cp,.slice ao m c]).run C.P w=.ok (.slice (some ⟨k,0,none⟩) (n+m) cp) w'/\ju k w w'/\w'.heap[k]?=some (.cells (arr.toList.take (n*inf.size)++us++arr.toList.drop (n*inf.size+us.length)).toArray el (0,0)):=by
    rcases jr m with hm|hm
    ·subst hm;obtain rfl:us=[]:=List.eq_nil_of_length_eq_zero (by omega);refine⟨w,?_,ju.refl k w,?_⟩
     ·cases ao with
      |none=>simp [Builtin.append_,jm hel,sizeOf,typeInfo,hi,Builtin.lenOf,ced,q7,storeCells]
      |some p =>
       have hf0:=ceS (P:=C.P) w inf.size 0 p 0 c [] (by simp) (fun j v h=>by simp at h);simp [Builtin.append_,jm hel,sizeOf,typeInfo,hi,Builtin.lenOf,hf0,q7,storeCells]
     ·rw[q3];congr 2;apply uJ;simp
    ·obtain⟨p,rfl,hget⟩:=hsrc hm;have:=run_append_room (P:=C.P) w T1 ty el inf hel hi k n cp arr q3 p m c us hul hget hu1 hroom hfit;exact⟨_,this,⟨rfl,rfl,rfl,by simp,fun j hj=>setRow_other w k j _ hj⟩,setRow_heap w k arr _ el _ q3⟩
   obtain⟨w',hrun,honly,hk'⟩:=hobj;obtain⟨e',p1,p2⟩:=cey (v:=.slice (some ⟨k,0,none⟩) (n+m) cp) (ob:=.gl el inf.size (n+m) (CQ n g h)) hg hf hk hal honly hk' (GY hok) (fun e' hadv p1 p2 p3=>by
    refine⟨_,p3,.inr ⟨k,cp,_,vs++us,rest.drop us.length,p1,p2,rfl,hk',?_,by rw[kp,q5,hul,cD],?_,hroom,?_,?_⟩⟩
    ·rw[q4,← q5];simp
    ·simp only[Gt,kp,ji,kL,yA];omega
    ·intro v hv;rcases List.mem_append.1 hv with hv|hv
     ·exact q8 v hv
     ·exact hu1 v hv
    ·intro j hj;exact ccq q5 (fun j hj=>(q9 j hj).adv hadv) (fun j hj=>(hrob j hj).adv hadv) hj)
   exact⟨_,_,hrun,e',p1,p2⟩
  ·have hm:0<m:=by omega
   obtain⟨p,rfl,hget⟩:=hsrc hm;have hold:∀ j v,vs[j]?=some v->w.cell? ((⟨k,0,none⟩:Addr).add j)=some v:=fun j v hj=>by
    rw[jt];exact ud (pre:=[]) q3 (by simpa using q4) rfl j v hj
   have:=cbI (P:=C.P) w T1 ty el inf z0 hel hi hz0 ⟨k,0,none⟩ n cp vs q5 hold p m c us hul hget (by omega) (by omega) (caA (by omega) (hby (n+m) (by omega)));obtain⟨e',p1,p2⟩:=mk vs _ (grownCap w (n+m) cp el) q5 q8 q9 (UB _ _ _ _) rfl;refine⟨_,_,this,e',?_,p2⟩;simpa using p1
theorem xMk_is (hC:C.Ok) (hg:Kv C e w) {ty:Nat}{l c:Value}(hu:xMk C.toStat n0 ty (some l) (some c)=some t) (hf:jC n0 t.n1 e) (ho:cX t.ob) :
 ∃ v w',(Instr.makeSlice ty l c).run C.P w=.ok v w'/\jG C e w n0 t v w':=by
 unfold xMk at hu;split at hu
 rotate_left
 ·cases hu
 rename_i kl n kc n' hl hc;injection hl with hl;subst hl
 injection hc with hc;subst hc
 split at hu
 rotate_left
 ·cases hu
 rename_i el inf he;obtain⟨hel,hi⟩:=ka he;split at hu
 rotate_left
 ·cases hu
 rename_i z0 hz0;split at hu
 rotate_left
 ·cases hu
 rename_i h1 h2 h3 hok;have h1:=cn h1;have h2:=cjh h2;have h3:=jh h3;split at hu
 ·cases hu
 rename_i h5;injection hu with hu;subst hu
 obtain⟨hn,hnn,_⟩:=ho;have hn:n<=1000000:=hn;have hnn:n'=n:=hnn;subst hnn;have hbb:inf.bytes*n'<=281474976710656:=cB (uN h3 hn) (by decide);have:=run_make (P:=C.P) w ty el inf z0 hel hi hz0 kl kc (n':Int) (n':Int) (by omega) (by omega) (by rw[← kT];exact Int.ofNat_le.2 hbb) (by omega);simp only[Int.toNat_natCast] at this;have hk:(w.alloc (.cells (madeCells z0.cells (n'*inf.size)) el)).heap[w.heap.size]?=some (.cells (madeCells z0.cells (n'*inf.size)) el (0,0)):=by
  show (w.heap.push _)[w.heap.size]?=_;simp
 have hlen:(List.replicate n' z0.cells.toList).flatten.length=n'*inf.size:=by simp [h1]
 have hone:∀ v∈z0.cells.toList,v.oneCell'=true:=cch h5;obtain⟨e',q1,q2⟩:=zI (v:=.slice (some ⟨w.heap.size,0,none⟩) n' n') (ob:=.gl el inf.size n' (fun _=>cfg z0.cells.toList)) hg hf ((cF _ w).alloc (cb _) (.cells (madeCells z0.cells (n'*inf.size)) el)) (cb _) hk (GY hok) (fun e' hadv p1 p2 p3=>by
  refine⟨_,p3,.inr ⟨w.heap.size,n',_,(List.replicate n' z0.cells.toList).flatten,[],p1,p2,rfl,hk,by rw[← h1,CT];simp,hlen,?_,cb _,?_,?_⟩⟩
  ·have:=cw List.length (CT z0.cells n');simp only[yA] at this;rw[h1] at this;rw[this,hlen]
  ·intro v hv;obtain⟨l,hl,hv⟩:=List.mem_flatten.1 hv;rw[ceO hl] at hv;exact hone v hv
  ·intro j hj w'' _;have:((List.replicate n' z0.cells.toList).flatten.drop (j*inf.size)).take inf.size=z0.cells.toList:=by
    have hz:z0.cells.toList.length=inf.size:=by simpa using h1
    apply yz;intro x;rw[kB];split
    ·rename_i hx;have hle:=Wr (z:=inf.size) hj;rw[kJ,Ci n' _ (by rw[hz];omega),hz,jf,Nat.mul_add_mod,kP hx]
    ·rename_i hx;rw[uC (by omega)]
   rw[this];exact KK _)
 exact⟨_,_,this,e',q1,q2⟩
theorem xBs_is (hg:Kv C e w) {ty:Nat}(hu:xBs C.toStat n0 ty=some t) (hf:jC n0 t.n1 e) :
 ∃ v w',(Instr.buildSlice ty 0 #[]).run C.P w=.ok v w'/\jG C e w n0 t v w':=by
 unfold xBs at hu;split at hu
 rotate_left
 ·cases hu
 rename_i el inf he;obtain⟨hel,hi⟩:=ka he;split at hu
 rotate_left
 ·cases hu
 rename_i z0 hz0;split at hu
 rotate_left
 ·cases hu
 rename_i hok;injection hu with hu;subst hu
 have hk:(w.alloc (.cells #[] el)).heap[w.heap.size]?=some (.cells #[] el (0,0)):=by
  show (w.heap.push _)[w.heap.size]?=_;simp
 obtain⟨e',q1,q2⟩:=zI (v:=.slice (some ⟨w.heap.size,0,none⟩) 0 0) (ob:=.gl el inf.size 0 (fun _=>[])) hg hf ((cF _ w).alloc (cb _) (.cells #[] el)) (cb _) hk (GY hok) (fun e' hadv p1 p2 p3=>by
  exact⟨_,p3,.inr ⟨w.heap.size,0,#[],[],[],p1,p2,rfl,hk,rfl,by simp,by simp,cb _,by simp,fun j hj=>by omega⟩⟩)
 refine⟨_,_,?_,e',q1,q2⟩;simp [Instr.buildSlice,jm hel,jD hi,Instr.fill,newRow];rw[show Array.map (fun _:Nat=>(default:Value)) (Array.range 0)=#[] from Array.eq_empty_of_size_eq_zero (by rw[Array.size_map,Array.size_range])]
theorem xBp_is (hg:Kv C e w) {ty:Nat}(hu:xBp C.toStat n0 ty=some t) (hf:jC n0 t.n1 e) :
 ∃ v w',(Instr.buildSlice ty 0 #[]).run C.P w=.ok v w'/\jG C e w n0 t v w':=by
 unfold xBp at hu;split at hu
 rotate_left
 ·cases hu
 rename_i el inf he;obtain⟨hel,hi⟩:=ka he;split at hu
 rotate_left
 ·cases hu
 rename_i z0 hz0;have hk:(w.alloc (.cells #[] el)).heap[w.heap.size]?=some (.cells #[] el (0,0)):=by
  show (w.heap.push _)[w.heap.size]?=_;simp
 refine⟨_,_,?_,GB hg hu hf (w':=w.alloc (.cells #[] el)) (yI _ _) hk rfl (fun e' he=>⟨_,he,rfl⟩)⟩;simp [Instr.buildSlice,jm hel,jD hi,Instr.fill,newRow];rw[show Array.map (fun _:Nat=>(default:Value)) (Array.range 0)=#[] from Array.eq_empty_of_size_eq_zero (by rw[Array.size_map,Array.size_range])]
end
variable {D:Type}
abbrev zu:=List (Value×A1×Nat)
def cjm (es:zu):List MapEntry:=es.map fun p=>⟨p.1,undef,p.2.2⟩
def US (P:Program) (kt:TypeId) (k:Value) (es:zu):Option (Option Nat) :=
 match ev P (Instr.findKey kt k (cjm es)) with
 |some (some p)=>some (some p.1)
 |some none=>some none
 |none=>none
def nthE:zu->Nat->Option (Value×A1×Nat)
 |[],_=>none
 |p::_,0=>some p
 |_::l,n+1=>nthE l n
def setE (x:Value×A1×Nat):zu->Nat->zu
 |[],_=>[]
 |_::l,0=>x::l
 |p::l,n+1=>p::setE x l n
def delE:zu->Nat->zu
 |[],_=>[]
 |_::l,0=>l
 |p::l,n+1=>p::delE l n
def ccj:zu->Bool
 |[]=>true
 |_::_=>false
def cbM (M:ct D):Option AV->Option (Nat×zu×Nat)
 |some (.val (.one (.fn b)))=>match M b with
  |some (.mp es ck)=>some (b,es,ck)
  |_=>none
 |_=>none
def Kw (P:Program) (t:Nat):Option (Nat×Nat) :=
 match P.underlying t with
 |some (.map k e)=>some (k,e)
 |_=>none
def zeroA (P:Program) (t:Nat):Option A1 :=
 match P.info? t with
 |some i=>match i.zero with
  |some (.agg cs)=>some (.agg (cs.toList.map .lit))
  |some v=>some (.one (.lit v))
  |none=>none
 |none=>none
def Ud:Option Unit->Bool
 |some _=>true
 |none=>false
def cfV (S:Stat D) (n0 t:Nat) (m:Option (Nat×zu×Nat)) (i:Option Value) (ok:Bool):Option (Out D) :=
 match m,i,Kw S.P t with
 |some (_,es,_),some k,some (kt,el)=>match Ud (ev S.P (Instr.checkKey (ccj es) 10000 kt k)) with
  |true=>match US S.P kt k es with
   |some (some j)=>match nthE es j with
    |some p=>match ok with
     |true=>out n0 (.tup [p.2.1,.one (.lit (.bool true))])
     |false=>out n0 (.val p.2.1)
    |none=>none
   |some none=>match zeroA S.P el with
    |some z=>match ok with
     |true=>out n0 (.tup [z,.one (.lit (.bool false))])
     |false=>out n0 (.val z)
    |none=>none
   |none=>none
  |false=>none
 |_,_,_=>none
def mPut (S:Stat D) (n0 t:Nat) (m:Option (Nat×zu×Nat)) (i:Option Value) (y:Option AV):Option (Out D) :=
 match m,i,Kw S.P t,y with
 |some (b,es,ck),some k,some (kt,_),some (.val x)=>match Ud (ev S.P (Instr.checkKey false 10000 kt k)) with
  |true=>match US S.P kt k es with
   |some (some j)=>match nthE es j with
    |some p=>match Instr.sameBits 10000 p.1 k with
     |true=>some ⟨cjl,[(b,.mp (setE (k,x,p.2.2) es j) ck)],n0,[]⟩
     |false=>none
    |none=>none
   |some none=>some ⟨cjl,[(b,.mp (es++[(k,x,ck)]) (ck+1))],n0,[]⟩
   |none=>none
  |false=>none
 |_,_,_,_=>none
def mDel (S:Stat D) (n0 t:Nat) (m:Option (Nat×zu×Nat)) (i:Option Value):Option (Out D) :=
 match m,i,Kw S.P t with
 |some (b,es,ck),some k,some (kt,_)=>match Ud (ev S.P (Instr.checkKey (ccj es) 10000 kt k)) with
  |true=>match US S.P kt k es with
   |some (some j)=>some ⟨.tup [],[(b,.mp (delE es j) ck)],n0,[]⟩
   |some none=>out n0 (.tup [])
   |none=>none
  |false=>none
 |_,_,_=>none
def ccs (V:cR):List Operand->Option (List Value)
 |[]=>some []
 |x::l=>match yF? (CV V x),ccs V l with
  |some v,some vs=>some (v::vs)
  |_,_=>none
theorem ccK {e:Env}{a:Act}{V:cR}(hV:cN e a V):∀ {l:List Operand}{vs:List Value},ccs V l=some vs->l.map a.eval=vs
 |[],vs,h=>by simp [ccs] at h;subst h;rfl
 |x::l,vs,h=>by
  unfold ccs at h;split at h
  ·rename_i v us h1 h2;injection h with h;subst h
   rw[uf,yY hV h1,ccK hV h2]
  ·cases h
def ZA (S:Stat D) (V:cR) (M:ct D) (n0:Nat) (o:Oper):Option (Out D) :=
 match o.op with
 |.makeMap _ none=>some ⟨.val (.one (.fn n0)),[(n0,.mp [] 0)],n0+1,[]⟩
 |.lookup t x i ok=>cfV S n0 t (cbM M (CV V x)) (yF? (CV V i)) ok
 |.mapUpdate t x i y=>mPut S n0 t (cbM M (CV V x)) (yF? (CV V i)) (CV V y)
 |.insert t x i y=>mPut S n0 t (cbM M (CV V x)) (yF? (CV V i)) (CV V y)
 |.call c=>match c.callee with
  |.builtin .delete=>match c.args.toList,c.argTypes.toList with
   |[x,i],t::_=>mDel S n0 t (cbM M (CV V x)) (yF? (CV V i))
   |_,_=>none
  |.builtin .min=>match ccs V c.args.toList with
   |some vs=>kX S.P n0 (Builtin.min_ c.argTypes o.type vs.toArray)
   |none=>none
  |_=>none
 |_=>none
theorem cfn {α β:Type}{P:Program}{f:α->Sem β}{r:β}:∀ {s:Sem α},ev P (s >>= f)=some r->∃ a,ev P s=some a/\ev P (f a)=some r:=by
 intro s
 induction s with
 |pure a=>intro h;exact⟨a,rfl,h⟩
 |program k ih=>intro h;exact ih P h
 |mark m k ih=>intro h;exact ih h
 |_=>intro h;cases h
section
variable {P:Program}{e:Env}
def Same (l:List MapEntry) (i0:Nat):Option (Nat×Value)->Option (Nat×Value)->Prop
 |none,r=>r=none
 |some p,r=>∃ j x,p.1=i0+j/\l[j]?=some x/\r=some (p.1,x.val)
theorem Same.next {x:MapEntry}{l:List MapEntry}{i0:Nat}{r r':Option (Nat×Value)}(h:Same l (i0+1) r r'):Same (x::l) i0 r r':=by
 cases r with
 |none=>exact h
 |some p =>
  obtain⟨j,y,h1,h2,h3⟩:=h;exact⟨j+1,y,by omega,by simpa using h2,h3⟩
theorem Kr {kind:TypeDesc}{k:Value}:∀ {es:zu}{l:List MapEntry}(i0:Nat),jv e es l->
 (Instr.findNow kind k (cjm es) i0=none/\Instr.findNow kind k l i0=none)\/∃ r r',Instr.findNow kind k (cjm es) i0=some r/\Instr.findNow kind k l i0=some r'/\Same l i0 r r'
 |[],l,i0,h=>by
  rw[show l=[] from h];exact .inr ⟨none,none,rfl,rfl,rfl⟩
 |p::es,l,i0,⟨v,l',h1,h2,h3⟩=>by
  subst h1;have ih:=Kr (kind:=kind) (k:=k) (i0+1) h3;simp only[cjm,uf,Instr.findNow];cases hs:Instr.sameNow kind k p.1 with
  |none=>exact .inl ⟨rfl,rfl⟩
  |some b =>
   cases b with
   |true=>exact .inr ⟨_,_,rfl,rfl,0,_,rfl,rfl,rfl⟩
   |false =>
    rcases ih with⟨q1,q2⟩|⟨r,r',q1,q2,q3⟩
    ·exact .inl ⟨q1,q2⟩
    ·exact .inr ⟨r,r',q1,q2,q3.next⟩
theorem EE {kt:TypeId}{k:Value}:∀ {es:zu}{l:List MapEntry}(i0:Nat) {r:Option (Nat×Value)},jv e es l->ev P (Instr.findAsking kt k (cjm es) i0)=some r->
 ∃ r',(∀ w,(Instr.findAsking kt k l i0).run P w=.ok r' w)/\Same l i0 r r'
 |[],l,i0,r,h,hr=>by
  rw[show l=[] from h];injection hr with hr;subst hr
  exact⟨none,fun _=>rfl,rfl⟩
 |p::es,l,i0,r,⟨v,l',h1,h2,h3⟩,hr=>by
  subst h1;simp only[cjm,uf,Instr.findAsking] at hr;obtain⟨b,q1,q2⟩:=cfn hr;simp only[Instr.findAsking];have q3:∀ w,(Op.equal kt k p.1).run P w=.ok b w:=fun w=>cbe q1 w;cases b with
  |true =>
   injection q2 with q2;subst q2
   exact⟨some (i0,v),fun w=>by simp [q3],0,_,rfl,rfl,rfl⟩
  |false =>
   obtain⟨r',q4,q5⟩:=EE (i0+1) h3 q2;exact⟨r',fun w=>by simp [q3,q4],q5.next⟩
theorem Ek {kt:TypeId}{k:Value}{es:zu}{l:List MapEntry}{r:Option (Nat×Value)}(h:jv e es l) (hr:ev P (Instr.findKey kt k (cjm es))=some r) :
 ∃ r',(∀ w,(Instr.findKey kt k l).run P w=.ok r' w)/\Same l 0 r r':=by
 unfold Instr.findKey at hr ⊢;obtain⟨d,q1,q2⟩:=cfn hr;have q3:∀ w,(underlying kt).run P w=.ok d w:=fun w=>cbe q1 w;rcases Kr (kind:=d) (k:=k) 0 h with⟨p1,p2⟩|⟨r1,r2,p1,p2,p3⟩
 ·rw[p1] at q2;obtain⟨r',p3,p4⟩:=EE 0 h q2;exact⟨r',fun w=>by simp [q3,p2,p3],p4⟩
 ·rw[p1] at q2;injection q2 with q2;subst q2
  exact⟨r2,fun w=>by simp [q3,p2],p3⟩
theorem JD {kt:TypeId}{k:Value}{es:zu}{l:List MapEntry}(h:jv e es l) (hr:US P kt k es=some none) (w:World):(Instr.findKey kt k l).run P w=.ok none w:=by
 unfold US at hr;split at hr
 ·cases hr
 ·rename_i hv;obtain⟨r',q1,q2⟩:=Ek h hv;rw[q1,show r'=none from q2]
 ·cases hr
theorem jv.get:∀ {es:zu}{l:List MapEntry}{j:Nat}{p:Value×A1×Nat},jv e es l->nthE es j=some p->∃ v,l[j]?=some ⟨p.1,v,p.2.2⟩/\p.2.1.is e v
 |[],l,j,p,h,hp=>by simp [nthE] at hp
 |q::es,l,0,p,⟨v,l',h1,h2,h3⟩,hp=>by
  injection hp with hp;subst hp;subst h1
  exact⟨v,rfl,h2⟩
 |q::es,l,j+1,p,⟨v,l',h1,h2,h3⟩,hp=>by
  subst h1;obtain⟨u,q1,q2⟩:=jv.get h3 hp;exact⟨u,by simpa using q1,q2⟩
theorem YS {kt:TypeId}{k:Value}{es:zu}{l:List MapEntry}{j:Nat}{p:Value×A1×Nat}(h:jv e es l) (hr:US P kt k es=some (some j)) (hp:nthE es j=some p) :
 ∃ v,(∀ w,(Instr.findKey kt k l).run P w=.ok (some (j,v)) w)/\l[j]?=some ⟨p.1,v,p.2.2⟩/\p.2.1.is e v:=by
 unfold US at hr;split at hr
 ·rename_i x hv;injection hr with hr;injection hr with hr;subst hr
  obtain⟨r',q1,j,y,q2,q3,q4⟩:=Ek h hv;obtain⟨v,q5,q6⟩:=h.get hp;have hj:x.1=j:=by omega
  rw[hj,q3] at q5;injection q5 with q5
  refine⟨v,fun w=>?_,?_,q6⟩
  ·rw[q1,q4,q5]
  ·rw[hj,q3,q5]
 ·cases hr
 ·cases hr
theorem jv.empty {es:zu}{l:List MapEntry}(h:jv e es l):l.isEmpty=ccj es:=by
 cases es with
 |nil=>rw[show l=[] from h];rfl
 |cons p es=>obtain⟨v,l',h1,_⟩:=h;rw[h1];rfl
theorem jv.snoc {k:Value}{x:A1}{b:Nat}{v:Value}(hx:x.is e v):∀ {es:zu}{l:List MapEntry},jv e es l->jv e (es++[(k,x,b)]) (l++[⟨k,v,b⟩])
 |[],l,h=>by rw[show l=[] from h];exact⟨v,[],rfl,hx,rfl⟩
 |p::es,l,⟨u,l',h1,h2,h3⟩=>by subst h1;exact⟨u,_,rfl,h2,h3.snoc hx⟩
theorem jv.set {k:Value}{x:A1}{b:Nat}{v:Value}(hx:x.is e v):∀ {es:zu}{l:List MapEntry}{j:Nat},jv e es l->jv e (setE (k,x,b) es j) (l.set j ⟨k,v,b⟩)
 |[],l,j,h=>by rw[show l=[] from h];rfl
 |p::es,l,0,⟨u,l',h1,h2,h3⟩=>by subst h1;exact⟨v,_,rfl,hx,h3⟩
 |p::es,l,j+1,⟨u,l',h1,h2,h3⟩=>by subst h1;exact⟨u,_,rfl,h2,h3.set hx⟩
theorem jv.del:∀ {es:zu}{l:List MapEntry}{j:Nat},jv e es l->jv e (delE es j) (l.eraseIdx j)
 |[],l,j,h=>by rw[show l=[] from h];rfl
 |p::es,l,0,⟨u,l',h1,h2,h3⟩=>by subst h1;exact h3
 |p::es,l,j+1,⟨u,l',h1,h2,h3⟩=>by subst h1;exact⟨u,_,rfl,h2,h3.del⟩
theorem Kd {t k el:Nat}(h:Kw P t=some (k,el)):P.underlying t=some (.map k el):=by
 unfold Kw at h;split at h
 ·rename_i hm;injection h with h;simp only[co] at h
  rw[hm,h.1,h.2]
 ·cases h
theorem ciB {t:Nat}{z:A1}(h:zeroA P t=some z) (e:Env):∃ v,z.is e v/\∀ w,(zeroValue t).run P w=.ok v w:=by
 unfold zeroA at h;split at h
 ·rename_i i hi;split at h
  ·rename_i cs hz;injection h with h;subst h
   refine⟨.agg cs,⟨cs.toList,zW e _,by simp⟩,fun w=>by simp [zeroValue,typeInfo,hi,hz]⟩
  ·rename_i v _ hz;injection h with h;subst h
   exact⟨v,rfl,fun w=>by simp [zeroValue,typeInfo,hi,hz]⟩
  ·cases h
 ·cases h
theorem CN {s:Sem Unit}(h:Ud (ev P s)=true) (w:World):s.run P w=.ok () w:=by
 cases hs:ev P s with
 |none=>rw[hs] at h;cases h
 |some u=>exact cbe hs w
end
section
variable {F:Fence}{m:Nat}
variable {C:Ctx D}{e:Env}{a:Act}{w:World}{V:cR}{M:ct D}{T:Tab D}{n0:Nat}{K:Act->World->Prop}{Q:Exit->Act->World->Prop}{o:Oper}{t:Out D}
theorem cay (hV:cN e a V) (hM:cA C e w M) {x:Operand}{b:Nat}{es:zu}{ck:Nat}(h:cbM M (CV V x)=some (b,es,ck)) :
 ∃ k arr,e.ρ b=some k/\e.al b=true/\e.φ b=some (.map (some k))/\w.heap[k]?=some (.map arr ck)/\jv e es arr.toList/\a.eval x=.map (some k):=by
 unfold cbM at h;split at h
 ·rename_i b' hx;split at h
  ·rename_i es' ck' hb;injection h with h;simp only[co] at h
   obtain⟨rfl,rfl,rfl⟩:=h;obtain⟨k,arr,h1,h2,h3,h4,h5⟩:=hM _ _ hb;have hv:e.φ b'=some (a.eval x):=cM hV hx;rw[h3] at hv;injection hv with hv
   exact⟨k,arr,h1,h2,h3,h4,h5,hv.symm⟩
  ·cases h
 ·cases h
theorem uR {P:Program}{w:World}{k ck:Nat}{arr:Array MapEntry}(h:w.heap[k]?=some (.map arr ck)):(getObj k).run P w=.ok (.map arr ck) w:=by simp [getObj,Sem.run,h]
theorem kZ {P:Program}{w:World}{k ck:Nat}{arr:Array MapEntry}(o:Obj) (h:w.heap[k]?=some (.map arr ck)):(setObj k o).run P w=.ok () (w.putObj k o):=by simp [setObj,Sem.run,h,World.putObj]
theorem WS (hg:Kv C e w) {b k ck ck':Nat}{arr arr':Array MapEntry}(hb:e.ρ b=some k) (ha:e.al b=true) (hφ:e.φ b=some (.map (some k))) (hk:w.heap[k]?=some (.map arr ck)) {es':zu}(he:jv e es' arr'.toList) :
 jM C e w n0 n0 [(b,.mp es' ck')] e (w.putObj k (.map arr' ck')):=by
 have hlt:k<w.heap.size:=(Array.getElem?_eq_some_iff.1 hk).1;have hk':(w.putObj k (.map arr' ck')).heap[k]?=some (.map arr' ck'):=by simp [World.putObj,hlt]
 exact uI (w':=w.putObj k (.map arr' ck')) (ob:=.mp es' ck') hg hb ha ⟨rfl,rfl,rfl,by simp [World.putObj],fun j hj=>uQ hj⟩ hk' (.inr (.inr (.inr ⟨_,_,rfl⟩))) ⟨k,arr',hb,ha,hφ,hk',he⟩
theorem ciC (hV:cN e a V) (hM:cA C e w M) (hg:Kv C e w) {ty:Nat}{x i:Operand}{ok:Bool}(hu:cfV C.toStat n0 ty (cbM M (CV V x)) (yF? (CV V i)) ok=some t) :
 ∃ v,(Instr.lookup ty (a.eval x) (a.eval i) ok).run C.P w=.ok v w/\jG C e w n0 t v w:=by
 unfold cfV at hu;split at hu
 rotate_left
 ·cases hu
 rename_i b es ck k kt el hx hi hm;have hm:=Kd hm;obtain⟨q,arr,h1,h2,h3,h4,h5,h6⟩:=cay hV hM hx;rw[h6,yY hV hi];split at hu
 rotate_left
 ·cases hu
 rename_i hck;have hck:(Instr.checkKey arr.isEmpty 10000 kt k).run C.P w=.ok () w:=by
  rw[show arr.isEmpty=ccj es by rw[← h5.empty];simp];exact CN hck w
 have hget:=uR (P:=C.P) h4;split at hu
 ·rename_i j hj;split at hu
  rotate_left
  ·cases hu
  rename_i p hp;obtain⟨v,q1,q2,q3⟩:=YS h5 hj hp;have q1:=q1 w;cases ok with
  |true =>
   injection hu with hu;subst hu
   refine⟨.tuple #[v,.bool true],?_,jG.here hg ⟨[v,.bool true],⟨v,_,rfl,q3,_,_,rfl,rfl,rfl⟩,rfl⟩⟩;unfold Instr.lookup;generalize 10000=N at hck ⊢;simp [jm hm,hget,hck,q1]
  |false =>
   injection hu with hu;subst hu
   refine⟨v,?_,jG.here hg q3⟩;unfold Instr.lookup;generalize 10000=N at hck ⊢;simp [jm hm,hget,hck,q1]
 ·rename_i hj;have q1:=JD h5 hj w;split at hu
  rotate_left
  ·cases hu
  rename_i z hz;obtain⟨v,q2,q3⟩:=ciB hz e;have q3:=q3 w;cases ok with
  |true =>
   injection hu with hu;subst hu
   refine⟨.tuple #[v,.bool false],?_,jG.here hg ⟨[v,.bool false],⟨v,_,rfl,q2,_,_,rfl,rfl,rfl⟩,rfl⟩⟩;unfold Instr.lookup;generalize 10000=N at hck ⊢;simp [jm hm,hget,hck,q1,q3]
  |false =>
   injection hu with hu;subst hu
   refine⟨v,?_,jG.here hg q2⟩;unfold Instr.lookup;generalize 10000=N at hck ⊢;simp [jm hm,hget,hck,q1,q3]
 ·cases hu
theorem CZ {l:Array MapEntry}{j:Nat}{x:MapEntry}{f:MapEntry->MapEntry}(h:l[j]?=some x):(l.modify j f).toList=l.toList.set j (f x):=by
 apply yz;intro i;simp only[WM,cdf,cdT];by_cases hij:j=i
 ·subst hij;obtain⟨hl,hx⟩:=Array.getElem?_eq_some_iff.1 h;simp [hl,hx]
 ·simp [hij]
theorem cge (hV:cN e a V) (hM:cA C e w M) (hg:Kv C e w) {ty:Nat}{x i y:Operand}(hu:mPut C.toStat n0 ty (cbM M (CV V x)) (yF? (CV V i)) (CV V y)=some t) :
 ∃ w',(Instr.mapUpdate ty (a.eval x) (a.eval i) (a.eval y)).run C.P w=.ok () w'/\jG C e w n0 t undef w':=by
 unfold mPut at hu;split at hu
 rotate_left
 ·cases hu
 rename_i b es ck k kt el xv hx hi hm hy;have hm:=Kd hm;obtain⟨q,arr,h1,h2,h3,h4,h5,h6⟩:=cay hV hM hx;have hxv:xv.is e (a.eval y):=cM hV hy;rw[h6,yY hV hi];split at hu
 rotate_left
 ·cases hu
 rename_i hck;have hck:(Instr.checkKey false 10000 kt k).run C.P w=.ok () w:=CN hck w;have hget:=uR (P:=C.P) h4;split at hu
 ·rename_i j hj;split at hu
  rotate_left
  ·cases hu
  rename_i p hp;obtain⟨v,q1,q2,q3⟩:=YS h5 hj hp;have q1:=q1 w;have q2:arr[j]?=some ⟨p.1,v,p.2.2⟩:=by simpa using q2
  split at hu
  rotate_left
  ·cases hu
  rename_i hsb;injection hu with hu;subst hu
  have hE:jv e (setE (k,xv,p.2.2) es j) (arr.modify j fun en=>{ en with key:=k,val:=a.eval y }).toList:=by
   rw[CZ q2];exact h5.set hxv
  refine⟨w.putObj q (.map (arr.modify j fun en=>{ en with key:=k,val:=a.eval y }) ck),?_,e,WS hg h1 h2 h3 h4 hE,rfl⟩;have hst:(Instr.keyThatStays p.1 k).run C.P w=.ok k w:=by
   unfold Instr.keyThatStays;generalize 10000=N at hsb ⊢;simp [hsb]
  unfold Instr.mapUpdate;have hset:=kZ (P:=C.P) (.map (arr.modify j fun en=>{ en with key:=k,val:=a.eval y }) ck) h4;generalize 10000=N at hck ⊢;simp [jm hm,hget,hck,q1,q2,hst,hset]
 ·rename_i hj;have q1:=JD h5 hj w;injection hu with hu;subst hu
  have hE:jv e (es++[(k,xv,ck)]) (arr.push { key:=k,val:=a.eval y,born:=ck }).toList:=by
   rw[Array.toList_push];exact h5.snoc hxv
  refine⟨w.putObj q (.map (arr.push { key:=k,val:=a.eval y,born:=ck }) (ck+1)),?_,e,WS hg h1 h2 h3 h4 hE,rfl⟩;unfold Instr.mapUpdate;have hset:=kZ (P:=C.P) (.map (arr.push { key:=k,val:=a.eval y,born:=ck }) (ck+1)) h4;generalize 10000=N at hck ⊢;simp [jm hm,hget,hck,q1,hset]
 ·cases hu
theorem ccu {k:Nat}{o:Obj}(h:w.heap[k]?=some o):w.putObj k o=w:=by
 unfold World.putObj;have:w.heap.setIfInBounds k o=w.heap:=by
  apply Array.ext_getElem?;intro i;rw[lemZ7];split
  ·rename_i hk;subst hk;split
   ·exact h.symm
   ·rename_i hn;rw[lemZ4 (by omega)]
  ·rfl
 rw[this]
theorem mDel_is (hV:cN e a V) (hM:cA C e w M) (hg:Kv C e w) {ty rt:Nat}{x i:Operand}{ats:Array TypeId}(hty:ats[0]?=some ty) (hu:mDel C.toStat n0 ty (cbM M (CV V x)) (yF? (CV V i))=some t) :
 ∃ w',(Builtin.delete_ ats rt #[a.eval x,a.eval i]).run C.P w=.ok (.tuple #[]) w'/\jG C e w n0 t (.tuple #[]) w':=by
 unfold mDel at hu;split at hu
 rotate_left
 ·cases hu
 rename_i b es ck k kt el hx hi hm;have hm:=Kd hm;obtain⟨q,arr,h1,h2,h3,h4,h5,h6⟩:=cay hV hM hx;rw[h6,yY hV hi];split at hu
 rotate_left
 ·cases hu
 rename_i hck;have hck:(Instr.checkKey arr.isEmpty 10000 kt k).run C.P w=.ok () w:=by
  rw[show arr.isEmpty=ccj es by rw[← h5.empty];simp];exact CN hck w
 have hget:=uR (P:=C.P) h4;unfold Builtin.delete_;split at hu
 ·rename_i j hj;injection hu with hu;subst hu
  have hv:∃ v,∀ w,(Instr.findKey kt k arr.toList).run C.P w=.ok (some (j,v)) w:=by
   unfold US at hj;split at hj
   ·rename_i p hv;injection hj with hj;injection hj with hj;subst hj
    obtain⟨r',q1,_,y,_,_,q4⟩:=Ek h5 hv;exact⟨y.val,fun w=>by rw[q1,q4]⟩
   ·cases hj
   ·cases hj
  obtain⟨v,q1⟩:=hv;have q1:=q1 w;have hE:jv e (delE es j) (arr.eraseIdxIfInBounds j).toList:=by
   have:(arr.eraseIdxIfInBounds j).toList=arr.toList.eraseIdx j:=by simp
   rw[this];exact h5.del
  refine⟨w.putObj q (.map (arr.eraseIdxIfInBounds j) ck),?_,e,WS hg h1 h2 h3 h4 hE,[],rfl,rfl⟩;have hset:=kZ (P:=C.P) (.map (arr.eraseIdxIfInBounds j) ck) h4;generalize 10000=N at hck ⊢;simp [hty,jm hm,hget,hck,q1,hset]
 ·rename_i hj;have q1:=JD h5 hj w;injection hu with hu;subst hu
  refine⟨w,?_,jG.here hg ⟨[],rfl,rfl⟩⟩;have hset:=kZ (P:=C.P) (.map arr ck) h4;rw[ccu h4] at hset;generalize 10000=N at hck ⊢;simp [hty,jm hm,hget,hck,q1,hset]
 ·cases hu
theorem cij (hW:Wd F) (hV:cN e a V) (hM:cA C e w M) (hg:Kv C e w) (hu:ZA C.toStat V M n0 o=some t) (hf:jC n0 t.n1 e)
 (hK:∀ v w',jG C e w n0 t v w'->K (a.put o.dst v) w'):o.wpIn F m C.P a w K Q:=by
 have hnd:ui o:=by
  intro c hc;unfold ZA at hu;rw[hc] at hu;cases hu
 unfold ZA at hu;split at hu
 ·rename_i ty hop;injection hu with hu;subst hu
  have hk:(w.alloc (.map #[] 0)).heap[w.heap.size]?=some (.map #[] 0):=by
   show (w.heap.push _)[w.heap.size]?=_;simp
  obtain⟨e',q1,q2⟩:=zI (v:=.map (some w.heap.size)) (ob:=.mp [] 0) hg hf ((cF _ w).alloc (cb _) (.map #[] 0)) (cb _) hk (.inr (.inr (.inr ⟨_,_,rfl⟩))) (fun e' hadv p1 p2 p3=>⟨w.heap.size,#[],p1,p2,p3,hk,rfl⟩);exact cJ hW hnd (v:=.map (some w.heap.size)) (w':=w.alloc (.map #[] 0)) (by simp [execOp,hop,Instr.makeMap]) (hK _ _ ⟨e',q1,q2⟩)
 ·rename_i ty x i ok hop;obtain⟨v,h1,h2⟩:=ciC hV hM hg hu;exact cJ hW hnd (v:=v) (w':=w) (by simp only[execOp,hop,jA,h1];rfl) (hK _ _ h2)
 ·rename_i ty x i y hop;obtain⟨w',h1,h2⟩:=cge hV hM hg hu;have:(execOp a.eval o).run C.P w=.ok .skip w':=by simp only[execOp,hop,jA,h1];rfl
  refine⟨fun f _=>hW.fn f,?_⟩;rw[Ei _ _ _ hnd,this];exact hK _ _ h2
 ·rename_i ty x i y hop;obtain⟨w',h1,h2⟩:=cge hV hM hg hu;have:(execOp a.eval o).run C.P w=.ok .skip w':=by simp only[execOp,hop,jA,h1];rfl
  refine⟨fun f _=>hW.fn f,?_⟩;rw[Ei _ _ _ hnd,this];exact hK _ _ h2
 ·rename_i c hop;split at hu
  rotate_left
  ·rename_i hcal;split at hu
   rotate_left
   ·cases hu
   rename_i vs hvs;have ha:c.args.map a.eval=vs.toArray:=by
    apply uJ;rw[Array.toList_map,ccK hV hvs]
   refine zK hW hnd hg hu (fun v w' h=>?_) hK;simp [execOp,hop,resolve,hcal,ha,invoke,builtin,h]
  ·cases hu
  rename_i hcal;split at hu
  rotate_left
  ·cases hu
  rename_i x i ty ats hargs hats;have ha:c.args.map a.eval=#[a.eval x,a.eval i]:=by
   apply uJ;simp [hargs]
  have hty:c.argTypes[0]?=some ty:=by rw[← WM,hats];rfl
  obtain⟨w',h1,h2⟩:=mDel_is (rt:=o.type) hV hM hg hty hu;exact cJ hW hnd (v:=.tuple #[]) (w':=w') (by simp [execOp,hop,resolve,hcal,ha,invoke,builtin,h1]) (hK _ _ h2)
 ·cases hu
end
section
variable {S:Stat D}{V:cR}{M:ct D}{n0:Nat}{o:Oper}{t:Out D}
theorem chV (hu:ZA S V M n0 o=some t):n0<=t.n1:=by
 unfold ZA at hu
 repeat' (split at hu<;>try (cases hu;done))
 ·injection hu with hu;subst hu;exact jQ _
 ·unfold cfV at hu
  repeat' (split at hu<;>try (cases hu;done))
  all_goals (injection hu with hu;subst hu;exact cb _)
 ·unfold mPut at hu
  repeat' (split at hu<;>try (cases hu;done))
  all_goals (injection hu with hu;subst hu;exact cb _)
 ·unfold mPut at hu
  repeat' (split at hu<;>try (cases hu;done))
  all_goals (injection hu with hu;subst hu;exact cb _)
 ·unfold mDel at hu
  repeat' (split at hu<;>try (cases hu;done))
  all_goals (injection hu with hu;subst hu;exact cb _)
 ·unfold kX at hu;split at hu
  ·injection hu with hu;subst hu;exact cb _
  ·cases hu
end
variable {D:Type}
def Cv (P:Program) (t:Nat):Bool:=match P.underlying t with
 |some (.int _)=>true
 |_=>false
def two (P:Program) (kt:Nat) (fs:Array Field):Bool:=match fs.toList with
 | [f, g] => f.name != "_" && (g.name != "_" && (Cv P f.type && (Cv P g.type && (Nat.beq f.offset 0 && (Nat.beq g.offset 1 && !(P.stoodInHeld kt))))))
 |_=>false
def UJ (P:Program) (kt:Nat):Option Nat:=match P.underlying kt with
 |some (.int _)=>some 0
 |some (.struct fs)=>match two P kt fs with
  |true=>some 2
  |false=>none
 |_=>none
def cfw (P:Program) (el:Nat):Option Bool:=match P.info? el with
 |some i=>match i.zero with
  |some (.bool false)=>some true
  |some (.int .i64 (.ofNat 0))=>some false
  |_=>none
 |none=>none
def nsOf:Nat->Option Value->Option (List Int)
 |0,some (.int .i64 a)=>some [a]
 |2,some (.agg cs)=>match cs.toList with
  |[.int .i64 a,.int .i64 b]=>some [a,b]
  |_=>none
 |_,_=>none
def ivOf:Bool->Option AV->Option Int
 |true,some (.val (.one (.lit (.bool true))))=>some 1
 |true,some (.val (.one (.lit (.bool false))))=>some 0
 |false,some (.val (.one (.lit (.int .i64 a))))=>some a
 |_,_=>none
def EI (g:List Int->Int) (k:List Int) (v:Int):List Int->Int:=fun q=>if q=k then v else g q
structure Mf where
 b:Nat
 nk:Nat
 vk:Bool
 g:List Int->Int
 pe:Option (Nat×List Int)
def Zg (M:ct D):Option AV->Option Mf
 |some (.val (.one (.fn b)))=>match M b with
  |some (.mf nk vk g pe)=>some ⟨b,nk,vk,g,pe⟩
  |_=>none
 |_=>none
def Zs (P:Program) (t:Nat) (m:Mf):Bool:=match Kw P t with
 |some (kt,el)=>match UJ P kt,cfw P el with
  |some nk,some vk=>match Nat.beq nk m.nk with
   |true=>vk == m.vk
   |false=>false
  |_,_=>false
 |none=>false
def cci (P:Program) (t:Nat) (k:Option Value):Bool:=match Kw P t,k with
 |some (kt,_),some k=>match Ud (ev P (Instr.checkKey true 10000 kt k)) with
  |true=>Ud (ev P (Instr.checkKey false 10000 kt k))
  |false=>false
 |_,_=>false
def cbA (S:Stat D) (T:Tab D) (d n0 t:Nat) (m:Mf) (k:Option Value) (ok:Bool):Option (Out D) :=
 match ok,Zs S.P t m,cci S.P t k,nsOf m.nk k with
 |false,true,true,some ns=>match m.vk with
  |false=>out n0 (.val (.one (.lit (.int .i64 (m.g ns)))))
  |true=>match T d .gl with
   |some F=>match F [.one (.lit (.bool (EV (m.g ns))))] with
    |some (.val (.one (.lit u)),ob)=>some ⟨.val (.one (.lit u)),[],n0,ob⟩
    |_=>none
   |none=>out n0 (.val (.one (.lit (.bool (EV (m.g ns))))))
 |_,_,_,_=>none
def cfF (S:Stat D) (n0 t:Nat) (m:Mf) (k:Option Value) (y:Option AV):Option (Out D) :=
 match Zs S.P t m,cci S.P t k,nsOf m.nk k,ivOf m.vk y with
 |true,true,some ns,some v=>some ⟨cjl,[(m.b,.mf m.nk m.vk (EI m.g ns v) none)],n0,[]⟩
 |_,_,_,_=>none
def WA (S:Stat D) (n0 t:Nat) (m:Mf) (k:Option Value):Option (Out D) :=
 match Zs S.P t m,cci S.P t k,nsOf m.nk k with
 |true,true,some ns=>some ⟨.tup [.one (.lit (uH m.vk (m.g ns))),.one (.fn n0)],[(m.b,.mf m.nk m.vk m.g (some (n0,ns))),(n0,.dead)],n0+1,[]⟩
 |_,_,_=>none
def Wi (n0:Nat) (m:Mf) (s:Option AV) (y:Option AV):Option (Out D) :=
 match m.pe,s,ivOf m.vk y with
 |some (q,ns),some (.val (.one (.fn q'))),some v=>match Nat.beq q q' with
  |true=>some ⟨cjl,[(m.b,.mf m.nk m.vk (EI m.g ns v) none)],n0,[]⟩
  |false=>none
 |_,_,_=>none
def glM (T:Tab D) (d:Option Nat):Bool:=match d with
 |some d=>match T d .gl with
  |some _=>true
  |none=>false
 |none=>false
def mfOp (S:Stat D) (T:Tab D) (V:cR) (M:ct D) (n0:Nat) (o:Oper):Option (Out D) :=
 match o.op with
 |.makeMap t none=>match glM T o.dst with
  |true=>match Kw S.P t with
   |some (kt,el)=>match UJ S.P kt,cfw S.P el with
    |some nk,some vk=>some ⟨.val (.one (.fn n0)),[(n0,.mf nk vk (fun _=>0) none)],n0+1,[]⟩
    |_,_=>none
   |none=>none
  |false=>none
 |.lookup t x i ok=>match Zg M (CV V x) with
  |some m=>cbA S T (o.dst.getD 0) n0 t m (yF? (CV V i)) ok
  |none=>none
 |.mapUpdate t x i y=>match Zg M (CV V x) with
  |some m=>cfF S n0 t m (yF? (CV V i)) (CV V y)
  |none=>none
 |.mapEntry t x i=>match Zg M (CV V x) with
  |some m=>WA S n0 t m (yF? (CV V i))
  |none=>none
 |.entryStore _ x s y=>match Zg M (CV V x) with
  |some m=>Wi n0 m (CV V s) (CV V y)
  |none=>none
 |_=>none
section
variable {P:Program}
theorem KP {t:Nat}(h:Cv P t=true):∃ k,P.underlying t=some (.int k):=by
 unfold Cv at h;split at h
 ·exact⟨_,by assumption⟩
 ·cases h
theorem caf {t:Nat}(h:Cv P t=true) (n:Nat) (a b:Int) (w:World):(Op.equalIn (n+1) t (.int .i64 a) (.int .i64 b)).run P w=.ok (decide (a=b)) w:=by
 obtain⟨k,h⟩:=KP h;simp [Op.equalIn,jm h];rfl
theorem KF {t:Nat}(h:Cv P t=true) (cs:Array Value) (off:Nat) (v:Value) (hv:cs[off]?=some v) (w:World):(part t cs off).run P w=.ok v w:=by
 obtain⟨k,h⟩:=KP h;simp [part,isAgg,jm h,hv]
theorem two_is {kt : Nat} {fs : Array Field} (h : two P kt fs = true) : ∃ f g, fs = #[f, g] ∧ f.name ≠ "_" ∧ g.name ≠ "_" ∧ Cv P f.type = true ∧ Cv P g.type = true ∧ f.offset = 0 ∧ g.offset = 1 ∧ P.stoodInHeld kt = false := by
 unfold two at h;split at h
 ·rename_i f g hl;simp only[GA,zv,Bool.not_eq_true'] at h;obtain⟨h1,h2,h3,h4,h5,h6,h7⟩:=h;refine⟨f,g,?_,h1,h2,h3,h4,cn h5,cn h6,h7⟩;apply uJ;rw[hl]
 ·cases h
theorem cai {kt:Nat}{fs:Array Field}(hu:P.underlying kt=some (.struct fs)) (h:two P kt fs=true) (a b c d:Int) (w:World) :
 (Op.equal kt (.agg #[.int .i64 a,.int .i64 b]) (.agg #[.int .i64 c,.int .i64 d])).run P w=.ok (decide (a=c/\b=d)) w:=by
 obtain⟨f,g,rfl,h1,h2,h3,h4,h5,h6,h7⟩:=two_is h;obtain⟨N,hN⟩:∃ N,Op.maxDepth=N+1+1:=⟨9998,rfl⟩;unfold Op.equal;rw[hN];have p1:=KF h3 #[.int .i64 a,.int .i64 b] f.offset (.int .i64 a) (by rw[h5];rfl);have p2:=KF h3 #[.int .i64 c,.int .i64 d] f.offset (.int .i64 c) (by rw[h5];rfl);have p3:=KF h4 #[.int .i64 a,.int .i64 b] g.offset (.int .i64 b) (by rw[h6];rfl);have p4:=KF h4 #[.int .i64 c,.int .i64 d] g.offset (.int .i64 d) (by rw[h6];rfl);have q1:=caf h3 N a c;have q2:=caf h4 N b d;rw[Bool.decide_and];generalize decide (a=c)=x at q1 ⊢;generalize decide (b=d)=y at q2 ⊢;unfold Op.equalIn;cases x<;>cases y<;>simp [jm hu,Ju,h7,h1,h2,p1,p2,p3,p4,q1,q2]
def Cj (vk:Bool) (k:List Int):List (List Int×Int×Nat)->Nat->Option (Nat×Value)
 |[],_=>none
 |p::l,i=>if p.1=k then some (i,uH vk p.2.1) else Cj vk k l (i+1)
theorem Eg {vk:Bool}{k:List Int}:∀ {l:List (List Int×Int×Nat)}{i:Nat},Cj vk k l i=none->ye l k=0/\∀ p∈l,p.1≠k
 |[],_,_=>⟨rfl,fun _ h=>by cases h⟩
 |p::l,i,h=>by
  unfold Cj at h;split at h
  ·cases h
  ·rename_i hp;obtain⟨h1,h2⟩:=Eg h;refine⟨by unfold ye;rw[cf hp];exact h1,fun q hq=>?_⟩;rcases List.mem_cons.1 hq with rfl|hq
   ·exact hp
   ·exact h2 q hq
theorem Ea {vk:Bool}{k:List Int}{v:Value}{j:Nat}:∀ {l:List (List Int×Int×Nat)}{i:Nat},Cj vk k l i=some (j,v)->v=uH vk (ye l k)/\∃ x p,j=i+x/\l[x]?=some p/\p.1=k/\p.2.1=ye l k
 |[],_,h=>by cases h
 |p::l,i,h=>by
  unfold Cj at h;split at h
  ·rename_i hp;injection h with h;injection h with h1 h2
   have:ye (p::l) k=p.2.1:=by unfold ye;rw[cq hp]
   exact⟨by rw[this,h2],0,p,h1.symm,rfl,hp,this.symm⟩
  ·rename_i hp;obtain⟨h1,x,q,h2,h3,h4,h5⟩:=Ea h;have:ye (p::l) k=ye l k:=by rw[ye,cf hp]
   exact⟨by rw[this];exact h1,x+1,q,by omega,by simpa using h3,h4,by rw[this];exact h5⟩
theorem UR {kt nk:Nat}(h:UJ P kt=some nk):(nk=0/\Cv P kt=true)\/(nk=2/\∃ fs,P.underlying kt=some (.struct fs)/\two P kt fs=true):=by
 unfold UJ at h;split at h
 ·rename_i hu;injection h with h
  exact .inl ⟨h.symm,by unfold Cv;rw[hu]⟩
 ·rename_i fs hu;split at h
  ·rename_i ht;injection h with h
   exact .inr ⟨h.symm,fs,hu,ht⟩
  ·cases h
 ·cases h
theorem cdJ {l:List Int}(h:l.length=max 0 1):∃ a,l=[a]:=List.length_eq_one_iff.1 h
theorem cdR {l:List Int}(h:l.length=max 2 1):∃ a b,l=[a,b]:=by
 match l,h with
 |[a,b],_=>exact⟨a,b,rfl⟩
theorem cdi {k:IntKind}{vk:Bool}{a:Int}:∀ (l:List (List Int×Int×Nat)) (i:Nat),(∀ p∈l,p.1.length=max 0 1)->Instr.findNow (.int k) (.int .i64 a) (l.map (CD 0 vk)) i=some (Cj vk [a] l i)
 |[],_,_=>rfl
 |p::l,i,h=>by
  obtain⟨b,hb⟩:=cdJ (h p (caY ..));have ih:=cdi (k:=k) (vk:=vk) (a:=a) l (i+1) (fun q hq=>h q (zG _ hq));rw[uf];unfold Instr.findNow Cj;have:(CD 0 vk p).key=.int .i64 b:=by simp [CD,hb,ug]
  rw[this,hb];by_cases hab:a=b
  ·subst hab;simp [Instr.sameNow,CD]
  ·have hba:¬ b=a:=fun h=>hab h.symm;have hf:(a == b)=false:=by simpa using hab
   simp [Instr.sameNow,hf,hba,ih]
theorem cce {kt:Nat}{fs:Array Field}(hu:P.underlying kt=some (.struct fs)) (ht:two P kt fs=true) {vk:Bool}{a b:Int}:∀ (l:List (List Int×Int×Nat)) (i:Nat),(∀ p∈l,p.1.length=max 2 1)->∀ w,(Instr.findAsking kt (.agg #[.int .i64 a,.int .i64 b]) (l.map (CD 2 vk)) i).run P w=.ok (Cj vk [a,b] l i) w
 |[],_,_,_=>rfl
 |p::l,i,h,w=>by
  obtain⟨c,d,hc⟩:=cdR (h p (caY ..));have ih:=cce hu ht (vk:=vk) (a:=a) (b:=b) l (i+1) (fun q hq=>h q (zG _ hq)) w;rw[uf];unfold Instr.findAsking Cj;have:(CD 2 vk p).key=.agg #[.int .i64 c,.int .i64 d]:=by simp [CD,hc,ug]
  rw[this,hc];have he:=cai hu ht a b c d w;by_cases hab:a=c/\b=d
  ·obtain⟨rfl,rfl⟩:=hab;simp [he,CD]
  ·have hba:¬ (c=a/\d=b):=fun h=>hab ⟨h.1.symm,h.2.symm⟩;simp [he,hab,hba,ih]
theorem Ya {kt nk:Nat}(hk:UJ P kt=some nk) {vk:Bool}{ns:List Int}(hn:ns.length=max nk 1) (l:List (List Int×Int×Nat)) (hl:∀ p∈l,p.1.length=max nk 1) (w:World) :
 (Instr.findKey kt (ug nk ns) (l.map (CD nk vk))).run P w=.ok (Cj vk ns l 0) w:=by
 unfold Instr.findKey;rcases UR hk with⟨rfl,h⟩|⟨rfl,fs,hu,ht⟩
 ·obtain⟨a,rfl⟩:=cdJ hn;obtain⟨k,hu⟩:=KP h;have:=cdi (k:=k) (vk:=vk) (a:=a) l 0 hl;simp [jm hu,ug,this]
 ·obtain⟨a,b,rfl⟩:=cdR hn;have h1:=cce hu ht (vk:=vk) (a:=a) (b:=b) l 0 hl w;cases l with
  |nil=>simp [jm hu,Instr.findNow,Cj]
  |cons p l =>
   obtain⟨c,d,hc⟩:=cdR (hl p (caY ..));have:Instr.findNow (.struct fs) (.agg #[.int .i64 a,.int .i64 b]) ((p::l).map (CD 2 vk)) 0=none:=by
    rw[uf];unfold Instr.findNow;rfl
   simp only[ug,uf,List.map_nil] at h1 this ⊢;simp [jm hu,this,h1]
theorem WH {ns:List Int}{v:Int}{b:Nat}{k:List Int}:∀ {l:List (List Int×Int×Nat)},(∀ p∈l,p.1≠ns)->ye (l++[(ns,v,b)]) k=if k=ns then v else ye l k
 |[],_=>by
  by_cases h:k=ns
  ·simp [ye,h]
  ·simp only[EU,ye,h,yj];rw[cf (fun h':ns=k=>h h'.symm)]
 |p::l,h=>by
  have ih:=WH (v:=v) (b:=b) (k:=k) (l:=l) (fun q hq=>h q (zG _ hq));have hp:=h p (caY ..);rw[WY];unfold ye;by_cases hk:p.1=k
  ·have:¬ k=ns:=fun h'=>hp (hk.trans h');simp [hk,this]
  ·simp only[hk,yj,ih]
theorem ZW {ns:List Int}{v:Int}{b:Nat}{k:List Int}:∀ {l:List (List Int×Int×Nat)}{x:Nat}{p:List Int×Int×Nat},l[x]?=some p->p.1=ns->(l.Pairwise fun p q=>p.1≠q.1/\p.2.2≠q.2.2)->ye (l.set x (ns,v,b)) k=if k=ns then v else ye l k
 |[],x,p,h,_,_=>by simp at h
 |p0::l,0,p,h,hp,_=>by
  simp at h;subst h;rw[List.set_cons_zero];unfold ye;by_cases hk:k=ns
  ·simp [hk]
  ·have h1:¬ ns=k:=fun h=>hk h.symm;have h2:¬ p0.1=k:=by rw[hp];exact h1
   simp [hk,h1,h2]
 |p0::l,x+1,p,h,hp,ha=>by
  have hl:l[x]?=some p:=by simpa using h
  obtain⟨h1,h2⟩:=List.pairwise_cons.1 ha;have ih:=ZW (v:=v) (b:=b) (k:=k) hl hp h2;have h3:p0.1≠ns:=by rw[← hp];exact(h1 p (List.mem_of_getElem? hl)).1
  rw[List.set_cons_succ];unfold ye;by_cases hk:p0.1=k
  ·have:¬ k=ns:=fun h'=>h3 (hk.trans h');simp [hk,this]
  ·simp only[hk,yj,ih]
variable {nk:Nat}{vk:Bool}{g:List Int->Int}{l:List (List Int×Int×Nat)}{es:List MapEntry}{ck:Nat}
theorem Jv.congr {g':List Int->Int}(h:Jv nk vk g l es ck) (hg:∀ k,g k=g' k):Jv nk vk g' l es ck:=⟨h.ents,h.wide,h.born,h.apart,fun k=>(h.val k).trans (hg k)⟩
theorem Jv.new (h:Jv nk vk g l es ck) {ns:List Int}(hn:ns.length=max nk 1) (hno:∀ p∈l,p.1≠ns) (v:Int):Jv nk vk (EI g ns v) (l++[(ns,v,ck)]) (es++[⟨ug nk ns,uH vk v,ck⟩]) (ck+1):=by
 refine⟨by rw[h.ents,List.map_append];rfl,fun p hp=>?_,fun p hp=>?_,?_,fun k=>?_⟩
 ·rcases List.mem_append.1 hp with hp|hp
  ·exact h.wide p hp
  ·rw[List.mem_singleton.1 hp];exact hn
 ·rcases List.mem_append.1 hp with hp|hp
  ·exact Nat.lt_succ_of_lt (h.born p hp)
  ·rw[List.mem_singleton.1 hp];exact ux _
 ·refine List.pairwise_append.2 ⟨h.apart,List.pairwise_singleton ..,fun p hp q hq=>?_⟩;rw[List.mem_singleton.1 hq];exact⟨hno p hp,Nat.ne_of_lt (h.born p hp)⟩
 ·rw[WH hno,EI,h.val]
theorem Jv.old (h:Jv nk vk g l es ck) {ns:List Int}{x:Nat}{p:List Int×Int×Nat}(hx:l[x]?=some p) (hp:p.1=ns) (v:Int):Jv nk vk (EI g ns v) (l.set x (ns,v,p.2.2)) (es.set x ⟨ug nk ns,uH vk v,p.2.2⟩) ck:=by
 have hm:=List.mem_of_getElem? hx;refine⟨by rw[h.ents,List.map_set];rfl,fun q hq=>?_,fun q hq=>?_,?_,fun k=>?_⟩
 ·rcases ceJ hq with hq|rfl
  ·exact h.wide q hq
  ·show ns.length=_;rw[← hp];exact h.wide p hm
 ·rcases ceJ hq with hq|rfl
  ·exact h.born q hq
  ·exact h.born p hm
 ·have h1:(l.map fun p=>(p.1,p.2.2)).Pairwise fun p q=>p.1≠q.1/\p.2≠q.2:=List.pairwise_map.2 h.apart;have h2:((l.set x (ns,v,p.2.2)).map fun p=>(p.1,p.2.2))=l.map fun p=>(p.1,p.2.2):=by
   rw[List.map_set];apply yz;intro i;rw[cdT];split
   ·rename_i hi;subst hi;rw[uh,hx];have:=(List.getElem?_eq_some_iff.1 hx).1;simp [this,hp]
   ·rfl
  rw[← h2] at h1;exact List.pairwise_map.1 h1
 ·rw[ZW hx hp h.apart,EI,h.val]
theorem nsOf_is {k:Option Value}{ns:List Int}(h:nsOf nk k=some ns):k=some (ug nk ns)/\ns.length=max nk 1:=by
 unfold nsOf at h;split at h
 ·injection h with h;subst h;exact⟨rfl,rfl⟩
 ·rename_i cs;split at h
  ·rename_i hcs;injection h with h;subst h
   refine⟨?_,rfl⟩;have:cs=#[.int .i64 _,.int .i64 _]:=uJ hcs;rw[this];rfl
  ·cases h
 ·cases h
theorem cix {el:Nat}(h:cfw P el=some vk) (w:World):(zeroValue el).run P w=.ok (uH vk 0) w:=by
 unfold cfw at h;split at h
 ·rename_i i hi;split at h
  ·rename_i hz;injection h with h;subst h
   simp [zeroValue,typeInfo,hi,hz,uH,EV]
  ·rename_i hz;injection h with h;subst h
   simp [zeroValue,typeInfo,hi,hz,uH]
  ·cases h
 ·cases h
theorem ccl {n:Nat}(ns:List Int) (hn:ns.length=max nk 1):Instr.sameBits (n+1) (ug nk ns) (ug nk ns)=true:=by
 cases nk with
 |zero =>
  obtain⟨a,rfl⟩:=cdJ hn;simp [ug,Instr.sameBits]
 |succ m =>
  simp only[ug,Instr.sameBits,beq_self_eq_true,Bool.true_and,List.all_eq_true];intro p hp;have:∀ (l:List Int) (p:Value×Value),p∈(l.map (Value.int .i64)).zip (l.map (Value.int .i64))->Instr.sameBits n p.1 p.2=true:=by
   intro l
   induction l with
   |nil=>intro p hp;cases hp
   |cons a l ih =>
    intro p hp;rw[uf,List.zip_cons_cons] at hp;rcases List.mem_cons.1 hp with rfl|hp
    ·cases n<;>simp [Instr.sameBits]
    ·exact ih p hp
  exact this ns p hp
end
section
variable {F:Fence}{m:Nat}
variable {C:Ctx D}{e:Env}{a:Act}{w:World}{V:cR}{M:ct D}{T:Tab D}{n0:Nat}{K:Act->World->Prop}{Q:Exit->Act->World->Prop}{o:Oper}{t:Out D}{q:Mf}
theorem cfi (hV:cN e a V) {vk:Bool}{y:Operand}{i:Int}(h:ivOf vk (CV V y)=some i):a.eval y=uH vk i:=by
 unfold ivOf at h;split at h
 ·rename_i hy;injection h with h;subst h
  exact cM hV hy
 ·rename_i hy;injection h with h;subst h
  exact cM hV hy
 ·rename_i hy;injection h with h;subst h
  exact cM hV hy
 ·cases h
theorem Wq (hV:cN e a V) (hM:cA C e w M) {x:Operand}(h:Zg M (CV V x)=some q) :
 ∃ k arr ck l,e.ρ q.b=some k/\e.al q.b=true/\e.φ q.b=some (.map (some k))/\w.heap[k]?=some (.map arr ck)/\Jv q.nk q.vk q.g l arr.toList ck/\(∀ s ns,q.pe=some (s,ns)->∃ p∈l,p.1=ns/\e.φ s=some (.int .i64 p.2.2))/\a.eval x=.map (some k):=by
 unfold Zg at h;split at h
 ·rename_i b' hx;split at h
  ·rename_i nk vk g pe hb;injection h with h;subst h
   obtain⟨k,arr,ck,l,h1,h2,h3,h4,h5,h6⟩:=hM _ _ hb;have hv:e.φ b'=some (a.eval x):=cM hV hx;rw[h3] at hv;injection hv with hv
   exact⟨k,arr,ck,l,h1,h2,h3,h4,h5,h6,hv.symm⟩
  ·cases h
 ·cases h
theorem cja {P:Program}{ty:Nat}(h:Zs P ty q=true):∃ kt el,Kw P ty=some (kt,el)/\P.underlying ty=some (.map kt el)/\UJ P kt=some q.nk/\∀ w,(zeroValue el).run P w=.ok (uH q.vk 0) w:=by
 unfold Zs at h;split at h
 ·rename_i kt el hm;split at h
  ·rename_i nk vk h1 h2;split at h
   ·rename_i hn;rw[cn hn] at h1;have h:vk=q.vk:=by simpa using h
    rw[h] at h2;exact⟨kt,el,hm,Kd hm,h1,fun w=>cix h2 w⟩
   ·cases h
  ·cases h
 ·cases h
theorem WZ (hV:cN e a V) {P:Program}{ty:Nat}{i:Operand}{ns:List Int}(h1:Zs P ty q=true) (h2:cci P ty (yF? (CV V i))=true) (h3:nsOf q.nk (yF? (CV V i))=some ns) :
 ∃ kt el,P.underlying ty=some (.map kt el)/\UJ P kt=some q.nk/\(∀ w,(zeroValue el).run P w=.ok (uH q.vk 0) w)/\a.eval i=ug q.nk ns/\ns.length=max q.nk 1/\∀ b w,(Instr.checkKey b 10000 kt (ug q.nk ns)).run P w=.ok () w:=by
 obtain⟨kt,el,g1,g2,g3,g4⟩:=cja h1;obtain⟨g5,g6⟩:=nsOf_is h3;refine⟨kt,el,g2,g3,g4,yY hV g5,g6,?_⟩;unfold cci at h2;rw[g1,g5] at h2;simp only at h2;split at h2
 ·rename_i q1;intro b w;cases b with
  |true=>exact CN q1 w
  |false=>exact CN h2 w
 ·cases h2
theorem Wm (hg:Kv C e w) {b k ck ck':Nat}{arr arr':Array MapEntry}(hb:e.ρ b=some k) (ha:e.al b=true) (hφ:e.φ b=some (.map (some k))) (hk:w.heap[k]?=some (.map arr ck)) {nk:Nat}{vk:Bool}{g:List Int->Int}{pe:Option (Nat×List Int)}{l:List (List Int×Int×Nat)}(h:Jv nk vk g l arr'.toList ck') (hp:∀ s ns,pe=some (s,ns)->∃ p∈l,p.1=ns/\e.φ s=some (.int .i64 p.2.2)) :
 jM C e w n0 n0 [(b,.mf nk vk g pe)] e (w.putObj k (.map arr' ck')):=by
 have hlt:k<w.heap.size:=(Array.getElem?_eq_some_iff.1 hk).1;have hk':(w.putObj k (.map arr' ck')).heap[k]?=some (.map arr' ck'):=by simp [World.putObj,hlt]
 exact uI (w':=w.putObj k (.map arr' ck')) (ob:=.mf nk vk g pe) hg hb ha ⟨rfl,rfl,rfl,by simp [World.putObj],fun j hj=>uQ hj⟩ hk' (.inr (.inr (.inr ⟨_,_,rfl⟩))) ⟨k,arr',ck',l,hb,ha,hφ,hk',h,hp⟩
theorem cht (hT:T.Ok C) (hV:cN e a V) (hM:cA C e w M) (hg:Kv C e w) {ty d:Nat}{x i:Operand}{ok:Bool}(hx:Zg M (CV V x)=some q) (hu:cbA C.toStat T d n0 ty q (yF? (CV V i)) ok=some t) (ho:cX t.ob) :
 ∃ v,(Instr.lookup ty (a.eval x) (a.eval i) ok).run C.P w=.ok v w/\jG C e w n0 t v w:=by
 unfold cbA at hu;split at hu
 rotate_left
 ·cases hu
 rename_i ns r1 r2 r3;obtain⟨kt,el,s1,s2,s3,s4,s5,s6⟩:=WZ hV r1 r2 r3;obtain⟨k,arr,ck,l,h1,h2,h3,h4,h5,h6,h7⟩:=Wq hV hM hx;have hget:=uR (P:=C.P) h4;have hfind:=Ya s2 (vk:=q.vk) s5 l h5.wide w;rw[← h5.ents] at hfind;have hrun:(Instr.lookup ty (a.eval x) (a.eval i) false).run C.P w=.ok (uH q.vk (q.g ns)) w:=by
  rw[h7,s4];have hck:=s6 arr.isEmpty w;have hz:=s3 w;unfold Instr.lookup;generalize 10000=N at hck ⊢;cases hfl:Cj q.vk ns l 0 with
  |none =>
   rw[hfl] at hfind;have:=(Eg hfl).1;rw[h5.val] at this;simp [jm s1,hget,hck,hfind,hz,this]
  |some p =>
   obtain⟨j,v⟩:=p;rw[hfl] at hfind;have:=(Ea hfl).1;rw[h5.val] at this;simp [jm s1,hget,hck,hfind,this]
 refine⟨_,hrun,?_⟩;split at hu
 ·rename_i hvk;injection hu with hu;subst hu
  rw[hvk];exact jG.here hg rfl
 ·rename_i hvk;split at hu
  ·rename_i F hF;split at hu
   ·rename_i u ob hr;injection hu with hu;subst hu
    have:=hT _ _ _ _ _ _ hF hr ho _ _ rfl rfl;rw[hvk];exact⟨e,jM.refl hg n0,this⟩
   ·cases hu
  ·injection hu with hu;subst hu
   rw[hvk];exact jG.here hg rfl
theorem ciL (hV:cN e a V) (hM:cA C e w M) (hg:Kv C e w) {ty:Nat}{x i y:Operand}(hx:Zg M (CV V x)=some q) (hu:cfF C.toStat n0 ty q (yF? (CV V i)) (CV V y)=some t) :
 ∃ w',(Instr.mapUpdate ty (a.eval x) (a.eval i) (a.eval y)).run C.P w=.ok () w'/\jG C e w n0 t undef w':=by
 unfold cfF at hu;split at hu
 rotate_left
 ·cases hu
 rename_i ns v r1 r2 r3 r4;injection hu with hu;subst hu
 obtain⟨kt,el,s1,s2,s3,s4,s5,s6⟩:=WZ hV r1 r2 r3;obtain⟨k,arr,ck,l,h1,h2,h3,h4,h5,h6,h7⟩:=Wq hV hM hx;have hget:=uR (P:=C.P) h4;have hfind:=Ya s2 (vk:=q.vk) s5 l h5.wide w;rw[← h5.ents] at hfind;have hck:=s6 false w;rw[h7,s4,cfi hV r4];cases hfl:Cj q.vk ns l 0 with
 |none =>
  rw[hfl] at hfind;have hE:Jv q.nk q.vk (EI q.g ns v) (l++[(ns,v,ck)]) (arr.push { key:=ug q.nk ns,val:=uH q.vk v,born:=ck }).toList (ck+1):=by
   rw[Array.toList_push];exact h5.new s5 (Eg hfl).2 v
  refine⟨w.putObj k (.map (arr.push { key:=ug q.nk ns,val:=uH q.vk v,born:=ck }) (ck+1)),?_,e,Wm hg h1 h2 h3 h4 hE (fun _ _ h=>by cases h),rfl⟩;unfold Instr.mapUpdate;have hset:=kZ (P:=C.P) (.map (arr.push { key:=ug q.nk ns,val:=uH q.vk v,born:=ck }) (ck+1)) h4;generalize 10000=N at hck ⊢;simp [jm s1,hget,hck,hfind,hset]
 |some p =>
  obtain⟨j,v0⟩:=p;rw[hfl] at hfind;obtain⟨_,x',p,hj,hx',hp,_⟩:=Ea hfl;have hj:j=x':=by omega
  subst hj;have hen:arr[j]?=some (CD q.nk q.vk p):=by
   rw[← WM,h5.ents,uh,hx'];rfl
  have hE:=h5.old hx' hp v;have hmod:(arr.modify j fun en=>{ en with key:=ug q.nk ns,val:=uH q.vk v }).toList=arr.toList.set j ⟨ug q.nk ns,uH q.vk v,p.2.2⟩:=by rw[CZ hen];rfl
  rw[← hmod] at hE;refine⟨w.putObj k (.map (arr.modify j fun en=>{ en with key:=ug q.nk ns,val:=uH q.vk v }) ck),?_,e,Wm hg h1 h2 h3 h4 hE (fun _ _ h=>by cases h),rfl⟩;have hst:(Instr.keyThatStays (ug q.nk ns) (ug q.nk ns)).run C.P w=.ok (ug q.nk ns) w:=by
   unfold Instr.keyThatStays;rw[cq (ccl ns s5)];rfl
  unfold Instr.mapUpdate;have hset:=kZ (P:=C.P) (.map (arr.modify j fun en=>{ en with key:=ug q.nk ns,val:=uH q.vk v }) ck) h4;have hek:(CD q.nk q.vk p).key=ug q.nk ns:=by rw[← hp];rfl
  generalize 10000=N at hck ⊢;simp [jm s1,hget,hck,hfind,hen,hek,hst,hset]
theorem cfa (hV:cN e a V) (hM:cA C e w M) (hg:Kv C e w) {ty:Nat}{x i:Operand}(hx:Zg M (CV V x)=some q) (hu:WA C.toStat n0 ty q (yF? (CV V i))=some t) (hf:jC n0 t.n1 e) :
 ∃ v w',(Instr.mapEntry ty (a.eval x) (a.eval i)).run C.P w=.ok v w'/\jG C e w n0 t v w':=by
 unfold WA at hu;split at hu
 rotate_left
 ·cases hu
 rename_i ns r1 r2 r3;injection hu with hu;subst hu
 obtain⟨kt,el,s1,s2,s3,s4,s5,s6⟩:=WZ hV r1 r2 r3;obtain⟨k,arr,ck,l,h1,h2,h3,h4,h5,h6,h7⟩:=Wq hV hM hx;have hget:=uR (P:=C.P) h4;have hfind:=Ya s2 (vk:=q.vk) s5 l h5.wide w;rw[← h5.ents] at hfind;have hck:=s6 false w;rw[h7,s4];have key:∀ (arr':Array MapEntry) (ck':Nat) (l':List (List Int×Int×Nat)) (b:Nat),Jv q.nk q.vk q.g l' arr'.toList ck'->(∃ p∈l',p.1=ns/\p.2.2=b)->
  jG C e w n0 ⟨.tup [.one (.lit (uH q.vk (q.g ns))),.one (.fn n0)],[(q.b,.mf q.nk q.vk q.g (some (n0,ns))),(n0,.dead)],n0+1,[]⟩ (.tuple #[uH q.vk (q.g ns),goInt b]) (w.putObj k (.map arr' ck')):=by
  intro arr' ck' l' b hE ⟨p,p1,p2,p3⟩;obtain⟨e',q1,q2⟩:=ue (v:=goInt b) (ob:=.dead) hg hf (fun e' _ _=>trivial);have hne:q.b≠n0:=fun h=>by rw[h,(hf n0 (cb _) (ux _)).1] at h1;cases h1
  have hal:e'.al q.b=true:=by
   obtain⟨_,_,_,_,_,h,_⟩:=q1.kept q.b (.mf q.nk q.vk q.g none) ⟨k,arr,ck,l,h1,h2,h3,h4,h5,fun _ _ h=>by cases h⟩ (by
    rw[cC,cP];split
    ·rename_i hb;exact absurd (cn hb).symm hne
    ·rfl)
   exact h
  have q3:jM C e' w (n0+1) (n0+1) [(q.b,.mf q.nk q.vk q.g (some (n0,ns)))] e' (w.putObj k (.map arr' ck')) :=
   Wm q1.good (q1.adv.ext.ρ _ _ h1) hal (q1.adv.ext.φ _ _ h3) h4 hE (fun s ns' h=>by
    injection h with h;injection h with h h';subst h;subst h'
    exact⟨p,p1,p2,by rw[q2,p3];rfl⟩)
  refine⟨e',?_,⟨[uH q.vk (q.g ns),goInt b],⟨_,_,rfl,rfl,_,_,rfl,q2,rfl⟩,rfl⟩⟩;exact q1.trans q3
 cases hfl:Cj q.vk ns l 0 with
 |none =>
  rw[hfl] at hfind;have hno:=Eg hfl;have hz:=s3 w;have hE:Jv q.nk q.vk q.g (l++[(ns,0,ck)]) (arr.push { key:=ug q.nk ns,val:=uH q.vk 0,born:=ck }).toList (ck+1):=by
   rw[Array.toList_push];exact(h5.new s5 hno.2 0).congr (fun k=>by
    unfold EI;split
    ·rename_i hk;rw[hk,← h5.val,hno.1]
    ·rfl)
  have hv:q.g ns=0:=by rw[← h5.val];exact hno.1
  refine⟨.tuple #[uH q.vk (q.g ns),goInt ck],w.putObj k (.map (arr.push { key:=ug q.nk ns,val:=uH q.vk 0,born:=ck }) (ck+1)),?_,key _ _ _ ck hE ⟨(ns,0,ck),List.mem_append_right _ (List.mem_singleton_self _),rfl,rfl⟩⟩;unfold Instr.mapEntry;have hset:=kZ (P:=C.P) (.map (arr.push { key:=ug q.nk ns,val:=uH q.vk 0,born:=ck }) (ck+1)) h4;generalize 10000=N at hck ⊢;simp [jm s1,hget,hck,hfind,hz,hset,hv]
 |some p =>
  obtain⟨j,v0⟩:=p;rw[hfl] at hfind;obtain⟨hv,x',p,hj,hx',hp,hpv⟩:=Ea hfl;have hj:j=x':=by omega
  subst hj;have hen:arr[j]?=some (CD q.nk q.vk p):=by
   rw[← WM,h5.ents,uh,hx'];rfl
  have hek:(CD q.nk q.vk p).key=ug q.nk ns:=by rw[← hp];rfl
  have hmod:(arr.modify j fun en=>{ en with key:=ug q.nk ns }).toList=arr.toList:=by
   rw[CZ hen];apply yz;intro i;rw[cdT];split
   ·rename_i hi;subst hi;rw[WM,hen];have:=(Array.getElem?_eq_some_iff.1 hen).1;simp [this,← hek]
   ·rfl
  have hE:=h5;rw[← hmod] at hE;rw[h5.val] at hv;refine⟨.tuple #[uH q.vk (q.g ns),goInt p.2.2],w.putObj k (.map (arr.modify j fun en=>{ en with key:=ug q.nk ns }) ck),?_,key _ _ _ p.2.2 hE ⟨p,List.mem_of_getElem? hx',hp,rfl⟩⟩;have hst:(Instr.keyThatStays (ug q.nk ns) (ug q.nk ns)).run C.P w=.ok (ug q.nk ns) w:=by
   unfold Instr.keyThatStays;rw[cq (ccl ns s5)];rfl
  unfold Instr.mapEntry;have hset:=kZ (P:=C.P) (.map (arr.modify j fun en=>{ en with key:=ug q.nk ns }) ck) h4;have heb:(CD q.nk q.vk p).born=p.2.2:=rfl;generalize 10000=N at hck ⊢;simp [jm s1,hget,hck,hfind,hen,hek,hst,hset,hv,heb]
theorem cex (hV:cN e a V) (hM:cA C e w M) (hg:Kv C e w) {ty:Nat}{x s y:Operand}(hx:Zg M (CV V x)=some q) (hu:Wi n0 q (CV V s) (CV V y)=some t) :
 ∃ w',(Instr.entryStore ty (a.eval x) (a.eval s) (a.eval y)).run C.P w=.ok () w'/\jG C e w n0 t undef w':=by
 unfold Wi at hu;split at hu
 rotate_left
 ·cases hu
 rename_i s0 ns s1 v hpe hs hy;split at hu
 rotate_left
 ·cases hu
 rename_i hq;obtain rfl:=cn hq;injection hu with hu;subst hu
 obtain⟨k,arr,ck,l,h1,h2,h3,h4,h5,h6,h7⟩:=Wq hV hM hx;obtain⟨p,hp,hpn,hpφ⟩:=h6 _ _ hpe;have hsv:e.φ s0=some (a.eval s):=cM hV hs;rw[hpφ] at hsv;injection hsv with hsv
 have hget:=uR (P:=C.P) h4;obtain⟨j,hj⟩:=List.mem_iff_getElem?.1 hp;have hen:arr[j]?=some (CD q.nk q.vk p):=by
  rw[← WM,h5.ents,uh,hj];rfl
 rw[h7,← hsv,cfi hV hy];have hE:=h5.old hj hpn v;have hmod:(arr.modify j fun en=>{ en with val:=uH q.vk v }).toList=arr.toList.set j ⟨ug q.nk ns,uH q.vk v,p.2.2⟩:=by rw[CZ hen,← hpn];rfl
 rw[← hmod] at hE;refine⟨w.putObj k (.map (arr.modify j fun en=>{ en with val:=uH q.vk v }) ck),?_,e,Wm hg h1 h2 h3 h4 hE (fun _ _ h=>by cases h),rfl⟩;have hset:=kZ (P:=C.P) (.map (arr.modify j fun en=>{ en with val:=uH q.vk v }) ck) h4;have hidx:arr.findIdx? (fun en=>(en.born:Int) == (p.2.2:Int))=some j:=by
  obtain⟨hjl,hje⟩:=Array.getElem?_eq_some_iff.1 hen;rw[Array.findIdx?_eq_some_iff_getElem];refine⟨hjl,by rw[hje];simp [CD],fun i hi=>?_⟩;have hil:i<l.length:=by
   have:=(List.getElem?_eq_some_iff.1 hj).1;omega
  have hie:arr[i]=CD q.nk q.vk l[i]:=by
   have:arr[i]?=some (CD q.nk q.vk l[i]):=by
    rw[← WM,h5.ents,uh,jl hil];rfl
   exact(Array.getElem?_eq_some_iff.1 this).2
  have hjl':=(List.getElem?_eq_some_iff.1 hj).1;have:=(List.pairwise_iff_getElem.1 h5.apart i j hil hjl' hi).2;rw[(List.getElem?_eq_some_iff.1 hj).2] at this;rw[hie];simp only[CD,beq_iff_eq];omega
 unfold Instr.entryStore;simp [hget,asInt,asIntOf,hidx,hset]
theorem mfOp_is (hW:Wd F) (hT:T.Ok C) (hV:cN e a V) (hM:cA C e w M) (hg:Kv C e w) (hu:mfOp C.toStat T V M n0 o=some t) (hf:jC n0 t.n1 e) (ho:cX t.ob)
 (hK:∀ v w',jG C e w n0 t v w'->K (a.put o.dst v) w'):o.wpIn F m C.P a w K Q:=by
 have hnd:ui o:=by
  intro c hc;unfold mfOp at hu;rw[hc] at hu;cases hu
 unfold mfOp at hu;split at hu
 ·rename_i ty hop;split at hu
  rotate_left
  ·cases hu
  split at hu
  rotate_left
  ·cases hu
  split at hu
  rotate_left
  ·cases hu
  injection hu with hu;subst hu
  have hk:(w.alloc (.map #[] 0)).heap[w.heap.size]?=some (.map #[] 0):=by
   show (w.heap.push _)[w.heap.size]?=_;simp
  rename_i nk vk _ _;obtain⟨e',q1,q2⟩:=zI (v:=.map (some w.heap.size)) (ob:=.mf nk vk (fun _=>0) none) hg hf ((cF _ w).alloc (cb _) (.map #[] 0)) (cb _) hk (.inr (.inr (.inr ⟨_,_,rfl⟩))) (fun e' hadv p1 p2 p3=>⟨w.heap.size,#[],0,[],p1,p2,p3,hk,⟨rfl,fun _ h=>(by cases h),fun _ h=>(by cases h),List.Pairwise.nil,fun _=>rfl⟩,fun _ _ h=>(by cases h)⟩);exact cJ hW hnd (v:=.map (some w.heap.size)) (w':=w.alloc (.map #[] 0)) (by simp [execOp,hop,Instr.makeMap]) (hK _ _ ⟨e',q1,q2⟩)
 ·rename_i ty x i ok hop;split at hu
  rotate_left
  ·cases hu
  rename_i q hx;obtain⟨v,h1,h2⟩:=cht hT hV hM hg hx hu ho;exact cJ hW hnd (v:=v) (w':=w) (by simp only[execOp,hop,jA,h1];rfl) (hK _ _ h2)
 ·rename_i ty x i y hop;split at hu
  rotate_left
  ·cases hu
  rename_i q hx;obtain⟨w',h1,h2⟩:=ciL hV hM hg hx hu;have:(execOp a.eval o).run C.P w=.ok .skip w':=by simp only[execOp,hop,jA,h1];rfl
  refine⟨fun f _=>hW.fn f,?_⟩;rw[Ei _ _ _ hnd,this];exact hK _ _ h2
 ·rename_i ty x i hop;split at hu
  rotate_left
  ·cases hu
  rename_i q hx;obtain⟨v,w',h1,h2⟩:=cfa hV hM hg hx hu hf;exact cJ hW hnd (v:=v) (w':=w') (by simp only[execOp,hop,jA,h1];rfl) (hK _ _ h2)
 ·rename_i ty x s y hop;split at hu
  rotate_left
  ·cases hu
  rename_i q hx;obtain⟨w',h1,h2⟩:=cex (ty:=ty) hV hM hg hx hu;have:(execOp a.eval o).run C.P w=.ok .skip w':=by simp only[execOp,hop,jA,h1];rfl
  refine⟨fun f _=>hW.fn f,?_⟩;rw[Ei _ _ _ hnd,this];exact hK _ _ h2
 ·cases hu
end
section
variable {S:Stat D}{T:Tab D}{V:cR}{M:ct D}{n0:Nat}{o:Oper}{t:Out D}
theorem mfOp_le (hu:mfOp S T V M n0 o=some t):n0<=t.n1:=by
 unfold mfOp cbA cfF WA Wi at hu
 repeat' (split at hu<;>try (cases hu;done))
 all_goals (injection hu with hu;subst hu;first|exact cb _|exact jQ _)
end
variable {D:Type}
def over (base:ct D) (m:Ws D):ct D:=fun b=>match find b m with
 |some o=>some o
 |none=>base b
def zm (S:Stat D):Nat->List (Nat×Nat×List (Grp D))->List A1×Ws D×Nat
 |s,[]=>([],[],s)
 |s,c::l=>match zm S (s+2) l with
  |(xs,ws,s')=>(.one (.fn (s+1))::xs,jK ws [(s+1,.cp s 0 c.2.1 0),(s,.cls (S.mkL ⟨0,c.1,c.2.1,1,fun _=>c.2.2⟩))],s')
def YA (csz:D->Nat) (s:Nat):List (Grp D)->List A1×Ws D×Nat
 |[]=>([],[],s)
 |g::gs=>match cji csz s (g::gs) with
  |(cs,ws,s')=>([.agg cs],ws,s')
def ccF (S:Stat D) (T:Tab D) (CF:cz D) (V:cR) (M:ct D) (n0:Nat) (o:Oper):Option (Out D) :=
 match o.op with
 |.call c=>match c.callee with
  |.value fo=>match CV V fo with
   |some (.val (.one (.sym s 0)))=>match M s with
    |some (.cls d)=>match S.unF d,CP V c.args.toList with
     |some (f,pre,cap),some l=>match YA S.csz n0 pre with
      |(xs,ws1,n1)=>match zm S n1 cap with
       |(ys,ws2,n2)=>match JR S T CF (over M (jK ws2 ws1)) n2 (o.dst.getD 0) f (jU xs++(l++jU ys)) with
        |some t=>match Nat.ble n2 t.n1 with
         |true=>some ⟨t.x,jK t.ws (jK ws2 ws1),t.n1,t.ob⟩
         |false=>none
        |none=>none
     |_,_=>none
    |_=>none
   |_=>none
  |_=>none
 |_=>none
section
variable {C:Ctx D}{e e':Env}{w:World}{s s':Nat}
theorem Yx {l:Ws D}(hg:Kv C e w) (g:Cn (fun d f=>∀ w',jy e w w'->C.E d w' f) s s' l e e'):jM C e w s s' l e' w:=by
 have hadv:Adv e w e' w:=⟨g.ext,cb _,fun k _ hn=>⟨by rw[g.ρ];exact hn,rfl⟩⟩;refine⟨g.le,hadv,⟨fun b k h=>.inl (by rw[← g.ρ];exact h),g.ν,fun b k h=>.inl (by rw[← g.φ];exact h)⟩,⟨hg.below,?_,?_,hg.fr.adv hadv⟩,?_,?_⟩
 ·rw[g.al,g.ρ];exact hg.inj
 ·rw[g.ρ];exact hg.own
 ·intro b o ho;obtain⟨_,d,rfl,f,h1,h2⟩:=g.live b o (yg ho);exact⟨f,h1,fun w'' hk=>h2 w'' ⟨hk.size,fun k h1 h2 h3=>hk.block k h1 (by rw[g.ρ];exact h2) (by rw[g.ext.ot];exact h3)⟩⟩
 ·intro b o ho _;exact ho.adv hadv (fun k _ ha=>⟨by rw[g.al];exact ha,rfl⟩)
theorem cdc (hC:C.Ok) (hg:Kv C e w) {d:D}{v:Value}(hf:jC s (s+1) e) (h:∀ w',jy e w w'->C.E d w' [v]):∃ e',jM C e w s (s+1) [(s,.cls d)] e' w/\e'.ν s=some [v]:=by
 have hl:C.csz d=1:=by simpa using (hC.len _ _ _ (h w (jy.refl _ _))).symm
 have hby:Gy (fun d f=>∀ w',jy e w w'->C.E d w' f) C.csz [.cls d] [v]:=by
  refine⟨⟨?_,?_,?_⟩,?_⟩
  ·rw[hl];exact h
  ·rw[hl];rfl
  ·rw[hl];exact hC.cell _ _ _ (h w (jy.refl _ _))
  ·show List.drop (C.csz d) [v]=[];rw[hl];rfl
 have hm:cji C.csz s [.cls d]=([.sym s 0],[(s,.cls d)],s+1):=by simp [cji,hl,zY]
 obtain⟨e',g,h1⟩:=CY hm (cb _) (fun x h1 h2=>(hf x h1 h2).2.1) hby;have hL:=Yx hg g;obtain⟨f,h2,h3⟩:=hL.wrote s (.cls d) (by simp [cC]);obtain⟨x,ws,h4,⟨f',h5,h6,_⟩,h7⟩:=h1;rw[h2] at h5;injection h5 with h5;subst h5
 injection h4 with h4 _;subst h4
 have hl2:=hC.len _ _ _ h3.out;refine⟨e',hL,?_⟩;rw[h2];rw[hl] at hl2
 match f,hl2,h6 with
 |[y],_,h6 =>
  injection h6 with h6;rw[h6]
theorem box_cap {L:Lt D}{k o cp:Nat}(hn:L.n=1) (h:EN C w L (.slice (some ⟨k,o,none⟩) 1 cp)):EN C w L (.slice (some ⟨k,o,none⟩) 1 1):=by
 rcases h with⟨h,_⟩|⟨k',o',c,arr,pre,vs,rest,q1,q2,q3⟩
 ·omega
 ·injection q1 with q1 q1' q1''
  injection q1 with q1;injection q1 with q1 qo
  subst q1;subst qo;exact .inr ⟨k,o,1,arr,pre,vs,rest,by rw[hn],by omega,q3⟩
theorem Jf {S:Stat D}:∀ {cap:List (Nat×Nat×List (Grp D))}{s s':Nat}{xs:List A1}{ws:Ws D},zm S s cap=(xs,ws,s')->s<=s'
 |[],s,s',xs,ws,h=>by
  simp only[zm,co] at h;omega
 |c::l,s,s',xs,ws,h=>by
  simp only[zm] at h;generalize hm:zm S (s+2) l=r at h;obtain⟨xs',ws',s''⟩:=r;simp only[co] at h;have:=Jf hm;omega
theorem ccY {csz:D->Nat}{pre:List (Grp D)}{xs:List A1}{ws:Ws D}(h:YA csz s pre=(xs,ws,s')):s<=s':=by
 unfold YA at h;split at h
 ·simp only[co] at h;omega
 ·generalize hm:cji csz s _=r at h;obtain⟨cs',l',s''⟩:=r;simp only[co] at h;have:=Ec hm;omega
theorem ZM (hC:C.Ok):∀ {cap:List (Nat×Nat×List (Grp D))}{s s':Nat}{xs:List A1}{ws:Ws D}{q:List Value}{e:Env},zm C.toStat s cap=(xs,ws,s')->Kv C e w->jC s s' e->(∀ w',jy e w w'->ym C w' cap q)->∃ e',jM C e w s s' ws e' w/\ke e' xs q
 |[],s,s',xs,ws,q,e,h,hg,hf,hq=>by
  simp only[zm,co] at h;obtain⟨rfl,rfl,rfl⟩:=h;exact⟨e,jM.refl hg _,hq w (jy.refl _ _)⟩
 |c::l,s,s',xs,ws,q,e,h,hg,hf,hq=>by
  simp only[zm] at h;generalize hm:zm C.toStat (s+2) l=r at h;obtain⟨xs',ws',s''⟩:=r;simp only[co] at h;obtain⟨rfl,rfl,rfl⟩:=h;have hle:=Jf hm;obtain⟨k,o,cp,q',rfl,_,_⟩:=hq w (jy.refl _ _);have hq1:∀ w',jy e w w'->EN C w' ⟨0,c.1,c.2.1,1,fun _=>c.2.2⟩ (.slice (some ⟨k,o,none⟩) 1 1)/\ym C w' l q':=by
   intro w' hk;obtain⟨k',o',cp',q'',h1,h2,h3⟩:=hq w' hk;injection h1 with h1 h1'
   injection h1 with h1;injection h1 with h1;injection h1 with h1 ho
   subst h1;subst ho;subst h1';exact⟨box_cap rfl h2,h3⟩
  obtain⟨e1,hL1,hν⟩:=cdc hC hg (hf.mono (cb _) (by omega)) (fun w' hk=>hC.lists _ _ _ (hq1 w' hk).1);have hf1:jC (s+1) s'' e1:=(hf.mono (cb _) (cb _)).new hL1.new (by omega);obtain⟨e2,hL2,hφ⟩:=ue (C:=C) (v:=.pointer (some ⟨k,o,none⟩)) (ob:=.cp s 0 c.2.1 0) hL1.good (hf1.mono (cb _) (by omega)) (fun e' hx hp=>⟨k,o,1,1,hx.ν _ _ hν,by rw[hp];simp⟩);have hf2:jC (s+1+1) s'' e2:=hf1.new hL2.new (by omega);obtain⟨e3,hL3,hxs⟩:=ZM hC (q:=q') hm hL2.good hf2 (fun w' hk=>(hq1 w' ((hL1.adv.trans hL2.adv).keeps hk)).2);exact⟨e3,(hL1.trans hL2).trans hL3,_,_,rfl,hL3.adv.ext.φ _ _ hφ,hxs⟩
theorem chH (hC:C.Ok) (hg:Kv C e w) {pre:List (Grp D)}{xs:List A1}{ws:Ws D}{p:List Value}(h:YA C.csz s pre=(xs,ws,s')) (hf:jC s s' e) (hp:∀ w',jy e w w'->JX C w' pre p):∃ e',jM C e w s s' ws e' w/\ke e' xs p:=by
 unfold YA at h;split at h
 ·simp only[co] at h;obtain⟨rfl,rfl,rfl⟩:=h;exact⟨e,jM.refl hg _,hp w (jy.refl _ _)⟩
 ·rename_i g gs;generalize hm:cji C.csz s (g::gs)=r at h;obtain⟨cs',l',s''⟩:=r;simp only[co] at h;obtain⟨rfl,rfl,rfl⟩:=h;obtain⟨vs,_,rfl⟩:=hp w (jy.refl _ _);have hby:Gy (fun d f=>∀ w',jy e w w'->C.E d w' f) C.csz (g::gs) vs:=Jk hC (W:=fun w'=>jy e w w') w (jy.refl _ _) (fun w' hk=>by
   obtain⟨vs',h1,h2⟩:=hp w' hk;injection h2 with h2 _
   have:vs=vs':=by injection h2 with h2;simpa using h2
   rw[this];exact h1)
  obtain⟨e',gr,h1⟩:=CY hm (cb _) (fun x h1 h2=>(hf x h1 h2).2.1) hby;exact⟨e',Yx hg gr,_,_,rfl,⟨vs,h1,rfl⟩,rfl⟩
end
section
variable {F:Fence}{m:Nat}{C:Ctx D}{e:Env}{a:Act}{w:World}{V:cR}{M:ct D}{T:Tab D}{CF YF:cz D}{n0:Nat}{K:Act->World->Prop}{Q:Exit->Act->World->Prop}{o:Oper}{t:Out D}
theorem cgx (hM:cA C e w M) {e':Env}{w':World}{m:Ws D}{n1:Nat}(h:jM C e w n0 n1 m e' w'):cA C e' w' (over M m):=fun b o ho=>by
 unfold over at ho;split at ho
 ·rename_i o' hf;injection ho with ho;subst ho
  exact h.wrote b _ hf
 ·rename_i hn;exact h.kept b o (hM b o ho) hn
theorem chX (hW:Wd F) (hC:C.Ok) (hT:T.Ok C) (hF:CF.Ok C) (hV:cN e a V) (hM:cA C e w M) (hg:Kv C e w) (hu:ccF C.toStat T CF V M n0 o=some t) (hf:jC n0 t.n1 e) (ho:cX t.ob) (hK:∀ v w',jG C e w n0 t v w'->K (a.put o.dst v) w'):o.wpIn F m C.P a w K Q:=by
 unfold ccF at hu;split at hu
 rotate_left
 ·cases hu
 rename_i c hop;split at hu
 rotate_left
 ·cases hu
 rename_i fo hcal;split at hu
 rotate_left
 ·cases hu
 rename_i s hfo;split at hu
 rotate_left
 ·cases hu
 rename_i d hd;split at hu
 rotate_left
 ·cases hu
 rename_i f pre cap l hun hl;generalize hp:YA C.csz n0 pre=r1 at hu;obtain⟨xs,ws1,n1⟩:=r1;simp only at hu;generalize hc:zm C.toStat n1 cap=r2 at hu;obtain⟨ys,ws2,n2⟩:=r2;simp only at hu;split at hu
 rotate_left
 ·cases hu
 rename_i r hr;split at hu
 rotate_left
 ·cases hu
 rename_i l3;have l3:=jh l3;injection hu with hu;subst hu
 have l1:=ccY hp;have l2:=Jf hc;have hnd:ui o:=by
  intro c' hc';rw[hop] at hc';cases hc'
 obtain⟨ls,h1,h2,_⟩:=cM hV hfo;obtain⟨ls',h3,h4⟩:=hM _ _ hd;rw[h1] at h3;injection h3 with h3;subst h3
 obtain⟨v,h5,p,q,h6,h7,h8⟩:=hC.unfun _ _ _ _ _ _ hun h4.out;subst h5;injection h2 with h2
 have hk:∀ w',jy e w w'->JX C w' pre p/\ym C w' cap q:=by
  intro w' hk;obtain⟨v',h9,p',q',h10,h11,h12⟩:=hC.unfun _ _ _ _ _ _ hun (h4 w' hk);injection h9 with h9 _
  subst h9;rw[h6] at h10;injection h10 with _ h10 h13
  have e1:p=p':=by injection h10
  have e2:q=q':=by injection h13
  subst e1;subst e2;exact⟨h11,h12⟩
 have hf0:jC n0 n1 e:=hf.mono (cb _) (by show n1<=r.n1;omega);obtain⟨e1,hL1,ha1⟩:=chH hC hg hp hf0 (fun w' h=>(hk w' h).1);have hf1:jC n1 r.n1 e1:=hf.new hL1.new l1;obtain⟨e2,hL2,ha2⟩:=ZM hC hc hL1.good (hf1.mono (cb _) (by omega)) (fun w' h=>(hk w' (hL1.adv.keeps h)).2);have hf2:jC n2 r.n1 e2:=hf1.new hL2.new l2;have hL:=hL1.trans hL2;have hx:=hL.adv.ext;have hargs:kv e2 (jU xs++(l++jU ys)) (p++(c.args.toList.map a.eval++q)):=by
  refine(ub (ha1.ext hL2.adv.ext)).append (kv.append ?_ (ub ha2));have:=uZ (hV.ext hx) hl;exact this
 obtain⟨hen,hcalls⟩:=YR hC hT hF (cgx hM hL) hL.good hargs hr hf2 ho;refine cbl (t:=⟨r.x,jK r.ws (jK ws2 ws1),r.n1,r.ob⟩) hW hnd hop hcal (p:=p) (q:=q) (by rw[← h2,h6]) ⟨hen,Calls.mono hcalls ?_⟩ hK;rintro en w' ⟨v',rfl,e3,hL3,hx3⟩;exact⟨v',rfl,e3,hL.trans hL3,hx3⟩
end
variable {D:Type}
structure Prt (D:Type) where
 l:Nat
 i:Nat
 n:Nat
 ty:Nat
 z:Nat
 N:Nat
 g:Nat->List (Grp D)
def esOf (M:ct D):Option AV->Option (Prt D)
 |some (.val (.one (.fn b)))=>match M b with
  |some (.es l i n z)=>match M l with
   |some (.gl ty z' N g)=>match Nat.beq z z' with
    |true=>some ⟨l,i,n,ty,z',N,g⟩
    |false=>none
   |_=>none
  |_=>none
 |_=>none
def cda (M:ct D) (x:Option AV):Option (Prt D):=match esOf M x with
 |some p=>some p
 |none=>match x with
  |some (.val (.one (.fn b)))=>match M b with
   |some (.gl ty z n g)=>some ⟨b,0,n,ty,z,n,g⟩
   |_=>none
  |_=>none
def clrG (i n:Nat) (x:List (Grp D)) (g:Nat->List (Grp D)):Nat->List (Grp D):=fun j=>match Nat.ble i j with
 |true=>match Nat.blt j (i+n) with
  |true=>x
  |false=>g j
 |false=>g j
def esSl (S:Stat D) (n0:Nat) (t:TypeId):Option (Prt D)->Option (Option Nat)->Option (Option Nat)->Option (Out D)
 |some p,some l,some h=>match ur S.P t with
  |some (_,i)=>match Nat.beq i.size p.z with
   |true=>match l with
    |none=>some ⟨.val (.one (.fn n0)),[(n0,.es p.l p.i (h.getD p.n) p.z)],n0+1,[0<p.n,h.getD p.n<=p.n]⟩
    |some l=>some ⟨.val (.one (.fn n0)),[(n0,.es p.l (p.i+l) (h.getD p.n-l) p.z)],n0+1,[l<h.getD p.n,h.getD p.n<=p.n]⟩
   |false=>none
  |_=>none
 |_,_,_=>none
def ccW (S:Stat D) (n0:Nat) (ats:List Nat):Option (Prt D)->Option (Out D)
 |some p=>match ats with
  |[t]=>match ur S.P t with
   |some (e,i)=>match i.zero with
    |some z0=>match Nat.beq z0.cells.size i.size,Nat.beq i.size p.z,S.okT p.ty with
     |true,true,true=>match CB (fun c=>match c with
      |.lit v=>v.oneCell'
      |_=>true) (z0.cells.toList.map .lit) with
      |true=>some ⟨.tup [],[(p.l,.gl p.ty p.z p.N (clrG p.i p.n (cfg z0.cells.toList) p.g))],n0,[0<p.n,p.i+p.n<=p.N]⟩
      |false=>none
     |_,_,_=>none
    |none=>none
   |none=>none
  |_=>none
 |none=>none
def esOp (S:Stat D) (V:cR) (M:ct D) (n0:Nat) (o:Oper):Option (Out D) :=
 match o.op with
 |.slice t x lo hi none=>esSl S n0 t (cda M (CV V x)) (kI V lo) (kI V hi)
 |.indexAddr t x i=>match esOf M (CV V x),ur S.P t,lit? (CV V i) with
  |some p,some (_,inf),some (.int .i64 (.ofNat j))=>match Nat.beq inf.size p.z with
   |true=>some ⟨.val (.one (.fn n0)),[(n0,.ep p.l (p.i+j) p.z 0)],n0+1,[j<p.n]⟩
   |false=>none
  |_,_,_=>none
 |.call c=>match c.callee with
  |.builtin .len=>match c.args.toList with
   |[x]=>match esOf M (CV V x),c.argTypes[0]? with
    |some p,some t=>match S.P.underlying t with
     |some (.slice _)=>out n0 (.val (.one (.lit (goInt p.n))))
     |_=>none
    |_,_=>none
   |_=>none
  |.builtin .clear=>match c.args.toList with
   |[x]=>ccW S n0 c.argTypes.toList (esOf M (CV V x))
   |_=>none
  |_=>none
 |_=>none
theorem esOp_le {S:Stat D}{V:cR}{M:ct D}{n0:Nat}{o:Oper}{t:Out D}(hu:esOp S V M n0 o=some t):n0<=t.n1:=by
 unfold esOp at hu
 repeat' (split at hu<;>try (cases hu;done))
 ·unfold esSl at hu
  repeat' (split at hu<;>try (cases hu;done))
  all_goals (injection hu with hu;subst hu;exact jQ _)
 ·injection hu with hu;subst hu;exact jQ _
 ·injection hu with hu;subst hu;exact cb _
 ·unfold ccW at hu
  repeat' (split at hu<;>try (cases hu;done))
  injection hu with hu;subst hu;exact cb _
section
variable {F:Fence}{m:Nat}
variable {C:Ctx D}{e:Env}{a:Act}{w:World}{V:cR}{M:ct D}{n0:Nat}{K:Act->World->Prop}{Q:Exit->Act->World->Prop}{o:Oper}{t:Out D}
theorem Wb (hV:cN e a V) (hM:cA C e w M) {x:Operand}{p:Prt D}(h:esOf M (CV V x)=some p) :
 ∃ k N c,e.ρ p.l=some k/\e.φ p.l=some (.slice (some ⟨k,0,none⟩) N c)/\p.i+p.n<=c/\a.eval x=.slice (some ⟨k,p.i*p.z,none⟩) p.n (c-p.i)/\M p.l=some (.gl p.ty p.z p.N p.g):=by
 unfold esOf at h;split at h
 rotate_left
 ·cases h
 rename_i b hx;have hv:e.φ b=some (a.eval x):=cM hV hx;split at h
 rotate_left
 ·cases h
 rename_i l i n z hb;split at h
 rotate_left
 ·cases h
 rename_i ty z' N g hl;split at h
 rotate_left
 ·cases h
 rename_i hz;obtain rfl:=cn hz;injection h with h;subst h
 obtain⟨k,N',c,h1,h2,h2',h3⟩:=hM _ _ hb;rw[hv] at h3;injection h3 with h3
 exact⟨k,N',c,h1,h2,h2',h3,hl⟩
theorem ciO (hV:cN e a V) (hM:cA C e w M) {x:Operand}{p:Prt D}(h:cda M (CV V x)=some p) (hn:0<p.n) :
 ∃ k N c,e.ρ p.l=some k/\e.φ p.l=some (.slice (some ⟨k,0,none⟩) N c)/\p.i+p.n<=c/\a.eval x=.slice (some ⟨k,p.i*p.z,none⟩) p.n (c-p.i):=by
 unfold cda at h;split at h
 ·rename_i p' hp;injection h with h;subst h
  obtain⟨k,N,c,h1,h2,h3,h4,_⟩:=Wb hV hM hp;exact⟨k,N,c,h1,h2,h3,h4⟩
 ·split at h
  rotate_left
  ·cases h
  rename_i b hx;have hv:e.φ b=some (a.eval x):=cM hV hx;split at h
  rotate_left
  ·cases h
  rename_i ty z n g hb;injection h with h;subst h
  obtain⟨v,h1,h2⟩:=hM _ _ hb;rw[hv] at h1;injection h1 with h1;subst h1
  rcases h2 with⟨h2,_⟩|⟨k,c,arr,vs,rest,h3,_,h5,_,_,_,_,h10,_⟩
  ·have hn:0<n:=hn;omega
  ·exact⟨k,n,c,h3,by rw[← h5];exact hv,by simpa using h10,by rw[h5];simp⟩
theorem esSl_is (hV:cN e a V) (hM:cA C e w M) (hg:Kv C e w) {ty:Nat}{x:Operand}{lo hi:Option Operand}(hu:esSl C.toStat n0 ty (cda M (CV V x)) (kI V lo) (kI V hi)=some t) (hf:jC n0 t.n1 e) (ho:cX t.ob) :
 ∃ v,(Instr.sliceAt ty (a.eval x) (lo.map a.eval) (hi.map a.eval) none).run C.P w=.ok v w/\jG C e w n0 t v w:=by
 cases hs:cda M (CV V x) with
 |none=>rw[hs] at hu;simp [esSl] at hu
 |some s =>
 cases hlo:kI V lo with
 |none=>rw[hs,hlo] at hu;simp [esSl] at hu
 |some l =>
 cases hhi:kI V hi with
 |none=>rw[hs,hlo,hhi] at hu;simp [esSl] at hu
 |some h =>
 rw[hs,hlo,hhi] at hu;unfold esSl at hu;simp only at hu;split at hu
 rotate_left
 ·cases hu
 rename_i el inf he;obtain⟨hel,hinf⟩:=ka he;split at hu
 rotate_left
 ·cases hu
 rename_i hz;have hz:=cn hz;have key:∀ (l:Option Nat),kI V lo=some l->l.getD 0<=h.getD s.n->(∀ y,l=some y->y<h.getD s.n)->h.getD s.n<=s.n->0<s.n->jC n0 (n0+1) e->∃ v,(Instr.sliceAt ty (a.eval x) (lo.map a.eval) (hi.map a.eval) none).run C.P w=.ok v w/\jG C e w n0 (⟨.val (.one (.fn n0)),[(n0,.es s.l (s.i+l.getD 0) (h.getD s.n-l.getD 0) s.z)],n0+1,[]⟩:Out D) v w:=by
  intro l hlo h1 h1' h2 h3 hf;obtain⟨k,N,c0,h4,h4',h5,h6⟩:=ciO hV hM hs h3;obtain⟨c,hc0⟩:∃ c,c=c0-s.i:=⟨_,rfl⟩;rw[← hc0] at h6;obtain⟨e',p1,p2⟩:=ue (C:=C) (v:=.slice (some ⟨k,(s.i+l.getD 0)*s.z,none⟩) (h.getD s.n-l.getD 0) (c-l.getD 0)) (ob:=.es s.l (s.i+l.getD 0) (h.getD s.n-l.getD 0) s.z) hg hf (fun e' hx p=>⟨k,N,c0,hx.ρ _ _ h4,hx.φ _ _ h4',by omega,by rw[p,hc0,Nat.sub_sub]⟩);have h5:s.n<=c:=by omega
  refine⟨_,?_,e',p1,p2⟩;have hb:=zF (C:=C) (w:=w) (n:=s.n) (c:=c) (mx:=none) (mx':=none) hV hlo hhi rfl (fun k h=>by cases h) h1 (by simp only[Cr];omega) (by simp);simp only[Cr,Option.map_none] at hb;cases l with
  |none =>
   simp only[Cr,Nat.sub_zero,jz] at hb ⊢;by_cases hc:c=0
   ·omega
   ·simp [Instr.sliceAt,Instr.slice,h6,jm hel,hb,jD hinf,hc,jt]
  |some l =>
   simp only[GN] at hb h1 ⊢;have:=h1' l rfl;have hne:¬ c=l:=by omega
   simp [Instr.sliceAt,Instr.slice,h6,jm hel,hb,jD hinf,hne,jt,hz,cD]
 split at hu
 ·injection hu with hu;subst hu
  obtain⟨h1,h2,_⟩:=ho;obtain⟨v,p1,p2⟩:=key none hlo (cQ _) (fun y hy=>by cases hy) h2 h1 hf;exact⟨v,p1,p2⟩
 ·rename_i l';injection hu with hu;subst hu
  obtain⟨h1,h2,_⟩:=ho;have h1:l'<h.getD s.n:=h1;have h2:h.getD s.n<=s.n:=h2;obtain⟨v,p1,p2⟩:=key (some l') hlo (uK h1) (fun y hy=>by injection hy with hy;subst hy;exact h1) h2 (by omega) hf;exact⟨v,p1,p2⟩
theorem ciw (hV:cN e a V) (hM:cA C e w M) (hg:Kv C e w) {ats:List Nat}{ty:TypeId}{x:Operand}(hu:ccW C.toStat n0 ats (esOf M (CV V x))=some t) (ho:cX t.ob) :
 ∃ v w',(Builtin.clear_ ats.toArray ty #[a.eval x]).run C.P w=.ok v w'/\jG C e w n0 t v w':=by
 cases hs:esOf M (CV V x) with
 |none=>rw[hs] at hu;simp [ccW] at hu
 |some p =>
 rw[hs] at hu;unfold ccW at hu;simp only at hu;split at hu
 rotate_left
 ·cases hu
 rename_i T1;split at hu
 rotate_left
 ·cases hu
 rename_i el i he;obtain⟨hel,hinf⟩:=ka he;split at hu
 rotate_left
 ·cases hu
 rename_i z0 hz0;split at hu
 rotate_left
 ·cases hu
 rename_i h1 h2 hok;have h1:=cn h1;have h2:=cn h2;split at hu
 rotate_left
 ·cases hu
 rename_i h3;injection hu with hu;subst hu
 obtain⟨h4,h5,_⟩:=ho;have h4:0<p.n:=h4;have h5:p.i+p.n<=p.N:=h5;obtain⟨k,N0,c,hk,_,hc,hx,hl⟩:=Wb hV hM hs;obtain⟨v0,q0,q1⟩:=hM _ _ hl;rcases q1 with⟨q1,_⟩|⟨k',c',arr,vs,rest,q1,qa,q2,q3,q4,q5,q6,q7,q8,q9⟩
 ·omega
 rw[hk] at q1;injection q1 with q1;subst q1
 have hzz:i.size=p.z:=h2;have hzc:(Builtin.zeroCells z0.cells p.n).toList=(List.replicate p.n z0.cells.toList).flatten:=CT z0.cells p.n;have hzl:(Builtin.zeroCells z0.cells p.n).toList.length=p.n*p.z:=by rw[yA,Ej,h1,hzz]
 have hone0:∀ v∈z0.cells.toList,v.oneCell'=true:=cch h3;have hone:∀ v∈(Builtin.zeroCells z0.cells p.n).toList,v.oneCell'=true:=by
  rw[hzc];intro v hv;obtain⟨l,h5,h6⟩:=List.mem_flatten.1 hv;rw[ceO h5] at h6;exact hone0 v h6
 have hfit:p.i*p.z+p.n*p.z<=vs.length:=by
  rw[q5,← cD];exact cK _ h5
 obtain⟨w',arr',r1,r2,r3,r4⟩:=zV C.P k p.ty (Builtin.zeroCells z0.cells p.n).toList 0 (p.i*p.z) w (vs.take (p.i*p.z)) ((vs.drop (p.i*p.z)).take (p.n*p.z)) (vs.drop (p.i*p.z+p.n*p.z)++rest) arr q3 (by
  rw[q4]
  conv=>lhs;rw[← jZ (p.i*p.z) vs,← jZ (p.n*p.z) (vs.drop (p.i*p.z))]
  simp [uF]) (by simp;omega) (by rw[hzl];simp only[ji,kL];omega) hone
 have hok':kE C (.cells arr' p.ty (0,0)):=.inl ⟨_,_,rfl,hok⟩;have hadv:Adv e w e w':=⟨Ext.refl e,by rw[r4.size];exact cb _,fun x hx hn=>⟨hn,r4.block x (fun h=>hn p.l (by rw[hk,h]))⟩⟩;refine⟨.tuple #[],w',?_,e,uI hg hk qa r4 r2 hok' ⟨_,q0,.inr ⟨k,c',arr',vs.take (p.i*p.z)++((Builtin.zeroCells z0.cells p.n).toList++vs.drop (p.i*p.z+(Builtin.zeroCells z0.cells p.n).toList.length)),rest,hk,qa,q2,r2,by rw[r3,hzl];simp,?_,?_,q7,?_,?_⟩⟩,[],rfl,rfl⟩
 ·generalize hn:p.n=pn at *;cases pn with
  |zero=>omega
  |succ n=>simp [Builtin.clear_,jm hel,hx,zeroValue,typeInfo,hinf,hz0,r1]
 ·simp only[kp,ji,kL,hzl];omega
 ·have e1:=cw List.length r3;have e2:=cw List.length q4;simp only[kp,ji,kL,yA] at e1 e2;simp only[yA] at hzl;omega
 ·intro u hu;simp only[List.mem_append] at hu;rcases hu with hu|hu|hu
  ·exact q8 u (cbG hu)
  ·exact hone u hu
  ·exact q8 u (caK hu)
 ·intro j hj;have hj1:j*p.z+p.z<=vs.length:=by rw[q5];exact Wr hj
  have hget:∀ x,(vs.take (p.i*p.z)++((Builtin.zeroCells z0.cells p.n).toList++vs.drop (p.i*p.z+(Builtin.zeroCells z0.cells p.n).toList.length)))[x]?=if x<p.i*p.z then vs[x]? else if x<p.i*p.z+p.n*p.z then (Builtin.zeroCells z0.cells p.n).toList[x-p.i*p.z]? else vs[x]?:=by
   intro x;rw[Wf _ _ _ _ (by rw[hzl];exact hfit),hzl]
  have hside:j<p.i\/(p.i<=j/\j<p.i+p.n)\/p.i+p.n<=j:=by omega
  unfold clrG;rcases hside with hs1|⟨hs1,hs2⟩|hs1
  ·rw[show Nat.ble p.i j=false by
    cases hb:Nat.ble p.i j with
    |false=>rfl
    |true=>exact absurd (jh hb) (by omega)]
   have hlt:j*p.z+p.z<=p.i*p.z:=by rw[← GP];exact cK _ hs1
   have:((vs.take (p.i*p.z)++((Builtin.zeroCells z0.cells p.n).toList++vs.drop (p.i*p.z+(Builtin.zeroCells z0.cells p.n).toList.length))).drop (j*p.z)).take p.z=(vs.drop (j*p.z)).take p.z:=by
    apply yz;intro x;rw[kB,kB];split
    ·rw[kJ,hget,kJ,cq (by omega)]
    ·rfl
   rw[this];exact(q9 j hj).adv hadv
  ·rw[show Nat.ble p.i j=true from zA hs1,show Nat.blt j (p.i+p.n)=true from zA hs2];have h6:p.i*p.z<=j*p.z:=cK _ hs1;have h7:j*p.z+p.z<=p.i*p.z+p.n*p.z:=by rw[← GP,← cD];exact cK _ hs2
   have hzs:z0.cells.toList.length=p.z:=by rw[yA,h1,hzz]
   have:((vs.take (p.i*p.z)++((Builtin.zeroCells z0.cells p.n).toList++vs.drop (p.i*p.z+(Builtin.zeroCells z0.cells p.n).toList.length))).drop (j*p.z)).take p.z=z0.cells.toList:=by
    apply yz;intro x;rw[kB];split
    ·rename_i hx;rw[kJ,hget,cf (by omega),cq (by omega),hzc,Ci p.n _ (by rw[hzs];omega),hzs];congr 1;rw[show j*p.z+x-p.i*p.z=x+p.z*(j-p.i) by rw[Nat.mul_sub,jf p.z j,jf p.z p.i];omega,Ki,kP hx]
    ·rw[uC (by omega)]
   rw[this];exact fun w'' _=>KK _
  ·rw[show Nat.blt j (p.i+p.n)=false by
    cases hb:Nat.blt j (p.i+p.n) with
    |false=>rfl
    |true=>exact absurd (cjh hb) (by omega)]
   have h6:p.i*p.z+p.n*p.z<=j*p.z:=by rw[← cD];exact cK _ hs1
   have:((vs.take (p.i*p.z)++((Builtin.zeroCells z0.cells p.n).toList++vs.drop (p.i*p.z+(Builtin.zeroCells z0.cells p.n).toList.length))).drop (j*p.z)).take p.z=(vs.drop (j*p.z)).take p.z:=by
    apply yz;intro x;rw[kB,kB];split
    ·rw[kJ,hget,kJ,cf (by omega),cf (by omega)]
    ·rfl
   rw[this];have:=(q9 j hj).adv hadv;split<;>exact this
theorem esOp_is (hW:Wd F) (hV:cN e a V) (hM:cA C e w M) (hg:Kv C e w) (hu:esOp C.toStat V M n0 o=some t) (hf:jC n0 t.n1 e) (ho:cX t.ob)
 (hK:∀ v w',jG C e w n0 t v w'->K (a.put o.dst v) w'):o.wpIn F m C.P a w K Q:=by
 have hnd:ui o:=by
  intro c hc;unfold esOp at hu;rw[hc] at hu;cases hu
 unfold esOp at hu;split at hu
 ·rename_i ty x lo hi hop;obtain⟨v,h1,h2⟩:=esSl_is hV hM hg hu hf ho;have:(execOp a.eval o).run C.P w=.ok (.value v) w:=by
   simp [execOp,hop,h1]
  exact cJ hW hnd this (hK _ _ h2)
 ·rename_i ty x i hop;split at hu
  rotate_left
  ·cases hu
  rename_i p el inf j hp he hj;split at hu
  rotate_left
  ·cases hu
  rename_i hz;have hz:=cn hz;injection hu with hu;subst hu
  have h0:j<p.n:=ho.1;obtain⟨hel,hi⟩:=ka he;obtain⟨k,N,c,h1,_,h2,h3,h4⟩:=Wb hV hM hp;have h5:=ki hV hj;have h6:(0:Int)<=Int.ofNat j/\Int.ofNat j<p.n:=⟨Uy j,Int.ofNat_lt.2 h0⟩;obtain⟨e',p1,p2⟩:=ue (C:=C) (v:=.pointer (some ⟨k,(p.i+j)*p.z,none⟩)) (ob:=.ep p.l (p.i+j) p.z 0) hg hf (fun e' hx q=>⟨k,hx.ρ _ _ h1,by rw[q,jz]⟩);have hr:(Instr.indexAt ty (a.eval x) (.int .i64 (.ofNat j))).run C.P w=.ok (.pointer (some ⟨k,(p.i+j)*p.z,none⟩)) w:=by
   simp only[h3,Instr.indexAt,asIntOf,underlying,jA,ER,Ju,kG,hel,cq h6,jD hi,jt,hz,cD];rfl
  have hr2:(execOp a.eval o).run C.P w=.ok (.value (.pointer (some ⟨k,(p.i+j)*p.z,none⟩))) w:=by
   simp only[execOp,hop,h5];simp only[hr,kG,jA];rfl
  exact cJ hW hnd hr2 (hK _ _ ⟨e',p1,p2⟩)
 ·rename_i c hop;split at hu
  ·rename_i hcal;split at hu
   rotate_left
   ·cases hu
   rename_i x hargs;split at hu
   rotate_left
   ·cases hu
   rename_i p ty hp hty;split at hu
   rotate_left
   ·cases hu
   rename_i el hel;obtain⟨k,N,c',h1,_,h2,h3,h4⟩:=Wb hV hM hp;have ha:c.args=#[x]:=by
    apply uJ;simpa using hargs
   have hr:(Builtin.len_ c.argTypes o.type #[a.eval x]).run C.P w=.ok (goInt p.n) w:=by
    simp [Builtin.len_,hty,h3,jm hel]
   exact kY hW hnd hg hu (v:=goInt p.n) (by simp [execOp,hop,resolve,hcal,ha,invoke,builtin,hr]) rfl hK
  ·rename_i hcal;split at hu
   rotate_left
   ·cases hu
   rename_i x hargs;have ha:c.args=#[x]:=by
    apply uJ;simpa using hargs
   obtain⟨v,w',h1,h2⟩:=ciw (ty:=o.type) hV hM hg hu ho;have h1:(Builtin.clear_ c.argTypes o.type #[a.eval x]).run C.P w=.ok v w':=by simpa using h1
   exact cJ hW hnd (by simp [execOp,hop,resolve,hcal,ha,invoke,builtin,h1]) (hK _ _ h2)
  ·cases hu
 ·cases hu
end
end Pe
end Go.Proofs.YtcgiaclelnmhbabGreatDoor
