/- Part 2. -/
import Derived.Test.YtdopipkmcnkdjaaGreatDoorE1
import Derived.OrdersIn
set_option linter.all false
noncomputable section

namespace Go.Proofs.YtdopipkmcnkdjaaGreatDoor
open Go Go.RowKit Go.Proofs
namespace Pe
variable {D:Type}
def cN.Ok (C:Ctx D) (CF:cN D):Prop:=∀ e w M n0 f l vs t,jm C e w M->jr C e w->yH e l vs->CF M n0 f l=some t->um n0 t.n1 e->jE t.ob->
 Enters C.P f/\Calls C.P f vs.toArray w (fun en w'=>∃ v,en=.returned v/\uk C e w n0 t v w')
def Wd (F:Fence):Prop:=F=Fence.wide\/∃ l,F=Fence.wide.inRound l
theorem Wd.fn {F:Fence}(h:Wd F) (f:FuncId):F.fn f:=by
 rcases h with rfl|⟨l,rfl⟩<;>trivial
theorem Wd.depth {F:Fence}(h:Wd F):F.depth=none:=by
 rcases h with rfl|⟨l,rfl⟩<;>rfl
theorem Wd.room {F:Fence}(h:Wd F) (n:Nat):F.room n:=fun d hd=>by rw[h.depth] at hd;cases hd
theorem Wd.calls {F:Fence}(h:Wd F) {n:Nat}{P:Program}{f:FuncId}{args:Array Value}{w:World}{R:Ending->World->Prop}(hc:Calls P f args w R):CallsIn F n P f args w R:=by
 rcases h with rfl|⟨l,rfl⟩
 ·exact callsIn_wide.2 hc
 ·exact(callsIn_wide.2 hc:CallsIn Fence.wide n P f args w R)
def Gn (o:Oper):Prop:=∀ c,o.op≠.defer c
section
variable {F:Fence}{m:Nat}
variable {C:Ctx D}{e:Env}{a:Act}{w:World}{V:jv}{M:cR D}{T:Tab D}{CF:cN D}{n0:Nat}{K:Act->World->Prop}{Q:Exit->Act->World->Prop}{o:Oper}{t:Out D}
theorem cJ (hW:Wd F) (hn:Gn o) {v:Value}{w':World}(h:(execOp a.eval o).run C.P w=.ok (.value v) w') (hK:K (a.put o.dst v) w'):o.wpIn F m C.P a w K Q:=by
 refine⟨fun f _=>hW.fn f,?_⟩;rw[Yu _ _ _ hn,h];exact hK
theorem zn (hW:Wd F) (hn:Gn o) (hg:jr C e w) {x:AV}(hu:(out n0 x:Option (Out D))=some t) {v:Value}(h:(execOp a.eval o).run C.P w=.ok (.value v) w) (hx:x.is e v) (hK:∀ v w',uk C e w n0 t v w'->K (a.put o.dst v) w'):o.wpIn F m C.P a w K Q:=by
 injection hu with hu;subst hu
 exact cJ hW hn h (hK _ _ (uk.here hg hx))
theorem GY (hW:Wd F) (hn:Gn o) (hg:jr C e w) {s:Sem Value}(hu:uU C.P n0 s=some t) (h:∀ v w',s.run C.P w=.ok v w'->(execOp a.eval o).run C.P w=.ok (.value v) w') (hK:∀ v w',uk C e w n0 t v w'->K (a.put o.dst v) w'):o.wpIn F m C.P a w K Q:=by
 unfold uU at hu;split at hu
 ·rename_i v hv;exact zn hW hn hg hu (h _ _ (KR hv w)) rfl hK
 ·cases hu
theorem EE (w:World) (o:Obj):Below w.heap.size w { w with heap:=w.heap.push o }:=⟨rfl,rfl,rfl,by simp,fun k hk=>by
 show (w.heap.push _)[k]?=_;rw[chk,cg (by omega)]⟩
theorem Uv (hg:jr C e w) {ty:Nat}{cs:List AC}{x:AC}(hu:zD C.toStat n0 ty cs none x=some t) (hf:um n0 t.n1 e) {w':World}(hb:Below w.heap.size w w') {arr:Array Value}(hk:w'.heap[w.heap.size]?=some (.cells arr ty (0,0))) (hc:cZ e cs arr.toList) {v:Value}(hx:∀ e':Env,e'.ρ n0=some w.heap.size->x.is e' v):uk C e w n0 t v w':=by
 unfold zD at hu;split at hu
 ·rename_i ht;injection hu with hu;subst hu
  obtain⟨e',h1,h2,_⟩:=cir hg hf ht hb hk (vs:=arr.toList) (rest:=[]) (by simp) hc (z:=none) (cap:=0) rfl;exact⟨e',h1,hx e' h2⟩
 ·cases hu
theorem zP (hC:C.Ok) (hM:jm C e w M) {c:AC}{v:Value}(h:ky M c=true) (hc:c.is e v):v.oneCell'=true:=by
 cases c with
 |lit x=>rw[show v=x from hc];exact h
 |sym s j =>
  obtain⟨f,h1,h2,h3⟩:=hc;exact h3
 |ptr b o=>obtain⟨k,_,rfl⟩:=hc;rfl
 |slc b o n c=>obtain⟨k,_,rfl⟩:=hc;rfl
 |gsl b n=>obtain⟨k,_,rfl⟩:=hc;rfl
 |gso b i z n=>obtain⟨k,_,rfl⟩:=hc;rfl
 |yld b=>obtain⟨k,_,rfl⟩:=hc;rfl
 |fn c =>
  simp only[ky] at h;split at h
  ·rename_i f p q hl;obtain⟨p',q',h1,_,_⟩:=hM _ _ hl;rw[show e.φ c=some v from hc] at h1;injection h1 with h1
   rw[h1];rfl
  ·rename_i hl;obtain⟨v',h1,h2⟩:=hM _ _ hl;rw[show e.φ c=some v from hc] at h1;injection h1 with h1;subst h1
   rcases h2 with⟨_,rfl⟩|⟨_,_,_,_,_,_,_,rfl,_⟩<;>rfl
  ·rename_i hl;obtain⟨k,_,h1⟩:=hM _ _ hl;rw[show e.φ c=some v from hc] at h1;injection h1 with h1
   rw[h1];rfl
  ·rename_i hl;obtain⟨k,_,_,_,_,h1⟩:=hM _ _ hl;rw[show e.φ c=some v from hc] at h1;injection h1 with h1
   rw[h1];rfl
  ·rename_i hl;obtain⟨k,_,_,_,h1,_⟩:=hM _ _ hl;rw[show e.φ c=some v from hc] at h1;injection h1 with h1
   rw[h1];rfl
  ·cases h
theorem A1.cells_are {x:A1}{v:Value}(hC:C.Ok) (hM:jm C e w M) (h:x.is e v) (hs:CQ (ky M) x.cells=true):cZ e x.cells v.cells.toList:=by
 cases x with
 |one c =>
  simp only[A1.cells,CQ] at hs ⊢;split at hs
  ·rename_i hc;have h1:=zP hC hM hc h;have:v.cells=#[v]:=by cases v<;>first|rfl|(simp [Value.oneCell'] at h1)
   rw[this];exact⟨v,[],rfl,h,rfl⟩
  ·cases hs
 |agg cs =>
  obtain⟨vs,h1,rfl⟩:=h;simpa [Value.cells,A1.cells] using h1
theorem Ce (hC:C.Ok) (hM:jm C e w M):∀ {cs:List AC}{vs:List Value},CQ (ky M) cs=true->cZ e cs vs->∀ v∈vs,v.oneCell'=true
 |[],vs,_,h,v,hv=>by rw[h] at hv;simp at hv
 |c::cs,vs,hs,⟨x,ws,h1,h2,h3⟩,v,hv=>by
  simp only[CQ] at hs;split at hs
  ·rename_i hc;subst h1;rcases List.mem_cons.1 hv with rfl|hv
   ·exact zP hC hM hc h2
   ·exact Ce hC hM hs h3 v hv
  ·cases hs
theorem JT (hM:jm C e w M) {b k p:Nat}(hk:e.ρ b=some k) {ty:TypeId}{x:A1}(h:Ym C.P M ty b p=some x) :
 ∃ v,(loadVar ty ⟨k,p,none⟩).run C.P w=.ok v w/\x.is e v:=by
 unfold Ym at h;split at h
 ·cases h
 ·rename_i d hd;split at h
  ·rename_i ha;split at h
   ·rename_i i hi;split at h
    ·rename_i ty' cs hcs;injection h with h;subst h
     obtain⟨h1,arr,pre,vs,rest,h2,h3,h4,h5⟩:=zG hM hk hcs;refine⟨.agg vs.toArray,?_,vs,h5,rfl⟩;have hl:vs.length=i.size:=h5.length.trans h1;have:=cfu (P:=C.P) (w:=w) ⟨k,p,none⟩ vs (fun j v hj=>by rw[jL];exact zi h2 h3 h4 j v hj);rw[hl] at this;simp [loadVar,uu hd,ha,jZ hi,this]
    ·cases h
   ·cases h
  ·rename_i ha;split at h
   ·rename_i ty' c hcs;injection h with h;subst h
    obtain⟨h1,arr,pre,vs,rest,h2,h3,h4,v,ws,h5,h6,h7⟩:=zG hM hk hcs;refine⟨v,?_,h6⟩;have:=zi h2 h3 h4 0 v (by rw[h5];rfl);rw[kh] at this;simp [loadVar,uu hd,ha,this]
   ·cases h
theorem CB (P:Program) (k ty:Nat):∀ (vs:List Value) (i p:Nat) (w:World) (pre old post:List Value) (arr:Array Value),w.heap[k]?=some (.cells arr ty (0,0))->arr.toList=pre++old++post->pre.length=p+i->old.length=vs.length->(∀ v∈vs,v.oneCell'=true)->
 ∃ w' arr',(storeCells ⟨k,p,none⟩ vs i).run P w=.ok () w'/\w'.heap[k]?=some (.cells arr' ty (0,0))/\arr'.toList=pre++vs++post/\jJ k w w'
 |[],i,p,w,pre,old,post,arr,h,ha,_,hl,_=>⟨w,arr,rfl,h,by rw[ha];simp at hl;rw[hl],jJ.refl k w⟩
 |v::vs,i,p,w,pre,old,post,arr,h,ha,hp,hl,h1=>by
  cases old with
  |nil=>simp at hl
  |cons x old =>
   have hsz:arr.size=pre.length+(old.length+1+post.length):=by
    have:=cQ List.length ha;simp at this;omega
   have hlt:p+i<arr.size:=by omega
   have hb:(w.setCell ⟨k,p+i,none⟩ v).heap[k]?=some (.cells (arr.setIfInBounds (p+i) v) ty (0,0)):=by
    simp only[World.setCell,cbW,co,h];rfl
   obtain⟨w',arr',h2,h3,h4,h5⟩:=CB P k ty vs (i+1) p (w.setCell ⟨k,p+i,none⟩ v) (pre++[v]) old post _ hb (by
    rw[cjp,ha,← hp,uM,cbD _ _ (cb _),WF];simp) (by simp;omega) (by simpa using hl) (fun y hy=>h1 y (uL _ hy))
   have hc:w.cell? ⟨k,p+i,none⟩=some arr[p+i]:=by simp [World.cell?,h,hlt]
   have hfz:w.frozen? ⟨k,p+i,none⟩=false:=by simp [World.frozen?,h]
   refine⟨w',arr',?_,h3,by rw[h4];simp,((jJ.refl k w).set (p+i) v).trans h5⟩;rw[storeCells];simp [jL,run_store _ _ _ _ _ (h1 v (by simp)),hc,hfz,h2]
theorem cnk (hC:C.Ok) (hM:jm C e w M) (hg:jr C e w) {ty:TypeId}{b p k:Nat}(hk:e.ρ b=some k) {x:A1}{v:Value}(hx:x.is e v)
 (hu:cab C.toStat M n0 ty b p x.cells=some t):∃ w',(storeVar ty ⟨k,p,none⟩ v).run C.P w=.ok () w'/\uk C e w n0 t undef w':=by
 unfold cab at hu;split at hu
 ·cases hu
 ·rename_i i hi;split at hu
  ·cases hu
  ·rename_i hsz;split at hu
   ·cases hu
   ·rename_i hall;split at hu
    ·rename_i ty' ds z hbox;split at hu
     ·cases hu
     ·rename_i hle;injection hu with hu;subst hu
      have hle:=jo hle;have hcs:=A1.cells_are hC hM hx hall;have hlen:v.cells.toList.length=x.cells.length:=hcs.length;obtain⟨k',arr,vs,rest,q1,q2,q3,q4,q5,q6⟩:=hM _ _ hbox;rw[hk] at q1;injection q1 with q1;subst q1
      have hvl:=q5.length;obtain⟨w',arr',r1,r2,r3,r4⟩:=CB C.P k ty' v.cells.toList 0 p w (vs.take p) ((vs.drop p).take x.cells.length) (vs.drop (p+x.cells.length)++rest) arr q3 (by
       rw[q4]
       conv=>lhs;rw[← kv p vs,← kv x.cells.length (vs.drop p)]
       simp [zU]) (by simp;omega) (by simp only[jp,uK];omega) (Ce hC hM hall hcs)
      refine⟨w',?_,e,?_,rfl⟩
      ·have hs1:¬ v.cells.size≠i.size:=by
        have:=ct hsz;rw[← this,← hlen];simp
       simp only[storeVar,jc,jZ hi,jC,cg hs1];exact r1
      ·refine Yx hg hk q2 q3 r4 r2 (vs':=vs.take p++(v.cells.toList++vs.drop (p+x.cells.length))) (rest':=rest) (by rw[r3];simp) (q5.take.append (hcs.append q5.drop)) ?_;cases z with
       |none=>exact q6
       |some z =>
        simp only at q6 ⊢;rw[← q6];have h1:=cQ List.length q4;have h2:=cQ List.length r3;simp only[kI,jp,uK,Ca] at h1 h2;simp only[Ca] at hlen;omega
    ·cases hu
theorem Zj (off:Nat):∀ (vs:List Value) (cells:Array Value) (j:Nat),off+j+vs.length<=cells.size->
 ((vs.zipIdx j).foldl (fun cs (c,j)=>cs.setIfInBounds (off+j) c) cells).toList=cells.toList.take (off+j)++vs++cells.toList.drop (off+j+vs.length)
 |[],cells,j,h=>by simp
 |v::vs,cells,j,h=>by
  simp only[uP] at h;rw[List.zipIdx_cons,List.foldl_cons,Zj off vs _ (j+1) (by simp;omega)];have hlt:off+j<cells.size:=by omega
  simp only[cjp,uP];rw[show off+(j+1)=off+j+1 by omega,show off+j+1+vs.length=off+j+(vs.length+1) by omega];rw[List.take_set,List.drop_set_of_lt (by omega)];have hlen:off+j<cells.toList.length:=by simpa using hlt
  rw[cbF hlen];have hl:(cells.toList.take (off+j)).length=off+j:=by simp;omega
  rw[cbD _ _ (by omega),hl];simp
theorem Wh (hC:C.Ok) (hV:jD e a V) (hM:jm C e w M) {fs:List Field}{place:Nat->Option (Nat×Nat)}(hp:∀ (j:Nat) (f:Field) (inf:TypeInfo),fs[j]?=some f->C.P.info? f.type=some inf->place j=some (f.offset,inf.size)) :
 ∀ {parts:List (Nat×Operand)} {cs ds:List AC} {z:Array Value},Ui C.toStat V M fs parts cs=some ds->cZ e cs z.toList->∃ us,cZ e ds us/\Instr.fill place z (parts.map fun(i,x)=>(i,a.eval x))=some us.toArray
 |[],cs,ds,z,h,hz=>by
  simp [Ui] at h;subst h;exact⟨z.toList,hz,by simp [Instr.fill]⟩
 |(i,x)::l,cs,ds,z,h,hz=>by
  unfold Ui at h;split at h
  ·rename_i f hf;split at h
   ·rename_i j hj;split at h
    ·rename_i y hy;split at h
     ·rename_i hall;split at h
      ·rename_i hsz;split at h
       ·rename_i hle;have hx:=A1.cells_are hC hM (cV hV hy) hall;have hlen:(a.eval x).cells.toList.length=y.cells.length:=hx.length;have hzl:z.toList.length=cs.length:=hz.length;have hle:=jo hle;have hsz:=ct hsz;have hls:(a.eval x).cells.size=y.cells.length:=by simpa using hlen
        have hzs:z.size=cs.length:=by simpa using hzl
        let z':=((a.eval x).cells.toList.zipIdx 0).foldl (fun cs (c,j)=>cs.setIfInBounds (f.offset+j) c) z
        have hz':z'.toList=z.toList.take f.offset++(a.eval x).cells.toList++z.toList.drop (f.offset+y.cells.length):=by
         have:=Zj f.offset (a.eval x).cells.toList z 0 (by rw[hlen,hzs];omega);simp only[kh,hlen] at this;exact this
        obtain⟨us,h1,h2⟩:=Wh hC hV hM hp (z:=z') h (by rw[hz'];exact(hz.take.append hx).append hz.drop);refine⟨us,h1,?_⟩;simp only[jR,Instr.fill,hp i f j hf hj];rw[cg (by simp only[Wj,Ju];omega)];have e1:((a.eval x).cells.zipIdx.foldl (fun cs (c,j)=>cs.setIfInBounds (f.offset+j) c) z)=z':=by
         rw[← Array.foldl_toList];simp [z',Array.toList_zipIdx]
        rw[e1];exact h2
       ·cases h
      ·cases h
     ·cases h
    ·cases h
   ·cases h
  ·cases h
theorem JL (hC:C.Ok) (hV:jD e a V) (hM:jm C e w M) {z n:Nat}:∀ {parts:List (Nat×Operand)}{j:Nat}{cs:List AC},Ja C.toStat V M z n j parts=some cs->
 ∃ vs:List Value,vs.length=parts.length/\(∀ v∈vs,v.cells.size=z)/\(parts.map fun(i,x)=>(i,a.eval x))=((vs.zipIdx j).map fun x=>(x.2,x.1))/\∃ us,cZ e cs us/\(vs.flatMap fun v=>v.cells.toList)=us
 |[],j,cs,h=>by
  simp [Ja] at h;subst h;exact⟨[],rfl,fun v h=>by simp at h,rfl,[],rfl,rfl⟩
 |(i,x)::l,j,cs,h=>by
  unfold Ja at h;split at h
  ·rename_i hij;split at h
   ·rename_i y hy;split at h
    ·rename_i hall;split at h
     ·rename_i hsz;split at h
      ·rename_i ds hds;injection h with h;subst h
       have hx:=A1.cells_are hC hM (cV hV hy) hall;obtain⟨vs,h1,h2,h3,us,h4,h5⟩:=JL hC hV hM hds;refine⟨a.eval x::vs,by simp [h1],?_,?_,(a.eval x).cells.toList++us,hx.append h4,by simp [h5]⟩
       ·intro v hv;rcases List.mem_cons.1 hv with rfl|hv
        ·have:=hx.length;simp only[Ca] at this;rw[this,ct hsz]
        ·exact h2 v hv
       ·rw[jR,h3,List.zipIdx_cons,jR,ct hij]
      ·cases h
     ·cases h
    ·cases h
   ·cases h
  ·cases h
theorem yI {P:Program}{ty e:Nat}{i:TypeInfo}(h:EA P ty=some (e,i)):P.underlying ty=some (.slice e)/\P.info? e=some i:=by
 unfold EA at h;split at h
 ·rename_i e' he;split at h
  ·rename_i i' hi;injection h with h;injection h with h1 h2;subst h1;subst h2
   exact⟨he,hi⟩
  ·cases h
 ·cases h
theorem bsA_is (hC:C.Ok) (hV:jD e a V) (hM:jm C e w M) (hg:jr C e w) {ty n:Nat}{parts:Array (Nat×Operand)}(hu:bsA C.toStat V M n0 ty n parts=some t) (hf:um n0 t.n1 e) :
 ∃ v w',(Instr.buildSlice ty n (parts.map fun(i,x)=>(i,a.eval x))).run C.P w=.ok v w'/\uk C e w n0 t v w':=by
 unfold bsA at hu;split at hu
 ·rename_i el i he;obtain⟨hel,hi⟩:=yI he;split at hu
  ·rename_i z0 hz0;split at hu
   ·cases hu
   ·rename_i z hz;split at hu
    ·cases hu
    ·rename_i hle;split at hu
     ·cases hu
     ·rename_i hpos;split at hu
      ·rename_i cs hcs;split at hu
       ·rename_i hlen;have hle:=jo hle;have hpos:=yq hpos;have hlen:=ct hlen;obtain⟨vs,h1,h2,h3,us,h4,h5⟩:=JL hC hV hM hcs;have hf':Instr.fill (fun j=>some (j*i.size,i.size)) ((Array.range (n*i.size)).map (z0.cells[·%z0.cells.size]!)) (parts.map fun(j,x)=>(j,a.eval x)).toList=some us.toArray:=by
         rw[YK,h3];have:=Great.fill_whole (s:=i.size) (by omega) vs ((Array.range (n*i.size)).map (z0.cells[·%z0.cells.size]!)) (fun v hv=>by rw[hz];exact h2 v hv) (by rw[h1,hlen];simp);rw[this,h5]
        have:=run_buildSlice w ty el n (parts.map fun(j,x)=>(j,a.eval x)) _ i z0 hel hi hz0 (by rw[hz];show ¬ n*(z+1)>2^24;omega) (by rw[hz];exact Nat.mul_ne_zero (by omega) (by omega)) hf';exact⟨_,_,this,Uv hg hu hf (EE _ _) (arr:=us.toArray) (by simp) h4 (fun e' he=>⟨_,he,rfl⟩)⟩
       ·cases hu
      ·cases hu
  ·cases hu
 ·cases hu
theorem cdu (e:Env) (zs:List Value):∀ n,cZ e (repl (zs.map .lit) n) (List.replicate n zs).flatten
 |0=>rfl
 |n+1=>by
  rw[List.replicate_succ,List.flatten_cons];exact(yZ e zs).append (cdu e zs n)
theorem Um {z:List Value}:∀ (n j:Nat),j<n*z.length->(List.replicate n z).flatten[j]?=z[j%z.length]?
 |0,j,h=>by simp at h
 |n+1,j,h=>by
  rw[List.replicate_succ,List.flatten_cons];rcases jd j z.length with hj|hj
  ·rw[KQ hj,yS hj]
  ·rw[YL hj,Um n (j-z.length) (by rw[cT] at h;omega),Nat.mod_eq_sub_mod hj]
theorem Ww (z:Array Value) (n:Nat):(madeCells z (n*z.size)).toList=(List.replicate n z.toList).flatten:=by
 apply Yq;intro j;rcases jd j (n*z.size) with hj|hj
 ·rw[Um n j (by simpa using hj)];have hz:0<z.size:=by
   rcases kH z.size with h|h
   ·rw[h] at hj;simp at hj
   ·exact h
  have hm:=ki j hz;simp [madeCells,hj,hm]
 ·rw[yA (by simpa [madeCells] using hj),yA (by simp;exact hj)]
theorem mkA_is (hg:jr C e w) {ty:Nat}{l c:Value}(hu:mkA C.toStat n0 ty (some l) (some c)=some t) (hf:um n0 t.n1 e) :
 ∃ v w',(Instr.makeSlice ty l c).run C.P w=.ok v w'/\uk C e w n0 t v w':=by
 unfold mkA at hu;split at hu
 ·rename_i kl l' kc c' hl hc;injection hl with hl;subst hl
  injection hc with hc;subst hc
  split at hu
  ·rename_i el i he;obtain⟨hel,hi⟩:=yI he;split at hu
   ·rename_i z hz;split at hu
    ·rename_i h1 h2 h3 h4;have h1:=ct h1;have h2:=jo h2;have h3:=jo h3;have h4:=jo h4;have hbb:i.bytes*c'<=281474976710656:=cA (Cw h4 h3) (by decide);have:=run_make (P:=C.P) w ty el i z hel hi hz kl kc (l':Int) (c':Int) (by omega) (by omega) (by rw[← uv];exact Int.ofNat_le.2 hbb) (by omega);simp only[ZJ] at this;refine⟨_,_,this,Uv hg hu hf (w':=w.alloc (.cells (madeCells z.cells (c'*i.size)) el)) (arr:=madeCells z.cells (c'*i.size)) (EE w _) ?_ ?_ (fun e' he=>⟨_,he,rfl⟩)⟩
     ·show (w.heap.push _)[w.heap.size]?=_;simp
     ·rw[← h1,Ww];exact cdu e _ _
    ·cases hu
   ·cases hu
  ·cases hu
 ·cases hu
end
variable {D:Type}
section
variable {F:Fence}{m:Nat}
variable {C:Ctx D}{e:Env}{a:Act}{w:World}{V:jv}{M:cR D}{T:Tab D}{CF:cN D}{n0:Nat}{K:Act->World->Prop}{Q:Exit->Act->World->Prop}{o:Oper}{t:Out D}
theorem Yh (hM:jm C e w M) {z m:Nat}{cs:List AC}{x:AV}{v:Value}(h:EM M z (some x)=some (m,cs)) (hx:x.is e v) :
 ∃ p c vs,v=.slice (some p) m c/\vs.length=m*z/\cZ e cs vs/\∀ j u,vs[j]?=some u->w.cell? (p.add j)=some u:=by
 unfold EM at h;split at h
 ·rename_i b o n c h0;injection h0 with h0;subst h0
  obtain⟨k,hk,rfl⟩:=hx;split at h
  ·rename_i ty ds hcs;injection h with h;injection h with h1 h2;subst h1;subst h2
   obtain⟨h1,arr,pre,vs,rest,h2,h3,h4,h5⟩:=zG hM hk hcs;exact⟨_,_,vs,rfl,h5.length.trans h1,h5,fun j u hj=>by rw[jL];exact zi h2 h3 h4 j u hj⟩
  ·cases h
 ·rename_i b n h0;injection h0 with h0;subst h0
  obtain⟨k,hk,rfl⟩:=hx;split at h
  ·rename_i ty ds hcs;injection h with h;injection h with h1 h2;subst h1;subst h2
   obtain⟨h1,arr,pre,vs,rest,h2,h3,h4,h5⟩:=zG hM hk hcs;exact⟨_,_,vs,rfl,h5.length.trans h1,h5,fun j u hj=>by rw[jL];exact zi h2 h3 h4 j u hj⟩
  ·cases h
 ·rename_i b i s n h0;injection h0 with h0;subst h0
  obtain⟨k,hk,rfl⟩:=hx;split at h
  ·rename_i ty ds hcs;injection h with h;injection h with h1 h2;subst h1;subst h2
   obtain⟨h1,arr,pre,vs,rest,h2,h3,h4,h5⟩:=zG hM hk hcs;exact⟨_,_,vs,rfl,h5.length.trans h1,h5,fun j u hj=>by rw[jL];exact zi h2 h3 h4 j u hj⟩
  ·cases h
 ·cases h
theorem Yr (z:Array Value) (n:Nat):(Builtin.zeroCells z n).size=n*z.size:=by simp [Builtin.zeroCells]
theorem cnL {n m c s:Nat}(h:n=m*s) (hc:m<=c):n+(c-m)*s=c*s:=by
 rw[h,← cT];congr 1;omega
theorem caI (hg:jr C e w) {el z m:Nat}{cs:List AC}(hu:zD C.toStat n0 el cs (some z) (.gsl n0 m)=some t) (hf:um n0 t.n1 e) {news:List Value}{zs:Array Value}{cap:Nat}(hc:cZ e cs news) (hl:news.length=m*z) (hz:zs.size=z) (hcap:m<=cap) {arr:Array Value}(ha:arr.toList=news++(Builtin.zeroCells zs (cap-m)).toList) :
 uk C e w n0 t (.slice (some ⟨w.heap.size,0,none⟩) m cap) (w.drew.alloc (.cells arr el)):=by
 unfold zD at hu;split at hu
 ·rename_i ht;injection hu with hu;subst hu
  obtain⟨e',h1,h2,h3⟩:=cir hg hf ht ((cw _ w).drew.alloc (cb _) (.cells arr el)) (arr:=arr) (by
   show (w.heap.push _)[w.heap.size]?=_;simp) ha hc (z:=some z) (cap:=cap) (by
   have:=cQ List.length ha;simp only[Ca,kI,Yr,hz] at this;simp only;rw[this];exact cnL hl hcap)
  refine⟨e',h1,_,h2,?_⟩;rw[h3]
 ·cases hu
theorem cjk (hC:C.Ok) (hM:jm C e w M) (hg:jr C e w) {ats:List Nat}{s:AV}{x:Option AV}{vs vx:Value}(hu:WZ C.toStat M n0 ats s x=some t) (hs:s.is e vs) (hx:∀ y,x=some y->y.is e vx) (hf:um n0 t.n1 e) (ty:Nat) :
 ∃ v w',(Builtin.append_ ats.toArray ty #[vs,vx]).run C.P w=.ok v w'/\uk C e w n0 t v w':=by
 unfold WZ at hu;split at hu
 rotate_left
 ·cases hu
 rename_i T1 T2;split at hu
 rotate_left
 ·cases hu
 rename_i el i hT he;have hT:=ct hT;subst hT;obtain⟨hel,hi⟩:=yI he;split at hu
 rotate_left
 ·cases hu
 rename_i z0 hz0;split at hu
 rotate_left
 ·cases hu
 rename_i m news h1 h2 h3 h4;have h1:=ct h1;have h2:=yq h2;have h3:=jo h3;split at hu
 rotate_left
 ·cases hu
 rename_i h5 h6 h7;have h5:=yq h5;have h6:=jo h6;cases x with
 |none=>simp [EM] at h4
 |some x =>
 obtain⟨p,c,us,hvx,hul,huc,hget⟩:=Yh hM h4 (hx x rfl);have hu1:=Ce hC hM h7 huc;subst hvx;have hby:∀ k,k<=2000000->k*i.bytes<=140737488355328:=fun k hk=>cA (Cw hk h3) (by decide);split at hu
 ·obtain rfl:vs=.slice none 0 0:=hs;have:=run_append_nil (P:=C.P) w T1 ty el i z0 hel hi hz0 p m c us hul hget h5 (by omega) (cA (hby m (by omega)) (by decide));exact⟨_,_,this,caI hg hu hf huc hul h1 (ccr _ _ _ _) (by simp)⟩
 ·rename_i b o n cp;obtain⟨k,hk,rfl⟩:=hs;split at hu
  rotate_left
  ·cases hu
  rename_i hn;have hn:=jo hn;split at hu
  ·rename_i hroom;have hroom:=jo hroom;split at hu
   rotate_left
   ·cases hu
   rename_i ty' ds z ho hb;have ho:=ct ho;subst ho;split at hu
   rotate_left
   ·cases hu
   rename_i hfit hte;have hfit:=jo hfit;have hte:=ct hte;subst hte;injection hu with hu;subst hu
   obtain⟨k',arr,ols,rest,q1,q2,q3,q4,q5,q6⟩:=hM _ _ hb;rw[hk] at q1;injection q1 with q1;subst q1
   have hal:=q5.length;have hasz:arr.size=ols.length+rest.length:=by simpa using cQ List.length q4
   have hfit':n*i.size+us.length<=ols.length:=by rw[hul,← cT,hal];exact hfit
   have:=run_append_room (P:=C.P) w T1 ty ty' i hel hi k n cp arr q3 p m c us hul hget hu1 hroom (by omega);refine⟨_,_,this,e,Yx hg hk q2 q3 (arr':=(arr.toList.take (n*i.size)++us++arr.toList.drop (n*i.size+us.length)).toArray) ?_ (setRow_heap w k arr _ ty' _ q3) (vs':=ols.take (n*i.size)++(us++ols.drop (n*i.size+us.length))) (rest':=rest) ?_ ?_ ?_,k,hk,rfl⟩
   ·exact⟨rfl,rfl,rfl,by simp,fun j hj=>setRow_other w k j _ hj⟩
   ·rw[q4];simp only[uM];rw[Zd (by omega),ccz (by omega)]
   ·rw[huc.length];exact q5.take.append (huc.append q5.drop)
   ·cases z with
    |none=>exact q6
    |some z =>
     simp only at q6 ⊢;rw[← q6];simp only[Ek,kI,jp,uK,Ca];omega
  ·rename_i hroom;have hroom:cp<n+m:=by
    rcases jd cp (n+m) with h|h
    ·exact h
    ·rw[Jp h] at hroom;cases hroom
   split at hu
   rotate_left
   ·cases hu
   rename_i ty' olds ho;obtain⟨q1,arr,pre,os,rest,q2,q3,q4,q5⟩:=zG hM hk ho;have hol:os.length=n*i.size:=q5.length.trans q1;have:=run_append_grow (P:=C.P) w T1 ty el i z0 hel hi hz0 ⟨k,o,none⟩ n cp os hol (fun j v hj=>by rw[jL];exact zi q2 q3 q4 j v hj) p m c us hul hget hroom (by omega) (growslice_fits hroom (hby _ (by omega)));exact⟨_,_,this,caI hg hu hf (q5.append huc) (by rw[kI,hol,hul,cT]) h1 (ccr _ _ _ _) (by simp)⟩
 ·rename_i b n;obtain⟨k,hk,rfl⟩:=hs;split at hu
  rotate_left
  ·cases hu
  rename_i ty' ds z hn hb;have hn:=jo hn;split at hu
  rotate_left
  ·cases hu
  rename_i hlen hte hze hok;have hlen:=ct hlen;have hte:=ct hte;have hze:=ct hze;subst hte;subst hze;injection hu with hu;subst hu
  obtain⟨k',arr,ols,rest,q1,q2,q3,q4,q5,q6⟩:=hM _ _ hb;rw[hk] at q1;injection q1 with q1;subst q1
  simp only at q6;have hal:=q5.length;have hasz:arr.size=ols.length+rest.length:=by simpa using cQ List.length q4
  by_cases hroom:n+m<=e.κ b
  ·have hfit:n*i.size+us.length<=arr.size:=by rw[hul,← cT,q6];exact ja _ hroom
   have:=run_append_room (P:=C.P) w T1 ty ty' i hel hi k n (e.κ b) arr q3 p m c us hul hget hu1 hroom hfit;obtain⟨e',r1,r2,r3⟩:=cmt hg hf hk q2 q3 (arr':=(arr.toList.take (n*i.size)++us++arr.toList.drop (n*i.size+us.length)).toArray) (w':=w.setRow k (arr.toList.take (n*i.size)++us++arr.toList.drop (n*i.size+us.length)).toArray) ⟨rfl,rfl,rfl,by simp,fun j hj=>setRow_other w k j _ hj⟩ (setRow_heap w k arr _ ty' _ q3) (cs':=ds++news) (vs':=ols++us) (rest':=arr.toList.drop (n*i.size+us.length)) (by
    rw[q4];simp only;rw[Zd (by omega),kA (by omega)]) (q5.append huc) (z:=i.size) (by
    simp only[Ek,kI,jp,uK,Ca];omega)
   refine⟨_,_,this,e',r1,k,r2,?_⟩;rw[r3]
  ·have hroom:e.κ b<n+m:=by omega
   have hol:ols.length=n*i.size:=by omega
   have:=run_append_grow (P:=C.P) w T1 ty ty' i z0 hel hi hz0 ⟨k,0,none⟩ n (e.κ b) ols hol (fun j v hj=>by rw[jL];exact zi q3 (pre:=[]) (rest:=rest) (by simpa using q4) rfl j v hj) p m c us hul hget hroom (by omega) (growslice_fits hroom (hby _ (by omega)));have hd:=caI (t:=⟨.val (.one (.gsl n0 (n+m))),[(n0,.blk ty' (ds++news) (some i.size))],n0+1,[]⟩) hg (by unfold zD;rw[hok]) hf (q5.append huc) (by rw[kI,hol,hul,cT]) h1 (ccr w (n+m) (e.κ b) ty') (arr:=ols.toArray++us.toArray++Builtin.zeroCells z0.cells (grownCap w (n+m) (e.κ b) ty'-(n+m))) (by simp);obtain⟨e',r1,r2⟩:=hd;exact⟨_,_,this,e',r1.drop,r2⟩
 ·cases hu
theorem useT_is (hC:C.Ok) (hT:T.Ok C) (hV:jD e a V) (hM:jm C e w M) (hg:jr C e w) {h:Hd}{d:Nat}{xs:List Operand}(hu:EC C.toStat T V M n0 d h xs=some t) (ho:jE t.ob) :
 ∃ ps res,jG C h ps res/\jb C w ps (xs.map a.eval)/\∃ x ws n1,mkR C.csz n0 res=some (x,ws,n1)/\t=⟨x,ws,n1,t.ob⟩:=by
 unfold EC at hu;split at hu
 ·cases hu
 ·rename_i F hF;split at hu
  ·rename_i l hl;split at hu
   ·rename_i ps hps;split at hu
    ·rename_i res ob hent;split at hu
     ·rename_i x ws n1 hm;injection hu with hu;subst hu
      exact⟨ps,res,hT _ _ _ _ _ _ hF hent ho,JK hC hg hM hps (zj hV hl),x,ws,n1,hm,rfl⟩
     ·cases hu
    ·cases hu
   ·cases hu
  ·cases hu
theorem CS (hW:Wd F) (hnd:Gn o) (hC:C.Ok) (hT:T.Ok C) (hV:jD e a V) (hM:jm C e w M) (hg:jr C e w) {h:Hd}{d:Nat}{xs:List Operand}(hh:uA o=some (h,xs)) (hc:∀ f,h≠.call f) (hu:EC C.toStat T V M n0 d h xs=some t) (hf:um n0 t.n1 e) (ho:jE t.ob) (hK:∀ v w',uk C e w n0 t v w'->K (a.put o.dst v) w'):o.wpIn F m C.P a w K Q:=by
 obtain⟨ps,res,h1,h2,x,ws,n1,h3,h4⟩:=useT_is hC hT hV hM hg hu ho;unfold jG at h1;split at h1
 ·rename_i f;exact absurd rfl (hc f)
 ·exfalso;unfold uA at hh
  repeat' split at hh
  all_goals simp at hh
 ·obtain⟨v,w',h5,h6,h7⟩:=h1 w a.eval o xs hh hg.below h2;rw[h4] at hf hK;obtain⟨e',h8,h9⟩:=chY hC hg h6 h3 hf h7;exact cJ hW hnd h5 (hK v w' ⟨e',h8,h9⟩)
theorem ceO {e:Env}:∀ {l:List AV}{us vs:List Value},ccH l=some us->yH e l vs->vs=us
 |[],us,vs,h,hv=>by simp [ccH] at h;subst h;exact hv
 |x::l,us,vs,h,⟨v,ws,h1,h2,h3⟩=>by
  unfold ccH at h;split at h
  ·rename_i h0;cases h0
  ·rename_i u l' h0;injection h0 with h0 h0';subst h0;subst h0'
   split at h
   ·rename_i vs' hv;injection h with h;subst h
    rw[h1,show v=u from h2,ceO hv h3]
   ·cases h
  ·cases h
theorem memA_is (hT:T.Ok C) (hM:jm C e w M) (hg:jr C e w) {f:FuncId}{d:Nat}{l:List AV}{vs:List Value}(hl:yH e l vs) (hu:memA C.toStat T M n0 d f l=some t) (ho:jE t.ob) :
 Enters C.P f/\Calls C.P f vs.toArray w (fun en w'=>∃ v,en=.returned v/\uk C e w n0 t v w'):=by
 unfold memA at hu;split at hu
 rotate_left
 ·cases hu
 rename_i F b more hF;split at hu
 rotate_left
 ·cases hu
 rename_i ty z n g ls hb hls;split at hu
 rotate_left
 ·cases hu
 rename_i d' ob hent;split at hu
 rotate_left
 ·cases hu
 rename_i L' hL hok;injection hu with hu;subst hu
 obtain⟨hn,hn',hob⟩:=ho;have hn:0<n:=hn;have hn':L'.n=n:=hn';obtain⟨v,ws,rfl,hv,hws⟩:=hl;have hv:e.φ b=some v:=hv;obtain rfl:=ceO hls hws;obtain⟨v',h1,h2⟩:=hM _ _ hb;rw[hv] at h1;injection h1 with h1;subst h1
 rcases h2 with⟨h2,_⟩|⟨k,c,arr,us,rest,h3,h4,rfl,h6,h7,h8,h9,h10,h11,h12⟩
 ·omega
 obtain⟨hE,hK⟩:=hT _ _ _ _ _ _ hF hent hob;refine⟨hE,(hK ⟨C.lo,ty,z,n,g⟩ L' d' _ rfl rfl hL hn' w k c arr us rest hg.below (hg.own b k h3).1 h6 hok h7 h8 h9 h10 hn h11 (fun j hj w' hs hk=>h12 j hj w' ⟨hs,fun i hi hno=>hk i hi (fun h=>hno b (by rw[h3,h]))⟩)).mono ?_⟩;rintro en w' ⟨rfl,hb0,hs,hk,arr',us',rest',q1,q2,q3,q4,q5,q6⟩;refine⟨_,rfl,e,?_,[],rfl,rfl⟩;have hadv:Adv e w e w':=⟨Ext.refl e,hs,fun x hx hno=>⟨hno,hk x hx (fun h=>hno b (by rw[h3,h]))⟩⟩;have hown:∀ b' k',e.ρ b'=some k'->C.w0.heap.size<=k'/\∃ o,w'.heap[k']?=some o/\CD C o:=by
  intro b' k' h;obtain⟨p1,o2,p2,p3⟩:=hg.own b' k' h;refine⟨p1,?_⟩;by_cases hkk:k'=k
  ·subst hkk;exact⟨_,q1,.inl ⟨_,_,rfl,hok⟩⟩
  ·exact⟨o2,(hk k' (hg.lt h) hkk).trans p2,p3⟩
 refine⟨cb _,hadv,New.refl _ _ e,⟨hb0,hg.inj,hown,hg.fr.adv hadv⟩,?_,?_⟩
 ·intro b' o h;simp only[jl,cX] at h;split at h
  ·rename_i hbe;injection h with h;subst h
   obtain rfl:b=b':=ct hbe;refine⟨_,hv,.inr ⟨k,c,arr',us',rest',h3,h4,rfl,q1,q2,q3,q4,h10,q5,fun j hj w'' hkp=>?_⟩⟩;exact q6 j hj (fun i=>∃ b,e.ρ b=some i) (fun i hi=>by obtain⟨b',hb'⟩:=hi;exact(hown b' i hb').2) w'' hkp.size (fun i hi hno=>hkp.block i hi (fun b hb=>hno ⟨b,hb⟩))
  ·cases h
 ·intro b' o h hn;refine h.adv hadv (fun k' h1 h2=>⟨h2,?_⟩);have hbb:b'≠b:=by
   rintro rfl;simp [jl,cX] at hn
  exact hk k' (hg.lt h1) (fun hkk=>hbb (hg.inj b' b k h2 h4 (by rw[h1,hkk]) h3))
theorem cha (hC:C.Ok) (hT:T.Ok C) (hF:CF.Ok C) (hM:jm C e w M) (hg:jr C e w) {f:FuncId}{d:Nat}{l:List AV}{vs:List Value}(hl:yH e l vs) (hu:caY C.toStat T CF M n0 d f l=some t) (hf:um n0 t.n1 e) (ho:jE t.ob) :
 Enters C.P f/\Calls C.P f vs.toArray w (fun en w'=>∃ v,en=.returned v/\uk C e w n0 t v w'):=by
 unfold caY at hu;split at hu
 ·rename_i r hr;injection hu with hu;subst hu
  exact memA_is hT hM hg hl hr ho
 split at hu
 ·rename_i F hFF;split at hu
  ·rename_i ps hps;split at hu
   ·rename_i res ob hent;split at hu
    ·rename_i x ws n1 hm;injection hu with hu;subst hu
     obtain⟨h1,h2⟩:=hT _ _ _ _ _ _ hFF hent ho;refine⟨h1,Calls.mono (h2 w vs hg.below (JK hC hg hM hps hl)) ?_⟩;rintro en w' ⟨v,rfl,h3,h4⟩;obtain⟨e',h8,h9⟩:=chY hC hg h3 hm hf h4;exact⟨v,rfl,e',h8,h9⟩
    ·cases hu
   ·cases hu
  ·cases hu
 ·exact hF e w M n0 f l vs t hM hg hl hu hf ho
theorem ciC {e:Env}:∀ {l:List AV}{bs:List A1}{vs:List Value},a1s l=some bs->yH e l vs->up e bs vs
 |[],bs,vs,h,hv=>by simp [a1s] at h;subst h;exact hv
 |.val x::l,bs,vs,h,⟨v,ws,h1,h2,h3⟩=>by
  simp only[a1s] at h;split at h
  ·rename_i bs' hb;injection h with h;subst h
   exact⟨v,ws,h1,h2,ciC hb h3⟩
  ·cases h
 |.tup _::l,bs,vs,h,hv=>by simp [a1s] at h
theorem cms {v:Option Value}{n:Nat}(h:cjv v=some n):∃ k,v=some (.int k n):=by
 unfold cjv at h;split at h
 ·rename_i k m;injection h with h;subst h
  exact⟨k,rfl⟩
 ·cases h
theorem can (hV:jD e a V) {x:Option Operand}{r:Option Nat}(h:Ep V x=some r):(x=none/\r=none)\/∃ y k n,x=some y/\r=some n/\a.eval y=.int k (n:Nat):=by
 unfold Ep at h;split at h
 ·injection h with h
  exact .inl ⟨rfl,h.symm⟩
 ·rename_i y;split at h
  ·rename_i n hn;injection h with h
   obtain⟨k,hk⟩:=cms hn;exact .inr ⟨y,k,n,rfl,h.symm,kD hV hk⟩
  ·cases h
theorem zJ {k:IntKind}{n y:Nat}{code:BoundsCode}(h:n<=y):(Instr.sliceBound (.int k n) y code).run C.P w=.ok n w:=by
 have h0:(0:Int)<=(n:Int)/\(n:Int)<=(y:Int):=by omega
 simp [Instr.sliceBound,asIntOf,h0]
theorem Kj (hV:jD e a V) {lo hi mx:Option Operand}{lo' hi' mx':Option Nat}(hlo:Ep V lo=some lo') (hhi:Ep V hi=some hi') (hmx:Ep V mx=some mx') (hne:∀ k,mx'=some k->hi'≠none) {n c:Nat}(h1:lo'.getD 0<=hi'.getD n) (h2:hi'.getD n<=mx'.getD c) (h3:mx'.getD c<=c) :
 (Instr.sliceBounds true n c (lo.map a.eval) (hi.map a.eval) (mx.map a.eval)).run C.P w=.ok (lo'.getD 0,hi'.getD n,mx'.getD c) w:=by
 unfold Instr.sliceBounds;rcases can hV hmx with⟨rfl,rfl⟩|⟨y1,k1,m1,rfl,rfl,e1⟩<;>rcases can hV hhi with⟨rfl,rfl⟩|⟨y2,k2,m2,rfl,rfl,e2⟩<;>rcases can hV hlo with⟨rfl,rfl⟩|⟨y3,k3,m3,rfl,rfl,e3⟩<;>simp only[Option.map_some,KV,Option.getD_some,Option.getD_none] at h1 h2 h3 ⊢
 ·simp
 ·simp [e3,zJ h1]
 ·simp [e2,zJ h2]
 ·simp [e2,e3,zJ h2,zJ h1]
 ·exact absurd rfl (hne _ rfl)
 ·exact absurd rfl (hne _ rfl)
 ·simp [e1,e2,zJ h2,zJ h3]
 ·simp [e1,e2,e3,zJ h2,zJ h1,zJ h3]
theorem cnf (hV:jD e a V) (hM:jm C e w M) (hg:jr C e w) {ty:Nat}{x:Operand}{lo hi mx:Option Operand}(hu:ZH C.toStat V M n0 ty (cG V x) lo hi mx=some t) :
 ∃ v,(Instr.sliceAt ty (a.eval x) (lo.map a.eval) (hi.map a.eval) (mx.map a.eval)).run C.P w=.ok v w/\uk C e w n0 t v w:=by
 unfold ZH at hu;split at hu
 rotate_left
 ·cases hu
 rename_i el i lo' hi' mx' he hlo hhi hmx;obtain⟨hel,hinf⟩:=yI he;split at hu
 ·rename_i b o n c hb;obtain⟨k,hk,hx⟩:=cV hV hb;split at hu
  ·cases hu
  rename_i hne;split at hu
  rotate_left
  ·cases hu
  rename_i h1 h2 h3;have h1:=jo h1;have h2:=jo h2;have h3:=jo h3;have hb:=Kj (C:=C) (w:=w) hV hlo hhi hmx (fun k h1 h2=>hne k h1 h2) h1 h2 h3;split at hu
  ·rename_i hbe;have hbe:=ct hbe;injection hu with hu;subst hu
   refine⟨.slice (some ⟨k,o,none⟩) (hi'.getD n-lo'.getD 0) (mx'.getD c-lo'.getD 0),?_,uk.here hg ⟨k,hk,rfl⟩⟩;simp [Instr.sliceAt,Instr.slice,hx,ud hel,hb,jZ hinf,hbe]
  ·rename_i hbe;have hbe:¬ mx'.getD c=lo'.getD 0:=fun h=>by rw[h] at hbe;simp at hbe
   injection hu with hu;subst hu
   refine⟨.slice (some ⟨k,o+lo'.getD 0*i.size,none⟩) (hi'.getD n-lo'.getD 0) (mx'.getD c-lo'.getD 0),?_,uk.here hg ⟨k,hk,rfl⟩⟩;simp [Instr.sliceAt,Instr.slice,hx,ud hel,hb,jZ hinf,hbe,jL]
 ·rename_i b n hb;obtain⟨k,hk,hx⟩:=cV hV hb;split at hu
  ·rename_i m;split at hu
   rotate_left
   ·cases hu
   rename_i h1 h2 h3;have h1:=ct h1;have h2:=ct h2;obtain rfl:=ct h3;injection hu with hu;subst hu
   cases hi' with
   |none=>cases h2
   |some y =>
    obtain rfl:y=0:=h2;have hbd:=Kj (C:=C) (w:=w) (c:=e.κ b) (n:=n) hV hlo hhi hmx (fun k h h'=>by cases h') (by rw[h1];exact ju _) (by simp) (by simp);refine⟨.slice (some ⟨k,0,none⟩) 0 0,?_,uk.here hg ⟨k,hk,rfl⟩⟩;simp only[Option.getD_some,h1] at hbd;simp [Instr.sliceAt,Instr.slice,hx,ud hel,hbd,jZ hinf]
  split at hu
  ·rename_i h1 h2;have h1:=ct h1;have h2:=jo h2;split at hu
   rotate_left
   ·cases hu
   rename_i ty' cs z hbl;split at hu
   rotate_left
   ·cases hu
   rename_i h3 h4;have h3:=jo h3;have h4:=yq h4;injection hu with hu;subst hu
   obtain⟨k',arr,vs,rest,q1,q2,q3,q4,q5,q6⟩:=hM _ _ hbl;simp only at q6;have hκ:hi'.getD n<=e.κ b:=by
    have:=cQ List.length q4;simp only[Ca,kI,q5.length] at this;have:hi'.getD n*z<=e.κ b*z:=by omega
    exact cfX this h4
   have hbd:=Kj (C:=C) (w:=w) (c:=e.κ b) hV hlo hhi hmx (fun k h=>by cases h) (by rw[h1];exact ju _) (by simpa using hκ) (by simp);refine⟨.slice (some ⟨k,0,none⟩) (hi'.getD n) (e.κ b),?_,uk.here hg ⟨k,hk,rfl⟩⟩;simp only[Option.getD_none,h1] at hbd;simp [Instr.sliceAt,Instr.slice,hx,ud hel,hbd,jZ hinf,jL]
  ·rename_i h1 h2;have h2:=jo h2;split at hu
   rotate_left
   ·cases hu
   rename_i ty' cs z h0 hbl;have h0:=yq h0;split at hu
   rotate_left
   ·cases hu
   rename_i h3 h5 h4;have h3:=jo h3;have h4:=yq h4;injection hu with hu;subst hu
   obtain⟨k',arr,vs,rest,q1,q2,q3,q4,q5,q6⟩:=hM _ _ hbl;simp only at q6;have hκ:hi'.getD n<=e.κ b:=by
    have:=cQ List.length q4;simp only[Ca,kI,q5.length] at this;have:hi'.getD n*z<=e.κ b*z:=by omega
    exact cfX this h4
   have hbd:=Kj (C:=C) (w:=w) (c:=e.κ b) hV hlo hhi hmx (fun k h=>by cases h) (Cs h0) (by simpa using hκ) (by simp);have hne:¬ e.κ b=lo'.getD 0:=by omega
   refine⟨.slice (some ⟨k,lo'.getD 0*i.size,none⟩) (hi'.getD n-lo'.getD 0) (e.κ b-lo'.getD 0),?_,uk.here hg ⟨k,hk,rfl⟩⟩;simp only[Option.getD_none] at hbd;simp [Instr.sliceAt,Instr.slice,hx,ud hel,hbd,jZ hinf,hne,jL]
  ·cases hu
 ·cases hu
theorem cns (hC:C.Ok) (hV:jD e a V) (hM:jm C e w M) (hg:jr C e w) {ats:List Nat}{x:Operand}(hu:caw C.toStat M n0 ats (cG V x)=some t) (ty:Nat) :
 ∃ v w',(Builtin.clear_ ats.toArray ty #[a.eval x]).run C.P w=.ok v w'/\uk C e w n0 t v w':=by
 unfold caw at hu;split at hu
 rotate_left
 ·cases hu
 rename_i T1;split at hu
 rotate_left
 ·cases hu
 rename_i el i b o n he hb;obtain⟨hel,hinf⟩:=yI he;obtain⟨k,c,hk,hx⟩:=ZW hV hb;split at hu
 rotate_left
 ·cases hu
 rename_i z0 ty' ds z hz0 hbl;split at hu
 rotate_left
 ·cases hu
 rename_i h1 h2 h3 h4;have h1:=ct h1;have h2:=jo h2;have h4:=yq h4;injection hu with hu;subst hu
 obtain⟨k',arr,vs,rest,q1,q2,q3,q4,q5,q6⟩:=hM _ _ hbl;rw[hk] at q1;injection q1 with q1;subst q1
 have hvl:=q5.length;have hzc:(Builtin.zeroCells z0.cells n).toList=(List.replicate n z0.cells.toList).flatten:=Ww z0.cells n;have hzl:(Builtin.zeroCells z0.cells n).toList.length=n*i.size:=by rw[Ca,Yr,h1]
 have hone:∀ v∈(Builtin.zeroCells z0.cells n).toList,v.oneCell'=true:=by
  rw[hzc];intro v hv;obtain⟨l,h5,h6⟩:=List.mem_flatten.1 hv;rw[cff h5] at h6;exact Ce hC hM h3 (yZ e _) v h6
 obtain⟨w',arr',r1,r2,r3,r4⟩:=CB C.P k ty' (Builtin.zeroCells z0.cells n).toList 0 o w (vs.take o) ((vs.drop o).take (n*i.size)) (vs.drop (o+n*i.size)++rest) arr q3 (by
  rw[q4]
  conv=>lhs;rw[← kv o vs,← kv (n*i.size) (vs.drop o)]
  simp [zU]) (by simp;omega) (by rw[hzl];simp only[jp,uK];omega) hone
 refine⟨.tuple #[],w',?_,e,?_,[],rfl,rfl⟩
 ·have hn:n≠0:=by omega
  cases n with
  |zero=>exact absurd rfl hn
  |succ n=>simp [Builtin.clear_,ud hel,hx,zeroValue,typeInfo,hinf,hz0,r1]
 ·refine Yx hg hk q2 q3 r4 r2 (vs':=vs.take o++((Builtin.zeroCells z0.cells n).toList++vs.drop (o+n*i.size))) (rest':=rest) (by rw[r3];simp) (q5.take.append ((by rw[hzc];exact cdu e _ n:cZ e _ _).append q5.drop)) ?_;cases z with
  |none=>exact q6
  |some z =>
   simp only at q6 ⊢;rw[← q6];have e1:=cQ List.length q4;have e2:=cQ List.length r3;simp only[kI,jp,uK,hzl] at e1 e2;simp only[Ca] at e1 e2;omega
end
variable {D:Type}
def zQ (C:Ctx D) (YF:cN D):Prop:=∀ e w M n0 b l vs t,jm C e w M->jr C e w->yH e l vs->YF M n0 b l=some t->um n0 t.n1 e->jE t.ob->
 ∃ k r,e.ρ b=some k/\w.heap[k]?=some (.loop r)/\vs.length=r.params.size/\∀ F m,Wd F->RoundIn F m C.P k r.fn ((r.params.zip vs.toArray).foldl (fun tmps (t,a)=>tmps.setIfInBounds t a) r.tmps) r.assign r.body w (fun en w'=>∃ v,en=.returned v/\uk C e w n0 t v w')
section
variable {F:Fence}{m:Nat}{YF:cN D}
variable {C:Ctx D}{e:Env}{a:Act}{w:World}{V:jv}{M:cR D}{T:Tab D}{CF:cN D}{n0:Nat}{K:Act->World->Prop}{Q:Exit->Act->World->Prop}{o:Oper}{t:Out D}
theorem CI {P:Program}{s f:Nat}{fl:Field}(h:Cn P s f=some fl):∃ fs,P.underlying s=some (.struct fs)/\fs[f]?=some fl:=by
 unfold Cn at h;split at h
 ·exact⟨_,by assumption,h⟩
 ·cases h
theorem EG (P:Program) (t:TypeId) (v:Value):(newVar t v).run P w=.ok ⟨w.heap.size,0,none⟩ { w with heap:=w.heap.push (.cells v.cells t) }:=by
 simp [newVar,newRow]
theorem clm (hW:Wd F) (hnd:Gn o) {c:Call}{fo:Operand}{f:FuncId}{p q:List Value}(hop:o.op=.call c) (hcal:c.callee=.value fo) (hfo:a.eval fo=.func (.func f) p.toArray q.toArray)
 (h:Enters C.P f/\Calls C.P f (p++(c.args.toList.map a.eval++q)).toArray w (fun en w'=>∃ v,en=.returned v/\uk C e w n0 t v w')) (hK:∀ v w',uk C e w n0 t v w'->K (a.put o.dst v) w'):o.wpIn F m C.P a w K Q:=by
 have hr:(execOp a.eval o).run C.P w=.ok (.enter f (p++(c.args.toList.map a.eval++q)).toArray) w:=by
  have he:=h.1 (p.toArray++c.args.map a.eval++q.toArray) w;have hx:(p++(c.args.toList.map a.eval++q)).toArray=p.toArray++c.args.map a.eval++q.toArray:=by
   apply CO;simp
  rw[hx];simp [execOp,hop,resolve,hcal,hfo,Deferred.ofValue,invoke];simpa using he
 refine⟨fun f _=>hW.fn f,?_⟩;rw[Yu _ _ _ hnd,hr];refine⟨fun hd=>(by rw[hW.depth] at hd;cases hd),CallsIn.mono (hW.calls h.2) ?_⟩;rintro en w' ⟨v,rfl,hd⟩;exact hK v w' hd
theorem coM (hW:Wd F) (hnd:Gn o) (hY:zQ C YF) (hV:jD e a V) (hM:jm C e w M) (hg:jr C e w) {c:Call}{fo:Operand}{b:Nat}{l:List AV}(hop:o.op=.call c) (hcal:c.callee=.value fo) (hfo:cG V fo=some (.val (.one (.yld b)))) (hl:Et V c.args.toList=some l)
 (hu:YF M n0 b l=some t) (hf:um n0 t.n1 e) (ho:jE t.ob) (hK:∀ v w',uk C e w n0 t v w'->K (a.put o.dst v) w'):o.wpIn F m C.P a w K Q:=by
 obtain⟨k,r,h1,h2,h3,h4⟩:=hY e w M n0 b l _ t hM hg (zj hV hl) hu hf ho;obtain⟨k',h5,h6⟩:=cV hV hfo;rw[h1] at h5;injection h5 with h5;subst h5
 have hargs:c.args.map a.eval=(c.args.toList.map a.eval).toArray:=by
  apply CO;simp
 have hr:(execOp a.eval o).run C.P w=.ok (.round k r.fn ((r.params.zip (c.args.toList.map a.eval).toArray).foldl (fun tmps (t,a)=>tmps.setIfInBounds t a) r.tmps) r.assign r.body) w:=by
  have hy:=run_yield (P:=C.P) h2 (args:=(c.args.toList.map a.eval).toArray) (by simpa using h3);simp only[execOp,hop,resolve,hcal,h6,Deferred.ofValue,hargs];simpa [invoke] using hy
 refine⟨fun f _=>hW.fn f,?_⟩;rw[Yu _ _ _ hnd,hr];refine⟨fun hd=>(by rw[hW.depth] at hd;cases hd),RoundIn.mono (h4 F (m-1) hW) ?_⟩;rintro en w' ⟨v,rfl,hd⟩;exact hK v w' hd
theorem map_nil {o:Option Operand}(f:Operand->Option Value) (h:o.map f=none):o=none:=by cases o<;>simp_all
set_option maxHeartbeats 2000000 in
theorem GH (hW:Wd F) (hC:C.Ok) (hT:T.Ok C) (hF:CF.Ok C) (hY:zQ C YF) (hV:jD e a V) (hM:jm C e w M) (hg:jr C e w) (hu:Ge C.toStat T CF YF V M n0 o=some t) (hf:um n0 t.n1 e) (ho:jE t.ob)
 (hK:∀ v w',uk C e w n0 t v w'->K (a.put o.dst v) w'):o.wpIn F m C.P a w K Q:=by
 have hnd:Gn o:=by
  intro c hc;rw[cao] at hu;unfold cbO at hu;rw[hc] at hu;cases hu
 rw[cao] at hu;unfold cbO at hu;simp only at hu;split at hu
 ·rename_i x hop;split at hu
  ·rename_i v hv;exact zn hW hnd hg hu (by simp [execOp,hop]) (cV hV hv) hK
  ·cases hu
 ·rename_i x hop;split at hu
  ·rename_i v hv;exact zn hW hnd hg hu (by simp [execOp,hop]) (cV hV hv) hK
  ·cases hu
 ·rename_i c x y hop;split at hu
  ·rename_i hc;have hc:=kD hV hc;split at hu
   ·rename_i v hv;exact zn hW hnd hg hu (v:=a.eval x) (by simp [execOp,hop,hc,asBool]) (cV hV hv) hK
   ·cases hu
  ·rename_i hc;have hc:=kD hV hc;split at hu
   ·rename_i v hv;exact zn hW hnd hg hu (v:=a.eval y) (by simp [execOp,hop,hc,asBool]) (cV hV hv) hK
   ·cases hu
  ·cases hu
 ·rename_i ty hop;split at hu
  ·rename_i i hi;split at hu
   ·rename_i z hz;refine cJ hW hnd (v:=.pointer (some ⟨w.heap.size,0,none⟩)) (w':={ w with heap:=w.heap.push (.cells z.cells ty) }) ?_ (hK _ _ (Uv hg hu hf (EE _ _) (arr:=z.cells) (by simp) (yZ e _) (fun e' he=>⟨_,he,rfl⟩)));simp [execOp,hop,Instr.alloc,zeroValue,typeInfo,hi,hz,EG]
   ·cases hu
  ·cases hu
 ·rename_i ty x hop;split at hu
  ·rename_i y hy;split at hu
   ·rename_i hs;have hx:=cV hV hy;refine cJ hW hnd (v:=.pointer (some ⟨w.heap.size,0,none⟩)) (w':={ w with heap:=w.heap.push (.cells (a.eval x).cells ty) }) ?_ (hK _ _ (Uv hg hu hf (EE _ _) (arr:=(a.eval x).cells) (by simp) (A1.cells_are hC hM hx hs) (fun e' he=>⟨_,he,rfl⟩)));simp [execOp,hop,Instr.box,EG]
   ·cases hu
  ·cases hu
 ·rename_i ty parts hop;split at hu
  ·rename_i i hi;split at hu
   ·rename_i z hz;split at hu
    ·rename_i fs hfs;split at hu
     ·rename_i hall;split at hu
      ·rename_i cs hcs;have hm:∀ (l:List Field),(l.all fun f=>(C.P.info? f.type).isSome)=true->∃ r,(l.mapM (m:=Sem) fun f=>Prod.mk f.offset <$> sizeOf f.type).run C.P w=.ok r w/\∀ (j:Nat) (f:Field) (inf:TypeInfo),l[j]?=some f->C.P.info? f.type=some inf->r[j]?=some (f.offset,inf.size):=by
        intro l
        induction l with
        |nil=>intro _;exact⟨[],by simp,fun j f inf h=>by simp at h⟩
        |cons f l ih =>
         intro hl;simp only[List.all_cons,EL] at hl;obtain⟨r,hr,hr2⟩:=ih hl.2;obtain⟨j,hj⟩:=Option.isSome_iff_exists.1 hl.1;refine⟨(f.offset,j.size)::r,by simp [Wp,jZ hj,hr],?_⟩;intro x g inf hx hinf;cases x with
         |zero=>simp at hx;subst hx;rw[hj] at hinf;injection hinf with hinf;subst hinf;rfl
         |succ x=>simpa using hr2 x g inf (by simpa using hx) hinf
       obtain⟨r,hr,hr2⟩:=hm fs.toList hall;obtain⟨us,hus,hfill⟩:=Wh hC hV hM (z:=z.cells) (place:=fun i=>r.toArray[i]?) (fun j f inf h1 h2=>by simpa using hr2 j f inf h1 h2) hcs (yZ e z.cells.toList);refine zn hW hnd hg hu (v:=.agg us.toArray) ?_ ⟨us,hus,rfl⟩ hK;have hfill':Instr.fill (fun i=>r.toArray[i]?) z.cells (parts.map fun(i,x)=>(i,a.eval x)).toList=some us.toArray:=by
        rw[YK];exact hfill
       simp only[execOp,hop,Instr.build,zeroValue,typeInfo,underlying,jc,cae,jC,hi,hz,hfs,zk,ZR,Sem.run_map];rw[show (fun(f:Field)=>(do let __do_lift ← sizeOf f.type;pure (f.offset,__do_lift):Sem (Nat×Nat)))=(fun f=>Prod.mk f.offset <$> sizeOf f.type) from rfl];simp only[hr,jC];rw[hfill'];rfl
      ·cases hu
     ·cases hu
    ·cases hu
   ·cases hu
  ·cases hu
 ·rename_i ty x hop;split at hu
  ·rename_i b p hb;obtain⟨k,hk,hx⟩:=GV hV hb;split at hu
   ·rename_i y hy;obtain⟨v,h1,h2⟩:=JT hM hk hy;exact zn hW hnd hg hu (v:=v) (by simp [execOp,hop,hx,Instr.loadAt,Instr.sureAddr,h1]) h2 hK
   ·cases hu
  ·exact CS hW hnd hC hT hV hM hg (by simp [uA,hop]) (by simp) hu hf ho hK
 ·rename_i ty x y hop;split at hu
  ·rename_i b p hb;obtain⟨k,hk,hx⟩:=GV hV hb;split at hu
   ·rename_i z hz;obtain⟨w',h1,h2⟩:=cnk hC hM hg hk (cV hV hz) hu;have:(execOp a.eval o).run C.P w=.ok .skip w':=by simp [execOp,hop,hx,Instr.storeAt,Instr.sureAddr,h1]
    refine⟨fun f _=>hW.fn f,?_⟩;rw[Yu _ _ _ hnd,this];exact hK _ _ h2
   ·cases hu
  ·cases hu
 ·rename_i x hop;split at hu
  ·rename_i b p hb;obtain⟨k,hk,hx⟩:=cV hV hb;exact zn hW hnd hg hu (v:=.pointer (some ⟨k,p,none⟩)) (by simp [execOp,hop,hx]) ⟨k,hk,rfl⟩ hK
  ·rename_i c hc;split at hu
   ·rename_i f ps qs hcl;obtain⟨p,q,h1,_,_⟩:=hM _ _ hcl;have hx:e.φ c=some (a.eval x):=cV hV hc;have hx':=hx;rw[h1] at hx';injection hx' with hx'
    exact zn hW hnd hg hu (v:=a.eval x) (by rw[← hx'];simp [execOp,hop,← hx']) hx hK
   ·cases hu
  ·rename_i f p q hc;have hx:=cV hV hc;have hx:a.eval x=.func (.func f) p q:=hx;exact zn hW hnd hg hu (v:=a.eval x) (by simp [execOp,hop,hx]) hx hK
  ·cases hu
 ·rename_i op ty x y u hop;split at hu
  ·rename_i r hr;injection hu with hu;subst hu
   exact CS hW hnd hC hT hV hM hg (by simp [uA,hop]) (by simp) hr hf ho hK
  ·split at hu
   ·rename_i vx vy h1 h2;have h1:=Gm hV h1;have h2:=Gm hV h2;refine GY hW hnd hg hu (fun v w' hr=>?_) hK;simp only[execOp,hop,h1,h2,jc];simp only[jc] at hr;rw[hr];rfl
   ·cases hu
 ·rename_i op ty x hop;split at hu
  ·rename_i r hr;injection hu with hu;subst hu
   exact CS hW hnd hC hT hV hM hg (by simp [uA,hop]) (by simp) hr hf ho hK
  ·split at hu
   ·rename_i vx h1;have h1:=kD hV h1;exact GY hW hnd hg hu (fun v w' hr=>by simp [execOp,hop,h1,hr]) hK
   ·cases hu
 ·rename_i s d x hop;split at hu
  ·rename_i r hr;injection hu with hu;subst hu
   exact CS hW hnd hC hT hV hM hg (by simp [uA,hop]) (by simp) hr hf ho hK
  ·split at hu
   ·rename_i vx h1;have h1:=kD hV h1;exact GY hW hnd hg hu (fun v w' hr=>by simp [execOp,hop,h1,hr]) hK
   ·cases hu
 ·rename_i ty x lo hi mx hop;split at hu
  ·rename_i r hr;injection hu with hu;subst hu
   obtain⟨v,h1,h2⟩:=cnf hV hM hg hr;exact cJ hW hnd (by simp [execOp,hop,h1]) (hK _ _ h2)
  ·split at hu
   ·rename_i vx hx hn;have hx:=kD hV hx;split at hu
    ·rename_i vl vh h1 h2;obtain⟨y1,rfl,g1⟩:=Option.map_eq_some_iff.1 h1;obtain⟨y2,rfl,g2⟩:=Option.map_eq_some_iff.1 h2;exact GY hW hnd hg hu (fun v w' hr=>by simp [execOp,hop,hx,kD hV g1,kD hV g2,hr]) hK
    ·rename_i vl h1 h2;obtain⟨y1,rfl,g1⟩:=Option.map_eq_some_iff.1 h1;obtain rfl:=map_nil _ h2;exact GY hW hnd hg hu (fun v w' hr=>by simp [execOp,hop,hx,kD hV g1,hr]) hK
    ·rename_i vl h1 h2;obtain⟨y2,rfl,g2⟩:=Option.map_eq_some_iff.1 h2;obtain rfl:=map_nil _ h1;exact GY hW hnd hg hu (fun v w' hr=>by simp [execOp,hop,hx,kD hV g2,hr]) hK
    ·rename_i h1 h2;obtain rfl:=map_nil _ h1;obtain rfl:=map_nil _ h2;exact GY hW hnd hg hu (fun v w' hr=>by simp [execOp,hop,hx,hr]) hK
    ·cases hu
   ·exact CS hW hnd hC hT hV hM hg (by simp [uA,hop]) (by simp) hu hf ho hK
 ·rename_i ty l c hop;split at hu
  ·rename_i r hr;injection hu with hu;subst hu
   cases hl:lit? (cG V l) with
   |none=>rw[hl] at hr;simp [mkA] at hr
   |some vl =>
    cases hc:lit? (cG V c) with
    |none=>rw[hl,hc] at hr;unfold mkA at hr;split at hr<;>simp_all
    |some vc =>
     rw[hl,hc] at hr;obtain⟨v,w',h1,h2⟩:=mkA_is hg hr hf;exact cJ hW hnd (w':=w') (by simp [execOp,hop,kD hV hl,kD hV hc,h1]) (hK _ _ h2)
  ·exact CS hW hnd hC hT hV hM hg (by simp [uA,hop]) (by simp) hu hf ho hK
 ·rename_i ty x i hop;split at hu
  ·rename_i vx vi h1 h2;exact GY hW hnd hg hu (fun v w' hr=>by simp [execOp,hop,Gm hV h1,kD hV h2,hr]) hK
  ·exact CS hW hnd hC hT hV hM hg (by simp [uA,hop]) (by simp) hu hf ho hK
 ·rename_i s x f hop;split at hu
  ·rename_i b p hb;obtain⟨k,hk,hx⟩:=GV hV hb;split at hu
   ·rename_i fl hfl;obtain⟨fs,h1,h2⟩:=CI hfl;split at hu
    ·rename_i i hi;split at hu
     ·cases hu
     ·rename_i n hsz;refine zn hW hnd hg hu (v:=.pointer (some ⟨k,p+fl.offset,none⟩)) ?_ ⟨k,hk,rfl⟩ hK;simp [execOp,hop,hx,Instr.fieldAt,underlying,h1,h2,Instr.sureAddr,fieldPlace,jZ hi,hsz,jL]
    ·cases hu
   ·cases hu
  ·exact CS hW hnd hC hT hV hM hg (by simp [uA,hop]) (by simp) hu hf ho hK
 ·rename_i f first cap hop
  split at hu
  ·rename_i xs ys h1 h2;split at hu
   ·rename_i ps qs h3 h4;injection hu with hu;subst hu
    obtain⟨e',h5,h6⟩:=left_fn (f:=f) hg hf (ciC h3 (zj hV h1)) (ciC h4 (zj hV h2));refine cJ hW hnd (v:=.func (.func f) (first.toList.map a.eval).toArray (cap.toList.map a.eval).toArray) ?_ (hK _ _ ⟨e',h5,h6⟩);simp only[execOp,hop,Instr.makeFunc,jc,zk,jC,Result.ok.injEq,Next.value.injEq,Value.func.injEq,true_and,and_true];exact⟨by apply CO;simp,by apply CO;simp⟩
   ·cases hu
  ·cases hu
 ·rename_i ty x f hop;split at hu
  ·rename_i cs hcs;obtain⟨vs,hvs,hx⟩:=cV hV hcs;split at hu
   ·rename_i fl hfl;obtain⟨fs,h1,h2⟩:=CI hfl;split at hu
    ·rename_i d hd;split at hu
     ·rename_i hagg;split at hu
      ·rename_i i hi;refine zn hW hnd hg hu (v:=.agg ((vs.drop fl.offset).take i.size).toArray) ?_ ⟨_,hvs.drop.take,rfl⟩ hK;have hxx:vs.toArray.extract fl.offset (fl.offset+i.size)=((vs.drop fl.offset).take i.size).toArray:=by
        simp [cgs]
       simp [execOp,hop,hx,Instr.field,underlying,h1,h2,asAgg,part,uu hd,hagg,jZ hi,cgs]
      ·cases hu
     ·rename_i hagg;split at hu
      ·rename_i c hc;obtain⟨v,h3,h4⟩:=hvs.get _ _ hc;refine zn hW hnd hg hu (v:=v) ?_ h4 hK;simp [execOp,hop,hx,Instr.field,underlying,h1,h2,asAgg,part,uu hd,hagg,h3]
      ·cases hu
    ·cases hu
   ·cases hu
  ·cases hu
 ·rename_i x i hop;split at hu
  ·rename_i l hl;obtain⟨vs,hvs,hx⟩:=cV hV hl;split at hu
   ·rename_i y hy;obtain⟨v,h3,h4⟩:=hvs.get _ _ hy;refine zn hW hnd hg hu (v:=v) ?_ h4 hK;simp [execOp,hop,hx,Instr.extract,h3]
   ·cases hu
  ·cases hu
 ·rename_i ty n parts hop;obtain⟨v,w',h1,h2⟩:=bsA_is hC hV hM hg hu hf;exact cJ hW hnd (w':=w') (by simp only[execOp,hop,jc,h1,jC];rfl) (hK _ _ h2)
 ·rename_i ty x i hop;split at hu
  ·rename_i b p n j el hb hj hel;obtain⟨k,c,hk,hx⟩:=ZW hV hb;have hi:=kD hV hj;split at hu
   ·rename_i hlt;have hlt:=yq hlt;split at hu
    ·rename_i inf hinf;refine zn hW hnd hg hu (v:=.pointer (some ⟨k,p+j*inf.size,none⟩)) ?_ ⟨k,hk,rfl⟩ hK;have h0:(0:Int)<=Int.ofNat j/\Int.ofNat j<n:=⟨ccS j,Int.ofNat_lt.2 hlt⟩;simp only[execOp,hop,hx,hi,Instr.indexAt,asIntOf,underlying,jc,zk,cae,jC,hel,co h0,jZ hinf,jL];rfl
    ·cases hu
   ·cases hu
  ·exact CS hW hnd hC hT hV hM hg (by simp [uA,hop]) (by simp) hu hf ho hK
 ·rename_i c hop;split at hu
  ·rename_i fo hcal;split at hu
   ·rename_i f l hfo hl;have hfo:a.eval fo=.func (.func f) #[] #[]:=cV hV hfo;refine clm hW hnd (p:=[]) (q:=[]) hop hcal hfo ?_ hK;have:=cha hC hT hF hM hg (zj hV hl) hu hf ho;simpa using this
   ·rename_i k l hfo hl;have hfo:e.φ k=some (a.eval fo):=cV hV hfo;split at hu
    ·rename_i f ps qs hcl;obtain⟨p,q,h1,h2,h3⟩:=hM _ _ hcl;rw[hfo] at h1;injection h1 with h1
     exact clm hW hnd hop hcal h1 (cha hC hT hF hM hg ((zc h2).append ((zj hV hl).append (zc h3))) hu hf ho) hK
    ·cases hu
   ·rename_i k l hfo hl;exact coM hW hnd hY hV hM hg hop hcal hfo hl hu hf ho hK
   ·cases hu
  ·rename_i hcal;split at hu
   ·rename_i x hargs;have ha:c.args.map a.eval=#[a.eval x]:=by
     apply CO;simp [hargs]
    split at hu
    ·rename_i b p n ty hb hty;obtain⟨k,cp,hk,hx⟩:=ZW hV hb;split at hu
     ·rename_i el hel;refine zn hW hnd hg hu (v:=goInt n) ?_ rfl hK;have hty':c.argTypes[0]?=some ty:=hty;simp [execOp,hop,resolve,hcal,ha,invoke,builtin,Builtin.len_,hty',ud hel,hx]
     ·cases hu
    ·split at hu
     ·rename_i vx hx;have hx:=Gm hV hx;exact GY hW hnd hg hu (fun v w' hr=>by simp [execOp,hop,resolve,hcal,ha,invoke,builtin,hx,hr]) hK
     ·exact CS hW hnd hC hT hV hM hg (by simp [uA,hop,hcal,hargs]) (by simp) hu hf ho hK
   ·cases hu
  ·rename_i hcal;split at hu
   ·rename_i s x hargs;have ha:c.args.map a.eval=#[a.eval s,a.eval x]:=by
     apply CO;simp [hargs]
    split at hu
    ·rename_i y hy;obtain⟨v,w',h1,h2⟩:=cjk hC hM hg hu (cV hV hy) (vx:=a.eval x) (fun z hz=>cV hV hz) hf o.type;have h1:(Builtin.append_ c.argTypes o.type #[a.eval s,a.eval x]).run C.P w=.ok v w':=by simpa using h1
     exact cJ hW hnd (w':=w') (by simp [execOp,hop,resolve,hcal,ha,invoke,builtin,h1]) (hK _ _ h2)
    ·cases hu
   ·cases hu
  ·rename_i hcal;split at hu
   ·rename_i x hargs;have ha:c.args.map a.eval=#[a.eval x]:=by
     apply CO;simp [hargs]
    obtain⟨v,w',h1,h2⟩:=cns hC hV hM hg hu o.type;have h1:(Builtin.clear_ c.argTypes o.type #[a.eval x]).run C.P w=.ok v w':=by simpa using h1
    exact cJ hW hnd (w':=w') (by simp [execOp,hop,resolve,hcal,ha,invoke,builtin,h1]) (hK _ _ h2)
   ·cases hu
  ·rename_i b _ _ _ hcal;exact CS hW hnd hC hT hV hM hg (by simp [uA,hop,hcal]) (by simp) hu hf ho hK
  ·cases hu
 ·cases hu
end
variable {D:Type}
def caT (csz:D->Nat):List (Grp D)->Nat->Option (List (Grp D))
 |gs,0=>some gs
 |[],_+1=>none
 |g::gs,o+1=>match Nat.ble (g.n csz) (o+1) with
  |true=>caT csz gs (o+1-g.n csz)
  |false=>none
def JN (csz:D->Nat):List (Grp D)->Nat->Option (List (Grp D))
 |_,0=>some []
 |[],_+1=>none
 |g::gs,m+1=>match Nat.ble (g.n csz) (m+1) with
  |true=>match JN csz gs (m+1-g.n csz) with
   |some l=>some (g::l)
   |none=>none
  |false=>none
def subG (csz:D->Nat) (gs:List (Grp D)) (o m:Nat):Option (List (Grp D)) :=
 match caT csz gs o with
 |some l=>JN csz l m
 |none=>none
section
variable {C:Ctx D}{w:World}
theorem ccd:∀ {gs r:List (Grp D)}{o:Nat}{vs:List Value},caT C.csz gs o=some r->cO C w gs vs->cO C w r (vs.drop o)
 |[],r,0,vs,h,hv=>by simp [caT] at h;subst h;simpa using hv
 |_::_,r,0,vs,h,hv=>by simp [caT] at h;subst h;simpa using hv
 |[],r,o+1,vs,h,hv=>by simp [caT] at h
 |g::gs,r,o+1,vs,h,hv=>by
  unfold caT at h;split at h
  ·rename_i hle;have hle:=jo hle;have:=ccd h hv.2;rw[zU] at this
   rwa [show g.n C.csz+(o+1-g.n C.csz)=o+1 by omega] at this
  ·cases h
theorem cdA:∀ {gs r:List (Grp D)}{m:Nat}{vs:List Value},JN C.csz gs m=some r->cO C w gs vs->cO C w r (vs.take m)
 |[],r,0,vs,h,hv=>by simp [JN] at h;subst h;simp [cO]
 |_::_,r,0,vs,h,hv=>by simp [JN] at h;subst h;simp [cO]
 |[],r,m+1,vs,h,hv=>by simp [JN] at h
 |g::gs,r,m+1,vs,h,hv=>by
  unfold JN at h;split at h
  ·rename_i hle;have hle:=jo hle;split at h
   ·rename_i l hl;injection h with h;subst h
    have:=cdA hl hv.2;refine⟨?_,?_⟩
    ·rw[List.take_take,uq hle];exact hv.1
    ·rw[List.drop_take];exact this
   ·cases h
  ·cases h
theorem cgg {gs r:List (Grp D)}{o m:Nat}{vs:List Value}(h:subG C.csz gs o m=some r) (hv:cO C w gs vs):cO C w r ((vs.drop o).take m):=by
 unfold subG at h;split at h
 ·rename_i l hl;exact cdA h (ccd hl hv)
 ·cases h
theorem cgx (hC:C.Ok) {g:Grp D}{vs:List Value}(h:g.is C w vs):vs.length=g.n C.csz:=by
 cases g with
 |lit v=>rw[show vs=[v] from h];rfl
 |cls d=>exact hC.len _ _ _ h
theorem cdt (hC:C.Ok):∀ {gs hs:List (Grp D)}{us vs:List Value},cO C w gs us->cO C w hs vs->cO C w (gs++hs) (us++vs)
 |[],hs,us,vs,h,k=>by rw[show us=[] from h];exact k
 |g::gs,hs,us,vs,h,k=>by
  have hl:=cgx hC h.1;have hle:g.n C.csz<=us.length:=by
   rw[jp] at hl;omega
  refine⟨?_,?_⟩
  ·rw[Zd hle];exact h.1
  ·rw[ccz hle];exact cdt hC h.2 k
def litsG (vs:List Value):List (Grp D):=vs.map .lit
theorem cdX:∀ (vs:List Value),cO C w (litsG vs) vs
 |[]=>rfl
 |v::vs=>⟨rfl,cdX vs⟩
end
theorem cfl {α:Type}(l us:List α) (a x:Nat) (h:a+us.length<=l.length):(l.take a++(us++l.drop (a+us.length)))[x]?=if x<a then l[x]? else if x<a+us.length then us[x-a]? else l[x]?:=by
 have ha:(l.take a).length=a:=by rw[jp];omega
 split
 ·rename_i hx;rw[KQ (by omega),yF,co hx]
 ·rename_i hx;rw[YL (by omega),ha];split
  ·rename_i hx2;rw[KQ (by omega)]
  ·rename_i hx2;rw[YL (by omega),zz];congr 1;omega
theorem cnl {α:Type}(l us:List α) {i j z p:Nat}(hp:p+us.length<=z) (hj:j≠i) (hl:i*z+z<=l.length):((l.take (i*z+p)++(us++l.drop (i*z+p+us.length))).drop (j*z)).take z=(l.drop (j*z)).take z:=by
 apply Yq;intro x;rw[yF,yF];split
 ·rename_i hx;rw[zz,zz,cfl _ _ _ _ (by omega)];rcases jd j i with h|h
  ·have:(j+1)*z<=i*z:=ja z h;rw[cT,kB] at this;rw[co (by omega)]
  ·have:(i+1)*z<=j*z:=ja z (by omega);rw[cT,kB] at this;rw[cg (by omega),cg (by omega)]
 ·rfl
theorem coL {α:Type}(l us:List α) {i z p:Nat}(hp:p+us.length<=z) (hl:i*z+z<=l.length):((l.take (i*z+p)++(us++l.drop (i*z+p+us.length))).drop (i*z)).take z=((l.drop (i*z)).take z).take p++(us++((l.drop (i*z)).take z).drop (p+us.length)):=by
 apply Yq;intro x;have hz:((l.drop (i*z)).take z).length=z:=by simp;omega
 rw[cfl _ _ _ _ (by omega),yF];split
 ·rename_i hx;rw[zz,cfl _ _ _ _ (by omega)];by_cases h1:x<p
  ·rw[co (by omega),co h1,yF,co hx,zz]
  ·by_cases h2:x<p+us.length
   ·rw[cg (by omega),co (by omega),cg h1,co h2];congr 1;omega
   ·rw[cg (by omega),cg (by omega),cg h1,cg h2,yF,co hx,zz]
 ·rename_i hx;rw[cg (by omega),cg (by omega),yF,cg hx]
structure Src (D:Type) where
 own:Bool
 id:Nat
 L:Lt D
def cdM (S:Stat D) (M:cR D):Option AV->Option (Src D)
 |some (.val (.one (.fn b)))=>match M b with
  |some (.gl ty z n g)=>some ⟨true,b,⟨S.lo,ty,z,n,g⟩⟩
  |_=>none
 |some (.val (.one (.sym s 0)))=>match M s with
  |some (.cls d)=>match S.unL d with
   |some L=>match Nat.beq (S.csz d) 1 with
    |true=>some ⟨false,s,L⟩
    |false=>none
   |none=>none
  |_=>none
 |_=>none
def chi (C:Ctx D) (e:Env) (w:World) (L:Lt D) (v:Value):Prop :=
 (L.n=0/\∃ a,v=.slice a 0 0)\/∃ k o c arr pre vs rest,v=.slice (some ⟨k,o,none⟩) L.n c/\L.n<=c/\(∃ fr,w.heap[k]?=some (.cells arr L.ty fr))/\arr.toList=pre++vs++rest/\pre.length=o/\vs.length=L.n*L.z/\(∀ v∈vs,v.oneCell'=true)/\∀ j,j<L.n->JE C e w (L.g j) ((vs.drop (j*L.z)).take L.z)
section
variable {C:Ctx D}{e:Env}{w w':World}{a:Act}{V:jv}{M:cR D}{n0:Nat}
theorem chi.shape {L:Lt D}{v:Value}(h:chi C e w L v):∃ ao c,v=.slice ao L.n c/\L.n<=c:=by
 rcases h with⟨h1,a,rfl⟩|⟨k,o,c,_,_,_,_,rfl,h1,_⟩
 ·exact⟨a,0,by rw[h1],by omega⟩
 ·exact⟨_,c,rfl,h1⟩
theorem cep (hC:C.Ok) (hg:jr C e w) {d:D}{L:Lt D}{f:List Value}(hd:C.unL d=some L) (hr:Rob C e w d f):∃ v,f=[v]/\chi C e w L v/\∀ k o n c,v=.slice (some ⟨k,o,none⟩) n c->0<L.n->∀ b,e.ρ b≠some k:=by
 obtain⟨v,rfl,h⟩:=hC.unlist _ _ _ _ hd hr.out;have hno:∀ k o n c,v=.slice (some ⟨k,o,none⟩) n c->0<L.n->∀ b,e.ρ b≠some k:=by
  rintro k o n c rfl hn b hb;have hlt:=hg.lt hb;have hk:uH e w (w.putObj k (.deferred none)):=⟨Nat.le_of_eq (by simp [World.putObj]),fun j _ hj=>Jg (fun hjk=>hj b (by rw[hb,hjk]))⟩;obtain⟨v',h1,h2⟩:=hC.unlist _ _ _ _ hd (hr _ hk);injection h1 with h1;subst h1
  rcases h2 with⟨h2,_⟩|⟨k',o',c',arr,pre,vs,rest,h3,_,⟨_,h4⟩,_⟩
  ·omega
  ·injection h3 with h3;injection h3 with h3;injection h3 with h3
   subst h3;rw[Kt hlt] at h4;cases h4
 refine⟨v,rfl,?_,hno⟩;rcases h with h|⟨k,o,c,arr,pre,vs,rest,rfl,h2,h3,h4,h5,h6,_,h6',h7⟩
 ·exact .inl h
 ·refine .inr ⟨k,o,c,arr,pre,vs,rest,rfl,h2,h3,h4,h5,h6,h6',fun j hj w' hk=>?_⟩;obtain⟨_,h3⟩:=h3;obtain⟨v',q1,q2⟩:=hC.unlist _ _ _ _ hd (hr _ hk);injection q1 with q1;subst q1
  rcases q2 with⟨q2,_⟩|⟨k',o',c',arr',pre',vs',rest',q3,_,⟨_,q4⟩,q5,q6,q7,_,_,q8⟩
  ·omega
  ·injection q3 with q3;injection q3 with q3;injection q3 with q3 q3'
   subst q3;subst q3';have hkk:=hk.block k (Array.getElem?_eq_some_iff.1 h3).1 (hno k o L.n c rfl (by omega));rw[q4,h3] at hkk;injection hkk with hkk;injection hkk with hkk
   subst hkk;have e1:pre++(vs++rest)=pre'++(vs'++rest'):=by rw[← uM,← uM,← h4,← q5]
   have e2:=List.append_inj e1 (by omega);have e3:=List.append_inj e2.2 (by omega);rw[e3.1];exact q8 j hj
theorem gl_rob {b ty z n:Nat}{g:Nat->List (Grp D)}{v:Value}(h:kF C e w b (.gl ty z n g)) (hv:e.φ b=some v) (lo:Nat):chi C e w ⟨lo,ty,z,n,g⟩ v:=by
 obtain⟨v',h1,h2⟩:=h;rw[hv] at h1;injection h1 with h1;subst h1
 refine h2.imp (fun⟨h3,h4⟩=>⟨h3,none,h4⟩) ?_;rintro⟨k,c,arr,vs,rest,h3,h4,h5,h6,h7,h8,h9,h10,h12,h11⟩;exact⟨k,0,c,arr,[],vs,rest,h5,h10,⟨_,h6⟩,h7,rfl,h8,h12,h11⟩
theorem YZ (hC:C.Ok) (hV:jD e a V) (hM:jm C e w M) (hg:jr C e w) {x:Operand}{s:Src D}(h:cdM C.toStat M (cG V x)=some s) :
 chi C e w s.L (a.eval x)/\(match s.own with
  |true=>e.φ s.id=some (a.eval x)/\M s.id=some (.gl s.L.ty s.L.z s.L.n s.L.g)
  |false=>e.ν s.id=some [a.eval x]/\∃ d,M s.id=some (.cls d)/\C.unL d=some s.L):=by
 unfold cdM at h;split at h
 ·rename_i b hx;have hv:e.φ b=some (a.eval x):=cV hV hx;split at h
  ·rename_i ty z n g hb;injection h with h;subst h
   exact⟨gl_rob (hM _ _ hb) hv _,hv,hb⟩
  ·cases h
 ·rename_i t hx;obtain⟨l,h1,h2,h3⟩:=cV hV hx;split at h
  ·rename_i d hd;split at h
   ·rename_i L hL;split at h
    ·rename_i hz;injection h with h;subst h
     obtain⟨f,h4,h5⟩:=hM _ _ hd;rw[h1] at h4;injection h4 with h4;subst h4
     obtain⟨v,rfl,h6,_⟩:=cep hC hg hL h5;have hv:a.eval x=v:=by simpa using h2.symm
     rw[← hv] at h6 h1;exact⟨h6,h1,d,hd,hL⟩
    ·cases h
   ·cases h
  ·cases h
 ·cases h
end
structure Epo (D:Type) where
 own:Bool
 id:Nat
 i:Nat
 o:Nat
 L:Lt D
def epOf (S:Stat D) (M:cR D):Option AV->Option (Epo D)
 |some (.val (.one (.fn b)))=>match M b with
  |some (.ep l i z o)=>match M l with
   |some (.gl ty z' n g)=>match Nat.beq z z' with
    |true=>some ⟨true,l,i,o,⟨S.lo,ty,z',n,g⟩⟩
    |false=>none
   |_=>none
  |some (.cp s i z o)=>match M s with
   |some (.cls d)=>match S.unL d with
    |some L=>match Nat.beq z L.z with
     |true=>some ⟨false,s,i,o,L⟩
     |false=>none
    |none=>none
   |_=>none
  |_=>none
 |_=>none
section
variable {C:Ctx D}{e:Env}{w w':World}{a:Act}{V:jv}{M:cR D}{n0:Nat}
theorem clC (hC:C.Ok) (hV:jD e a V) (hM:jm C e w M) (hg:jr C e w) {x:Operand}{p:Epo D}(h:epOf C.toStat M (cG V x)=some p) (hi:p.i<p.L.n) :
 ∃ k o arr pre vs rest,a.eval x=.pointer (some ⟨k,o+(p.i*p.L.z+p.o),none⟩)/\(∃ fr,w.heap[k]?=some (.cells arr p.L.ty fr))/\arr.toList=pre++vs++rest/\pre.length=o/\vs.length=p.L.n*p.L.z/\(∀ j,j<p.L.n->JE C e w (p.L.g j) ((vs.drop (j*p.L.z)).take p.L.z))/\(∀ v∈vs,v.oneCell'=true)/\
  (p.own=true->M p.id=some (.gl p.L.ty p.L.z p.L.n p.L.g)/\e.ρ p.id=some k/\e.al p.id=true/\o=0/\pre=[]/\∃ c,e.φ p.id=some (.slice (some ⟨k,0,none⟩) p.L.n c)/\arr.size=c*p.L.z/\p.L.n<=c/\w.heap[k]?=some (.cells arr p.L.ty (0,0))):=by
 unfold epOf at h;split at h
 rotate_left
 ·cases h
 rename_i b hx;have hv:e.φ b=some (a.eval x):=cV hV hx;split at h
 ·rename_i l i z o hb;obtain⟨k,h1,h2⟩:=hM _ _ hb;rw[hv] at h2;injection h2 with h2
  split at h
  ·rename_i ty z' n g hl;split at h
   ·rename_i hz;have hz:=ct hz;injection h with h;subst h
    obtain⟨v,h3,h4⟩:=hM _ _ hl;rcases h4 with⟨h4,_⟩|⟨k',c,arr,vs,rest,h5,h6,h7,h8,h9,h10,h11,h12,h14,h13⟩
    ·exact absurd hi (by simp only;omega)
    ·rw[h1] at h5;injection h5 with h5;subst h5
     exact⟨k,0,arr,[],vs,rest,by rw[h2,hz,je],⟨_,h8⟩,h9,rfl,h10,h13,h14,fun _=>⟨hl,h1,h6,rfl,rfl,c,by rw[h3,h7],h11,h12,h8⟩⟩
   ·cases h
  ·cases h
 ·rename_i s i z o hb;obtain⟨k,p',n,c,h1,h2⟩:=hM _ _ hb;rw[hv] at h2;injection h2 with h2
  split at h
  ·rename_i d hd;split at h
   ·rename_i L hL;split at h
    ·rename_i hz;have hz:=ct hz;injection h with h;subst h
     obtain⟨f,h3,h4⟩:=hM _ _ hd;rw[h1] at h3;injection h3 with h3;subst h3
     obtain⟨v,h5,h6,_⟩:=cep hC hg hL h4;injection h5 with h5;subst h5
     rcases h6 with⟨h6,h7⟩|⟨k',o',c',arr,pre,vs,rest,h7,h8,h9,h10,h11,h12,h14,h13⟩
     ·have hi':i<L.n:=hi;omega
     ·injection h7 with h7;injection h7 with h7;injection h7 with h7 h7'
      subst h7;subst h7';exact⟨k,p',arr,pre,vs,rest,by rw[h2,hz],h9,h10,h11,h12,h13,h14,fun h=>by cases h⟩
    ·cases h
   ·cases h
  ·cases h
 ·cases h
theorem KI (hg:jr C e w) (hf:um n0 (n0+1) e) (hb:Below w.heap.size w w') {k:Nat}(hkk:w.heap.size<=k) {o:Obj}(hk:w'.heap[k]?=some o) (hok:CD C o) {v:Value}{ob:EZ D}(hob:∀ e':Env,Adv e w e' w'->e'.ρ n0=some k->e'.al n0=true->e'.φ n0=some v->kF C e' w' n0 ob) :
 ∃ e',ut C e w n0 (n0+1) [(n0,ob)] e' w'/\e'.φ n0=some v:=by
 have hn:=(hf n0 (cb _) (Cu _)).1;have hnφ:=(hf n0 (cb _) (Cu _)).2.2
 let e':Env:={ e with ρ:=fun b=>if b=n0 then some k else e.ρ b,al:=fun b=>if b=n0 then true else e.al b,φ:=fun b=>if b=n0 then some v else e.φ b }
 have hid:e'.ρ n0=some k:=by simp [e']
 have hiφ:e'.φ n0=some v:=by simp [e']
 have hne:∀ b k,e.ρ b=some k->b≠n0:=fun b k h e0=>by rw[e0,hn] at h;cases h
 have hold:∀ b j,e'.ρ b=some j->(b≠n0/\e.ρ b=some j)\/(b=n0/\j=k):=by
  intro b j hb;by_cases hbi:b=n0
  ·right;refine⟨hbi,?_⟩;rw[hbi,hid] at hb;injection hb with hb
   exact hb.symm
  ·left;have:(if b=n0 then some k else e.ρ b)=some j:=hb;rw[cg hbi] at this;exact⟨hbi,this⟩
 have hx:Ext e e':=⟨fun b k h=>by
  show (if b=n0 then _ else _)=_;rw[cg (hne b k h),h],fun _ _ _=>rfl,fun _ _ h=>h,fun b k h=>by
  show (if b=n0 then _ else _)=_;rw[cg (fun e0=>by rw[e0,hnφ] at h;cases h),h]⟩
 have hadv:Adv e w e' w':=⟨hx,hb.size,fun j hk' hn'=>⟨fun b hb'=>by
  rcases hold b j hb' with h|h
  ·exact hn' b h.2
  ·omega,hb.block j hk'⟩⟩
 have hal:∀ b,b≠n0->e'.al b=e.al b:=fun b h=>by show (if b=n0 then _ else _)=_;rw[cg h]
 have hg1:=hg.later hb;refine⟨e',⟨yg _,hadv,⟨fun b k h=>(hold b k h).imp (fun h=>h.2) (fun h=>by omega),fun _ _ h=>.inl h,fun b k h=>?_⟩,⟨hg1.below,?_,?_,hg.fr.adv hadv⟩,?_,?_⟩,hiφ⟩
 ·by_cases hb:b=n0
  ·right;omega
  ·left;have h:(if b=n0 then some v else e.φ b)=some k:=h
   rwa [cg hb] at h
 ·intro b b' j h1 h2 h3 h4;rcases hold b j h3 with⟨q1,q2⟩|⟨q1,q2⟩<;>rcases hold b' j h4 with⟨q3,q4⟩|⟨q3,q4⟩
  ·exact hg.inj b b' j (by rw[← hal b q1];exact h1) (by rw[← hal b' q3];exact h2) q2 q4
  ·have:=hg.lt q2;omega
  ·have:=hg.lt q4;omega
  ·rw[q1,q3]
 ·intro b j h;rcases hold b j h with⟨q1,q2⟩|⟨q1,q2⟩
  ·exact hg1.own b j q2
  ·rw[q2];exact⟨cA hg.below.size hkk,_,hk,hok⟩
 ·intro b o ho;simp only[jl,cX] at ho;split at ho
  ·rename_i hbe;injection ho with ho;subst ho
   obtain rfl:n0=b:=ct hbe;exact hob e' hadv hid (by simp [e']) hiφ
  ·cases ho
 ·intro b o ho _;refine ho.adv hadv (fun k hk ha=>?_);have:=hne b k hk;exact⟨by rw[hal b this];exact ha,hb.block k (hg.lt hk)⟩
theorem ciR (hg:jr C e w) (hf:um n0 (n0+1) e) {b k:Nat}(hb:e.ρ b=some k) (ha:e.al b=true) (ho:jJ k w w') {o:Obj}(hk':w'.heap[k]?=some o) (hok:CD C o) {v:Value}{ob:EZ D}(hob:∀ e':Env,Adv e w e' w'->e'.ρ n0=some k->e'.al n0=true->e'.φ n0=some v->kF C e' w' n0 ob) :
 ∃ e',ut C e w n0 (n0+1) [(n0,ob),(b,.dead)] e' w'/\e'.φ n0=some v:=by
 have hn:=(hf n0 (cb _) (Cu _)).1;have hnφ:=(hf n0 (cb _) (Cu _)).2.2;have hbn:b≠n0:=fun e0=>by rw[e0,hn] at hb;cases hb
 let e':Env:={ e with ρ:=fun x=>if x=n0 then some k else e.ρ x,al:=fun x=>if x=n0 then true else if x=b then false else e.al x,φ:=fun x=>if x=n0 then some v else e.φ x }
 have hid:e'.ρ n0=some k:=by simp [e']
 have hiφ:e'.φ n0=some v:=by simp [e']
 have hne:∀ b k,e.ρ b=some k->b≠n0:=fun b k h e0=>by rw[e0,hn] at h;cases h
 have hold:∀ x y,e'.ρ x=some y->(x≠n0/\e.ρ x=some y)\/(x=n0/\y=k):=by
  intro x y hb;by_cases hbi:x=n0
  ·right;refine⟨hbi,?_⟩;rw[hbi,hid] at hb;injection hb with hb
   exact hb.symm
  ·left;have:(if x=n0 then some k else e.ρ x)=some y:=hb;rw[cg hbi] at this;exact⟨hbi,this⟩
 have hx:Ext e e':=⟨fun b k h=>by
  show (if b=n0 then _ else _)=_;rw[cg (hne b k h),h],fun _ _ _=>rfl,fun _ _ h=>h,fun b k h=>by
  show (if b=n0 then _ else _)=_;rw[cg (fun e0=>by rw[e0,hnφ] at h;cases h),h]⟩
 have hadv:Adv e w e' w':=⟨hx,by rw[ho.size];exact cb _,fun y hy hn'=>⟨fun x hx'=>by
  rcases hold x y hx' with h|h
  ·exact hn' x h.2
  ·exact hn' b (by rw[hb,h.2]),ho.block y (fun h=>hn' b (by rw[hb,h]))⟩⟩
 have hal:∀ x,x≠n0->e'.al x=true->x≠b/\e.al x=true:=fun x h h1=>by
  have h1:(if x=n0 then true else if x=b then false else e.al x)=true:=h1;rw[cg h] at h1;by_cases hxb:x=b
  ·rw[co hxb] at h1;cases h1
  ·rw[cg hxb] at h1;exact⟨hxb,h1⟩
 refine⟨e',⟨yg _,hadv,⟨fun b k h=>(hold b k h).imp (fun h=>h.2) (fun h=>by omega),fun _ _ h=>.inl h,fun b k h=>?_⟩,⟨hg.below.trans (ho.below (hg.own b k hb).1),?_,?_,hg.fr.adv hadv⟩,?_,?_⟩,hiφ⟩
 ·by_cases hb:b=n0
  ·right;omega
  ·left;have h:(if b=n0 then some v else e.φ b)=some k:=h
   rwa [cg hb] at h
 ·intro x x' y h1 h2 h3 h4;rcases hold x y h3 with⟨q1,q2⟩|⟨q1,q2⟩<;>rcases hold x' y h4 with⟨q3,q4⟩|⟨q3,q4⟩
  ·exact hg.inj x x' y (hal x q1 h1).2 (hal x' q3 h2).2 q2 q4
  ·exact absurd (hg.inj x b k (hal x q1 h1).2 ha (by rw[q2,q4]) hb) (hal x q1 h1).1
  ·exact absurd (hg.inj x' b k (hal x' q3 h2).2 ha (by rw[q4,q2]) hb) (hal x' q3 h2).1
  ·rw[q1,q3]
 ·intro x y h;have h':∃ z,e.ρ z=some y:=by
   rcases hold x y h with⟨q1,q2⟩|⟨q1,q2⟩
   ·exact⟨x,q2⟩
   ·exact⟨b,by rw[hb,q2]⟩
  obtain⟨z,hz⟩:=h';obtain⟨h1,o2,h2,h3⟩:=hg.own z y hz;refine⟨h1,?_⟩;by_cases hkk:y=k
  ·subst hkk;exact⟨_,hk',hok⟩
  ·exact⟨o2,(ho.block y hkk).trans h2,h3⟩
 ·intro x o h;simp only[jl,cX] at h;split at h
  ·rename_i hbe;injection h with h;subst h
   obtain rfl:n0=x:=ct hbe;exact hob e' hadv hid (by simp [e']) hiφ
  ·split at h
   ·injection h with h;subst h
    trivial
   ·cases h
 ·intro x o h hn';refine h.adv hadv (fun y h1 h2=>?_);have hxb:x≠b:=by
   rintro rfl;simp only[jl,cX] at hn';split at hn'
   ·cases hn'
   ·simp at hn'
  have hxn:=hne x y h1;refine⟨?_,ho.block y (fun hkk=>hxb (hg.inj x b k h2 ha (by rw[h1,hkk]) hb))⟩;show (if x=n0 then true else if x=b then false else e.al x)=true;rw[cg hxn,cg hxb,h2]
end
variable {D:Type}
def ZA (csz:D->Nat):List (Grp D)->Nat
 |[]=>0
 |g::gs=>g.n csz+ZA csz gs
theorem cdS {csz:D->Nat}:∀ {gs r:List (Grp D)}{m:Nat},JN csz gs m=some r->ZA csz r=m
 |[],r,0,h=>by simp [JN] at h;subst h;rfl
 |_::_,r,0,h=>by simp [JN] at h;subst h;rfl
 |[],r,m+1,h=>by simp [JN] at h
 |g::gs,r,m+1,h=>by
  unfold JN at h;split at h
  ·rename_i hle;have hle:=jo hle;split at h
   ·rename_i l hl;injection h with h;subst h
    have:=cdS hl;simp only[ZA,this];omega
   ·cases h
  ·cases h
theorem chZ {C:Ctx D}(hC:C.Ok) {w:World}:∀ {gs:List (Grp D)}{vs:List Value},cO C w gs vs->vs.length=ZA C.csz gs
 |[],vs,h=>by rw[show vs=[] from h];rfl
 |g::gs,vs,h=>by
  have h1:=cgx hC h.1;have h2:=chZ hC h.2;rw[jp] at h1;rw[uK] at h2;simp only[ZA];omega
theorem cpa {csz:D->Nat}{gs r:List (Grp D)}{o m:Nat}(h:subG csz gs o m=some r):ZA csz r=m:=by
 unfold subG at h;split at h
 ·exact cdS h
 ·cases h
def cey (S:Stat D) (n0:Nat) (t:TypeId) (p:Epo D):Option (Out D) :=
 match S.P.underlying t with
 |some d=>match Gg d with
  |true=>match S.P.info? t with
   |some inf=>match subG S.csz (p.L.g p.i) p.o inf.size with
    |some gs=>match uV S.csz n0 gs with
     |(cs,ws,n1)=>some ⟨.val (.agg cs),ws,n1,[p.i<p.L.n]⟩
    |none=>none
   |none=>none
  |false=>match subG S.csz (p.L.g p.i) p.o 1 with
   |some gs=>match uV S.csz n0 gs with
    |([c],ws,n1)=>some ⟨.val (.one c),ws,n1,[p.i<p.L.n]⟩
    |_=>none
   |none=>none
 |none=>none
def putG (g:Nat->List (Grp D)) (i:Nat) (x:List (Grp D)):Nat->List (Grp D):=fun j=>match Nat.beq j i with
 |true=>x
 |false=>g j
def cdO (n:Nat) (g h:Nat->List (Grp D)):Nat->List (Grp D):=fun j=>match Nat.blt j n with
 |true=>g j
 |false=>h (j-n)
def takeZ (csz:D->Nat) (gs:List (Grp D)) (o:Nat):Option (List (Grp D)):=match o with
 |0=>some []
 |o+1=>JN csz gs (o+1)
def dropZ (csz:D->Nat) (gs:List (Grp D)) (m z:Nat):Option (List (Grp D)):=match Nat.beq m z with
 |true=>some []
 |false=>caT csz gs m
theorem cpt {C:Ctx D}{w:World}{gs r:List (Grp D)}{o:Nat}{vs:List Value}(h:takeZ C.csz gs o=some r) (hv:cO C w gs vs):cO C w r (vs.take o):=by
 unfold takeZ at h;split at h
 ·injection h with h;subst h;rfl
 ·exact cdA h hv
theorem coZ {C:Ctx D}{w:World}{gs r:List (Grp D)}{m z:Nat}{vs:List Value}(h:dropZ C.csz gs m z=some r) (hl:vs.length<=z) (hv:cO C w gs vs):cO C w r (vs.drop m):=by
 unfold dropZ at h;split at h
 ·rename_i hm;injection h with h;subst h
  rw[ct hm,cfY hl];rfl
 ·exact ccd h hv
def cag (S:Stat D) (M:cR D) (n0:Nat) (t:TypeId) (p:Epo D) (cs:List AC):Option (Out D) :=
 match p.own,S.P.info? t with
 |true,some inf=>match Nat.beq cs.length inf.size,CQ (ky M) cs,Cz S.csz M cs.length cs with
  |true,true,some gs=>match takeZ S.csz (p.L.g p.i) p.o,dropZ S.csz (p.L.g p.i) (p.o+cs.length) p.L.z,Nat.ble (p.o+cs.length) p.L.z with
   |some g1,some g2,true=>some ⟨KU,[(p.id,.gl p.L.ty p.L.z p.L.n (putG p.L.g p.i (g1++(gs++g2))))],n0,[p.i<p.L.n]⟩
   |_,_,_=>none
  |_,_,_=>none
 |_,_=>none
def xIx (S:Stat D) (n0:Nat) (t:TypeId) (s:Src D) (j:Nat):Option (Out D) :=
 match EA S.P t with
 |some (_,inf)=>match Nat.beq inf.size s.L.z with
  |true=>some ⟨.val (.one (.fn n0)),[(n0,match s.own with
   |true=>.ep s.id j s.L.z 0
   |false=>.cp s.id j s.L.z 0)],n0+1,[j<s.L.n]⟩
  |false=>none
 |none=>none
def xFa (S:Stat D) (M:cR D) (n0:Nat) (s f:Nat):Option AV->Option (Out D)
 |some (.val (.one (.fn b)))=>match Cn S.P s f with
  |some fl=>match S.P.info? fl.type with
   |some inf=>match inf.size with
    |0=>none
    |_+1=>match M b with
     |some (.ep l i z o)=>some ⟨.val (.one (.fn n0)),[(n0,.ep l i z (o+fl.offset))],n0+1,[]⟩
     |some (.cp l i z o)=>some ⟨.val (.one (.fn n0)),[(n0,.cp l i z (o+fl.offset))],n0+1,[]⟩
     |_=>none
   |none=>none
  |none=>none
 |_=>none
def ciI (S:Stat D) (M:cR D) (z:Nat) (x:Option AV):Option (Nat×(Nat->List (Grp D))) :=
 match cdM S M x with
 |some s=>match Nat.beq s.L.z z with
  |true=>some (s.L.n,s.L.g)
  |false=>none
 |none=>match EM M z x with
  |some (1,cs)=>match CQ (ky M) cs,Cz S.csz M cs.length cs with
   |true,some gs=>some (1,fun _=>gs)
   |_,_=>none
  |_=>none
def cjH (S:Stat D) (M:cR D) (nil:Bool) (e z:Nat):Option AV->Option (Option Nat×Nat×(Nat->List (Grp D)))
 |some (.val (.one (.lit (.slice none 0 0))))=>match nil with
  |true=>some (none,0,fun _=>[])
  |false=>none
 |x=>match cdM S M x with
  |some s=>match s.own,Nat.beq s.L.z z,Nat.beq s.L.ty e with
   |true,true,true=>some (some s.id,s.L.n,s.L.g)
   |_,_,_=>none
  |none=>none
def clT (b:Option Nat):Ws D:=match b with
 |some b=>[(b,.dead)]
 |none=>[]
def xApp (S:Stat D) (M:cR D) (n0:Nat) (nil:Bool) (ats:List Nat) (s x:Option AV):Option (Out D) :=
 match ats with
 |[t,t']=>match Nat.beq t t',EA S.P t with
  |true,some (e,i)=>match i.zero with
   |some z0=>match Nat.beq z0.cells.size i.size,Nat.blt 0 i.size,Nat.ble i.bytes 1000,S.okT e with
    |true,true,true,true=>match cjH S M nil e i.size s,ciI S M i.size x with
     |some (b,n,g),some (m,h)=>some ⟨.val (.one (.fn n0)),(n0,.gl e i.size (n+m) (cdO n g h))::clT b,n0+1,[n+m<=1000000]⟩
     |_,_=>none
    |_,_,_,_=>none
   |none=>none
  |_,_=>none
 |_=>none
def xMk (S:Stat D) (n0:Nat) (t:TypeId):Option Value->Option Value->Option (Out D)
 |some (.int _ (.ofNat n)),some (.int _ (.ofNat m))=>match EA S.P t with
  |some (e,i)=>match i.zero with
   |some z0=>match Nat.beq z0.cells.size i.size,Nat.blt 0 i.size,Nat.ble i.bytes 1000,S.okT e with
    |true,true,true,true=>match CQ (fun c=>match c with
     |.lit v=>v.oneCell'
     |_=>true) (z0.cells.toList.map .lit) with
     |false=>none
     |true=>some ⟨.val (.one (.fn n0)),[(n0,.gl e i.size n (fun _=>litsG z0.cells.toList))],n0+1,[n<=1000000,m=n]⟩
    |_,_,_,_=>none
   |none=>none
  |none=>none
 |_,_=>none
def xBs (S:Stat D) (n0:Nat) (t:TypeId):Option (Out D) :=
 match EA S.P t with
 |some (e,i)=>match i.zero with
  |some _=>match S.okT e with
   |true=>some ⟨.val (.one (.fn n0)),[(n0,.gl e i.size 0 (fun _=>[]))],n0+1,[]⟩
   |false=>none
  |none=>none
 |none=>none
def xBp (S:Stat D) (n0:Nat) (t:TypeId):Option (Out D) :=
 match EA S.P t with
 |some (e,i)=>match i.zero with
  |some _=>zD S n0 e [] none (.slc n0 0 0 0)
  |none=>none
 |none=>none
def xBox (S:Stat D) (M:cR D) (n0:Nat) (t:TypeId):Option AV->Option (Out D)
 |some (.val a)=>match CQ (ky M) a.cells,Cz S.csz M a.cells.length a.cells,Nat.blt 0 a.cells.length with
  |true,some gs,true=>some ⟨.val (.one (.fn (n0+1))),[(n0+1,.cp n0 0 a.cells.length 0),(n0,.cls (S.mkL ⟨S.lo,t,a.cells.length,1,fun _=>gs⟩))],n0+2,[]⟩
  |_,_,_=>none
 |_=>none
def glT (T:Tab D) (d:Nat):Bool:=match T d .gl with
 |some _=>true
 |none=>false
def Uw (V:jv):List (Nat×Operand)->Option (List (Nat×Value))
 |[]=>some []
 |p::l=>match Kw? (cG V p.2) with
  |some v=>match Uw V l with
   |some vs=>some ((p.1,v)::vs)
   |none=>none
  |none=>none
def xSl (S:Stat D) (n0:Nat) (t:TypeId):Option (Src D)->Option (Option Nat)->Option (Option Nat)->Option (Out D)
 |some s,some l,some h=>match s.own,EA S.P t with
  |false,some (_,i)=>match Nat.beq i.size s.L.z with
   |true=>some ⟨.val (.one (.sym n0 0)),[(n0,.cls (S.mkL ⟨s.L.lo,s.L.ty,s.L.z,h.getD s.L.n-l.getD 0,fun j=>s.L.g (l.getD 0+j)⟩))],n0+1,[l.getD 0<h.getD s.L.n,h.getD s.L.n<=s.L.n]⟩
   |false=>none
  |_,_=>none
 |_,_,_=>none
def cfe (S:Stat D) (T:Tab D) (V:jv) (M:cR D) (n0:Nat) (o:Oper):Option (Out D) :=
 match o.op with
 |.load t x=>match epOf S M (cG V x) with
  |some p=>cey S n0 t p
  |none=>none
 |.store t x y=>match epOf S M (cG V x) with
  |some p=>match cG V y with
   |some (.val a)=>cag S M n0 t p a.cells
   |_=>none
  |none=>none
 |.indexAddr t x i=>match cdM S M (cG V x) with
  |some s=>match lit? (cG V i) with
   |some (.int .i64 (.ofNat j))=>xIx S n0 t s j
   |_=>none
  |none=>match ptr? (cG V x),lit? (cG V i),S.P.underlying t with
   |some (b,p),some (.int .i64 (.ofNat j)),some (.array len e)=>match Nat.blt j len,S.P.info? e with
    |true,some inf=>out n0 (.val (.one (.ptr b (p+j*inf.size))))
    |_,_=>none
   |_,_,_=>none
 |.fieldAddr s x f=>xFa S M n0 s f (cG V x)
 |.slice t x lo hi none=>xSl S n0 t (cdM S M (cG V x)) (Ep V lo) (Ep V hi)
 |.makeSlice t l c=>match glT T (o.dst.getD 0) with
  |true=>xMk S n0 t (lit? (cG V l)) (lit? (cG V c))
  |false=>none
 |.buildSlice t 0 ⟨[]⟩=>match T (o.dst.getD 0) (.bs t 0) with
  |some _=>xBp S n0 t
  |none=>xBs S n0 t
 |.box t x=>match S.okT t with
  |true=>none
  |false=>xBox S M n0 t (cG V x)
 |.build t parts=>match S.P.underlying t with
  |some (.array _ _)=>match Uw V parts.toList with
   |some vs=>uU S.P n0 (Instr.build t vs.toArray)
   |none=>none
  |_=>none
 |.binOp .eql t x y _=>match slc? (cG V x),lit? (cG V y),S.P.underlying t with
  |some _,some (.slice none 0 0),some (.slice _)=>out n0 (.val (.one (.lit (.bool false))))
  |_,_,_=>none
 |.call c=>match c.callee with
  |.builtin .len=>match c.args.toList with
   |[x]=>match cdM S M (cG V x),c.argTypes[0]? with
    |some s,some t=>match S.P.underlying t with
     |some (.slice _)=>out n0 (.val (.one (.lit (goInt s.L.n))))
     |_=>none
    |_,_=>none
   |_=>none
  |.builtin .append=>match c.args.toList with
   |[s,x]=>xApp S M n0 (glT T (o.dst.getD 0)) c.argTypes.toList (cG V s) (cG V x)
   |_=>none
  |_=>none
 |_=>none
section
variable {F:Fence}{m:Nat}
variable {C:Ctx D}{e:Env}{a:Act}{w:World}{V:jv}{M:cR D}{T:Tab D}{n0:Nat}{K:Act->World->Prop}{Q:Exit->Act->World->Prop}{o:Oper}{t:Out D}
theorem cfT {z n j:Nat}(hj:j<n):j*z+z<=n*z:=by
 have:(j+1)*z<=n*z:=ja z hj
 rwa [cT,kB] at this
theorem ceR {k o i z q m:Nat}{arr:Array Value}{ty:Nat}{pre vs rest:List Value}(h1:∃ fr,w.heap[k]?=some (.cells arr ty fr)) (h2:arr.toList=pre++vs++rest) (h3:pre.length=o):∀ j u,((((vs.drop (i*z)).take z).drop q).take m)[j]?=some u->w.cell? ⟨k,o+(i*z+q)+j,none⟩=some u:=by
 obtain⟨fr,h1⟩:=h1;intro j u hj;rw[yF] at hj;split at hj
 ·rw[zz,yF] at hj;split at hj
  ·rw[zz] at hj;have:=zi h1 h2 h3 (i*z+(q+j)) u hj
   rwa [show o+(i*z+(q+j))=o+(i*z+q)+j by omega] at this
  ·cases hj
 ·cases hj
theorem cnS (hC:C.Ok) (hg:jr C e w) {ty:TypeId}{p:Epo D}(hu:cey C.toStat n0 ty p=some t) (hf:um n0 t.n1 e) {k o:Nat}{arr:Array Value}{pre vs rest:List Value}(h1:∃ fr,w.heap[k]?=some (.cells arr p.L.ty fr)) (h2:arr.toList=pre++vs++rest) (h3:pre.length=o)
 (h5:JE C e w (p.L.g p.i) ((vs.drop (p.i*p.L.z)).take p.L.z)) :
 ∃ v,(loadVar ty ⟨k,o+(p.i*p.L.z+p.o),none⟩).run C.P w=.ok v w/\uk C e w n0 t v w:=by
 unfold cey at hu;split at hu
 rotate_left
 ·cases hu
 rename_i d hd;split at hu
 ·rename_i ha;split at hu
  rotate_left
  ·cases hu
  rename_i inf hinf;split at hu
  rotate_left
  ·cases hu
  rename_i gs hgs;split at hu;rename_i cs ws n1 hm;injection hu with hu;subst hu
  obtain⟨e',q1,q2⟩:=WP hC hg hm hf (fun w' hk=>cgg hgs (h5 w' hk));have hl:=chZ hC (cgg hgs h5.out);rw[cpa hgs] at hl;refine⟨.agg ((((vs.drop (p.i*p.L.z)).take p.L.z).drop p.o).take inf.size).toArray,?_,e',q1,_,q2,rfl⟩;have:=cfu (P:=C.P) (w:=w) ⟨k,o+(p.i*p.L.z+p.o),none⟩ ((((vs.drop (p.i*p.L.z)).take p.L.z).drop p.o).take inf.size) (fun j v hj=>by rw[jL];exact ceR h1 h2 h3 j v hj);rw[hl] at this;simp [loadVar,uu hd,ha,jZ hinf,this]
 ·rename_i ha;split at hu
  rotate_left
  ·cases hu
  rename_i gs hgs;split at hu
  ·rename_i c ws n1 hm;injection hu with hu;subst hu
   obtain⟨e',q1,v,us,q2,q3,q4⟩:=WP hC hg hm hf (fun w' hk=>cgg hgs (h5 w' hk));refine⟨v,?_,e',q1,q3⟩;have:=ceR (w:=w) (m:=1) (i:=p.i) (z:=p.L.z) (q:=p.o) h1 h2 h3 0 v (by rw[q2];rfl);rw[kh] at this;simp [loadVar,uu hd,ha,this]
  ·cases hu
theorem cmc (hC:C.Ok) (hM:jm C e w M) (hg:jr C e w) {ty:TypeId}{p:Epo D}{x:A1}{v:Value}(hx:x.is e v) (hu:cag C.toStat M n0 ty p x.cells=some t) (hi:p.i<p.L.n)
 {k o:Nat} {arr:Array Value} {pre vs rest:List Value} (h1:∃ fr,w.heap[k]?=some (.cells arr p.L.ty fr)) (h2:arr.toList=pre++vs++rest) (h4:vs.length=p.L.n*p.L.z)
 (h5:∀ j,j<p.L.n->JE C e w (p.L.g j) ((vs.drop (j*p.L.z)).take p.L.z)) (h13:∀ v∈vs,v.oneCell'=true)
 (h6:p.own=true->M p.id=some (.gl p.L.ty p.L.z p.L.n p.L.g)/\e.ρ p.id=some k/\e.al p.id=true/\o=0/\pre=[]/\∃ c,e.φ p.id=some (.slice (some ⟨k,0,none⟩) p.L.n c)/\arr.size=c*p.L.z/\p.L.n<=c/\w.heap[k]?=some (.cells arr p.L.ty (0,0))) :
 ∃ w',(storeVar ty ⟨k,o+(p.i*p.L.z+p.o),none⟩ v).run C.P w=.ok () w'/\uk C e w n0 t undef w':=by
 unfold cag at hu;split at hu
 rotate_left
 ·cases hu
 rename_i inf hown hinf;obtain⟨h7,h8,h9,rfl,rfl,c,h10,h11,h12,h1⟩:=h6 hown;split at hu
 rotate_left
 ·cases hu
 rename_i gs hsz hall hgs;split at hu
 rotate_left
 ·cases hu
 rename_i g1 g2 hg1 hg2 hle;injection hu with hu;subst hu
 have hle:=jo hle;have hcs:=A1.cells_are hC hM hx hall;have hlen:v.cells.toList.length=x.cells.length:=hcs.length;have hel:=cfT (z:=p.L.z) hi;rw[← h4] at hel;simp only[Em] at h2;rw[je];obtain⟨w',arr',r1,r2,r3,r4⟩:=CB C.P k p.L.ty v.cells.toList 0 (p.i*p.L.z+p.o) w (vs.take (p.i*p.L.z+p.o)) ((vs.drop (p.i*p.L.z+p.o)).take x.cells.length) (vs.drop (p.i*p.L.z+p.o+x.cells.length)++rest) arr h1 (by
  rw[h2]
  conv=>lhs;rw[← kv (p.i*p.L.z+p.o) vs,← kv x.cells.length (vs.drop (p.i*p.L.z+p.o))]
  simp [zU]) (by simp;omega) (by simp only[jp,uK];omega) (Ce hC hM hall hcs)
 refine⟨w',?_,e,?_,rfl⟩
 ·have hs1:¬ v.cells.size≠inf.size:=by
   have:=ct hsz;rw[← this,← hlen];simp
  simp only[storeVar,jc,jZ hinf,jC,cg hs1];exact r1
 ·have hok:CD C (.cells arr' p.L.ty (0,0)):=by
   obtain⟨_,o2,q1,q2⟩:=hg.own p.id k h8;rw[h1] at q1;injection q1 with q1;subst q1
   exact cde q2
  have hadv:Adv e w e w':=⟨Ext.refl e,by rw[r4.size];exact cb _,fun x hx hn=>⟨hn,r4.block x (fun h=>hn p.id (by rw[h8,h]))⟩⟩;refine Kh hg h8 h9 r4 r2 hok ⟨_,h10,.inr ⟨k,c,arr',vs.take (p.i*p.L.z+p.o)++(v.cells.toList++vs.drop (p.i*p.L.z+p.o+v.cells.toList.length)),rest,h8,h9,rfl,r2,by rw[r3,hlen];simp,?_,?_,h12,?_,?_⟩⟩
  ·simp only[kI,jp,uK];omega
  ·have e1:=cQ List.length r3;have e2:=cQ List.length h2;simp only[kI,jp,uK,Ca] at e1 e2;simp only[Ca] at hlen;omega
  ·intro u hu;simp only[List.mem_append] at hu;rcases hu with hu|hu|hu
   ·exact h13 u (Wo hu)
   ·exact Ce hC hM hall hcs u hu
   ·exact h13 u (cbs hu)
  ·intro j hj;unfold putG;split
   ·rename_i hji;have hji:=ct hji;subst hji;rw[coL vs v.cells.toList (by omega) hel,hlen];have hr:=(h5 _ hj).adv hadv;have hrg:=(KE hC hM hgs hcs).adv hadv;exact fun w'' hk=>cdt hC (cpt hg1 (hr w'' hk)) (cdt hC (hrg w'' hk) (coZ hg2 (by simp only[jp];omega) (hr w'' hk)))
   ·rename_i hji;rw[cnl vs v.cells.toList (by omega) (fun h=>by subst h;simp at hji) hel];exact(h5 _ hj).adv hadv
theorem chu {z n m j:Nat}{g h:Nat->List (Grp D)}{vs us:List Value}{e':Env}{w':World}(hv:vs.length=n*z) (hg:∀ j,j<n->JE C e' w' (g j) ((vs.drop (j*z)).take z)) (hh:∀ j,j<m->JE C e' w' (h j) ((us.drop (j*z)).take z)) (hj:j<n+m) :
 JE C e' w' (cdO n g h j) (((vs++us).drop (j*z)).take z):=by
 unfold cdO;split
 ·rename_i hlt;have hlt:=yq hlt;have:=cfT (z:=z) hlt;rw[ccz (by omega),Zd (by simp;omega)];exact hg j hlt
 ·rename_i hlt;have hge:n<=j:=by
   rcases jd j n with h1|h1
   ·rw[show Nat.blt j n=true from Jp h1] at hlt;cases hlt
   ·exact h1
  have e1:n*z<=j*z:=ja z hge;have e2:j*z-n*z=(j-n)*z:=by rw[Nat.sub_mul]
  rw[List.drop_append,cfD (by omega),Em,hv,e2];exact hh (j-n) (by omega)
theorem clY (hC:C.Ok) (hV:jD e a V) (hM:jm C e w M) (hg:jr C e w) {z:Nat}{x:Operand}{m:Nat}{h:Nat->List (Grp D)}(ht:ciI C.toStat M z (cG V x)=some (m,h)) :
 ∃ ao c,∃ us:List Value,a.eval x=.slice ao m c/\us.length=m*z/\(∀ v∈us,v.oneCell'=true)/\(0<m->∃ p,ao=some p/\∀ j u,us[j]?=some u->w.cell? (p.add j)=some u)/\(∀ j,j<m->JE C e w (h j) ((us.drop (j*z)).take z)):=by
 unfold ciI at ht;split at ht
 ·rename_i s hs;split at ht
  ·rename_i hz;have hz:=ct hz;injection ht with ht;simp only[cr] at ht;obtain⟨rfl,rfl⟩:=ht
   subst hz;obtain⟨h1,_⟩:=YZ hC hV hM hg hs;rcases h1 with⟨h1,h2⟩|⟨k,o,c,arr,pre,vs,rest,h2,h3,⟨_,h4⟩,h5,h6,h7,h9,h8⟩
   ·obtain⟨ao,h2⟩:=h2;refine⟨ao,0,[],by rw[h2,h1],by simp [h1],by simp,fun hm=>by omega,fun j hj=>by omega⟩
   ·exact⟨_,c,vs,h2,h7,h9,fun _=>⟨_,rfl,fun j u hj=>by rw[jL];exact zi h4 h5 h6 j u hj⟩,h8⟩
  ·cases ht
 ·split at ht
  rotate_left
  ·cases ht
  rename_i cs hcs;split at ht
  ·rename_i gs hall hgs;injection ht with ht;simp only[cr] at ht;obtain⟨rfl,rfl⟩:=ht
   cases hx:cG V x with
   |none=>rw[hx] at hcs;simp [EM] at hcs
   |some y =>
    rw[hx] at hcs;obtain⟨p,c,us,h1,h2,h3,h4⟩:=Yh hM hcs (cV hV hx);refine⟨some p,c,us,h1,h2,Ce hC hM hall h3,fun _=>⟨p,rfl,h4⟩,fun j hj=>?_⟩;obtain rfl:j=0:=by omega
    rw[Jr,ux,kA (by omega)];exact KE hC hM hgs h3
  ·cases ht
theorem cmM (hC:C.Ok) (hV:jD e a V) (hM:jm C e w M) (hg:jr C e w) {nil:Bool}{el z:Nat}{x:Operand}{b:Option Nat}{n:Nat}{g:Nat->List (Grp D)}(ht:cjH C.toStat M nil el z (cG V x)=some (b,n,g)) :
 (n=0/\a.eval x=.slice none 0 0)\/∃ i k c arr vs rest,b=some i/\e.ρ i=some k/\e.al i=true/\a.eval x=.slice (some ⟨k,0,none⟩) n c/\w.heap[k]?=some (.cells arr el (0,0))/\arr.toList=vs++rest/\vs.length=n*z/\arr.size=c*z/\n<=c/\(∀ v∈vs,v.oneCell'=true)/\∀ j,j<n->JE C e w (g j) ((vs.drop (j*z)).take z):=by
 unfold cjH at ht;split at ht
 ·rename_i hx;split at ht
  ·injection ht with ht;simp only[cr] at ht;obtain⟨_,rfl,_⟩:=ht
   exact .inl ⟨rfl,cV hV hx⟩
  ·cases ht
 ·split at ht
  rotate_left
  ·cases ht
  rename_i s hs;split at ht
  ·rename_i hown hz hty;have hz:=ct hz;have hty:=ct hty;injection ht with ht;simp only[cr] at ht;obtain⟨rfl,rfl,rfl⟩:=ht
   obtain⟨_,h2⟩:=YZ hC hV hM hg hs;rw[hown] at h2;obtain⟨h2,h3⟩:=h2;obtain⟨v,h4,h5⟩:=hM _ _ h3;rw[h2] at h4;injection h4 with h4;subst h4
   subst hz;subst hty;refine h5.imp id ?_;rintro⟨k,c,arr,vs,rest,q1,q2,q3,q4,q5,q6,q7,q8,q10,q9⟩;exact⟨s.id,k,c,arr,vs,rest,rfl,q1,q2,q3,q4,q5,q6,q7,q8,q10,q9⟩
  ·cases ht
theorem coj {vs : List Value} (h : CQ (fun c => match c with
            | .lit v => v.oneCell'
            | _ => true) (vs.map .lit) = true) : ∀ v ∈ vs, v.oneCell' = true := by
  induction vs with
  | nil => intro v hv; simp at hv
  | cons x vs ih =>
    simp only [jR, CQ] at h
    split at h
    · rename_i hx
      intro v hv
      rcases List.mem_cons.1 hv with rfl | hv
      · exact hx
      · exact ih h v hv
    · cases h
theorem Wt {arr:Array Value}{ty:Nat}(h:C.okT ty=true):CD C (.cells arr ty (0,0)):=.inl ⟨_,_,rfl,h⟩
theorem ceX {b:Option Nat}{n1:Nat}{ws:Ws D}{e':Env}{w':World}(h:ut C e w n0 n1 ws e' w'):ut C e w n0 n1 (ws++clT b) e' w':=by
 cases b with
 |none=>simpa [clT] using h
 |some b=>exact h.drop
theorem xApp_is (hC:C.Ok) (hV:jD e a V) (hM:jm C e w M) (hg:jr C e w) {nil:Bool}{ats:List Nat}{s x:Operand}(hu:xApp C.toStat M n0 nil ats (cG V s) (cG V x)=some t) (hf:um n0 t.n1 e) (ho:jE t.ob) (ty:Nat) :
 ∃ v w',(Builtin.append_ ats.toArray ty #[a.eval s,a.eval x]).run C.P w=.ok v w'/\uk C e w n0 t v w':=by
 unfold xApp at hu;split at hu
 rotate_left
 ·cases hu
 rename_i T1 T2;split at hu
 rotate_left
 ·cases hu
 rename_i el inf hT he;have hT:=ct hT;subst hT;obtain⟨hel,hi⟩:=yI he;split at hu
 rotate_left
 ·cases hu
 rename_i z0 hz0;split at hu
 rotate_left
 ·cases hu
 rename_i h1 h2 h3 hok;have h1:=ct h1;have h2:=yq h2;have h3:=jo h3;split at hu
 rotate_left
 ·cases hu
 rename_i b n g m h hh ht;injection hu with hu;subst hu
 have hnm:n+m<=1000000:=ho.1;obtain⟨ao,c,us,hx,hul,hu1,hsrc,hrob⟩:=clY hC hV hM hg ht;have hby:∀ k,k<=2000000->k*inf.bytes<=140737488355328:=fun k hk=>cA (Cw hk h3) (by decide);rw[hx];have mk:∀ (vs:List Value) (arr:Array Value) (cap:Nat),vs.length=n*inf.size->(∀ v∈vs,v.oneCell'=true)->(∀ j,j<n->JE C e w (g j) ((vs.drop (j*inf.size)).take inf.size))->n+m<=cap->arr=(vs++us).toArray++Builtin.zeroCells z0.cells (cap-(n+m))->
  ∃ e',ut C e w n0 (n0+1) ([(n0,.gl el inf.size (n+m) (cdO n g h))]++clT b) e' (w.drew.alloc (.cells arr el))/\e'.φ n0=some (.slice (some ⟨w.heap.size,0,none⟩) (n+m) cap):=by
  intro vs arr cap hvl hv1 hvr hcap harr;have hk:(w.drew.alloc (.cells arr el)).heap[w.heap.size]?=some (.cells arr el (0,0)):=by
   show (w.heap.push _)[w.heap.size]?=_;simp
  obtain⟨e',q1,q2⟩:=KI (v:=.slice (some ⟨w.heap.size,0,none⟩) (n+m) cap) (ob:=.gl el inf.size (n+m) (cdO n g h)) hg hf ((cw _ w).drew.alloc (cb _) (.cells arr el)) (cb _) hk (Wt hok) (fun e' hadv p1 p2 p3=>by
   refine⟨_,p3,.inr ⟨w.heap.size,cap,arr,vs++us,(Builtin.zeroCells z0.cells (cap-(n+m))).toList,p1,p2,rfl,hk,by rw[harr];simp,by rw[kI,hvl,hul,cT],?_,hcap,?_,?_⟩⟩
   ·rw[harr];simp only[ccG,Ek,kI,hvl,hul,Yr,h1];rw[← cT,← cT];congr 1;omega
   ·intro v hv;rcases List.mem_append.1 hv with hv|hv
    ·exact hv1 v hv
    ·exact hu1 v hv
   ·intro j hj;exact chu hvl (fun j hj=>(hvr j hj).adv hadv) (fun j hj=>(hrob j hj).adv hadv) hj)
  exact⟨e',ceX q1,q2⟩
 rcases cmM hC hV hM hg hh with⟨rfl,hs⟩|⟨i,k,cp,arr,vs,rest,rfl,hk,hal,hs,q3,q4,q5,q6,q7,q8,q9⟩
 ·rw[hs];rcases kH m with hm|hm
  ·subst hm;refine⟨.slice none 0 0,w,?_,?_⟩
   ·cases ao with
    |none=>simp [Builtin.append_,ud hel,sizeOf,typeInfo,hi,Builtin.lenOf,run_firstCells_none]
    |some p =>
     have hf0:=run_firstCells_some (P:=C.P) w inf.size 0 p 0 c [] (by simp) (fun j v h=>by simp at h);simp [Builtin.append_,ud hel,sizeOf,typeInfo,hi,Builtin.lenOf,hf0]
   ·obtain⟨e',q1,q2⟩:=GL (v:=.slice none 0 0) (ob:=.gl el inf.size (0+0) (cdO 0 g h)) hg hf (fun e' _ p=>⟨_,p,.inl ⟨rfl,rfl⟩⟩);exact⟨e',ceX q1,q2⟩
  ·obtain⟨p,rfl,hget⟩:=hsrc hm;have:=run_append_nil (P:=C.P) w T1 ty el inf z0 hel hi hz0 p m c us hul hget hm (by omega) (cA (hby m (by omega)) (by decide));obtain⟨e',p1,p2⟩:=mk [] _ (grownCap w m 0 el) (by simp) (by simp) (fun j hj=>by omega) (by rw[je];exact ccr _ _ _ _) rfl;refine⟨_,_,this,e',?_,?_⟩
   ·simpa using p1
   ·have p2:e'.φ n0=_:=p2;rw[je] at p2;exact p2
 ·rw[hs];by_cases hroom:n+m<=cp
  ·have hfit:n*inf.size+us.length<=arr.size:=by rw[hul,← cT,q6];exact ja _ hroom
   have hasz:arr.size=vs.length+rest.length:=by simpa using cQ List.length q4
   have hobj:∃ w',(Builtin.append_ #[T1,T1] ty #[.slice (some ⟨k,0,none⟩) n cp,.slice ao m c]).run C.P w=.ok (.slice (some ⟨k,0,none⟩) (n+m) cp) w'/\jJ k w w'/\w'.heap[k]?=some (.cells (arr.toList.take (n*inf.size)++us++arr.toList.drop (n*inf.size+us.length)).toArray el (0,0)):=by
    rcases kH m with hm|hm
    ·subst hm;obtain rfl:us=[]:=List.eq_nil_of_length_eq_zero (by omega);refine⟨w,?_,jJ.refl k w,?_⟩
     ·cases ao with
      |none=>simp [Builtin.append_,ud hel,sizeOf,typeInfo,hi,Builtin.lenOf,run_firstCells_none,q7,storeCells]
      |some p =>
       have hf0:=run_firstCells_some (P:=C.P) w inf.size 0 p 0 c [] (by simp) (fun j v h=>by simp at h);simp [Builtin.append_,ud hel,sizeOf,typeInfo,hi,Builtin.lenOf,hf0,q7,storeCells]
     ·rw[q3];congr 2;apply CO;simp
    ·obtain⟨p,rfl,hget⟩:=hsrc hm;have:=run_append_room (P:=C.P) w T1 ty el inf hel hi k n cp arr q3 p m c us hul hget hu1 hroom hfit;exact⟨_,this,⟨rfl,rfl,rfl,by simp,fun j hj=>setRow_other w k j _ hj⟩,setRow_heap w k arr _ el _ q3⟩
   obtain⟨w',hrun,honly,hk'⟩:=hobj;obtain⟨e',p1,p2⟩:=ciR (v:=.slice (some ⟨k,0,none⟩) (n+m) cp) (ob:=.gl el inf.size (n+m) (cdO n g h)) hg hf hk hal honly hk' (Wt hok) (fun e' hadv p1 p2 p3=>by
    refine⟨_,p3,.inr ⟨k,cp,_,vs++us,rest.drop us.length,p1,p2,rfl,hk',?_,by rw[kI,q5,hul,cT],?_,hroom,?_,?_⟩⟩
    ·rw[q4,← q5];simp
    ·simp only[Ek,kI,jp,uK,Ca];omega
    ·intro v hv;rcases List.mem_append.1 hv with hv|hv
     ·exact q8 v hv
     ·exact hu1 v hv
    ·intro j hj;exact chu q5 (fun j hj=>(q9 j hj).adv hadv) (fun j hj=>(hrob j hj).adv hadv) hj)
   exact⟨_,_,hrun,e',p1,p2⟩
  ·have hm:0<m:=by omega
   obtain⟨p,rfl,hget⟩:=hsrc hm;have hold:∀ j v,vs[j]?=some v->w.cell? ((⟨k,0,none⟩:Addr).add j)=some v:=fun j v hj=>by
    rw[jL];exact zi (pre:=[]) q3 (by simpa using q4) rfl j v hj
   have:=run_append_grow (P:=C.P) w T1 ty el inf z0 hel hi hz0 ⟨k,0,none⟩ n cp vs q5 hold p m c us hul hget (by omega) (by omega) (growslice_fits (by omega) (hby (n+m) (by omega)));obtain⟨e',p1,p2⟩:=mk vs _ (grownCap w (n+m) cp el) q5 q8 q9 (ccr _ _ _ _) rfl;refine⟨_,_,this,e',?_,p2⟩;simpa using p1
theorem xMk_is (hC:C.Ok) (hg:jr C e w) {ty:Nat}{l c:Value}(hu:xMk C.toStat n0 ty (some l) (some c)=some t) (hf:um n0 t.n1 e) (ho:jE t.ob) :
 ∃ v w',(Instr.makeSlice ty l c).run C.P w=.ok v w'/\uk C e w n0 t v w':=by
 unfold xMk at hu;split at hu
 rotate_left
 ·cases hu
 rename_i kl n kc n' hl hc;injection hl with hl;subst hl
 injection hc with hc;subst hc
 split at hu
 rotate_left
 ·cases hu
 rename_i el inf he;obtain⟨hel,hi⟩:=yI he;split at hu
 rotate_left
 ·cases hu
 rename_i z0 hz0;split at hu
 rotate_left
 ·cases hu
 rename_i h1 h2 h3 hok;have h1:=ct h1;have h2:=yq h2;have h3:=jo h3;split at hu
 ·cases hu
 rename_i h5;injection hu with hu;subst hu
 obtain⟨hn,hnn,_⟩:=ho;have hn:n<=1000000:=hn;have hnn:n'=n:=hnn;subst hnn;have hbb:inf.bytes*n'<=281474976710656:=cA (Cw h3 hn) (by decide);have:=run_make (P:=C.P) w ty el inf z0 hel hi hz0 kl kc (n':Int) (n':Int) (by omega) (by omega) (by rw[← uv];exact Int.ofNat_le.2 hbb) (by omega);simp only[ZJ] at this;have hk:(w.alloc (.cells (madeCells z0.cells (n'*inf.size)) el)).heap[w.heap.size]?=some (.cells (madeCells z0.cells (n'*inf.size)) el (0,0)):=by
  show (w.heap.push _)[w.heap.size]?=_;simp
 have hlen:(List.replicate n' z0.cells.toList).flatten.length=n'*inf.size:=by simp [h1]
 have hone:∀ v∈z0.cells.toList,v.oneCell'=true:=coj h5;obtain⟨e',q1,q2⟩:=KI (v:=.slice (some ⟨w.heap.size,0,none⟩) n' n') (ob:=.gl el inf.size n' (fun _=>litsG z0.cells.toList)) hg hf ((cw _ w).alloc (cb _) (.cells (madeCells z0.cells (n'*inf.size)) el)) (cb _) hk (Wt hok) (fun e' hadv p1 p2 p3=>by
  refine⟨_,p3,.inr ⟨w.heap.size,n',_,(List.replicate n' z0.cells.toList).flatten,[],p1,p2,rfl,hk,by rw[← h1,Ww];simp,hlen,?_,cb _,?_,?_⟩⟩
  ·have:=cQ List.length (Ww z0.cells n');simp only[Ca] at this;rw[h1] at this;rw[this,hlen]
  ·intro v hv;obtain⟨l,hl,hv⟩:=List.mem_flatten.1 hv;rw[cff hl] at hv;exact hone v hv
  ·intro j hj w'' _;have:((List.replicate n' z0.cells.toList).flatten.drop (j*inf.size)).take inf.size=z0.cells.toList:=by
    have hz:z0.cells.toList.length=inf.size:=by simpa using h1
    apply Yq;intro x;rw[yF];split
    ·rename_i hx;have hle:=cfT (z:=inf.size) hj;rw[zz,Um n' _ (by rw[hz];omega),hz,jf,Nat.mul_add_mod,yS hx]
    ·rename_i hx;rw[yA (by omega)]
   rw[this];exact cdX _)
 exact⟨_,_,this,e',q1,q2⟩
theorem xBs_is (hg:jr C e w) {ty:Nat}(hu:xBs C.toStat n0 ty=some t) (hf:um n0 t.n1 e) :
 ∃ v w',(Instr.buildSlice ty 0 #[]).run C.P w=.ok v w'/\uk C e w n0 t v w':=by
 unfold xBs at hu;split at hu
 rotate_left
 ·cases hu
 rename_i el inf he;obtain⟨hel,hi⟩:=yI he;split at hu
 rotate_left
 ·cases hu
 rename_i z0 hz0;split at hu
 rotate_left
 ·cases hu
 rename_i hok;injection hu with hu;subst hu
 have hk:(w.alloc (.cells #[] el)).heap[w.heap.size]?=some (.cells #[] el (0,0)):=by
  show (w.heap.push _)[w.heap.size]?=_;simp
 obtain⟨e',q1,q2⟩:=KI (v:=.slice (some ⟨w.heap.size,0,none⟩) 0 0) (ob:=.gl el inf.size 0 (fun _=>[])) hg hf ((cw _ w).alloc (cb _) (.cells #[] el)) (cb _) hk (Wt hok) (fun e' hadv p1 p2 p3=>by
  exact⟨_,p3,.inr ⟨w.heap.size,0,#[],[],[],p1,p2,rfl,hk,rfl,by simp,by simp,cb _,by simp,fun j hj=>by omega⟩⟩)
 refine⟨_,_,?_,e',q1,q2⟩;simp [Instr.buildSlice,ud hel,jZ hi,Instr.fill,newRow];rw[show Array.map (fun _:Nat=>(default:Value)) (Array.range 0)=#[] from lemZ1 (by rw[Array.size_map,Array.size_range])]
theorem xBp_is (hg:jr C e w) {ty:Nat}(hu:xBp C.toStat n0 ty=some t) (hf:um n0 t.n1 e) :
 ∃ v w',(Instr.buildSlice ty 0 #[]).run C.P w=.ok v w'/\uk C e w n0 t v w':=by
 unfold xBp at hu;split at hu
 rotate_left
 ·cases hu
 rename_i el inf he;obtain⟨hel,hi⟩:=yI he;split at hu
 rotate_left
 ·cases hu
 rename_i z0 hz0;have hk:(w.alloc (.cells #[] el)).heap[w.heap.size]?=some (.cells #[] el (0,0)):=by
  show (w.heap.push _)[w.heap.size]?=_;simp
 refine⟨_,_,?_,Uv hg hu hf (w':=w.alloc (.cells #[] el)) (EE _ _) hk rfl (fun e' he=>⟨_,he,rfl⟩)⟩;simp [Instr.buildSlice,ud hel,jZ hi,Instr.fill,newRow];rw[show Array.map (fun _:Nat=>(default:Value)) (Array.range 0)=#[] from lemZ1 (by rw[Array.size_map,Array.size_range])]
end
end Pe
end Go.Proofs.YtdopipkmcnkdjaaGreatDoor
