/- Part 22. -/
import Derived.Test.YtdopipkmcnkdjaaGreatDoorE21
import Derived.Test.YtdopipkmcnkdjaaGreatDoorChecked
import Derived.Test.YtdopipkmcnkdjaaGreatDoorE18
set_option linter.all false

namespace Go.Proofs.YtdopipkmcnkdjaaGreatDoor
open Go Go.RowKit Go.Proofs Lim
section
variable {P:Program}{ops:Array Oper}{Q:Exit->Act->World->Prop}{md:Region.Mode}
def left (l:Array Bool):Nat:=(l.toList.filter (fun b=>!b)).length
theorem chy {l:Array Bool}{i:Nat}(h:l[i]?=some false):left (l.setIfInBounds i true)+1=left l:=by
 obtain⟨xs⟩:=l;unfold left;simp only[List.getElem?_toArray] at h;simp only[List.setIfInBounds_toArray]
 induction xs generalizing i with
 |nil=>simp at h
 |cons x xs ih =>
  cases i with
  |zero=>simp at h;subst h;simp
  |succ i =>
   simp at h;have:=ih h;cases x<;>simp [List.set_cons_succ]<;>omega
theorem cmf (Inv:Array Bool->Act->World->Prop)
 (step:∀ l a w i,l.size=ops.size->Inv l a w->i∈Region.ready md ops l->wpOp P ops Q i (fun a' w'=>Inv (l.setIfInBounds i true) a' w') a w)
 (done:∀ l a w,l.size=ops.size->Inv l a w->Region.ready md ops l=[]->Q .normal a w) :
 ∀ (fuel:Nat) (l:Array Bool) (a:Act) (w:World),l.size=ops.size->left l<=fuel->Inv l a w->wpAny P md ops Q fuel l a w:=by
 intro fuel
 induction fuel with
 |zero =>
  intro l a w hs hl hi;have hr:Region.ready md ops l=[]:=by
   cases hx:Region.ready md ops l with
   |nil=>rfl
   |cons i is =>
    have hm:i∈Region.ready md ops l:=by rw[hx];simp
    have h1:=(mem_ready.1 hm).1;have hlt:i<l.size:=by
     rcases jd i l.size with h|h
     ·exact h
     ·simp [Zp h] at h1
    have h2:l[i]?=some false:=by
     rw[Ue hlt];simp [hlt] at h1;rw[h1]
    have:=chy h2;omega
  exact⟨hr,done l a w hs hi hr⟩
 |succ fuel ih =>
  intro l a w hs hl hi;refine⟨fun hr=>done l a w hs hi hr,fun i hm=>?_⟩;have h1:=(mem_ready.1 hm).1;have hlt:i<l.size:=by
   rcases jd i l.size with h|h
   ·exact h
   ·simp [Zp h] at h1
  have h2:l[i]?=some false:=by
   rw[Ue hlt];simp [hlt] at h1;rw[h1]
  have h3:=chy h2;exact wpOp_mono (fun a' w' h=>ih _ a' w' (by simpa using hs) (by omega) h) (step l a w i hs hi hm)
theorem chj {l:Array Bool}(hs:l.size=ops.size) (ht:∀ (i:Nat) (o:Oper),ops[i]?=some o->∀ e∈o.after,Region.binds md e=true->e.on<i) (hr:Region.ready md ops l=[]) :
 ∀ i,i<ops.size->l[i]?=some true:=by
 intro i
 induction i using Nat.strongRecOn with
 |ind i ih =>
  intro hi;have hl:i<l.size:=by omega
  rw[Ue hl];cases hb:l[i] with
  |true=>rfl
  |false =>
   exfalso;have hm:i∈Region.ready md ops l:=by
    refine mem_ready.2 ⟨by simp [hl,hb],ops[i],Ue hi,fun e he hbi=>?_⟩;have h1:=ht i ops[i] (Ue hi) e he hbi;have h2:=ih e.on h1 (by omega);simp [h2]
   rw[hr] at hm;cases hm
end
namespace Sym
section
variable {C:Ctx}{T:List Ent}{ops:Array Oper}{Q:Exit->Act->World->Prop}
theorem ub.drew (hC:C.Ok) {e:Env}{a:Act}{w:World}{V:uW}(hg:jr C e a w) (hV:ub C e a w V):ub C e a { w with drawn:=w.drawn+1 } V :=
 ub.below hC hg ⟨rfl,rfl,rfl,cb _,fun _ _=>rfl⟩ hV
theorem jr.drew {e:Env}{a:Act}{w:World}(hg:jr C e a w):jr C e a { w with drawn:=w.drawn+1 } :=
 hg.later ⟨rfl,rfl,rfl,cb _,fun _ _=>rfl⟩
theorem Inv.first {K:List (List Key)}{W:List Ws}{st:St}{pres:List Nat}{n:Nat}{a:Act}{w:World}(h:Sat C st a w):Inv C K W (fun k=>find k st.m) st.nb pres n (Array.replicate n false) a w:=by
 obtain⟨e,hk,hg,h1,h2⟩:=h;have hf:∀ j,(Array.replicate n false).getD j false=false:=by
  intro j;simp only[uX,lemZ9];split<;>rfl
 refine⟨by simp,fun i hi=>absurd hi (by rw[hf];simp),e,?_,hg,fun b k hb=>.inl (h1 b k hb),fun s f hs=>.inl (h2 s f hs)⟩;intro k v hkv;apply hk k v;have hkv:uN W (Array.replicate n false) k K 0 (find k st.m)=some v:=hkv;rw[ZT (fun x ks _ _=>hf _)] at hkv;exact hkv
theorem cfb {I:Array Bool->Act->World->Prop}(step:∀ l a w i,I l a w->l[i]?=some false->(∀ j,j<i->l.getD j false=true)->wpOp C.P ops Q i (fun a' w'=>I (l.setIfInBounds i true) a' w') a w)
 (done:∀ l a w,I l a w->(∀ j,j<ops.size->l.getD j false=true)->Q .normal a w) (hsz:∀ l a w,I l a w->l.size=ops.size) :
 ∀ (n i:Nat) (l:Array Bool) (a:Act) (w:World),i+n=ops.size->I l a w->(∀ j,j<i->l.getD j false=true)->(∀ j,i<=j->j<ops.size->l[j]?=some false)->wpOps C.P ops Q (List.range' i n) a w
 |0,i,l,a,w,hin,hI,h1,h2=>done l a w hI (fun j hj=>h1 j (by omega))
 |n+1,i,l,a,w,hin,hI,h1,h2=>by
  rw[cbK,wpOps_cons];have hil:i<l.size:=by rw[hsz l a w hI];omega
  refine wpOp_mono (fun a' w' h=>?_) (step l a w i hI (h2 i (cb _) (by omega)) h1);refine cfb step done hsz n (i+1) _ a' w' (by omega) h ?_ ?_
  ·intro j hj;rw[kU hil];split
   ·rfl
   ·exact h1 j (by omega)
  ·intro j hj hjs;rw[ccu,cg (by omega)];exact h2 j (by omega) hjs
theorem cmq (hC:C.Ok) (hT:∀ t∈T,t.Valid C) {id:Nat}{draw:Bool}{st st':St}(h:region C.toStat T ops.toList st=some st') {a:Act}{w:World}(hs:Sat C st a w) (hQ:∀ a' w',Sat C st' a' w'->Q .normal a' w') :
 (Code.region id ops draw).wp C.P Q a w:=by
 unfold region at h;split at h
 ·cases h
 ·rename_i hord;split at h
  ·cases h
  ·rename_i K hK;split at h
   ·cases h
   ·rename_i hKl;split at h
    ·cases h
    ·rename_i hu;split at h
     ·rename_i W hW;injection h with h
      subst h;cases draw with
      |true =>
       refine wp_region_any hC.mixed ?_;have hs':Sat C st a { w with drawn:=w.drawn+1 }:=by
        obtain⟨e,hk,hg,h1,h2⟩:=hs;exact⟨e,hk.drew hC hg,hg.drew,h1,h2⟩
       refine cmf (Inv C K W (fun k=>find k st.m) st.nb (jj [] ops.toList) ops.size) ?_ ?_ ops.size _ a _ (by simp) (by unfold left;simp) (Inv.first hs')
       ·intro l a w i hsz hI hi;obtain⟨hi1,o,ho,hr⟩:=mem_ready.1 hi;have hlt:i<l.size:=by
         rcases jd i l.size with h|h
         ·exact h
         ·simp [Zp h] at hi1
        refine Inv.step hC hT hKl hu hW hI ?_ ?_
        ·rw[Ue hlt];simp [hlt] at hi1;rw[hi1]
        ·intro o' ho';rw[ho] at ho';injection ho' with ho';subst ho'
         exact hr
       ·intro l a w hsz hI hr;refine hQ a w (Inv.done hKl hW hI ?_);have:=chj (ops:=ops) (md:=.any) hsz (fun i o ho ed hed hb=>by
         have:=yQ hord i o (by simpa using ho) ed hed hb;simpa using this) hr
        intro i hi;simp [uX,this i hi]
      |false =>
       refine wp_region ?_;rw[Zf];refine cfb (I:=Inv C K W (fun k=>find k st.m) st.nb (jj [] ops.toList) ops.size) ?_ ?_ ?_ ops.size 0 (Array.replicate ops.size false) a w (by omega) (Inv.first hs) (fun j hj=>by omega) ?_
       ·intro l a w i hI hi hlt;refine Inv.step hC hT hKl hu hW hI hi ?_;intro o ho ed hed hb;have:=yQ hord i o (by simpa using ho) ed hed hb;exact hlt ed.on (by simpa using this)
       ·intro l a w hI hall;exact hQ a w (Inv.done hKl hW hI hall)
       ·intro l a w hI;exact hI.size
       ·intro j _ hj;simp [lemZ9,hj]
     ·cases h
inductive Xt where
 |normal
 |exit (id:Nat)
 |ret
def Xt.to:Xt->Exit
 |.normal=>.normal
 |.exit id=>.exit id
 |.ret=>.ret
def El (f:St->Option (Xt×St)):Nat->St->Option (Xt×St)
 |0,_=>none
 |n+1,st=>match f st with
  |some (.normal,st')=>El f n st'
  |r=>r
def Cg (S:Stat) (T:List Ent):Nat->Code->St->Option (Xt×St)
 |0,_,_=>none
 |n+1,c,st=>match c with
  |.skip=>some (.normal,st)
  |.label _=>some (.normal,st)
  |.exit id=>some (.exit id,st)
  |.ret=>some (.ret,st)
  |.region _ ops _=>match region S T ops.toList st with
   |some st'=>some (.normal,st')
   |none=>none
  |.seq x y=>match Cg S T n x st with
   |some (.normal,st')=>Cg S T n y st'
   |r=>r
  |.cond x c d=>match lit? (cG (fun k=>find k st.m) x) with
   |some (.bool true)=>Cg S T n c st
   |some (.bool false)=>Cg S T n d st
   |_=>none
  |.block id c=>match Cg S T n c st with
   |some (.exit j,st')=>match Nat.beq j id with
    |true=>some (.normal,st')
    |false=>some (.exit j,st')
   |r=>r
  |.scope c=>Cg S T n c st
  |.loop c=>El (fun st=>Cg S T n c st) n st
  |_=>none
def Ky (C:Ctx) (x:Xt) (st:St):Exit->Act->World->Prop:=fun e a w=>e=x.to/\Sat C st a w
theorem ED {c:Code}{f:St->Option (Xt×St)}(hf:∀ st x st',f st=some (x,st')->∀ a w,Sat C st a w->c.wp C.P (Ky C x st') a w) :
 ∀ (n:Nat) (st:St) (x:Xt) (st':St),El f n st=some (x,st')->∀ a w,Sat C st a w->x≠.normal/\∀ (b:Frame) (k:List Item) (cs:List Frame),
  ∃ e a' w',Ky C x st' e a' w'/\Arrives C.P (lone (b.at a (.code c::.inLoop c::k)) cs w) b k cs e a' w'
 |0,st,x,st',h,a,w,hs=>by simp [El] at h
 |n+1,st,x,st',h,a,w,hs=>by
  unfold El at h;split at h
  ·rename_i st1 h1;have hb:=hf _ _ _ h1 a w hs;constructor
   ·obtain⟨e,a₁,w₁,⟨rfl,hq⟩,harr⟩:=hb default [] [];exact(ED hf n st1 x st' h a₁ w₁ hq).1
   ·intro b k cs;obtain⟨e,a₁,w₁,⟨rfl,hq⟩,harr⟩:=hb b (.inLoop c::k) cs;obtain⟨e₂,a₂,w₂,hq₂,harr₂⟩:=(ED hf n st1 x st' h a₁ w₁ hq).2 b k cs;exact⟨e₂,a₂,w₂,hq₂,.of_steps (Steps.trans harr (.one step_inLoop)) harr₂⟩
  ·rename_i hne;have hb:=hf _ _ _ h a w hs;constructor
   ·intro hx;subst hx;exact hne st' h
   ·intro b k cs;obtain⟨e,a₁,w₁,⟨rfl,hq⟩,harr⟩:=hb b (.inLoop c::k) cs;cases x with
    |normal=>exact absurd h (hne st')
    |exit id=>exact⟨_,a₁,w₁,⟨rfl,hq⟩,.pass (x:=.inLoop c) rfl (fun _ _=>.inl (by simp [Xt.to])) harr⟩
    |ret=>exact⟨_,a₁,w₁,⟨rfl,hq⟩,.pass (x:=.inLoop c) rfl (fun _ _=>.inl (by simp [Xt.to])) harr⟩
theorem kC (hC:C.Ok) (hT:∀ t∈T,t.Valid C):∀ (n:Nat) (c:Code) (st:St) (x:Xt) (st':St),Cg C.toStat T n c st=some (x,st')->∀ a w,Sat C st a w->c.wp C.P (Ky C x st') a w
 |0,c,st,x,st',h,a,w,hs=>by simp [Cg] at h
 |n+1,c,st,x,st',h,a,w,hs=>by
  unfold Cg at h;split at h
  ·injection h with h;injection h with h1 h2;subst h1;subst h2
   exact wp_skip ⟨rfl,hs⟩
  ·injection h with h;injection h with h1 h2;subst h1;subst h2
   exact wp_label ⟨rfl,hs⟩
  ·injection h with h;injection h with h1 h2;subst h1;subst h2
   exact wp_exit ⟨rfl,hs⟩
  ·injection h with h;injection h with h1 h2;subst h1;subst h2
   exact wp_ret ⟨rfl,hs⟩
  ·split at h
   ·rename_i st1 h1;injection h with h;injection h with h3 h2;subst h3;subst h2
    exact cmq hC hT h1 hs (fun a' w' h=>⟨rfl,h⟩)
   ·cases h
  ·rename_i x1 y1;apply cB;split at h
   ·rename_i st1 h1;refine UR (kC hC hT n _ _ _ _ h1 a w hs) ?_;rintro e a' w' ⟨rfl,hs'⟩;exact kC hC hT n _ _ _ _ h a' w' hs'
   ·rename_i hne;refine UR (kC hC hT n _ _ _ _ h a w hs) ?_;rintro e a' w' ⟨rfl,hs'⟩;cases x with
    |normal=>exact absurd h (hne st')
    |exit id=>exact⟨rfl,hs'⟩
    |ret=>exact⟨rfl,hs'⟩
  ·rename_i x1 c1 d1;obtain⟨e,hk,hg,h1,h2⟩:=hs;split at h
   ·rename_i hl;exact wp_cond_true (kD hk hl) (kC hC hT n _ _ _ _ h a w ⟨e,hk,hg,h1,h2⟩)
   ·rename_i hl;exact wp_cond_false (kD hk hl) (kC hC hT n _ _ _ _ h a w ⟨e,hk,hg,h1,h2⟩)
   ·cases h
  ·rename_i id1 c1;apply CU;split at h
   ·rename_i j st1 h1;split at h
    ·rename_i hj;injection h with h;injection h with h3 h2;subst h3;subst h2
     refine UR (kC hC hT n _ _ _ _ h1 a w hs) ?_;rintro e a' w' ⟨rfl,hs'⟩;simp only[Xt.to,Exit.inBlock,ct hj,Cv];exact⟨rfl,hs'⟩
    ·rename_i hj;injection h with h;injection h with h3 h2;subst h3;subst h2
     refine UR (kC hC hT n _ _ _ _ h1 a w hs) ?_;rintro e a' w' ⟨rfl,hs'⟩;have:¬ j=id1:=by
      rintro rfl;simp at hj
     simp only[Xt.to,Exit.inBlock,cg this];exact⟨rfl,hs'⟩
   ·rename_i hne;refine UR (kC hC hT n _ _ _ _ h a w hs) ?_;rintro e a' w' ⟨rfl,hs'⟩;cases x with
    |normal=>exact⟨rfl,hs'⟩
    |exit id=>exact absurd h (hne id st')
    |ret=>exact⟨rfl,hs'⟩
  ·apply wp_scope_straight;refine UR (kC hC hT n _ _ _ _ h a w hs) ?_;rintro e a' w' ⟨rfl,hs'⟩;cases x<;>exact⟨rfl,hs'⟩
  ·intro b k cs;obtain⟨e,a',w',h1,h2⟩:=(ED (fun st x st' h=>kC hC hT n _ st x st' h) n st x st' h a w hs).2 b k cs;exact⟨e,a',w',h1,.of_steps (.one step_loop) h2⟩
  ·cases h
def ZQ (P:Program) (V:uW):List ResultVar->Option (List A1)
 |[]=>some []
 |r::l=>match ZQ P V l with
  |none=>none
  |some xs=>match r with
   |.tmp t=>match cG V (.tmp t) with
    |some (.val x)=>some (x::xs)
    |_=>none
   |.cell a t=>match ptr? (cG V (.tmp a)) with
    |some (b,o)=>match Ym P V t b o with
     |some x=>some (x::xs)
     |none=>none
    |none=>none
def ZO (tmps:Array Value):ResultVar->Sem Value
 |.tmp t=>pure (tmps.getD t undef)
 |.cell p t=>do loadVar t (← asAddr (tmps.getD p undef))
theorem yP (fn:Func) (tmps:Array Value):results fn tmps=(do let vs ← fn.results.mapM (ZO tmps);pure (if h:vs.size=1 then vs[0] else .tuple vs)):=by
 unfold results;congr
theorem Kn {e:Env}{a:Act}{w:World}{V:uW}(hV:ub C e a w V):∀ {l:List ResultVar}{xs:List A1},ZQ C.P V l=some xs->
 ∃ vs,(l.mapM (ZO a.tmps)).run C.P w=.ok vs w/\up e xs vs
 |[],xs,h=>by
  simp [ZQ] at h;subst h;exact⟨[],by simp,rfl⟩
 |r::l,xs,h=>by
  simp only[ZQ] at h;split at h
  ·cases h
  ·rename_i ys hys;obtain⟨vs,h1,h2⟩:=Kn hV hys;split at h
   ·rename_i t;split at h
    ·rename_i x hx;injection h with h;subst h
     refine⟨a.eval (.tmp t)::vs,?_,_,_,rfl,cV hV hx,h2⟩;rw[Wp];simp only[ZO,jc,zk,jC,h1];rfl
    ·cases h
   ·rename_i p t;split at h
    ·rename_i b o hb;obtain⟨k,hk,hx⟩:=GV hV hb;split at h
     ·rename_i y hy;injection h with h;subst h
      obtain⟨v,h3,h4⟩:=JT hV hk hy;refine⟨v::vs,?_,_,_,rfl,h4,h2⟩;have hx':a.tmps.getD p undef=.pointer (some ⟨k,o,none⟩):=hx;rw[Wp];simp only[ZO,jc,hx',asAddr,zk,jC,h1,h3]
     ·cases h
    ·cases h
def Xt.ends:Xt->Bool
 |.normal=>true
 |.ret=>true
 |_=>false
def uB:List A1->List AV
 |[]=>[]
 |x::l=>.val x::uB l
def matchR (V:uW):jH->List A1->Bool
 |.val p,[x]=>cdl V p (.val x)
 |.tup ps,[]=>Gt V ps []
 |.tup ps,x::y::l=>Gt V ps (uB (x::y::l))
 |_,_=>false
def cdv:Nat->List A1->Ws
 |_,[]=>[]
 |t,x::l=>(.slot t,.av (.val x))::cdv (t+1) l
def start (args:List Pat):Option St :=
 match Er 0 args with
 |some (xs,lv,s')=>some ⟨s'/8+1,cdv 0 xs++lv⟩
 |none=>none
def runB (S:Stat) (T:List Ent) (n:Nat) (c:Code) (rs:List ResultVar) (args:List Pat) (res:jH):Bool :=
 match start args with
 |some st=>match Cg S T n c st with
  |some (xt,st')=>match xt.ends with
   |true=>match ZQ S.P (fun k=>find k st'.m) rs with
    |some x=>matchR (fun k=>find k st'.m) res x
    |none=>false
   |false=>false
  |none=>false
 |none=>false
theorem zc {e:Env}:∀ {l:List A1}{vs:List Value},up e l vs->yH e (uB l) vs
 |[],_,h=>h
 |x::l,_,⟨v,ws,h1,h2,h3⟩=>⟨v,ws,h1,h2,zc h3⟩
theorem cdm {k:Key}{v:Kv}:∀ {l:List A1}{t:Nat},(k,v)∈cdv t l->∃ j x,l[j]?=some x/\k=.slot (t+j)/\v=.av (.val x)
 |[],t,h=>by simp [cdv] at h
 |x::l,t,h=>by
  simp only[cdv,uQ,cr] at h;rcases h with⟨rfl,rfl⟩|h
  ·exact⟨0,x,rfl,rfl,rfl⟩
  ·obtain⟨j,y,h1,h2,h3⟩:=cdm h;exact⟨j+1,y,by simpa using h1,by rw[h2];congr 1;omega,h3⟩
theorem jb.length:∀ {ps:List Pat}{vs:List Value}{w:World},jb C w ps vs->vs.length=ps.length
 |[],_,w,h=>by rw[h];rfl
 |p::ps,_,w,⟨v,ws,h1,h2,h3⟩=>by rw[h1];simp [h3.length]
theorem cnh (hC:C.Ok) (hT:∀ t∈T,t.Valid C) {f:FuncId}{fn:Func}{c:Code}{rs:List ResultVar}(hf:C.P.funcs[f]?=some fn) (hb:fn.body=some c) (hrs:fn.results.toList=rs) (hnt:fn.ntmps=C.nt) {args:List Pat}{res:jH}{n:Nat}
 (hL:C.L=[]) (hlen:args.length<=C.nt) (hrun:runB C.toStat T n c rs args res=true) (vs:List Value) (hvs:jb C C.w0 args vs) :
 Calls C.P f vs.toArray C.w0 (fun e w'=>∃ v,e=.returned v/\res.is C w' v/\Below C.w0.heap.size C.w0 w'):=by
 unfold runB at hrun;split at hrun
 ·rename_i st hst;split at hrun
  ·rename_i xt st' he;split at hrun
   ·rename_i hx;split at hrun
    ·rename_i xs hr;have hs:Sat C st { tmps:=vs.toArray++Array.replicate (fn.ntmps-vs.toArray.size) undef,defers:=[] } C.w0:=by
      unfold start at hst;split at hst
      ·rename_i ys lv s' hm;injection hst with hst;subst hst
       obtain⟨e,g,hxs⟩:=Js (e:=⟨fun _=>none,fun _=>none⟩) hm (cb _) (fun _ _ _=>rfl) hvs;have hρ:∀ b k,e.ρ b=some k->False:=fun b k h=>by rw[g.ρ] at h;cases h
       refine⟨e,?_,⟨cw _ _,rfl,?_,fun b b' k h=>(hρ b k h).elim,fun b k h=>(hρ b k h).elim,fun k h=>by rw[hL] at h;simp at h⟩,fun b k h=>(hρ b k h).elim,?_⟩
       ·intro k v hkv;rcases List.mem_append.1 (uY hkv) with h|h
        ·obtain⟨j,x,h1,rfl,rfl⟩:=cdm h;obtain⟨v,h2,h3⟩:=hxs.get j x h1;refine⟨v,?_,h3⟩;have hjl:j<vs.length:=by
          rcases jd j vs.length with h|h
          ·exact h
          ·simp [yA h] at h2
         show (vs.toArray++Array.replicate (fn.ntmps-vs.toArray.size) undef)[0+j]?=some v;rw[je,ckA (by simpa using hjl)];simpa using h2
        ·obtain⟨x,cl,rfl,rfl,f,h4,h5⟩:=g.live k v h;exact⟨f,h4,h5⟩
       ·have:=hvs.length;simp only[ccG,Ek,cfK];omega
       ·intro s f hsf;rcases g.ν s f hsf with h|h
        ·cases h
        ·show s/8<s'/8+1;omega
      ·cases hst
     refine calls_of_wp hf hb (UR (kC hC hT n c st xt st' he _ _ hs) ?_);rintro e a' w' ⟨rfl,env,hk,hg,h1,h2⟩;have:bodyPost C.P fn (fun e w'=>∃ v,e=.returned v/\res.is C w' v/\Below C.w0.heap.size C.w0 w') .ret a' w':=by
      obtain⟨us,h3,h4⟩:=Kn hk hr;have h5:(results fn a'.tmps).run C.P w'=.ok (if h:us.toArray.size=1 then us.toArray[0] else .tuple us.toArray) w':=by
       rw[yP,ZR,hrs];simp only[jc,Sem.run_map,h3,jC];rfl
      refine⟨hg.defers,_,h5,_,rfl,?_,hg.below⟩;unfold matchR at hrun;split at hrun
      ·rename_i p x;obtain⟨v,ws,rfl,h6,h7⟩:=h4;rw[show ws=[] from h7];exact ZZ hk hrun h6
      ·rw[show us=[] from h4];exact⟨[],Kl hk hrun rfl,rfl⟩
      ·rename_i ps x y l;have hl:us.toArray.size≠1:=by
        obtain⟨v,ws,rfl,_,v',ws',rfl,_⟩:=h4;simp
       rw[dif_neg hl];exact⟨us,Kl hk hrun (zc h4),rfl⟩
      ·cases hrun
     cases xt with
     |normal=>exact this
     |ret=>exact this
     |exit id=>cases hx
    ·cases hrun
   ·cases hrun
  ·cases hrun
 ·cases hrun
end
end Sym
namespace Sym
inductive Item where
 |val (t:Nat) (p:Pat)
 |box (t ty:Nat) (gs:List Grp)
 /-- It kF a slice that is the whole of a box of the call's own. (At the end of a piece only.) -/
 |own (t ty n:Nat) (gs:List Grp)
section
variable {C:Ctx}{T:List Ent}{Q:Exit->Act->World->Prop}{a:Act}{w:World}
def ku (C:Ctx) (a:Act) (w:World):List Item->List Nat->Prop
 |[],_=>True
 |.val t p::l,bs=>(∃ v,a.tmps[t]?=some v/\p.is C w v)/\ku C a w l bs
 |.box t ty gs::l,bs=>∃ k vs,a.tmps[t]?=some (.pointer (some ⟨k,0,none⟩))/\(C.w0.heap.size<=k/\k ∉ C.L)/\k ∉ bs/\w.heap[k]?=some (.cells vs.toArray ty (0,0))/\cO C w gs vs/\ku C a w l (k::bs)
 |.own t ty n gs::l,bs=>(∃ k vs,a.tmps[t]?=some (.slice (some ⟨k,0,none⟩) n n)/\(C.w0.heap.size<=k/\k ∉ C.L)/\w.heap[k]?=some (.cells vs.toArray ty (0,0))/\cO C w gs vs)/\ku C a w l bs
structure At (C:Ctx) (l:List Item) (a:Act) (w:World):Prop where
 below:Below C.w0.heap.size C.w0 w
 defers:a.defers=[]
 size:a.tmps.size=C.nt
 items:ku C a w l []
 lim:∀ k∈C.L,C.w0.heap.size<=k/\k<w.heap.size
def Ye:List Item->Nat->Option Ws
 |[],_=>some []
 |.val t p::l,j=>match mkP (j*8) p with
  |some (x,lv,s')=>match Nat.ble s' (j*8+8) with
   |true=>match Ye l (j+1) with
    |some ws=>some ((.slot t,.av (.val x))::lv++ws)
    |none=>none
   |false=>none
  |none=>none
 |.box t ty gs::l,j=>match uV (j*8) gs with
  |(cs,lv,s')=>match Nat.ble s' (j*8+8) with
   |true=>match Ye l (j+1) with
    |some ws=>some ((.slot t,.av (.val (.one (.ptr j 0))))::(.box j,.box ty cs.length)::Kz j 0 cs++lv++ws)
    |none=>none
   |false=>none
 |.own _ _ _ _::_,_=>none
def Ki (V:uW):List Item->List Nat->Bool
 |[],_=>true
 |.val t p::l,bs=>match cG V (.tmp t) with
  |some x=>match cdl V p x with
   |true=>Ki V l bs
   |false=>false
  |none=>false
 |.box t ty gs::l,bs=>match ptr? (cG V (.tmp t)) with
  |some (b,0)=>match caO b bs with
   |true=>false
   |false=>match V (.box b) with
    |some (.box ty' n)=>match Nat.beq ty' ty with
     |true=>match CP V b 0 n with
      |some cs=>match GG V gs cs with
       |true=>Ki V l (b::bs)
       |false=>false
      |none=>false
     |false=>false
    |_=>false
  |_=>false
 |.own t ty n gs::l,bs=>match cG V (.tmp t) with
  |some (.val (.one (.slc b 0 n1 n2)))=>match Nat.beq n1 n,Nat.beq n2 n with
   |true,true=>match V (.box b) with
    |some (.box ty' m)=>match Nat.beq ty' ty with
     |true=>match CP V b 0 m with
      |some cs=>match GG V gs cs with
       |true=>Ki V l bs
       |false=>false
      |none=>false
     |false=>false
    |_=>false
   |_,_=>false
  |_=>false
theorem cct {e:Env}{V:uW}(hV:ub C e a w V) {t:Nat}{x:AV}(h:cG V (.tmp t)=some x):∃ v,a.tmps[t]?=some v/\x.is e v:=by
 unfold cG at h;simp only at h;split at h
 ·rename_i y hy;injection h with h;subst h
  exact hV _ _ hy
 ·cases h
theorem caP {n:Nat}:∀ {l:List Nat},caO n l=false->n ∉ l
 |[],_=>by simp
 |m::l,h=>by
  unfold caO at h;split at h
  ·cases h
  ·rename_i hm;have:=caP h;simp only[uQ,not_or];refine⟨fun e=>?_,this⟩;subst e;simp at hm
theorem YQ {e:Env}{V:uW}(hV:ub C e a w V) (hg:jr C e a w):∀ {l:List Item}{bs ks:List Nat},Ki V l bs=true->(∀ k∈ks,∃ b∈bs,e.ρ b=some k)->ku C a w l ks
 |[],_,_,_,_=>trivial
 |.val t p::l,bs,ks,h,hk=>by
  unfold Ki at h;split at h
  ·rename_i x hx;split at h
   ·rename_i hm;obtain⟨v,h1,h2⟩:=cct hV hx;exact⟨⟨v,h1,ZZ hV hm h2⟩,YQ hV hg h hk⟩
   ·cases h
  ·cases h
 |.box t ty gs::l,bs,ks,h,hk=>by
  unfold Ki at h;split at h
  ·rename_i b hb;split at h
   ·cases h
   ·rename_i hnb;split at h
    ·rename_i ty' n hbox;split at h
     ·rename_i hty;split at h
      ·rename_i cs hcs;split at h
       ·rename_i hm;have hb':cG V (.tmp t)=some (.val (.one (.ptr b 0))):=by
         unfold ptr? at hb;split at hb
         ·rename_i hx;injection hb with hb;simp only[cr] at hb
          rw[hx,hb.1,hb.2]
         ·cases hb
        obtain⟨v,h1,k,hρ,rfl⟩:=cct hV hb';obtain⟨k',arr,q1,q2,q3⟩:=hV _ _ hbox;rw[hρ] at q1;injection q1 with q1;subst q1
        obtain⟨h4,vs,h5,h6⟩:=Ch hV hρ _ _ _ hcs;have hvs:arr=vs.toArray:=by
         apply Array.ext
         ·simp [q3,h5.length,h4]
         ·intro i h7 h8;have h9:i<vs.length:=by simpa using h8
          have:=h6 i vs[i] (kb h9);simp only[je,World.cell?,q2] at this;simp [h7] at this;simpa using this
        refine⟨k,vs,h1,(hg.own b k hρ).1,?_,by rw[q2,hvs,ct hty],Ez hV hm h5,YQ hV hg h ?_⟩
        ·intro hmem;obtain⟨b',hb',hρ'⟩:=hk k hmem;have:=hg.inj b b' k hρ hρ';subst this;exact caP hnb hb'
        ·intro k' hk';rcases List.mem_cons.1 hk' with rfl|hk'
         ·exact⟨b,by simp,hρ⟩
         ·obtain⟨b',hb',hρ'⟩:=hk k' hk';exact⟨b',uL _ hb',hρ'⟩
       ·cases h
      ·cases h
     ·cases h
    ·cases h
  ·cases h
 |.own t ty n gs::l,bs,ks,h,hk=>by
  unfold Ki at h;split at h
  ·rename_i b n1 n2 hx;split at h
   ·rename_i e1 e2;split at h
    ·rename_i ty' m hbox;split at h
     ·rename_i hty;split at h
      ·rename_i cs hcs;split at h
       ·rename_i hm;obtain⟨v,h1,k,hρ,rfl⟩:=cct hV hx;obtain⟨k',arr,q1,q2,q3⟩:=hV _ _ hbox;rw[hρ] at q1;injection q1 with q1;subst q1
        obtain⟨h4,vs,h5,h6⟩:=Ch hV hρ _ _ _ hcs;have hvs:arr=vs.toArray:=by
         apply Array.ext
         ·simp [q3,h5.length,h4]
         ·intro i h7 h8;have h9:i<vs.length:=by simpa using h8
          have:=h6 i vs[i] (kb h9);simp only[je,World.cell?,q2] at this;simp [h7] at this;simpa using this
        rw[ct e1,ct e2] at h1;exact⟨⟨k,vs,h1,(hg.own b k hρ).1,by rw[q2,hvs,ct hty],Ez hV hm h5⟩,YQ hV hg h hk⟩
       ·cases h
      ·cases h
     ·cases h
    ·cases h
   ·cases h
  ·cases h
theorem cdp:∀ {l:List Item}{j:Nat}{ws:Ws}{e:Env}{ks:List Nat},Ye l j=some ws->ku C a w l ks->(∀ b k,e.ρ b=some k->b<j/\k∈ks)->(∀ s f,e.ν s=some f->s/8<j)->
 (∀ b b' k,e.ρ b=some k->e.ρ b'=some k->b=b')->(∀ b k,e.ρ b=some k->(C.w0.heap.size<=k/\k ∉ C.L)/\k<w.heap.size)->
 ∃ e',Ext e e'/\(∀ k v,(k,v)∈ws->kF C e' a w k v)/\(∀ b k,e'.ρ b=some k->b<j+l.length)/\(∀ s f,e'.ν s=some f->s/8<j+l.length)/\
  (∀ b b' k,e'.ρ b=some k->e'.ρ b'=some k->b=b')/\(∀ b k,e'.ρ b=some k->(C.w0.heap.size<=k/\k ∉ C.L)/\k<w.heap.size)
 |[],j,ws,e,ks,h,_,hρ,hν,hi,ho=>by
  simp [Ye] at h;subst h;exact⟨e,Ext.refl e,fun k v h=>by simp at h,fun b k h=>(hρ b k h).1,hν,hi,ho⟩
 |.val t p::l,j,ws,e,ks,h,⟨⟨v,h1,h2⟩,h3⟩,hρ,hν,hi,ho=>by
  unfold Ye at h;split at h
  ·rename_i x lv s' hm;split at h
   ·rename_i hs;split at h
    ·rename_i ws1 hws;injection h with h;subst h
     have hs:=jo hs;obtain⟨e1,g,hx⟩:=cah (e:=e) hm hs (fun x hx hxB=>by
      cases hc:e.ν x with
      |none=>rfl
      |some f=>have:=hν x f hc;omega) h2
     obtain⟨e',q1,q2,q3,q4,q5,q6⟩:=cdp (e:=e1) hws h3 (fun b k hb=>by rw[g.ρ] at hb;have:=hρ b k hb;exact⟨by omega,this.2⟩) (fun s f hs'=>by
      rcases g.ν s f hs' with h|h
      ·have:=hν s f h;omega
      ·omega) (by rw[g.ρ];exact hi) (by rw[g.ρ];exact ho)
     refine⟨e',g.ext.trans q1,?_,fun b k hb=>by have:=q3 b k hb;simp only[uP];omega,fun s f hs=>by have:=q4 s f hs;simp only[uP];omega,q5,q6⟩;intro k y hk;simp only[JB,uQ,cr,List.mem_append] at hk;rcases hk with⟨rfl,rfl⟩|hk|hk
     ·exact⟨v,h1,hx.ext q1⟩
     ·obtain⟨x,c,rfl,rfl,f,h4,h5⟩:=g.live k y hk;exact⟨f,q1.ν _ _ h4,h5⟩
     ·exact q2 k y hk
    ·cases h
   ·cases h
  ·cases h
 |.box t ty gs::l,j,ws,e,ks,h,⟨k0,vs,h1,h2,h3,h4,h5,h6⟩,hρ,hν,hi,ho=>by
  unfold Ye at h;generalize hm:uV (j*8) gs=r at h;obtain⟨cs,lv,s'⟩:=r;simp only at h;split at h
  ·rename_i hs;split at h
   ·rename_i ws1 hws;injection h with h;subst h
    have hs:=jo hs;obtain⟨e1,g,hx⟩:=En (e:=e) hm hs (fun x hx hxB=>by
     cases hc:e.ν x with
     |none=>rfl
     |some f=>have:=hν x f hc;omega) h5
    let e2:Env:={ e1 with ρ:=fun b=>if b=j then some k0 else e1.ρ b }
    have hj:e2.ρ j=some k0:=by simp [e2]
    have hold:∀ b k,e2.ρ b=some k->(e.ρ b=some k/\b<j)\/(b=j/\k=k0):=by
     intro b k hb;by_cases hbj:b=j
     ·right;refine⟨hbj,?_⟩;rw[hbj,hj] at hb;injection hb with hb
      exact hb.symm
     ·left;have:(if b=j then some k0 else e1.ρ b)=some k:=hb;rw[cg hbj,g.ρ] at this;exact⟨this,(hρ b k this).1⟩
    have hx2:Ext e1 e2:=⟨fun b k hb=>by
     show (if b=j then some k0 else e1.ρ b)=some k;rw[cg (fun e0=>by rw[e0,g.ρ] at hb;have:=(hρ j k hb).1;omega),hb],fun _ _ h=>h⟩
    have hk0:k0<w.heap.size:=(Array.getElem?_eq_some_iff.1 h4).1;obtain⟨e',q1,q2,q3,q4,q5,q6⟩:=cdp (e:=e2) hws h6 (fun b k hb=>by
     rcases hold b k hb with⟨h,hlt⟩|⟨rfl,rfl⟩
     ·exact⟨by omega,uL _ (hρ b k h).2⟩
     ·exact⟨by omega,by simp⟩) (fun s f hs'=>by
     rcases g.ν s f hs' with h|h
     ·have:=hν s f h;omega
     ·omega) (fun b b' k hb hb'=>by
     rcases hold b k hb with⟨h,hlt⟩|⟨h7,h8⟩<;>rcases hold b' k hb' with⟨h',hlt'⟩|⟨h9,h10⟩
     ·exact hi b b' k h h'
     ·exact absurd (h10▸(hρ b k h).2) h3
     ·exact absurd (h8▸(hρ b' k h').2) h3
     ·rw[h7,h9]) (fun b k hb=>by
     rcases hold b k hb with⟨h,hlt⟩|⟨h7,h8⟩
     ·exact ho b k h
     ·rw[h8];exact⟨h2,hk0⟩)
    refine⟨e',(g.ext.trans hx2).trans q1,?_,fun b k hb=>by have:=q3 b k hb;simp only[uP];omega,fun s f hs=>by have:=q4 s f hs;simp only[uP];omega,q5,q6⟩;have hj':e'.ρ j=some k0:=q1.ρ _ _ hj;intro k y hk;simp only[JB,uM,uQ,cr,List.mem_append] at hk;rcases hk with⟨rfl,rfl⟩|⟨rfl,rfl⟩|hk|hk|hk
    ·exact⟨_,h1,k0,hj',rfl⟩
    ·exact⟨k0,vs.toArray,hj',h4,by simp [hx.length]⟩
    ·obtain⟨i,c,h7,rfl,rfl⟩:=KO hk;obtain⟨v,h8,h9⟩:=hx.atA h7;exact⟨k0,_,_,v,hj',h4,by simpa using h8,(h9.ext hx2).ext q1⟩
    ·obtain⟨x,c,rfl,rfl,f,h4,h5⟩:=g.live k y hk;exact⟨f,q1.ν _ _ (hx2.ν _ _ h4),h5⟩
    ·exact q2 k y hk
   ·cases h
  ·cases h
 |.own _ _ _ _::_,_,_,_,_,h,_,_,_,_,_=>by simp [Ye] at h
def cdG (S:Stat) (T:List Ent) (n:Nat) (c:Code) (pre:List Item) (x:Xt) (post:List Item):Bool :=
 match Ye pre 0 with
 |some ws=>match Cg S T n c ⟨pre.length,ws⟩ with
  |some (y,st')=>match x,y with
   |.normal,.normal=>Ki (fun k=>find k st'.m) post []
   |.ret,.ret=>Ki (fun k=>find k st'.m) post []
   |.exit i,.exit j=>match Nat.beq i j with
    |true=>Ki (fun k=>find k st'.m) post []
    |false=>false
   |_,_=>false
  |none=>false
 |none=>false
theorem At.sat {pre:List Item}{ws:Ws}(h:Ye pre 0=some ws) (hA:At C pre a w):Sat C ⟨pre.length,ws⟩ a w:=by
 obtain⟨e,_,h1,h2,h3,h4,h5⟩:=cdp (C:=C) (a:=a) (w:=w) (e:=⟨fun _=>none,fun _=>none⟩) (ks:=[]) h hA.items (fun _ _ h=>by cases h) (fun _ _ h=>by cases h) (fun _ _ _ h=>by cases h) (fun _ _ h=>by cases h);refine⟨e,fun k v hk=>h1 k v (uY hk),⟨hA.below,hA.defers,hA.size,h4,h5,hA.lim⟩,fun b k hb=>?_,fun s f hs=>?_⟩
 ·have:=h2 b k hb;simpa using this
 ·have:=h3 s f hs;simpa using this
theorem Sat.meet {st:St}{post:List Item}(hs:Sat C st a w) (h:Ki (fun k=>find k st.m) post []=true):At C post a w:=by
 obtain⟨e,hk,hg,_,_⟩:=hs;exact⟨hg.below,hg.defers,hg.size,YQ hk hg h (fun k hk=>by simp at hk),hg.lim⟩
theorem kf (hC:C.Ok) (hT:∀ t∈T,t.Valid C) {n:Nat}{c:Code}{pre post:List Item}{x:Xt}(h:cdG C.toStat T n c pre x post=true) (hA:At C pre a w) (hQ:∀ a' w',At C post a' w'->Q x.to a' w'):c.wp C.P Q a w:=by
 unfold cdG at h;split at h
 ·rename_i ws hws;split at h
  ·rename_i y st' he;have key:∀ z:Xt,y=z->Ki (fun k=>find k st'.m) post []=true->(∀ a' w',At C post a' w'->Q z.to a' w')->c.wp C.P Q a w:=by
    intro z hz hm hQ;subst hz;refine UR (kC hC hT n c _ _ _ he a w (hA.sat hws)) ?_;rintro e a' w' ⟨rfl,hs⟩;exact hQ a' w' (hs.meet hm)
   split at h
   ·exact key .normal rfl h hQ
   ·exact key .ret rfl h hQ
   ·rename_i i j;split at h
    ·rename_i hij;have hij:=ct hij;subst hij;exact key (.exit i) rfl h hQ
    ·cases h
   ·cases h
  ·cases h
 ·cases h
theorem Ct {P:Program}{c:Code}{Θ:Type}(I:Θ->Act->World->Prop) (μ:Θ->Nat)
 (round:∀ θ a w,I θ a w->c.wp P (Exit.then (fun a' w'=>∃ θ',I θ' a' w'/\μ θ'<μ θ) Q) a w) (θ:Θ) (h0:I θ a w):(Code.loop c).wp P Q a w:=by
 intro b k cs;have key:∀ n θ a w,μ θ=n->I θ a w->
  ∃ e a' w',Q e a' w'/\Arrives P (lone (b.at a (.code c::.inLoop c::k)) cs w) b k cs e a' w':=by
  intro n
  induction n using Nat.strongRecOn with
  |_ n ih =>
   intro θ a w hn hI;obtain⟨e,a₁,w₁,hq,harr⟩:=round θ a w hI b (.inLoop c::k) cs;cases e with
   |normal =>
    obtain⟨θ',hI₁,hlt⟩:=hq;obtain⟨e₂,a₂,w₂,hq₂,harr₂⟩:=ih (μ θ') (hn▸hlt) θ' a₁ w₁ rfl hI₁;exact⟨e₂,a₂,w₂,hq₂,.of_steps (Steps.trans harr (.one step_inLoop)) harr₂⟩
   |exit id=>exact⟨_,a₁,w₁,hq,.pass (x:=.inLoop c) rfl (fun _ _=>.inl (by simp)) harr⟩
   |goto l=>exact⟨_,a₁,w₁,hq,.pass (x:=.inLoop c) rfl (fun _ _=>.inl (by simp)) harr⟩
   |ret=>exact⟨_,a₁,w₁,hq,.pass (x:=.inLoop c) rfl (fun _ _=>.inl (by simp)) harr⟩
   |panic ch=>exact⟨_,a₁,w₁,hq,.pass (x:=.inLoop c) rfl (fun _ _=>.inl (by simp)) harr⟩
   |outgrown=>exact⟨_,a₁,w₁,hq,.pass (x:=.inLoop c) rfl (fun _ _=>.inl (by simp)) harr⟩
 obtain⟨e,a',w',hq,harr⟩:=key _ θ a w rfl h0;exact⟨e,a',w',hq,.of_steps (.one step_loop) harr⟩
end
def jQ:Code->Code
 |.seq a _=>a
 |c=>c
def cE:Code->Code
 |.seq _ b=>b
 |c=>c
def kq:Code->Code
 |.block _ c=>c
 |.loop c=>c
 |.scope c=>c
 |c=>c
def Grp.re (r:Nat->Nat):Grp->Grp
 |.lit v=>.lit v
 |.cls c n=>.cls (r c) n
def Pat.re (r:Nat->Nat):Pat->Pat
 |.one g=>.one (g.re r)
 |.agg gs=>.agg (gs.map (Grp.re r))
 |.slc t n gs=>.slc t n (gs.map (Grp.re r))
def Item.re (r:Nat->Nat):Item->Item
 |.val t p=>.val t (p.re r)
 |.box t ty gs=>.box t ty (gs.map (Grp.re r))
 |.own t ty n gs=>.own t ty n (gs.map (Grp.re r))
section
variable {C C':Ctx}{r:Nat->Nat}{w:World}
theorem Grp.re_is (h:∀ c f,C.E (r c) w f->C'.E c w f) {g:Grp}{vs:List Value}(hg:(g.re r).is C w vs):g.is C' w vs:=by
 cases g with
 |lit v=>exact hg
 |cls c n=>obtain⟨f,h1,h2⟩:=hg;exact⟨f,h c f h1,h2⟩
theorem Grps.re_are (h:∀ c f,C.E (r c) w f->C'.E c w f):∀ {gs:List Grp}{vs:List Value},cO C w (gs.map (Grp.re r)) vs->cO C' w gs vs
 |[],_,hg=>hg
 |g::gs,_,⟨xs,ys,h1,h2,h3⟩=>⟨xs,ys,h1,g.re_is h h2,Grps.re_are h h3⟩
theorem Pat.re_is (h:∀ c f,C.E (r c) w f->C'.E c w f) {p:Pat}{v:Value}(hp:(p.re r).is C w v):p.is C' w v:=by
 cases p with
 |one g=>exact Grp.re_is h hp
 |agg gs=>obtain⟨vs,h1,h2⟩:=hp;exact⟨vs,Grps.re_are h h1,h2⟩
 |slc t n gs=>obtain⟨k,vs,h1,h2,h3⟩:=hp;exact⟨k,vs,h1,h2,Grps.re_are h h3⟩
theorem Items.re_are (h:∀ c f,C.E (r c) w f->C'.E c w f) (h0:C'.w0=C.w0) (hL:∀ k∈C'.L,k∈C.L) {a:Act}:∀ {l:List Item}{bs:List Nat},ku C a w (l.map (Item.re r)) bs->ku C' a w l bs
 |[],_,_=>trivial
 |.val t p::l,bs,⟨⟨v,h1,h2⟩,h3⟩=>⟨⟨v,h1,Pat.re_is h h2⟩,Items.re_are h h0 hL h3⟩
 |.box t ty gs::l,bs,⟨k,vs,h1,h2,h3,h4,h5,h6⟩=>⟨k,vs,h1,⟨by rw[h0];exact h2.1,fun hm=>h2.2 (hL _ hm)⟩,h3,h4,Grps.re_are h h5,Items.re_are h h0 hL h6⟩
 |.own t ty n gs::l,bs,⟨⟨k,vs,h1,h2,h4,h5⟩,h6⟩=>⟨⟨k,vs,h1,⟨by rw[h0];exact h2.1,fun hm=>h2.2 (hL _ hm)⟩,h4,Grps.re_are h h5⟩,Items.re_are h h0 hL h6⟩
theorem At.re (h:∀ c f,C.E (r c) w f->C'.E c w f) (h0:C'.w0=C.w0) (hL:∀ k∈C'.L,k∈C.L) (hn:C'.nt=C.nt) {a:Act}{l l':List Item}(hl:l'=l.map (Item.re r)) (hA:At C l' a w):At C' l a w:=by
 subst hl;exact⟨by rw[h0];exact hA.below,hA.defers,hA.size.trans hn.symm,Items.re_are h h0 hL hA.items,fun k hk=>by rw[h0];exact hA.lim k (hL k hk)⟩
end
end Sym
namespace Sym
structure Gw where
 /-- A list that grows: its block; the cells in use; the cells of an element; what the next one is. -/
 R:Nat
 m:Nat
 n:Nat
 t:Nat
 e:World->List Value->Prop
def sepT (t:Nat):Prop:=t≠31/\t≠3/\t≠9
def Grew (g:Gw) (w w':World):Prop:=∃ cs vs,w.heap[g.R]?=some (.cells cs g.t (0,0))/\sepT g.t/\(∀ x,cs[0]?=some x->noSl x=true)/\vs.length=g.n/\g.m+g.n<=cs.size/\(∀ x,vs[0]?=some x->noSl x=true)/\
 w'.heap[g.R]?=some (.cells (cs.toList.take g.m++vs++cs.toList.drop (g.m+g.n)).toArray g.t (0,0))/\g.e w' vs/\jJ g.R w w'
structure Cl where
 L:List Gw
 n:Nat
 num:Bool
 p:World->(Nat->Value)->Prop
structure Cl.Ok (okT:List Nat) (B:Nat) (x:Cl):Prop where
 below:∀ w w' f,Below w.heap.size w w'->x.p w f->x.p w' f
 only:∀ w w' R f cs t,B<=R->R ∉ x.L.map (·.R)->w.heap[R]?=some (.cells cs t (0,0))->t∈okT->(∀ x,cs[0]?=some x->noSl x=true)->cgE Tryz.prog t cs.size=true->jJ R w w'->x.p w f->x.p w' f
 num:∀ w f,x.num=true->x.p w f->noSl (f 0)=true
 cell:∀ w f j,x.p w f->j<x.n->(f j).oneCell'=true
noncomputable def mkC (csz:List Nat) (numc:List Bool) (okT:List Nat) (nt:Nat) (cl:List Cl) (w0:World):Ctx :=
 { P:=Tryz.prog,csz,numc,okT,nt,E:=fun c w f=>match cl[c]? with|some x=>x.p w f|none=>False,w0,L:=(cl.flatMap (·.L)).map (·.R),G:=fun w w'=>∃ g∈cl.flatMap (·.L),Grew g w w' }
theorem noL {csz:List Nat}{numc:List Bool}{okT:List Nat}{nt:Nat}{cl:List Cl}{w0:World}{P:Prop}(hL:cl.flatMap (·.L)=[]) {k:Nat}(hk:k∈(mkC csz numc okT nt cl w0).L):P:=by
 have hk:k∈(cl.flatMap (·.L)).map (·.R):=hk;rw[hL] at hk;simp at hk
def Cl.Grows (l:List Gw) (x:Cl):Prop:=∀ g∈l,∀ w w' f,Grew g w w'->x.p w f->x.p w' f
theorem uw {csz:List Nat}{numc:List Bool}{okT:List Nat}{nt:Nat}{cl:List Cl}{w0:World}(h:∀ x∈cl,x.Ok okT w0.heap.size) (h1:cl.map (·.n)=csz) (h2:cl.map (·.num)=numc) (hg:cl.flatMap (·.L)=[]\/∀ x∈cl,x.Grows (cl.flatMap (·.L)):=by exact .inl rfl):(mkC csz numc okT nt cl w0).Ok:=by
 refine⟨?_,?_,?_,?_,by kernel_rfl,?_,?_⟩
 ·intro c w w' f hb hE;simp only[mkC] at hE ⊢;split at hE
  ·rename_i x hx;exact(h x (Wn hx)).below w w' f hb hE
  ·exact hE
 ·intro c w w' R f cs t hB hL ho ht hz hf hb hE;simp only[mkC] at hE ⊢;split at hE
  ·rename_i x hx;exact(h x (Wn hx)).only w w' R f cs t hB (fun hm=>hL (by
    obtain⟨g,hg,e⟩:=List.mem_map.1 hm;exact List.mem_map.2 ⟨g,List.mem_flatMap.2 ⟨x,Wn hx,hg⟩,e⟩)) ho ht hz hf hb hE
  ·exact hE
 ·intro c w f hn hE;simp only[mkC] at hE hn;split at hE
  ·rename_i x hx;refine(h x (Wn hx)).num w f ?_ hE;rw[← h2] at hn;simpa [List.getD,hx] using hn
  ·exact hE.elim
 ·intro c w f j hE hj;simp only[mkC] at hE hj;split at hE
  ·rename_i x hx;refine(h x (Wn hx)).cell w f j hE ?_;rw[← h1] at hj;simpa [List.getD,hx] using hj
  ·exact hE.elim
 ·rintro c w w' f ⟨g,hg1,hg2⟩ hE;rcases hg with hg|hg
  ·rw[hg] at hg1;simp at hg1
  ·simp only[mkC] at hE ⊢;split at hE
   ·rename_i x hx;exact hg x (Wn hx) g hg1 w w' f hg2 hE
   ·exact hE
 ·rintro w w' ⟨g,hg1,_,_,_,_,_,_,_,_,_,_,ho⟩;exact⟨ho.os,ho.tape,ho.output,ho.size,fun k hk=>ho.block k (fun e=>hk (List.mem_map.2 ⟨g,hg1,e.symm⟩))⟩
def clV (v:Value):Cl:=⟨[],1,noSl v,fun _ f=>f 0=v⟩
theorem cam {okT:List Nat}{B:Nat}{v:Value}(hv:v.oneCell'=true):(clV v).Ok okT B:=by
 refine⟨fun w w' f hb h=>h,fun w w' R f cs t _ _ ho hm hz _ hb h=>h,?_,?_⟩
 ·intro w f h1 h;rw[show f 0=v from h];exact h1
 ·intro w f j h hj;have hj:j<1:=hj;obtain rfl:j=0:=by omega
  rw[show f 0=v from h];exact hv
def vp (v:Value):Pat:=.one (.lit v)
def op (c:Nat):Pat:=.one (.cls c 1)
section
variable {csz:List Nat}{numc:List Bool}{okT:List Nat}{nt:Nat}{cl:List Cl}{w0:World}{w:World}{v:Value}{c d c1 c2 c3 c4 c5 c6:Nat}
theorem yB {x:Value}(h:cl[c]?=some (clV x)):(op c).is (mkC csz numc okT nt cl w0) w v↔v=x:=by
 constructor
 ·rintro⟨f,hE,hv⟩;simp only[mkC,h] at hE;have:v=f 0:=by simpa [yW] using hv
  rw[this];exact hE
 ·rintro rfl;refine⟨fun _=>v,?_,rfl⟩;simp only[mkC,h];rfl
theorem Gk {C:Ctx}{x:Value}:(vp x).is C w v↔v=x:=by
 constructor
 ·intro h;have h:[v]=[x]:=h;simpa using h
 ·rintro rfl;exact rfl
theorem vp_r (C:Ctx) (w:World) (x:Value):jH.is C w (.val (vp x)) x:=rfl
abbrev V (csz:List Nat) (numc:List Bool) (okT:List Nat) (nt:Nat) (cl:List Cl) (w0:World) (hd:Hd) (args:List Pat) (res:jH):Prop:=Ent.Valid (mkC csz numc okT nt cl w0) ⟨hd,args,res⟩
theorem cj {P:Ent->Prop}:∀ t∈([]:List Ent),P t:=fun t h=>by simp at h
theorem ce {P:Ent->Prop}{a:Ent}{l:List Ent}(h:P a) (k:∀ t∈l,P t):∀ t∈a::l,P t:=fun t ht=>by
 rcases List.mem_cons.1 ht with rfl|ht
 ·exact h
 ·exact k t ht
theorem kr {okT:List Nat}{B:Nat}:∀ x∈([]:List Cl),x.Ok okT B:=fun t h=>by simp at h
theorem cn {okT:List Nat}{B:Nat}{a:Cl}{l:List Cl}(h:a.Ok okT B) (k:∀ t∈l,t.Ok okT B):∀ t∈a::l,t.Ok okT B:=fun t ht=>by
 rcases List.mem_cons.1 ht with rfl|ht
 ·exact h
 ·exact k t ht
def EB (fn:Func):Code:=match fn.body with|some c=>c|none=>.skip
theorem cfZ {C:Ctx}{w:World}{x v:Value}(h:jH.is C w (.val (vp x)) v):v=x:=by
 have h:[v]=[x]:=h;simpa using h
theorem kM {T:List Ent}(hC:(mkC csz numc okT nt cl w0).Ok) (hT:∀ t∈T,t.Valid (mkC csz numc okT nt cl w0)) (f:FuncId) (fn:Func) (args:List Pat) (res:jH) (n:Nat) (hf:Tryz.prog.funcs[f]?=some fn) (hb:fn.body=some (EB fn)) (hnt:fn.ntmps=nt)
 (hlen:Nat.ble args.length nt=true) (hrun:runB ⟨Tryz.prog,csz,numc,okT,nt⟩ T n (EB fn) fn.results.toList args res=true) (vs:List Value) (hvs:jb (mkC csz numc okT nt cl w0) w0 args vs) (hL:cl.flatMap (·.L)=[]:=by rfl) :
 Calls Tryz.prog f vs.toArray w0 (fun e w'=>∃ v,e=.returned v/\res.is (mkC csz numc okT nt cl w0) w' v/\Below w0.heap.size w0 w') :=
 cnh hC hT hf hb rfl hnt (by show (cl.flatMap (·.L)).map (·.R)=[];rw[hL];rfl) (jo hlen) hrun vs hvs
end
end Sym
theorem cu.other' {W W':World}{R:Nat}{cs:Array Value}{t:TypeId}{v:Value}{n:Nat}(hb:W.heap[R]?=some (.cells cs t (0,0))) (ht:t≠31) (h:cu W v n) (ho:jJ R W W'):cu W' v n:=by
 obtain⟨xs,⟨⟨ao,c,rfl,h1,h2,hr⟩,ok,typ⟩,htr,hv⟩:=h;refine⟨xs,⟨⟨ao,c,rfl,h1,h2,fun hn=>?_⟩,ok,typ.other hb ht ho⟩,htr,hv⟩;obtain⟨b,off,rfl,row⟩:=hr hn;refine⟨b,off,rfl,ho.row ?_ row⟩;intro e;obtain⟨cs',fr',hc⟩:=typ ⟨b,off,none⟩ _ _ rfl hn;rw[show (⟨b,off,none⟩:Addr).block=R from e,hb] at hc;injection hc with hc
 injection hc with _ hc
 exact ht hc
theorem IsQ.other' {W W':World}{R:Nat}{cs:Array Value}{t:TypeId}{v:Value}{r:Rat}(hb:W.heap[R]?=some (.cells cs t (0,0))) (ht:t≠31) (hz:∀ x,cs[0]?=some x->Sym.noSl x=true) (h:IsQ W v r) (ho:jJ R W W'):IsQ W' v r:=by
 have h:Num W v _ _ _:=h;show Num W' v _ _ _;cases h with
 |low l hv hd hn hdB=>exact .low l hv hd hn hdB
 |wide b x y hv hx hy h1 h2 hB h0 hd =>
  have hbR:b≠R:=by
   intro e;subst e;obtain⟨_,_,_,rfl,_⟩:=h1.form;rw[World.cell?,hb] at hx;have:=hz _ (by simpa using hx);simp [Sym.noSl] at this
  exact .wide b x y hv ((ho.cell (p:=⟨b,0,none⟩) hbR).trans hx) ((ho.cell (p:=⟨b,1,none⟩) hbR).trans hy) (h1.other' hb ht ho) (h2.other' hb ht ho) ⟨hB.1,hB.2.to (ho.block b hbR)⟩ h0 hd
namespace Sym
def clQ (r:Rat) (k:Nat):Cl:=⟨[],4,true,fun w f=>IsQ w (.agg #[f 0,f 1,f 2,f 3]) r/\Siz r k⟩
theorem clQ_ok {okT:List Nat}{B:Nat}(ht:∀ t∈okT,t≠31) (r:Rat) (k:Nat):(clQ r k).Ok okT B:=by
 refine⟨fun w w' f hb h=>⟨h.1.below hb (cb _),h.2⟩,fun w w' R f cs t _ _ ho hm hz _ hb h=>⟨h.1.other' ho (ht t hm) hz hb,h.2⟩,?_,?_⟩
 ·intro w f _ h;obtain⟨neg,a,b,p,hv⟩:=h.1.form;injection hv with hv
  have:f 0=.bool neg:=by have:=cQ (fun x=>x[0]?) hv;simpa using this
  rw[this];rfl
 ·intro w f j h hj;obtain⟨neg,a,b,p,hv⟩:=h.1.form;injection hv with hv
  have h0:f 0=.bool neg:=by have:=cQ (fun x=>x[0]?) hv;simpa using this
  have h1:f 1=u a:=by have:=cQ (fun x=>x[1]?) hv;simpa using this
  have h2:f 2=u b:=by have:=cQ (fun x=>x[2]?) hv;simpa using this
  have h3:f 3=.pointer p:=by have:=cQ (fun x=>x[3]?) hv;simpa using this
  have hj:j<4:=hj
  match j,hj with
  |0,_=>rw[h0];rfl
  |1,_=>rw[h1];rfl
  |2,_=>rw[h2];rfl
  |3,_=>rw[h3];rfl
def qp (c:Nat):Pat:=.agg [.cls c 4]
section
variable {csz:List Nat}{numc:List Bool}{okT:List Nat}{nt:Nat}{cl:List Cl}{w0:World}{w:World}{v:Value}{p1 p2 p3 p4:Pat}{c d c1 c2 c3 c4 c5 c6:Nat}{r s t r1 r2 r3 r4:Rat}{k k1 k2 k3 k4 k5 k6:Nat}
theorem qp_is (h:cl[c]?=some (clQ r k)):(qp c).is (mkC csz numc okT nt cl w0) w v↔IsQ w v r/\Siz r k:=by
 constructor
 ·rintro⟨vs,⟨xs,ys,rfl,⟨f,hE,rfl⟩,hy⟩,rfl⟩;rw[show ys=[] from hy];simp only[mkC,h] at hE;exact hE
 ·rintro⟨h1,h2⟩;obtain⟨neg,a,b,p,rfl⟩:=h1.form;refine⟨[.bool neg,u a,u b,.pointer p],⟨_,[],(ug _).symm,⟨fun j=>[Value.bool neg,u a,u b,.pointer p].getD j undef,?_,rfl⟩,rfl⟩,rfl⟩;simp only[mkC,h];exact⟨h1,h2⟩
def PQ (csz:List Nat) (numc:List Bool) (okT:List Nat) (nt:Nat) (cl:List Cl) (w0:World) (p:Pat) (r:Rat) (k:Nat):Prop:=∀ w v,p.is (mkC csz numc okT nt cl w0) w v->IsQ w v r/\Siz r k
theorem pq (h:cl[c]?=some (clQ r k)):PQ csz numc okT nt cl w0 (qp c) r k:=fun _ _ h1=>(qp_is h).1 h1
end
end Sym
namespace Sym
abbrev ii (n:Int):Value:=.int .i64 n
def Dg (w:World) (v:Value) (ds:List Nat):Prop:=∃ ao cap,v=.slice ao ds.length cap/\ds.length<=cap/\(cap:Int)<=9223372036854775807/\
 (0<ds.length->∃ b off,ao=some ⟨b,off,none⟩/\(∃ cs fr,w.heap[b]?=some (.cells cs 3 fr))/\∀ i,i<ds.length->w.cell? ⟨b,off+i,none⟩=some (ii ((ds.getD i 0:Nat):Int)))
theorem Dg.below {w w':World}{v:Value}{ds:List Nat}{B:Nat}(h:Dg w v ds) (hb:Below B w w') (hB:w.heap.size<=B):Dg w' v ds:=by
 obtain⟨ao,cap,hv,h1,h2,h3⟩:=h;refine⟨ao,cap,hv,h1,h2,fun hn=>?_⟩;obtain⟨b,off,ha,⟨cs,fr,hc⟩,hr⟩:=h3 hn;have hlt:b<B:=cI (Array.getElem?_eq_some_iff.1 hc).1 hB;exact⟨b,off,ha,⟨cs,fr,(hb.block b hlt).trans hc⟩,fun i hi=>(hb.cell (p:=⟨b,off+i,none⟩) hlt).trans (hr i hi)⟩
theorem Dg.only {w w':World}{v:Value}{ds:List Nat}{R:Nat}{cs:Array Value}{t:TypeId}(hR:w.heap[R]?=some (.cells cs t (0,0))) (ht:t≠3) (h:Dg w v ds) (ho:jJ R w w'):Dg w' v ds:=by
 obtain⟨ao,cap,hv,h1,h2,h3⟩:=h;refine⟨ao,cap,hv,h1,h2,fun hn=>?_⟩;obtain⟨b,off,ha,⟨cs',fr,hc⟩,hr⟩:=h3 hn;have hne:b≠R:=by
  rintro rfl;rw[hR] at hc;injection hc with hc
  injection hc with _ hc
  exact ht hc
 exact⟨b,off,ha,⟨cs',fr,(ho.block b hne).trans hc⟩,fun i hi=>(ho.cell (p:=⟨b,off+i,none⟩) hne).trans (hr i hi)⟩
theorem Dg.nil (w:World):Dg w (.slice none 0 0) []:=⟨none,0,rfl,cb _,by decide,fun h=>absurd h (by simp)⟩
theorem Dg.len {w:World}{v:Value}{ds:List Nat}(h:Dg w v ds):(ds.length:Int)<=9223372036854775807:=by
 obtain⟨ao,cap,hv,h1,h2,h3⟩:=h;omega
theorem Dg.take {w:World}{v:Value}{ds:List Nat}(h:Dg w v ds) {n:Nat}(hn:n<=ds.length):∃ ao cap,v=.slice ao ds.length cap/\ds.length<=cap/\Dg w (.slice ao n cap) (ds.take n):=by
 obtain⟨ao,cap,hv,h1,h2,h3⟩:=h;refine⟨ao,cap,hv,h1,ao,cap,by simp [uq hn],by simp;omega,h2,fun hp=>?_⟩;have hp:0<n:=by simp at hp;omega
 obtain⟨b,off,ha,hc,hr⟩:=h3 (by omega);refine⟨b,off,ha,hc,fun i hi=>?_⟩;have hi:i<n:=by simp at hi;omega
 rw[hr i (by omega)];simp [List.getD,yF,hi]
def clD (ds:List Nat):Cl:=⟨[],1,false,fun w f=>Dg w (f 0) ds⟩
def clP (d:Nat):Cl:=⟨[],1,true,fun w f=>∃ b off,f 0=.pointer (some ⟨b,off,none⟩)/\(∃ cs fr,w.heap[b]?=some (.cells cs 3 fr))/\w.cell? ⟨b,off,none⟩=some (ii (d:Int))⟩
theorem jK {okT:List Nat}{B:Nat}(ht:∀ t∈okT,t≠3) (ds:List Nat):(clD ds).Ok okT B:=by
 refine⟨fun w w' f hb h=>Dg.below h hb (cb _),fun w w' R f cs t _ _ ho hm _ _ hb h=>Dg.only ho (ht t hm) h hb,fun _ _ h _=>absurd h (by simp [clD]),?_⟩;rintro w f j ⟨ao,cap,hv,_⟩ hj;have hj:j<1:=hj;obtain rfl:j=0:=by omega
 rw[hv];rfl
def clF (B:Nat) (ds:List Nat):Cl:=⟨[],1,false,fun w f=>Dg w (f 0) ds/\∀ k,(f 0).ownBlock=some k->B<=k⟩
theorem ccX {okT:List Nat}{B0:Nat}(ht:∀ t∈okT,t≠3) (B:Nat) (ds:List Nat):(clF B ds).Ok okT B0:=by
 refine⟨fun w w' f hb h=>⟨Dg.below h.1 hb (cb _),h.2⟩,fun w w' R f cs t _ _ ho hm _ _ hb h=>⟨Dg.only ho (ht t hm) h.1 hb,h.2⟩,fun _ _ h _=>absurd h (by simp [clF]),?_⟩;rintro w f j ⟨⟨ao,cap,hv,_⟩,_⟩ hj;have hj:j<1:=hj;obtain rfl:j=0:=by omega
 rw[hv];rfl
theorem clP_ok {okT:List Nat}{B:Nat}(ht:∀ t∈okT,t≠3) (d:Nat):(clP d).Ok okT B:=by
 refine⟨?_,?_,?_,?_⟩
 ·rintro w w' f hb ⟨b,off,h1,⟨cs,fr,h2⟩,h3⟩;have hlt:=(Array.getElem?_eq_some_iff.1 h2).1;exact⟨b,off,h1,⟨cs,fr,(hb.block b hlt).trans h2⟩,(hb.cell (p:=⟨b,off,none⟩) hlt).trans h3⟩
 ·rintro w w' R f cs t _ _ ho hm _ _ hb ⟨b,off,h1,⟨cs',fr,h2⟩,h3⟩;have hne:b≠R:=by
   rintro rfl;rw[ho] at h2;injection h2 with h2
   injection h2 with _ h2
   exact ht t hm h2
  exact⟨b,off,h1,⟨cs',fr,(hb.block b hne).trans h2⟩,(hb.cell (p:=⟨b,off,none⟩) hne).trans h3⟩
 ·rintro w f _ ⟨b,off,h1,_⟩;rw[h1];rfl
 ·rintro w f j ⟨b,off,h1,_⟩ hj;have hj:j<1:=hj;obtain rfl:j=0:=by omega
  rw[h1];rfl
section
variable {csz:List Nat}{numc:List Bool}{okT:List Nat}{nt:Nat}{cl:List Cl}{w0:World}{w:World}{v z:Value}{p1 p2 p3:Pat}{res:jH}{c d c1 c2 c3 c4 c5 c6:Nat}{ds es:List Nat}{x y:Int}
def PV (csz:List Nat) (numc:List Bool) (okT:List Nat) (nt:Nat) (cl:List Cl) (w0:World) (p:Pat) (x:Value):Prop:=∀ w v,p.is (mkC csz numc okT nt cl w0) w v->v=x
def RV (csz:List Nat) (numc:List Bool) (okT:List Nat) (nt:Nat) (cl:List Cl) (w0:World) (r:jH) (x:Value):Prop:=∀ w,r.is (mkC csz numc okT nt cl w0) w x
def PD (csz:List Nat) (numc:List Bool) (okT:List Nat) (nt:Nat) (cl:List Cl) (w0:World) (p:Pat) (ds:List Nat):Prop:=∀ w v,Below w0.heap.size w0 w->p.is (mkC csz numc okT nt cl w0) w v->Dg w v ds
def RD (csz:List Nat) (numc:List Bool) (okT:List Nat) (nt:Nat) (cl:List Cl) (w0:World) (r:jH) (ds:List Nat):Prop:=∀ w v,Dg w v ds->r.is (mkC csz numc okT nt cl w0) w v
theorem pv (h:cl[c]?=some (clV v)):PV csz numc okT nt cl w0 (op c) v:=fun _ _ h1=>(yB h).1 h1
theorem pvl:PV csz numc okT nt cl w0 (vp v) v:=fun _ _ h1=>Gk.1 h1
theorem rv (h:cl[c]?=some (clV v)):RV csz numc okT nt cl w0 (.val (op c)) v:=fun _=>(yB h).2 rfl
theorem rvl:RV csz numc okT nt cl w0 (.val (vp v)) v:=fun _=>vp_r _ _ _
theorem Gi (h:cl[c]?=some (clD ds)):(op c).is (mkC csz numc okT nt cl w0) w v↔Dg w v ds:=by
 constructor
 ·rintro⟨f,hE,hv⟩;simp only[mkC,h] at hE;have:v=f 0:=by simpa [yW] using hv
  rw[this];exact hE
 ·intro hv;refine⟨fun _=>v,?_,rfl⟩;simp only[mkC,h];exact hv
theorem pd (h:cl[c]?=some (clD ds)):PD csz numc okT nt cl w0 (op c) ds:=fun _ _ _ h1=>(Gi h).1 h1
def PF (csz:List Nat) (numc:List Bool) (okT:List Nat) (nt:Nat) (cl:List Cl) (w0:World) (p:Pat) (B:Nat) (ds:List Nat):Prop:=∀ w v,Below w0.heap.size w0 w->p.is (mkC csz numc okT nt cl w0) w v->Dg w v ds/\∀ k,v.ownBlock=some k->B<=k
def RF (csz:List Nat) (numc:List Bool) (okT:List Nat) (nt:Nat) (cl:List Cl) (w0:World) (r:jH) (B:Nat) (ds:List Nat):Prop:=∀ w v,Dg w v ds->(∀ k,v.ownBlock=some k->B<=k)->r.is (mkC csz numc okT nt cl w0) w v
theorem Ko {B:Nat}(h:cl[c]?=some (clF B ds)):(op c).is (mkC csz numc okT nt cl w0) w v↔Dg w v ds/\∀ k,v.ownBlock=some k->B<=k:=by
 constructor
 ·rintro⟨f,hE,hv⟩;simp only[mkC,h] at hE;have:v=f 0:=by simpa [yW] using hv
  rw[this];exact hE
 ·intro hv;refine⟨fun _=>v,?_,rfl⟩;simp only[mkC,h];exact hv
theorem pf {B:Nat}(h:cl[c]?=some (clF B ds)):PF csz numc okT nt cl w0 (op c) B ds:=fun _ _ _ h1=>(Ko h).1 h1
theorem rf {B:Nat}(h:cl[c]?=some (clF B ds)):RF csz numc okT nt cl w0 (.val (op c)) B ds:=fun _ _ h1 h2=>(Ko h).2 ⟨h1,h2⟩
theorem PF.pd {B:Nat}{p:Pat}(h:PF csz numc okT nt cl w0 p B ds):PD csz numc okT nt cl w0 p ds:=fun w v hb hp=>(h w v hb hp).1
theorem rd (h:cl[c]?=some (clD ds)):RD csz numc okT nt cl w0 (.val (op c)) ds:=fun _ _ h1=>(Gi h).2 h1
theorem UQ {o:Oper}{op:BinOp}{t:Nat}{xs:List Operand}(h:uA o=some (.bin op t,xs)):∃ x y u,o.op=.binOp op t x y u/\xs=[x,y]:=by
 unfold uA at h;split at h<;>first
  |(rename_i h0;simp only[kJ,cr,Hd.bin.injEq,reduceCtorEq,GD] at h;try (obtain⟨⟨rfl,rfl⟩,rfl⟩:=h;exact⟨_,_,_,h0,rfl⟩))
  |(split at h<;>simp at h)
  |simp at h
theorem hd_ix {o:Oper}{t:Nat}{xs:List Operand}(h:uA o=some (.ix t,xs)):∃ x y,o.op=.indexAddr t x y/\xs=[x,y]:=by
 unfold uA at h;split at h<;>first
  |(rename_i h0;simp only[kJ,cr,Hd.ix.injEq,reduceCtorEq,GD] at h;try (obtain⟨rfl,rfl⟩:=h;exact⟨_,_,h0,rfl⟩))
  |(split at h<;>simp at h)
  |simp at h
theorem hd_ld {o:Oper}{t:Nat}{xs:List Operand}(h:uA o=some (.ld t,xs)):∃ x,o.op=.load t x/\xs=[x]:=by
 unfold uA at h;split at h<;>first
  |(rename_i h0;simp only[kJ,cr,Hd.ld.injEq,reduceCtorEq,GD] at h;try (obtain⟨rfl,rfl⟩:=h;exact⟨_,h0,rfl⟩))
  |(split at h<;>simp at h)
  |simp at h
theorem clf {o:Oper}{s d:Nat}{xs:List Operand}(h:uA o=some (.cv s d,xs)):∃ x,o.op=.convert s d x/\xs=[x]:=by
 unfold uA at h;split at h<;>first
  |(rename_i h0;simp only[kJ,cr,Hd.cv.injEq,reduceCtorEq,GD] at h;try (obtain⟨⟨rfl,rfl⟩,rfl⟩:=h;exact⟨_,h0,rfl⟩))
  |(split at h<;>simp at h)
  |simp at h
theorem clH {o:Oper}{t:Nat}{b1 b2 b3:Bool}{xs:List Operand}(h:uA o=some (.sl t b1 b2 b3,xs)):∃ x lo hi mx,o.op=.slice t x lo hi mx/\lo.isSome=b1/\hi.isSome=b2/\mx.isSome=b3/\xs=x::(lo.toList++hi.toList++mx.toList):=by
 unfold uA at h;split at h<;>first
  |(rename_i h0;simp only[kJ,cr,Hd.sl.injEq,reduceCtorEq,GD] at h;try (obtain⟨⟨rfl,rfl,rfl,rfl⟩,rfl⟩:=h;exact⟨_,_,_,_,h0,rfl,rfl,rfl,rfl⟩))
  |(split at h<;>simp at h)
  |simp at h
theorem cgv {o : Oper} {b : Builtin} {ats : List Nat} {t : Nat} {xs : List Operand} (h : uA o = some (.blt b ats t, xs)) : ∃ c, o.op = .call c ∧ c.callee = .builtin b ∧ c.argTypes = ats.toArray ∧ o.type = t ∧ xs = c.args.toList := by
  unfold uA at h
  split at h <;> first
    | (rename_i c h0
       split at h
       · rename_i b' h1
         simp only [kJ, cr, Hd.blt.injEq] at h
         obtain ⟨⟨rfl, rfl, rfl⟩, rfl⟩ := h
         exact ⟨_, h0, h1, by simp, rfl, rfl⟩
       · simp at h)
    | (split at h <;> simp at h)
    | simp at h
theorem Jt {o:BinOp}{t:Nat}{k:IntKind}(h1:PV csz numc okT nt cl w0 p1 (.int k x)) (h2:PV csz numc okT nt cl w0 p2 (.int k y)) (h3:RV csz numc okT nt cl w0 res z)
 (hr:∀ w,(Go.binOp o t (.int k x) (.int k y)).run Tryz.prog w=.ok z w):V csz numc okT nt cl w0 (.bin o t) [p1,p2] res:=by
 intro w ρ oo xs ho hb hvs;obtain⟨a,b,u,hop,rfl⟩:=UQ ho;obtain⟨v1,_,e1,h4,v2,_,e2,h5,e3⟩:=hvs;obtain rfl:=h1 _ _ h4;obtain rfl:=h2 _ _ h5;subst e2;simp only[jR,kW,yG] at e1;obtain⟨ea,eb,_⟩:=e1;refine⟨z,w,?_,h3 w,cw _ _⟩;have hg:(eqGuard o t a b (.int k x) (.int k y)).run Tryz.prog w=.ok () w:=by
  unfold eqGuard;cases o<;>rfl
 show (execOp ρ oo).run Tryz.prog w=_;simp only[execOp,hop,ea,eb,jc,hg,hr w,jC];rfl
theorem Kc (w:World):(sizeOf 3).run Tryz.prog w=.ok 1 w:=KR (by kernel_rfl) w
theorem clq (w:World):(isAgg 3).run Tryz.prog w=.ok false w:=KR (by kernel_rfl) w
theorem yY {t:Nat}(ht:Tryz.prog.underlying t=some (.slice (Tryz.prog.elem t))) (h1:PD csz numc okT nt cl w0 p1 ds) (h3:RV csz numc okT nt cl w0 res (ii (ds.length:Int))):V csz numc okT nt cl w0 (.blt .len [t] 3) [p1] res:=by
 intro w ρ oo xs ho hb hvs;obtain⟨c,hop,hc,hat,hty,rfl⟩:=cgv ho;obtain⟨v1,_,e1,h4,e2⟩:=hvs;subst e2;obtain⟨ao,cap,rfl,_⟩:=h1 _ _ hb h4;refine⟨_,w,?_,h3 w,cw _ _⟩;have he:c.args.map ρ=#[Value.slice ao ds.length cap]:=by
  apply CO;simpa using e1
 show (execOp ρ oo).run Tryz.prog w=_;simp only[execOp,hop,resolve,hc,he,jc,zk,jC,invoke,builtin,hat,hty];simp [jc,run_len_slice _ _ _ _ _ _ ht,Result.andThen,goInt]
theorem e_ix {t:Nat}{n:Nat}(ht:Tryz.prog.underlying t=some (.slice (Tryz.prog.elem t))) (he:Tryz.prog.elem t=3) (h1:PD csz numc okT nt cl w0 p1 ds) (h2:PV csz numc okT nt cl w0 p2 (ii (n:Int))) (hn:n<ds.length) (h3:cl[c]?=some (clP (ds.getD n 0))):V csz numc okT nt cl w0 (.ix t) [p1,p2] (.val (op c)):=by
 intro w ρ oo xs ho hb hvs;obtain⟨a,b,hop,rfl⟩:=hd_ix ho;obtain⟨v1,_,e1,h4,v2,_,e2,h5,e3⟩:=hvs;obtain rfl:=h2 _ _ h5;subst e2;simp only[jR,kW,yG] at e1;obtain⟨ea,eb,_⟩:=e1;obtain⟨ao,cap,rfl,h6,h7,h8⟩:=h1 _ _ hb h4;obtain⟨k,off,rfl,hcs,hr⟩:=h8 (by omega);refine⟨.pointer (some ⟨k,off+n,none⟩),w,?_,⟨fun _=>.pointer (some ⟨k,off+n,none⟩),?_,rfl⟩,cw _ _⟩
 ·show (execOp ρ oo).run Tryz.prog w=_;have hs:(sizeOf (Tryz.prog.elem t)).run Tryz.prog w=.ok 1 w:=by rw[he];exact Kc w
  simp only[execOp,hop,ea,eb,jc,run_indexAt_slice _ _ _ _ _ _ _ ht];rw[co (by omega)];simp [hs,Result.andThen,Addr.add]
 ·simp only[mkC,h3];exact⟨k,off+n,rfl,hcs,hr n hn⟩
theorem e_ld {d:Nat}(h1:cl[c]?=some (clP d)) (h3:RV csz numc okT nt cl w0 res (ii (d:Int))):V csz numc okT nt cl w0 (.ld 3) [op c] res:=by
 intro w ρ oo xs ho hb hvs;obtain⟨a,hop,rfl⟩:=hd_ld ho;obtain⟨v1,_,e1,⟨f,hE,hv⟩,e2⟩:=hvs;subst e2;simp only[mkC,h1] at hE;have hv:v1=f 0:=by simpa [yW] using hv
 simp only[jR,kW,yG] at e1;obtain⟨ea,_⟩:=e1;obtain⟨k,off,hf,_,hc⟩:=hE;refine⟨_,w,?_,h3 w,cw _ _⟩;show (execOp ρ oo).run Tryz.prog w=_;rw[hf] at hv;simp only[execOp,hop,ea,hv,Instr.loadAt,Instr.sureAddr,jc,zk,jC,loadVar,clq];simp [hc]
theorem e_take {t:Nat}{n:Nat}(ht:Tryz.prog.underlying t=some (.slice (Tryz.prog.elem t))) (he:Tryz.prog.elem t=3) (h1:PD csz numc okT nt cl w0 p1 ds) (h2:PV csz numc okT nt cl w0 p2 (ii (n:Int))) (hn:n<=ds.length) (h3:RD csz numc okT nt cl w0 res (ds.take n)):V csz numc okT nt cl w0 (.sl t false true false) [p1,p2] res:=by
 intro w ρ oo xs ho hb hvs;obtain⟨a,lo,hi,mx,hop,q1,q2,q3,rfl⟩:=clH ho;obtain rfl:lo=none:=by cases lo<;>simp_all
 obtain rfl:mx=none:=by cases mx<;>simp_all
 obtain⟨b,rfl⟩:=Option.isSome_iff_exists.1 q2;obtain⟨v1,_,e1,h4,v2,_,e2,h5,e3⟩:=hvs;obtain rfl:=h2 _ _ h5;subst e2;simp only[Option.toList,Em,ug,jR,kW,yG] at e1;obtain⟨ea,eb,_⟩:=e1;obtain⟨ao,cap,rfl,h6,h7⟩:=(h1 _ _ hb h4).take hn;refine⟨_,w,?_,h3 w _ h7,cw _ _⟩;show (execOp ρ oo).run Tryz.prog w=_;have hs:(sizeOf (Tryz.prog.elem t)).run Tryz.prog w=.ok 1 w:=by rw[he];exact Kc w
 have hsl:=run_slice_h (P:=Tryz.prog) w t ao ds.length cap ht .i64 (n:Int) (by omega) (by omega);simp only[execOp,hop,ea,eb,jc,KV,Option.map_some,run_sliceAt_slice _ _ _ _ _ _ ht,hsl,hs,jC,sliced];simp only[Jr,ZJ,Nat.sub_zero];have hz:ao.map (fun x=>x.add 0)=ao:=by cases ao<;>simp [Addr.add]
 rw[hz];simp
theorem e_takeF {t:Nat}{n B:Nat}(ht:Tryz.prog.underlying t=some (.slice (Tryz.prog.elem t))) (he:Tryz.prog.elem t=3) (h1:PF csz numc okT nt cl w0 p1 B ds) (h2:PV csz numc okT nt cl w0 p2 (ii (n:Int))) (hn:n<=ds.length) (h3:RF csz numc okT nt cl w0 res B (ds.take n)):V csz numc okT nt cl w0 (.sl t false true false) [p1,p2] res:=by
 intro w ρ oo xs ho hb hvs;obtain⟨a,lo,hi,mx,hop,q1,q2,q3,rfl⟩:=clH ho;obtain rfl:lo=none:=by cases lo<;>simp_all
 obtain rfl:mx=none:=by cases mx<;>simp_all
 obtain⟨b,rfl⟩:=Option.isSome_iff_exists.1 q2;obtain⟨v1,_,e1,h4,v2,_,e2,h5,e3⟩:=hvs;obtain rfl:=h2 _ _ h5;subst e2;simp only[Option.toList,Em,ug,jR,kW,yG] at e1;obtain⟨ea,eb,_⟩:=e1;obtain⟨g1,g2⟩:=h1 _ _ hb h4;obtain⟨ao,cap,rfl,h6,h7⟩:=g1.take hn;refine⟨_,w,?_,h3 w _ h7 (fun k hk=>g2 k (by cases ao<;>first|(simp [Value.ownBlock] at hk;done)|simpa [Value.ownBlock] using hk)),cw _ _⟩;show (execOp ρ oo).run Tryz.prog w=_;have hs:(sizeOf (Tryz.prog.elem t)).run Tryz.prog w=.ok 1 w:=by rw[he];exact Kc w
 have hsl:=run_slice_h (P:=Tryz.prog) w t ao ds.length cap ht .i64 (n:Int) (by omega) (by omega);simp only[execOp,hop,ea,eb,jc,KV,Option.map_some,run_sliceAt_slice _ _ _ _ _ _ ht,hsl,hs,jC,sliced];simp only[Jr,ZJ,Nat.sub_zero];have hz:ao.map (fun x=>x.add 0)=ao:=by cases ao<;>simp [Addr.add]
 rw[hz];simp
theorem e_max {ats:List Nat}{t:Nat}(h1:PV csz numc okT nt cl w0 p1 (ii x)) (h2:PV csz numc okT nt cl w0 p2 (ii y)) (h3:RV csz numc okT nt cl w0 res (ii (if y>x then y else x))):V csz numc okT nt cl w0 (.blt .max ats t) [p1,p2] res:=by
 intro w ρ oo xs ho hb hvs;obtain⟨c,hop,hc,hat,hty,rfl⟩:=cgv ho;obtain⟨v1,_,e1,h4,v2,_,e2,h5,e3⟩:=hvs;obtain rfl:=h1 _ _ h4;obtain rfl:=h2 _ _ h5;subst e2;subst e3;refine⟨_,w,?_,h3 w,cw _ _⟩;have he:c.args.map ρ=#[ii x,ii y]:=by
  apply CO;simpa using e1
 show (execOp ρ oo).run Tryz.prog w=_;simp only[execOp,hop,resolve,hc,he,jc,zk,jC,invoke,builtin,run_max_int2]
theorem zR {t:Nat}{u:Int}(hz:x+y=u) (h1:PV csz numc okT nt cl w0 p1 (ii x)) (h2:PV csz numc okT nt cl w0 p2 (ii y)) (h3:RV csz numc okT nt cl w0 res (ii u)) (hr:-9223372036854775808<=u/\u<=9223372036854775807):V csz numc okT nt cl w0 (.bin .add t) [p1,p2] res :=
 Jt h1 h2 h3 (fun w=>by
  show Result.ok (Value.int .i64 (IntKind.i64.wrap (x+y))) w=_;rw[hz,show IntKind.i64.wrap u=u by rw[zH];omega])
theorem JO {t:Nat}{u:Int}(hz:x-y=u) (h1:PV csz numc okT nt cl w0 p1 (ii x)) (h2:PV csz numc okT nt cl w0 p2 (ii y)) (h3:RV csz numc okT nt cl w0 res (ii u)) (hr:-9223372036854775808<=u/\u<=9223372036854775807):V csz numc okT nt cl w0 (.bin .sub t) [p1,p2] res :=
 Jt h1 h2 h3 (fun w=>by
  show Result.ok (Value.int .i64 (IntKind.i64.wrap (x-y))) w=_;rw[hz,show IntKind.i64.wrap u=u by rw[zH];omega])
theorem e_mul {t:Nat}{u:Int}(hz:x*y=u) (h1:PV csz numc okT nt cl w0 p1 (ii x)) (h2:PV csz numc okT nt cl w0 p2 (ii y)) (h3:RV csz numc okT nt cl w0 res (ii u)) (hr:-9223372036854775808<=u/\u<=9223372036854775807):V csz numc okT nt cl w0 (.bin .mul t) [p1,p2] res :=
 Jt h1 h2 h3 (fun w=>by
  show Result.ok (Value.int .i64 (IntKind.i64.wrap (x*y))) w=_;rw[hz,show IntKind.i64.wrap u=u by rw[zH];omega])
theorem ckd {t:Nat}{k:IntKind}{m n:Nat}(h1:PV csz numc okT nt cl w0 p1 (.int k (m:Int))) (h2:PV csz numc okT nt cl w0 p2 (.int k (n:Int))) (h3:RV csz numc okT nt cl w0 res (.int k ((m%n:Nat):Int))) (hn:0<n):V csz numc okT nt cl w0 (.bin .rem t) [p1,p2] res :=
 Jt h1 h2 h3 (fun w=>by
  rw[binOp_rem,Op.intDiv,cg (by omega)];show Result.ok (Value.int k ((m:Int).tmod (n:Int))) w=_;rw[show (m:Int).tmod (n:Int)=((m%n:Nat):Int) by rw[cjn (by omega)];rfl])
theorem cfa {t:Nat}{k:IntKind}{m n:Nat}(h1:PV csz numc okT nt cl w0 p1 (.int k (m:Int))) (h2:PV csz numc okT nt cl w0 p2 (.int k (n:Int))) (h3:RV csz numc okT nt cl w0 res (.int k ((m/n:Nat):Int))) (hn:0<n) (hw:k.wrap ((m/n:Nat):Int)=((m/n:Nat):Int)):V csz numc okT nt cl w0 (.bin .quo t) [p1,p2] res :=
 Jt h1 h2 h3 (fun w=>by
  rw[binOp_quo,Op.intDiv,cg (by omega)];show Result.ok (Value.int k (k.wrap ((m:Int).tdiv (n:Int)))) w=_;rw[show (m:Int).tdiv (n:Int)=((m/n:Nat):Int) by rw[car (by omega)];rfl,hw])
theorem e_cv {s d:Nat}{k k':IntKind}(hs:(Tryz.prog.underlying s).isSome=true) (hd:Tryz.prog.underlying d=some (.int (Tryz.prog.intKind d))) (hk:Tryz.prog.intKind d=k') (h1:PV csz numc okT nt cl w0 p1 (.int k x)) (h3:RV csz numc okT nt cl w0 res (.int k' x)) (hw:k'.wrap x=x):V csz numc okT nt cl w0 (.cv s d) [p1] res:=by
 intro w ρ oo xs ho hb hvs;obtain⟨a,hop,rfl⟩:=clf ho;obtain⟨v1,_,e1,h4,e2⟩:=hvs;obtain rfl:=h1 _ _ h4;subst e2;simp only[jR,kW,yG] at e1;obtain⟨ea,_⟩:=e1;refine⟨_,w,?_,h3 w,cw _ _⟩;show (execOp ρ oo).run Tryz.prog w=_;simp only[execOp,hop,ea,jc,run_convert_int _ _ _ _ _ hs hd,hk,hw,jC];rfl
theorem CH {t:Nat}{k:IntKind}{b:Bool}(h1:PV csz numc okT nt cl w0 p1 (.int k x)) (h2:PV csz numc okT nt cl w0 p2 (.int k y)) (hb:decide (x<y)=b):V csz numc okT nt cl w0 (.bin .lss t) [p1,p2] (.val (vp (.bool b))) :=
 Jt h1 h2 rvl (fun w=>by subst hb;cases k<;>rfl)
theorem e_leq {t:Nat}{k:IntKind}{b:Bool}(h1:PV csz numc okT nt cl w0 p1 (.int k x)) (h2:PV csz numc okT nt cl w0 p2 (.int k y)) (hb:decide (x<=y)=b):V csz numc okT nt cl w0 (.bin .leq t) [p1,p2] (.val (vp (.bool b))) :=
 Jt h1 h2 rvl (fun w=>by subst hb;cases k<;>rfl)
theorem Ef {t:Nat}{k:IntKind}{b:Bool}(h1:PV csz numc okT nt cl w0 p1 (.int k x)) (h2:PV csz numc okT nt cl w0 p2 (.int k y)) (hb:decide (x>y)=b):V csz numc okT nt cl w0 (.bin .gtr t) [p1,p2] (.val (vp (.bool b))) :=
 Jt h1 h2 rvl (fun w=>by subst hb;cases k<;>rfl)
theorem ceZ {t:Nat}{k:IntKind}{b:Bool}(h1:PV csz numc okT nt cl w0 p1 (.int k x)) (h2:PV csz numc okT nt cl w0 p2 (.int k y)) (hb:decide (x>=y)=b):V csz numc okT nt cl w0 (.bin .geq t) [p1,p2] (.val (vp (.bool b))) :=
 Jt h1 h2 rvl (fun w=>by subst hb;cases k<;>rfl)
theorem chd {t:Nat}{k:IntKind}{b:Bool}(h1:PV csz numc okT nt cl w0 p1 (.int k x)) (h2:PV csz numc okT nt cl w0 p2 (.int k y)) (hb:decide (x=y)=b):V csz numc okT nt cl w0 (.bin .eql t) [p1,p2] (.val (vp (.bool b))) :=
 Jt h1 h2 rvl (fun w=>by subst hb;cases k<;>rfl)
end
end Sym
namespace Sym
def ccV:Nat->List Pat->List Item
 |_,[]=>[]
 |j,p::ps=>.val j p::ccV (j+1) ps
section
variable {C:Ctx}{T:List Ent}{a:Act}{w:World}
theorem YT:∀ {ps:List Pat}{vs:List Value}{j:Nat}{bs:List Nat},jb C w ps vs->(∀ i v,vs[i]?=some v->a.tmps[j+i]?=some v)->ku C a w (ccV j ps) bs
 |[],_,_,_,_,_=>trivial
 |p::ps,_,j,bs,⟨v,ws,h1,h2,h3⟩,hs=>by
  subst h1;exact⟨⟨v,by simpa using hs 0 v rfl,h2⟩,YT h3 (fun i x hx=>by
   have:=hs (i+1) x (by simpa using hx);rw[show j+1+i=j+(i+1) by omega];exact this)⟩
theorem Cc {f:FuncId}{fn:Func}{c:Code}(hf:C.P.funcs[f]?=some fn) (hb:fn.body=some c) (hnt:fn.ntmps=C.nt) {args:List Pat}(hlen:args.length<=C.nt) {vs:List Value}(hvs:jb C C.w0 args vs) {Q:Ending->World->Prop}
 (h:∀ a,At C (ccV 0 args) a C.w0->c.wp C.P (bodyPost C.P fn Q) a C.w0) (hL:C.L=[]:=by rfl):Calls C.P f vs.toArray C.w0 Q:=by
 refine calls_of_wp hf hb (h _ ⟨cw _ _,rfl,?_,?_,fun k hk=>by rw[hL] at hk;simp at hk⟩)
 ·have:=hvs.length;simp only[ccG,Ek,cfK];omega
 ·refine YT hvs (fun i v hi=>?_);have hil:i<vs.length:=by
   rcases jd i vs.length with h|h
   ·exact h
   ·simp [yA h] at hi
  show (vs.toArray++Array.replicate (fn.ntmps-vs.toArray.size) undef)[0+i]?=some v;rw[je,ckA (by simpa using hil)];simpa using hi
theorem ccJ {fn:Func}{t:Nat}{p:Pat}{l:List Item}(hr:fn.results=#[.tmp t]) (hA:At C (.val t p::l) a w) {Q:Ending->World->Prop}(h:∀ v,p.is C w v->Q (.returned v) w):bodyPost C.P fn Q .ret a w:=by
 obtain⟨⟨v,h1,h2⟩,_⟩:=hA.items;refine⟨hA.defers,v,?_,h v h2⟩;rw[yP,hr];have:a.tmps.getD t undef=v:=by rw[uX,h1];rfl
 simp [ZO,this]
theorem uG {P:Program}{id:Nat}{c:Code}{Q:Exit->Act->World->Prop}{Θ:Type}(I:Θ->Act->World->Prop) (μ:Θ->Nat)
 (round:∀ θ a w,I θ a w->c.wp P (Exit.then (fun a' w'=>∃ θ',I θ' a' w'/\μ θ'<μ θ) (Exit.inBlock id Q)) a w) (θ:Θ) (h0:I θ a w):(Code.block id (.loop c)).wp P Q a w :=
 CU (Ct I μ round θ h0)
def rOf:List (Nat×Nat)->Nat->Nat
 |[],_=>1000000
 |(c,d)::l,x=>if x=c then d else rOf l x
theorem chg {cl cl':List Cl}(hz:cl[1000000]?=none):∀ {l:List (Nat×Nat)}{c:Nat}{x:Cl},(∀ p∈l,cl[p.2]?=cl'[p.1]?)->cl[rOf l c]?=some x->cl'[c]?=some x
 |[],c,x,_,hx=>by
  simp only[rOf,hz] at hx;cases hx
 |(c0,d)::l,c,x,h,hx=>by
  unfold rOf at hx;split at hx
  ·rename_i hc;subst hc;have:=h (c,d) (by simp);rw[← this];exact hx
  ·exact chg hz (fun p hp=>h p (uL _ hp)) hx
theorem at_re {csz csz':List Nat}{numc numc':List Bool}{okT okT':List Nat}{nt:Nat}{cl cl':List Cl}{w0:World}{is is':List Item}
 (hA:At (mkC csz numc okT nt cl w0) is' a w) (l:List (Nat×Nat)) (h:∀ p∈l,cl[p.2]?=cl'[p.1]?) (hz:cl[1000000]?=none) (hl:is'=is.map (Item.re (rOf l))) (hL:cl'.flatMap (·.L)=[]:=by rfl):At (mkC csz' numc' okT' nt cl' w0) is a w:=by
 refine At.re (C:=mkC csz numc okT nt cl w0) (C':=mkC csz' numc' okT' nt cl' w0) (r:=rOf l) (fun c f hE=>?_) rfl (fun k hk=>noL hL hk) rfl hl hA;simp only[mkC] at hE ⊢;split at hE
 ·rename_i x hx;rw[chg hz h hx];exact hE
 ·exact hE.elim
theorem ckU {P:Nat×Nat->Prop}:∀ t∈([]:List (Nat×Nat)),P t:=fun t h=>by simp at h
theorem UL {P:Nat×Nat->Prop}{a:Nat×Nat}{l:List (Nat×Nat)}(h:P a) (k:∀ t∈l,P t):∀ t∈a::l,P t:=fun t ht=>by
 rcases List.mem_cons.1 ht with rfl|ht
 ·exact h
 ·exact k t ht
end
section
variable {C:Ctx}{T:List Ent}{a:Act}{w:World}{Q:Exit->Act->World->Prop}{ops:Array Oper}
def opsE (S:Stat) (T:List Ent):List Oper->St->Option St
 |[],st=>some st
 |o::l,st=>match o.guard with
  |none=>match Ge S T (fun k=>find k st.m) st.nb o with
   |some ws=>opsE S T l ⟨st.nb+1,ws++st.m⟩
   |none=>none
  |some _=>none
theorem coF (hC:C.Ok) (hT:∀ t∈T,t.Valid C) {st:St}{ws:Ws}{o:Oper}(h:Ge C.toStat T (fun k=>find k st.m) st.nb o=some ws) (hs:Sat C st a w) {K:Act->World->Prop}(hK:∀ a' w',Sat C ⟨st.nb+1,ws++st.m⟩ a' w'->K a' w'):o.wp C.P a w K Q:=by
 obtain⟨e,hk,hg,h1,h2⟩:=hs;refine GH hC hT hk hg ?_ ?_ h ?_
 ·cases he:e.ρ st.nb with
  |none=>rfl
  |some k=>have:=h1 _ _ he;omega
 ·intro x hx;cases he:e.ν x with
  |none=>rfl
  |some f=>have:=h2 _ _ he;omega
 ·intro e' a' w' hx hρ hν hg' hnew hfr;refine hK a' w' ⟨e',?_,hg',?_,?_⟩
  ·intro k v hkv;have hkv:find k (ws++st.m)=some v:=hkv;rw[yw] at hkv;cases hf:find k ws with
   |some x =>
    rw[hf] at hkv;injection hkv with hkv;subst hkv
    exact hnew k _ (uY hf)
   |none =>
    rw[hf] at hkv;exact hfr k v (hk k v hkv) hf
  ·intro b k hb;show b<st.nb+1;rcases hρ b k hb with h|h
   ·have:=h1 b k h;omega
   ·omega
  ·intro s f hs';show s/8<st.nb+1;rcases hν s f hs' with h|h
   ·have:=h2 s f h;omega
   ·omega
theorem ckw (hC:C.Ok) (hT:∀ t∈T,t.Valid C):∀ {l rest:List Oper}{st st':St}{a:Act}{w:World},opsE C.toStat T l st=some st'->Sat C st a w->(∀ a' w',Sat C st' a' w'->wpList C.P ops Q rest a' w')->wpList C.P ops Q (l++rest) a w
 |[],rest,st,st',a,w,h,hs,hQ=>by
  simp [opsE] at h;subst h;exact hQ a w hs
 |o::l,rest,st,st',a,w,h,hs,hQ=>by
  unfold opsE at h;split at h
  ·rename_i hg;split at h
   ·rename_i ws hw;refine YE hg (fun K hK=>coF hC hT hw hs (fun a' w' hs'=>hK a' w' (ckw hC hT h hs' hQ)))
   ·cases h
  ·cases h
def opsB (S:Stat) (T:List Ent) (l:List Oper) (pre post:List Item):Bool :=
 match Ye pre 0 with
 |some ws=>match opsE S T l ⟨pre.length,ws⟩ with
  |some st'=>Ki (fun k=>find k st'.m) post []
  |none=>false
 |none=>false
theorem caA (hC:C.Ok) (hT:∀ t∈T,t.Valid C) {l rest:List Oper}{pre post:List Item}(h:opsB C.toStat T l pre post=true) (hA:At C pre a w) (hQ:∀ a' w',At C post a' w'->wpList C.P ops Q rest a' w'):wpList C.P ops Q (l++rest) a w:=by
 unfold opsB at h;split at h
 ·rename_i ws hws;split at h
  ·rename_i st' he;exact ckw hC hT he (hA.sat hws) (fun a' w' hs=>hQ a' w' (hs.meet h))
  ·cases h
 ·cases h
theorem cgn (hC:C.Ok) (hT:∀ t∈T,t.Valid C) {l:List Oper}{pre post:List Item}(h:opsB C.toStat T l pre post=true) (hA:At C pre a w) (hQ:∀ a' w',At C post a' w'->Q .normal a' w'):wpList C.P ops Q l a w:=by
 have:=caA (rest:=[]) hC hT (ops:=ops) (Q:=Q) h hA hQ
 rwa [ug] at this
def Jz:Code->List Oper
 |.region _ ops _=>ops.toList
 |_=>[]
end
def clW (v:Value):Cl:=⟨[],1,false,fun _ f=>f 0=v⟩
theorem Ga {okT:List Nat}{B:Nat}{v:Value}(hv:v.oneCell'=true):(clW v).Ok okT B:=by
 refine⟨fun w w' f hb h=>h,fun w w' R f cs t _ _ ho hm hz _ hb h=>h,fun _ _ h _=>absurd h (by simp [clW]),?_⟩;intro w f j h hj;have hj:j<1:=hj;obtain rfl:j=0:=by omega
 rw[show f 0=v from h];exact hv
section
variable {csz:List Nat}{numc:List Bool}{okT:List Nat}{nt:Nat}{cl:List Cl}{w0:World}{w:World}{v:Value}{c:Nat}{a:Act}
theorem yX {x:Value}(h:cl[c]?=some (clW x)):(op c).is (mkC csz numc okT nt cl w0) w v↔v=x:=by
 constructor
 ·rintro⟨f,hE,hv⟩;simp only[mkC,h] at hE;have:v=f 0:=by simpa [yW] using hv
  rw[this];exact hE
 ·rintro rfl;refine⟨fun _=>v,?_,rfl⟩;simp only[mkC,h];rfl
theorem pvW {x:Value}(h:cl[c]?=some (clW x)):PV csz numc okT nt cl w0 (op c) x:=fun _ _ h1=>(yX h).1 h1
theorem rvW {x:Value}(h:cl[c]?=some (clW x)):RV csz numc okT nt cl w0 (.val (op c)) x:=fun _=>(yX h).2 rfl
theorem pdW {x:Value}{ds:List Nat}(h:cl[c]?=some (clW x)) (hx:Dg w0 x ds):PD csz numc okT nt cl w0 (op c) ds:=fun w v hb h1=>by
 rw[(yX h).1 h1];exact hx.below hb (cb _)
theorem chm (vals:List (Nat×Nat×Value)) (hd:a.defers=[]) (hs:a.tmps.size=nt) (h:∀ p∈vals,a.tmps[p.1]?=some p.2.2/\cl[p.2.1]?=some (clW p.2.2)) (hL:cl.flatMap (·.L)=[]:=by rfl):At (mkC csz numc okT nt cl w) (vals.map (fun p=>Item.val p.1 (op p.2.1))) a w:=by
 refine⟨cw _ _,hd,hs,?_,fun k hk=>noL hL hk⟩;have key:∀ (vals:List (Nat×Nat×Value)) bs,(∀ p∈vals,a.tmps[p.1]?=some p.2.2/\cl[p.2.1]?=some (clW p.2.2))->ku (mkC csz numc okT nt cl w) a w (vals.map (fun p=>Item.val p.1 (op p.2.1))) bs:=by
  intro vals
  induction vals with
  |nil=>intro _ _;trivial
  |cons p l ih=>exact fun bs h=>⟨⟨p.2.2,(h p (by simp)).1,(yX (h p (by simp)).2).2 rfl⟩,ih bs (fun q hq=>h q (uL _ hq))⟩
 exact key vals [] h
theorem GZ {t:Nat}{x:Value}{l:List Item}{bs:List Nat}(hc:cl[c]?=some (clW x)) (h:ku (mkC csz numc okT nt cl w0) a w (.val t (op c)::l) bs):a.tmps[t]?=some x/\ku (mkC csz numc okT nt cl w0) a w l bs:=by
 obtain⟨⟨v,h1,h2⟩,h3⟩:=h;rw[(yX hc).1 h2] at h1;exact⟨h1,h3⟩
theorem Wc {P:Nat×Nat×Value->Prop}:∀ t∈([]:List (Nat×Nat×Value)),P t:=fun t h=>by simp at h
theorem zg {P:Nat×Nat×Value->Prop}{a:Nat×Nat×Value}{l:List (Nat×Nat×Value)}(h:P a) (k:∀ t∈l,P t):∀ t∈a::l,P t:=fun t ht=>by
 rcases List.mem_cons.1 ht with rfl|ht
 ·exact h
 ·exact k t ht
end
end Sym
namespace Sym
theorem jU:Tryz.prog.underlying 38=some (.slice (Tryz.prog.elem 38)):=by kernel_rfl
theorem Cb:Tryz.prog.elem 38=3:=by kernel_rfl
theorem kx {okT:List Nat}{B:Nat}(n:Int):(clV (ii n)).Ok okT B:=cam rfl
theorem noT {x:Nat}:∀ t∈([]:List Nat),t≠x:=fun t h=>by simp at h
abbrev Zu (ds:List Nat) (i:Nat):List Cl:=[clD ds,clV (ii (i:Int)),clP (ds.getD i 0),clV (ii ((ds.getD i 0:Nat):Int)),clV (ii (ds.length:Int))]
def cpb:List Ent:=[⟨.blt .len [38] 3,[op 0],.val (op 4)⟩,⟨.bin .lss 3,[op 1,op 4],.val (vp (.bool true))⟩,⟨.ix 38,[op 0,op 1],.val (op 2)⟩,⟨.ld 3,[op 2],.val (op 3)⟩]
def cor:List Ent:=[⟨.blt .len [38] 3,[op 0],.val (op 4)⟩,⟨.bin .lss 3,[op 1,op 4],.val (vp (.bool false))⟩]
theorem cok (v:Value) (ds:List Nat) (i:Nat) (w:World) (h:Dg w v ds):Calls Tryz.prog 150 #[v,ii (i:Int)] w (fun e w'=>e=.returned (ii ((ds.getD i 0:Nat):Int))/\Below w.heap.size w w'):=by
 have hC:(mkC [1,1,1,1,1] [false,true,true,true,true] [] 13 (Zu ds i) w).Ok :=
  uw (cn (jK noT ds) (cn (kx _) (cn (clP_ok noT _) (cn (kx _) (cn (kx _) kr))))) rfl rfl
 have hv:jb (mkC [1,1,1,1,1] [false,true,true,true,true] [] 13 (Zu ds i) w) w [op 0,op 1] [v,ii (i:Int)]:=⟨_,_,rfl,(Gi rfl).2 h,_,_,rfl,(yB rfl).2 rfl,rfl⟩;by_cases hi:i<ds.length
 ·have hT:∀ t∈cpb,t.Valid (mkC [1,1,1,1,1] [false,true,true,true,true] [] 13 (Zu ds i) w) :=
   ce (yY jU (pd rfl) (rv rfl)) (ce (CH (pv rfl) (pv rfl) (cF (by omega))) (ce (e_ix jU Cb (pd rfl) (pv rfl) hi rfl) (ce (e_ld rfl (rv rfl)) cj)))
  refine(kM hC hT 150 Tryz.f150 [op 0,op 1] (.val (op 3)) 30 Tryz.func150 rfl rfl rfl (by kernel_rfl) _ hv).mono ?_;rintro e w' ⟨x,rfl,hx,hb⟩;exact⟨by rw[(yB rfl).1 hx],hb⟩
 ·have hT:∀ t∈cor,t.Valid (mkC [1,1,1,1,1] [false,true,true,true,true] [] 13 (Zu ds i) w) :=
   ce (yY jU (pd rfl) (rv rfl)) (ce (CH (pv rfl) (pv rfl) (cK (by omega))) cj)
  refine(kM hC hT 150 Tryz.f150 [op 0,op 1] (.val (vp (ii 0))) 30 Tryz.func150 rfl rfl rfl (by kernel_rfl) _ hv).mono ?_;rintro e w' ⟨x,rfl,hx,hb⟩;refine⟨?_,hb⟩;rw[cfZ hx,yR,yA (by omega)];rfl
section
variable {csz:List Nat}{numc:List Bool}{okT:List Nat}{nt:Nat}{cl:List Cl}{w0:World}{p1 p2:Pat}{res:jH}{ds:List Nat}{i:Nat}
theorem WK (h1:PD csz numc okT nt cl w0 p1 ds) (h2:PV csz numc okT nt cl w0 p2 (ii (i:Int))) (h3:RV csz numc okT nt cl w0 res (ii ((ds.getD i 0:Nat):Int))):V csz numc okT nt cl w0 (.call 150) [p1,p2] res:=by
 refine⟨cY Tryz.func150 (by kernel_rfl) rfl,fun w vs hb hvs=>?_⟩;obtain⟨v1,_,rfl,h4,v2,_,rfl,h5,rfl⟩:=hvs;obtain rfl:=h2 _ _ h5;refine(cok v1 ds i w (h1 _ _ hb h4)).mono ?_;rintro e w' ⟨rfl,hb⟩;exact⟨_,rfl,h3 w',hb⟩
end
def uc (ds:List Nat):List Nat:=(ds.reverse.dropWhile (fun d=>d == 0)).reverse
theorem cjM (l:List Nat):uc (l++[0])=uc l:=by simp [uc]
theorem cmQ (l:List Nat) {d:Nat}(h:d≠0):uc (l++[d])=l++[d]:=by simp [uc,h]
theorem cmP:uc []=[]:=rfl
theorem caB {ds:List Nat}{n:Nat}(hn:n<ds.length):ds.take (n+1)=ds.take n++[ds.getD n 0]:=by
 rw[List.take_add_one,yR,kb hn];rfl
abbrev cl_trim (B:Nat) (ds:List Nat) (n:Nat):List Cl:=[clF B ds,clV (ii (n:Int)),clP (ds.getD (n-1) 0),clV (ii ((n-1:Nat):Int)),clV (ii ((ds.getD (n-1) 0:Nat):Int)),clF B (ds.take n)]
noncomputable abbrev C_trim (B:Nat) (ds:List Nat) (n:Nat) (w:World):Ctx:=mkC [1,1,1,1,1,1] [false,true,true,true,true,false] [] 21 (cl_trim B ds n) w
theorem ZS (B:Nat) (ds:List Nat) (n:Nat) (w:World):(C_trim B ds n w).Ok :=
 uw (cn (ccX noT B ds) (cn (kx _) (cn (clP_ok noT _) (cn (kx _) (cn (kx _) (cn (ccX noT B _) kr)))))) rfl rfl
def t_trim0:List Ent:=[⟨.blt .len [38] 3,[op 0],.val (op 1)⟩]
def t_trim1:List Ent:=[⟨.bin .gtr 3,[op 1,vp (ii 0)],.val (vp (.bool true))⟩,⟨.bin .sub 3,[op 1,vp (ii 1)],.val (op 3)⟩,⟨.ix 38,[op 0,op 3],.val (op 2)⟩,⟨.ld 3,[op 2],.val (op 4)⟩,⟨.bin .eql 3,[op 4,vp (ii 0)],.val (vp (.bool true))⟩]
def t_trim2:List Ent:=[⟨.bin .gtr 3,[op 1,vp (ii 0)],.val (vp (.bool true))⟩,⟨.bin .sub 3,[op 1,vp (ii 1)],.val (op 3)⟩,⟨.ix 38,[op 0,op 3],.val (op 2)⟩,⟨.ld 3,[op 2],.val (op 4)⟩,⟨.bin .eql 3,[op 4,vp (ii 0)],.val (vp (.bool false))⟩]
def t_trim3:List Ent:=[⟨.bin .gtr 3,[op 1,vp (ii 0)],.val (vp (.bool false))⟩]
def t_trim4:List Ent:=[⟨.sl 38 false true false,[op 0,op 1],.val (op 5)⟩]
noncomputable def b_trim:Code:=EB Tryz.f122
theorem ckh (v:Value) (ds:List Nat) (w:World) (h:Dg w v ds) {B:Nat}(hB:∀ k,v.ownBlock=some k->B<=k):Calls Tryz.prog 122 #[v] w (fun e w'=>∃ v',e=.returned v'/\Dg w' v' (uc ds)/\(∀ k,v'.ownBlock=some k->B<=k)/\Below w.heap.size w w'):=by
 have hlen:=h.len;refine Cc (C:=C_trim B ds ds.length w) (f:=122) (args:=[op 0]) Tryz.func122 (c:=.seq (jQ b_trim) (.seq (jQ (cE b_trim)) (.seq (.block 0 (.loop (kq (kq (jQ (cE (cE b_trim))))))) (cE (cE (cE b_trim)))))) rfl rfl (jo rfl) (vs:=[v]) ⟨_,_,rfl,(Ko rfl).2 ⟨h,hB⟩,rfl⟩ (fun a hA=>?_);have hT0:∀ t∈t_trim0,t.Valid (C_trim B ds ds.length w):=ce (yY jU (pf rfl).pd (rv rfl)) cj;refine cB (kf (ZS _ _ _ _) hT0 (x:=.normal) (n:=30) (post:=[.val 0 (op 0)]) (by kernel_rfl) hA (fun a' w' hA=>?_));refine cB (kf (ZS _ _ _ _) hT0 (x:=.normal) (n:=30) (post:=[.val 0 (op 0),.val 3 (op 1)]) (by kernel_rfl) hA (fun a' w' hA=>?_));refine cB (uG (Θ:=Nat) (fun n a w'=>n<=ds.length/\uc (ds.take n)=uc ds/\At (C_trim B ds n w) [.val 0 (op 0),.val 3 (op 1)] a w') id ?_ ds.length ⟨cb _,by simp,hA⟩);rintro n a w1 ⟨hn,hs,hA⟩;have hend:uc (ds.take n)=ds.take n->∀ a' w',At (C_trim B ds n w) [.val 0 (op 0),.val 3 (op 1)] a' w'->(cE (cE (cE b_trim))).wp Tryz.prog (bodyPost Tryz.prog Tryz.f122 (fun e w'=>∃ v',e=.returned v'/\Dg w' v' (uc ds)/\(∀ k,v'.ownBlock=some k->B<=k)/\Below w.heap.size w w')) a' w':=by
  intro he a' w' hA;have hT:∀ t∈t_trim4,t.Valid (C_trim B ds n w):=ce (e_takeF jU Cb (pf rfl) (pv rfl) hn (rf rfl)) cj;refine kf (ZS _ _ _ _) hT (x:=.ret) (n:=30) (post:=[.val 2 (op 5)]) (by kernel_rfl) hA (fun a' w' hA=>ccJ rfl hA (fun v' hv=>⟨_,rfl,?_,((Ko (ds:=ds.take n) rfl).1 hv).2,hA.below⟩));have:=((Ko (ds:=ds.take n) rfl).1 hv).1;rw[← hs,he];exact this
 by_cases h0:n=0
 ·have hT:∀ t∈t_trim3,t.Valid (C_trim B ds n w):=ce (Ef (pv rfl) pvl (cK (by omega))) cj;exact kf (ZS _ _ _ _) hT (x:=.exit 0) (n:=30) (post:=[.val 0 (op 0),.val 3 (op 1)]) (by kernel_rfl) hA (fun a' w' hA=>hend (by subst h0;rfl) a' w' hA)
 ·obtain⟨m,rfl⟩:∃ m,n=m+1:=⟨n-1,by omega⟩;by_cases hd:ds.getD m 0=0
  ·have hT:∀ t∈t_trim1,t.Valid (C_trim B ds (m+1) w):=ce (Ef (pv rfl) pvl (cF (by omega))) (ce (JO (u:=(m:Int)) (by omega) (pv rfl) pvl (rv rfl) (by omega)) (ce (e_ix jU Cb (pf rfl).pd (pv rfl) hn rfl) (ce (e_ld rfl (rv rfl)) (ce (chd (pv rfl) pvl (cF (by simpa using hd))) cj))));refine kf (ZS _ _ _ _) hT (x:=.normal) (n:=30) (post:=[.val 0 (op 0),.val 3 (op 3)]) (by kernel_rfl) hA (fun a' w' hA=>⟨m,⟨by omega,?_,?_⟩,by simp⟩)
   ·rw[← hs,caB hn,hd,cjM]
   ·exact at_re hA [(0,0),(1,3)] (UL rfl (UL rfl ckU)) rfl rfl
  ·have hT:∀ t∈t_trim2,t.Valid (C_trim B ds (m+1) w):=ce (Ef (pv rfl) pvl (cF (by omega))) (ce (JO (u:=(m:Int)) (by omega) (pv rfl) pvl (rv rfl) (by omega)) (ce (e_ix jU Cb (pf rfl).pd (pv rfl) hn rfl) (ce (e_ld rfl (rv rfl)) (ce (chd (pv rfl) pvl (cK (by simpa using hd))) cj))));exact kf (ZS _ _ _ _) hT (x:=.exit 0) (n:=30) (post:=[.val 0 (op 0),.val 3 (op 1)]) (by kernel_rfl) hA (fun a' w' hA=>hend (by rw[caB hn,cmQ _ hd]) a' w' hA)
section
variable {csz:List Nat}{numc:List Bool}{okT:List Nat}{nt:Nat}{cl:List Cl}{w0:World}{p1 p2:Pat}{res:jH}{ds:List Nat}
theorem cji (h1:PD csz numc okT nt cl w0 p1 ds) (h3:RD csz numc okT nt cl w0 res (uc ds)):V csz numc okT nt cl w0 (.call 122) [p1] res:=by
 refine⟨cY Tryz.func122 (by kernel_rfl) rfl,fun w vs hb hvs=>?_⟩;obtain⟨v1,_,rfl,h4,rfl⟩:=hvs;refine(ckh v1 ds w (h1 _ _ hb h4) (B:=0) (fun _ _=>ju _)).mono ?_;rintro e w' ⟨v',rfl,hv,_,hb⟩;exact⟨_,rfl,h3 w' v' hv,hb⟩
theorem cge {B:Nat}(h1:PF csz numc okT nt cl w0 p1 B ds) (h3:RF csz numc okT nt cl w0 res B (uc ds)):V csz numc okT nt cl w0 (.call 122) [p1] res:=by
 refine⟨cY Tryz.func122 (by kernel_rfl) rfl,fun w vs hb hvs=>?_⟩;obtain⟨v1,_,rfl,h4,rfl⟩:=hvs;obtain⟨g1,g2⟩:=h1 _ _ hb h4;refine(ckh v1 ds w g1 g2).mono ?_;rintro e w' ⟨v',rfl,hv,hB,hb⟩;exact⟨_,rfl,h3 w' v' hv hB,hb⟩
end
def nat:List Nat->Nat
 |[]=>0
 |d::ds=>d+10000*nat ds
def Dig (ds:List Nat):Prop:=∀ i,ds.getD i 0<10000
theorem JJ (ds:List Nat):nat ds=ds.getD 0 0+10000*nat ds.tail:=by cases ds<;>simp [nat]
theorem CM (ds:List Nat) (j:Nat):ds.tail.getD j 0=ds.getD (j+1) 0:=by cases ds<;>simp
theorem Dig.tail {ds:List Nat}(h:Dig ds):Dig ds.tail:=fun i=>by rw[CM];exact h _
theorem cbG:∀ {ds es:List Nat},(∀ j,ds.getD j 0=es.getD j 0)->nat ds=nat es
 |[],[],_=>rfl
 |[],e::es,h=>by
  have h0:=h 0;have:=cbG (ds:=[]) (es:=es) (fun j=>by simpa using h (j+1));simp at h0;simp only[nat] at this ⊢;omega
 |d::ds,es,h=>by
  have h0:=h 0;have:=cbG (ds:=ds) (es:=es.tail) (fun j=>by rw[CM];simpa using h (j+1));rw[JJ es];simp only[nat];simp at h0;rw[this];simp [yR,h0]
theorem cje:∀ {i:Nat}{ds es:List Nat},Dig ds->ds.getD i 0<es.getD i 0->(∀ j,i<j->ds.getD j 0=es.getD j 0)->nat ds<nat es
 |0,ds,es,hd,hi,h=>by
  have:=cbG (ds:=ds.tail) (es:=es.tail) (fun j=>by rw[CM,CM];exact h _ (by omega));rw[JJ ds,JJ es,this];omega
 |i+1,ds,es,hd,hi,h=>by
  have:=cje (i:=i) (ds:=ds.tail) (es:=es.tail) hd.tail (by rw[CM,CM];exact hi) (fun j hj=>by rw[CM,CM];exact h _ (by omega));have h0:=hd 0;rw[JJ ds,JJ es];omega
def idx:Nat->Int
 |0=>-1
 |m+1=>(m:Int)
abbrev coC (ds es:List Nat) (k:Nat):List Cl:=[clD ds,clD es,clV (ii (idx k)),clV (ii ((ds.getD (k-1) 0:Nat):Int)),clV (ii ((es.getD (k-1) 0:Nat):Int)),clV (ii (idx (k-1))),clV (ii (ds.length:Int)),clV (ii (es.length:Int)),clV (ii (if (es.length:Int)>(ds.length:Int) then (es.length:Int) else (ds.length:Int)))]
noncomputable abbrev C_order (ds es:List Nat) (k:Nat) (w:World):Ctx:=mkC [1,1,1,1,1,1,1,1,1] [false,false,true,true,true,true,true,true,true] [] 30 (coC ds es k) w
theorem KL (ds es:List Nat) (k:Nat) (w:World):(C_order ds es k w).Ok :=
 uw (cn (jK noT ds) (cn (jK noT es) (cn (kx _) (cn (kx _) (cn (kx _) (cn (kx _) (cn (kx _) (cn (kx _) (cn (kx _) kr))))))))) rfl rfl
def cpr:List Ent:=[⟨.blt .len [38] 3,[op 0],.val (op 6)⟩,⟨.blt .len [38] 3,[op 1],.val (op 7)⟩,⟨.blt .max [3,3] 3,[op 6,op 7],.val (op 8)⟩,⟨.bin .sub 3,[op 8,vp (ii 1)],.val (op 2)⟩]
def col (b c:Bool):List Ent:=[⟨.bin .geq 3,[op 2,vp (ii 0)],.val (vp (.bool true))⟩,⟨.call 150,[op 0,op 2],.val (op 3)⟩,⟨.call 150,[op 1,op 2],.val (op 4)⟩,⟨.bin .lss 3,[op 3,op 4],.val (vp (.bool b))⟩,⟨.bin .gtr 3,[op 3,op 4],.val (vp (.bool c))⟩,⟨.bin .sub 3,[op 2,vp (ii 1)],.val (op 5)⟩]
def coo:List Ent:=[⟨.bin .geq 3,[op 2,vp (ii 0)],.val (vp (.bool false))⟩]
noncomputable def b_order:Code:=EB Tryz.f126
def Wb (m n:Nat):Int:=if m<n then -1 else if n<m then 1 else 0
theorem cnJ (v u:Value) (ds es:List Nat) (w:World) (h:Dg w v ds) (h':Dg w u es) (hds:Dig ds) (hes:Dig es):Calls Tryz.prog 126 #[v,u] w (fun e w'=>e=.returned (ii (Wb (nat ds) (nat es)))/\Below w.heap.size w w'):=by
 have hl:=h.len;have hl':=h'.len;have h0:∀ (ds:List Nat) j,ds.length<=j->ds.getD j 0=0:=fun ds j hj=>by rw[yR,yA hj];rfl
 obtain⟨k0,hk0,hk1,hk2⟩:∃ k0,idx k0=(if (es.length:Int)>(ds.length:Int) then (es.length:Int) else (ds.length:Int))-1/\ds.length<=k0/\es.length<=k0:=by
  refine⟨max ds.length es.length,?_,by omega,by omega⟩;split
  ·rw[show max ds.length es.length=es.length by omega];cases hk:es.length<;>simp [idx]<;>omega
  ·rw[show max ds.length es.length=ds.length by omega];cases hk:ds.length<;>simp [idx]<;>omega
 have hk3:idx k0<=9223372036854775807/\-1<=idx k0:=by rw[hk0];split<;>omega
 refine Cc (C:=C_order ds es k0 w) (f:=126) (args:=[op 0,op 1]) Tryz.func126 (c:=.seq (jQ b_order) (.seq (.seq (jQ (jQ (cE b_order))) (.block 0 (.loop (kq (kq (cE (jQ (cE b_order)))))))) (cE (cE b_order)))) rfl rfl (jo rfl) (vs:=[v,u]) ⟨_,_,rfl,(Gi rfl).2 h,_,_,rfl,(Gi rfl).2 h',rfl⟩ (fun a hA=>?_);have hT0:∀ t∈cpr,t.Valid (C_order ds es k0 w):=ce (yY jU (pd rfl) (rv rfl)) (ce (yY jU (pd rfl) (rv rfl)) (ce (e_max (pv rfl) (pv rfl) (rv rfl)) (ce (JO hk0.symm (pv rfl) pvl (rv rfl) (by omega)) cj)));refine cB (kf (KL _ _ _ _) hT0 (x:=.normal) (n:=30) (post:=[.val 0 (op 0),.val 1 (op 1)]) (by kernel_rfl) hA (fun a' w' hA=>?_));refine cB (cB (kf (KL _ _ _ _) hT0 (x:=.normal) (n:=30) (post:=[.val 0 (op 0),.val 1 (op 1),.val 5 (op 2)]) (by kernel_rfl) hA (fun a' w' hA=>?_)));have hR:∀ {f g:Act->World->Prop} a' w',bodyPost Tryz.prog Tryz.f126 (fun e w'=>e=.returned (ii (Wb (nat ds) (nat es)))/\Below w.heap.size w w') .ret a' w'->Exit.then f (Exit.inBlock 0 (Exit.then g (bodyPost Tryz.prog Tryz.f126 (fun e w'=>e=.returned (ii (Wb (nat ds) (nat es)))/\Below w.heap.size w w')))) Xt.ret.to a' w':=fun _ _ h=>h;refine uG (Θ:=Nat) (fun k a w'=>k<=k0/\(∀ j,k<=j->ds.getD j 0=es.getD j 0)/\At (C_order ds es k w) [.val 0 (op 0),.val 1 (op 1),.val 5 (op 2)] a w') id ?_ k0 ⟨cb _,fun j hj=>by rw[h0 _ _ (by omega),h0 _ _ (by omega)],hA⟩;rintro k a w1 ⟨hk,hs,hA⟩;cases k with
 |zero =>
  have hT:∀ t∈coo,t.Valid (C_order ds es 0 w):=ce (ceZ (pv rfl) pvl (cK (by decide))) cj;refine kf (KL _ _ _ _) hT (x:=.exit 0) (n:=30) (post:=[.val 0 (op 0)]) (by kernel_rfl) hA (fun a' w' hA=>?_);refine kf (KL _ _ _ _) hT (x:=.ret) (n:=30) (post:=[.val 4 (vp (ii 0))]) (by kernel_rfl) hA (fun a' w' hA=>ccJ rfl hA (fun v' hv=>⟨?_,hA.below⟩));rw[Gk.1 hv,cbG (fun j=>hs j (ju _))];simp [Wb]
 |succ m =>
  have hm:(m:Int)<=9223372036854775807:=by
   have:idx (m+1)<=idx k0:=by cases k0 with|zero=>omega|succ k0=>show (m:Int)<=(k0:Int);omega
   have:(m:Int)<=idx k0:=this;omega
  have hT:∀ b c,decide (((ds.getD m 0:Nat):Int)<((es.getD m 0:Nat):Int))=b->decide (((ds.getD m 0:Nat):Int)>((es.getD m 0:Nat):Int))=c->∀ t∈col b c,t.Valid (C_order ds es (m+1) w):=fun b c hb hc =>
   ce (ceZ (x:=(m:Int)) (pv rfl) pvl (cF (by omega))) (ce (WK (i:=m) (pd rfl) (pv rfl) (rv rfl)) (ce (WK (i:=m) (pd rfl) (pv rfl) (rv rfl)) (ce (CH (pv rfl) (pv rfl) hb) (ce (Ef (pv rfl) (pv rfl) hc) (ce (JO (x:=(m:Int)) (u:=idx m) (by cases m with|zero=>rfl|succ j=>show ((j+1:Nat):Int)-1=(j:Int);omega) (pv rfl) pvl (rv rfl) (by cases m with|zero=>decide|succ j=>show _<=(j:Int)/\(j:Int)<=_;omega)) cj)))))
  rcases KH (ds.getD m 0) (es.getD m 0) with hd|hd|hd
  ·refine kf (KL _ _ _ _) (hT true false (cF (by omega)) (cK (by omega))) (x:=.ret) (n:=30) (post:=[.val 4 (vp (ii (-1)))]) (by kernel_rfl) hA (fun a' w' hA=>hR a' w' (ccJ rfl hA (fun v' hv=>⟨?_,hA.below⟩)));rw[Gk.1 hv,Wb,co (cje hds hd (fun j hj=>hs j hj))]
  ·refine kf (KL _ _ _ _) (hT false false (cK (by omega)) (cK (by omega))) (x:=.normal) (n:=30) (post:=[.val 0 (op 0),.val 1 (op 1),.val 5 (op 5)]) (by kernel_rfl) hA (fun a' w' hA=>⟨m,⟨by omega,fun j hj=>?_,?_⟩,by simp⟩)
   ·rcases jd m j with h|h
    ·exact hs j h
    ·rw[show j=m by omega];exact hd
   ·exact at_re hA [(0,0),(1,1),(2,5)] (UL rfl (UL rfl (UL rfl ckU))) rfl rfl
  ·refine kf (KL _ _ _ _) (hT false true (cK (by omega)) (cF (by omega))) (x:=.ret) (n:=30) (post:=[.val 4 (vp (ii 1))]) (by kernel_rfl) hA (fun a' w' hA=>hR a' w' (ccJ rfl hA (fun v' hv=>⟨?_,hA.below⟩)));have:=cje hes hd (fun j hj=>(hs j hj).symm);rw[Gk.1 hv,Wb,cg (by omega),co this]
end Sym
namespace Sym
def digs (n:Nat):List Nat:=if n=0 then [] else n%10000::digs (n/10000)
theorem digs_zero:digs 0=[]:=by unfold digs;simp
theorem digs_pos {n:Nat}(h:n≠0):digs n=n%10000::digs (n/10000):=by rw[digs,cg h]
theorem digs_len:∀ (k n:Nat),n<10000^k->(digs n).length<=k
 |0,n,h=>by
  have:n=0:=by simpa using h
  subst this;simp [digs_zero]
 |k+1,n,h=>by
  by_cases h0:n=0
  ·subst h0;simp [digs_zero]
  ·rw[digs_pos h0];have:=digs_len k (n/10000) (by rw[Nat.div_lt_iff_lt_mul (by decide)];rw[ji] at h;exact h);simp only[uP];omega
abbrev Own (B:Nat) (w:World) (z:Value) (l:List Nat):Prop:=w.ownsRow B 3 1 z l.length (l.map (fun d:Nat=>ii (d:Int)))
theorem Own.below {B:Nat}{w w':World}{z:Value}{l:List Nat}(h:Own B w z l) (hb:Below w.heap.size w w'):Own B w' z l :=
 h.kept (row:=none) ⟨hb.os,hb.tape,hb.output,hb.size,fun k hk _=>hb.block k hk⟩ (by cases z.ownBlock<;>simp)
theorem Own.dg {B:Nat}{w:World}{z:Value}{l:List Nat}(h:Own B w z l):Dg w z l:=by
 obtain⟨h1,h2⟩:=h;rcases h2 with⟨rfl,h3⟩|⟨g,cap,cur,rfl,hb,hg,hn,hc,hs,ht⟩
 ·have:l=[]:=List.eq_nil_of_length_eq_zero h3;subst this;exact Dg.nil w
 ·refine⟨_,cap,rfl,hn,by simp only[maxLen] at hc;omega,fun _=>⟨g,0,rfl,⟨cur,_,hg⟩,fun i hi=>?_⟩⟩;have h5:(cur.toList.take (l.length*1))[i]?=(l.map (fun d:Nat=>ii (d:Int)))[i]?:=by rw[ht]
  rw[yF,co (by omega),JF,kb hi] at h5;simp only[World.cell?,hg,je];rw[← ciY,h5];simp [List.getD,hi]
theorem Own.one {B:Nat}{w:World}{z:Value}{l:List Nat}(h:Own B w z l):z.oneCell'=true:=by
 rcases h.2 with⟨rfl,_⟩|⟨g,cap,cur,rfl,_⟩<;>rfl
theorem Own.fresh {B k:Nat}{w:World}(h:w.heap[k]?=some (.cells #[] 3 (0,0))) (hB:B<=k):Own B w (.slice (some ⟨k,0,none⟩) 0 0) [] :=
 ⟨rfl,.inr ⟨k,0,#[],rfl,hB,h,cb _,by decide,rfl,rfl⟩⟩
theorem wp_add {ops:Array Oper}{rest:List Oper}{o:Oper}{a:Act}{w:World}{Q:Exit->Act->World->Prop}{B s x d k:Nat}{z:Value}{l:List Nat}(hgd:o.guard=none) (ho:o.op=.call { callee:=.builtin .append,args:=#[.tmp s,.tmp x],argTypes:=#[38,38] })
 (hs:a.tmps[s]?=some z) (hx:a.tmps[x]?=some (.slice (some ⟨k,0,none⟩) 1 1)) (hk:w.heap[k]?=some (.cells #[ii (d:Int)] 3 (0,0))) (hown:Own B w z l) (hB:B<=w.heap.size) (hl:l.length<1000000000)
 (h:∀ z' w',Own B w' z' (l++[d])->w.grownBy w' z.ownBlock->wpList Tryz.prog ops Q rest (a.put o.dst z') w'):wpList Tryz.prog ops Q (o::rest) a w:=by
 have hs':a.eval (.tmp s)=z:=by simp [Act.eval,uX,hs]
 have hx':a.eval (.tmp x)=.slice (some ⟨k,0,none⟩) 1 1:=by simp [Act.eval,uX,hx]
 obtain⟨i,hi,hz,q1,q2⟩:∃ i,Tryz.prog.info? 3=some i/\i.zero=some (ii 0)/\i.size=1/\i.bytes=8:=by
  have h:(Tryz.prog.info? 3).map (fun i=>(i.zero,i.size,i.bytes))=some (some (ii 0),1,8):=by kernel_rfl
  obtain⟨i,h1,h2⟩:=Option.map_eq_some_iff.1 h;simp only[cr] at h2;exact⟨i,h1,h2.1,h2.2.1,h2.2.2⟩
 refine cjc w hgd (.tmp s) (.tmp x) 38 ho B 3 i (ii 0) 1 8 (by kernel_rfl) hi hz q1 q2 rfl (by decide) z l.length _ hs' hown ⟨k,0,none⟩ 1 1 [ii (d:Int)] hx' rfl ?_ ?_ (by simp only[maxLen];omega) (by omega) hB ?_
 ·intro j u hj;cases j with
  |zero =>
   have hj:u=ii (d:Int):=by simpa using hj.symm
   subst hj;show w.cell? ⟨k,0,none⟩=_;simp [World.cell?,hk]
  |succ j=>simp at hj
 ·intro u hu;have:u=ii (d:Int):=by simpa using hu
  subst this;rfl
 ·intro z' w' h1 h2 _;refine h z' w' ?_ h2;have:Own B w' z' (l++[d])=w'.ownsRow B 3 1 z' (l.length+1) ((l.map (fun d:Nat=>ii (d:Int)))++[ii (d:Int)]):=by simp [Own]
  rw[this];exact h1
theorem CW {a:Act}{d:Nat}{v:Value}(h:d<a.tmps.size):(a.put (some d) v).tmps[d]?=some v:=by simp [Act.put,h]
theorem cjz {a:Act}{d t:Nat}{v:Value}(h:t≠d):(a.put (some d) v).tmps[t]?=a.tmps[t]?:=by simp [Act.put,Ne.symm h]
theorem cgZ {ops:Array Oper}{rest:List Oper}{o:Oper}{a:Act}{w:World}{Q:Exit->Act->World->Prop}(hgd:o.guard=none) (ho:o.op=.buildSlice 38 0 #[])
 (h:wpList Tryz.prog ops Q rest (a.put o.dst (.slice (some ⟨w.heap.size,0,none⟩) 0 0)) (w.alloc (.cells #[] 3))):wpList Tryz.prog ops Q (o::rest) a w:=by
 refine YE hgd fun K hK=>?_;have hr:(Instr.buildSlice 38 0 #[]).run Tryz.prog w=.ok (.slice (some ⟨w.heap.size,0,none⟩) 0 0) (w.alloc (.cells #[] 3)):=by
  have hu:Tryz.prog.underlying 38=some (.slice 3):=by kernel_rfl
  simp [Instr.buildSlice,ud hu,Kc,Instr.fill,newRow];rw[show Array.map (fun _:Nat=>(default:Value)) (Array.range 0)=#[] from lemZ1 (by rw[Array.size_map,Array.size_range])]
 unfold Oper.wp execOp;simp only[ho,Array.map_empty,List.map_toArray,kW,jc,hr,jC];exact hK _ _ h
abbrev ui (n:Nat):Value:=.int .u64 (n:Int)
theorem cfw {okT:List Nat}{B:Nat}(n:Nat):(clW (ui n)).Ok okT B:=Ga rfl
theorem clWi_ok {okT:List Nat}{B:Nat}(n:Int):(clW (ii n)).Ok okT B:=Ga rfl
abbrev cou (n:Nat) (z:Value):List Cl:=[clW (ui n),clW z,clW (ui (n%10000)),clW (ii ((n%10000:Nat):Int)),clW (ui (n/10000))]
noncomputable abbrev C_small (n:Nat) (z:Value) (w:World):Ctx:=mkC [1,1,1,1,1] [false,false,false,false,false] [] 16 (cou n z) w
theorem WY (n:Nat) {z:Value}(hz:z.oneCell'=true) (w:World):(C_small n z w).Ok :=
 uw (cn (cfw _) (cn (Ga hz) (cn (cfw _) (cn (clWi_ok _) (cn (cfw _) kr))))) rfl rfl
def chC (b:Bool):List Ent:=[⟨.bin .gtr 31,[op 0,vp (ui 0)],.val (vp (.bool b))⟩]
def cot:List Ent:=[⟨.bin .rem 31,[op 0,vp (ui 10000)],.val (op 2)⟩,⟨.cv 31 3,[op 2],.val (op 3)⟩,⟨.bin .quo 31,[op 0,vp (ui 10000)],.val (op 4)⟩]
noncomputable def b_small:Code:=EB Tryz.f99
noncomputable def l_small:Code:=kq (kq (jQ (cE (cE b_small))))
noncomputable def r_small:Code:=jQ (kq (cE l_small))
theorem clb (n:Nat) (hn:n<18446744073709551616) (z:Value) (w:World):∀ t∈cot,t.Valid (C_small n z w) :=
 ce (ckd (k:=.u64) (m:=n) (n:=10000) (pvW rfl) pvl (rvW rfl) (by decide)) (ce (e_cv (by kernel_rfl) (by kernel_rfl) (by kernel_rfl) (pvW rfl) (rvW rfl) (by rw[zH];omega)) (ce (cfa (k:=.u64) (m:=n) (n:=10000) (pvW rfl) pvl (rvW rfl) (by decide) (by rw[zA];omega)) cj))
theorem cog (n0:Nat) (hn0:n0<18446744073709551616) (w:World):Calls Tryz.prog 99 #[ui n0] w (fun e w'=>∃ v,e=.returned v/\Dg w' v (digs n0)/\Below w.heap.size w w'):=by
 have hlen:(digs n0).length<=5:=digs_len 5 n0 (by omega);refine Cc (C:=C_small n0 (ii 0) w) (f:=99) (args:=[op 0]) Tryz.func99 (c:=.seq (jQ b_small) (.seq (jQ (cE b_small)) (.seq (.block 0 (.loop l_small)) (cE (cE (cE b_small)))))) rfl rfl (jo rfl) (vs:=[ui n0]) ⟨_,_,rfl,(yX rfl).2 rfl,rfl⟩ (fun a hA=>?_);refine cB (kf (WY n0 rfl w) (T:=[]) cj (x:=.normal) (n:=30) (post:=[.val 0 (op 0)]) (by kernel_rfl) hA (fun a' w' hA=>?_));obtain⟨s0,_⟩:=GZ rfl hA.items;refine cB ?_;show (Code.region 1 (Jz (jQ (cE b_small))).toArray false).wp Tryz.prog _ _ _;refine YC (cgZ rfl rfl ?_);have hz:Own w.heap.size (w'.alloc (.cells #[] 3)) (.slice (some ⟨w'.heap.size,0,none⟩) 0 0) []:=Own.fresh (Gh w' _) hA.below.size;have hb1:Below w.heap.size w (w'.alloc (.cells #[] 3)):=hA.below.alloc hA.below.size _;have hsz:4<a'.tmps.size:=by rw[hA.size];show 4<16;decide
 have hA:At (C_small n0 (.slice (some ⟨w'.heap.size,0,none⟩) 0 0) (w'.alloc (.cells #[] 3))) [.val 0 (op 0),.val 4 (op 1)] (a'.put (some 4) (.slice (some ⟨w'.heap.size,0,none⟩) 0 0)) (w'.alloc (.cells #[] 3)) :=
  chm [(0,0,ui n0),(4,1,.slice (some ⟨w'.heap.size,0,none⟩) 0 0)] ((ue _ _ _).trans hA.defers) ((uI _ _ _).trans hA.size) (zg ⟨(cjz (show (0:Nat)≠4 by decide)).trans s0,rfl⟩ (zg ⟨CW hsz,rfl⟩ Wc))
 refine cgn (WY n0 rfl _) (T:=[]) cj (post:=[.val 0 (op 0),.val 3 (op 1)]) (by kernel_rfl) hA (fun a' w2 hA=>?_);obtain⟨s0,hI⟩:=GZ rfl hA.items;obtain⟨s3,_⟩:=GZ rfl hI;refine cB (uG (Θ:=Nat) (fun n a w1=>∃ z l,digs n0=l++digs n/\n<=n0/\a.defers=[]/\a.tmps.size=16/\a.tmps[0]?=some (ui n)/\a.tmps[3]?=some z/\Own w.heap.size w1 z l/\Below w.heap.size w w1) id ?_ n0 ⟨_,[],rfl,cb _,hA.defers,hA.size,s0,s3,hz.below hA.below,hb1.trans (hA.below.mono hb1.size)⟩);rintro n a w1 ⟨z,l,hl,hn,hd,hs,s0,s3,hown,hb⟩;have hA:At (C_small n z w1) [.val 0 (op 0),.val 3 (op 1)] a w1:=chm [(0,0,ui n),(3,1,z)] hd hs (zg ⟨s0,rfl⟩ (zg ⟨s3,rfl⟩ Wc));have hC:=WY n hown.one w1;by_cases h0:n=0
 ·subst h0;have hT:∀ t∈chC false,t.Valid (C_small 0 z w1):=ce (Ef (pvW rfl) pvl (cK (by omega))) cj;refine cB (kf hC hT (x:=.exit 0) (n:=30) (post:=[.val 3 (op 1)]) (by kernel_rfl) hA (fun a' w' hA=>?_));refine kf hC (T:=[]) cj (x:=.ret) (n:=30) (post:=[.val 2 (op 1)]) (by kernel_rfl) hA (fun a' w' hA=>ccJ rfl hA (fun v hv=>⟨v,rfl,?_,?_⟩))
  ·rw[(yX rfl).1 hv,hl,digs_zero,ug];exact(hown.below hA.below).dg
  ·exact hb.trans (hA.below.mono hb.size)
 ·have hT:∀ t∈chC true,t.Valid (C_small n z w1):=ce (Ef (pvW rfl) pvl (cF (by omega))) cj;refine cB (kf hC hT (x:=.normal) (n:=30) (post:=[.val 0 (op 0),.val 3 (op 1)]) (by kernel_rfl) hA (fun a' w' hA=>?_));refine CU (cB ?_);obtain⟨s0,hI⟩:=GZ rfl hA.items;obtain⟨s3,_⟩:=GZ rfl hI;have hd:=hA.defers;have hs:=hA.size;have hown:=hown.below hA.below;have hb:=hb.trans (hA.below.mono hb.size);have hA:At (C_small n z w') [.val 0 (op 0),.val 3 (op 1)] a' w':=chm [(0,0,ui n),(3,1,z)] hd hs (zg ⟨s0,rfl⟩ (zg ⟨s3,rfl⟩ Wc));have hT:=clb n (by omega) z w';show (Code.region 3 (Jz r_small).toArray false).wp Tryz.prog _ _ _;refine YC ?_;show wpList _ _ _ ((Jz r_small).take 5++(Jz r_small).drop 5) _ _;refine caA (WY n hown.one w') hT (post:=[.val 0 (op 0),.val 7 (op 1),.own 11 3 1 [.cls 3 1]]) (by kernel_rfl) hA (fun a3 w3 hA=>?_);obtain⟨s0,hI⟩:=GZ rfl hA.items;obtain⟨s7,hI⟩:=GZ rfl hI;obtain⟨⟨k,vs,s11,hk,hkc,hvs⟩,_⟩:=hI;have hvs:vs=[ii ((n%10000:Nat):Int)]:=by
   obtain⟨xs,ys,rfl,⟨f,hE,rfl⟩,hy⟩:=hvs;rw[show ys=[] from hy];have hE:f 0=ii ((n%10000:Nat):Int):=hE;simp [yW,hE]
  subst hvs;have hB:w.heap.size<=w3.heap.size:=cA hb.size hA.below.size;have hll:l.length<1000000000:=by
   have:(digs n0).length=l.length+(digs n).length:=by rw[hl,kI]
   omega
  have hb:=hb.trans (hA.below.mono hb.size);have hown:=hown.below hA.below;refine wp_add rfl rfl s7 s11 hkc hown hB hll (fun z' w4 hown' hgr=>?_);have hsz:12<a3.tmps.size:=by rw[hA.size];show 12<16;decide
  have hb4:Below w.heap.size w w4:=hb.trans ⟨hgr.os,hgr.tape,hgr.output,hgr.size,fun i hi=>hgr.block i (by omega) (fun e=>by have:=hown.lt i e.symm;omega)⟩;have hA:At (C_small n z' w4) [.val 0 (op 0),.val 12 (op 1)] (a3.put (some 12) z') w4 :=
   chm [(0,0,ui n),(12,1,z')] ((ue _ _ _).trans hA.defers) ((uI _ _ _).trans hA.size) (zg ⟨(cjz (show (0:Nat)≠12 by decide)).trans s0,rfl⟩ (zg ⟨CW hsz,rfl⟩ Wc))
  have hC:=WY n hown'.one w4;refine cgn hC (T:=[]) cj (post:=[.val 0 (op 0),.val 3 (op 1)]) (by kernel_rfl) hA (fun a5 w5 hA=>?_);show (cE (kq (cE l_small))).wp Tryz.prog _ _ _;have hb5:=hb4.trans (hA.below.mono hb4.size);have hown5:=hown'.below hA.below;obtain⟨s0,hI⟩:=GZ rfl hA.items;obtain⟨s3,_⟩:=GZ rfl hI;have hA:At (C_small n z' w5) [.val 0 (op 0),.val 3 (op 1)] a5 w5:=chm [(0,0,ui n),(3,1,z')] hA.defers hA.size (zg ⟨s0,rfl⟩ (zg ⟨s3,rfl⟩ Wc));refine kf (WY n hown'.one w5) (clb n (by omega) z' w5) (x:=.normal) (n:=30) (post:=[.val 0 (op 4),.val 3 (op 1)]) (by kernel_rfl) hA (fun a6 w6 hA=>?_);obtain⟨s0,hI⟩:=GZ rfl hA.items;obtain⟨s3,_⟩:=GZ rfl hI;refine⟨n/10000,⟨z',l++[n%10000],?_,by omega,hA.defers,hA.size,s0,s3,hown5.below hA.below,hb5.trans (hA.below.mono hb5.size)⟩,by show n/10000<n;omega⟩;rw[hl,digs_pos h0,uM];rfl
end Sym
end Go.Proofs.YtdopipkmcnkdjaaGreatDoor
