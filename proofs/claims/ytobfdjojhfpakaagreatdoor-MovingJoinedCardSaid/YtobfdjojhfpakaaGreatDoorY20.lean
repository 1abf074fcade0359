/- Part 20. -/
import Derived.Test.YtobfdjojhfpakaaGreatDoorY19
import Derived.Test.YtobfdjojhfpakaaGreatDoorChecked
import Derived.Test.YtobfdjojhfpakaaGreatDoorY18
import Derived.Laws.AppendOwn
import Derived.Laws.OwnMore
import Derived.OwnWalk
set_option linter.all false
open List (append_nil map_cons mem_cons mem_cons_of_mem size_toArray)
open Nat (eq_of_beq_eq_true le_of_ble_eq_true le_refl lt_or_ge zero_add)
open Go.Result (andThen_ok)
open Go.Sem (run_bind run_pure)

namespace Go.Proofs.YtobfdjojhfpakaaGreatDoor
open Go Go.RowKit Go.Proofs Lim
section
variable {P:Program}{ops:Array Oper}{Q:Exit->Act->World->Prop}{md:Region.Mode}
def left (l:Array Bool):Nat:=(l.toList.filter (fun b=>!b)).length
theorem cek {l:Array Bool}{i:Nat}(h:l[i]?=some false):left (l.setIfInBounds i true)+1=left l:=by
 obtain⟨xs⟩:=l;unfold left;simp only[List.getElem?_toArray] at h;simp only[List.setIfInBounds_toArray]
 induction xs generalizing i with
 |nil=>simp at h
 |cons x xs ih =>
  cases i with
  |zero=>simp at h;subst h;simp
  |succ i =>
   simp at h;have:=ih h;cases x<;>simp [List.set_cons_succ]<;>omega
theorem ciW (Inv:Array Bool->Act->World->Prop)
 (step:∀ l a w i,l.size=ops.size->Inv l a w->i∈Region.ready md ops l->wpOp P ops Q i (fun a' w'=>Inv (l.setIfInBounds i true) a' w') a w)
 (done:∀ l a w,l.size=ops.size->Inv l a w->Region.ready md ops l=[]->Q .normal a w) :
 ∀ (fuel:Nat) (l:Array Bool) (a:Act) (w:World),l.size=ops.size->left l<=fuel->Inv l a w->wpAny P md ops Q fuel l a w:=by
 intro fuel
 induction fuel with
 |zero =>
  intro l a w hs hl hi;have hr:Region.ready md ops l=[]:=by
   cases hx:Region.ready md ops l with
   |nil=>rfl
   |cons i is =>
    have hm:i∈Region.ready md ops l:=by rw[hx];simp
    have h1:=(mem_ready.1 hm).1;have hlt:i<l.size:=by
     rcases lt_or_ge i l.size with h|h
     ·exact h
     ·simp [Array.getElem?_eq_none h] at h1
    have h2:l[i]?=some false:=by
     rw[Array.getElem?_eq_getElem hlt];simp [hlt] at h1;rw[h1]
    have:=cek h2;omega
  exact⟨hr,done l a w hs hi hr⟩
 |succ fuel ih =>
  intro l a w hs hl hi;refine⟨fun hr=>done l a w hs hi hr,fun i hm=>?_⟩;have h1:=(mem_ready.1 hm).1;have hlt:i<l.size:=by
   rcases lt_or_ge i l.size with h|h
   ·exact h
   ·simp [Array.getElem?_eq_none h] at h1
  have h2:l[i]?=some false:=by
   rw[Array.getElem?_eq_getElem hlt];simp [hlt] at h1;rw[h1]
  have h3:=cek h2;exact wpOp_mono (fun a' w' h=>ih _ a' w' (by simpa using hs) (by omega) h) (step l a w i hs hi hm)
theorem cde {l:Array Bool}(hs:l.size=ops.size) (ht:∀ (i:Nat) (o:Oper),ops[i]?=some o->∀ e∈o.after,Region.binds md e=true->e.on<i) (hr:Region.ready md ops l=[]) :
 ∀ i,i<ops.size->l[i]?=some true:=by
 intro i
 induction i using Nat.strongRecOn with
 |ind i ih =>
  intro hi;have hl:i<l.size:=by omega
  rw[Array.getElem?_eq_getElem hl];cases hb:l[i] with
  |true=>rfl
  |false =>
   exfalso;have hm:i∈Region.ready md ops l:=by
    refine mem_ready.2 ⟨by simp [hl,hb],ops[i],Array.getElem?_eq_getElem hi,fun e he hbi=>?_⟩;have h1:=ht i ops[i] (Array.getElem?_eq_getElem hi) e he hbi;have h2:=ih e.on h1 (by omega);simp [h2]
   rw[hr] at hm;cases hm
end
namespace Sym
section
variable {C:Ctx}{T:List Ent}{ops:Array Oper}{Q:Exit->Act->World->Prop}
theorem jX.drew (hC:C.Ok) {e:Env}{a:Act}{w:World}{V:kF}(hg:cS C e a w) (hV:jX C e a w V):jX C e a { w with drawn:=w.drawn+1 } V :=
 jX.below hC hg ⟨rfl,rfl,rfl,le_refl _,fun _ _=>rfl⟩ hV
theorem cS.drew {e:Env}{a:Act}{w:World}(hg:cS C e a w):cS C e a { w with drawn:=w.drawn+1 } :=
 hg.later ⟨rfl,rfl,rfl,le_refl _,fun _ _=>rfl⟩
theorem Inv.first {K:List (List Key)}{W:List Ws}{st:St}{pres:List Nat}{n:Nat}{a:Act}{w:World}(h:Sat C st a w):Inv C K W (fun k=>find k st.m) st.nb pres n (Array.replicate n false) a w:=by
 obtain⟨e,hk,hg,h1,h2⟩:=h;have hf:∀ j,(Array.replicate n false).getD j false=false:=by
  intro j;simp only[Array.getD_eq_getD_getElem?,Array.getElem?_replicate];split<;>rfl
 refine⟨by simp,fun i hi=>absurd hi (by rw[hf];simp),e,?_,hg,fun b k hb=>.inl (h1 b k hb),fun s f hs=>.inl (h2 s f hs)⟩;intro k v hkv;apply hk k v;have hkv:kv W (Array.replicate n false) k K 0 (find k st.m)=some v:=hkv;rw[Uz (fun x ks _ _=>hf _)] at hkv;exact hkv
theorem cai {I:Array Bool->Act->World->Prop}(step:∀ l a w i,I l a w->l[i]?=some false->(∀ j,j<i->l.getD j false=true)->wpOp C.P ops Q i (fun a' w'=>I (l.setIfInBounds i true) a' w') a w)
 (done:∀ l a w,I l a w->(∀ j,j<ops.size->l.getD j false=true)->Q .normal a w) (hsz:∀ l a w,I l a w->l.size=ops.size) :
 ∀ (n i:Nat) (l:Array Bool) (a:Act) (w:World),i+n=ops.size->I l a w->(∀ j,j<i->l.getD j false=true)->(∀ j,i<=j->j<ops.size->l[j]?=some false)->wpOps C.P ops Q (List.range' i n) a w
 |0,i,l,a,w,hin,hI,h1,h2=>done l a w hI (fun j hj=>h1 j (by omega))
 |n+1,i,l,a,w,hin,hI,h1,h2=>by
  rw[List.range'_succ,wpOps_cons];have hil:i<l.size:=by rw[hsz l a w hI];omega
  refine wpOp_mono (fun a' w' h=>?_) (step l a w i hI (h2 i (le_refl _) (by omega)) h1);refine cai step done hsz n (i+1) _ a' w' (by omega) h ?_ ?_
  ·intro j hj;rw[jS hil];split
   ·rfl
   ·exact h1 j (by omega)
  ·intro j hj hjs;rw[Array.getElem?_setIfInBounds,if_neg (by omega)];exact h2 j (by omega) hjs
theorem chy (hC:C.Ok) (hT:∀ t∈T,t.Valid C) {id:Nat}{draw:Bool}{st st':St}(h:region C.toStat T ops.toList st=some st') {a:Act}{w:World}(hs:Sat C st a w) (hQ:∀ a' w',Sat C st' a' w'->Q .normal a' w') :
 (Code.region id ops draw).wp C.P Q a w:=by
 unfold region at h;split at h
 ·cases h
 ·rename_i hord;split at h
  ·cases h
  ·rename_i K hK;split at h
   ·cases h
   ·rename_i hKl;split at h
    ·cases h
    ·rename_i hu;split at h
     ·rename_i W hW;injection h with h
      subst h;cases draw with
      |true =>
       refine wp_region_any hC.mixed ?_;have hs':Sat C st a { w with drawn:=w.drawn+1 }:=by
        obtain⟨e,hk,hg,h1,h2⟩:=hs;exact⟨e,hk.drew hC hg,hg.drew,h1,h2⟩
       refine ciW (Inv C K W (fun k=>find k st.m) st.nb (cH [] ops.toList) ops.size) ?_ ?_ ops.size _ a _ (by simp) (by unfold left;simp) (Inv.first hs')
       ·intro l a w i hsz hI hi;obtain⟨hi1,o,ho,hr⟩:=mem_ready.1 hi;have hlt:i<l.size:=by
         rcases lt_or_ge i l.size with h|h
         ·exact h
         ·simp [Array.getElem?_eq_none h] at hi1
        refine Inv.step hC hT hKl hu hW hI ?_ ?_
        ·rw[Array.getElem?_eq_getElem hlt];simp [hlt] at hi1;rw[hi1]
        ·intro o' ho';rw[ho] at ho';injection ho' with ho';subst ho'
         exact hr
       ·intro l a w hsz hI hr;refine hQ a w (Inv.done hKl hW hI ?_);have:=cde (ops:=ops) (md:=.any) hsz (fun i o ho ed hed hb=>by
         have:=uf hord i o (by simpa using ho) ed hed hb;simpa using this) hr
        intro i hi;simp [Array.getD_eq_getD_getElem?,this i hi]
      |false =>
       refine wp_region ?_;rw[List.range_eq_range'];refine cai (I:=Inv C K W (fun k=>find k st.m) st.nb (cH [] ops.toList) ops.size) ?_ ?_ ?_ ops.size 0 (Array.replicate ops.size false) a w (by omega) (Inv.first hs) (fun j hj=>by omega) ?_
       ·intro l a w i hI hi hlt;refine Inv.step hC hT hKl hu hW hI hi ?_;intro o ho ed hed hb;have:=uf hord i o (by simpa using ho) ed hed hb;exact hlt ed.on (by simpa using this)
       ·intro l a w hI hall;exact hQ a w (Inv.done hKl hW hI hall)
       ·intro l a w hI;exact hI.size
       ·intro j _ hj;simp [Array.getElem?_replicate,hj]
     ·cases h
inductive Xt where
 |normal
 |exit (id:Nat)
 |ret
def Xt.to:Xt->Exit
 |.normal=>.normal
 |.exit id=>.exit id
 |.ret=>.ret
def yX (f:St->Option (Xt×St)):Nat->St->Option (Xt×St)
 |0,_=>none
 |n+1,st=>match f st with
  |some (.normal,st')=>yX f n st'
  |r=>r
def kM (S:Stat) (T:List Ent):Nat->Code->St->Option (Xt×St)
 |0,_,_=>none
 |n+1,c,st=>match c with
  |.skip=>some (.normal,st)
  |.label _=>some (.normal,st)
  |.exit id=>some (.exit id,st)
  |.ret=>some (.ret,st)
  |.region _ ops _=>match region S T ops.toList st with
   |some st'=>some (.normal,st')
   |none=>none
  |.seq x y=>match kM S T n x st with
   |some (.normal,st')=>kM S T n y st'
   |r=>r
  |.cond x c d=>match lit? (cu (fun k=>find k st.m) x) with
   |some (.bool true)=>kM S T n c st
   |some (.bool false)=>kM S T n d st
   |_=>none
  |.block id c=>match kM S T n c st with
   |some (.exit j,st')=>match Nat.beq j id with
    |true=>some (.normal,st')
    |false=>some (.exit j,st')
   |r=>r
  |.scope c=>kM S T n c st
  |.loop c=>yX (fun st=>kM S T n c st) n st
  |_=>none
def EM (C:Ctx) (x:Xt) (st:St):Exit->Act->World->Prop:=fun e a w=>e=x.to/\Sat C st a w
theorem zv {c:Code}{f:St->Option (Xt×St)}(hf:∀ st x st',f st=some (x,st')->∀ a w,Sat C st a w->c.wp C.P (EM C x st') a w) :
 ∀ (n:Nat) (st:St) (x:Xt) (st':St),yX f n st=some (x,st')->∀ a w,Sat C st a w->x≠.normal/\∀ (b:Frame) (k:List Item) (cs:List Frame),
  ∃ e a' w',EM C x st' e a' w'/\Arrives C.P (lone (b.at a (.code c::.inLoop c::k)) cs w) b k cs e a' w'
 |0,st,x,st',h,a,w,hs=>by simp [yX] at h
 |n+1,st,x,st',h,a,w,hs=>by
  unfold yX at h;split at h
  ·rename_i st1 h1;have hb:=hf _ _ _ h1 a w hs;constructor
   ·obtain⟨e,a₁,w₁,⟨rfl,hq⟩,harr⟩:=hb default [] [];exact(zv hf n st1 x st' h a₁ w₁ hq).1
   ·intro b k cs;obtain⟨e,a₁,w₁,⟨rfl,hq⟩,harr⟩:=hb b (.inLoop c::k) cs;obtain⟨e₂,a₂,w₂,hq₂,harr₂⟩:=(zv hf n st1 x st' h a₁ w₁ hq).2 b k cs;exact⟨e₂,a₂,w₂,hq₂,.of_steps (Steps.trans harr (.one step_inLoop)) harr₂⟩
  ·rename_i hne;have hb:=hf _ _ _ h a w hs;constructor
   ·intro hx;subst hx;exact hne st' h
   ·intro b k cs;obtain⟨e,a₁,w₁,⟨rfl,hq⟩,harr⟩:=hb b (.inLoop c::k) cs;cases x with
    |normal=>exact absurd h (hne st')
    |exit id=>exact⟨_,a₁,w₁,⟨rfl,hq⟩,.pass (x:=.inLoop c) rfl (fun _ _=>.inl (by simp [Xt.to])) harr⟩
    |ret=>exact⟨_,a₁,w₁,⟨rfl,hq⟩,.pass (x:=.inLoop c) rfl (fun _ _=>.inl (by simp [Xt.to])) harr⟩
theorem jH (hC:C.Ok) (hT:∀ t∈T,t.Valid C):∀ (n:Nat) (c:Code) (st:St) (x:Xt) (st':St),kM C.toStat T n c st=some (x,st')->∀ a w,Sat C st a w->c.wp C.P (EM C x st') a w
 |0,c,st,x,st',h,a,w,hs=>by simp [kM] at h
 |n+1,c,st,x,st',h,a,w,hs=>by
  unfold kM at h;split at h
  ·injection h with h;injection h with h1 h2;subst h1;subst h2
   exact wp_skip ⟨rfl,hs⟩
  ·injection h with h;injection h with h1 h2;subst h1;subst h2
   exact wp_label ⟨rfl,hs⟩
  ·injection h with h;injection h with h1 h2;subst h1;subst h2
   exact wp_exit ⟨rfl,hs⟩
  ·injection h with h;injection h with h1 h2;subst h1;subst h2
   exact wp_ret ⟨rfl,hs⟩
  ·split at h
   ·rename_i st1 h1;injection h with h;injection h with h3 h2;subst h3;subst h2
    exact chy hC hT h1 hs (fun a' w' h=>⟨rfl,h⟩)
   ·cases h
  ·rename_i x1 y1;apply wp_seq;split at h
   ·rename_i st1 h1;refine wp_mono (jH hC hT n _ _ _ _ h1 a w hs) ?_;rintro e a' w' ⟨rfl,hs'⟩;exact jH hC hT n _ _ _ _ h a' w' hs'
   ·rename_i hne;refine wp_mono (jH hC hT n _ _ _ _ h a w hs) ?_;rintro e a' w' ⟨rfl,hs'⟩;cases x with
    |normal=>exact absurd h (hne st')
    |exit id=>exact⟨rfl,hs'⟩
    |ret=>exact⟨rfl,hs'⟩
  ·rename_i x1 c1 d1;obtain⟨e,hk,hg,h1,h2⟩:=hs;split at h
   ·rename_i hl;exact wp_cond_true (jN hk hl) (jH hC hT n _ _ _ _ h a w ⟨e,hk,hg,h1,h2⟩)
   ·rename_i hl;exact wp_cond_false (jN hk hl) (jH hC hT n _ _ _ _ h a w ⟨e,hk,hg,h1,h2⟩)
   ·cases h
  ·rename_i id1 c1;apply wp_block;split at h
   ·rename_i j st1 h1;split at h
    ·rename_i hj;injection h with h;injection h with h3 h2;subst h3;subst h2
     refine wp_mono (jH hC hT n _ _ _ _ h1 a w hs) ?_;rintro e a' w' ⟨rfl,hs'⟩;simp only[Xt.to,Exit.inBlock,eq_of_beq_eq_true hj,if_true];exact⟨rfl,hs'⟩
    ·rename_i hj;injection h with h;injection h with h3 h2;subst h3;subst h2
     refine wp_mono (jH hC hT n _ _ _ _ h1 a w hs) ?_;rintro e a' w' ⟨rfl,hs'⟩;have:¬ j=id1:=by
      rintro rfl;simp at hj
     simp only[Xt.to,Exit.inBlock,if_neg this];exact⟨rfl,hs'⟩
   ·rename_i hne;refine wp_mono (jH hC hT n _ _ _ _ h a w hs) ?_;rintro e a' w' ⟨rfl,hs'⟩;cases x with
    |normal=>exact⟨rfl,hs'⟩
    |exit id=>exact absurd h (hne id st')
    |ret=>exact⟨rfl,hs'⟩
  ·apply wp_scope_straight;refine wp_mono (jH hC hT n _ _ _ _ h a w hs) ?_;rintro e a' w' ⟨rfl,hs'⟩;cases x<;>exact⟨rfl,hs'⟩
  ·intro b k cs;obtain⟨e,a',w',h1,h2⟩:=(zv (fun st x st' h=>jH hC hT n _ st x st' h) n st x st' h a w hs).2 b k cs;exact⟨e,a',w',h1,.of_steps (.one step_loop) h2⟩
  ·cases h
def Uo (P:Program) (V:kF):List ResultVar->Option (List A1)
 |[]=>some []
 |r::l=>match Uo P V l with
  |none=>none
  |some xs=>match r with
   |.tmp t=>match cu V (.tmp t) with
    |some (.val x)=>some (x::xs)
    |_=>none
   |.cell a t=>match ptr? (cu V (.tmp a)) with
    |some (b,o)=>match JY P V t b o with
     |some x=>some (x::xs)
     |none=>none
    |none=>none
def UA (tmps:Array Value):ResultVar->Sem Value
 |.tmp t=>pure (tmps.getD t undef)
 |.cell p t=>do loadVar t (← asAddr (tmps.getD p undef))
theorem ug (fn:Func) (tmps:Array Value):results fn tmps=(do let vs ← fn.results.mapM (UA tmps);pure (if h:vs.size=1 then vs[0] else .tuple vs)):=by
 unfold results;congr
theorem JO {e:Env}{a:Act}{w:World}{V:kF}(hV:jX C e a w V):∀ {l:List ResultVar}{xs:List A1},Uo C.P V l=some xs->
 ∃ vs,(l.mapM (UA a.tmps)).run C.P w=.ok vs w/\kh e xs vs
 |[],xs,h=>by
  simp [Uo] at h;subst h;exact⟨[],by simp,rfl⟩
 |r::l,xs,h=>by
  simp only[Uo] at h;split at h
  ·cases h
  ·rename_i ys hys;obtain⟨vs,h1,h2⟩:=JO hV hys;split at h
   ·rename_i t;split at h
    ·rename_i x hx;injection h with h;subst h
     refine⟨a.eval (.tmp t)::vs,?_,_,_,rfl,cE hV hx,h2⟩;rw[List.mapM_cons];simp only[UA,run_bind,run_pure,andThen_ok,h1];rfl
    ·cases h
   ·rename_i p t;split at h
    ·rename_i b o hb;obtain⟨k,hk,hx⟩:=Ee hV hb;split at h
     ·rename_i y hy;injection h with h;subst h
      obtain⟨v,h3,h4⟩:=Et hV hk hy;refine⟨v::vs,?_,_,_,rfl,h4,h2⟩;have hx':a.tmps.getD p undef=.pointer (some ⟨k,o,none⟩):=hx;rw[List.mapM_cons];simp only[UA,run_bind,hx',asAddr,run_pure,andThen_ok,h1,h3]
     ·cases h
    ·cases h
def Xt.ends:Xt->Bool
 |.normal=>true
 |.ret=>true
 |_=>false
def ky:List A1->List AV
 |[]=>[]
 |x::l=>.val x::ky l
def matchR (V:kF):cM->List A1->Bool
 |.val p,[x]=>Yr V p (.val x)
 |.tup ps,[]=>Cj V ps []
 |.tup ps,x::y::l=>Cj V ps (ky (x::y::l))
 |_,_=>false
def Zk:Nat->List A1->Ws
 |_,[]=>[]
 |t,x::l=>(.slot t,.av (.val x))::Zk (t+1) l
def start (args:List Pat):Option St :=
 match zu 0 args with
 |some (xs,lv,s')=>some ⟨s'/8+1,Zk 0 xs++lv⟩
 |none=>none
def runB (S:Stat) (T:List Ent) (n:Nat) (c:Code) (rs:List ResultVar) (args:List Pat) (res:cM):Bool :=
 match start args with
 |some st=>match kM S T n c st with
  |some (xt,st')=>match xt.ends with
   |true=>match Uo S.P (fun k=>find k st'.m) rs with
    |some x=>matchR (fun k=>find k st'.m) res x
    |none=>false
   |false=>false
  |none=>false
 |none=>false
theorem uI {e:Env}:∀ {l:List A1}{vs:List Value},kh e l vs->kY e (ky l) vs
 |[],_,h=>h
 |x::l,_,⟨v,ws,h1,h2,h3⟩=>⟨v,ws,h1,h2,uI h3⟩
theorem YJ {k:Key}{v:Kv}:∀ {l:List A1}{t:Nat},(k,v)∈Zk t l->∃ j x,l[j]?=some x/\k=.slot (t+j)/\v=.av (.val x)
 |[],t,h=>by simp [Zk] at h
 |x::l,t,h=>by
  simp only[Zk,mem_cons,Prod.mk.injEq] at h;rcases h with⟨rfl,rfl⟩|h
  ·exact⟨0,x,rfl,rfl,rfl⟩
  ·obtain⟨j,y,h1,h2,h3⟩:=YJ h;exact⟨j+1,y,by simpa using h1,by rw[h2];congr 1;omega,h3⟩
theorem cJ.length:∀ {ps:List Pat}{vs:List Value}{w:World},cJ C w ps vs->vs.length=ps.length
 |[],_,w,h=>by rw[h];rfl
 |p::ps,_,w,⟨v,ws,h1,h2,h3⟩=>by rw[h1];simp [h3.length]
theorem cjc (hC:C.Ok) (hT:∀ t∈T,t.Valid C) {f:FuncId}{fn:Func}{c:Code}{rs:List ResultVar}(hf:C.P.funcs[f]?=some fn) (hb:fn.body=some c) (hrs:fn.results.toList=rs) (hnt:fn.ntmps=C.nt) {args:List Pat}{res:cM}{n:Nat}
 (hL:C.L=[]) (hlen:args.length<=C.nt) (hrun:runB C.toStat T n c rs args res=true) (vs:List Value) (hvs:cJ C C.w0 args vs) :
 Calls C.P f vs.toArray C.w0 (fun e w'=>∃ v,e=.returned v/\res.is C w' v/\Below C.w0.heap.size C.w0 w'):=by
 unfold runB at hrun;split at hrun
 ·rename_i st hst;split at hrun
  ·rename_i xt st' he;split at hrun
   ·rename_i hx;split at hrun
    ·rename_i xs hr;have hs:Sat C st { tmps:=vs.toArray++Array.replicate (fn.ntmps-vs.toArray.size) undef,defers:=[] } C.w0:=by
      unfold start at hst;split at hst
      ·rename_i ys lv s' hm;injection hst with hst;subst hst
       obtain⟨e,g,hxs⟩:=Ea (e:=⟨fun _=>none,fun _=>none⟩) hm (le_refl _) (fun _ _ _=>rfl) hvs;have hρ:∀ b k,e.ρ b=some k->False:=fun b k h=>by rw[g.ρ] at h;cases h
       refine⟨e,?_,⟨Below.refl _ _,rfl,?_,fun b b' k h=>(hρ b k h).elim,fun b k h=>(hρ b k h).elim,fun k h=>by rw[hL] at h;simp at h⟩,fun b k h=>(hρ b k h).elim,?_⟩
       ·intro k v hkv;rcases List.mem_append.1 (kG hkv) with h|h
        ·obtain⟨j,x,h1,rfl,rfl⟩:=YJ h;obtain⟨v,h2,h3⟩:=hxs.get j x h1;refine⟨v,?_,h3⟩;have hjl:j<vs.length:=by
          rcases lt_or_ge j vs.length with h|h
          ·exact h
          ·simp [List.getElem?_eq_none h] at h2
         show (vs.toArray++Array.replicate (fn.ntmps-vs.toArray.size) undef)[0+j]?=some v;rw[zero_add,Array.getElem?_append_left (by simpa using hjl)];simpa using h2
        ·obtain⟨x,cl,rfl,rfl,f,h4,h5⟩:=g.live k v h;exact⟨f,h4,h5⟩
       ·have:=hvs.length;simp only[Array.size_append,size_toArray,Array.size_replicate];omega
       ·intro s f hsf;rcases g.ν s f hsf with h|h
        ·cases h
        ·show s/8<s'/8+1;omega
      ·cases hst
     refine calls_of_wp hf hb (wp_mono (jH hC hT n c st xt st' he _ _ hs) ?_);rintro e a' w' ⟨rfl,env,hk,hg,h1,h2⟩;have:bodyPost C.P fn (fun e w'=>∃ v,e=.returned v/\res.is C w' v/\Below C.w0.heap.size C.w0 w') .ret a' w':=by
      obtain⟨us,h3,h4⟩:=JO hk hr;have h5:(results fn a'.tmps).run C.P w'=.ok (if h:us.toArray.size=1 then us.toArray[0] else .tuple us.toArray) w':=by
       rw[ug,Array.mapM_eq_mapM_toList,hrs];simp only[run_bind,Sem.run_map,h3,andThen_ok];rfl
      refine⟨hg.defers,_,h5,_,rfl,?_,hg.below⟩;unfold matchR at hrun;split at hrun
      ·rename_i p x;obtain⟨v,ws,rfl,h6,h7⟩:=h4;rw[show ws=[] from h7];exact UU hk hrun h6
      ·rw[show us=[] from h4];exact⟨[],Gg hk hrun rfl,rfl⟩
      ·rename_i ps x y l;have hl:us.toArray.size≠1:=by
        obtain⟨v,ws,rfl,_,v',ws',rfl,_⟩:=h4;simp
       rw[dif_neg hl];exact⟨us,Gg hk hrun (uI h4),rfl⟩
      ·cases hrun
     cases xt with
     |normal=>exact this
     |ret=>exact this
     |exit id=>cases hx
    ·cases hrun
   ·cases hrun
  ·cases hrun
 ·cases hrun
end
end Sym
namespace Sym
inductive Item where
 |val (t:Nat) (p:Pat)
 |box (t ty:Nat) (gs:List Grp)
 /-- It jJ a slice that is the whole of a box of the call's own. (At the end of a piece only.) -/
 |own (t ty n:Nat) (gs:List Grp)
section
variable {C:Ctx}{T:List Ent}{Q:Exit->Act->World->Prop}{a:Act}{w:World}
def jD (C:Ctx) (a:Act) (w:World):List Item->List Nat->Prop
 |[],_=>True
 |.val t p::l,bs=>(∃ v,a.tmps[t]?=some v/\p.is C w v)/\jD C a w l bs
 |.box t ty gs::l,bs=>∃ k vs,a.tmps[t]?=some (.pointer (some ⟨k,0,none⟩))/\(C.w0.heap.size<=k/\k ∉ C.L)/\k ∉ bs/\w.heap[k]?=some (.cells vs.toArray ty (0,0))/\cr C w gs vs/\jD C a w l (k::bs)
 |.own t ty n gs::l,bs=>(∃ k vs,a.tmps[t]?=some (.slice (some ⟨k,0,none⟩) n n)/\(C.w0.heap.size<=k/\k ∉ C.L)/\w.heap[k]?=some (.cells vs.toArray ty (0,0))/\cr C w gs vs)/\jD C a w l bs
def EF (V:kF):List Item->List Nat->Bool
 |[],_=>true
 |.val t p::l,bs=>match cu V (.tmp t) with
  |some x=>match Yr V p x with
   |true=>EF V l bs
   |false=>false
  |none=>false
 |.box t ty gs::l,bs=>match ptr? (cu V (.tmp t)) with
  |some (b,0)=>match WN b bs with
   |true=>false
   |false=>match V (.box b) with
    |some (.box ty' n)=>match Nat.beq ty' ty with
     |true=>match yJ V b 0 n with
      |some cs=>match Cd V gs cs with
       |true=>EF V l (b::bs)
       |false=>false
      |none=>false
     |false=>false
    |_=>false
  |_=>false
 |.own t ty n gs::l,bs=>match cu V (.tmp t) with
  |some (.val (.one (.slc b 0 n1 n2)))=>match Nat.beq n1 n,Nat.beq n2 n with
   |true,true=>match V (.box b) with
    |some (.box ty' m)=>match Nat.beq ty' ty with
     |true=>match yJ V b 0 m with
      |some cs=>match Cd V gs cs with
       |true=>EF V l bs
       |false=>false
      |none=>false
     |false=>false
    |_=>false
   |_,_=>false
  |_=>false
theorem Yn {e:Env}{V:kF}(hV:jX C e a w V) {t:Nat}{x:AV}(h:cu V (.tmp t)=some x):∃ v,a.tmps[t]?=some v/\x.is e v:=by
 unfold cu at h;simp only at h;split at h
 ·rename_i y hy;injection h with h;subst h
  exact hV _ _ hy
 ·cases h
theorem WB {n:Nat}:∀ {l:List Nat},WN n l=false->n ∉ l
 |[],_=>by simp
 |m::l,h=>by
  unfold WN at h;split at h
  ·cases h
  ·rename_i hm;have:=WB h;simp only[mem_cons,not_or];refine⟨fun e=>?_,this⟩;subst e;simp at hm
theorem KY {e:Env}{V:kF}(hV:jX C e a w V) (hg:cS C e a w):∀ {l:List Item}{bs ks:List Nat},EF V l bs=true->(∀ k∈ks,∃ b∈bs,e.ρ b=some k)->jD C a w l ks
 |[],_,_,_,_=>trivial
 |.val t p::l,bs,ks,h,hk=>by
  unfold EF at h;split at h
  ·rename_i x hx;split at h
   ·rename_i hm;obtain⟨v,h1,h2⟩:=Yn hV hx;exact⟨⟨v,h1,UU hV hm h2⟩,KY hV hg h hk⟩
   ·cases h
  ·cases h
 |.box t ty gs::l,bs,ks,h,hk=>by
  unfold EF at h;split at h
  ·rename_i b hb;split at h
   ·cases h
   ·rename_i hnb;split at h
    ·rename_i ty' n hbox;split at h
     ·rename_i hty;split at h
      ·rename_i cs hcs;split at h
       ·rename_i hm;have hb':cu V (.tmp t)=some (.val (.one (.ptr b 0))):=by
         unfold ptr? at hb;split at hb
         ·rename_i hx;injection hb with hb;simp only[Prod.mk.injEq] at hb
          rw[hx,hb.1,hb.2]
         ·cases hb
        obtain⟨v,h1,k,hρ,rfl⟩:=Yn hV hb';obtain⟨k',arr,q1,q2,q3⟩:=hV _ _ hbox;rw[hρ] at q1;injection q1 with q1;subst q1
        obtain⟨h4,vs,h5,h6⟩:=yf hV hρ _ _ _ hcs;have hvs:arr=vs.toArray:=by
         apply Array.ext
         ·simp [q3,h5.length,h4]
         ·intro i h7 h8;have h9:i<vs.length:=by simpa using h8
          have:=h6 i vs[i] (List.getElem?_eq_getElem h9);simp only[zero_add,World.cell?,q2] at this;simp [h7] at this;simpa using this
        refine⟨k,vs,h1,(hg.own b k hρ).1,?_,by rw[q2,hvs,eq_of_beq_eq_true hty],zx hV hm h5,KY hV hg h ?_⟩
        ·intro hmem;obtain⟨b',hb',hρ'⟩:=hk k hmem;have:=hg.inj b b' k hρ hρ';subst this;exact WB hnb hb'
        ·intro k' hk';rcases List.mem_cons.1 hk' with rfl|hk'
         ·exact⟨b,by simp,hρ⟩
         ·obtain⟨b',hb',hρ'⟩:=hk k' hk';exact⟨b',mem_cons_of_mem _ hb',hρ'⟩
       ·cases h
      ·cases h
     ·cases h
    ·cases h
  ·cases h
 |.own t ty n gs::l,bs,ks,h,hk=>by
  unfold EF at h;split at h
  ·rename_i b n1 n2 hx;split at h
   ·rename_i e1 e2;split at h
    ·rename_i ty' m hbox;split at h
     ·rename_i hty;split at h
      ·rename_i cs hcs;split at h
       ·rename_i hm;obtain⟨v,h1,k,hρ,rfl⟩:=Yn hV hx;obtain⟨k',arr,q1,q2,q3⟩:=hV _ _ hbox;rw[hρ] at q1;injection q1 with q1;subst q1
        obtain⟨h4,vs,h5,h6⟩:=yf hV hρ _ _ _ hcs;have hvs:arr=vs.toArray:=by
         apply Array.ext
         ·simp [q3,h5.length,h4]
         ·intro i h7 h8;have h9:i<vs.length:=by simpa using h8
          have:=h6 i vs[i] (List.getElem?_eq_getElem h9);simp only[zero_add,World.cell?,q2] at this;simp [h7] at this;simpa using this
        rw[eq_of_beq_eq_true e1,eq_of_beq_eq_true e2] at h1;exact⟨⟨k,vs,h1,(hg.own b k hρ).1,by rw[q2,hvs,eq_of_beq_eq_true hty],zx hV hm h5⟩,KY hV hg h hk⟩
       ·cases h
      ·cases h
     ·cases h
    ·cases h
   ·cases h
  ·cases h
end
section
variable {C C':Ctx}{r:Nat->Nat}{w:World}
end
end Sym
namespace Sym
structure Gw where
 /-- A list that grows: its block; the cells in use; the cells of an element; what the next one is. -/
 R:Nat
 m:Nat
 n:Nat
 t:Nat
 e:World->List Value->Prop
def sepT (t:Nat):Prop:=t≠29/\t≠3/\t≠9
def Grew (g:Gw) (w w':World):Prop:=∃ cs vs,w.heap[g.R]?=some (.cells cs g.t (0,0))/\sepT g.t/\(∀ x,cs[0]?=some x->zr x=true)/\vs.length=g.n/\g.m+g.n<=cs.size/\(∀ x,vs[0]?=some x->zr x=true)/\
 w'.heap[g.R]?=some (.cells (cs.toList.take g.m++vs++cs.toList.drop (g.m+g.n)).toArray g.t (0,0))/\g.e w' vs/\jc g.R w w'
structure Cl where
 L:List Gw
 n:Nat
 num:Bool
 p:World->(Nat->Value)->Prop
structure Cl.Ok (okT:List Nat) (B:Nat) (x:Cl):Prop where
 below:∀ w w' f,Below w.heap.size w w'->x.p w f->x.p w' f
 only:∀ w w' R f cs t,B<=R->R ∉ x.L.map (·.R)->w.heap[R]?=some (.cells cs t (0,0))->t∈okT->(∀ x,cs[0]?=some x->zr x=true)->ccv Tryz.prog t cs.size=true->jc R w w'->x.p w f->x.p w' f
 num:∀ w f,x.num=true->x.p w f->zr (f 0)=true
 cell:∀ w f j,x.p w f->j<x.n->(f j).oneCell'=true
noncomputable def mkC (csz:List Nat) (numc:List Bool) (okT:List Nat) (nt:Nat) (cl:List Cl) (w0:World):Ctx :=
 { P:=Tryz.prog,csz,numc,okT,nt,E:=fun c w f=>match cl[c]? with|some x=>x.p w f|none=>False,w0,L:=(cl.flatMap (·.L)).map (·.R),G:=fun w w'=>∃ g∈cl.flatMap (·.L),Grew g w w' }
def Cl.Grows (l:List Gw) (x:Cl):Prop:=∀ g∈l,∀ w w' f,Grew g w w'->x.p w f->x.p w' f
theorem mkC_ok {csz:List Nat}{numc:List Bool}{okT:List Nat}{nt:Nat}{cl:List Cl}{w0:World}(h:∀ x∈cl,x.Ok okT w0.heap.size) (h1:cl.map (·.n)=csz) (h2:cl.map (·.num)=numc) (hg:cl.flatMap (·.L)=[]\/∀ x∈cl,x.Grows (cl.flatMap (·.L)):=by exact .inl rfl):(mkC csz numc okT nt cl w0).Ok:=by
 refine⟨?_,?_,?_,?_,by kernel_rfl,?_,?_⟩
 ·intro c w w' f hb hE;simp only[mkC] at hE ⊢;split at hE
  ·rename_i x hx;exact(h x (List.mem_of_getElem? hx)).below w w' f hb hE
  ·exact hE
 ·intro c w w' R f cs t hB hL ho ht hz hf hb hE;simp only[mkC] at hE ⊢;split at hE
  ·rename_i x hx;exact(h x (List.mem_of_getElem? hx)).only w w' R f cs t hB (fun hm=>hL (by
    obtain⟨g,hg,e⟩:=List.mem_map.1 hm;exact List.mem_map.2 ⟨g,List.mem_flatMap.2 ⟨x,List.mem_of_getElem? hx,hg⟩,e⟩)) ho ht hz hf hb hE
  ·exact hE
 ·intro c w f hn hE;simp only[mkC] at hE hn;split at hE
  ·rename_i x hx;refine(h x (List.mem_of_getElem? hx)).num w f ?_ hE;rw[← h2] at hn;simpa [List.getD,hx] using hn
  ·exact hE.elim
 ·intro c w f j hE hj;simp only[mkC] at hE hj;split at hE
  ·rename_i x hx;refine(h x (List.mem_of_getElem? hx)).cell w f j hE ?_;rw[← h1] at hj;simpa [List.getD,hx] using hj
  ·exact hE.elim
 ·rintro c w w' f ⟨g,hg1,hg2⟩ hE;rcases hg with hg|hg
  ·rw[hg] at hg1;simp at hg1
  ·simp only[mkC] at hE ⊢;split at hE
   ·rename_i x hx;exact hg x (List.mem_of_getElem? hx) g hg1 w w' f hg2 hE
   ·exact hE
 ·rintro w w' ⟨g,hg1,_,_,_,_,_,_,_,_,_,_,ho⟩;exact⟨ho.os,ho.tape,ho.output,ho.size,fun k hk=>ho.block k (fun e=>hk (List.mem_map.2 ⟨g,hg1,e.symm⟩))⟩
def clV (v:Value):Cl:=⟨[],1,zr v,fun _ f=>f 0=v⟩
theorem clV_ok {okT:List Nat}{B:Nat}{v:Value}(hv:v.oneCell'=true):(clV v).Ok okT B:=by
 refine⟨fun w w' f hb h=>h,fun w w' R f cs t _ _ ho hm hz _ hb h=>h,?_,?_⟩
 ·intro w f h1 h;rw[show f 0=v from h];exact h1
 ·intro w f j h hj;have hj:j<1:=hj;obtain rfl:j=0:=by omega
  rw[show f 0=v from h];exact hv
def vp (v:Value):Pat:=.one (.lit v)
def op (c:Nat):Pat:=.one (.cls c 1)
section
variable {csz:List Nat}{numc:List Bool}{okT:List Nat}{nt:Nat}{cl:List Cl}{w0:World}{w:World}{v:Value}{c d c1 c2 c3 c4 c5 c6:Nat}
theorem kI {x:Value}(h:cl[c]?=some (clV x)):(op c).is (mkC csz numc okT nt cl w0) w v↔v=x:=by
 constructor
 ·rintro⟨f,hE,hv⟩;simp only[mkC,h] at hE;have:v=f 0:=by simpa [List.range_succ] using hv
  rw[this];exact hE
 ·rintro rfl;refine⟨fun _=>v,?_,rfl⟩;simp only[mkC,h];rfl
theorem vp_is {C:Ctx}{x:Value}:(vp x).is C w v↔v=x:=by
 constructor
 ·intro h;have h:[v]=[x]:=h;simpa using h
 ·rintro rfl;exact rfl
theorem vp_r (C:Ctx) (w:World) (x:Value):cM.is C w (.val (vp x)) x:=rfl
abbrev V (csz:List Nat) (numc:List Bool) (okT:List Nat) (nt:Nat) (cl:List Cl) (w0:World) (hd:Hd) (args:List Pat) (res:cM):Prop:=Ent.Valid (mkC csz numc okT nt cl w0) ⟨hd,args,res⟩
theorem ce {P:Ent->Prop}:∀ t∈([]:List Ent),P t:=fun t h=>by simp at h
theorem ca {P:Ent->Prop}{a:Ent}{l:List Ent}(h:P a) (k:∀ t∈l,P t):∀ t∈a::l,P t:=fun t ht=>by
 rcases List.mem_cons.1 ht with rfl|ht
 ·exact h
 ·exact k t ht
theorem oks_nil {okT:List Nat}{B:Nat}:∀ x∈([]:List Cl),x.Ok okT B:=fun t h=>by simp at h
theorem cg {okT:List Nat}{B:Nat}{a:Cl}{l:List Cl}(h:a.Ok okT B) (k:∀ t∈l,t.Ok okT B):∀ t∈a::l,t.Ok okT B:=fun t ht=>by
 rcases List.mem_cons.1 ht with rfl|ht
 ·exact h
 ·exact k t ht
def bodyOf (fn:Func):Code:=match fn.body with|some c=>c|none=>.skip
theorem val_of {C:Ctx}{w:World}{x v:Value}(h:cM.is C w (.val (vp x)) v):v=x:=by
 have h:[v]=[x]:=h;simpa using h
theorem run_mk {T:List Ent}(hC:(mkC csz numc okT nt cl w0).Ok) (hT:∀ t∈T,t.Valid (mkC csz numc okT nt cl w0)) (f:FuncId) (fn:Func) (args:List Pat) (res:cM) (n:Nat) (hf:Tryz.prog.funcs[f]?=some fn) (hb:fn.body=some (bodyOf fn)) (hnt:fn.ntmps=nt)
 (hlen:Nat.ble args.length nt=true) (hrun:runB ⟨Tryz.prog,csz,numc,okT,nt⟩ T n (bodyOf fn) fn.results.toList args res=true) (vs:List Value) (hvs:cJ (mkC csz numc okT nt cl w0) w0 args vs) (hL:cl.flatMap (·.L)=[]:=by rfl) :
 Calls Tryz.prog f vs.toArray w0 (fun e w'=>∃ v,e=.returned v/\res.is (mkC csz numc okT nt cl w0) w' v/\Below w0.heap.size w0 w') :=
 cjc hC hT hf hb rfl hnt (by show (cl.flatMap (·.L)).map (·.R)=[];rw[hL];rfl) (le_of_ble_eq_true hlen) hrun vs hvs
end
end Sym
namespace Sym
def clQ (r:Rat) (k:Nat):Cl:=⟨[],4,true,fun w f=>IsQ w (.agg #[f 0,f 1,f 2,f 3]) r/\Siz r k⟩
def sp (c d:Nat):Pat:=.agg [.cls c 4,.cls d 4]
section
variable {csz:List Nat}{numc:List Bool}{okT:List Nat}{nt:Nat}{cl:List Cl}{w0:World}{w:World}{v:Value}{p1 p2 p3 p4:Pat}{c d c1 c2 c3 c4 c5 c6:Nat}{r s t r1 r2 r3 r4:Rat}{k k1 k2 k3 k4 k5 k6:Nat}
theorem cells4 (f:Nat->Value):(List.range 4).map f=[f 0,f 1,f 2,f 3]:=rfl
theorem sp_is (h:cl[c]?=some (clQ r k)) (h':cl[d]?=some (clQ s k1)):(sp c d).is (mkC csz numc okT nt cl w0) w v↔IsS w v r s/\Siz r k/\Siz s k1:=by
 constructor
 ·rintro⟨vs,⟨xs,ys,rfl,⟨f,hE,rfl⟩,⟨xs',ys',rfl,⟨f',hE',rfl⟩,hy⟩⟩,rfl⟩;rw[show ys'=[] from hy];simp only[mkC,h] at hE;simp only[mkC,h'] at hE';obtain⟨s1,a1,b1,p1,e1⟩:=hE.1.form;obtain⟨s2,a2,b2,p2,e2⟩:=hE'.1.form;refine⟨⟨s1,a1,b1,p1,s2,a2,b2,p2,?_,e1▸hE.1,e2▸hE'.1⟩,hE.2,hE'.2⟩;injection e1 with e1
  injection e2 with e2
  have g0:f 0=.bool s1:=by have:=congrArg (fun x=>x[0]?) e1;simpa using this
  have g1:f 1=u a1:=by have:=congrArg (fun x=>x[1]?) e1;simpa using this
  have g2:f 2=u b1:=by have:=congrArg (fun x=>x[2]?) e1;simpa using this
  have g3:f 3=.pointer p1:=by have:=congrArg (fun x=>x[3]?) e1;simpa using this
  have i0:f' 0=.bool s2:=by have:=congrArg (fun x=>x[0]?) e2;simpa using this
  have i1:f' 1=u a2:=by have:=congrArg (fun x=>x[1]?) e2;simpa using this
  have i2:f' 2=u b2:=by have:=congrArg (fun x=>x[2]?) e2;simpa using this
  have i3:f' 3=.pointer p2:=by have:=congrArg (fun x=>x[3]?) e2;simpa using this
  simp [cells4,g0,g1,g2,g3,i0,i1,i2,i3]
 ·rintro⟨⟨s1,a1,b1,p1,s2,a2,b2,p2,rfl,h1,h2⟩,z1,z2⟩;refine⟨[.bool s1,u a1,u b1,.pointer p1,.bool s2,u a2,u b2,.pointer p2],⟨[.bool s1,u a1,u b1,.pointer p1],[.bool s2,u a2,u b2,.pointer p2],rfl,⟨fun j=>[Value.bool s1,u a1,u b1,.pointer p1].getD j undef,?_,rfl⟩,⟨_,[],(append_nil _).symm,⟨fun j=>[Value.bool s2,u a2,u b2,.pointer p2].getD j undef,?_,rfl⟩,rfl⟩⟩,rfl⟩
  ·simp only[mkC,h];exact⟨h1,z1⟩
  ·simp only[mkC,h'];exact⟨h2,z2⟩
def PS (csz:List Nat) (numc:List Bool) (okT:List Nat) (nt:Nat) (cl:List Cl) (w0:World) (p:Pat) (r:Rat) (k:Nat) (s:Rat) (j:Nat):Prop:=∀ w v,p.is (mkC csz numc okT nt cl w0) w v->IsS w v r s/\Siz r k/\Siz s j
theorem ps (h:cl[c]?=some (clQ r k)) (h':cl[d]?=some (clQ s k1)):PS csz numc okT nt cl w0 (sp c d) r k s k1:=fun _ _ h1=>(sp_is h h').1 h1
end
end Sym
namespace Sym
abbrev ii (n:Int):Value:=.int .i64 n
def Dg (w:World) (v:Value) (ds:List Nat):Prop:=∃ ao cap,v=.slice ao ds.length cap/\ds.length<=cap/\(cap:Int)<=9223372036854775807/\
 (0<ds.length->∃ b off,ao=some ⟨b,off,none⟩/\(∃ cs fr,w.heap[b]?=some (.cells cs 3 fr))/\∀ i,i<ds.length->w.cell? ⟨b,off+i,none⟩=some (ii ((ds.getD i 0:Nat):Int)))
def clF (B:Nat) (ds:List Nat):Cl:=⟨[],1,false,fun w f=>Dg w (f 0) ds/\∀ k,(f 0).ownBlock=some k->B<=k⟩
section
variable {csz:List Nat}{numc:List Bool}{okT:List Nat}{nt:Nat}{cl:List Cl}{w0:World}{w:World}{v z:Value}{p1 p2 p3:Pat}{res:cM}{c d c1 c2 c3 c4 c5 c6:Nat}{ds es:List Nat}{x y:Int}
def PV (csz:List Nat) (numc:List Bool) (okT:List Nat) (nt:Nat) (cl:List Cl) (w0:World) (p:Pat) (x:Value):Prop:=∀ w v,p.is (mkC csz numc okT nt cl w0) w v->v=x
def RV (csz:List Nat) (numc:List Bool) (okT:List Nat) (nt:Nat) (cl:List Cl) (w0:World) (r:cM) (x:Value):Prop:=∀ w,r.is (mkC csz numc okT nt cl w0) w x
theorem pv (h:cl[c]?=some (clV v)):PV csz numc okT nt cl w0 (op c) v:=fun _ _ h1=>(kI h).1 h1
theorem pvl:PV csz numc okT nt cl w0 (vp v) v:=fun _ _ h1=>vp_is.1 h1
theorem rv (h:cl[c]?=some (clV v)):RV csz numc okT nt cl w0 (.val (op c)) v:=fun _=>(kI h).2 rfl
theorem rvl:RV csz numc okT nt cl w0 (.val (vp v)) v:=fun _=>vp_r _ _ _
def RF (csz:List Nat) (numc:List Bool) (okT:List Nat) (nt:Nat) (cl:List Cl) (w0:World) (r:cM) (B:Nat) (ds:List Nat):Prop:=∀ w v,Dg w v ds->(∀ k,v.ownBlock=some k->B<=k)->r.is (mkC csz numc okT nt cl w0) w v
theorem op_isF {B:Nat}(h:cl[c]?=some (clF B ds)):(op c).is (mkC csz numc okT nt cl w0) w v↔Dg w v ds/\∀ k,v.ownBlock=some k->B<=k:=by
 constructor
 ·rintro⟨f,hE,hv⟩;simp only[mkC,h] at hE;have:v=f 0:=by simpa [List.range_succ] using hv
  rw[this];exact hE
 ·intro hv;refine⟨fun _=>v,?_,rfl⟩;simp only[mkC,h];exact hv
theorem rf {B:Nat}(h:cl[c]?=some (clF B ds)):RF csz numc okT nt cl w0 (.val (op c)) B ds:=fun _ _ h1 h2=>(op_isF h).2 ⟨h1,h2⟩
theorem Ed {o:Oper}{op:BinOp}{t:Nat}{xs:List Operand}(h:kr o=some (.bin op t,xs)):∃ x y u,o.op=.binOp op t x y u/\xs=[x,y]:=by
 unfold kr at h;split at h<;>first
  |(rename_i h0;simp only[Option.some.injEq,Prod.mk.injEq,Hd.bin.injEq,reduceCtorEq,false_and] at h;try (obtain⟨⟨rfl,rfl⟩,rfl⟩:=h;exact⟨_,_,_,h0,rfl⟩))
  |(split at h<;>simp at h)
  |simp at h
theorem hd_blt {o : Oper} {b : Builtin} {ats : List Nat} {t : Nat} {xs : List Operand} (h : kr o = some (.blt b ats t, xs)) : ∃ c, o.op = .call c ∧ c.callee = .builtin b ∧ c.argTypes = ats.toArray ∧ o.type = t ∧ xs = c.args.toList := by
  unfold kr at h
  split at h <;> first
    | (rename_i c h0
       split at h
       · rename_i b' h1
         simp only [Option.some.injEq, Prod.mk.injEq, Hd.blt.injEq] at h
         obtain ⟨⟨rfl, rfl, rfl⟩, rfl⟩ := h
         exact ⟨_, h0, h1, by simp, rfl, rfl⟩
       · simp at h)
    | (split at h <;> simp at h)
    | simp at h
theorem e_bin {o:BinOp}{t:Nat}{k:IntKind}(h1:PV csz numc okT nt cl w0 p1 (.int k x)) (h2:PV csz numc okT nt cl w0 p2 (.int k y)) (h3:RV csz numc okT nt cl w0 res z)
 (hr:∀ w,(Go.binOp o t (.int k x) (.int k y)).run Tryz.prog w=.ok z w):V csz numc okT nt cl w0 (.bin o t) [p1,p2] res:=by
 intro w ρ oo xs ho hb hvs;obtain⟨a,b,u,hop,rfl⟩:=Ed ho;obtain⟨v1,_,e1,h4,v2,_,e2,h5,e3⟩:=hvs;obtain rfl:=h1 _ _ h4;obtain rfl:=h2 _ _ h5;subst e2;simp only[map_cons,List.map_nil,List.cons.injEq] at e1;obtain⟨ea,eb,_⟩:=e1;refine⟨z,w,?_,h3 w,Below.refl _ _⟩;have hg:(eqGuard o t a b (.int k x) (.int k y)).run Tryz.prog w=.ok () w:=by
  unfold eqGuard;cases o<;>rfl
 show (execOp ρ oo).run Tryz.prog w=_;simp only[execOp,hop,ea,eb,run_bind,hg,hr w,andThen_ok];rfl
theorem e_gtr {t:Nat}{k:IntKind}{b:Bool}(h1:PV csz numc okT nt cl w0 p1 (.int k x)) (h2:PV csz numc okT nt cl w0 p2 (.int k y)) (hb:decide (x>y)=b):V csz numc okT nt cl w0 (.bin .gtr t) [p1,p2] (.val (vp (.bool b))) :=
 e_bin h1 h2 rvl (fun w=>by subst hb;cases k<;>rfl)
end
end Sym
namespace Sym
section
variable {C:Ctx}{T:List Ent}{a:Act}{w:World}
def rOf:List (Nat×Nat)->Nat->Nat
 |[],_=>1000000
 |(c,d)::l,x=>if x=c then d else rOf l x
end
section
variable {C:Ctx}{T:List Ent}{a:Act}{w:World}{Q:Exit->Act->World->Prop}{ops:Array Oper}
end
section
variable {csz:List Nat}{numc:List Bool}{okT:List Nat}{nt:Nat}{cl:List Cl}{w0:World}{w:World}{v:Value}{c:Nat}{a:Act}
end
end Sym
namespace Sym
theorem clVi_ok {okT:List Nat}{B:Nat}(n:Int):(clV (ii n)).Ok okT B:=clV_ok rfl
section
variable {csz:List Nat}{numc:List Bool}{okT:List Nat}{nt:Nat}{cl:List Cl}{w0:World}{p1 p2:Pat}{res:cM}{ds:List Nat}{i:Nat}
end
section
variable {csz:List Nat}{numc:List Bool}{okT:List Nat}{nt:Nat}{cl:List Cl}{w0:World}{p1 p2:Pat}{res:cM}{ds:List Nat}
end
end Sym
namespace Sym
def ci (n:Nat):List Nat:=if n=0 then [] else n%10000::ci (n/10000)
end Sym
namespace Sym
def ones:List Value->Bool
 |[]=>true
 |v::l=>match v.oneCell' with
  |true=>ones l
  |false=>false
section
variable {nt:Nat}{vl:List Value}{w:World}{a:Act}{T:List Ent}{Q:Exit->Act->World->Prop}
end
section
variable {csz:List Nat}{numc:List Bool}{okT:List Nat}{nt:Nat}{cl:List Cl}{w0:World}{p1 p2:Pat}{res:cM}{ds:List Nat}{n:Nat}{x:Value}
end
end Sym
namespace Sym
end Sym
namespace Sym
end Sym
namespace Sym
section
variable {nt:Nat}{vl:List Value}{w:World}{a:Act}{T:List Ent}{Q:Exit->Act->World->Prop}
theorem Dg.grown {w w':World}{row:Option Nat}{v:Value}{ds:List Nat}(h:Dg w v ds) (hg:w.grownBy w' row) (hne:∀ k,v.ownBlock=some k->some k≠row):Dg w' v ds:=by
 obtain⟨ao,cap,rfl,h1,h2,h3⟩:=h;refine⟨ao,cap,rfl,h1,h2,fun hn=>?_⟩;obtain⟨b,off,rfl,⟨cs,fr,hc⟩,hr⟩:=h3 hn;have hb:w'.heap[b]?=w.heap[b]?:=hg.block b (Array.getElem?_eq_some_iff.1 hc).1 (hne b rfl);exact⟨b,off,rfl,⟨cs,fr,hb.trans hc⟩,fun i hi=>(World.cell?_of_block (a:=⟨b,off+i,none⟩) hb).trans (hr i hi)⟩
end
end Sym
namespace Sym
end Sym
namespace Sym
section
variable {csz:List Nat}{numc:List Bool}{nt:Nat}{vl:List Value}{cl:List Cl}{w0 w:World}{a:Act}{T:List Ent}{Q:Exit->Act->World->Prop}
end
end Sym
namespace Sym
section
variable {csz:List Nat}{numc:List Bool}{okT:List Nat}{nt:Nat}{cl:List Cl}{w0:World}{p1 p2:Pat}{res:cM}{ds es:List Nat}{n:Nat}
end
end Sym
namespace Sym
section
variable {csz:List Nat}{numc:List Bool}{okT:List Nat}{nt:Nat}{cl:List Cl}{w0:World}{p1 p2:Pat}{c1 c2:Nat}{ds es:List Nat}
end
section
variable {csz:List Nat}{numc:List Bool}{okT:List Nat}{nt:Nat}{cl:List Cl}{w0:World}{p1 p2:Pat}{res:cM}{m n:Nat}
end
end Sym
namespace Sym
def RatP (w:World) (v:Value) (neg:Bool) (m k:Nat):Prop:=∃ a b,v=.agg #[.bool neg,a,b]/\Dg w a (ci m)/\Dg w b (ci k)
end Sym
namespace Sym
section
variable {csz:List Nat}{numc:List Bool}{okT:List Nat}{nt:Nat}{cl:List Cl}{w0:World}{p1 p2 p3:Pat}{res:cM}{c1 c2 c3 m k:Nat}{neg s t b:Bool}
end
end Sym
namespace Sym
section
variable {csz:List Nat}{numc:List Bool}{okT:List Nat}{nt:Nat}{cl:List Cl}{w0:World}{p1 p2 p3:Pat}{res:cM}{ds es:List Nat}{s t b:Bool}
end
end Sym
namespace Sym
end Sym
namespace Sym
def RQ (w:World) (v:Value) (r:Rat):Prop:=RatP w v (decide (r.num<0)) r.num.natAbs r.den
end Sym
namespace Sym
def clR (r:Rat) (k:Nat):Cl:=⟨[],3,true,fun w f=>RQ w (.agg #[f 0,f 1,f 2]) r/\Siz r k⟩
section
variable {csz:List Nat}{numc:List Bool}{okT:List Nat}{nt:Nat}{cl:List Cl}{w0:World}{w:World}{v:Value}{p1 p2 p3 p4:Pat}{res:cM}{c d c1 c2 c3 c4 c5 c6:Nat}{r s t r1 r2 r3 r4:Rat}{k k1 k2 k3 k4 k5 k6:Nat}
end
end Sym
end Go.Proofs.YtobfdjojhfpakaaGreatDoor
