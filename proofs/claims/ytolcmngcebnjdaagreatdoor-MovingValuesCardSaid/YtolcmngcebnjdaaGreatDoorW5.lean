/- Part 5. -/
import Derived.Test.YtolcmngcebnjdaaGreatDoorW4
import Derived.RangeFuncIn
set_option linter.all false
open Bool (or_eq_true)
open List (append_assoc mem_cons mem_cons_of_mem size_toArray take_of_length_le)
open Nat (add_zero eq_of_beq_eq_true le_of_ble_eq_true le_refl le_trans lt_or_ge zero_add zero_le)
open Go.Result (andThen_ok)
open Go.Sem (run_bind run_pure)
open Go.World (putObj_heap_other putObj_heap_same)
noncomputable section

namespace Go.Proofs.YtolcmngcebnjdaaGreatDoor
open Go Go.RowKit Go.Proofs
namespace Pe
variable {D:Type}
section
variable {F:Fence}{m:Nat}{P:Program}{ops:Array Oper}{Q:Exit->Act->World->Prop}{md:Region.Mode}
def ccy (l:Array Bool):Nat:=(l.toList.filter (fun b=>!b)).length
theorem ccQ {l:Array Bool}{i:Nat}(h:l[i]?=some false):ccy (l.setIfInBounds i true)+1=ccy l:=by
 obtain⟨xs⟩:=l;unfold ccy;simp only[List.getElem?_toArray] at h;simp only[List.setIfInBounds_toArray]
 induction xs generalizing i with
 |nil=>simp at h
 |cons x xs ih =>
  cases i with
  |zero=>simp at h;subst h;simp
  |succ i =>
   simp at h;have:=ih h;cases x<;>simp [List.set_cons_succ]<;>omega
theorem JQ {l:Array Bool}{i:Nat}(hm:i∈Region.ready md ops l):l[i]?=some false:=by
 have h1:=(mem_ready.1 hm).1;have hlt:i<l.size:=by
  rcases lt_or_ge i l.size with h|h
  ·exact h
  ·simp [Array.getElem?_eq_none h] at h1
 rw[Array.getElem?_eq_getElem hlt];simp [hlt] at h1;rw[h1]
theorem any_inv (Inv:Array Bool->Act->World->Prop)
 (step:∀ l a w i,l.size=ops.size->Inv l a w->i∈Region.ready md ops l->wpOpIn F m P ops Q i (fun a' w'=>Inv (l.setIfInBounds i true) a' w') a w)
 (done:∀ l a w,l.size=ops.size->Inv l a w->Region.ready md ops l=[]->Q .normal a w) :
 ∀ (fuel:Nat) (l:Array Bool) (a:Act) (w:World),l.size=ops.size->ccy l<=fuel->Inv l a w->wpAnyIn F m P md ops Q fuel l a w:=by
 intro fuel
 induction fuel with
 |zero =>
  intro l a w hs hl hi;have hr:Region.ready md ops l=[]:=by
   cases hx:Region.ready md ops l with
   |nil=>rfl
   |cons i is =>
    have hm:i∈Region.ready md ops l:=by rw[hx];simp
    have:=ccQ (JQ hm);omega
  exact⟨hr,done l a w hs hi hr⟩
 |succ fuel ih =>
  intro l a w hs hl hi;refine⟨fun hr=>done l a w hs hi hr,fun i hm=>?_⟩;have h3:=ccQ (JQ hm);exact wpOpIn_mono (fun a' w' h=>ih _ a' w' (by simpa using hs) (by omega) h) (step l a w i hs hi hm)
theorem ckp {l:Array Bool}(hs:l.size=ops.size) (ht:∀ (i:Nat) (o:Oper),ops[i]?=some o->∀ e∈o.after,Region.binds md e=true->e.on<i) (hr:Region.ready md ops l=[]) :
 ∀ i,i<ops.size->l[i]?=some true:=by
 intro i
 induction i using Nat.strongRecOn with
 |ind i ih =>
  intro hi;have hl:i<l.size:=by omega
  rw[Array.getElem?_eq_getElem hl];cases hb:l[i] with
  |true=>rfl
  |false =>
   exfalso;have hm:i∈Region.ready md ops l:=by
    refine mem_ready.2 ⟨by simp [hl,hb],ops[i],Array.getElem?_eq_getElem hi,fun e he hbi=>?_⟩;have h1:=ht i ops[i] (Array.getElem?_eq_getElem hi) e he hbi;have h2:=ih e.on h1 (by omega);simp [h2]
   rw[hr] at hm;cases hm
end
def uS (pres:List Nat):List Edge->Nat
 |[]=>0
 |ed::l=>match Region.binds .any ed with
  |true=>2^ed.on||| pres.getD ed.on 0||| uS pres l
  |false=>uS pres l
def cT:List Nat->List Oper->List Nat
 |acc,[]=>acc
 |acc,o::l=>cT (acc++[uS acc o.after.toList]) l
theorem zZ {pres:List Nat}{j:Nat}:∀ {l:List Edge},(uS pres l).testBit j=true->∃ ed∈l,Region.binds .any ed=true/\(ed.on=j\/(pres.getD ed.on 0).testBit j=true)
 |[],h=>by simp [uS] at h
 |ed::l,h=>by
  unfold uS at h;split at h
  ·rename_i hb;simp only[Nat.testBit_or,or_eq_true] at h;rcases h with(h|h)|h
   ·rw[Nat.testBit_two_pow] at h;exact⟨ed,by simp,hb,.inl (by simpa using h)⟩
   ·exact⟨ed,by simp,hb,.inr h⟩
   ·obtain⟨d,h1,h2⟩:=zZ h;exact⟨d,mem_cons_of_mem _ h1,h2⟩
  ·obtain⟨d,h1,h2⟩:=zZ h;exact⟨d,mem_cons_of_mem _ h1,h2⟩
theorem yT:∀ (l:List Oper) (acc:List Nat),∃ r,cT acc l=acc++r/\r.length=l.length
 |[],acc=>⟨[],by simp [cT],rfl⟩
 |o::l,acc=>by
  obtain⟨r,h1,h2⟩:=yT l (acc++[uS acc o.after.toList]);exact⟨uS acc o.after.toList::r,by simp [cT,h1],by simp [h2]⟩
theorem zi:∀ (l:List Oper) (acc:List Nat) (i:Nat) (o:Oper),l[i]?=some o->∀ j,((cT acc l).getD (acc.length+i) 0).testBit j=true->
 ∃ ed∈o.after.toList,Region.binds .any ed=true/\(ed.on=j\/((cT acc l).getD ed.on 0).testBit j=true)
 |[],acc,i,o,h,j,hj=>by simp at h
 |o'::l,acc,0,o,h,j,hj=>by
  simp at h;subst h;obtain⟨r,h1,h2⟩:=yT l (acc++[uS acc o'.after.toList]);have h3:cT acc (o'::l)=acc++(uS acc o'.after.toList::r):=by simp [cT,h1]
  rw[h3] at hj ⊢;simp at hj;obtain⟨ed,h4,h5,h6⟩:=zZ hj;refine⟨ed,h4,h5,h6.imp (fun h=>h) fun h6=>?_⟩;have hlt:ed.on<acc.length:=by
   rcases lt_or_ge ed.on acc.length with h|h
   ·exact h
   ·simp [List.getD,List.getElem?_eq_none h] at h6
  simpa [List.getD,List.getElem?_append_left hlt] using h6
 |o'::l,acc,i+1,o,h,j,hj=>by
  have:=zi l (acc++[uS acc o'.after.toList]) i o (by simpa using h) j (by
   have h1:acc.length+(i+1)=(acc++[uS acc o'.after.toList]).length+i:=by simp;omega
   rw[← h1];exact hj)
  exact this
def Ck:List Oper->Nat->Bool
 |[],_=>true
 |o::l,i=>match o.after.toList.all (fun ed=>match Region.binds .any ed with
  |true=>Nat.blt ed.on i
  |false=>true) with
  |true=>Ck l (i+1)
  |false=>false
theorem uR:∀ {l:List Oper}{i:Nat},Ck l i=true->∀ j o,l[j]?=some o->∀ ed∈o.after,Region.binds .any ed=true->ed.on<i+j
 |[],i,_,j,o,hj=>by simp at hj
 |x::l,i,h,j,o,hj=>by
  unfold Ck at h;split at h
  ·rename_i hx;cases j with
   |zero =>
    simp at hj;subst hj;intro ed hed hb;have:=List.all_eq_true.1 hx ed (by simpa using hed);simp only[hb] at this;simpa using ux this
   |succ j =>
    intro ed hed hb;have:=uR h j o (by simpa using hj) ed hed hb;omega
  ·cases h
theorem pre_lt {ops:List Oper}(h:Ck ops 0=true):∀ (i:Nat),i<ops.length->∀ j,((cT [] ops).getD i 0).testBit j=true->j<i:=by
 intro i
 induction i using Nat.strongRecOn with
 |ind i ih =>
  intro hi j hj;obtain⟨ed,h1,h2,h3⟩:=zi ops [] i ops[i] (List.getElem?_eq_getElem hi) j (by simpa using hj);have h4:=uR h i ops[i] (List.getElem?_eq_getElem hi) ed (by simpa using h1) h2;rw[zero_add] at h4;rcases h3 with rfl|h3
  ·exact h4
  ·exact Nat.lt_trans (ih ed.on h4 (Nat.lt_trans h4 hi) j h3) h4
def Jo (pres:List Nat) (i j:Nat):Bool :=
 match Nat.beq i j with
 |true=>false
 |false=>match (pres.getD i 0).testBit j with
  |true=>false
  |false=>match (pres.getD j 0).testBit i with
   |true=>false
   |false=>true
def memL (k:Nat):List Nat->Bool
 |[]=>false
 |b::l=>match Nat.beq b k with
  |true=>true
  |false=>memL k l
def blksC:AC->List Nat
 |.ptr b _=>[b]
 |.slc b _ _ _=>[b]
 |.gsl b _=>[b]
 |.gso b _ _ _=>[b]
 |.fn b=>[b]
 |.yld b=>[b]
 |_=>[]
def cgJ:A1->List Nat
 |.one c=>blksC c
 |.agg cs=>cs.flatMap blksC
def Zc:Option AV->List Nat
 |some (.val a)=>cgJ a
 |some (.tup l)=>l.flatMap cgJ
 |none=>[]
def blksO:Option (Cw D)->List Nat
 |some (.blk _ cs _)=>cs.flatMap blksC
 |some (.clo _ pre cap)=>pre.flatMap cgJ++cap.flatMap cgJ
 |some (.loop _ sl ..)=>sl.flatMap fun p=>Zc (some p.2)
 |some (.ep b ..)=>[b]
 |_=>[]
def fnsC:AC->List Nat
 |.fn b=>[b]
 |_=>[]
def fnsV:Option AV->List Nat
 |some (.val (.one c))=>fnsC c
 |some (.val (.agg cs))=>cs.flatMap fnsC
 |_=>[]
def epsV (M:cG D):Option AV->List Nat
 |some (.val (.one (.fn b)))=>match M b with
  |some (.ep l ..)=>[l]
  |_=>[]
 |_=>[]
def cfd (M:cG D):Nat->List Nat->List Nat->List Nat
 |0,_,seen=>seen
 |_+1,[],seen=>seen
 |n+1,b::l,seen=>match memL b seen with
  |true=>cfd M n l seen
  |false=>cfd M n (blksO (M b)++l) (b::seen)
def looks (V:ji) (M:cG D) (o:Oper):List Nat :=
 match o.op with
 |.load _ x=>Zc (cD V x)++epsV M (cD V x)
 |.store _ x y=>Zc (cD V x)++(epsV M (cD V x)++fnsV (cD V y))
 |.indexAddr _ x _=>fnsV (cD V x)
 |.box _ x=>fnsV (cD V x)
 |.build _ ps=>ps.toList.flatMap fun p=>fnsV (cD V p.2)
 |.buildSlice _ _ ps=>ps.toList.flatMap fun p=>fnsV (cD V p.2)
 |.call c=>match c.callee with
  |.builtin .len=>c.args.toList.flatMap fun x=>fnsV (cD V x)
  |.builtin _=>c.args.toList.flatMap fun x=>Zc (cD V x)
  |.value f=>cfd M 1000 (Zc (cD V f)++c.args.toList.flatMap fun x=>Zc (cD V x)) []
  |_=>[]
 |.slice _ x ..=>Zc (cD V x)
 |_=>[]
abbrev Acc (D:Type):=List (Nat×Out D)
def jB (p:Nat->Bool) (b:Nat):Acc D->Nat->Option (Cw D)->Option (Cw D)
 |[],_,cur=>cur
 |t::W,j,cur=>match p j with
  |true=>match find b t.2.ws with
   |some o=>jB p b W (j+1) (some o)
   |none=>jB p b W (j+1) cur
  |false=>jB p b W (j+1) cur
def cY (p:Nat->Bool) (t:Nat):List Oper->Acc D->Nat->Option AV->Option AV
 |o::ops,x::W,j,cur=>match p j with
  |true=>match o.dst with
   |some d=>match Nat.beq d t with
    |true=>cY p t ops W (j+1) (some x.2.x)
    |false=>cY p t ops W (j+1) cur
   |none=>cY p t ops W (j+1) cur
  |false=>cY p t ops W (j+1) cur
 |_,_,_,cur=>cur
def GC (pres:List Nat) (i t:Nat):List Oper->Nat->Bool
 |[],_=>false
 |o::l,j=>match o.dst with
  |some d=>match Nat.beq d t with
   |true=>match Jo pres i j with
    |true=>true
    |false=>GC pres i t l (j+1)
   |false=>GC pres i t l (j+1)
  |none=>GC pres i t l (j+1)
def EV (pres:List Nat) (ops:List Oper) (acc:Acc D) (base:ji) (i:Nat):ji:=fun t =>
 match GC pres i t ops 0 with
 |true=>none
 |false=>cY (pres.getD i 0).testBit t ops acc 0 (base t)
def ZY (pres:List Nat) (acc:Acc D) (base:cG D) (nb i:Nat):cG D:=fun b =>
 jB (pres.getD i 0).testBit b acc 0 (match Nat.ble nb b with
  |true=>none
  |false=>base b)
def Ys (pres:List Nat) (acc:Acc D) (base:cG D) (nb i:Nat) (q:List Nat):cG D:=fun b =>
 match ZY pres acc base nb i b with
 |some (.blk ty cs z)=>match memL b q with
  |false=>none
  |true=>some (.blk ty cs z)
 |some (.gl ty z n g)=>match memL b q with
  |false=>none
  |true=>some (.gl ty z n g)
 |some .dead=>none
 |r=>r
def YZ (S:Stat D) (T:Tab D) (CF YF:cw D) (pres:List Nat) (ops:List Oper) (bs:ji) (bm:cG D) (nb:Nat):List Oper->Nat->Nat->Acc D->Option (Acc D×Nat×List Prop)
 |[],_,n,acc=>some (acc,n,[])
 |o::l,i,n,acc=>match Zr S T CF YF (EV pres ops acc bs i) (Ys pres acc bm nb i (looks (EV pres ops acc bs i) (ZY pres acc bm nb i) o)) n ops o with
  |some t=>match YZ S T CF YF pres ops bs bm nb l (i+1) t.n1 (acc++[(n,t)]) with
   |some (W,n',ob)=>some (W,n',t.ob++ob)
   |none=>none
  |none=>none
def YS (M:cG D) (ws:Ws D):Ws D->Bool
 |[]=>true
 |p::l=>match M p.1 with
  |some _=>false
  |none=>match memN p.1 ws with
   |true=>false
   |false=>YS M ws l
def JF (pres:List Nat) (M:cG D) (ws:Ws D) (i:Nat):Acc D->Nat->Bool
 |[],_=>true
 |t::W,j=>match t.2.ws with
  |[]=>JF pres M ws i W (j+1)
  |p::l=>match Jo pres i j with
   |true=>match YS M ws (p::l) with
    |true=>JF pres M ws i W (j+1)
    |false=>false
   |false=>JF pres M ws i W (j+1)
def cgk (pres:List Nat) (ops:List Oper) (W:Acc D) (bs:ji) (bm:cG D) (nb:Nat):List Oper->Acc D->Nat->Bool
 |o::l,t::W',i=>match (match o.dst with
  |some d=>GC pres i d ops 0
  |none=>false) with
  |true=>false
  |false=>match JF pres (Ys pres W bm nb i (looks (EV pres ops W bs i) (ZY pres W bm nb i) o)) t.2.ws i W 0 with
   |true=>cgk pres ops W bs bm nb l W' (i+1)
   |false=>false
 |[],[],_=>true
 |_,_,_=>false
def Jz (nt:Nat):List Oper->Acc D->List (Nat×AV)->Option (List (Nat×AV))
 |o::l,t::W,sl=>match ccM nt o.dst t.2.x sl with
  |some sl'=>Jz nt l W sl'
  |none=>none
 |_,_,sl=>some sl
def Zw:Acc D->Ws D->Ws D
 |[],m=>m
 |t::W,m=>Zw W (kn t.2.ws m)
def KY (S:Stat D) (T:Tab D) (CF YF:cw D) (nt:Nat) (base:cG D) (ops:List Oper) (st:St D):Option (St D×List Prop) :=
 match Ck ops 0 with
 |false=>none
 |true=>match YZ S T CF YF (cT [] ops) ops (fun t=>find t st.sl) (over base st.m) st.nb ops 0 st.nb [] with
  |none=>none
  |some (W,n,ob)=>match cgk (cT [] ops) ops W (fun t=>find t st.sl) (over base st.m) st.nb ops W 0 with
   |false=>none
   |true=>match Jz nt ops W st.sl with
    |some sl=>some (⟨n,sl,kn (Zw W []) st.m,st.ms⟩,ob)
    |none=>none
section
variable {pres:List Nat}
theorem cdY {i j:Nat}(h:Jo pres i j=false):i=j\/(pres.getD i 0).testBit j=true\/(pres.getD j 0).testBit i=true:=by
 unfold Jo at h;split at h
 ·rename_i hb;exact .inl (eq_of_beq_eq_true hb)
 ·split at h
  ·rename_i hb;exact .inr (.inl hb)
  ·split at h
   ·rename_i hb;exact .inr (.inr hb)
   ·cases h
theorem cfu {i j:Nat}(h1:i≠j) (h2:(pres.getD i 0).testBit j=false) (h3:(pres.getD j 0).testBit i=false):Jo pres i j=true:=by
 unfold Jo;have:Nat.beq i j=false:=by
  cases h:Nat.beq i j with
  |false=>rfl
  |true=>exact absurd (eq_of_beq_eq_true h) h1
 simp [this];rw[List.getD] at h2 h3;simp [h2,h3]
theorem Ey {p:Nat->Bool}{b:Nat}:∀ {W:Acc D}{j:Nat}{cur:Option (Cw D)},jB p b W j cur=(match jB p b W j none with|some o=>some o|none=>cur)
 |[],j,cur=>rfl
 |t::W,j,cur=>by
  unfold jB;split
  ·split
   ·rw[Ey];cases jB p b W (j+1) none<;>rfl
   ·exact Ey
  ·exact Ey
theorem zK {p q:Nat->Bool}{b:Nat}:∀ {W:Acc D}{j:Nat}{cur:Option (Cw D)},(∀ x t,W[x]?=some t->find b t.2.ws≠none->p (j+x)=q (j+x))->jB p b W j cur=jB q b W j cur
 |[],j,cur,_=>rfl
 |t::W,j,cur,h=>by
  have hr:∀ cur,jB p b W (j+1) cur=jB q b W (j+1) cur:=fun cur=>zK (fun x t' hx hf=>by
   have:=h (x+1) t' (by simpa using hx) hf;rw[show j+1+x=j+(x+1) by omega];exact this)
  unfold jB;cases hf:find b t.2.ws with
  |none =>
   simp only[];rw[hr];cases p j<;>cases q j<;>rfl
  |some o =>
   have:=h 0 t (by simp) (by rw[hf];simp);rw[add_zero] at this;rw[this];simp only[];rw[hr,hr]
theorem WB {p:Nat->Bool}{b:Nat}:∀ {W:Acc D}{j i:Nat}{cur:Option (Cw D)},(∀ x,j+i<=x->p x=false)->jB p b (W.take i) j cur=jB p b W j cur
 |[],j,i,cur,_=>by simp
 |t::W,j,0,cur,h=>by
  have:∀ (W:Acc D) (j:Nat),(∀ x,j<=x->p x=false)->jB p b W j cur=cur:=by
   intro W
   induction W with
   |nil=>intro j _;rfl
   |cons t W ih =>
    intro j hj;unfold jB;rw[hj j (le_refl _)];exact ih (j+1) (fun x hx=>hj x (by omega))
  rw[this (t::W) j (fun x hx=>h x (by omega))];rfl
 |t::W,j,i+1,cur,h=>by
  have hr:∀ cur,jB p b (W.take i) (j+1) cur=jB p b W (j+1) cur:=fun cur=>WB (fun x hx=>h x (by omega));rw[List.take_succ_cons];unfold jB;simp only[hr]
theorem cdi {p:Nat->Bool}{b i:Nat}{o:Cw D}:∀ {W:Acc D}{j:Nat}{cur:Option (Cw D)}{t:Nat×Out D},W[i]?=some t->p (j+i)=true->find b t.2.ws=some o->(∀ x t',i<x->W[x]?=some t'->p (j+x)=true->find b t'.2.ws=none)->jB p b W j cur=some o:=by
 intro W
 induction W generalizing i with
 |nil=>intro j cur t h;simp at h
 |cons t0 W ih =>
  intro j cur t h hp hf hx;cases i with
  |zero =>
   simp at h;subst h;unfold jB;rw[add_zero] at hp;rw[hp,hf];simp only[];have:∀ (W:Acc D) (j:Nat) (cur:Option (Cw D)),(∀ x t',W[x]?=some t'->p (j+x)=true->find b t'.2.ws=none)->jB p b W j cur=cur:=by
    intro W
    induction W with
    |nil=>intro j cur _;rfl
    |cons t W ih =>
     intro j cur hj;unfold jB;have hr:=ih (j+1) cur (fun x t' h1 h2=>hj (x+1) t' (by simpa using h1) (by rw[show j+(x+1)=j+1+x by omega];exact h2));cases hpj:p j with
     |true =>
      have:=hj 0 t (by simp) (by simpa using hpj);simp only[this];exact hr
     |false=>exact hr
   exact this W (j+1) _ (fun x t' h1 h2=>hx (x+1) t' (by omega) (by simpa using h1) (by rw[show j+(x+1)=j+1+x by omega];exact h2))
  |succ i =>
   have hr:∀ cur,jB p b W (j+1) cur=some o:=fun cur=>ih (by simpa using h) (by rw[show j+1+i=j+(i+1) by omega];exact hp) hf (fun x t' h1 h2 h3=>hx (x+1) t' (by omega) (by simpa using h2) (by rw[show j+(x+1)=j+1+x by omega];exact h3));unfold jB;simp only[hr];cases p j<;>simp only[]<;>cases find b t0.2.ws<;>rfl
theorem Cj {p q:Nat->Bool}{t:Nat}:∀ {ops:List Oper}{W:Acc D}{j:Nat}{cur:Option AV},(∀ x o,ops[x]?=some o->o.dst=some t->p (j+x)=q (j+x))->cY p t ops W j cur=cY q t ops W j cur
 |[],W,j,cur,_=>by simp [cY]
 |o::ops,[],j,cur,_=>by simp [cY]
 |o::ops,x::W,j,cur,h=>by
  have hr:∀ cur,cY p t ops W (j+1) cur=cY q t ops W (j+1) cur:=fun cur=>Cj (fun x o' hx hd=>by
   have:=h (x+1) o' (by simpa using hx) hd;rw[show j+1+x=j+(x+1) by omega];exact this)
  unfold cY;simp only[hr];cases hd:o.dst with
  |none=>simp only[];cases p j<;>cases q j<;>rfl
  |some d =>
   simp only[];cases hb:Nat.beq d t with
   |true =>
    have:=h 0 o (by simp) (by rw[hd,eq_of_beq_eq_true hb]);rw[add_zero] at this;rw[this]
   |false=>simp only[];cases p j<;>cases q j<;>rfl
theorem GK {p:Nat->Bool}{t:Nat}:∀ {ops:List Oper}{W:Acc D}{j i:Nat}{cur:Option AV},(∀ x,j+i<=x->p x=false)->cY p t ops (W.take i) j cur=cY p t ops W j cur
 |[],W,j,i,cur,_=>by simp [cY]
 |o::ops,[],j,i,cur,_=>by simp [cY]
 |o::ops,x::W,j,0,cur,h=>by
  have:∀ (ops:List Oper) (W:Acc D) (j:Nat),(∀ x,j<=x->p x=false)->cY p t ops W j cur=cur:=by
   intro ops
   induction ops with
   |nil=>intro W j _;simp [cY]
   |cons o ops ih =>
    intro W j hj;cases W with
    |nil=>simp [cY]
    |cons x W =>
     unfold cY;rw[hj j (le_refl _)];exact ih W (j+1) (fun x hx=>hj x (by omega))
  rw[this (o::ops) (x::W) j (fun x hx=>h x (by omega))];simp [cY]
 |o::ops,x::W,j,i+1,cur,h=>by
  have hr:∀ cur,cY p t ops (W.take i) (j+1) cur=cY p t ops W (j+1) cur:=fun cur=>GK (fun x hx=>h x (by omega));rw[List.take_succ_cons];unfold cY;simp only[hr]
theorem cbR {p:Nat->Bool}{t i:Nat}{o:Oper}{x:Nat×Out D}:∀ {ops:List Oper}{W:Acc D}{j:Nat}{cur:Option AV},ops[i]?=some o->W[i]?=some x->p (j+i)=true->o.dst=some t->(∀ y o',i<y->ops[y]?=some o'->p (j+y)=true->o'.dst≠some t)->cY p t ops W j cur=some x.2.x:=by
 intro ops
 induction ops generalizing i with
 |nil=>intro W j cur h;simp at h
 |cons o0 ops ih =>
  intro W j cur h hw hp hd hx;cases W with
  |nil=>simp at hw
  |cons w0 W =>
   cases i with
   |zero =>
    simp at h hw;subst h;subst hw;unfold cY;rw[add_zero] at hp;rw[hp,hd];simp only[Nat.beq_refl];have:∀ (ops:List Oper) (W:Acc D) (j:Nat) (cur:Option AV),(∀ y o',ops[y]?=some o'->p (j+y)=true->o'.dst≠some t)->cY p t ops W j cur=cur:=by
     intro ops
     induction ops with
     |nil=>intro W j cur _;simp [cY]
     |cons o ops ih =>
      intro W j cur hj;cases W with
      |nil=>simp [cY]
      |cons x W =>
       unfold cY;have hr:=ih W (j+1) cur (fun y o' h1 h2=>hj (y+1) o' (by simpa using h1) (by rw[show j+(y+1)=j+1+y by omega];exact h2));cases hpj:p j with
       |true =>
        have:=hj 0 o (by simp) (by simpa using hpj);simp only[];cases hod:o.dst with
        |none=>exact hr
        |some d =>
         simp only[];cases hb:Nat.beq d t with
         |true=>exact absurd (by rw[hod,eq_of_beq_eq_true hb]) this
         |false=>exact hr
       |false=>exact hr
    exact this ops W (j+1) _ (fun y o' h1 h2=>hx (y+1) o' (by omega) (by simpa using h1) (by rw[show j+(y+1)=j+1+y by omega];exact h2))
   |succ i =>
    have hr:∀ cur,cY p t ops W (j+1) cur=some x.2.x:=fun cur=>ih (by simpa using h) (by simpa using hw) (by rw[show j+1+i=j+(i+1) by omega];exact hp) hd (fun y o' h1 h2 h3=>hx (y+1) o' (by omega) (by simpa using h2) (by rw[show j+(y+1)=j+1+y by omega];exact h3));unfold cY;simp only[hr];cases p j<;>simp only[];cases o0.dst with
    |none=>rfl
    |some d=>simp only[];cases Nat.beq d t<;>rfl
theorem zh {i t:Nat}:∀ {l:List Oper}{j:Nat},GC pres i t l j=false->∀ x o,l[x]?=some o->o.dst=some t->Jo pres i (j+x)=false
 |[],j,_,x,o,h=>by simp at h
 |o0::l,j,hc,x,o,h=>by
  intro hd;unfold GC at hc;cases x with
  |zero =>
   simp at h;subst h;rw[hd] at hc;simp only[Nat.beq_refl] at hc;rw[add_zero];split at hc
   ·cases hc
   ·rename_i hu;exact hu
  |succ x =>
   have hr:GC pres i t l (j+1)=false:=by
    split at hc
    ·split at hc
     ·split at hc
      ·cases hc
      ·exact hc
     ·exact hc
    ·exact hc
   have:=zh hr x o (by simpa using h) hd;rw[show j+(x+1)=j+1+x by omega];exact this
theorem WV {M:cG D}{ws:Ws D}:∀ {l:Ws D},YS M ws l=true->∀ b,find b l≠none->M b=none/\find b ws=none
 |[],_,b,h=>by simp [jb,cQ] at h
 |p::l,hc,b,h=>by
  unfold YS at hc;split at hc
  ·cases hc
  ·rename_i hM;split at hc
   ·cases hc
   ·rename_i hm;by_cases hb:p.1=b
    ·subst hb;exact⟨hM,cas hm⟩
    ·have hb':Nat.beq p.1 b=false:=by
      cases h:Nat.beq p.1 b with
      |false=>rfl
      |true=>exact absurd (eq_of_beq_eq_true h) hb
     simp only[jb,cQ,hb'] at h;exact WV hc b h
theorem caq {M:cG D}{ws:Ws D}{i:Nat}:∀ {W:Acc D}{j:Nat},JF pres M ws i W j=true->∀ x t,W[x]?=some t->Jo pres i (j+x)=true->∀ b,find b t.2.ws≠none->M b=none/\find b ws=none
 |[],j,_,x,t,h=>by simp at h
 |t0::W,j,hp,x,t,h=>by
  intro hu;unfold JF at hp;cases x with
  |zero =>
   simp at h;subst h;rw[add_zero] at hu;split at hp
   ·rename_i he;intro b hb;rw[he] at hb;exact absurd rfl hb
   ·rename_i p l he;rw[hu] at hp;simp only at hp;split at hp
    ·rename_i hc;rw[he];exact WV hc
    ·cases hp
  |succ x =>
   have hr:JF pres M ws i W (j+1)=true:=by
    split at hp
    ·exact hp
    ·split at hp
     ·split at hp
      ·exact hp
      ·cases hp
     ·exact hp
   exact caq hr x t (by simpa using h) (by rw[show j+1+x=j+(x+1) by omega];exact hu)
theorem ccX {ops:List Oper}{W:Acc D}{bs:ji}{bm:cG D}{nb:Nat}:∀ {l:List Oper}{W':Acc D}{i:Nat},cgk pres ops W bs bm nb l W' i=true->∀ x o t,l[x]?=some o->W'[x]?=some t->(∀ d,o.dst=some d->GC pres (i+x) d ops 0=false)/\JF pres (Ys pres W bm nb (i+x) (looks (EV pres ops W bs (i+x)) (ZY pres W bm nb (i+x)) o)) t.2.ws (i+x) W 0=true
 |[],W',i,_,x,o,t,h=>by simp at h
 |o0::l,[],i,_,x,o,t,h=>by intro h2;simp at h2
 |o0::l,t0::W',i,hp,x,o,t,h=>by
  intro h2;unfold cgk at hp;split at hp
  ·cases hp
  ·rename_i hd;split at hp
   ·rename_i hpi;cases x with
    |zero =>
     simp at h h2;subst h;subst h2;rw[add_zero];exact⟨fun d hd'=>by rw[hd'] at hd;exact hd,hpi⟩
    |succ x =>
     have:=ccX hp x o t (by simpa using h) (by simpa using h2);rw[show i+(x+1)=i+1+x by omega];exact this
   ·cases hp
theorem cbx {b:Nat}:∀ {W:Acc D}{j:Nat}{m:Ws D},find b (Zw W m)=(match jB (fun _=>true) b W j none with|some o=>some o|none=>find b m)
 |[],j,m=>rfl
 |t::W,j,m=>by
  unfold Zw jB;rw[cbx (j:=j+1),Et];simp only[];cases hf:find b t.2.ws with
  |none=>rfl
  |some o =>
   simp only[];rw[Ey (cur:=some o)];cases jB (fun _=>true) b W (j+1) none<;>rfl
def UF (dst:Option Tmp) (x:AV) (t:Nat) (cur:Option AV):Option AV :=
 match dst with
 |some d=>match Nat.beq d t with
  |true=>some x
  |false=>cur
 |none=>cur
theorem chT {nt:Nat}{dst:Option Tmp}{x:AV}{sl sl':List (Nat×AV)}(h:ccM nt dst x sl=some sl') (t:Nat):find t sl'=UF dst x t (find t sl):=by
 unfold ccM at h;unfold UF;cases dst with
 |none=>injection h with h;subst h;rfl
 |some d =>
  simp only at h;split at h
  ·injection h with h;subst h
   rw[Et];simp only[jb,cQ];cases Nat.beq d t<;>rfl
  ·cases h
theorem Wz {nt:Nat}{t:Nat}:∀ {l:List Oper}{W:Acc D}{j:Nat}{sl sl':List (Nat×AV)},Jz nt l W sl=some sl'->find t sl'=cY (fun _=>true) t l W j (find t sl)
 |[],W,j,sl,sl',h=>by
  simp only[Jz,Option.some.injEq] at h;subst h;simp [cY]
 |o::l,[],j,sl,sl',h=>by
  simp only[Jz,Option.some.injEq] at h;subst h;simp [cY]
 |o::l,x::W,j,sl,sl',h=>by
  simp only[Jz] at h;split at h
  ·rename_i sl1 hs;rw[Wz (j:=j+1) h,chT hs];unfold UF
   conv=>rhs;unfold cY
   simp only[];cases o.dst with
   |none=>rfl
   |some d=>simp only[];cases Nat.beq d t<;>rfl
  ·cases h
theorem caY {nt:Nat}:∀ {l:List Oper}{W:Acc D}{sl sl':List (Nat×AV)},Jz nt l W sl=some sl'->∀ (x:Nat) (o:Oper) (t:Nat×Out D),l[x]?=some o->W[x]?=some t->∀ d,o.dst=some d->d<nt
 |[],W,sl,sl',_,x,o,t,h=>by simp at h
 |o0::l,[],sl,sl',_,x,o,t,h=>by intro h2;simp at h2
 |o0::l,x0::W,sl,sl',hp,x,o,t,h=>by
  intro h2 d hd;simp only[Jz] at hp;split at hp
  ·rename_i sl1 hs;cases x with
   |zero =>
    simp at h;subst h;unfold ccM at hs;rw[hd] at hs;simp only at hs;split at hs
    ·rename_i hlt;exact ux hlt
    ·cases hs
   |succ x=>exact caY hp x o t (by simpa using h) (by simpa using h2) d hd
  ·cases hp
end
end Pe
namespace Pe
variable {D:Type}
section
variable {S:Stat D}{T:Tab D}{CF YF:cw D}{pres:List Nat}{ops:List Oper}{bs:ji}{bm:cG D}{nb:Nat}
theorem JH (hF:CF.Mono) (hYF:YF.Mono):∀ {l:List Oper}{i n n':Nat}{acc W:Acc D}{ob:List Prop},YZ S T CF YF pres ops bs bm nb l i n acc=some (W,n',ob)->acc.length=i->
 (∃ r,W=acc++r)/\W.length=i+l.length/\n<=n'/\
 (∀ j o,l[j]?=some o->∃ n1 t,W[i+j]?=some (n1,t)/\Zr S T CF YF (EV pres ops (W.take (i+j)) bs (i+j)) (Ys pres (W.take (i+j)) bm nb (i+j) (looks (EV pres ops (W.take (i+j)) bs (i+j)) (ZY pres (W.take (i+j)) bm nb (i+j)) o)) n1 ops o=some t/\n<=n1/\t.n1<=n'/\(jH ob->jH t.ob))/\
 (∀ (j k:Nat) (tj tk:Nat×Out D),i<=j->j<k->W[j]?=some tj->W[k]?=some tk->tj.2.n1<=tk.1)
 |[],i,n,n',acc,W,ob,h,hl=>by
  simp only[YZ,Option.some.injEq,Prod.mk.injEq] at h;obtain⟨rfl,rfl,rfl⟩:=h;refine⟨⟨[],by simp⟩,by simp [hl],le_refl _,fun j o h=>by simp at h,fun j k tj tk hij hjk hj hk=>?_⟩;have:=(List.getElem?_eq_some_iff.1 hj).1;omega
 |o::l,i,n,n',acc,W,ob,h,hl=>by
  simp only[YZ] at h;split at h
  ·rename_i t ht;split at h
   ·rename_i W1 n1 ob1 hrest;injection h with h
    simp only[Prod.mk.injEq] at h;obtain⟨rfl,rfl,rfl⟩:=h;obtain⟨⟨r,hr⟩,h2,h3,h4,h5⟩:=JH hF hYF hrest (by simp [hl]);have hle:=cdT hF hYF ht;have hWi:W1[i]?=some (n,t):=by
     rw[hr,append_assoc,List.getElem?_append_right (by omega)];simp [hl]
    have htk:W1.take i=acc:=by
     rw[hr,append_assoc,List.take_append_of_le_length (by omega),take_of_length_le (by omega)]
    refine⟨⟨(n,t)::r,by rw[hr];simp⟩,by rw[h2];simp;omega,le_trans hle h3,?_,?_⟩
    ·intro j o' hj;cases j with
     |zero =>
      simp at hj;subst hj;refine⟨n,t,hWi,?_,le_refl _,h3,fun ha=>(jH.append ha).1⟩;rw[add_zero,htk];exact ht
     |succ j =>
      obtain⟨n2,t2,q1,q2,q3,q4,q5⟩:=h4 j o' (by simpa using hj);rw[show i+1+j=i+(j+1) by omega] at q1 q2;exact⟨n2,t2,q1,q2,by omega,q4,fun ha=>q5 (jH.append ha).2⟩
    ·intro j k tj tk hij hjk hj hk;rcases lt_or_ge i j with hlt|hge
     ·exact h5 j k tj tk hlt hjk hj hk
     ·have:j=i:=by omega
      subst this;rw[hWi] at hj;injection hj with hj
      subst hj;obtain⟨x,rfl⟩:∃ x,k=j+1+x:=⟨k-(j+1),by omega⟩;have hx:x<l.length:=by
       have:=(List.getElem?_eq_some_iff.1 hk).1;omega
      obtain⟨n2,t2,q1,q2,q3,q4,q5⟩:=h4 x l[x] (List.getElem?_eq_getElem hx);rw[hk] at q1;injection q1 with q1
      subst q1;exact q3
   ·cases h
  ·cases h
end
structure Inv (C : Ctx D) (nt : Nat) (e : Env) (w : World) (ops : Array Oper) (W : Acc D) (base : ji) (ds : List Deferred) (l : Array Bool) (a' : Act) (w' : World) : Prop where
  size : l.size = ops.size
  down : ∀ i, l.getD i false = true → ∀ j, ((cT [] ops.toList).getD i 0).testBit j = true → l.getD j false = true
  defers : a'.defers = ds
  tmps : a'.tmps.size = nt
  ex : ∃ e', Adv e w e' w' ∧ jh C e' w' ∧
    ((∀ b k, e'.ρ b = some k → e.ρ b = some k ∨ ∃ j t, W[j]? = some t ∧ l.getD j false = true ∧ t.1 ≤ b ∧ b < t.2.n1) ∧
     (∀ b k, e'.ν b = some k → e.ν b = some k ∨ ∃ j t, W[j]? = some t ∧ l.getD j false = true ∧ t.1 ≤ b ∧ b < t.2.n1) ∧
     (∀ b k, e'.φ b = some k → e.φ b = some k ∨ ∃ j t, W[j]? = some t ∧ l.getD j false = true ∧ t.1 ≤ b ∧ b < t.2.n1)) ∧
    (∀ b o, jB (fun j => l.getD j false) b W 0 none = some o → jQ C e' w' b o) ∧
    (∀ b o, jQ C e w b o → jB (fun j => l.getD j false) b W 0 none = none → jQ C e' w' b o) ∧
    jD e' a' (fun t => cY (fun j => l.getD j false) t ops.toList W 0 (base t))
theorem kg {l:Array Bool}{i j:Nat}(hi:i<l.size):(l.setIfInBounds i true).getD j false=if j=i then true else l.getD j false:=by
 simp only[Array.getD_eq_getD_getElem?,Array.getElem?_setIfInBounds];by_cases h:j=i
 ·subst h;simp [hi]
 ·rw[if_neg (fun e=>h e.symm),if_neg h]
section
variable {F:Fence}{m:Nat}
variable {C:Ctx D}{e0 e:Env}{w0 w w':World}{a:Act}{T:Tab D}{CF YF:cw D}{n0 nt:Nat}{base:cG D}{Q:Exit->Act->World->Prop}{ops:Array Oper}
theorem cer (hW:Wd F) (hC:C.Ok) (hT:T.Ok C) (hF:CF.Ok C) (hFm:CF.Mono) (hY:yV C YF) (hYm:YF.Mono) (hb:jl C e0 w0 base) {rid:Nat}{st st':St D}{ob:List Prop}(h:KY C.toStat T CF YF nt base ops.toList st=some (st',ob)) (ho:jH ob) (hf:kZ n0 st'.nb e0)
 (hQ:∀ a w,Sat C nt e0 w0 n0 st' a w->Q .normal a w) {a:Act} {w:World} (hs:Sat C nt e0 w0 n0 st a w):(Code.region rid ops true).wpIn F m C.P Q a w:=by
 unfold KY at h;split at h
 ·cases h
 rename_i hord;split at h
 ·cases h
 rename_i W n ob' hgo;split at h
 ·cases h
 rename_i hpairs;split at h
 rotate_left
 ·cases h
 rename_i sl hput;injection h with h
 injection h with h h'
 subst h;subst h';obtain⟨_,hWl,hnn,hWs,hdis⟩:=JH hFm hYm hgo rfl;simp only[zero_add] at hWl hWs;obtain⟨⟨e,hL,hV,rs,hdf,hmk⟩,hsz⟩:=hs;have hlen:ops.toList.length=ops.size:=by simp
 have hbd:Below w.heap.size w { w with drawn:=w.drawn+1 }:=⟨rfl,rfl,rfl,le_refl _,fun _ _=>rfl⟩;have hLd:ul C e0 w0 n0 st.nb st.m e { w with drawn:=w.drawn+1 }:=by
  have:=hL.trans (ul.below hL.good hbd st.nb);exact this
 generalize hwd:({ w with drawn:=w.drawn+1 }:World)=wd at hLd;have hM:=uv hb hLd;have hFree:kZ st.nb n e:=(hf.new (hLd.new.mono (le_refl _) (le_refl _)) hLd.le);refine wpIn_region_any hC.mixed ?_;rw[hwd];refine any_inv (Inv C nt e wd ops W (fun t=>find t st.sl) a.defers) ?_ ?_ ops.size _ a _ (by simp) (by unfold ccy;simp) ?_
 ·-- a step
  intro l a1 w1 i hls hI hrdy;obtain⟨hsz1,hdown,hdf1,htm1,e1,hadv,hgood,⟨hρ,hν,hφ⟩,hw1,hk1,hs1⟩:=hI;have hfalse':=JQ hrdy;have hil:i<l.size:=by
   rcases lt_or_ge i l.size with h|h
   ·exact h
   ·simp [Array.getElem?_eq_none h] at hfalse'
  have hfalse:l.getD i false=false:=by simp [Array.getD_eq_getD_getElem?,hfalse']
  obtain⟨_,o,hio,hr⟩:=mem_ready.1 hrdy;have hiol:ops.toList[i]?=some o:=by simpa using hio
  obtain⟨ni,t,hWi,hstep,hni,hti,hobt⟩:=hWs i o hiol;obtain⟨hclash,hpi⟩:=ccX hpairs i o (ni,t) hiol hWi;simp only[zero_add] at hclash hpi;have hpi:=fun x t' h1 h2=>caq hpi x t' h1 (by simpa using h2);have hilen:i<ops.toList.length:=by omega
  have hpre:∀ j,((cT [] ops.toList).getD i 0).testBit j=true->l.getD j false=true:=by
   intro j hj;obtain⟨ed,h4,h5,h6⟩:=zi ops.toList [] i o hiol j (by simpa using hj);have h7:=hr ed (by simpa using h4) h5;rcases h6 with rfl|h6
   ·exact h7
   ·exact hdown ed.on h7 j h6
  have hpost:∀ j,((cT [] ops.toList).getD j 0).testBit i=true->l.getD j false=false:=by
   intro j hj;cases hlj:l.getD j false with
   |false=>rfl
   |true =>
    have:=hdown j hlj i hj;rw[hfalse] at this;cases this
  have hpii:∀ x,i<=x->((cT [] ops.toList).getD i 0).testBit x=false:=by
   intro x hx;cases hb:((cT [] ops.toList).getD i 0).testBit x with
   |false=>rfl
   |true=>have:=pre_lt hord i hilen x hb;omega
  have hcong:∀ j,Jo (cT [] ops.toList) i j=false->((cT [] ops.toList).getD i 0).testBit j=l.getD j false:=by
   intro j hu;rcases cdY hu with h|h|h
   ·subst h;rw[hfalse,hpii i (le_refl _)]
   ·rw[h,hpre j h]
   ·rw[hpost j h];cases hb:((cT [] ops.toList).getD i 0).testBit j with
    |false=>rfl
    |true =>
     have h1:=hpre j hb;rw[hpost j h] at h1;cases h1
  have hVi:jD e1 a1 (EV (cT [] ops.toList) ops.toList (W.take i) (fun t=>find t st.sl) i):=by
   intro tt x hx;unfold EV at hx;split at hx
   ·cases hx
   ·rename_i hcl;rw[GK (fun x hx=>hpii x (by omega))] at hx;rw[Cj (q:=fun j=>l.getD j false) (fun x o' h1 h2=>by
     have:=zh hcl x o' h1 h2;rw[zero_add] at this ⊢;exact hcong x this)] at hx
    exact hs1 tt x hx
  have hraw:ZY (cT [] ops.toList) (W.take i) (over base st.m) st.nb i=ZY (cT [] ops.toList) W (over base st.m) st.nb i:=by
   funext b;exact WB (fun x hx=>hpii x (by omega))
  have hvs:EV (cT [] ops.toList) ops.toList (W.take i) (fun t=>find t st.sl) i=EV (cT [] ops.toList) ops.toList W (fun t=>find t st.sl) i:=by
   funext t;unfold EV;split
   ·rfl
   ·exact GK (fun x hx=>hpii x (by omega))
  have hMi:jl C e1 w1 (Ys (cT [] ops.toList) (W.take i) (over base st.m) st.nb i (looks (EV (cT [] ops.toList) ops.toList (W.take i) (fun t=>find t st.sl) i) (ZY (cT [] ops.toList) (W.take i) (over base st.m) st.nb i) o)):=by
   intro b ob1 hob;rw[hvs,hraw] at hob;have hnone:Ys (cT [] ops.toList) W (over base st.m) st.nb i (looks (EV (cT [] ops.toList) ops.toList W (fun t=>find t st.sl) i) (ZY (cT [] ops.toList) W (over base st.m) st.nb i) o) b=some ob1:=by
    unfold Ys at hob ⊢
    rwa [hraw] at hob
   have hcl:∀ x t',W[x]?=some t'->find b t'.2.ws≠none->((cT [] ops.toList).getD i 0).testBit (0+x)=l.getD (0+x) false:=by
    intro x t' h1 h2;rw[zero_add];cases hu:Jo (cT [] ops.toList) i x with
    |false=>exact hcong x hu
    |true =>
     have:=(hpi x t' h1 hu b h2).1;rw[hnone] at this;cases this
   have hg:jB ((cT [] ops.toList).getD i 0).testBit b W 0 (match Nat.ble st.nb b with|true=>none|false=>over base st.m b)=some ob1:=by
    unfold Ys ZY at hnone;split at hnone
    ·rename_i ty cs z hq;split at hnone
     ·cases hnone
     ·injection hnone with hnone;subst hnone;exact hq
    ·rename_i ty z n g hq;split at hnone
     ·cases hnone
     ·injection hnone with hnone;subst hnone;exact hq
    ·cases hnone
    ·exact hnone
   rw[Ey] at hg;split at hg
   ·rename_i o2 ho2;injection hg with hg;subst hg
    rw[zK (q:=fun j=>l.getD j false) hcl] at ho2;exact hw1 b _ ho2
   ·rename_i hn;rw[zK (q:=fun j=>l.getD j false) hcl] at hn;split at hg
    ·cases hg
    ·exact hk1 b ob1 (hM b ob1 hg) hn
  have hfree:kZ ni t.n1 e1:=by
   intro b h1 h2;obtain⟨q1,q2,q3⟩:=hFree b (by omega) (by omega);have hno:¬ ∃ j t',W[j]?=some t'/\l.getD j false=true/\t'.1<=b/\b<t'.2.n1:=by
    rintro⟨j,t',r1,r2,r3,r4⟩;rcases Nat.lt_trichotomy j i with hj|hj|hj
    ·have:=hdis j i t' (ni,t) (zero_le _) hj r1 hWi;simp only at this;omega
    ·subst hj;rw[hfalse] at r2;cases r2
    ·have:=hdis i j (ni,t) t' (zero_le _) hj hWi r1;simp only at this;omega
   refine⟨?_,?_,?_⟩
   ·cases hx:e1.ρ b with
    |none=>rfl
    |some x=>rcases hρ b x hx with h|h;(rw[q1] at h;cases h);exact absurd h hno
   ·cases hx:e1.ν b with
    |none=>rfl
    |some x=>rcases hν b x hx with h|h;(rw[q2] at h;cases h);exact absurd h hno
   ·cases hx:e1.φ b with
    |none=>rfl
    |some x=>rcases hφ b x hx with h|h;(rw[q3] at h;cases h);exact absurd h hno
  have hres:=cdl (F:=F) (m:=m) (Q:=Q) (K:=fun a' w'=>Inv C nt e wd ops W (fun t=>find t st.sl) a.defers (l.setIfInBounds i true) a' w') hW hC hT hF hY hVi hMi hgood hstep hfree (hobt ho) (fun v w2 hD=>by
   obtain⟨e2,hL2,hx2⟩:=hD;have hrng:∀ b,(ni<=b/\b<t.n1)->∃ j t',W[j]?=some t'/\(l.setIfInBounds i true).getD j false=true/\t'.1<=b/\b<t'.2.n1:=fun b hb=>⟨i,(ni,t),hWi,by rw[kg hil,if_pos rfl],hb.1,hb.2⟩;have hkeep:∀ b,(∃ j t',W[j]?=some t'/\l.getD j false=true/\t'.1<=b/\b<t'.2.n1)->∃ j t',W[j]?=some t'/\(l.setIfInBounds i true).getD j false=true/\t'.1<=b/\b<t'.2.n1:=by
    rintro b ⟨j,t',r1,r2,r3⟩;refine⟨j,t',r1,?_,r3⟩;rw[kg hil];split
    ·rfl
    ·exact r2
   have hgs:∀ b o2,find b t.ws=some o2->jB (fun j=>(l.setIfInBounds i true).getD j false) b W 0 none=some o2:=by
    intro b o2 hfb;refine cdi hWi (by simp only[zero_add];rw[kg hil,if_pos rfl]) hfb ?_;intro x t' hx hWx hlx;rw[zero_add,kg hil,if_neg (by omega)] at hlx;cases hfx:find b t'.2.ws with
    |none=>rfl
    |some o3 =>
     have hu:Jo (cT [] ops.toList) i x=true:=by
      refine cfu (by omega) (hpii x (by omega)) ?_;cases hb:((cT [] ops.toList).getD x 0).testBit i with
      |false=>rfl
      |true=>rw[hpost x hb] at hlx;cases hlx
     have:=(hpi x t' hWx hu b (by rw[hfx];simp)).2;rw[hfb] at this;cases this
   have hgn:∀ b,find b t.ws=none->jB (fun j=>(l.setIfInBounds i true).getD j false) b W 0 none=jB (fun j=>l.getD j false) b W 0 none:=by
    intro b hfb;refine zK (fun x t' h1 h2=>?_);simp only[zero_add];rw[kg hil];split
    ·rename_i hxi;subst hxi;rw[hWi] at h1;injection h1 with h1
     subst h1;exact absurd hfb h2
    ·rfl
   refine⟨by simpa using hsz1,?_,by rw[kq,hdf1],by rw[kL,htm1],e2,hadv.trans hL2.adv,hL2.good,⟨?_,?_,?_⟩,?_,?_,?_⟩
   ·intro x hxl j hj;rw[kg hil] at hxl ⊢;by_cases hji:j=i
    ·rw[if_pos hji]
    ·rw[if_neg hji];by_cases hxi:x=i
     ·subst hxi;exact hpre j hj
     ·rw[if_neg hxi] at hxl;exact hdown x hxl j hj
   ·intro b k hbk;rcases hL2.new.ρ b k hbk with h|h
    ·exact(hρ b k h).imp id (hkeep b)
    ·exact .inr (hrng b h)
   ·intro b k hbk;rcases hL2.new.ν b k hbk with h|h
    ·exact(hν b k h).imp id (hkeep b)
    ·exact .inr (hrng b h)
   ·intro b k hbk;rcases hL2.new.φ b k hbk with h|h
    ·exact(hφ b k h).imp id (hkeep b)
    ·exact .inr (hrng b h)
   ·intro b o2 hob;cases hfb:find b t.ws with
    |some o3 =>
     rw[hgs b o3 hfb] at hob;injection hob with hob;subst hob
     exact hL2.wrote b _ hfb
    |none =>
     rw[hgn b hfb] at hob;exact hL2.kept b o2 (hw1 b o2 hob) hfb
   ·intro b o2 hob hn;cases hfb:find b t.ws with
    |some o3 =>
     rw[hgs b o3 hfb] at hn;cases hn
    |none =>
     rw[hgn b hfb] at hn;exact hL2.kept b o2 (hk1 b o2 hob hn) hfb
   ·intro tt x hx;have hx:cY (fun j=>(l.setIfInBounds i true).getD j false) tt ops.toList W 0 (find tt st.sl)=some x:=hx;by_cases hd:o.dst=some tt
    ·have:=cbR (p:=fun j=>(l.setIfInBounds i true).getD j false) (j:=0) (cur:=find tt st.sl) hiol hWi (by simp only[zero_add];rw[kg hil,if_pos rfl]) hd (fun y o' h1 h2 h3 h4=>by
      rw[zero_add,kg hil,if_neg (by omega)] at h3;have hu:=zh (hclash tt hd) y o' h2 h4;rw[zero_add] at hu;have h5:=hcong y hu;rw[h3,hpii y (by omega)] at h5;cases h5)
     rw[this] at hx;injection hx with hx;subst hx
     have hlt:=caY hput i o (ni,t) hiol hWi tt hd;rw[hd];refine⟨v,?_,hx2⟩;have:tt<a1.tmps.size:=by rw[htm1];exact hlt
     simp [Act.put,this]
    ·rw[Cj (q:=fun j=>l.getD j false) (fun y o' h1 h2=>by
      rw[zero_add,kg hil];split
      ·rename_i hyi;subst hyi;rw[hiol] at h1;injection h1 with h1
       subst h1;exact absurd h2 hd
      ·rfl)] at hx
     obtain⟨u,h1,h2⟩:=hs1.ext hL2.adv.ext tt x hx;refine⟨u,?_,h2⟩;cases hdd:o.dst with
     |none=>exact h1
     |some d =>
      have:d≠tt:=fun h=>hd (by rw[hdd,h]);simp [Act.put,this,h1])
  unfold wpOpIn;simp only[hio];split at hres
  ·rename_i hw;rw[if_pos hw];exact hres
  ·rename_i hw;rw[if_neg hw];exact⟨fun f _=>hW.fn f,hres⟩
 ·-- the end
  intro l a1 w1 hls hI hrdy;obtain⟨hsz1,hdown,hdf1,htm1,e1,hadv,hgood,⟨hρ,hν,hφ⟩,hw1,hk1,hs1⟩:=hI;have hall:=ckp hls (fun i o hio ed hed hbi=>by
   have:=uR hord i o (by simpa using hio) ed hed hbi;simpa using this) hrdy
  have hall':∀ i,i<ops.size->l.getD i false=true:=fun i hi=>by
   simp [Array.getD_eq_getD_getElem?,hall i hi]
  have hWlt:∀ x t,W[x]?=some t->x<ops.size:=fun x t hx=>by
   have:=(List.getElem?_eq_some_iff.1 hx).1;omega
  have hg:∀ b,jB (fun j=>l.getD j false) b W 0 none=jB (fun _=>true) b W 0 none:=fun b=>zK (fun x t hx _=>by
   simp only[zero_add];exact hall' x (hWlt x t hx))
  have hrng:∀ b,(∃ j t,W[j]?=some t/\l.getD j false=true/\t.1<=b/\b<t.2.n1)->st.nb<=b/\b<n:=by
   rintro b ⟨j,t,r1,r2,r3,r4⟩;have hj:j<ops.toList.length:=by have:=hWlt j t r1;omega
   obtain⟨n2,t2,q1,q2,q3,q4,q5⟩:=hWs j _ (List.getElem?_eq_getElem hj);rw[r1] at q1;injection q1 with q1
   subst q1;simp only at r3 r4;exact⟨by omega,by omega⟩
  have hcat:∀ b,find b (Zw W ([]:Ws D))=jB (fun _=>true) b W 0 none:=fun b=>by
   rw[cbx (j:=0)];cases jB (fun _=>true) b W 0 none<;>rfl
  refine hQ a1 w1 ⟨⟨e1,hLd.trans (n2:=n) ⟨hnn,hadv,⟨fun b k h=>(hρ b k h).imp id (hrng b),fun b k h=>(hν b k h).imp id (hrng b),fun b k h=>(hφ b k h).imp id (hrng b)⟩,hgood,fun b o h=>?_,fun b o h1 h2=>?_⟩,?_,rs,hdf1.trans hdf,hmk.ext hadv.ext⟩,htm1⟩
  ·rw[hcat,← hg] at h;exact hw1 b o h
  ·rw[hcat,← hg] at h2;exact hk1 b o h1 h2
  ·intro tt x hx;have hx:find tt sl=some x:=hx;rw[Wz (j:=0) hput,← Cj (p:=fun j=>l.getD j false) (fun y o' h1 h2=>by
    have:=(List.getElem?_eq_some_iff.1 h1).1;simp only[zero_add];exact hall' y (by omega))] at hx
   exact hs1 tt x hx
 ·-- the beginning
  have hf0:∀ j,(Array.replicate ops.size false).getD j false=false:=by
   intro j;simp only[Array.getD_eq_getD_getElem?,Array.getElem?_replicate];split<;>rfl
  have hfun:(fun j=>(Array.replicate ops.size false).getD j false)=fun _=>false:=funext hf0;have hg0:∀ b,jB (fun j=>(Array.replicate ops.size false).getD j false) b W 0 none=none:=by
   intro b;rw[hfun];have:∀ (W:Acc D) (j:Nat),jB (fun _=>false) b W j none=none:=by
    intro W
    induction W with
    |nil=>intro j;rfl
    |cons t W ih=>intro j;unfold jB;exact ih (j+1)
   exact this W 0
  have hs0:∀ (tt:Nat) (cur:Option AV),cY (fun j=>(Array.replicate ops.size false).getD j false) tt ops.toList W 0 cur=cur:=by
   intro tt cur;rw[hfun];have:∀ (ol:List Oper) (W:Acc D) (j:Nat),cY (fun _=>false) tt ol W j cur=cur:=by
    intro ol
    induction ol with
    |nil=>intro W j;simp [cY]
    |cons o ol ih =>
     intro W j;cases W with
     |nil=>simp [cY]
     |cons t W=>unfold cY;exact ih W (j+1)
   exact this _ W 0
  refine⟨by simp,fun i hi=>(by rw[hf0] at hi;cases hi),rfl,hsz,e,Adv.refl _ _,hLd.good,⟨fun _ _ h=>.inl h,fun _ _ h=>.inl h,fun _ _ h=>.inl h⟩,fun b o h=>(by rw[hg0] at h;cases h),fun b o h _=>h,?_⟩;intro tt x hx;have hx:cY (fun j=>(Array.replicate ops.size false).getD j false) tt ops.toList W 0 (find tt st.sl)=some x:=hx;rw[hs0] at hx;exact hV tt x hx
end
end Pe
namespace Pe
variable {D:Type}
inductive Xt where
 |normal
 |exit (id:Nat)
 |ret
def Xt.to:Xt->Exit
 |.normal=>.normal
 |.exit id=>.exit id
 |.ret=>.ret
abbrev Ran (D:Type):=Option (Xt×St D×List Prop)
def zE (f:St D->Ran D):Nat->St D->Ran D
 |0,_=>none
 |n+1,st=>match f st with
  |some (.normal,st',ob)=>match zE f n st' with
   |some (x,st2,ob2)=>some (x,st2,ob++ob2)
   |none=>none
  |r=>r
def Ux (CF:cw D) (nt:Nat) (base:cG D) (fid:FuncId) (ps:List Nat) (assign body:Code) (f:FuncId) (pre cap:List A1) (st:St D):Ran D :=
 match CF (over base (kn [(st.nb+1,.loop nt st.sl ps fid assign body .ready)] (kn [(st.nb,.mark)] st.m))) (st.nb+1+1) f (kF pre++([.val (.one (.yld (st.nb+1)))]++kF cap)) with
 |some t=>match over base (kn t.ws (kn [(st.nb+1,.loop nt st.sl ps fid assign body .ready)] (kn [(st.nb,.mark)] st.m))) (st.nb+1) with
  |some (.loop _ _ _ _ _ _ .ready)=>some (.normal,⟨t.n1,st.sl,kn [(st.nb+1,.dead)] (kn t.ws (kn [(st.nb+1,.loop nt st.sl ps fid assign body .ready)] (kn [(st.nb,.mark)] st.m))),st.nb::st.ms⟩,t.ob)
  |some (.loop _ _ _ _ _ _ (.done .ret))=>some (.ret,⟨t.n1,st.sl,kn [(st.nb+1,.dead)] (kn t.ws (kn [(st.nb+1,.loop nt st.sl ps fid assign body .ready)] (kn [(st.nb,.mark)] st.m))),st.nb::st.ms⟩,t.ob)
  |some (.loop _ _ _ _ _ _ (.done (.exit id)))=>some (.exit id,⟨t.n1,st.sl,kn [(st.nb+1,.dead)] (kn t.ws (kn [(st.nb+1,.loop nt st.sl ps fid assign body .ready)] (kn [(st.nb,.mark)] st.m))),st.nb::st.ms⟩,t.ob)
  |_=>none
 |none=>none
def uc (S:Stat D) (TT:FuncId->Tab D) (CF YF:cw D) (nt:Nat) (base:cG D) (fid:FuncId) (inR:Bool):Nat->Code->St D->Ran D
 |0,_,_=>none
 |n+1,c,st=>match c with
  |.skip=>some (.normal,st,[])
  |.label _=>some (.normal,st,[])
  |.exit id=>some (.exit id,st,[])
  |.ret=>some (.ret,st,[])
  |.region _ ops draw=>match (match draw with
   |true=>KY S (TT fid) CF YF nt base ops.toList st
   |false=>Jw S (TT fid) CF YF nt base ops.toList ops.toList st) with
   |some (st',ob)=>some (.normal,st',ob)
   |none=>none
  |.seq x y=>match uc S TT CF YF nt base fid inR n x st with
   |some (.normal,st',ob)=>match uc S TT CF YF nt base fid inR n y st' with
    |some (x2,st2,ob2)=>some (x2,st2,ob++ob2)
    |none=>none
   |r=>r
  |.cond x c d=>match lit? (cD (fun t=>find t st.sl) x) with
   |some (.bool true)=>uc S TT CF YF nt base fid inR n c st
   |some (.bool false)=>uc S TT CF YF nt base fid inR n d st
   |_=>none
  |.block id c=>match uc S TT CF YF nt base fid inR n c st with
   |some (.exit j,st',ob)=>match Nat.beq j id with
    |true=>some (.normal,st',ob)
    |false=>some (.exit j,st',ob)
   |r=>r
  |.loop c=>zE (fun st=>uc S TT CF YF nt base fid inR n c st) n st
  |.rangeFunc g ps assign body=>match inR with
   |true=>none
   |false=>match cD (fun t=>find t st.sl) g with
    |some (.val (.one (.lit (.func (.func f) ⟨[]⟩ ⟨[]⟩))))=>Ux CF nt base fid ps.toList assign body f [] [] st
    |some (.val (.one (.fn k)))=>match over base st.m k with
     |some (.clo f pre cap)=>Ux CF nt base fid ps.toList assign body f pre cap st
     |_=>none
    |_=>none
  |_=>none
section
variable {S:Stat D}{T:Tab D}{TT:FuncId->Tab D}{CF YF:cw D}{nt:Nat}{base:cG D}{fid:FuncId}{inR:Bool}
theorem Uz {f:St D->Ran D}(hf:∀ st x st' ob,f st=some (x,st',ob)->st.nb<=st'.nb):∀ (n:Nat) (st:St D) (x:Xt) (st':St D) (ob:List Prop),zE f n st=some (x,st',ob)->st.nb<=st'.nb
 |0,st,x,st',ob,h=>by simp [zE] at h
 |n+1,st,x,st',ob,h=>by
  unfold zE at h;split at h
  ·rename_i st1 ob1 h1;split at h
   ·rename_i x2 st2 ob2 h2;injection h with h;simp only[Prod.mk.injEq] at h
    obtain⟨rfl,rfl,rfl⟩:=h;exact le_trans (hf _ _ _ _ h1) (Uz hf n _ _ _ _ h2)
   ·cases h
  ·exact hf _ _ _ _ h
theorem cfH (hF:CF.Mono) (hYF:YF.Mono) {ops:List Oper}{st st':St D}{ob:List Prop}(h:KY S T CF YF nt base ops st=some (st',ob)):st.nb<=st'.nb:=by
 unfold KY at h;split at h
 ·cases h
 ·split at h
  ·cases h
  ·rename_i W n ob' hgo;split at h
   ·cases h
   ·split at h
    ·injection h with h;injection h with h h'
     subst h;exact(JH hF hYF hgo rfl).2.2.1
    ·cases h
theorem UJ (hF:CF.Mono) {ps:List Nat}{assign body:Code}{f:FuncId}{pre cap:List A1}{st st':St D}{x:Xt}{ob:List Prop}(h:Ux CF nt base fid ps assign body f pre cap st=some (x,st',ob)):st.nb<=st'.nb:=by
 unfold Ux at h;split at h
 ·rename_i t ht;have:=hF _ _ _ _ _ ht;split at h
  all_goals first
   |(injection h with h;simp only[Prod.mk.injEq] at h;obtain⟨rfl,rfl,rfl⟩:=h;show st.nb<=t.n1;omega)
   |cases h
 ·cases h
theorem kD (hF:CF.Mono) (hYF:YF.Mono):∀ (n:Nat) (c:Code) (st:St D) (x:Xt) (st':St D) (ob:List Prop),uc S TT CF YF nt base fid inR n c st=some (x,st',ob)->st.nb<=st'.nb
 |0,c,st,x,st',ob,h=>by simp [uc] at h
 |n+1,c,st,x,st',ob,h=>by
  unfold uc at h;split at h
  ·injection h with h;simp only[Prod.mk.injEq] at h;rw[h.2.1];exact le_refl _
  ·injection h with h;simp only[Prod.mk.injEq] at h;rw[h.2.1];exact le_refl _
  ·injection h with h;simp only[Prod.mk.injEq] at h;rw[h.2.1];exact le_refl _
  ·injection h with h;simp only[Prod.mk.injEq] at h;rw[h.2.1];exact le_refl _
  ·split at h
   ·rename_i st1 ob1 h1;injection h with h;simp only[Prod.mk.injEq] at h
    obtain⟨rfl,rfl,rfl⟩:=h;split at h1
    ·exact cfH hF hYF h1
    ·exact UP hF hYF h1
   ·cases h
  ·split at h
   ·rename_i st1 ob1 h1;split at h
    ·rename_i x2 st2 ob2 h2;injection h with h;simp only[Prod.mk.injEq] at h
     obtain⟨rfl,rfl,rfl⟩:=h;exact le_trans (kD hF hYF n _ _ _ _ _ h1) (kD hF hYF n _ _ _ _ _ h2)
    ·cases h
   ·exact kD hF hYF n _ _ _ _ _ h
  ·split at h
   ·exact kD hF hYF n _ _ _ _ _ h
   ·exact kD hF hYF n _ _ _ _ _ h
   ·cases h
  ·split at h
   ·rename_i j st1 ob1 h1;split at h
    ·injection h with h;simp only[Prod.mk.injEq] at h
     obtain⟨rfl,rfl,rfl⟩:=h;exact kD hF hYF n _ _ _ _ _ h1
    ·injection h with h;simp only[Prod.mk.injEq] at h
     obtain⟨rfl,rfl,rfl⟩:=h;exact kD hF hYF n _ _ _ _ _ h1
   ·exact kD hF hYF n _ _ _ _ _ h
  ·exact Uz (fun st x st' ob h=>kD hF hYF n _ st x st' ob h) n _ _ _ _ h
  ·split at h
   ·cases h
   ·split at h
    ·exact UJ hF h
    ·split at h
     ·exact UJ hF h
     ·cases h
    ·cases h
  ·cases h
end
section
variable {F:Fence}{m:Nat}
variable {C:Ctx D}{e0:Env}{w0:World}{TT:FuncId->Tab D}{CF YF:cw D}{n0 nt:Nat}{base:cG D}{fid:FuncId}{inR:Bool}
def GU (C:Ctx D) (nt:Nat) (e0:Env) (w0:World) (n0:Nat) (x:Xt) (st:St D):Exit->Act->World->Prop:=fun e a w=>e=x.to/\Sat C nt e0 w0 n0 st a w
theorem Ch (hW:Wd F) {c:Code}{f:St D->Ran D}{B:Nat}(hle:∀ st x st' ob,f st=some (x,st',ob)->st.nb<=st'.nb) (hf:∀ st x st' ob,f st=some (x,st',ob)->jH ob->st'.nb<=B->∀ a w,Sat C nt e0 w0 n0 st a w->c.wpIn F m C.P (GU C nt e0 w0 n0 x st') a w) :
 ∀ (n:Nat) (st:St D) (x:Xt) (st':St D) (ob:List Prop),zE f n st=some (x,st',ob)->jH ob->st'.nb<=B->∀ a w,Sat C nt e0 w0 n0 st a w->x≠.normal/\∀ (b:Frame) (k:List Item) (cs:List Frame),b.roundOf=F.round->
  ∃ e a' w',GU C nt e0 w0 n0 x st' e a' w'/\ArrivesIn (Machine.fenced C.P F) C.P (lone (b.atR a (.code c::.inLoop c::k)) cs w) b k cs e a' w'
 |0,st,x,st',ob,h,ho,hB,a,w,hs=>by simp [zE] at h
 |n+1,st,x,st',ob,h,ho,hB,a,w,hs=>by
  unfold zE at h;split at h
  ·rename_i st1 ob1 h1;split at h
   ·rename_i x2 st2 ob2 h2;injection h with h;simp only[Prod.mk.injEq] at h
    obtain⟨rfl,rfl,rfl⟩:=h;obtain⟨ho1,ho2⟩:=ho.append;have hle2:=Uz hle n _ _ _ _ h2;have hb:=hf _ _ _ _ h1 ho1 (le_trans hle2 hB) a w hs;constructor
    ·obtain⟨e,a₁,w₁,⟨rfl,hq⟩,harr⟩:=hb { (default:Frame) with roundOf:=F.round } [] [] rfl (hW.fn _) (hW.room _);exact(Ch hW hle hf n st1 x2 st2 ob2 h2 ho2 hB a₁ w₁ hq).1
    ·intro b k cs hbr;obtain⟨e,a₁,w₁,⟨rfl,hq⟩,harr⟩:=hb b (.inLoop c::k) cs hbr (hW.fn _) (hW.room _);obtain⟨e₂,a₂,w₂,hq₂,harr₂⟩:=(Ch hW hle hf n st1 x2 st2 ob2 h2 ho2 hB a₁ w₁ hq).2 b k cs hbr;exact⟨e₂,a₂,w₂,hq₂,.of_steps (StepsIn.trans harr (.one (fenced_calm (n:=m) (hW.fn _) (hW.room _) rfl) stepR_inLoop)) harr₂⟩
   ·cases h
  ·rename_i hne;have hb:=hf _ _ _ _ h ho hB a w hs;constructor
   ·intro hx;subst hx;exact hne st' ob h
   ·intro b k cs hbr;obtain⟨e,a₁,w₁,⟨rfl,hq⟩,harr⟩:=hb b (.inLoop c::k) cs hbr (hW.fn _) (hW.room _);cases x with
    |normal=>exact absurd h (hne st' ob)
    |exit id=>exact⟨_,a₁,w₁,⟨rfl,hq⟩,.pass (x:=.inLoop c) rfl (fun _ _=>.inl (by simp [Xt.to])) harr⟩
    |ret=>exact⟨_,a₁,w₁,⟨rfl,hq⟩,.pass (x:=.inLoop c) rfl (fun _ _=>.inl (by simp [Xt.to])) harr⟩
theorem caN (hC:C.Ok) (hF:CF.Ok C) (hFm:CF.Mono) (hb:jl C e0 w0 base) {B:Nat}(hfree:kZ n0 B e0) {g:Operand}{ps:Array Nat}{assign body:Code}{f:FuncId}{pre cap:List A1}{p q:List Value}{st st':St D}{x:Xt}{ob:List Prop}(h:Ux CF nt base fid ps.toList assign body f pre cap st=some (x,st',ob)) (ho:jH ob) (hB:st'.nb<=B)
 {a:Act} {w:World} {e:Env} (hL:ul C e0 w0 n0 st.nb st.m e w) (hV:jD e a (fun t=>find t st.sl)) (hmk:∃ rs,a.defers=rs.map Jj/\KD e st.ms rs) (hsz:a.tmps.size=nt) (hg:a.eval g=.func (.func f) p.toArray q.toArray) (hp:kB e pre p) (hq:kB e cap q) :
 (Code.rangeFunc g ps assign body).wpIn Fence.wide m C.P (GU C nt e0 w0 n0 x st') a w:=by
 have hle:=UJ hFm h;unfold Ux at h;split at h
 rotate_left
 ·cases h
 rename_i t hcall;have hn1:=hFm _ _ _ _ _ hcall;have hst:st'.nb=t.n1:=by
  split at h
  all_goals first
   |(injection h with h;simp only[Prod.mk.injEq] at h;obtain⟨_,rfl,_⟩:=h;rfl)
   |cases h
 have hob:ob=t.ob:=by
  split at h
  all_goals first
   |(injection h with h;simp only[Prod.mk.injEq] at h;obtain⟨_,_,rfl⟩:=h;rfl)
   |cases h
 have hfr:kZ st.nb t.n1 e:=(hfree.new (hL.new.mono (le_refl _) (le_refl _)) hL.le).mono (le_refl _) (by omega);obtain⟨rs,hdf,hms⟩:=hmk;refine wpIn_rangeFunc (fun fn _=>?_)
 let W1:World:=w.alloc (.deferred (some []))
 let R:Loop:={ state:=.ready,pending:=none,fn,tmps:=a.tmps,params:=ps,assign,body,defers:=w.heap.size }
 let W2:World:=W1.alloc (.loop R)
 have hs1:W1.heap.size=w.heap.size+1:=by show (w.heap.push _).size=_;simp
 have hk1:W1.heap[w.heap.size]?=some (.deferred (some [])):=by show (w.heap.push _)[w.heap.size]?=_;simp
 obtain⟨e1,hL1,hρ1⟩:=cbo (ob:=.mark) hL.good (hfr.mono (le_refl _) (by omega)) ((Below.refl _ w).alloc (le_refl _) _) (le_refl _) hk1 (.inr (.inr ⟨_,rfl⟩)) (fun e' _ h1 h2=>⟨_,h1,h2,hk1⟩);have hk2:W2.heap[W1.heap.size]?=some (.loop R):=by show (W1.heap.push _)[W1.heap.size]?=_;simp
 obtain⟨e2,hL2,hρ2⟩:=cbo (ob:=.loop nt st.sl ps.toList fid assign body .ready) hL1.good ((hfr.mono (le_refl _) (by omega:st.nb+1+1<=t.n1)).new (hL1.new.mono (le_refl _) (le_refl _)) (by omega)) ((Below.refl _ W1).alloc (le_refl _) _) (le_refl _) hk2 (.inr (.inl ⟨_,rfl⟩)) (fun e' hx h1 h2=>⟨_,R,h1,h2,hk2,(by simp [R]),rfl,rfl,hsz,fun tt y hy=>(by
  obtain⟨v,q1,q2⟩:=hV tt y hy;exact⟨v,q1,(q2.ext hL1.adv.ext).ext hx⟩),rfl,rfl⟩)
 have hLL:=(hL.trans hL1).trans hL2;have hext:Ext e e2:=hL1.adv.ext.trans hL2.adv.ext;have hM:=uv hb hLL;have hyld:(AV.val (.one (.yld (st.nb+1)))).is e2 (.func (.yield W1.heap.size) #[] #[]):=⟨_,hρ2,rfl⟩;have hargs:uZ e2 (kF pre++([.val (.one (.yld (st.nb+1)))]++kF cap)) (p++([.func (.yield W1.heap.size) #[] #[]]++q)) :=
  (yk (hp.ext hext)).append (uZ.append (cs:=[_]) (vs:=[_]) ⟨_,_,rfl,hyld,rfl⟩ (yk (hq.ext hext)))
 have hfr2:kZ (st.nb+1+1) t.n1 e2:=by
  have h1:=(hfr.new (hL1.new.mono (le_refl _) (le_refl _)) (by omega));exact h1.new (hL2.new.mono (le_refl _) (le_refl _)) (by omega)
 obtain⟨hen,hcalls⟩:=hF e2 W2 _ _ f _ _ t hM hLL.good hargs hcall hfr2 (by rw[← hob];exact ho);refine⟨W1.heap.size,[Jj w.heap.size],W2,{ target:=.fn (.func f) q.toArray,args:=p.toArray++#[.func (.yield W1.heap.size) #[] #[]] },W2,f,p.toArray++#[.func (.yield W1.heap.size) #[] #[]]++q.toArray,W2,?_,?_,fun _ _=>trivial,?_,(fun hd=>nomatch hd),?_⟩
 ·have:=run_enterLoop_outer (P:=C.P) (w:=w) fn a.tmps ps assign body;rw[hs1];exact this
 ·simp [resolve,hg,Deferred.ofValue,show ∀ v,a.eval (.const v)=v from fun _=>rfl]
 ·have:=hen (p.toArray++#[.func (.yield W1.heap.size) #[] #[]]++q.toArray) W2;simpa [invoke] using this
 ·have hx:(p++([Value.func (.yield W1.heap.size) #[] #[]]++q)).toArray=p.toArray++#[Value.func (.yield W1.heap.size) #[] #[]]++q.toArray:=by
   apply Array.ext';simp
  rw[← hx];refine CallsIn.mono (callsIn_wide.2 hcalls) ?_;rintro en w3 ⟨v,rfl,e3,hL3,_⟩;have hL4:=hLL.trans hL3;have hms3:KD e3 (st.nb::st.ms) (w.heap.size::rs):=⟨_,_,rfl,hL3.adv.ext.ρ _ _ (hL2.adv.ext.ρ _ _ hρ1),hms.ext (hext.trans hL3.adv.ext)⟩;have hV3:jD e3 a (fun t=>find t st.sl):=hV.ext (hext.trans hL3.adv.ext);have hfin:∀ (k:Nat) (r:Loop),e3.ρ (st.nb+1)=some k->e3.al (st.nb+1)=true->w3.heap[k]?=some (.loop r)->ul C e0 w0 n0 t.n1 (kn [(st.nb+1,.dead)] (kn t.ws (kn [(st.nb+1,.loop nt st.sl ps.toList fid assign body .ready)] (kn [(st.nb,.mark)] st.m)))) e3 (w3.putObj k (.loop { r with state:=.exhausted })):=by
   intro k r h1 h2 h3;have hlt:=(Array.getElem?_eq_some_iff.1 h3).1;exact hL4.trans (Jd hL4.good h1 h2 (w':=w3.putObj k (.loop { r with state:=.exhausted })) ⟨rfl,rfl,rfl,by simp [World.putObj],fun j hj=>putObj_heap_other hj⟩ (putObj_heap_same hlt) (.inr (.inl ⟨_,rfl⟩)) (ob:=.dead) trivial)
  have hk3:e3.ρ (st.nb+1)=some W1.heap.size:=hL3.adv.ext.ρ _ _ hρ2;have hM4:=uv hb hL4;split at h
  ·rename_i hlp;injection h with h;simp only[Prod.mk.injEq] at h
   obtain⟨rfl,rfl,rfl⟩:=h;obtain⟨k,r,h1,h2,h3,_,_,_,_,_,h4,h5⟩:=hM4 _ _ hlp;rw[hk3] at h1;injection h1 with h1;subst h1
   have hend:=run_endLoop (P:=C.P) h3 (by rw[h4];decide);exact⟨_,w3.putObj W1.heap.size (.loop { r with state:=.exhausted }),hend.trans (congrArg (fun z=>Result.ok z (w3.putObj W1.heap.size (.loop { r with state:=.exhausted }))) h5),rfl,⟨e3,hfin _ r hk3 h2 h3,hV3,_,by show [Jj w.heap.size]++a.defers=_;rw[hdf];rfl,hms3⟩,hsz⟩
  ·rename_i hlp;injection h with h;simp only[Prod.mk.injEq] at h
   obtain⟨rfl,rfl,rfl⟩:=h;obtain⟨k,r,h1,h2,h3,_,_,_,_,_,h4,h5⟩:=hM4 _ _ hlp;rw[hk3] at h1;injection h1 with h1;subst h1
   have hend:=run_endLoop (P:=C.P) h3 (by rw[h4];decide);exact⟨_,w3.putObj W1.heap.size (.loop { r with state:=.exhausted }),hend.trans (congrArg (fun z=>Result.ok z (w3.putObj W1.heap.size (.loop { r with state:=.exhausted }))) h5),wpIn_ret ⟨rfl,⟨e3,hfin _ r hk3 h2 h3,hV3,_,by show [Jj w.heap.size]++a.defers=_;rw[hdf];rfl,hms3⟩,hsz⟩⟩
  ·rename_i hlp;injection h with h;simp only[Prod.mk.injEq] at h
   obtain⟨rfl,rfl,rfl⟩:=h;obtain⟨k,r,h1,h2,h3,_,_,_,_,_,h4,h5⟩:=hM4 _ _ hlp;rw[hk3] at h1;injection h1 with h1;subst h1
   have hend:=run_endLoop (P:=C.P) h3 (by rw[h4];decide);exact⟨_,w3.putObj W1.heap.size (.loop { r with state:=.exhausted }),hend.trans (congrArg (fun z=>Result.ok z (w3.putObj W1.heap.size (.loop { r with state:=.exhausted }))) h5),wpIn_exit ⟨rfl,⟨e3,hfin _ r hk3 h2 h3,hV3,_,by show [Jj w.heap.size]++a.defers=_;rw[hdf];rfl,hms3⟩,hsz⟩⟩
  ·cases h
theorem jR (hW:Wd F) (hR:inR=false->F=Fence.wide) (hC:C.Ok) (hT:∀ f,(TT f).Ok C) (hF:CF.Ok C) (hFm:CF.Mono) (hY:yV C YF) (hYm:YF.Mono) (hb:jl C e0 w0 base) {B:Nat}(hfree:kZ n0 B e0):∀ (n:Nat) (c:Code) (st:St D) (x:Xt) (st':St D) (ob:List Prop),uc C.toStat TT CF YF nt base fid inR n c st=some (x,st',ob)->jH ob->st'.nb<=B->
 ∀ a w,Sat C nt e0 w0 n0 st a w->c.wpIn F m C.P (GU C nt e0 w0 n0 x st') a w
 |0,c,st,x,st',ob,h,ho,hB,a,w,hs=>by simp [uc] at h
 |n+1,c,st,x,st',ob,h,ho,hB,a,w,hs=>by
  unfold uc at h;split at h
  ·injection h with h;simp only[Prod.mk.injEq] at h
   obtain⟨rfl,rfl,rfl⟩:=h;exact wpIn_skip ⟨rfl,hs⟩
  ·injection h with h;simp only[Prod.mk.injEq] at h
   obtain⟨rfl,rfl,rfl⟩:=h;exact wpIn_label ⟨rfl,hs⟩
  ·injection h with h;simp only[Prod.mk.injEq] at h
   obtain⟨rfl,rfl,rfl⟩:=h;exact wpIn_exit ⟨rfl,hs⟩
  ·injection h with h;simp only[Prod.mk.injEq] at h
   obtain⟨rfl,rfl,rfl⟩:=h;exact wpIn_ret ⟨rfl,hs⟩
  ·rename_i rid ops draw;split at h
   ·rename_i st1 ob1 h1;injection h with h;simp only[Prod.mk.injEq] at h
    obtain⟨rfl,rfl,rfl⟩:=h;split at h1
    ·exact cer hW hC (hT fid) hF hFm hY hYm hb h1 ho (hfree.mono (le_refl _) hB) (fun a w h=>⟨rfl,h⟩) hs
    ·refine wpIn_region ?_;rw[List.range_eq_range'];have hl:ops.toList.length=ops.size:=by simp
     have:=caB (F:=F) (m:=m) (Q:=GU C nt e0 w0 n0 .normal st1) hW hC (hT fid) hF hFm hY hYm hb ops.toList.length ops.toList 0 st st1 ob1 rfl (by simp) h1 ho (hfree.mono (le_refl _) hB) (fun a w h=>⟨rfl,h⟩) a w hs;rw[hl] at this;exact this
   ·cases h
  ·apply wpIn_seq;split at h
   ·rename_i st1 ob1 h1;split at h
    ·rename_i x2 st2 ob2 h2;injection h with h;simp only[Prod.mk.injEq] at h
     obtain⟨rfl,rfl,rfl⟩:=h;obtain⟨ho1,ho2⟩:=ho.append;refine wpIn_mono (jR hW hR hC hT hF hFm hY hYm hb hfree n _ _ _ _ _ h1 ho1 (le_trans (kD hFm hYm n _ _ _ _ _ h2) hB) a w hs) ?_;rintro e a' w' ⟨rfl,hs'⟩;exact jR hW hR hC hT hF hFm hY hYm hb hfree n _ _ _ _ _ h2 ho2 hB a' w' hs'
    ·cases h
   ·rename_i hne;refine wpIn_mono (jR hW hR hC hT hF hFm hY hYm hb hfree n _ _ _ _ _ h ho hB a w hs) ?_;rintro e a' w' ⟨rfl,hs'⟩;cases x with
    |normal=>exact absurd h (hne st' ob)
    |exit id=>exact⟨rfl,hs'⟩
    |ret=>exact⟨rfl,hs'⟩
  ·obtain⟨⟨e,hL,hV,hmk⟩,hsz⟩:=hs;split at h
   ·rename_i hl;exact wpIn_cond_true (jU hV hl) (jR hW hR hC hT hF hFm hY hYm hb hfree n _ _ _ _ _ h ho hB a w ⟨⟨e,hL,hV,hmk⟩,hsz⟩)
   ·rename_i hl;exact wpIn_cond_false (jU hV hl) (jR hW hR hC hT hF hFm hY hYm hb hfree n _ _ _ _ _ h ho hB a w ⟨⟨e,hL,hV,hmk⟩,hsz⟩)
   ·cases h
  ·rename_i id1 c1;apply wpIn_block;split at h
   ·rename_i j st1 ob1 h1;split at h
    ·rename_i hj;injection h with h;simp only[Prod.mk.injEq] at h
     obtain⟨rfl,rfl,rfl⟩:=h;refine wpIn_mono (jR hW hR hC hT hF hFm hY hYm hb hfree n _ _ _ _ _ h1 ho hB a w hs) ?_;rintro e a' w' ⟨rfl,hs'⟩;simp only[Xt.to,Exit.inBlock,eq_of_beq_eq_true hj,if_true];exact⟨rfl,hs'⟩
    ·rename_i hj;injection h with h;simp only[Prod.mk.injEq] at h
     obtain⟨rfl,rfl,rfl⟩:=h;refine wpIn_mono (jR hW hR hC hT hF hFm hY hYm hb hfree n _ _ _ _ _ h1 ho hB a w hs) ?_;rintro e a' w' ⟨rfl,hs'⟩;have:¬ j=id1:=by
      rintro rfl;simp at hj
     simp only[Xt.to,Exit.inBlock,if_neg this];exact⟨rfl,hs'⟩
   ·rename_i hne;refine wpIn_mono (jR hW hR hC hT hF hFm hY hYm hb hfree n _ _ _ _ _ h ho hB a w hs) ?_;rintro e a' w' ⟨rfl,hs'⟩;cases x with
    |normal=>exact⟨rfl,hs'⟩
    |exit id=>exact absurd h (hne id st' ob)
    |ret=>exact⟨rfl,hs'⟩
  ·intro b k cs hbr hbf hrm;obtain⟨e,a',w',h1,h2⟩:=(Ch hW (B:=B) (fun st x st' ob h=>kD hFm hYm n _ st x st' ob h) (fun st x st' ob h ho hB=>jR hW hR hC hT hF hFm hY hYm hb hfree n _ st x st' ob h ho hB) n st x st' ob h ho hB a w hs).2 b k cs hbr;exact⟨e,a',w',h1,.of_steps (.one (fenced_calm (n:=m) hbf hrm rfl) stepR_loop) h2⟩
  ·rename_i g ps assign body;split at h
   ·cases h
   ·have hFw:=hR rfl;subst hFw;obtain⟨⟨e,hL,hV,hmk⟩,hsz⟩:=hs;split at h
    ·rename_i f hg;exact caN hC hF hFm hb hfree h ho hB hL hV hmk hsz (p:=[]) (q:=[]) (cK hV hg) rfl rfl
    ·rename_i k hg;split at h
     ·rename_i f pre cap hcl;obtain⟨p,q,h1,h2,h3⟩:=uv hb hL _ _ hcl;have hgv:e.φ k=some (a.eval g):=cK hV hg;rw[hgv] at h1;injection h1 with h1
      exact caN hC hF hFm hb hfree h ho hB hL hV hmk hsz h1 h2 h3
     ·cases h
    ·cases h
  ·cases h
end
def Yl (P:Program) (V:ji) (M:cG D):List ResultVar->Option (List A1)
 |[]=>some []
 |r::l=>match Yl P V M l with
  |none=>none
  |some xs=>match r with
   |.tmp t=>match V t with
    |some (.val x)=>some (x::xs)
    |_=>none
   |.cell a t=>match ptr? (V a) with
    |some (b,o)=>match Kx P M t b o with
     |some x=>some (x::xs)
     |none=>none
    |none=>none
def Ev:Nat->List AV->List (Nat×AV)
 |_,[]=>[]
 |t,x::l=>(t,x)::Ev (t+1) l
def idC:AC->List Nat->List Nat
 |.lit _,l=>l
 |.sym s _,l=>s::l
 |.ptr b _,l=>b::l
 |.slc b _ _ _,l=>b::l
 |.gsl b _,l=>b::l
 |.gso b _ _ _,l=>b::l
 |.fn c,l=>c::l
 |.yld b,l=>b::l
def idCs:List AC->List Nat->List Nat
 |[],l=>l
 |c::cs,l=>idC c (idCs cs l)
def idA:A1->List Nat->List Nat
 |.one c,l=>idC c l
 |.agg cs,l=>idCs cs l
def idAs:List A1->List Nat->List Nat
 |[],l=>l
 |a::as',l=>idA a (idAs as' l)
def idO:Cw D->List Nat->List Nat
 |.blk _ cs _,l=>idCs cs l
 |.clo _ p q,l=>idAs p (idAs q l)
 |.ep b _ _ _,l=>b::l
 |.cp b _ _ _,l=>b::l
 |_,l=>l
def cgI (m:Ws D):Nat->List Nat->Nat->Nat
 |0,_,k=>k
 |_+1,[],k=>k
 |n+1,i::ccy,k=>match Nat.testBit k i with
  |true=>cgI m n ccy k
  |false=>match find i m with
   |some o=>cgI m n (idO o ccy) (Nat.lor k (2^i))
   |none=>cgI m n ccy k
def cfX (n0:Nat):Ws D->List Nat->List Nat
 |[],l=>l
 |p::m,l=>match Nat.blt p.1 n0 with
  |true=>idO p.2 (cfX n0 m l)
  |false=>cfX n0 m l
def Yr (f:Nat->Bool):Nat->Ws D->Ws D
 |_,[]=>[]
 |s,p::m=>match f p.1 with
  |true=>match Nat.testBit s p.1 with
   |true=>Yr f s m
   |false=>p::Yr f (Nat.lor s (2^p.1)) m
  |false=>Yr f s m
def yI:List Nat->Ws D->Ws D
 |[],m=>m
 |b::bs,m=>yI bs (kn [(b,.dead)] m)
def Uq:List Nat->Ws D->Bool
 |[],_=>true
 |b::bs,m=>match find b m with
  |some .mark=>Uq bs (kn [(b,.dead)] m)
  |_=>false
def gcW (n0 n1:Nat) (xs:List A1) (m:Ws D):Ws D :=
 match cgI m 100000 (idAs xs (cfX n0 m [])) 0 with
 |k=>Yr (fun b=>match Nat.blt b n0 with
  |true=>true
  |false=>match Nat.ble n1 b with
   |true=>true
   |false=>Nat.testBit k b) 0 m
def Xt.ends:Xt->Bool
 |.normal=>true
 |.ret=>true
 |_=>false
def cbp:List A1->AV
 |[x]=>.val x
 |l=>.tup l
def cbS (S:Stat D) (TT:FuncId->Tab D) (CF YF:cw D) (g:Nat):cw D:=fun M n0 f l =>
 match S.P.funcs[f]? with
 |some fn=>match fn.body with
  |some c=>match Nat.ble l.length fn.ntmps with
   |true=>match uc S TT CF YF fn.ntmps M f false g c ⟨n0,Ev 0 l,[],[]⟩ with
    |some (xt,st,ob)=>match xt.ends,Uq st.ms st.m with
     |true,true=>match Yl S.P (fun t=>find t st.sl) (over M (yI st.ms st.m)) fn.results.toList with
      |some xs=>some ⟨cbp xs,gcW n0 st.nb xs (yI st.ms st.m),st.nb,ob⟩
      |none=>none
     |_,_=>none
    |none=>none
   |false=>none
  |none=>none
 |none=>none
def YY (nt:Nat):List Nat->List AV->List (Nat×AV)->Option (List (Nat×AV))
 |[],[],sl=>some sl
 |p::ps,x::xs,sl=>match Nat.blt p nt with
  |true=>YY nt ps xs (kn [(p,x)] sl)
  |false=>none
 |_,_,_=>none
def jmOf:Xt->Ls
 |.normal=>.ready
 |.ret=>.done .ret
 |.exit id=>.done (.exit id)
def Xt.isNormal:Xt->Bool
 |.normal=>true
 |_=>false
def runY (S:Stat D) (TT:FuncId->Tab D) (CF YF:cw D) (g:Nat):cw D:=fun M n0 b l =>
 match M b with
 |some (.loop nt sl ps fid assign body .ready)=>match YY nt ps l sl with
  |some sl1=>match uc S TT CF YF nt M fid true g assign ⟨n0,sl1,[],[]⟩ with
   |some (.normal,st1,ob1)=>match over M st1.m b with
    |some (.loop nt' sl' ps' fid' assign' body' .ready)=>match uc S TT CF YF nt M fid true g body ⟨st1.nb,st1.sl,kn [(b,.loop nt' sl' ps' fid' assign' body' .busy)] st1.m,st1.ms⟩ with
     |some (x,st2,ob2)=>match over M st2.m b with
      |some (.loop nt2 sl2 ps2 fid2 assign2 body2 .busy)=>some ⟨.val (.one (.lit (.bool x.isNormal))),gcW n0 st2.nb [] (kn [(b,.loop nt2 sl2 ps2 fid2 assign2 body2 (jmOf x))] st2.m),st2.nb,ob1++ob2⟩
      |_=>none
     |none=>none
    |_=>none
   |_=>none
  |none=>none
 |_=>none
def zY (S:Stat D) (TT:FuncId->Tab D) (g:Nat):Nat->cw D×cw D
 |0=>(fun _ _ _ _=>none,fun _ _ _ _=>none)
 |n+1=>(cbS S TT (zY S TT g n).1 (zY S TT g n).2 g,runY S TT (zY S TT g n).1 (zY S TT g n).2 g)
def callF (S:Stat D) (TT:FuncId->Tab D) (g n:Nat):cw D:=(zY S TT g n).1
theorem bit_set {s b c:Nat}(h:b≠c):Nat.testBit (Nat.lor s (2^b)) c=Nat.testBit s c:=by
 show Nat.testBit (s||| 2^b) c=_;rw[Nat.testBit_or,Nat.testBit_two_pow];simp [h]
theorem Ew {f:Nat->Bool}{b:Nat}:∀ {m:Ws D}{s:Nat},Nat.testBit s b=false->find b (Yr f s m)=(match f b with|true=>find b m|false=>none)
 |[],s,_=>by simp only[Yr,jb,cQ];cases f b<;>rfl
 |p::m,s,hs=>by
  unfold Yr;simp only[jb,cQ];cases hb:Nat.beq p.1 b with
  |true =>
   have hpb:=eq_of_beq_eq_true hb;rw[hpb];cases hf:f b with
   |true=>simp only[hs,jb,cQ,hb]
   |false =>
    simp only[];rw[Ew hs,hf]
  |false =>
   have hne:p.1≠b:=fun h=>by rw[h,Nat.beq_refl] at hb;cases hb
   cases hf:f p.1 with
   |true =>
    simp only[];cases ht:Nat.testBit s p.1 with
    |true=>exact Ew hs
    |false =>
     simp only[jb,cQ,hb];exact Ew (by rw[bit_set hne];exact hs)
   |false=>exact Ew hs
theorem caF {f:Nat->Bool}{b:Nat}{m:Ws D}:find b (Yr f 0 m)=(match f b with|true=>find b m|false=>none):=Ew (Nat.zero_testBit b)
section
variable {S:Stat D}{TT:FuncId->Tab D}{CF YF:cw D}{g:Nat}
theorem chQ (hF:CF.Mono) (hY:YF.Mono):(cbS S TT CF YF g).Mono:=by
 intro M n0 f l t h;unfold cbS at h;split at h
 rotate_left
 ·cases h
 split at h
 rotate_left
 ·cases h
 split at h
 rotate_left
 ·cases h
 split at h
 rotate_left
 ·cases h
 rename_i he;split at h
 rotate_left
 ·cases h
 split at h
 rotate_left
 ·cases h
 injection h with h;subst h
 exact kD hF hY _ _ _ _ _ _ he
theorem ciP (hF:CF.Mono) (hY:YF.Mono):(runY S TT CF YF g).Mono:=by
 intro M n0 f l t h;unfold runY at h;split at h
 rotate_left
 ·cases h
 split at h
 rotate_left
 ·cases h
 split at h
 rotate_left
 ·cases h
 rename_i he;split at h
 rotate_left
 ·cases h
 split at h
 rotate_left
 ·cases h
 rename_i he2;split at h
 rotate_left
 ·cases h
 injection h with h;subst h
 have h1:=kD hF hY _ _ _ _ _ _ he;have h2:=kD hF hY _ _ _ _ _ _ he2;exact le_trans h1 h2
theorem kh:∀ n,(zY S TT g n).1.Mono/\(zY S TT g n).2.Mono
 |0=>⟨fun M n0 f l t h=>by simp [zY] at h,fun M n0 f l t h=>by simp [zY] at h⟩
 |n+1=>⟨chQ (kh n).1 (kh n).2,ciP (kh n).1 (kh n).2⟩
end
section
variable {C:Ctx D}{e:Env}{w:World}{TT:FuncId->Tab D}{CF YF:cw D}
theorem ul.gc {n0 n1:Nat}{ws:Ws D}{e':Env}{w':World}(h:ul C e w n0 n1 ws e' w') (hf:kZ n0 n1 e) (xs:List A1):ul C e w n0 n1 (gcW n0 n1 xs ws) e' w':=by
 refine⟨h.le,h.adv,h.new,h.good,fun b o ho=>?_,fun b o ho hn=>?_⟩
 ·unfold gcW at ho;rw[caF] at ho;split at ho
  ·exact h.wrote b o ho
  ·cases ho
 ·unfold gcW at hn;rw[caF] at hn;split at hn
  ·exact h.kept b o ho hn
  ·rename_i hk;have hb:n0<=b/\b<n1:=by
    split at hk
    ·cases hk
    ·rename_i h1;split at hk
     ·cases hk
     ·rename_i h2;constructor
      ·rcases lt_or_ge b n0 with h|h
       ·rw[show Nat.blt b n0=true from Nat.ble_eq_true_of_le h] at h1;cases h1
       ·exact h
      ·rcases lt_or_ge b n1 with h|h
       ·exact h
       ·rw[Nat.ble_eq_true_of_le h] at h2;cases h2
   obtain⟨q1,q2,q3⟩:=hf b hb.1 hb.2;cases o with
   |blk ty cs z=>obtain⟨k,_,_,_,h1,_⟩:=ho;rw[q1] at h1;cases h1
   |clo f p q=>obtain⟨_,_,h1,_⟩:=ho;rw[q3] at h1;cases h1
   |cls d=>obtain⟨_,h1,_⟩:=ho;rw[q2] at h1;cases h1
   |loop nt sl ps fid assign body st=>obtain⟨k,_,h1,_⟩:=ho;rw[q1] at h1;cases h1
   |mark=>obtain⟨k,h1,_⟩:=ho;rw[q1] at h1;cases h1
   |gl ty z n g=>obtain⟨_,h1,_⟩:=ho;rw[q3] at h1;cases h1
   |ep l i z o=>obtain⟨_,_,h1⟩:=ho;rw[q3] at h1;cases h1
   |cp l i z o=>obtain⟨_,_,_,_,_,h1⟩:=ho;rw[q3] at h1;cases h1
   |dead=>trivial
def Yn (tmps:Array Value):ResultVar->Sem Value
 |.tmp t=>pure (tmps.getD t undef)
 |.cell p t=>do loadVar t (← asAddr (tmps.getD p undef))
theorem yw (fn:Func) (tmps:Array Value):results fn tmps=(do let vs ← fn.results.mapM (Yn tmps);pure (if h:vs.size=1 then vs[0] else .tuple vs)):=by
 unfold results;congr
theorem JS {a:Act}{V:ji}{M:cG D}(hV:jD e a V) (hM:jl C e w M):∀ {l:List ResultVar}{xs:List A1},Yl C.P V M l=some xs->
 ∃ vs,(l.mapM (Yn a.tmps)).run C.P w=.ok vs w/\kB e xs vs
 |[],xs,h=>by
  simp [Yl] at h;subst h;exact⟨[],by simp,rfl⟩
 |r::l,xs,h=>by
  simp only[Yl] at h;split at h
  ·cases h
  ·rename_i ys hys;obtain⟨vs,h1,h2⟩:=JS hV hM hys;split at h
   ·rename_i t;split at h
    ·rename_i x hx;injection h with h;subst h
     refine⟨a.eval (.tmp t)::vs,?_,_,_,rfl,cK hV (x:=.tmp t) hx,h2⟩;rw[List.mapM_cons];simp only[Yn,run_bind,run_pure,andThen_ok,h1];rfl
    ·cases h
   ·rename_i p t;split at h
    ·rename_i b o hb;obtain⟨k,hk,hx⟩:=EO hV (x:=.tmp p) hb;split at h
     ·rename_i y hy;injection h with h;subst h
      obtain⟨v,h3,h4⟩:=Gl hM hk hy;refine⟨v::vs,?_,_,_,rfl,h4,h2⟩;have hx':a.tmps.getD p undef=.pointer (some ⟨k,o,none⟩):=hx;rw[List.mapM_cons];simp only[Yn,run_bind,hx',asAddr,run_pure,andThen_ok,h1,h3]
     ·cases h
    ·cases h
theorem JA {x:AV}{t:Nat}:∀ {l:List AV}{j:Nat},find t (Ev j l)=some x->∃ i,l[i]?=some x/\t=j+i
 |[],j,h=>by simp [Ev,jb,cQ] at h
 |y::l,j,h=>by
  simp only[Ev,jb,cQ] at h;split at h
  ·rename_i hb;injection h with h;subst h
   exact⟨0,rfl,by rw[← eq_of_beq_eq_true hb];rfl⟩
  ·obtain⟨i,h1,h2⟩:=JA h;exact⟨i+1,by simpa using h1,by omega⟩
theorem Uc {e0:Env}{w0:World}{n0 n1 m:Nat}{fn:Func}{tmps:Array Value}{R:Ending->World->Prop}:∀ (bs rs:List Nat) (ws:Ws D) (e:Env) (w:World),ul C e0 w0 n0 n1 ws e w->KD e bs rs->Uq bs ws=true->
 (∀ w',ul C e0 w0 n0 n1 (yI bs ws) e w'->∃ v,(results fn tmps).run C.P w'=.ok v w'/\R (.returned v) w')->LeavesInM Fence.wide m C.P fn tmps R (rs.map Jj) .returning w
 |[],rs,ws,e,w,hL,hm,hk,hf=>by
  rw[show rs=[] from hm];exact hf w hL
 |b::bs,rs,ws,e,w,hL,⟨r,rs',h1,h2,h3⟩,hk,hf=>by
  subst h1;unfold Uq at hk;split at hk
  ·rename_i hfb;obtain⟨k,q1,q2,q3⟩:=hL.wrote b _ hfb;rw[h2] at q1;injection q1 with q1;subst q1
   have hlt:=(Array.getElem?_eq_some_iff.1 q3).1;refine⟨by simp,.inl ⟨r,w.putObj r (.deferred none),rfl,run_takeDeferred q3,?_⟩⟩;exact Uc bs rs' _ e _ (hL.trans (Jd hL.good h2 q2 (w':=w.putObj r (.deferred none)) ⟨rfl,rfl,rfl,by simp [World.putObj],fun j hj=>putObj_heap_other hj⟩ (putObj_heap_same hlt) (.inr (.inr ⟨_,rfl⟩)) (ob:=.dead) trivial)) h3 hk hf
  ·cases hk
theorem runF_ok (hC : C.Ok) (hN : ∀ (f : Nat) (fn : Func), C.P.funcs[f]? = some fn → (fn.name == "runtime.NumGoroutine") = false) (hT : ∀ f, (TT f).Ok C) (hF : CF.Ok C) (hFm : CF.Mono) (hY : yV C YF) (hYm : YF.Mono) {g : Nat} : (cbS C.toStat TT CF YF g).Ok C := by
 intro e w M n0 f l vs t hM hg hvs h hf ho;unfold cbS at h;split at h
 rotate_left
 ·cases h
 rename_i fn hfn;split at h
 rotate_left
 ·cases h
 rename_i c hbody;split at h
 rotate_left
 ·cases h
 rename_i hlen;have hlen:=le_of_ble_eq_true hlen;split at h
 rotate_left
 ·cases h
 rename_i xt st ob he;split at h
 rotate_left
 ·cases h
 rename_i hends hmarks;split at h
 rotate_left
 ·cases h
 rename_i xs hres;injection h with h
 subst h;refine⟨enters_of hfn (hN f fn hfn) hbody,?_⟩;have hvl:=hvs.length;have hs:Sat C fn.ntmps e w n0 ⟨n0,Ev 0 l,[],[]⟩ { tmps:=vs.toArray++Array.replicate (fn.ntmps-vs.toArray.size) undef,defers:=[] } w:=by
  refine⟨⟨e,ul.refl hg n0,?_,[],rfl,rfl⟩,?_⟩
  ·intro tt x hx;obtain⟨i,h1,h2⟩:=JA hx;obtain⟨v,h3,h4⟩:=hvs.get i x h1;refine⟨v,?_,h4⟩;have hil:i<vs.length:=(List.getElem?_eq_some_iff.1 h3).1;rw[h2,zero_add];show (vs.toArray++Array.replicate (fn.ntmps-vs.toArray.size) undef)[i]?=some v;rw[Array.getElem?_append_left (by simpa using hil)];simpa using h3
  ·simp only[Array.size_append,size_toArray,Array.size_replicate];omega
 refine(callsIn_wide (n:=0)).1 (callsIn_of_wp_marks hfn hbody trivial (wpIn_mono (jR (F:=Fence.wide) (.inl rfl) (fun _=>rfl) hC hT hF hFm hY hYm hM hf g c _ xt st ob he ho (le_refl _) _ _ hs) ?_));rintro ex a' w' ⟨rfl,⟨e',hL,hV,rs,hdf,hmk⟩,hsz⟩;have:LeavesInM Fence.wide 0 C.P fn a'.tmps (fun en w'=>∃ v,en=.returned v/\uW C e w n0 ⟨cbp xs,gcW n0 st.nb xs (yI st.ms st.m),st.nb,ob⟩ v w') a'.defers .returning w':=by
  rw[hdf];refine Uc st.ms rs st.m e' w' hL hmk hmarks (fun w2 hL2=>?_);obtain⟨us,h3,h4⟩:=JS hV (uv hM hL2) hres;have h5:(results fn a'.tmps).run C.P w2=.ok (if h:us.toArray.size=1 then us.toArray[0] else .tuple us.toArray) w2:=by
   rw[yw,Array.mapM_eq_mapM_toList];simp only[run_bind,Sem.run_map,h3,andThen_ok];rfl
  refine⟨_,h5,_,rfl,e',hL2.gc hf xs,?_⟩;have hul:=h4.length;unfold cbp;split
  ·rename_i x;obtain⟨v,ws,rfl,h6,h7⟩:=h4;rw[show ws=[] from h7];exact h6
  ·rename_i hne;have hl:us.toArray.size≠1:=by
    intro h1;have h1:us.length=1:=by simpa using h1
    rw[h1] at hul
    match xs,hul with
    |[x],_=>exact hne x rfl
   rw[dif_neg hl];exact⟨us,h4,rfl⟩
 cases xt with
 |normal=>exact this
 |ret=>exact this
 |exit id=>cases hends
theorem cen {nt:Nat}{e:Env}:∀ {ps:List Nat}{xs:List AV}{sl sl':List (Nat×AV)}{vs:List Value}{tm:Array Value},YY nt ps xs sl=some sl'->uZ e xs vs->tm.size=nt->jD e ⟨tm,[]⟩ (fun t=>find t sl)->
 vs.length=ps.length/\((ps.zip vs).foldl (fun tmps (t,a)=>tmps.setIfInBounds t a) tm).size=nt/\jD e ⟨(ps.zip vs).foldl (fun tmps (t,a)=>tmps.setIfInBounds t a) tm,[]⟩ (fun t=>find t sl')
 |[],[],sl,sl',vs,tm,h,hv,hs,hk=>by
  simp only[YY,Option.some.injEq] at h;subst h;rw[show vs=[] from hv];exact⟨rfl,hs,hk⟩
 |p::ps,x::xs,sl,sl',vs,tm,h,⟨v,ws,h1,h2,h3⟩,hs,hk=>by
  subst h1;simp only[YY] at h;split at h
  ·rename_i hp;have hput:ccM nt (some p) x sl=some (kn [(p,x)] sl):=by unfold ccM;simp only[hp]
   have:=WO (a:=⟨tm,[]⟩) hs hk hput (Ext.refl e) h2;obtain⟨q1,q2,q3⟩:=cen (tm:=tm.setIfInBounds p v) h h3 (by simpa using hs) this;exact⟨by simp [q1],q2,q3⟩
  ·cases h
 |[],_::_,sl,sl',vs,tm,h,hv,hs,hk=>by simp [YY] at h
 |_::_,[],sl,sl',vs,tm,h,hv,hs,hk=>by simp [YY] at h
theorem runY_ok (hC:C.Ok) (hT:∀ f,(TT f).Ok C) (hF:CF.Ok C) (hFm:CF.Mono) (hY:yV C YF) (hYm:YF.Mono) {g:Nat}:yV C (runY C.toStat TT CF YF g):=by
 intro e w M n0 b l vs t hM hg hvs h hf ho;unfold runY at h;split at h
 rotate_left
 ·cases h
 rename_i nt sl ps fid assign body hb;obtain⟨k,r,p1,p2,p3,p4,p5,p6,p7,p8,p9,p10⟩:=hM _ _ hb;split at h
 rotate_left
 ·cases h
 rename_i sl1 hbind;obtain⟨q1,q2,q3⟩:=cen hbind hvs p7 p8;have hfold:(r.params.zip vs.toArray).foldl (fun tmps (t,a)=>tmps.setIfInBounds t a) r.tmps=(ps.zip vs).foldl (fun tmps (t,a)=>tmps.setIfInBounds t a) r.tmps:=by
  rw[p4,← Array.foldl_toList];simp
 split at h
 rotate_left
 ·cases h
 rename_i st1 ob1 hex1;split at h
 rotate_left
 ·cases h
 rename_i nt' sl' ps' fid' assign' body' hl1;split at h
 rotate_left
 ·cases h
 rename_i x st2 ob2 hex2;split at h
 rotate_left
 ·cases h
 rename_i nt2 sl2 ps2 fid2 assign2 body2 hl2;injection h with h
 subst h;obtain⟨ho1,ho2⟩:=jH.append ho;have hle1:=kD hFm hYm _ _ _ _ _ _ hex1;have hle2:=kD hFm hYm _ _ _ _ _ _ hex2;refine⟨k,r,p1,p3,by rw[q1,p4];simp,fun F m hW=>?_⟩;rw[hfold];have hW':Wd (F.inRound k):=by
  rcases hW with rfl|⟨l0,rfl⟩
  ·exact .inr ⟨k,rfl⟩
  ·exact .inr ⟨k,rfl⟩
 have hs:Sat C nt e w n0 ⟨n0,sl1,[],[]⟩ { tmps:=(ps.zip vs).foldl (fun tmps (t,a)=>tmps.setIfInBounds t a) r.tmps,defers:=[] } w:=⟨⟨e,ul.refl hg n0,q3,[],rfl,rfl⟩,q2⟩;refine roundIn_of_wpIn (hW.fn _) ?_;rw[p5,p6];refine wpIn_mono (jR (F:=F.inRound k) hW' (fun h=>by cases h) hC hT hF hFm hY hYm hM hf g assign _ .normal st1 ob1 hex1 ho1 hle2 _ _ hs) ?_;rintro ex a1 w1 ⟨rfl,⟨e1,hL1,hV1,hmk1⟩,hsz1⟩;obtain⟨k1,r1,s1,s2,s3,s4,s5,s6,s7,s8,s9,s10⟩:=uv hM hL1 _ _ hl1;have hk1:e1.ρ b=some k:=hL1.adv.ext.ρ _ _ p1;rw[hk1] at s1;injection s1 with s1;subst s1
 have hlt1:=(Array.getElem?_eq_some_iff.1 s3).1;refine⟨_,run_beginRound s3 s9,?_⟩;have hL1':=hL1.trans (Jd (n0:=st1.nb) hL1.good hk1 s2 (w':=w1.putObj k (.loop { r1 with state:=.busy })) ⟨rfl,rfl,rfl,by simp [World.putObj],fun j hj=>putObj_heap_other hj⟩ (putObj_heap_same hlt1) (.inr (.inl ⟨_,rfl⟩)) (ob:=.loop nt' sl' ps' fid' assign' body' .busy) ⟨k,_,hk1,s2,putObj_heap_same hlt1,s4,s5,s6,s7,s8,rfl⟩);refine wpIn_mono (jR (F:=F.inRound k) hW' (fun h=>by cases h) hC hT hF hFm hY hYm hM hf g body ⟨st1.nb,st1.sl,kn [(b,.loop nt' sl' ps' fid' assign' body' .busy)] st1.m,st1.ms⟩ x st2 ob2 hex2 ho2 (le_refl _) _ _ ⟨⟨e1,hL1',hV1,hmk1⟩,hsz1⟩) ?_;rintro ex a2 w2 ⟨rfl,⟨e2,hL2,hV2,hmk2⟩,hsz2⟩;obtain⟨k2,r2,u1,u2,u3,u4,u5,u6,u7,u8,u9⟩:=uv hM hL2 _ _ hl2;have hk2:e2.ρ b=some k:=hL2.adv.ext.ρ _ _ p1;rw[hk2] at u1;injection u1 with u1;subst u1
 have hlt2:=(Array.getElem?_eq_some_iff.1 u3).1;have hend:∀ (jump:Option Code) (jx:Ls),(match jx with
  |.ready=>(if jump.isNone then LoopState.ready else .done)=.ready/\jump=none
  |.busy=>(if jump.isNone then LoopState.ready else .done)=.busy
  |.done j=>(if jump.isNone then LoopState.ready else .done)=.done/\jump=some j.code)->ul C e w n0 st2.nb (gcW n0 st2.nb [] (kn [(b,.loop nt2 sl2 ps2 fid2 assign2 body2 jx)] st2.m)) e2 (w2.putObj k (.loop { r2 with state:=if jump.isNone then .ready else .done,pending:=jump })):=by
  intro jump jx hj;exact(hL2.trans (Jd (n0:=st2.nb) hL2.good hk2 u2 (w':=w2.putObj k (.loop { r2 with state:=if jump.isNone then .ready else .done,pending:=jump })) ⟨rfl,rfl,rfl,by simp [World.putObj],fun j hj=>putObj_heap_other hj⟩ (putObj_heap_same hlt2) (.inr (.inl ⟨_,rfl⟩)) (ob:=.loop nt2 sl2 ps2 fid2 assign2 body2 jx) ⟨k,_,hk2,u2,putObj_heap_same hlt2,u4,u5,u6,u7,u8,hj⟩)).gc hf []
 cases x with
 |normal=>exact⟨_,_,run_endRound none u3,_,rfl,e2,hend none .ready ⟨rfl,rfl⟩,rfl⟩
 |ret=>exact⟨_,_,run_endRound (some .ret) u3,_,rfl,e2,hend (some .ret) (.done .ret) ⟨rfl,rfl⟩,rfl⟩
 |exit id=>exact⟨_,_,run_endRound (some (.exit id)) u3,_,rfl,e2,hend (some (.exit id)) (.done (.exit id)) ⟨rfl,rfl⟩,rfl⟩
theorem CZ (hC : C.Ok) (hN : ∀ (f : Nat) (fn : Func), C.P.funcs[f]? = some fn → (fn.name == "runtime.NumGoroutine") = false) (hT : ∀ f, (TT f).Ok C) {g : Nat} : ∀ n, (zY C.toStat TT g n).1.Ok C ∧ yV C (zY C.toStat TT g n).2
 |0=>⟨fun e w M n0 f l vs t _ _ _ h=>by simp [zY] at h,fun e w M n0 f l vs t _ _ _ h=>by simp [zY] at h⟩
 |n+1=>⟨runF_ok hC hN hT (CZ hC hN hT n).1 (kh n).1 (CZ hC hN hT n).2 (kh n).2,runY_ok hC hT (CZ hC hN hT n).1 (kh n).1 (CZ hC hN hT n).2 (kh n).2⟩
theorem ciG (hC : C.Ok) (hN : ∀ (f : Nat) (fn : Func), C.P.funcs[f]? = some fn → (fn.name == "runtime.NumGoroutine") = false) (hT : ∀ f, (TT f).Ok C) {g n : Nat} {f : FuncId} {t : Out D} {ps : List (Pat D)} {xs : List A1} {ws : Ws D} {n0 : Nat} (hm : Cd C.csz 0 ps = some (xs, ws, n0)) (h : callF C.toStat TT g n (fun b => find b ws) n0 f (kF xs) = some t) (ho : jH t.ob)
 {vs:List Value} (hp:UL (fun d f=>∀ w',uJ ⟨fun _=>none,fun _=>0,fun _=>none,fun _=>none,fun _=>false⟩ C.w0 w'->C.E d w' f) C.csz ps vs) :
 Calls C.P f vs.toArray C.w0 (fun en w'=>∃ v e e',en=.returned v/\ul C e C.w0 n0 t.n1 t.ws e' w'/\t.x.is e' v):=by
 obtain⟨e,gr,hx⟩:=EJ hm (le_refl _) (e:=⟨fun _=>none,fun _=>0,fun _=>none,fun _=>none,fun _=>false⟩) (fun _ _ _=>rfl) hp;have hρ:∀ b,e.ρ b=none:=fun b=>by rw[gr.ρ]
 have hφ:∀ b,e.φ b=none:=fun b=>by rw[gr.φ]
 have hg:jh C e C.w0:=⟨Below.refl _ _,fun b b' k _ _ h=>(by rw[hρ] at h;cases h),fun b k h=>(by rw[hρ] at h;cases h)⟩;have hM:jl C e C.w0 (fun b=>find b ws):=by
  intro b o ho;obtain⟨_,d,rfl,f,h1,h2⟩:=gr.live b o (kV ho);exact⟨f,h1,fun w' hk=>h2 w' ⟨hk.size,fun k h3 _=>hk.block k h3 (fun b=>by rw[hρ];simp)⟩⟩
 have hf:kZ n0 t.n1 e:=by
  intro b h1 _;refine⟨hρ b,?_,hφ b⟩;cases hb:e.ν b with
  |none=>rfl
  |some f =>
   rcases gr.ν b f hb with h|h
   ·cases h
   ·omega
 refine Calls.mono ((CZ hC hN hT n).1 e C.w0 _ n0 f _ vs t hM hg (yk hx) h hf ho).2 ?_;rintro en w' ⟨v,rfl,e',h1,h2⟩;exact⟨v,e,e',rfl,h1,h2⟩
end
end Pe
namespace Pe
variable {D:Type}
structure At (C:Ctx D) (nt:Nat) (st:St D) (a:Act) (w:World):Prop where
 ex:∃ e,jh C e w/\jl C e w (fun b=>find b st.m)/\jD e a (fun t=>find t st.sl)/\(∀ b,st.nb<=b->e.ρ b=none/\e.ν b=none/\e.φ b=none)/\∃ rs,a.defers=rs.map Jj/\KD e st.ms rs
 size:a.tmps.size=nt
def St.join (st st':St D):St D:=⟨st'.nb,st'.sl,st'.m++st.m,st'.ms⟩
section
variable {F:Fence}{m:Nat}{C:Ctx D}{TT:FuncId->Tab D}{CF YF:cw D}{nt:Nat}{fid:FuncId}{inR:Bool}{Q:Exit->Act->World->Prop}{a:Act}{w:World}{st:St D}
theorem cai {m m':Ws D}(b:Nat):over (fun b=>find b m) m' b=find b (m'++m):=by
 unfold over;rw[uh];split<;>rename_i h<;>simp only[h]
theorem ckk {Θ:Type}(I:Θ->St D) (J:Θ->Prop) (μ:Θ->Nat) {c:Code}(θ0:Θ) (h0:J θ0) (hA:At C nt (I θ0) a w)
 (hr:∀ θ a w,J θ->At C nt (I θ) a w->c.wpIn F m C.P (Exit.then (fun a' w'=>∃ θ',J θ'/\At C nt (I θ') a' w'/\μ θ'<μ θ) Q) a w):(Code.loop c).wpIn F m C.P Q a w:=by
 intro b k cs hro hbr hrm;have key:∀ j θ a w,μ θ=j->J θ->At C nt (I θ) a w->
  ∃ e a' w',Q e a' w'/\ArrivesIn (Machine.fenced C.P F) C.P (lone (b.atR a (.code c::.inLoop c::k)) cs w) b k cs e a' w':=by
  intro j
  induction j using Nat.strongRecOn with
  |_ j ih =>
   intro θ a w hk hJ hA;obtain⟨e,a₁,w₁,hq,harr⟩:=hr θ a w hJ hA b (.inLoop c::k) cs hro hbr hrm;cases e with
   |normal =>
    obtain⟨θ',hJ',hA',hlt⟩:=hq;obtain⟨e₂,a₂,w₂,hq₂,harr₂⟩:=ih (μ θ') (hk▸hlt) θ' a₁ w₁ rfl hJ' hA';exact⟨e₂,a₂,w₂,hq₂,.of_steps (StepsIn.trans harr (.one (fenced_calm hbr hrm rfl) stepR_inLoop)) harr₂⟩
   |exit id=>exact⟨_,a₁,w₁,hq,.pass (x:=.inLoop c) rfl (fun _ _=>.inl (by simp)) harr⟩
   |goto l=>exact⟨_,a₁,w₁,hq,.pass (x:=.inLoop c) rfl (fun _ _=>.inl (by simp)) harr⟩
   |ret=>exact⟨_,a₁,w₁,hq,.pass (x:=.inLoop c) rfl (fun _ _=>.inl (by simp)) harr⟩
   |panic ch=>exact⟨_,a₁,w₁,hq,.pass (x:=.inLoop c) rfl (fun _ _=>.inl (by simp)) harr⟩
   |outgrown=>exact⟨_,a₁,w₁,hq,.pass (x:=.inLoop c) rfl (fun _ _=>.inl (by simp)) harr⟩
 obtain⟨e,a',w',hq,harr⟩:=key _ θ0 a w rfl h0 hA;exact⟨e,a',w',hq,.of_steps (.one (fenced_calm hbr hrm rfl) stepR_loop) harr⟩
theorem loop_at {Θ:Type}(I:Θ->St D) (J:Θ->Prop) (μ:Θ->Nat) {id:Nat}{c:Code}(θ0:Θ) (h0:J θ0) (hA:At C nt (I θ0) a w)
 (hr:∀ θ a w,J θ->At C nt (I θ) a w->c.wpIn F m C.P (Exit.then (fun a' w'=>∃ θ',J θ'/\At C nt (I θ') a' w'/\μ θ'<μ θ) (Exit.inBlock id Q)) a w):(Code.block id (.loop c)).wpIn F m C.P Q a w :=
 wpIn_block (ckk I J μ θ0 h0 hA hr)
end
inductive Rk where
 |old (k:Nat)
 |nil
 |frz (k:Nat)
abbrev Rm:=List (Nat×Rk)
def Yy (a b:Option (List Prop)):Option (List Prop):=match a with
 |some l=>match b with
  |some l'=>some (l++l')
  |none=>none
 |none=>none
theorem ug {a b:Option (List Prop)}{l:List Prop}(h:Yy a b=some l):∃ x y,a=some x/\b=some y/\l=x++y:=by
 unfold Yy at h;split at h
 ·rename_i x;split at h
  ·rename_i y;injection h with h
   exact⟨x,y,rfl,rfl,h.symm⟩
  ·cases h
 ·cases h
def caO (r:Rm) (b k:Nat):Bool:=match find b r with
 |some (.old j)=>Nat.beq j k
 |_=>false
theorem GL {r:Rm}{b k:Nat}(h:caO r b k=true):find b r=some (.old k):=by
 unfold caO at h;split at h
 ·rename_i j hj;rw[hj,eq_of_beq_eq_true h]
 ·cases h
def isFrz (r:Rm) (b k:Nat):Bool:=match find b r with
 |some (.frz j)=>Nat.beq j k
 |_=>false
theorem ceX {r:Rm}{b k:Nat}(h:isFrz r b k=true):find b r=some (.frz k):=by
 unfold isFrz at h;split at h
 ·rename_i j hj;rw[hj,eq_of_beq_eq_true h]
 ·cases h
def isNil (r:Rm) (b:Nat):Bool:=match find b r with
 |some .nil=>true
 |_=>false
theorem cfM {r:Rm}{b:Nat}(h:isNil r b=true):find b r=some .nil:=by
 unfold isNil at h;split at h
 ·assumption
 ·cases h
def KA (b:Bool) (l:List Prop):Option (List Prop):=match b with
 |true=>some l
 |false=>none
theorem yq {b:Bool}{l m:List Prop}(h:KA b l=some m):b=true/\l=m:=by
 unfold KA at h;split at h
 ·injection h with h;exact⟨rfl,h⟩
 ·cases h
def YU (bl:Nat->Bool) (r:Rm) (b k:Nat):Bool:=match bl k with
 |true=>caO r b k
 |false=>false
theorem JK {bl:Nat->Bool}{r:Rm}{b k:Nat}(h:YU bl r b k=true):bl k=true/\find b r=some (.old k):=by
 unfold YU at h;split at h
 ·rename_i hb;exact⟨hb,GL h⟩
 ·cases h
def cgs (m:Ws D) (k:Nat):Bool:=match find k m with
 |some (.blk ..)=>true
 |_=>false
def cgK (bl:Nat->Bool) (r:Rm):AC->AC->Option (List Prop)
 |.lit v,.lit v'=>some [v=v']
 |.sym s j,.sym s' j'=>match caO r s s' with
  |true=>KA (Nat.beq j j') []
  |false=>none
 |.sym s 0,.fn b=>KA (isFrz r s b) []
 |.ptr b o,.ptr b' o'=>KA (YU bl r b b') [o=o']
 |.slc b o n c,.slc b' o' n' c'=>KA (YU bl r b b') [o=o',n=n',c=c']
 |.gsl b n,.gsl b' n'=>KA (YU bl r b b') [n=n']
 |.fn b,.fn b'=>KA (caO r b b') []
 |.fn b,.lit (.slice none 0 0)=>KA (isNil r b) []
 |_,_=>none
def can (bl:Nat->Bool) (r:Rm):List AC->List AC->Option (List Prop)
 |[],[]=>some []
 |c::cs,d::ds=>Yy (cgK bl r c d) (can bl r cs ds)
 |_,_=>none
def cgb (bl:Nat->Bool) (r:Rm):A1->A1->Option (List Prop)
 |.one c,.one d=>cgK bl r c d
 |.agg cs,.agg ds=>can bl r cs ds
 |_,_=>none
def Zs (bl:Nat->Bool) (r:Rm):List A1->List A1->Option (List Prop)
 |[],[]=>some []
 |c::cs,d::ds=>Yy (cgb bl r c d) (Zs bl r cs ds)
 |_,_=>none
def cfZ (bl:Nat->Bool) (r:Rm):AV->AV->Option (List Prop)
 |.val x,.val y=>cgb bl r x y
 |.tup l,.tup m=>Zs bl r l m
 |_,_=>none
def Env.ren (e:Env) (r:Rm):Env where
 ρ:=fun b=>match find b r with
  |some (.old k)=>match e.al k with
   |true=>e.ρ k
   |false=>none
  |_=>none
 κ:=fun b=>match find b r with
  |some (.old k)=>e.κ k
  |_=>0
 ν:=fun b=>match find b r with
  |some (.old k)=>e.ν k
  |some (.frz k)=>match e.φ k with
   |some v=>some [v]
   |none=>none
  |_=>none
 φ:=fun b=>match find b r with
  |some (.old k)=>e.φ k
  |some .nil=>some (.slice none 0 0)
  |_=>none
 al:=fun b=>match find b r with
  |some (.old k)=>e.al k
  |_=>false
section
variable {e:Env}{r:Rm}{bl:Nat->Bool}
def Wa (e:Env) (r:Rm):Prop:=∀ b k,find b r=some (.frz k)->∀ v,e.φ k=some v->v.oneCell'=true
def cbt (e:Env) (bl:Nat->Bool):Prop:=∀ k,bl k=true->e.al k=true
theorem ren_ρ {b k:Nat}(hb:find b r=some (.old k)) (ha:e.al k=true):(e.ren r).ρ b=e.ρ k:=by
 simp only[Env.ren,hb,ha]
theorem ren_κ {b k:Nat}(hb:find b r=some (.old k)):(e.ren r).κ b=e.κ k:=by
 simp only[Env.ren,hb]
theorem cdV (ha:cbt e bl) (hz:Wa e r) {c d:AC}{l:List Prop}(h:cgK bl r c d=some l) (ho:jH l) {v:Value}(hd:d.is e v):c.is (e.ren r) v:=by
 unfold cgK at h;split at h
 ·injection h with h;subst h
  obtain rfl:=ho.1;exact hd
 ·split at h
  ·rename_i hs;obtain⟨h1,_⟩:=yq h;obtain⟨f,h2,h3,h4⟩:=hd;refine⟨f,?_,by rw[eq_of_beq_eq_true h1];exact h3,h4⟩;simp only[Env.ren,GL hs];exact h2
  ·cases h
 ·rename_i s b;obtain⟨h1,_⟩:=yq h;have hf:=ceX h1;have hd:e.φ b=some v:=hd;refine⟨[v],?_,rfl,hz _ _ hf v hd⟩;simp only[Env.ren,hf,hd]
 ·obtain⟨h1,h2⟩:=yq h;subst h2;obtain⟨hb,h1⟩:=JK h1;obtain⟨k,h3,h4⟩:=hd;exact⟨k,by rw[ren_ρ h1 (ha _ hb)];exact h3,by rw[h4,ho.1]⟩
 ·obtain⟨h1,h2⟩:=yq h;subst h2;obtain⟨hb,h1⟩:=JK h1;obtain⟨k,h3,h4⟩:=hd;exact⟨k,by rw[ren_ρ h1 (ha _ hb)];exact h3,by rw[h4,ho.1,ho.2.1,ho.2.2.1]⟩
 ·obtain⟨h1,h2⟩:=yq h;subst h2;obtain⟨hb,h1⟩:=JK h1;obtain⟨k,h3,h4⟩:=hd;exact⟨k,by rw[ren_ρ h1 (ha _ hb)];exact h3,by rw[ren_κ h1,h4,ho.1]⟩
 ·obtain⟨h1,_⟩:=yq h;show (e.ren r).φ _=some v;simp only[Env.ren,GL h1];exact hd
 ·obtain⟨h1,_⟩:=yq h;show (e.ren r).φ _=some v;simp only[Env.ren,cfM h1];rw[show v=_ from hd]
 ·cases h
theorem ZU (ha:cbt e bl) (hz:Wa e r):∀ {cs ds:List AC}{l:List Prop}{vs:List Value},can bl r cs ds=some l->jH l->cO e ds vs->cO (e.ren r) cs vs
 |[],[],l,vs,h,ho,hd=>hd
 |c::cs,d::ds,l,vs,h,ho,⟨v,ws,h1,h2,h3⟩=>by
  obtain⟨x,y,q1,q2,rfl⟩:=ug h;obtain⟨o1,o2⟩:=ho.append;exact⟨v,ws,h1,cdV ha hz q1 o1 h2,ZU ha hz q2 o2 h3⟩
 |[],_::_,l,vs,h,_,_=>by simp [can] at h
 |_::_,[],l,vs,h,_,_=>by simp [can] at h
theorem cdo (ha:cbt e bl) (hz:Wa e r) {x y:A1}{l:List Prop}(h:cgb bl r x y=some l) (ho:jH l) {v:Value}(hd:y.is e v):x.is (e.ren r) v:=by
 unfold cgb at h;split at h
 ·exact cdV ha hz h ho hd
 ·obtain⟨vs,h1,h2⟩:=hd;exact⟨vs,ZU ha hz h ho h1,h2⟩
 ·cases h
theorem Uh (ha:cbt e bl) (hz:Wa e r):∀ {cs ds:List A1}{l:List Prop}{vs:List Value},Zs bl r cs ds=some l->jH l->kB e ds vs->kB (e.ren r) cs vs
 |[],[],l,vs,h,ho,hd=>hd
 |c::cs,d::ds,l,vs,h,ho,⟨v,ws,h1,h2,h3⟩=>by
  obtain⟨x,y,q1,q2,rfl⟩:=ug h;obtain⟨o1,o2⟩:=ho.append;exact⟨v,ws,h1,cdo ha hz q1 o1 h2,Uh ha hz q2 o2 h3⟩
 |[],_::_,l,vs,h,_,_=>by simp [Zs] at h
 |_::_,[],l,vs,h,_,_=>by simp [Zs] at h
theorem cjp (ha:cbt e bl) (hz:Wa e r) {x y:AV}{l:List Prop}(h:cfZ bl r x y=some l) (ho:jH l) {v:Value}(hd:y.is e v):x.is (e.ren r) v:=by
 unfold cfZ at h;split at h
 ·exact cdo ha hz h ho hd
 ·obtain⟨vs,h1,h2⟩:=hd;exact⟨vs,Uh ha hz h ho h1,h2⟩
 ·cases h
end
def ct (C:Ctx D) (d d':D):Prop:=∀ w l,C.E d' w l->C.E d w l
def cC (C:Ctx D) (gs gs':List (Grp D)):Prop:=∀ w vs,cN C w gs' vs->cN C w gs vs
theorem ct.refl (C:Ctx D) (d:D):ct C d d:=fun _ _ h=>h
theorem cC.refl (C:Ctx D) (gs:List (Grp D)):cC C gs gs:=fun _ _ h=>h
def optEq:Option Nat->Option Nat->Bool
 |none,none=>true
 |some a,some b=>Nat.beq a b
 |_,_=>false
theorem cja {a b:Option Nat}(h:optEq a b=true):a=b:=by
 unfold optEq at h;split at h
 ·rfl
 ·rw[eq_of_beq_eq_true h]
 ·cases h
def obSub (C:Ctx D) (bl:Nat->Bool) (r:Rm):Cw D->Cw D->Option (List Prop)
 |.blk ty cs z,.blk ty' cs' z'=>match Nat.beq ty ty',optEq z z' with
  |true,true=>can bl r cs cs'
  |_,_=>none
 |.clo f p q,.clo f' p' q'=>match Nat.beq f f' with
  |true=>Yy (Zs bl r p p') (Zs bl r q q')
  |false=>none
 |.cls d,.cls d'=>some [ct C d d']
 |.gl ty z n g,.gl ty' z' n' g'=>match Nat.beq ty ty',Nat.beq z z' with
  |true,true=>some [n=n',∀ j,j<n->cC C (g j) (g' j)]
  |_,_=>none
 |.cp l i z o,.cp l' i' z' o'=>match caO r l l' with
  |true=>KA (Nat.beq z z') [i=i',o=o']
  |false=>none
 |.dead,_=>some []
 |_,_=>none
def fitO (C:Ctx D) (r:Rm) (m:Ws D) (b:Nat) (o:Cw D):Option (List Prop) :=
 match find b r with
 |some (.old k)=>match find k m with
  |some o'=>obSub C (cgs m) r o o'
  |none=>none
 |some .nil=>match o with
  |.gl _ _ n _=>some [n=0]
  |_=>none
 |some (.frz k)=>match find k m with
  |some (.gl ty z n g)=>match o with
   |.cls d=>some [∀ w v,C.E (C.mkL ⟨C.lo,ty,z,n,g⟩) w [v]->C.E d w [v]]
   |_=>none
  |_=>none
 |none=>match o with
  |.dead=>some []
  |_=>none
def fitM (C:Ctx D) (r:Rm) (m:Ws D):Ws D->Option (List Prop)
 |[]=>some []
 |p::l=>Yy (fitO C r m p.1 p.2) (fitM C r m l)
def fitS (bl:Nat->Bool) (r:Rm) (sl:List (Nat×AV)):List (Nat×AV)->Option (List Prop)
 |[]=>some []
 |p::l=>match find p.1 sl with
  |some y=>Yy (cfZ bl r p.2 y) (fitS bl r sl l)
  |none=>none
def ccl (n:Nat):Rm->Bool
 |[]=>true
 |p::l=>match Nat.blt p.1 n with
  |true=>ccl n l
  |false=>false
def Ca:Rm->List Nat
 |[]=>[]
 |(_,.old k)::l=>k::Ca l
 |(_,.frz k)::l=>k::Ca l
 |(_,.nil)::l=>Ca l
def Js:List Nat->Bool
 |[]=>true
 |k::l=>match memL k l with
  |true=>false
  |false=>Js l
def frzB (m:Ws D):Rm->Bool
 |[]=>true
 |(_,.frz k)::l=>match find k m with
  |some (.gl ..)=>frzB m l
  |_=>false
 |_::l=>frzB m l
def fit (C:Ctx D) (r:Rm) (st st':St D):Option (List Prop) :=
 match ccl st'.nb r,Js (Ca r),frzB st.m r,st.ms,st'.ms with
 |true,true,true,[],[]=>Yy (fitM C r st.m st'.m) (fitS (cgs st.m) r st.sl st'.sl)
 |_,_,_,_,_=>none
section
variable {C:Ctx D}{e:Env}{w:World}{r:Rm}{st st':St D}{nt:Nat}{a:Act}
theorem che {m:Ws D}:∀ {l:Ws D}{ob:List Prop},fitM C r m l=some ob->jH ob->∀ b o,find b l=some o->∃ ob',fitO C r m b o=some ob'/\jH ob'
 |[],ob,h,ho,b,o,hb=>by simp [jb] at hb
 |p::l,ob,h,ho,b,o,hb=>by
  obtain⟨x,y,q1,q2,rfl⟩:=ug h;obtain⟨o1,o2⟩:=ho.append;rw[cQ] at hb;split at hb
  ·rename_i hp;injection hb with hb;subst hb
   rw[← eq_of_beq_eq_true hp];exact⟨x,q1,o1⟩
  ·exact che q2 o2 b o hb
theorem cgD {bl:Nat->Bool}{sl:List (Nat×AV)}:∀ {l:List (Nat×AV)}{ob:List Prop},fitS bl r sl l=some ob->jH ob->∀ t x,find t l=some x->∃ y ob',find t sl=some y/\cfZ bl r x y=some ob'/\jH ob'
 |[],ob,h,ho,b,o,hb=>by simp [jb] at hb
 |p::l,ob,h,ho,b,o,hb=>by
  unfold fitS at h;split at h
  rotate_left
  ·cases h
  rename_i y hy;obtain⟨x,z,q1,q2,rfl⟩:=ug h;obtain⟨o1,o2⟩:=ho.append;rw[cQ] at hb;split at hb
  ·rename_i hp;injection hb with hb;subst hb
   rw[← eq_of_beq_eq_true hp];exact⟨y,x,hy,q1,o1⟩
  ·exact cgD q2 o2 b o hb
theorem UV {k:Nat}:∀ {l:List Nat},k∈l->memL k l=true
 |b::l,h=>by
  unfold memL;split
  ·rfl
  ·rename_i hb;rcases List.mem_cons.1 h with rfl|h
   ·simp at hb
   ·exact UV h
theorem Gb {b k:Nat}:∀ {r:Rm},(b,Rk.old k)∈r\/(b,Rk.frz k)∈r->k∈Ca r
 |[],h=>by simp at h
 |(b',.old k')::l,h=>by
  simp only[mem_cons,Prod.mk.injEq,Rk.old.injEq,reduceCtorEq,and_false,false_or] at h;simp only[Ca,mem_cons];rcases h with(⟨_,rfl⟩|h)|h
  ·exact .inl rfl
  ·exact .inr (Gb (.inl h))
  ·exact .inr (Gb (.inr h))
 |(b',.frz k')::l,h=>by
  simp only[mem_cons,Prod.mk.injEq,Rk.frz.injEq,reduceCtorEq,and_false,false_or] at h;simp only[Ca,mem_cons];rcases h with h|(⟨_,rfl⟩|h)
  ·exact .inr (Gb (.inl h))
  ·exact .inl rfl
  ·exact .inr (Gb (.inr h))
 |(b',.nil)::l,h=>by
  simp only[mem_cons,Prod.mk.injEq,reduceCtorEq,and_false,false_or] at h;exact Gb (r:=l) h
theorem ZD {k:Nat}:∀ {r:Rm}{b b':Nat},Js (Ca r)=true->(find b r=some (.old k)\/find b r=some (.frz k))->(find b' r=some (.old k)\/find b' r=some (.frz k))->b=b'
 |[],b,b',_,h,_=>by simp [jb] at h
 |p::l,b,b',hn,h,h'=>by
  have hn':Js (Ca l)=true:=by
   obtain⟨x,y⟩:=p;cases y<;>simp only[Ca] at hn
   ·unfold Js at hn;split at hn
    ·cases hn
    ·exact hn
   ·exact hn
   ·unfold Js at hn;split at hn
    ·cases hn
    ·exact hn
  have no:(p.2=.old k\/p.2=.frz k)->∀ b,¬ (find b l=some (.old k)\/find b l=some (.frz k)):=by
   intro hp b hb;have hm:k∈Ca l:=Gb (b:=b) (hb.imp kV kV);obtain⟨x,y⟩:=p;rcases hp with hp|hp
   ·simp only at hp;subst hp;simp only[Ca,Js,UV hm] at hn;cases hn
   ·simp only at hp;subst hp;simp only[Ca,Js,UV hm] at hn;cases hn
  rw[cQ] at h h';cases h1:Nat.beq p.1 b with
  |true =>
   cases h2:Nat.beq p.1 b' with
   |true=>rw[← eq_of_beq_eq_true h1,← eq_of_beq_eq_true h2]
   |false =>
    rw[h1] at h;rw[h2] at h';exact absurd h' (no (by simpa using h) b')
  |false =>
   cases h2:Nat.beq p.1 b' with
   |true =>
    rw[h1] at h;rw[h2] at h';exact absurd h (no (by simpa using h') b)
   |false =>
    rw[h1] at h;rw[h2] at h';exact ZD hn' h h'
theorem Wr {n:Nat}:∀ {r:Rm}{b:Nat}{x:Rk},ccl n r=true->find b r=some x->b<n
 |[],b,x,h,hb=>by simp [jb] at hb
 |p::l,b,x,h,hb=>by
  unfold ccl at h;split at h
  ·rename_i hp;rw[cQ] at hb;split at hb
   ·rename_i hpb;rw[← eq_of_beq_eq_true hpb];exact ux hp
   ·exact Wr h hb
  ·cases h
theorem Kr {m:Ws D}:∀ {r:Rm}{b k:Nat},frzB m r=true->find b r=some (.frz k)->∃ ty z n g,find k m=some (.gl ty z n g)
 |[],b,k,h,hb=>by simp [jb] at hb
 |(x,y)::l,b,k,h,hb=>by
  rw[cQ] at hb;split at hb
  ·injection hb with hb
   simp only at hb;subst hb;simp only[frzB] at h;split at h
   ·rename_i hg;exact⟨_,_,_,_,hg⟩
   ·cases h
  ·cases y<;>simp only[frzB] at h
   ·exact Kr h hb
   ·exact Kr h hb
   ·split at h
    ·exact Kr h hb
    ·cases h
theorem cC.rob {gs gs':List (Grp D)}{e':Env}{vs:List Value}(h:cC C gs gs') (hk:∀ w',uJ e' w w'->uJ e w w') (hr:Gx C e w gs' vs):Gx C e' w gs vs:=fun w' k=>h w' vs (hr w' (hk w' k))
theorem fit_is (hC:C.Ok) {ob:List Prop}(h:fit C r st st'=some ob) (ho:jH ob) (hA:At C nt st a w):At C nt st' a w:=by
 unfold fit at h;split at h
 rotate_left
 ·cases h
 rename_i hkl hnd hfz hms hms';obtain⟨x,y,q1,q2,rfl⟩:=ug h;obtain⟨o1,o2⟩:=ho.append;obtain⟨⟨e,hg,hM,hV,hfr,rs,hdf,hmk⟩,hsz⟩:=hA;rw[hms] at hmk;have hF:Wa e r:=by
  intro b k hb v hv;obtain⟨ty,z,n,g,hk⟩:=Kr hfz hb;obtain⟨v',h1,h2⟩:=hM _ _ hk;rw[hv] at h1;injection h1 with h1;subst h1
  rcases h2 with⟨_,rfl⟩|⟨_,_,_,_,_,_,_,rfl,_⟩<;>rfl
 have hρ:∀ b k,(e.ren r).ρ b=some k->∃ i,find b r=some (.old i)/\e.ρ i=some k/\e.al i=true:=by
  intro b k hb;simp only[Env.ren] at hb;split at hb
  ·rename_i i hi;split at hb
   ·rename_i ha;exact⟨i,hi,hb,ha⟩
   ·cases hb
  ·cases hb
 have hkeep:∀ w',uJ (e.ren r) w w'->uJ e w w':=by
  intro w' k;refine⟨k.size,fun j hj hn=>k.block j hj (fun b hb=>?_)⟩;obtain⟨i,_,h1,_⟩:=hρ b j hb;exact hn _ h1
 have hA0:cbt e (cgs st.m):=by
  intro k hk;unfold cgs at hk;split at hk
  ·rename_i hb;obtain⟨_,_,_,_,_,h2,_⟩:=hM _ _ hb;exact h2
  ·cases hk
 have hal:∀ b,(e.ren r).al b=true->∃ i,find b r=some (.old i)/\e.al i=true:=by
  intro b hb;simp only[Env.ren] at hb;split at hb
  ·rename_i i hi;exact⟨i,hi,hb⟩
  ·cases hb
 have hgo:jh C (e.ren r) w:=by
  refine⟨hg.below,?_,?_⟩
  ·intro b b' k h1 h2 h3 h4;obtain⟨i,p1,p2⟩:=hal b h1;obtain⟨i',p3,p4⟩:=hal b' h2;obtain⟨j,p5,p6,_⟩:=hρ b k h3;obtain⟨j',p7,p8,_⟩:=hρ b' k h4;rw[p1] at p5;injection p5 with p5;injection p5 with p5;subst p5
   rw[p3] at p7;injection p7 with p7;injection p7 with p7;subst p7
   have:=hg.inj i i' k p2 p4 p6 p8;subst this;exact ZD hnd (.inl p1) (.inl p3)
  ·intro b k hb;obtain⟨i,_,p2,_⟩:=hρ b k hb;exact hg.own i k p2
 refine⟨⟨e.ren r,hgo,?_,?_,?_,[],by rw[hdf,show rs=[] from hmk],by rw[hms'];rfl⟩,hsz⟩
 ·intro b o hb;obtain⟨ob',h1,h2⟩:=che q1 o1 b o hb;unfold fitO at h1;split at h1
  ·rename_i k hk;split at h1
   rotate_left
   ·cases h1
   rename_i o' ho';have hh:=hM k o' ho';unfold obSub at h1;split at h1
   ·rename_i ty cs z ty' cs' z';split at h1
    rotate_left
    ·cases h1
    rename_i ht hz;obtain rfl:=eq_of_beq_eq_true ht;obtain rfl:=cja hz;obtain⟨kk,arr,vs,rest,p1,p2,p3,p4,p5,p6⟩:=hh;refine⟨kk,arr,vs,rest,by rw[ren_ρ hk p2];exact p1,by simp only[Env.ren,hk];exact p2,p3,p4,ZU hA0 hF h1 h2 p5,?_⟩;cases z with
    |none=>exact p6
    |some z=>simp only[Env.ren,hk];exact p6
   ·rename_i f p q f' p' q';split at h1
    rotate_left
    ·cases h1
    rename_i hf;obtain rfl:=eq_of_beq_eq_true hf;obtain⟨x1,y1,r1,r2,rfl⟩:=ug h1;obtain⟨t1,t2⟩:=h2.append;obtain⟨us,vs,p1,p2,p3⟩:=hh;exact⟨us,vs,by simp only[Env.ren,hk];exact p1,Uh hA0 hF r1 t1 p2,Uh hA0 hF r2 t2 p3⟩
   ·rename_i d d';injection h1 with h1;subst h1
    obtain⟨f,p1,p2⟩:=hh;exact⟨f,by simp only[Env.ren,hk];exact p1,fun w' kk=>h2.1 w' f (p2 w' (hkeep w' kk))⟩
   ·rename_i ty z n g ty' z' n' g';split at h1
    rotate_left
    ·cases h1
    rename_i ht hz;obtain rfl:=eq_of_beq_eq_true ht;obtain rfl:=eq_of_beq_eq_true hz;injection h1 with h1;subst h1
    obtain⟨hn,hgg,_⟩:=h2;have hn:n=n':=hn;subst hn;obtain⟨v,p1,p2⟩:=hh;refine⟨v,by simp only[Env.ren,hk];exact p1,p2.imp id ?_⟩;rintro⟨kk,c,arr,vs,rest,p3,p4,p5,p6,p7,p8,p9,p10,p11,p12⟩;exact⟨kk,c,arr,vs,rest,by rw[ren_ρ hk p4];exact p3,by simp only[Env.ren,hk];exact p4,p5,p6,p7,p8,p9,p10,p11,fun j hj=>cC.rob (hgg j hj) hkeep (p12 j hj)⟩
   ·rename_i l i z o l' i' z' o';split at h1
    rotate_left
    ·cases h1
    rename_i hl;obtain⟨hz,h1⟩:=yq h1;subst h1;obtain rfl:=eq_of_beq_eq_true hz;obtain⟨kk,p,n,c,p1,p2⟩:=hh;refine⟨kk,p,n,c,?_,?_⟩
    ·simp only[Env.ren,GL hl];exact p1
    ·simp only[Env.ren,hk];rw[p2,h2.1,h2.2.1]
   ·trivial
   ·cases h1
  ·rename_i hk;split at h1
   ·injection h1 with h1;subst h1
    exact⟨_,by simp only[Env.ren,hk],.inl ⟨h2.1,rfl⟩⟩
   ·cases h1
  ·rename_i k hk;split at h1
   rotate_left
   ·cases h1
   rename_i ty z n g hgl;split at h1
   rotate_left
   ·cases h1
   rename_i d;injection h1 with h1;subst h1
   obtain⟨hd,_⟩:=h2;obtain⟨v,p1,p2⟩:=hM _ _ hgl;refine⟨[v],by simp only[Env.ren,hk,p1],fun w' kw=>hd w' v (hC.lists _ _ _ ?_)⟩;rcases p2 with p2|⟨kk,c,arr,vs,rest,p3,p4,p5,p6,p7,p8,p9,p10,p11,p12⟩
   ·exact .inl p2
   ·refine .inr ⟨kk,0,c,arr,[],vs,rest,p5,p10,?_,by simpa using p7,rfl,p8,le_trans hC.los (hg.own _ _ p3).1,p11,fun j hj=>(p12 j hj) w' (hkeep w' kw)⟩;rw[kw.block kk (Array.getElem?_eq_some_iff.1 p6).1 (fun b' hb'=>?_)]
    ·exact⟨_,p6⟩
    ·obtain⟨i,s1,s2,s3⟩:=hρ b' kk hb';have:=hg.inj i k kk s3 p4 s2 p3;subst this;have:=ZD hnd (.inl s1) (.inr hk);subst this;rw[s1] at hk;cases hk
  ·rename_i hk;split at h1
   ·trivial
   ·cases h1
 ·intro t x hx;obtain⟨y,ob',h1,h2,h3⟩:=cgD q2 o2 t x hx;obtain⟨v,h4,h5⟩:=hV t y h1;exact⟨v,h4,cjp hA0 hF h2 h3 h5⟩
 ·intro b hb;have hn:find b r=none:=by
   cases hx:find b r with
   |none=>rfl
   |some y=>have:=Wr hkl hx;omega
  simp only[Env.ren,hn];exact⟨trivial,trivial,trivial⟩
end
end Pe
end Go.Proofs.YtolcmngcebnjdaaGreatDoor
