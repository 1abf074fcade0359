/- Part 21. -/
import Derived.Orders
import Derived.Scope
import Derived.KernelRfl
import Derived.Shelf.Abstract
import Derived.Great.BuildSlice
import Derived.Test.YtokieocpdcngcaaGreatDoorZ5
set_option linter.all false
open Array (length_toList)
open Bool (and_eq_true)
open List (append_nil cons_append length_cons map_cons mem_cons mem_cons_of_mem)
open Nat (add_zero eq_of_beq_eq_true le_of_ble_eq_true le_refl le_trans lt_of_lt_of_le lt_or_ge zero_add)
open Go.Result (andThen_ok)
open Go.Sem (run_bind run_pure)

namespace Go.Proofs.YtokieocpdcngcaaGreatDoor
open Go Go.RowKit Go.Proofs
namespace Sym
inductive AC where
 |lit (v:Value)
 |sym (s j:Nat)
 |ptr (b o:Nat)
 |clo (f:FuncId) (bs:List Nat)
 |slc (b o n c:Nat)
inductive A1 where
 |one (c:AC)
 |agg (cs:List AC)
inductive AV where
 |val (a:A1)
 |tup (l:List A1)
structure Env where
 ρ:Nat->Option Nat
 ν:Nat->Option (Nat->Value)
structure Ext (e e':Env):Prop where
 ρ:∀ b k,e.ρ b=some k->e'.ρ b=some k
 ν:∀ s f,e.ν s=some f->e'.ν s=some f
theorem Ext.refl (e:Env):Ext e e:=⟨fun _ _ h=>h,fun _ _ h=>h⟩
theorem Ext.trans {a b c:Env}(h:Ext a b) (k:Ext b c):Ext a c:=⟨fun x y z=>k.ρ x y (h.ρ x y z),fun x y z=>k.ν x y (h.ν x y z)⟩
def Env.blocks (e:Env):List Nat->Option (List Nat)
 |[]=>some []
 |b::bs=>match e.ρ b,e.blocks bs with
  |some k,some ks=>some (k::ks)
  |_,_=>none
theorem Env.blocks_ext {e e':Env}(h:Ext e e'):∀ (bs:List Nat) (ks:List Nat),e.blocks bs=some ks->e'.blocks bs=some ks
 |[],ks,hk=>hk
 |b::bs,ks,hk=>by
  unfold Env.blocks at hk ⊢;cases h1:e.ρ b with
  |none=>simp [h1] at hk
  |some k =>
   cases h2:e.blocks bs with
   |none=>simp [h1,h2] at hk
   |some l =>
    rw[h.ρ b k h1,blocks_ext h bs l h2];rw[h1,h2] at hk;exact hk
def AC.is (e:Env):AC->Value->Prop
 |.lit v',v=>v=v'
 |.sym s j,v=>∃ f,e.ν s=some f/\v=f j
 |.ptr b o,v=>∃ k,e.ρ b=some k/\v=.pointer (some ⟨k,o,none⟩)
 |.clo f bs,v=>∃ ks,e.blocks bs=some ks/\v=.func (.func f) #[] (ks.map (fun k=>Value.pointer (some ⟨k,0,none⟩))).toArray
 |.slc b o n c,v=>∃ k,e.ρ b=some k/\v=.slice (some ⟨k,o,none⟩) n c
theorem AC.is.ext {e e':Env}(h:Ext e e') {c:AC}{v:Value}(hc:c.is e v):c.is e' v:=by
 cases c with
 |lit=>exact hc
 |sym s j=>obtain⟨f,h1,h2⟩:=hc;exact⟨f,h.ν s f h1,h2⟩
 |ptr b o=>obtain⟨k,h1,h2⟩:=hc;exact⟨k,h.ρ b k h1,h2⟩
 |clo f bs=>obtain⟨k,h1,h2⟩:=hc;exact⟨k,Env.blocks_ext h bs k h1,h2⟩
 |slc b o n c=>obtain⟨k,h1,h2⟩:=hc;exact⟨k,h.ρ b k h1,h2⟩
def cA (e:Env):List AC->List Value->Prop
 |[],vs=>vs=[]
 |c::cs,vs=>∃ v ws,vs=v::ws/\c.is e v/\cA e cs ws
theorem cA.ext {e e':Env}(h:Ext e e'):∀ {cs:List AC}{vs:List Value},cA e cs vs->cA e' cs vs
 |[],_,hc=>hc
 |c::cs,_,⟨v,ws,h1,h2,h3⟩=>⟨v,ws,h1,h2.ext h,cA.ext h h3⟩
theorem cA.length {e:Env}:∀ {cs:List AC}{vs:List Value},cA e cs vs->vs.length=cs.length
 |[],_,hc=>by rw[hc];rfl
 |c::cs,_,⟨v,ws,h1,h2,h3⟩=>by rw[h1];simp [h3.length]
theorem cA.get {e:Env}:∀ {cs:List AC}{vs:List Value},cA e cs vs->∀ (i:Nat) (c:AC),cs[i]?=some c->∃ v,vs[i]?=some v/\c.is e v
 |[],_,_,i,c,h=>by simp at h
 |c::cs,_,⟨v,ws,h1,h2,h3⟩,0,d,h=>by
  simp at h;subst h;subst h1;exact⟨v,rfl,h2⟩
 |c::cs,_,⟨v,ws,h1,h2,h3⟩,i+1,d,h=>by
  simp at h;subst h1;simpa using h3.get i d h
theorem cA.append {e:Env}:∀ {cs ds:List AC}{vs ws:List Value},cA e cs vs->cA e ds ws->cA e (cs++ds) (vs++ws)
 |[],_,_,_,h,k=>by rw[h];exact k
 |c::cs,_,_,_,⟨v,ws,h1,h2,h3⟩,k=>⟨v,_,by rw[h1];rfl,h2,h3.append k⟩
def A1.is (e:Env):A1->Value->Prop
 |.one c,v=>c.is e v
 |.agg cs,v=>∃ vs,cA e cs vs/\v=.agg vs.toArray
theorem A1.is.ext {e e':Env}(h:Ext e e') {c:A1}{v:Value}(hc:c.is e v):c.is e' v:=by
 cases c with
 |one c=>exact AC.is.ext h hc
 |agg cs=>obtain⟨vs,h1,h2⟩:=hc;exact⟨vs,h1.ext h,h2⟩
def jK (e:Env):List A1->List Value->Prop
 |[],vs=>vs=[]
 |c::cs,vs=>∃ v ws,vs=v::ws/\c.is e v/\jK e cs ws
theorem jK.ext {e e':Env}(h:Ext e e'):∀ {cs:List A1}{vs:List Value},jK e cs vs->jK e' cs vs
 |[],_,hc=>hc
 |c::cs,_,⟨v,ws,h1,h2,h3⟩=>⟨v,ws,h1,h2.ext h,jK.ext h h3⟩
theorem jK.get {e:Env}:∀ {cs:List A1}{vs:List Value},jK e cs vs->∀ (i:Nat) (c:A1),cs[i]?=some c->∃ v,vs[i]?=some v/\c.is e v
 |[],_,_,i,c,h=>by simp at h
 |c::cs,_,⟨v,ws,h1,h2,h3⟩,0,d,h=>by
  simp at h;subst h;subst h1;exact⟨v,rfl,h2⟩
 |c::cs,_,⟨v,ws,h1,h2,h3⟩,i+1,d,h=>by
  simp at h;subst h1;simpa using h3.get i d h
def AV.is (e:Env):AV->Value->Prop
 |.val a,v=>a.is e v
 |.tup l,v=>∃ vs,jK e l vs/\v=.tuple vs.toArray
theorem AV.is.ext {e e':Env}(h:Ext e e') {c:AV}{v:Value}(hc:c.is e v):c.is e' v:=by
 cases c with
 |val c=>exact A1.is.ext h hc
 |tup cs=>obtain⟨vs,h1,h2⟩:=hc;exact⟨vs,h1.ext h,h2⟩
inductive Key where
 |slot (t:Nat)
 |cell (b o:Nat)
 |box (b:Nat)
 |live (s:Nat)
 deriving DecidableEq
def Key.same:Key->Key->Bool
 |.slot a,.slot b=>Nat.beq a b
 |.cell a c,.cell b d=>match Nat.beq a b with|true=>Nat.beq c d|false=>false
 |.box a,.box b=>Nat.beq a b
 |.live a,.live b=>Nat.beq a b
 |_,_=>false
theorem Key.same_iff {a b:Key}:a.same b=true↔a=b:=by
 cases a<;>cases b<;>simp [Key.same];split
 ·simp_all
 ·rename_i h;constructor
  ·intro h';cases h'
  ·rintro⟨rfl,_⟩;simp at h
inductive Kv where
 |av (a:AV)
 |ac (c:AC)
 |box (t n:Nat)
 |cls (c:Nat)
structure Stat where
 P:Program
 csz:List Nat
 numc:List Bool
 okT:List Nat
 nt:Nat
structure Ctx extends Stat where
 E:Nat->World->(Nat->Value)->Prop
 w0:World
 /-- Blocks that are no boxes: lists that grow; what a growth does that stays in its block. -/
 L:List Nat
 G:World->World->Prop
def caH:Value->Bool
 |.slice ..=>false
 |_=>true
def cax (P:Program) (t n:Nat):Bool :=
 match P.info? t with
 |some i=>Nat.beq n i.size
 |none=>false
structure Off (L:List Nat) (w w':World):Prop where
 os:w'.os=w.os
 tape:w'.tape=w.tape
 output:w'.output=w.output
 size:w'.heap.size=w.heap.size
 block:∀ k,k ∉ L->w'.heap[k]?=w.heap[k]?
structure Ctx.Ok (C:Ctx):Prop where
 below:∀ c w w' f,Below w.heap.size w w'->C.E c w f->C.E c w' f
 only:∀ c w w' R f cs t,C.w0.heap.size<=R->R ∉ C.L->w.heap[R]?=some (.cells cs t (0,0))->t∈C.okT->(∀ x,cs[0]?=some x->caH x=true)->cax C.P t cs.size=true->cV R w w'->C.E c w f->C.E c w' f
 num:∀ c w f,C.numc.getD c false=true->C.E c w f->caH (f 0)=true
 cell:∀ c w f j,C.E c w f->j<C.csz.getD c 0->(f j).oneCell'=true
 mixed:C.P.follows .mixedOrders=true
 grow:∀ c w w' f,C.G w w'->C.E c w f->C.E c w' f
 off:∀ w w',C.G w w'->Off C.L w w'
def jj (C:Ctx) (e:Env) (a:Act) (w:World):Key->Kv->Prop
 |.slot t,.av x=>∃ v,a.tmps[t]?=some v/\x.is e v
 |.cell b o,.ac c=>∃ k cs ty v,e.ρ b=some k/\w.heap[k]?=some (.cells cs ty (0,0))/\cs[o]?=some v/\c.is e v
 |.box b,.box ty n=>∃ k cs,e.ρ b=some k/\w.heap[k]?=some (.cells cs ty (0,0))/\cs.size=n
 |.live s,.cls c=>∃ f,e.ν s=some f/\C.E c w f
 |_,_=>False
structure cL (C:Ctx) (e:Env) (a:Act) (w:World):Prop where
 below:Below C.w0.heap.size C.w0 w
 defers:a.defers=[]
 size:a.tmps.size=C.nt
 inj:∀ b b' k,e.ρ b=some k->e.ρ b'=some k->b=b'
 own:∀ b k,e.ρ b=some k->(C.w0.heap.size<=k/\k ∉ C.L)/\k<w.heap.size
 lim:∀ k∈C.L,C.w0.heap.size<=k/\k<w.heap.size
theorem jj.below {C:Ctx}(hC:C.Ok) {e:Env}{a:Act}{w w':World}(hg:cL C e a w) (hb:Below w.heap.size w w') {k:Key}{v:Kv}(h:jj C e a w k v):jj C e a w' k v:=by
 cases k<;>cases v<;>try exact h
 ·obtain⟨k,cs,ty,x,h1,h2,h3,h4⟩:=h;exact⟨k,cs,ty,x,h1,(hb.block k (hg.own _ _ h1).2).trans h2,h3,h4⟩
 ·obtain⟨k,cs,h1,h2,h3⟩:=h;exact⟨k,cs,h1,(hb.block k (hg.own _ _ h1).2).trans h2,h3⟩
 ·obtain⟨f,h1,h2⟩:=h;exact⟨f,h1,hC.below _ _ _ _ hb h2⟩
theorem jj.ext {C:Ctx}{e e':Env}{a:Act}{w:World}(hx:Ext e e') {k:Key}{v:Kv}(h:jj C e a w k v):jj C e' a w k v:=by
 cases k<;>cases v<;>try exact h
 ·obtain⟨x,h1,h2⟩:=h;exact⟨x,h1,h2.ext hx⟩
 ·obtain⟨k,cs,ty,x,h1,h2,h3,h4⟩:=h;exact⟨k,cs,ty,x,hx.ρ _ _ h1,h2,h3,h4.ext hx⟩
 ·obtain⟨k,cs,h1,h2,h3⟩:=h;exact⟨k,cs,hx.ρ _ _ h1,h2,h3⟩
 ·obtain⟨f,h1,h2⟩:=h;exact⟨f,hx.ν _ _ h1,h2⟩
theorem jj.put {C:Ctx}{e:Env}{a:Act}{w:World}{dst:Option Tmp}{x:Value}{k:Key}{v:Kv}(hk:∀ d,dst=some d->k≠.slot d) (h:jj C e a w k v):jj C e (a.put dst x) w k v:=by
 cases k<;>cases v<;>try exact h
 obtain⟨y,h1,h2⟩:=h;refine⟨y,?_,h2⟩;cases dst with
 |none=>exact h1
 |some d =>
  rename_i t _;have:d≠t:=fun e=>hk d rfl (by rw[e]);simp [Act.put,this,h1]
theorem cL.later {C:Ctx}{e:Env}{a:Act}{w w':World}(hg:cL C e a w) (hb:Below w.heap.size w w'):cL C e a w' :=
 ⟨hg.below.trans ⟨hb.os,hb.tape,hb.output,hb.size,fun i hi=>hb.block i (lt_of_lt_of_le hi hg.below.size)⟩,hg.defers,hg.size,hg.inj,fun b k h=>⟨(hg.own b k h).1,lt_of_lt_of_le (hg.own b k h).2 hb.size⟩,fun k h=>⟨(hg.lim k h).1,lt_of_lt_of_le (hg.lim k h).2 hb.size⟩⟩
theorem jR (a:Act) (d:Option Tmp) (v:Value):(a.put d v).tmps.size=a.tmps.size:=by cases d<;>simp [Act.put]
theorem jC (a:Act) (d:Option Tmp) (v:Value):(a.put d v).defers=a.defers:=by cases d<;>rfl
theorem cL.put {C:Ctx}{e:Env}{a:Act}{w:World}(hg:cL C e a w) (d:Option Tmp) (v:Value):cL C e (a.put d v) w :=
 ⟨hg.below,(jC a d v).trans hg.defers,(jR a d v).trans hg.size,hg.inj,hg.own,hg.lim⟩
theorem cL.off {C:Ctx}{e:Env}{a:Act}{w w':World}(hg:cL C e a w) (ho:Off C.L w w'):cL C e a w' :=
 ⟨hg.below.trans ⟨ho.os,ho.tape,ho.output,Nat.le_of_eq ho.size.symm,fun i hi=>ho.block i (fun hm=>Nat.lt_irrefl _ (lt_of_lt_of_le hi (hg.lim i hm).1))⟩,hg.defers,hg.size,hg.inj,fun b k h=>⟨(hg.own b k h).1,by rw[ho.size];exact(hg.own b k h).2⟩,fun k h=>⟨(hg.lim k h).1,by rw[ho.size];exact(hg.lim k h).2⟩⟩
theorem jj.grow {C:Ctx}(hC:C.Ok) {e:Env}{a:Act}{w w':World}(hg:cL C e a w) (hb:C.G w w') {k:Key}{v:Kv}(h:jj C e a w k v):jj C e a w' k v:=by
 have ho:=hC.off _ _ hb;cases k<;>cases v<;>try exact h
 ·obtain⟨k,cs,ty,x,h1,h2,h3,h4⟩:=h;exact⟨k,cs,ty,x,h1,(ho.block k (hg.own _ _ h1).1.2).trans h2,h3,h4⟩
 ·obtain⟨k,cs,h1,h2,h3⟩:=h;exact⟨k,cs,h1,(ho.block k (hg.own _ _ h1).1.2).trans h2,h3⟩
 ·obtain⟨f,h1,h2⟩:=h;exact⟨f,h1,hC.grow _ _ _ _ hb h2⟩
def Step (C:Ctx):Bool->World->World->Prop
 |true,w,w'=>Below w.heap.size w w'\/C.G w w'
 |false,w,w'=>Below w.heap.size w w'
theorem Step.some {C:Ctx}{b:Bool}{w w':World}(h:Step C b w w'):Below w.heap.size w w'\/C.G w w':=by
 cases b
 ·exact .inl h
 ·exact h
theorem cL.step {C:Ctx}(hC:C.Ok) {e:Env}{a:Act}{w w':World}(hg:cL C e a w) (hb:Below w.heap.size w w'\/C.G w w'):cL C e a w':=hb.elim hg.later (fun h=>hg.off (hC.off _ _ h))
theorem jj.step {C:Ctx}(hC:C.Ok) {e:Env}{a:Act}{w w':World}(hg:cL C e a w) (hb:Below w.heap.size w w'\/C.G w w') {k:Key}{v:Kv}(h:jj C e a w k v):jj C e a w' k v:=hb.elim (fun hb=>h.below hC hg hb) (fun hb=>h.grow hC hg hb)
theorem kg {a b:Nat}(h:Nat.blt a b=true):a<b:=by simpa using h
abbrev ka:=Key->Option Kv
def jB (C:Ctx) (e:Env) (a:Act) (w:World) (V:ka):Prop:=∀ k v,V k=some v->jj C e a w k v
theorem jj.at {C:Ctx}{e:Env}{a:Act}{w:World}{b o k:Nat}{c:AC}(h:jj C e a w (.cell b o) (.ac c)) (hk:e.ρ b=some k) :
 ∃ v,w.cell? ⟨k,o,none⟩=some v/\c.is e v:=by
 obtain⟨k',cs,ty,v,h1,h2,h3,h4⟩:=h;rw[hk] at h1;injection h1 with h1
 subst h1;exact⟨v,by simp [World.cell?,h2,h3],h4⟩
def cq (V:ka):Operand->Option AV
 |.tmp t=>match V (.slot t) with
  |some (.av x)=>some x
  |_=>none
 |.const (.agg cs)=>some (.val (.agg (cs.toList.map .lit)))
 |.const v=>some (.val (.one (.lit v)))
 |.global g=>some (.val (.one (.lit (.pointer (some ⟨g,0,none⟩)))))
 |.func f=>some (.val (.one (.lit (.func (.func f) #[] #[]))))
theorem ua (e:Env):∀ (vs:List Value),cA e (vs.map .lit) vs
 |[]=>rfl
 |v::vs=>⟨v,vs,rfl,rfl,ua e vs⟩
theorem cw {C:Ctx}{e:Env}{a:Act}{w:World}{V:ka}(hV:jB C e a w V) {x:Operand}{av:AV}(h:cq V x=some av):av.is e (a.eval x):=by
 unfold cq at h;split at h
 ·rename_i t;split at h
  ·rename_i x hx;injection h with h;subst h
   obtain⟨v,h1,h2⟩:=hV _ _ hx;rw[Act.eval,Array.getD_eq_getD_getElem?,h1];exact h2
  ·cases h
 ·injection h with h;subst h
  exact⟨_,ua e _,by simp [Act.eval]⟩
 ·injection h with h;subst h;exact rfl
 ·injection h with h;subst h;exact rfl
 ·injection h with h;subst h;exact rfl
def lit?:Option AV->Option Value
 |some (.val (.one (.lit v)))=>some v
 |_=>none
theorem jl {C:Ctx}{e:Env}{a:Act}{w:World}{V:ka}(hV:jB C e a w V) {x:Operand}{v:Value}(h:lit? (cq V x)=some v):a.eval x=v:=by
 unfold lit? at h;split at h
 ·rename_i hx;injection h with h;subst h
  exact cw hV hx
 ·cases h
def ptr?:Option AV->Option (Nat×Nat)
 |some (.val (.one (.ptr b o)))=>some (b,o)
 |_=>none
theorem zX {C:Ctx}{e:Env}{a:Act}{w:World}{V:ka}(hV:jB C e a w V) {x:Operand}{b o:Nat}(h:ptr? (cq V x)=some (b,o)) :
 ∃ k,e.ρ b=some k/\a.eval x=.pointer (some ⟨k,o,none⟩):=by
 unfold ptr? at h;split at h
 ·rename_i hx;injection h with h;injection h with h1 h2;subst h1;subst h2
  exact cw hV hx
 ·cases h
def ev {α:Type}(P:Program):Sem α->Option α
 |.pure a=>some a
 |.program k=>ev P (k P)
 |.mark _ k=>ev P k
 |_=>none
theorem JE {α:Type}{P:Program}{s:Sem α}{v:α}(h:ev P s=some v) (w:World):s.run P w=.ok v w:=by
 induction s with
 |pure a=>simp [ev] at h;subst h;rfl
 |program k ih=>exact ih P h
 |mark m k ih=>exact ih h
 |_=>simp [ev] at h
def zU:TypeDesc->Bool
 |.struct _=>true
 |.array _ _=>true
 |_=>false
theorem kd {P:Program}{t:TypeId}{d:TypeDesc}(h:P.underlying t=some d) (w:World):(isAgg t).run P w=.ok (zU d) w:=by
 cases d<;>simp [isAgg,underlying,h,zU]
theorem jd {P:Program}{t:TypeId}{i:TypeInfo}(h:P.info? t=some i) (w:World):(sizeOf t).run P w=.ok i.size w:=by
 simp [sizeOf,typeInfo,h]
def uN (V:ka) (b:Nat):Nat->Nat->Option (List AC)
 |_,0=>some []
 |o,n+1=>match V (.cell b o) with
  |some (.ac c)=>match uN V b (o+1) n with
   |some l=>some (c::l)
   |none=>none
  |_=>none
theorem uw {C:Ctx}{e:Env}{a:Act}{w:World}{V:ka}(hV:jB C e a w V) {b k:Nat}(hk:e.ρ b=some k):∀ (n o:Nat) (cs:List AC),uN V b o n=some cs->
 cs.length=n/\∃ vs,cA e cs vs/\∀ j v,vs[j]?=some v->w.cell? ⟨k,o+j,none⟩=some v
 |0,o,cs,h=>by
  simp [uN] at h;subst h;exact⟨rfl,[],rfl,fun j v h=>by simp at h⟩
 |n+1,o,cs,h=>by
  unfold uN at h;split at h
  ·rename_i c hc;split at h
   ·rename_i l hl;injection h with h;subst h
    obtain⟨h1,vs,h2,h3⟩:=uw hV hk n (o+1) l hl;obtain⟨v,h4,h5⟩:=(hV _ _ hc).at hk;refine⟨by simp [h1],v::vs,⟨v,vs,rfl,h5,h2⟩,fun j x hx=>?_⟩;cases j with
    |zero=>simp at hx;subst hx;exact h4
    |succ j =>
     have:=h3 j x (by simpa using hx);rw[show o+1+j=o+(j+1) by omega] at this;exact this
   ·cases h
  ·cases h
def Jf (P:Program) (V:ka) (t:TypeId) (b o:Nat):Option A1 :=
 match P.underlying t with
 |none=>none
 |some d=>match zU d with
  |true=>match P.info? t with
   |some i=>match uN V b o i.size with
    |some cs=>some (.agg cs)
    |none=>none
   |none=>none
  |false=>match V (.cell b o) with
   |some (.ac c)=>some (.one c)
   |_=>none
theorem cY (k o n:Nat):(⟨k,o,none⟩:Addr).add n=⟨k,o+n,none⟩:=by
 unfold Addr.add;split
 ·subst n;rfl
 ·rfl
theorem CA {C:Ctx}{e:Env}{a:Act}{w:World}{V:ka}(hV:jB C e a w V) {b k o:Nat}(hk:e.ρ b=some k) {t:TypeId}{x:A1}(h:Jf C.P V t b o=some x) :
 ∃ v,(loadVar t ⟨k,o,none⟩).run C.P w=.ok v w/\x.is e v:=by
 unfold Jf at h;split at h
 ·cases h
 ·rename_i d hd;split at h
  ·rename_i ha;split at h
   ·rename_i i hi;split at h
    ·rename_i cs hcs;injection h with h;subst h
     obtain⟨h1,vs,h2,h3⟩:=uw hV hk _ _ _ hcs;refine⟨.agg vs.toArray,?_,vs,h2,rfl⟩;have hl:vs.length=i.size:=h2.length.trans h1;have:=run_loadCells_list (P:=C.P) (w:=w) ⟨k,o,none⟩ vs (fun j v hj=>by rw[cY];exact h3 j v hj);rw[hl] at this;simp [loadVar,kd hd,ha,jd hi,this]
    ·cases h
   ·cases h
  ·rename_i ha;split at h
   ·rename_i c hc;injection h with h;subst h
    obtain⟨v,h4,h5⟩:=(hV _ _ hc).at hk;refine⟨v,?_,h5⟩;simp [loadVar,kd hd,ha,h4]
   ·cases h
abbrev Ws:=List (Key×Kv)
def find (k:Key):Ws->Option Kv
 |[]=>none
 |(k',v)::l=>match k'.same k with
  |true=>some v
  |false=>find k l
theorem YX {k:Key}:∀ {l:Ws},find k l=none->∀ v,(k,v) ∉ l
 |[],_,v,hm=>by simp at hm
 |(k',v')::l,h,v,hm=>by
  unfold find at h;split at h
  ·cases h
  ·rename_i hs;simp only[mem_cons,Prod.mk.injEq] at hm;rcases hm with⟨h1,_⟩|hm
   ·subst h1;have:=Key.same_iff.2 (rfl:k=k);rw[hs] at this;cases this
   ·exact YX h v hm
theorem jG {k:Key}{v:Kv}:∀ {l:Ws},find k l=some v->(k,v)∈l
 |[],h=>by simp [find] at h
 |(k',v')::l,h=>by
  unfold find at h;split at h
  ·rename_i hs;injection h with h;subst h
   rw[Key.same_iff.1 hs];simp
  ·exact mem_cons_of_mem _ (jG h)
theorem ue {k:Key}:∀ {l m:Ws},find k (l++m)=none->find k l=none/\find k m=none
 |[],m,h=>⟨rfl,h⟩
 |(k',v')::l,m,h=>by
  simp only[cons_append,find] at h ⊢;split at h
  ·cases h
  ·exact ue h
def Jv (C:Ctx) (e:Env) (a:Act) (w:World) (id:Nat) (ws:Ws) (K:Act->World->Prop):Prop :=
 ∀ e' a' w',Ext e e'->(∀ b k,e'.ρ b=some k->e.ρ b=some k\/b=id)->(∀ s f,e'.ν s=some f->e.ν s=some f\/s/8=id)->cL C e' a' w'->
  (∀ k v,(k,v)∈ws->jj C e' a' w' k v)->(∀ k v,jj C e a w k v->find k ws=none->jj C e' a' w' k v)->K a' w'
def JG:AV:=.val (.one (.lit undef))
def zW (nt:Nat) (dst:Option Tmp) (x:AV):Option Ws :=
 match dst with
 |none=>some []
 |some d=>match Nat.blt d nt with
  |true=>some [(.slot d,.av x)]
  |false=>none
theorem GK {nt:Nat}{dst:Option Tmp}{x:AV}{ws:Ws}(h:zW nt dst x=some ws) {k:Key}(hk:find k ws=none):∀ d,dst=some d->k≠.slot d:=by
 intro d hd e;subst hd;subst e;unfold zW at h;simp only at h;split at h
 ·injection h with h;subst h
  exact YX hk (.av x) (by simp)
 ·cases h
theorem Ea {C:Ctx}{e:Env}{a:Act}{w:World}{dst:Option Tmp}{x:AV}{v:Value}{ws:Ws}(hg:cL C e a w) (h:zW C.nt dst x=some ws) (hx:x.is e v) :
 ∀ k y,(k,y)∈ws->jj C e (a.put dst v) w k y:=by
 intro k y hm;unfold zW at h;split at h
 ·injection h with h;subst h;simp at hm
 ·rename_i d;split at h
  ·rename_i hd;injection h with h;subst h
   simp only[mem_cons,Prod.mk.injEq,List.not_mem_nil,or_false] at hm;obtain⟨rfl,rfl⟩:=hm;refine⟨v,?_,hx⟩;have:d<a.tmps.size:=by rw[hg.size];exact kg hd
   simp [Act.put,this]
  ·cases h
section
variable {C:Ctx}{e:Env}{a:Act}{w:World}{id:Nat}{ws:Ws}{K:Act->World->Prop}
theorem Jv.value (h:Jv C e a w id ws K) (hg:cL C e a w) {dst:Option Tmp}{x:AV}{v:Value}(hp:zW C.nt dst x=some ws) (hx:x.is e v):K (a.put dst v) w :=
 h e _ w (Ext.refl e) (fun _ _=>.inl) (fun _ _=>.inl) (hg.put dst v) (Ea hg hp hx) (fun k _ hk hn=>hk.put (GK hp hn))
def En (b:Nat):Nat->List AC->Ws
 |_,[]=>[]
 |o,c::cs=>(.cell b o,.ac c)::En b (o+1) cs
theorem Ei {b:Nat}{k:Key}{v:Kv}:∀ {cs:List AC}{o:Nat},(k,v)∈En b o cs->∃ j c,cs[j]?=some c/\k=.cell b (o+j)/\v=.ac c
 |[],o,h=>by simp [En] at h
 |c::cs,o,h=>by
  simp only[En,mem_cons,Prod.mk.injEq] at h;rcases h with⟨rfl,rfl⟩|h
  ·exact⟨0,c,rfl,rfl,rfl⟩
  ·obtain⟨j,d,h1,h2,h3⟩:=Ei h;exact⟨j+1,d,by simpa using h1,by rw[h2];congr 1;omega,h3⟩
theorem Uo {b o':Nat}:∀ {cs:List AC}{o:Nat},find (.cell b o') (En b o cs)=none->o'<o\/o+cs.length<=o'
 |[],o,_=>by simp;omega
 |c::cs,o,h=>by
  simp only[En,find] at h;split at h
  ·cases h
  ·rename_i hs;have h1:=Uo h;have h2:¬ o=o':=by
    rintro rfl;have:=Key.same_iff.2 (rfl:Key.cell b o=.cell b o);rw[hs] at this;cases this
   simp only[length_cons];omega
def UK (nt id:Nat) (dst:Option Tmp) (t:Nat) (cs:List AC) (p:AC):Option Ws :=
 match zW nt dst (.val (.one p)) with
 |some l=>some (l++(.box id,.box t cs.length)::En id 0 cs)
 |none=>none
def caW (nt id:Nat) (dst:Option Tmp) (t:Nat) (cs:List AC):Option Ws:=UK nt id dst t cs (.ptr id 0)
theorem cA.atA {e:Env}{cs:List AC}{vs:List Value}(h:cA e cs vs) {i:Nat}{c:AC}(hc:cs[i]?=some c):∃ v,vs.toArray[i]?=some v/\c.is e v:=by
 obtain⟨v,h1,h2⟩:=h.get i c hc;exact⟨v,by simpa using h1,h2⟩
theorem Jv.newV (h:Jv C e a w id ws K) (hC:C.Ok) (hg:cL C e a w) (hf:e.ρ id=none) {dst:Option Tmp}{t:Nat}{cs:List AC}{vs:List Value}{p:AC}{pv:Value}(hpv:∀ e':Env,e'.ρ id=some w.heap.size->p.is e' pv) (hp:UK C.nt id dst t cs p=some ws) (hx:cA e cs vs) :
 K (a.put dst pv) { w with heap:=w.heap.push (.cells vs.toArray t) }:=by
 unfold UK at hp;split at hp
 ·rename_i l hl;injection hp with hp;subst hp
  let e':Env:={ e with ρ:=fun b=>if b=id then some w.heap.size else e.ρ b }
  let w':World:={ w with heap:=w.heap.push (.cells vs.toArray t) }
  have hid:e'.ρ id=some w.heap.size:=by simp [e']
  have hx':Ext e e':=⟨fun b k hb=>by
   show (if b=id then some w.heap.size else e.ρ b)=some k;rw[if_neg (fun e0=>by rw[e0,hf] at hb;cases hb),hb],fun _ _ h=>h⟩
  have hold:∀ b k,e'.ρ b=some k->e.ρ b=some k\/(b=id/\k=w.heap.size):=by
   intro b k hb;by_cases hbi:b=id
   ·right;refine⟨hbi,?_⟩;rw[hbi,hid] at hb;injection hb with hb
    exact hb.symm
   ·left;have:(if b=id then some w.heap.size else e.ρ b)=some k:=hb
    rwa [if_neg hbi] at this
  have hb:Below w.heap.size w w':=⟨rfl,rfl,rfl,by simp [w'],fun k hk=>by
   show (w.heap.push _)[k]?=_;rw[Array.getElem?_push,if_neg (by omega)]⟩
  have hnew:w'.heap[w.heap.size]?=some (.cells vs.toArray t (0,0)):=by
   show (w.heap.push _)[w.heap.size]?=_;simp
  have hg1:=hg.later hb;have hg':cL C e' a w':=⟨hg1.below,hg1.defers,hg1.size,fun b b' k h1 h2=>by
   rcases hold b k h1 with h3|⟨h3,h4⟩<;>rcases hold b' k h2 with h5|⟨h5,h6⟩
   ·exact hg.inj b b' k h3 h5
   ·have:=(hg.own b k h3).2;omega
   ·have:=(hg.own b' k h5).2;omega
   ·rw[h3,h5],fun b k h1=>by
   rcases hold b k h1 with h3|⟨h3,h4⟩
   ·exact hg1.own b k h3
   ·rw[h4];exact⟨⟨hg.below.size,fun hm=>Nat.lt_irrefl _ (hg.lim _ hm).2⟩,by simp [w']⟩,hg1.lim⟩
  have hptr:(AV.val (.one p)).is e' pv:=hpv e' hid;refine h e' _ w' hx' (fun b k hb=>(hold b k hb).imp (fun h=>h) fun h=>h.1) (fun _ _=>.inl) (hg'.put dst _) ?_ ?_
  ·intro k v hm;rcases List.mem_append.1 hm with hm|hm
   ·exact Ea hg' hl hptr k v hm
   ·simp only[mem_cons,Prod.mk.injEq] at hm;rcases hm with⟨rfl,rfl⟩|hm
    ·exact⟨_,vs.toArray,hid,hnew,by simp [hx.length]⟩
    ·obtain⟨j,c,h1,rfl,rfl⟩:=Ei hm;obtain⟨v,h2,h3⟩:=hx.atA h1;exact⟨_,_,_,v,hid,hnew,by simpa using h2,h3.ext hx'⟩
  ·intro k v hk hn;exact((hk.below hC hg hb).ext hx').put (GK hl (ue hn).1)
 ·cases hp
theorem Jv.new (h:Jv C e a w id ws K) (hC:C.Ok) (hg:cL C e a w) (hf:e.ρ id=none) {dst:Option Tmp}{t:Nat}{cs:List AC}{vs:List Value}(hp:caW C.nt id dst t cs=some ws) (hx:cA e cs vs) :
 K (a.put dst (.pointer (some ⟨w.heap.size,0,none⟩))) { w with heap:=w.heap.push (.cells vs.toArray t) } :=
 h.newV hC hg hf (p:=.ptr id 0) (fun e' he=>⟨_,he,rfl⟩) hp hx
theorem uH (P:Program) (k t:Nat):∀ (vs:List Value) (i o:Nat) (w:World) (cs:Array Value),w.heap[k]?=some (.cells cs t (0,0))->(∀ v∈vs,v.oneCell'=true)->o+i+vs.length<=cs.size->
 ∃ w' cs',(storeCells ⟨k,o,none⟩ vs i).run P w=.ok () w'/\w'.heap[k]?=some (.cells cs' t (0,0))/\cs'.size=cs.size/\cV k w w'/\(∀ j v,vs[j]?=some v->cs'[o+i+j]?=some v)/\
  (∀ m,(m<o+i\/o+i+vs.length<=m)->cs'[m]?=cs[m]?)
 |[],i,o,w,cs,h,_,_=>⟨w,cs,rfl,h,rfl,cV.refl k w,fun j v hj=>by simp at hj,fun _ _=>rfl⟩
 |v::vs,i,o,w,cs,h,h1,hl=>by
  simp only[length_cons] at hl;have hlt:o+i<cs.size:=by omega
  have hb:(w.setCell ⟨k,o+i,none⟩ v).heap[k]?=some (.cells (cs.setIfInBounds (o+i) v) t (0,0)):=by
   simp only[World.setCell,Array.getElem?_modify,if_pos,h];rfl
  obtain⟨w',cs',h2,h3,h4,h5,h6,h7⟩:=uH P k t vs (i+1) o (w.setCell ⟨k,o+i,none⟩ v) _ hb (fun x hx=>h1 x (mem_cons_of_mem _ hx)) (by simp;omega);have hc:w.cell? ⟨k,o+i,none⟩=some cs[o+i]:=by simp [World.cell?,h,hlt]
  have hfz:w.frozen? ⟨k,o+i,none⟩=false:=by simp [World.frozen?,h]
  refine⟨w',cs',?_,h3,by simpa using h4,((cV.refl k w).set (o+i) v).trans h5,?_,?_⟩
  ·rw[storeCells];simp [cY,run_store _ _ _ _ _ (h1 v (by simp)),hc,hfz,h2]
  ·intro j x hj;cases j with
   |zero =>
    simp at hj;subst hj;rw[h7 (o+i+0) (by omega)];simp [hlt]
   |succ j =>
    have:=h6 j x (by simpa using hj);rw[show o+(i+1)+j=o+i+(j+1) by omega] at this;exact this
  ·intro m hm;simp only[length_cons] at hm;rw[h7 m (by omega)];have:¬ o+i=m:=by omega
   simp [this]
def jf (V:ka) (csz:List Nat):AC->Bool
 |.lit v=>v.oneCell'
 |.sym s j=>match V (.live s) with
  |some (.cls c)=>Nat.blt j (csz.getD c 0)
  |_=>false
 |_=>true
theorem ud (hC:C.Ok) {V:ka}(hV:jB C e a w V) {c:AC}{v:Value}(h:jf V C.csz c=true) (hc:c.is e v):v.oneCell'=true:=by
 cases c with
 |lit x=>rw[show v=x from hc];exact h
 |sym s j =>
  simp only[jf] at h;split at h
  ·rename_i cl hl;obtain⟨f,h1,h2⟩:=hc;obtain⟨f',h3,h4⟩:=hV _ _ hl;rw[h1] at h3;injection h3 with h3;subst h3
   rw[h2];exact hC.cell _ _ _ _ h4 (kg h)
  ·cases h
 |ptr b o=>obtain⟨k,_,rfl⟩:=hc;rfl
 |clo f bs=>obtain⟨k,_,rfl⟩:=hc;rfl
 |slc b o n c=>obtain⟨k,_,rfl⟩:=hc;rfl
def noSlA (V:ka) (numc:List Bool):AC->Bool
 |.lit v=>caH v
 |.sym s 0=>match V (.live s) with
  |some (.cls c)=>numc.getD c false
  |_=>false
 |.sym _ _=>false
 |.slc ..=>false
 |_=>true
theorem chQ (hC:C.Ok) {V:ka}(hV:jB C e a w V) {c:AC}{v:Value}(h:noSlA V C.numc c=true) (hc:c.is e v):caH v=true:=by
 unfold noSlA at h;split at h
 ·rw[show v=_ from hc];exact h
 ·rename_i s;split at h
  ·rename_i cl hl;obtain⟨f,h1,h2⟩:=hc;obtain⟨f',h3,h4⟩:=hV _ _ hl;rw[h1] at h3;injection h3 with h3;subst h3
   rw[h2];exact hC.num _ _ _ h h4
  ·cases h
 ·cases h
 ·cases h
 ·rename_i h1 h2 h3 h4;cases c with
  |lit=>exact absurd rfl (h1 _)
  |sym s j =>
   cases j with
   |zero=>exact absurd rfl (h2 _)
   |succ j=>exact absurd rfl (h3 _ _)
  |ptr b o=>obtain⟨k,_,rfl⟩:=hc;rfl
  |clo f bs=>obtain⟨k,_,rfl⟩:=hc;rfl
  |slc b o n c=>exact absurd rfl (h4 _ _ _ _)
end
inductive Grp where
 |lit (v:Value)
 |cls (c n:Nat)
inductive Pat where
 |one (g:Grp)
 |agg (gs:List Grp)
 /-- A slice, from its block's begin on, of n elements, and these cells. -/
 |slc (t n:Nat) (gs:List Grp)
inductive cK where
 |val (p:Pat)
 |tup (ps:List Pat)
inductive Hd where
 |call (f:FuncId)
 |bs (t n:Nat)
 |ix (t:Nat)
 |ld (t:Nat)
 |blt (b:Builtin) (ats:List Nat) (t:Nat)
 |bin (op:BinOp) (t:Nat)
 |sl (t:Nat) (lo hi mx:Bool)
 |mk (t:Nat)
 |cv (s d:Nat)
 |un (op:UnOp) (t:Nat)
 |si (t:Nat)
 |fa (s f:Nat)
 |mf (f:Nat)
 |st (t:Nat)
 /-- A call of a function value that is known by its class; the value comes first. -/
 |dyn
 deriving DecidableEq
structure Ent where
 hd:Hd
 args:List Pat
 res:cK
def Hd.grows:Hd->Bool
 |.blt .append _ _=>true
 |.st _=>true
 |_=>false
def jU (o:Oper):Option (Hd×List Operand) :=
 match o.op with
 |.buildSlice t n parts=>match decide (parts.toList.map (·.1)=List.range parts.toList.length) with
  |true=>some (.bs t n,parts.toList.map (·.2))
  |false=>none
 |.indexAddr t x i=>some (.ix t,[x,i])
 |.load t x=>some (.ld t,[x])
 |.binOp op t x y _=>some (.bin op t,[x,y])
 |.slice t x lo hi mx=>some (.sl t lo.isSome hi.isSome mx.isSome,x::(lo.toList++hi.toList++mx.toList))
 |.makeSlice t l c=>some (.mk t,[l,c])
 |.convert s d x=>some (.cv s d,[x])
 |.unOp op t x=>some (.un op t,[x])
 |.index t x i=>some (.si t,[x,i])
 |.fieldAddr s x f=>some (.fa s f,[x])
 |.makeFunc (.func f) first ⟨[]⟩=>some (.mf f,first.toList)
 |.call c=>match c.callee with
  |.builtin b=>some (.blt b c.argTypes.toList o.type,c.args.toList)
  |_=>none
 |_=>none
section
variable (C:Ctx) (w:World)
def Grp.is:Grp->List Value->Prop
 |.lit v,vs=>vs=[v]
 |.cls c n,vs=>∃ f,C.E c w f/\vs=(List.range n).map f
def cu:List Grp->List Value->Prop
 |[],vs=>vs=[]
 |g::gs,vs=>∃ xs ys,vs=xs++ys/\g.is C w xs/\cu gs ys
def Pat.is:Pat->Value->Prop
 |.one g,v=>g.is C w [v]
 |.agg gs,v=>∃ vs,cu C w gs vs/\v=.agg vs.toArray
 |.slc t n gs,v=>∃ k vs,v=.slice (some ⟨k,0,none⟩) n n/\w.heap[k]?=some (.cells vs.toArray t (0,0))/\cu C w gs vs
def cD:List Pat->List Value->Prop
 |[],vs=>vs=[]
 |p::ps,vs=>∃ v ws,vs=v::ws/\p.is C w v/\cD ps ws
def cK.is:cK->Value->Prop
 |.val p,v=>p.is C w v
 |.tup ps,v=>∃ vs,cD C w ps vs/\v=.tuple vs.toArray
end
def Ent.Valid (C:Ctx) (t:Ent):Prop :=
 match t.hd with
 |.call f=>Enters C.P f/\∀ w vs,Below C.w0.heap.size C.w0 w->cD C w t.args vs->Calls C.P f vs.toArray w (fun e w'=>∃ v,e=.returned v/\t.res.is C w' v/\Below w.heap.size w w')
 |.st k=>∀ w (ρ:Operand->Value) (o:Oper) x y,o.op=.store k x y->Below C.w0.heap.size C.w0 w->cD C w t.args [ρ x,ρ y]->∃ w',(execOp ρ o).run C.P w=.ok .skip w'/\t.res.is C w' (ρ x)/\Step C true w w'
 |.dyn=>∀ w vf vs,Below C.w0.heap.size C.w0 w->cD C w t.args (vf::vs)->∃ g pre cap,vf=.func (.func g) pre cap/\Enters C.P g/\Calls C.P g (pre++vs.toArray++cap) w (fun e w'=>∃ v,e=.returned v/\t.res.is C w' v/\Below w.heap.size w w')
 |hd=>∀ w (ρ:Operand->Value) (o:Oper) xs,jU o=some (hd,xs)->Below C.w0.heap.size C.w0 w->cD C w t.args (xs.map ρ)->∃ v w',(execOp ρ o).run C.P w=.ok (.value v) w'/\t.res.is C w' v/\Step C hd.grows w w'
def sameV:Value->Value->Bool
 |.bool true,.bool true=>true
 |.bool false,.bool false=>true
 |.int .i64 (.ofNat a),.int .i64 (.ofNat b)=>Nat.beq a b
 |.int .i64 (.negSucc a),.int .i64 (.negSucc b)=>Nat.beq a b
 |.int .u64 (.ofNat a),.int .u64 (.ofNat b)=>Nat.beq a b
 |.int .u8 (.ofNat a),.int .u8 (.ofNat b)=>Nat.beq a b
 |.pointer none,.pointer none=>true
 |.nilFunc,.nilFunc=>true
 |.slice none 0 0,.slice none 0 0=>true
 |.func (.func f) ⟨[]⟩ ⟨[]⟩,.func (.func g) ⟨[]⟩ ⟨[]⟩=>Nat.beq f g
 |.string a,.string b=>decide (a.data.toList=b.data.toList)
 |_,_=>false
theorem sameS {a b:ByteArray}(h:decide (a.data.toList=b.data.toList)=true):Value.string a=.string b:=by
 have h:=of_decide_eq_true h;cases a with
 |mk a =>
  cases b with
  |mk b =>
   cases a with
   |mk a =>
    cases b with
    |mk b =>
     have h:a=b:=h;rw[h]
theorem chP {a b:Value}(h:sameV a b=true):a=b:=by
 unfold sameV at h;split at h<;>first|rfl|(rw[eq_of_beq_eq_true h])|exact sameS h|cases h
def kb (s:Nat):Nat->Nat->List AC->Option (List AC)
 |_,0,cs=>some cs
 |j,n+1,.sym s' j'::cs=>match Nat.beq s' s with
  |true=>match Nat.beq j' j with
   |true=>kb s (j+1) n cs
   |false=>none
  |false=>none
 |_,_,_=>none
def ccD (V:ka):Grp->List AC->Option (List AC)
 |.lit v,.lit v'::cs=>match sameV v' v with
  |true=>some cs
  |false=>none
 |.cls c n,.sym s j::cs=>match V (.live s) with
  |some (.cls c')=>match Nat.beq c' c with
   |true=>kb s 0 n (.sym s j::cs)
   |false=>none
  |_=>none
 |_,_=>none
def zz (V:ka):List Grp->List AC->Bool
 |[],[]=>true
 |g::gs,cs=>match ccD V g cs with
  |some r=>zz V gs r
  |none=>false
 |_,_=>false
def Wi (V:ka):Pat->AV->Bool
 |.one g,.val (.one c)=>zz V [g] [c]
 |.agg gs,.val (.agg cs)=>zz V gs cs
 |.slc t n gs,.val (.one (.slc b 0 n' c'))=>match Nat.beq n' n with
  |true=>match Nat.beq c' n with
   |true=>match V (.box b) with
    |some (.box t' m)=>match Nat.beq t' t with
     |true=>match uN V b 0 m with
      |some cs=>zz V gs cs
      |none=>false
     |false=>false
    |_=>false
   |false=>false
  |false=>false
 |_,_=>false
def zw (V:ka):List Pat->List AV->Bool
 |[],[]=>true
 |p::ps,x::xs=>match Wi V p x with
  |true=>zw V ps xs
  |false=>false
 |_,_=>false
section
variable {C:Ctx}{e:Env}{a:Act}{w:World}{V:ka}
theorem zI {s:Nat}{f:Nat->Value}(hf:e.ν s=some f):∀ {n j:Nat}{cs r:List AC}{vs:List Value},kb s j n cs=some r->cA e cs vs->∃ ys,vs=(List.range' j n).map f++ys/\cA e r ys
 |0,j,cs,r,vs,h,hc=>by
  simp [kb] at h;subst h;exact⟨vs,by simp,hc⟩
 |n+1,j,[],r,vs,h,hc=>by simp [kb] at h
 |n+1,j,.lit _::_,r,vs,h,hc=>by simp [kb] at h
 |n+1,j,.ptr _ _::_,r,vs,h,hc=>by simp [kb] at h
 |n+1,j,.clo _ _::_,r,vs,h,hc=>by simp [kb] at h
 |n+1,j,.sym s' j'::cs,r,vs,h,hc=>by
  unfold kb at h;split at h
  ·rename_i hs;split at h
   ·rename_i hj;obtain⟨v,ws,rfl,⟨f',h1,h2⟩,h3⟩:=hc;rw[eq_of_beq_eq_true hs,hf] at h1;injection h1 with h1;subst h1
    obtain⟨ys,h4,h5⟩:=zI hf h h3;refine⟨ys,?_,h5⟩;rw[h2,eq_of_beq_eq_true hj,h4,List.range'_succ];rfl
   ·cases h
  ·cases h
theorem cfS (hV:jB C e a w V) {g:Grp}{cs r:List AC}{vs:List Value}(h:ccD V g cs=some r) (hc:cA e cs vs):∃ xs ys,vs=xs++ys/\g.is C w xs/\cA e r ys:=by
 unfold ccD at h;split at h
 ·rename_i v v' cs;split at h
  ·rename_i hs;injection h with h;subst h
   obtain⟨x,ws,rfl,h1,h2⟩:=hc;exact⟨[x],ws,rfl,by rw[show x=v' from h1,chP hs];rfl,h2⟩
  ·cases h
 ·rename_i c n s j cs;split at h
  ·rename_i c' hl;split at h
   ·rename_i hcc;obtain⟨f,h1,h2⟩:=hV _ _ hl;obtain⟨ys,h3,h4⟩:=zI h1 h hc;exact⟨_,ys,h3,⟨f,by rw[← eq_of_beq_eq_true hcc];exact h2,by rw[List.range_eq_range']⟩,h4⟩
   ·cases h
  ·cases h
 ·cases h
theorem yG (hV:jB C e a w V):∀ {gs:List Grp}{cs:List AC}{vs:List Value},zz V gs cs=true->cA e cs vs->cu C w gs vs
 |[],[],vs,h,hc=>hc
 |[],_::_,vs,h,hc=>by simp [zz] at h
 |g::gs,cs,vs,h,hc=>by
  unfold zz at h;split at h
  ·rename_i r hr;obtain⟨xs,ys,h1,h2,h3⟩:=cfS hV hr hc;exact⟨xs,ys,h1,h2,yG hV h h3⟩
  ·cases h
theorem KO (hV:jB C e a w V) {p:Pat}{x:AV}{v:Value}(h:Wi V p x=true) (hx:x.is e v):p.is C w v:=by
 unfold Wi at h;split at h
 ·rename_i g c;obtain⟨xs,ys,h1,h2,h3⟩:=yG hV h (vs:=[v]) ⟨v,[],rfl,hx,rfl⟩;rw[show ys=[] from h3,append_nil] at h1;subst h1;exact h2
 ·obtain⟨vs,h1,h2⟩:=hx;exact⟨vs,yG hV h h1,h2⟩
 ·rename_i t n gs b n' c';obtain⟨k,hk,rfl⟩:=hx;split at h
  ·rename_i hn;split at h
   ·rename_i hc;split at h
    ·rename_i t' m hb;split at h
     ·rename_i ht;split at h
      ·rename_i cs hcs;obtain⟨h1,vs,h2,h3⟩:=uw hV hk _ _ _ hcs;obtain⟨k',arr,q1,q2,q3⟩:=hV _ _ hb;rw[hk] at q1;injection q1 with q1;subst q1
       have hvs:arr=vs.toArray:=by
        apply Array.ext
        ·simp [q3,h2.length,h1]
        ·intro i h4 h5;have h6:i<vs.length:=by simpa using h5
         have:=h3 i vs[i] (List.getElem?_eq_getElem h6);simp only[zero_add,World.cell?,q2] at this;simp [h4] at this;simpa using this
       refine⟨k,vs,by rw[eq_of_beq_eq_true hn,eq_of_beq_eq_true hc],?_,yG hV h h2⟩;rw[q2,hvs,eq_of_beq_eq_true ht]
      ·cases h
     ·cases h
    ·cases h
   ·cases h
  ·cases h
 ·cases h
def ko (e:Env):List AV->List Value->Prop
 |[],vs=>vs=[]
 |c::cs,vs=>∃ v ws,vs=v::ws/\c.is e v/\ko e cs ws
theorem Ep (hV:jB C e a w V):∀ {ps:List Pat}{xs:List AV}{vs:List Value},zw V ps xs=true->ko e xs vs->cD C w ps vs
 |[],[],vs,h,hc=>hc
 |[],_::_,vs,h,hc=>by simp [zw] at h
 |_::_,[],vs,h,hc=>by simp [zw] at h
 |p::ps,x::xs,vs,h,hc=>by
  unfold zw at h;split at h
  ·rename_i hp;obtain⟨v,ws,h1,h2,h3⟩:=hc;exact⟨v,ws,h1,KO hV hp h2,Ep hV h h3⟩
  ·cases h
end
def uA (s:Nat):Nat->Nat->List AC
 |_,0=>[]
 |j,n+1=>.sym s j::uA s (j+1) n
def jZ (s:Nat):List Grp->List AC×Ws×Nat
 |[]=>([],[],s)
 |.lit v::gs=>match jZ s gs with
  |(cs,l,s')=>(.lit v::cs,l,s')
 |.cls c n::gs=>match jZ (s+1) gs with
  |(cs,l,s')=>(uA s 0 n++cs,(.live s,.cls c)::l,s')
def mkP (s:Nat):Pat->Option (A1×Ws×Nat)
 |.one g=>match jZ s [g] with
  |([c],l,s')=>some (.one c,l,s')
  |_=>none
 |.agg gs=>match jZ s gs with
  |(cs,l,s')=>some (.agg cs,l,s')
 |.slc ..=>none
def uW (s:Nat):List Pat->Option (List A1×Ws×Nat)
 |[]=>some ([],[],s)
 |p::ps=>match mkP s p with
  |some (x,l,s')=>match uW s' ps with
   |some (xs,l',s'')=>some (x::xs,l++l',s'')
   |none=>none
  |none=>none
def mkR (s:Nat):cK->Option (AV×Ws×Nat)
 |.val p=>match mkP s p with
  |some (x,l,s')=>some (.val x,l,s')
  |none=>none
 |.tup ps=>match uW s ps with
  |some (xs,l,s')=>some (.tup xs,l,s')
  |none=>none
structure kz (C:Ctx) (w:World) (s s':Nat) (l:Ws) (e e':Env):Prop where
 ext:Ext e e'
 ρ:e'.ρ=e.ρ
 ν:∀ x f,e'.ν x=some f->e.ν x=some f\/(s<=x/\x<s')
 le:s<=s'
 live:∀ k v,(k,v)∈l->∃ x c,k=.live x/\v=.cls c/\∃ f,e'.ν x=some f/\C.E c w f
section
variable {C:Ctx}{w:World}
theorem kz.refl (s:Nat) (e:Env):kz C w s s [] e e:=⟨Ext.refl e,rfl,fun _ _ h=>.inl h,le_refl _,fun _ _ h=>by simp at h⟩
theorem kz.trans {s s' s'':Nat}{l l':Ws}{e e' e'':Env}(h:kz C w s s' l e e') (k:kz C w s' s'' l' e' e''):kz C w s s'' (l++l') e e'' :=
 ⟨h.ext.trans k.ext,k.ρ.trans h.ρ,fun x f hx=>by
  rcases k.ν x f hx with h1|h1
  ·rcases h.ν x f h1 with h2|h2
   ·exact .inl h2
   ·exact .inr ⟨h2.1,lt_of_lt_of_le h2.2 k.le⟩
  ·exact .inr ⟨le_trans h.le h1.1,h1.2⟩,le_trans h.le k.le,fun x v hm=>by
  rcases List.mem_append.1 hm with hm|hm
  ·obtain⟨x,c,h1,h2,f,h3,h4⟩:=h.live x v hm;exact⟨x,c,h1,h2,f,k.ext.ν _ _ h3,h4⟩
  ·exact k.live x v hm⟩
theorem yq {e:Env}{s:Nat}{f:Nat->Value}(hf:e.ν s=some f):∀ (n j:Nat),cA e (uA s j n) ((List.range' j n).map f)
 |0,j=>rfl
 |n+1,j=>⟨f j,_,by rw[List.range'_succ];rfl,⟨f,hf,rfl⟩,yq hf n (j+1)⟩
theorem uD:∀ {gs:List Grp}{s s':Nat}{cs:List AC}{l:Ws},jZ s gs=(cs,l,s')->s<=s'
 |[],s,s',cs,l,h=>by
  simp only[jZ,Prod.mk.injEq] at h;omega
 |.lit v::gs,s,s',cs,l,h=>by
  simp only[jZ] at h;generalize hm:jZ s gs=r at h;obtain⟨cs',l',s''⟩:=r;simp only[Prod.mk.injEq] at h;have:=uD hm;omega
 |.cls c n::gs,s,s',cs,l,h=>by
  simp only[jZ] at h;generalize hm:jZ (s+1) gs=r at h;obtain⟨cs',l',s''⟩:=r;simp only[Prod.mk.injEq] at h;have:=uD hm;omega
theorem yg {B:Nat}:∀ {gs:List Grp}{s s':Nat}{cs:List AC}{l:Ws}{vs:List Value}{e:Env},jZ s gs=(cs,l,s')->s'<=B->(∀ x,s<=x->x<B->e.ν x=none)->cu C w gs vs->∃ e',kz C w s s' l e e'/\cA e' cs vs
 |[],s,s',cs,l,vs,e,h,hB,hn,hg=>by
  simp only[jZ,Prod.mk.injEq] at h;obtain⟨rfl,rfl,rfl⟩:=h;exact⟨e,kz.refl _ _,hg⟩
 |.lit v::gs,s,s',cs,l,vs,e,h,hB,hn,⟨xs,ys,h1,h2,h3⟩=>by
  simp only[jZ] at h;generalize hm:jZ s gs=r at h;obtain⟨cs',l',s''⟩:=r;simp only[Prod.mk.injEq] at h;obtain⟨rfl,rfl,rfl⟩:=h;obtain⟨e',h4,h5⟩:=yg hm hB hn h3;subst h1;rw[show xs=[v] from h2];exact⟨e',h4,v,ys,rfl,rfl,h5⟩
 |.cls c n::gs,s,s',cs,l,vs,e,h,hB,hn,⟨xs,ys,h1,⟨f,h2,h2'⟩,h3⟩=>by
  simp only[jZ] at h;generalize hm:jZ (s+1) gs=r at h;obtain⟨cs',l',s''⟩:=r;simp only[Prod.mk.injEq] at h;obtain⟨rfl,rfl,rfl⟩:=h;have hle:=uD hm
  let e1:Env:={ e with ν:=fun x=>if x=s then some f else e.ν x }
  have he1:e1.ν s=some f:=by simp [e1]
  have hg1:kz C w s (s+1) [(.live s,.cls c)] e e1:=⟨⟨fun _ _ h=>h,fun x g hx=>by
   show (if x=s then some f else e.ν x)=some g;rw[if_neg (fun e0=>by rw[e0,hn s (le_refl _) (by omega)] at hx;cases hx),hx]⟩,rfl,fun x g hx=>by
   by_cases hxs:x=s
   ·right;omega
   ·left;have:(if x=s then some f else e.ν x)=some g:=hx
    rwa [if_neg hxs] at this,by omega,fun k v hk=>by
   simp only[mem_cons,Prod.mk.injEq,List.not_mem_nil,or_false] at hk;exact⟨s,c,hk.1,hk.2,f,he1,h2⟩⟩
  obtain⟨e',h4,h5⟩:=yg (e:=e1) hm hB (fun x hx hxB=>by
   show (if x=s then some f else e.ν x)=none;rw[if_neg (by omega)];exact hn x (by omega) hxB) h3
  refine⟨e',hg1.trans h4,?_⟩;subst h1;rw[h2',List.range_eq_range'];exact(yq (h4.ext.ν _ _ he1) n 0).append h5
theorem KF {B:Nat}{p:Pat}{s s':Nat}{x:A1}{l:Ws}{v:Value}{e:Env}(h:mkP s p=some (x,l,s')) (hB:s'<=B) (hn:∀ x,s<=x->x<B->e.ν x=none) (hp:p.is C w v):∃ e',kz C w s s' l e e'/\x.is e' v:=by
 cases p with
 |one g =>
  simp only[mkP] at h;generalize hm:jZ s [g]=r at h;obtain⟨cs',l',s''⟩:=r;split at h
  ·rename_i c l1 s1 heq;simp only[Prod.mk.injEq] at heq;obtain⟨rfl,rfl,rfl⟩:=heq;injection h with h
   simp only[Prod.mk.injEq] at h;obtain⟨rfl,rfl,rfl⟩:=h;obtain⟨e',h1,v',ws,h2,h3,h4⟩:=yg hm hB hn (vs:=[v]) ⟨[v],[],rfl,hp,rfl⟩;injection h2 with h2 _
   subst h2;exact⟨e',h1,h3⟩
  ·cases h
 |agg gs =>
  simp only[mkP] at h;generalize hm:jZ s gs=r at h;obtain⟨cs',l',s''⟩:=r;injection h with h
  simp only[Prod.mk.injEq] at h;obtain⟨rfl,rfl,rfl⟩:=h;obtain⟨vs,h1,h2⟩:=hp;obtain⟨e',h3,h4⟩:=yg hm hB hn h1;exact⟨e',h3,vs,h4,h2⟩
 |slc t n gs=>simp [mkP] at h
theorem caf {p:Pat}{s s':Nat}{x:A1}{l:Ws}(h:mkP s p=some (x,l,s')):s<=s':=by
 cases p with
 |one g =>
  simp only[mkP] at h;generalize hm:jZ s [g]=r at h;obtain⟨cs',l',s''⟩:=r;have:=uD hm;split at h
  ·rename_i c l1 s1 heq;simp only[Prod.mk.injEq] at heq;injection h with h
   simp only[Prod.mk.injEq] at h;omega
  ·cases h
 |agg gs =>
  simp only[mkP] at h;generalize hm:jZ s gs=r at h;obtain⟨cs',l',s''⟩:=r;injection h with h
  simp only[Prod.mk.injEq] at h;have:=uD hm;omega
 |slc t n gs=>simp [mkP] at h
theorem GM:∀ {ps:List Pat}{s s':Nat}{xs:List A1}{l:Ws},uW s ps=some (xs,l,s')->s<=s'
 |[],s,s',xs,l,h=>by
  simp only[uW,Option.some.injEq,Prod.mk.injEq] at h;omega
 |p::ps,s,s',xs,l,h=>by
  simp only[uW] at h;split at h
  ·rename_i x l1 s1 hp1;split at h
   ·rename_i xs2 l2 s2 hp2;injection h with h
    simp only[Prod.mk.injEq] at h;have:=caf hp1;have:=GM hp2;omega
   ·cases h
  ·cases h
theorem zu {B:Nat}:∀ {ps:List Pat}{s s':Nat}{xs:List A1}{l:Ws}{vs:List Value}{e:Env},uW s ps=some (xs,l,s')->s'<=B->(∀ x,s<=x->x<B->e.ν x=none)->cD C w ps vs->∃ e',kz C w s s' l e e'/\jK e' xs vs
 |[],s,s',xs,l,vs,e,h,hB,hn,hp=>by
  simp only[uW,Option.some.injEq,Prod.mk.injEq] at h;obtain⟨rfl,rfl,rfl⟩:=h;exact⟨e,kz.refl _ _,hp⟩
 |p::ps,s,s',xs,l,vs,e,h,hB,hn,⟨v,ws,h1,h2,h3⟩=>by
  simp only[uW] at h;split at h
  ·rename_i x l1 s1 hp1;split at h
   ·rename_i xs2 l2 s2 hp2;injection h with h
    simp only[Prod.mk.injEq] at h;obtain⟨rfl,rfl,rfl⟩:=h;obtain⟨e1,g1,i1⟩:=KF hp1 (le_trans (GM hp2) hB) hn h2;obtain⟨e2,g2,i2⟩:=zu (e:=e1) hp2 hB (fun x hx hxB=>by
     cases hc:e1.ν x with
     |none=>rfl
     |some f =>
      rcases g1.ν x f hc with h|h
      ·rw[hn x (le_trans g1.le hx) hxB] at h;cases h
      ·omega) h3
    exact⟨e2,g1.trans g2,v,ws,h1,i1.ext g2.ext,i2⟩
   ·cases h
  ·cases h
theorem ccW {B:Nat}{p:cK}{s s':Nat}{x:AV}{l:Ws}{v:Value}{e:Env}(h:mkR s p=some (x,l,s')) (hB:s'<=B) (hn:∀ x,s<=x->x<B->e.ν x=none) (hp:p.is C w v):∃ e',kz C w s s' l e e'/\x.is e' v:=by
 cases p with
 |val p =>
  simp only[mkR] at h;split at h
  ·rename_i y l1 s1 hp1;injection h with h
   simp only[Prod.mk.injEq] at h;obtain⟨rfl,rfl,rfl⟩:=h;exact KF hp1 hB hn hp
  ·cases h
 |tup ps =>
  simp only[mkR] at h;split at h
  ·rename_i y l1 s1 hp1;injection h with h
   simp only[Prod.mk.injEq] at h;obtain⟨rfl,rfl,rfl⟩:=h;obtain⟨vs,h1,h2⟩:=hp;obtain⟨e',h3,h4⟩:=zu hp1 hB hn h1;exact⟨e',h3,vs,h4,h2⟩
  ·cases h
end
def yw (V:ka):List Operand->Option (List AV)
 |[]=>some []
 |x::xs=>match cq V x with
  |some a=>match yw V xs with
   |some l=>some (a::l)
   |none=>none
  |none=>none
def Hd.same:Hd->Hd->Bool
 |.call f,.call g=>Nat.beq f g
 |.call _,_=>false
 |_,.call _=>false
 |a,b=>decide (a=b)
theorem Hd.same_eq {a b:Hd}(h:a.same b=true):a=b:=by
 unfold Hd.same at h;split at h
 ·rw[eq_of_beq_eq_true h]
 ·cases h
 ·cases h
 ·exact of_decide_eq_true h
def Gu (V:ka) (h:Hd) (xs:List AV):List Ent->Option Ent
 |[]=>none
 |t::T=>match t.hd.same h with
  |true=>match zw V t.args xs with
   |true=>some t
   |false=>Gu V h xs T
  |false=>Gu V h xs T
theorem Jt {V:ka}{h:Hd}{xs:List AV}{t:Ent}:∀ {T:List Ent},Gu V h xs T=some t->t∈T/\t.hd=h/\zw V t.args xs=true
 |[],hf=>by simp [Gu] at hf
 |u::T,hf=>by
  unfold Gu at hf;split at hf
  ·rename_i h1;split at hf
   ·rename_i h2;injection hf with hf;subst hf
    exact⟨by simp,Hd.same_eq h1,h2⟩
   ·obtain⟨h3,h4⟩:=Jt hf;exact⟨mem_cons_of_mem _ h3,h4⟩
  ·obtain⟨h3,h4⟩:=Jt hf;exact⟨mem_cons_of_mem _ h3,h4⟩
def kq (S:Stat) (T:List Ent) (V:ka) (id:Nat) (dst:Option Tmp) (h:Hd) (xs:List Operand):Option Ws :=
 match yw V xs with
 |some l=>match Gu V h l T with
  |some t=>match mkR (id*8) t.res with
   |some (x,lv,s')=>match Nat.ble s' (id*8+8) with
    |true=>match zW S.nt dst x with
     |some ws=>some (ws++lv)
     |none=>none
    |false=>none
   |none=>none
  |none=>none
 |none=>none
def ke (S:Stat) (dst:Option Tmp) (s:Sem Value):Option Ws :=
 match ev S.P s with
 |some v=>zW S.nt dst (.val (.one (.lit v)))
 |none=>none
def A1.cells:A1->List AC
 |.one c=>[c]
 |.agg cs=>cs
def uR (f:AC->Bool):List AC->Bool
 |[]=>true
 |c::cs=>match f c with
  |true=>uR f cs
  |false=>false
def uE (P:Program) (s f:Nat):Option Field :=
 match P.underlying s with
 |some (.struct fields)=>fields[f]?
 |_=>none
def Uy (n:Nat):List Nat->Bool
 |[]=>false
 |m::l=>match Nat.beq m n with
  |true=>true
  |false=>Uy n l
theorem Zw {n:Nat}:∀ {l:List Nat},Uy n l=true->n∈l
 |[],h=>by simp [Uy] at h
 |m::l,h=>by
  unfold Uy at h;split at h
  ·rename_i hm;rw[eq_of_beq_eq_true hm];simp
  ·exact mem_cons_of_mem _ (Zw h)
def cdJ (S:Stat) (V:ka) (dst:Option Tmp) (t:TypeId) (b o:Nat) (cs:List AC):Option Ws :=
 match S.P.info? t with
 |none=>none
 |some i=>match Nat.beq cs.length i.size with
  |false=>none
  |true=>match uR (jf V S.csz) cs with
   |false=>none
   |true=>match V (.box b) with
    |some (.box ty n)=>match Nat.ble (o+cs.length) n with
     |false=>none
     |true=>match Uy ty S.okT with
      |false=>none
      |true=>match cax S.P ty n with
       |false=>none
       |true=>match V (.cell b 0) with
        |some (.ac c0)=>match noSlA V S.numc c0 with
         |false=>none
         |true=>match zW S.nt dst JG with
          |some ws=>some (ws++En b o cs)
          |none=>none
        |_=>none
    |_=>none
def Ev (S:Stat) (V:ka) (fs:List Field):List (Nat×Operand)->List AC->Option (List AC)
 |[],cs=>some cs
 |(i,x)::l,cs=>match fs[i]? with
  |some f=>match S.P.info? f.type with
   |some j=>match cq V x with
    |some (.val y)=>match uR (jf V S.csz) y.cells with
     |true=>match Nat.beq y.cells.length j.size with
      |true=>match Nat.ble (f.offset+y.cells.length) cs.length with
       |true=>Ev S V fs l (cs.take f.offset++y.cells++cs.drop (f.offset+y.cells.length))
       |false=>none
      |false=>none
     |false=>none
    |_=>none
   |none=>none
  |none=>none
def zR (S:Stat) (V:ka) (z n:Nat):Nat->List (Nat×Operand)->Option (List AC)
 |_,[]=>some []
 |j,(i,x)::l=>match Nat.beq i j with
  |true=>match cq V x with
   |some (.val y)=>match uR (jf V S.csz) y.cells with
    |true=>match Nat.beq y.cells.length z with
     |true=>match zR S V z n (j+1) l with
      |some cs=>some (y.cells++cs)
      |none=>none
     |false=>none
    |false=>none
   |_=>none
  |false=>none
def slc?:Option AV->Option (Nat×Nat×Nat)
 |some (.val (.one (.slc b o n _)))=>some (b,o,n)
 |_=>none
theorem Ua {C:Ctx}{e:Env}{a:Act}{w:World}{V:ka}(hV:jB C e a w V) {x:Operand}{b o n:Nat}(h:slc? (cq V x)=some (b,o,n)) :
 ∃ k c,e.ρ b=some k/\a.eval x=.slice (some ⟨k,o,none⟩) n c:=by
 unfold slc? at h;split at h
 ·rename_i hx;injection h with h;simp only[Prod.mk.injEq] at h;obtain⟨h1,h2,h3⟩:=h;subst h1;subst h2;subst h3
  obtain⟨k,h1,h2⟩:=cw hV hx;exact⟨k,_,h1,h2⟩
 ·cases h
def UQ:Nat->List (Nat×Operand)->Bool
 |_,[]=>true
 |j,p::l=>match Nat.beq p.1 j with
  |true=>UQ (j+1) l
  |false=>false
theorem WM:∀ {l:List (Nat×Operand)}{j:Nat},UQ j l=true->l.map (·.1)=List.range' j l.length
 |[],_,_=>rfl
 |p::l,j,h=>by
  unfold UQ at h;split at h
  ·rename_i hp;rw[map_cons,WM h,eq_of_beq_eq_true hp];rfl
  ·cases h
def entBs (S:Stat) (T:List Ent) (V:ka) (id:Nat) (dst:Option Tmp) (t n:Nat) (parts:List (Nat×Operand)):Option Ws :=
 match UQ 0 parts with
 |true=>kq S T V id dst (.bs t n) (parts.map (·.2))
 |false=>none
def bsW (S:Stat) (V:ka) (id:Nat) (dst:Option Tmp) (t:TypeId) (n:Nat) (parts:Array (Nat×Operand)):Option Ws :=
 match S.P.underlying t with
  |some (.slice e)=>match S.P.info? e with
   |some i=>match i.zero with
    |some _=>match i.size with
     |0=>none
     |z+1=>match Nat.ble (n*(z+1)) 16777216 with
      |false=>none
      |true=>match Nat.blt 0 n with
       |false=>none
       |true=>match zR S V (z+1) n 0 parts.toList with
        |some cs=>match Nat.beq parts.toList.length n with
         |true=>match UK S.nt id dst e cs (.slc id 0 n n) with
          |some ws=>some ws
          |none=>none
         |false=>none
        |none=>none
    |none=>none
   |none=>none
  |_=>none
def zj (S:Stat) (T:List Ent) (V:ka) (id:Nat) (o:Oper):Option Ws :=
 match o.op with
 |.move x=>match cq V x with
  |some v=>zW S.nt o.dst v
  |none=>none
 |.assign x=>match cq V x with
  |some v=>zW S.nt o.dst v
  |none=>none
 |.pick c x y=>match lit? (cq V c) with
  |some (.bool true)=>match cq V x with
   |some v=>zW S.nt o.dst v
   |none=>none
  |some (.bool false)=>match cq V y with
   |some v=>zW S.nt o.dst v
   |none=>none
  |_=>none
 |.alloc t=>match S.P.info? t with
  |some i=>match i.zero with
   |some z=>caW S.nt id o.dst t (z.cells.toList.map .lit)
   |none=>none
  |none=>none
 |.box t x=>match cq V x with
  |some (.val a)=>match uR (jf V S.csz) a.cells with
   |true=>caW S.nt id o.dst t a.cells
   |false=>none
  |_=>none
 |.build t parts=>match S.P.info? t with
  |some i=>match i.zero with
   |some z=>match S.P.underlying t with
    |some (.struct fs)=>match fs.toList.all (fun f=>(S.P.info? f.type).isSome) with
     |true=>match Ev S V fs.toList parts.toList (z.cells.toList.map .lit) with
      |some cs=>zW S.nt o.dst (.val (.agg cs))
      |none=>none
     |false=>none
    |_=>none
   |none=>none
  |none=>none
 |.load t x=>match ptr? (cq V x) with
  |some (b,p)=>match Jf S.P V t b p with
   |some y=>zW S.nt o.dst (.val y)
   |none=>none
  |none=>kq S T V id o.dst (.ld t) [x]
 |.store t x y=>match ptr? (cq V x) with
  |some (b,p)=>match cq V y with
   |some (.val a)=>cdJ S V o.dst t b p a.cells
   |_=>none
  |none=>match x,o.dst with
   |.tmp s,none=>kq S T V id (some s) (.st t) [.tmp s,y]
   |_,_=>none
 |.nilCheck x=>match ptr? (cq V x) with
  |some (b,p)=>zW S.nt o.dst (.val (.one (.ptr b p)))
  |none=>none
 |.binOp op t x y u=>match lit? (cq V x),lit? (cq V y) with
  |some vx,some vy=>ke S o.dst (do eqGuard op t x y vx vy;binOp op t vx vy)
  |_,_=>kq S T V id o.dst (.bin op t) [x,y]
 |.unOp op t x=>match lit? (cq V x) with
  |some vx=>ke S o.dst (Op.unary op vx)
  |none=>kq S T V id o.dst (.un op t) [x]
 |.convert s d x=>match lit? (cq V x) with
  |some vx=>ke S o.dst (convert s d vx)
  |none=>kq S T V id o.dst (.cv s d) [x]
 |.slice t x lo hi mx=>kq S T V id o.dst (.sl t lo.isSome hi.isSome mx.isSome) (x::(lo.toList++hi.toList++mx.toList))
 |.makeSlice t l c=>kq S T V id o.dst (.mk t) [l,c]
 |.index t x i=>kq S T V id o.dst (.si t) [x,i]
 |.fieldAddr s x f=>match ptr? (cq V x) with
  |some (b,p)=>match uE S.P s f with
   |some fl=>match S.P.info? fl.type with
    |some i=>match i.size with
     |0=>none
     |_+1=>zW S.nt o.dst (.val (.one (.ptr b (p+fl.offset))))
    |none=>none
   |none=>none
  |none=>kq S T V id o.dst (.fa s f) [x]
 |.makeFunc (.func f) first ⟨[]⟩=>kq S T V id o.dst (.mf f) first.toList
 |.field t x f=>match cq V x with
  |some (.val (.agg cs))=>match uE S.P t f with
   |some fl=>match S.P.underlying fl.type with
    |some d=>match zU d with
     |true=>match S.P.info? fl.type with
      |some i=>zW S.nt o.dst (.val (.agg ((cs.drop fl.offset).take i.size)))
      |none=>none
     |false=>match cs[fl.offset]? with
      |some c=>zW S.nt o.dst (.val (.one c))
      |none=>none
    |none=>none
   |none=>none
  |_=>none
 |.extract x i=>match cq V x with
  |some (.tup l)=>match l[i]? with
   |some y=>zW S.nt o.dst (.val y)
   |none=>none
  |_=>none
 |.buildSlice t n parts=>match entBs S T V id o.dst t n parts.toList with
  |some ws=>some ws
  |none=>bsW S V id o.dst t n parts
 |.indexAddr t x i=>match slc? (cq V x),lit? (cq V i),S.P.underlying t with
  |some (b,p,n),some (.int .i64 (.ofNat j)),some (.slice e)=>match Nat.blt j n with
   |true=>match S.P.info? e with
    |some inf=>zW S.nt o.dst (.val (.one (.ptr b (p+j*inf.size))))
    |none=>none
   |false=>none
  |_,_,_=>kq S T V id o.dst (.ix t) [x,i]
 |.call c=>match c.callee with
  |.value fo=>match cq V fo with
   |some (.val (.one (.lit (.func (.func f) ⟨[]⟩ ⟨[]⟩))))=>kq S T V id o.dst (.call f) c.args.toList
   |_=>kq S T V id o.dst .dyn (fo::c.args.toList)
  |.builtin b=>kq S T V id o.dst (.blt b c.argTypes.toList o.type) c.args.toList
  |_=>none
 |_=>none
section
variable {C:Ctx}{e:Env}{a:Act}{w:World}{V:ka}{T:List Ent}{id:Nat}{ws:Ws}{K:Act->World->Prop}{Q:Exit->Act->World->Prop}{o:Oper}
theorem kM (hV:jB C e a w V):∀ {xs:List Operand}{l:List AV},yw V xs=some l->ko e l (xs.map a.eval)
 |[],l,h=>by simp [yw] at h;subst h;rfl
 |x::xs,l,h=>by
  unfold yw at h;split at h
  ·rename_i y hy;split at h
   ·rename_i ys hys;injection h with h;subst h
    exact⟨_,_,rfl,cw hV hy,kM hV hys⟩
   ·cases h
  ·cases h
theorem jB.below (hC:C.Ok) (hg:cL C e a w) {w':World}(hb:Below w.heap.size w w') (hV:jB C e a w V):jB C e a w' V:=fun k v h=>(hV k v h).below hC hg hb
theorem GS (hC:C.Ok) (hT:∀ t∈T,t.Valid C) (hV:jB C e a w V) (hg:cL C e a w) (hn:∀ x,x/8=id->e.ν x=none) {dst:Option Tmp}{h:Hd}{xs:List Operand}
 (hu:kq C.toStat T V id dst h xs=some ws) (hP:Jv C e a w id ws K) :
 ∃ t:Ent,t.Valid C/\t.hd=h/\cD C w t.args (xs.map a.eval)/\∀ v w',(Below w.heap.size w w'\/C.G w w')->t.res.is C w' v->K (a.put dst v) w':=by
 unfold kq at hu;split at hu
 ·rename_i l hl;split at hu
  ·rename_i t ht;split at hu
   ·rename_i x lv s' hm;split at hu
    ·rename_i hs;split at hu
     ·rename_i ws1 hp;injection hu with hu;subst hu
      obtain⟨h1,h2,h3⟩:=Jt ht;refine⟨t,hT t h1,h2,Ep hV h3 (kM hV hl),fun v w' hb hr=>?_⟩;have hs':s'<=id*8+8:=le_of_ble_eq_true hs;obtain⟨e',g,hx⟩:=ccW hm hs' (fun x hx hxB=>hn x (by omega)) hr;have hg1:=hg.step hC hb;have hg':cL C e' a w':=⟨hg1.below,hg1.defers,hg1.size,fun b b' k h1 h2=>hg1.inj b b' k (by rw[← g.ρ];exact h1) (by rw[← g.ρ];exact h2),fun b k h1=>hg1.own b k (by rw[← g.ρ];exact h1),hg1.lim⟩;refine hP e' _ w' g.ext (fun b k hb=>.inl (by rw[← g.ρ];exact hb)) (fun s f hs=>(g.ν s f hs).imp (fun h=>h) (fun h=>by omega)) (hg'.put dst v) ?_ ?_
      ·intro k y hm;rcases List.mem_append.1 hm with hm|hm
       ·exact Ea hg' hp hx k y hm
       ·obtain⟨x,c,rfl,rfl,f,h4,h5⟩:=g.live k y hm;exact⟨f,h4,h5⟩
      ·intro k y hk hn;exact((hk.step hC hg hb).ext g.ext).put (GK hp (ue hn).1)
     ·cases hu
    ·cases hu
   ·cases hu
  ·cases hu
 ·cases hu
theorem co {v:Value}(h:(execOp a.eval o).run C.P w=.ok (.value v) w) (hK:K (a.put o.dst v) w):o.wp C.P a w K Q:=by
 unfold Oper.wp;rw[h];exact hK
theorem zB {v:Value}{w':World}(h:(execOp a.eval o).run C.P w=.ok (.value v) w') (hK:K (a.put o.dst v) w'):o.wp C.P a w K Q:=by
 unfold Oper.wp;rw[h];exact hK
theorem kj (hC:C.Ok) (hT:∀ t∈T,t.Valid C) (hV:jB C e a w V) (hg:cL C e a w) (hn:∀ x,x/8=id->e.ν x=none) {h:Hd}{xs:List Operand}(hh:jU o=some (h,xs)) (hc:(∀ f,h≠.call f)/\(∀ k,h≠.st k)/\h≠.dyn)
 (hu:kq C.toStat T V id o.dst h xs=some ws) (hP:Jv C e a w id ws K):o.wp C.P a w K Q:=by
 obtain⟨t,h1,h2,h3,h4⟩:=GS hC hT hV hg hn hu hP;obtain⟨hd,args,res⟩:=t;simp only at h2;subst h2;unfold Ent.Valid at h1;split at h1
 ·rename_i f hf;exact absurd hf (hc.1 f)
 ·rename_i k hf;exact absurd hf (hc.2.1 k)
 ·rename_i hf;exact absurd hf hc.2.2
 ·obtain⟨v,w',h5,h6,h7⟩:=h1 w a.eval o xs hh hg.below h3;exact zB h5 (h4 v w' h7.some h6)
theorem chM (a:Act) (s:Tmp):a.put (some s) (a.eval (.tmp s))=a:=by
 have:a.tmps.setIfInBounds s (a.tmps.getD s undef)=a.tmps:=by
  apply Array.ext_getElem?;intro i;rw[Array.getElem?_setIfInBounds];split
  ·rename_i h;subst h;split
   ·rename_i h;rw[Array.getElem?_eq_getElem h];rfl
   ·rename_i h;rw[Array.getElem?_eq_none (by omega)]
  ·rfl
 obtain⟨ts,ds⟩:=a;simp only[Act.put,Act.eval,Array.set!_eq_setIfInBounds];simp only at this;rw[this]
theorem cfY (hC:C.Ok) (hT:∀ t∈T,t.Valid C) (hV:jB C e a w V) (hg:cL C e a w) (hn:∀ x,x/8=id->e.ν x=none) {t:TypeId}{s:Tmp}{y:Operand}(ho:o.op=.store t (.tmp s) y) (hd:o.dst=none)
 (hu:kq C.toStat T V id (some s) (.st t) [.tmp s,y]=some ws) (hP:Jv C e a w id ws K):o.wp C.P a w K Q:=by
 obtain⟨en,h1,h2,h3,h4⟩:=GS hC hT hV hg hn hu hP;obtain⟨hd',args,res⟩:=en;simp only at h2;subst h2;obtain⟨w',h5,h6,h7⟩:=h1 w a.eval o (.tmp s) y ho hg.below h3;have hk:=h4 _ w' h7.some h6;rw[chM] at hk;unfold Oper.wp;rw[h5,Oper.upon_skip,hd];exact hk
theorem cbF (hC:C.Ok) (hT:∀ t∈T,t.Valid C) (hV:jB C e a w V) (hg:cL C e a w) (hn:∀ x,x/8=id->e.ν x=none) {f:FuncId}{c:Call}{fo:Operand}(ho:o.op=.call c) (hcal:c.callee=.value fo)
 (hfo:a.eval fo=.func (.func f) #[] #[]) (hu:kq C.toStat T V id o.dst (.call f) c.args.toList=some ws) (hP:Jv C e a w id ws K):o.wp C.P a w K Q:=by
 obtain⟨t,h1,h2,h3,h4⟩:=GS hC hT hV hg hn hu hP;obtain⟨hd,args,res⟩:=t;simp only at h2;subst h2;obtain⟨hE,hc⟩:=h1;have hr:(execOp a.eval o).run C.P w=.ok (.enter f (c.args.toList.map a.eval).toArray) w:=by
  have h:=hE (c.args.map a.eval) w;simp [execOp,ho,resolve,hcal,hfo,Deferred.ofValue,invoke,h];apply Array.ext';simp
 unfold Oper.wp;rw[hr];refine Calls.mono (hc w _ hg.below h3) ?_;rintro e w' ⟨v,rfl,h5,h6⟩;exact h4 v w' (.inl h6) h5
theorem cdz (hC:C.Ok) (hT:∀ t∈T,t.Valid C) (hV:jB C e a w V) (hg:cL C e a w) (hn:∀ x,x/8=id->e.ν x=none) {c:Call}{fo:Operand}(ho:o.op=.call c) (hcal:c.callee=.value fo)
 (hu:kq C.toStat T V id o.dst .dyn (fo::c.args.toList)=some ws) (hP:Jv C e a w id ws K):o.wp C.P a w K Q:=by
 obtain⟨t,h1,h2,h3,h4⟩:=GS hC hT hV hg hn hu hP;obtain⟨hd,args,res⟩:=t;simp only at h2;subst h2;obtain⟨g,pre,cap,hf,hE,hc⟩:=h1 w (a.eval fo) (c.args.toList.map a.eval) hg.below h3;have hr:(execOp a.eval o).run C.P w=.ok (.enter g (pre++(c.args.toList.map a.eval).toArray++cap)) w:=by
  have h:=hE (pre++c.args.map a.eval++cap) w;have he:(c.args.toList.map a.eval).toArray=c.args.map a.eval:=by
   apply Array.ext';simp
  rw[he];simp [execOp,ho,resolve,hcal,hf,Deferred.ofValue,invoke];simpa using h
 unfold Oper.wp;rw[hr];refine Calls.mono hc ?_;rintro e w' ⟨v,rfl,h5,h6⟩;exact h4 v w' (.inl h6) h5
theorem A1.cells_are {x:A1}{v:Value}(hC:C.Ok) (hV:jB C e a w V) (h:x.is e v) (hs:uR (jf V C.csz) x.cells=true):cA e x.cells v.cells.toList:=by
 cases x with
 |one c =>
  simp only[A1.cells,uR] at hs ⊢;split at hs
  ·rename_i hc;have h1:=ud hC hV hc h;have:v.cells=#[v]:=by cases v<;>first|rfl|(simp [Value.oneCell'] at h1)
   rw[this];exact⟨v,[],rfl,h,rfl⟩
  ·cases hs
 |agg cs =>
  obtain⟨vs,h1,rfl⟩:=h;simpa [Value.cells,A1.cells] using h1
theorem ut (hC:C.Ok) (hV:jB C e a w V):∀ {cs:List AC}{vs:List Value},uR (jf V C.csz) cs=true->cA e cs vs->∀ v∈vs,v.oneCell'=true
 |[],vs,_,h,v,hv=>by rw[h] at hv;simp at hv
 |c::cs,vs,hs,⟨x,ws,h1,h2,h3⟩,v,hv=>by
  simp only[uR] at hs;split at hs
  ·rename_i hc;subst h1;rcases List.mem_cons.1 hv with rfl|hv
   ·exact ud hC hV hc h2
   ·exact ut hC hV hs h3 v hv
  ·cases hs
theorem cfZ (hC:C.Ok) (hV:jB C e a w V) (hg:cL C e a w) {dst:Option Tmp}{t:TypeId}{b p k:Nat}(hk:e.ρ b=some k) {x:A1}{v:Value}(hx:x.is e v)
 (hu:cdJ C.toStat V dst t b p x.cells=some ws) (hP:Jv C e a w id ws K):∃ w',(storeVar t ⟨k,p,none⟩ v).run C.P w=.ok () w'/\K (a.put dst undef) w':=by
 unfold cdJ at hu;split at hu
 ·cases hu
 ·rename_i i hi;split at hu
  ·cases hu
  ·rename_i hsz;split at hu
   ·cases hu
   ·rename_i hall;split at hu
    ·rename_i ty n hbox;split at hu
     ·cases hu
     ·rename_i hle;split at hu
      ·cases hu
      ·rename_i hty;split at hu
       ·cases hu
       rename_i hfull;split at hu
       ·rename_i c0 hc0;split at hu
        ·cases hu
        ·rename_i hns;split at hu
         ·rename_i ws1 hp;injection hu with hu;subst hu
          obtain⟨k1,cs,h1,h2,h3⟩:=hV _ _ hbox;rw[hk] at h1;injection h1 with h1;subst h1
          obtain⟨k2,cs2,ty2,v0,h4,h5,h6,h7⟩:=hV _ _ hc0;rw[hk] at h4;injection h4 with h4;subst h4
          rw[h2] at h5;injection h5 with h5
          injection h5 with h5 h5' _
          subst h5;have hcs:=A1.cells_are hC hV hx hall;have hlen:v.cells.toList.length=x.cells.length:=hcs.length;have hle':=le_of_ble_eq_true hle;obtain⟨w',cs',r1,r2,r3,r4,r5,r6⟩:=uH C.P k ty v.cells.toList 0 p w cs h2 (ut hC hV hall hcs) (by rw[hlen,h3];omega);refine⟨w',?_,?_⟩
          ·have hs1:¬ v.cells.size≠i.size:=by
            have:=eq_of_beq_eq_true hsz;rw[← this,← hlen];simp
           simp only[storeVar,run_bind,jd hi,andThen_ok,if_neg hs1];exact r1
          ·have hb:Below C.w0.heap.size w w':=r4.below (hg.own b k hk).1.1;have hg':cL C e a w':=⟨hg.below.trans hb,hg.defers,hg.size,hg.inj,fun b k h=>⟨(hg.own b k h).1,by rw[r4.size];exact(hg.own b k h).2⟩,fun k h=>⟨(hg.lim k h).1,by rw[r4.size];exact(hg.lim k h).2⟩⟩;refine hP e _ w' (Ext.refl e) (fun _ _=>.inl) (fun _ _=>.inl) (hg'.put dst undef) ?_ ?_
           ·intro key y hm;rcases List.mem_append.1 hm with hm|hm
            ·exact Ea hg' hp rfl key y hm
            ·obtain⟨j,c,h8,rfl,rfl⟩:=Ei hm;obtain⟨z,h9,h10⟩:=hcs.get j c h8;exact⟨k,cs',ty,z,hk,r2,r5 j z h9,h10⟩
           ·intro key y hh hn;obtain⟨hn1,hn2⟩:=ue hn;refine jj.put (GK hp hn1) ?_;cases key<;>cases y<;>try exact hh
            ·rename_i b' o' c';obtain⟨k',cs1,ty1,z,q1,q2,q3,q4⟩:=hh;by_cases hkk:k'=k
             ·subst hkk;have hbb:=hg.inj _ _ _ q1 hk;subst hbb;rw[h2] at q2;injection q2 with q2
              injection q2 with q2 _ _
              subst q2;refine⟨k',cs',ty,z,q1,r2,?_,q4⟩;rw[r6 o' (by rw[hlen];have:=Uo hn2;omega)];exact q3
             ·exact⟨k',cs1,ty1,z,q1,(r4.block k' hkk).trans q2,q3,q4⟩
            ·rename_i b' ty' n';obtain⟨k',cs1,q1,q2,q3⟩:=hh;by_cases hkk:k'=k
             ·subst hkk;rw[h2] at q2;injection q2 with q2
              injection q2 with q2 q2' _
              subst q2;subst q2';exact⟨k',cs',q1,r2,r3.trans q3⟩
             ·exact⟨k',cs1,q1,(r4.block k' hkk).trans q2,q3⟩
            ·obtain⟨f,q1,q2⟩:=hh;exact⟨f,q1,hC.only _ _ _ k f cs ty (hg.own b k hk).1.1 (hg.own b k hk).1.2 h2 (Zw hty) (fun z hz=>by
              rw[h6] at hz;injection hz with hz;subst hz
              exact chQ hC hV hns h7) (by rw[h3];exact hfull) r4 q2⟩
         ·cases hu
       ·cases hu
    ·cases hu
theorem Yh (hg:cL C e a w) {dst:Option Tmp}{s:Sem Value}(hu:ke C.toStat dst s=some ws) (hP:Jv C e a w id ws K):∃ v,s.run C.P w=.ok v w/\K (a.put dst v) w:=by
 unfold ke at hu;split at hu
 ·rename_i v hv;exact⟨v,JE hv w,hP.value hg hu rfl⟩
 ·cases hu
theorem cA.drop {e:Env}:∀ {n:Nat}{cs:List AC}{vs:List Value},cA e cs vs->cA e (cs.drop n) (vs.drop n)
 |0,_,_,h=>h
 |n+1,[],vs,h=>by rw[h];rfl
 |n+1,c::cs,_,⟨v,ws,h1,_,h3⟩=>by rw[h1];exact h3.drop
theorem cA.take {e:Env}:∀ {n:Nat}{cs:List AC}{vs:List Value},cA e cs vs->cA e (cs.take n) (vs.take n)
 |0,_,_,h=>rfl
 |n+1,[],vs,h=>by rw[h];rfl
 |n+1,c::cs,_,⟨v,ws,h1,h2,h3⟩=>⟨v,ws.take n,by rw[h1];rfl,h2,h3.take⟩
theorem uO {P:Program}{s f:Nat}{fl:Field}(h:uE P s f=some fl):∃ fs,P.underlying s=some (.struct fs)/\fs[f]?=some fl:=by
 unfold uE at h;split at h
 ·exact⟨_,by assumption,h⟩
 ·cases h
theorem yD (P:Program) (t:TypeId) (v:Value):(newVar t v).run P w=.ok ⟨w.heap.size,0,none⟩ { w with heap:=w.heap.push (.cells v.cells t) }:=by
 simp [newVar,newRow]
theorem JS (off:Nat):∀ (vs:List Value) (cells:Array Value) (j:Nat),off+j+vs.length<=cells.size->
 ((vs.zipIdx j).foldl (fun cs (c,j)=>cs.setIfInBounds (off+j) c) cells).toList=cells.toList.take (off+j)++vs++cells.toList.drop (off+j+vs.length)
 |[],cells,j,h=>by simp
 |v::vs,cells,j,h=>by
  simp only[length_cons] at h;rw[List.zipIdx_cons,List.foldl_cons,JS off vs _ (j+1) (by simp;omega)];have hlt:off+j<cells.size:=by omega
  simp only[Array.toList_setIfInBounds,length_cons];rw[show off+(j+1)=off+j+1 by omega,show off+j+1+vs.length=off+j+(vs.length+1) by omega];rw[List.take_set,List.drop_set_of_lt (by omega)];have hlen:off+j<cells.toList.length:=by simpa using hlt
  rw[List.take_succ_eq_append_getElem hlen];have hl:(cells.toList.take (off+j)).length=off+j:=by simp;omega
  rw[List.set_append_right _ _ (by omega),hl];simp
theorem EK (hC:C.Ok) (hV:jB C e a w V) {fs:List Field}{place:Nat->Option (Nat×Nat)}(hp:∀ (j:Nat) (f:Field) (inf:TypeInfo),fs[j]?=some f->C.P.info? f.type=some inf->place j=some (f.offset,inf.size)) :
 ∀ {parts:List (Nat×Operand)} {cs ds:List AC} {z:Array Value},Ev C.toStat V fs parts cs=some ds->cA e cs z.toList->∃ us,cA e ds us/\Instr.fill place z (parts.map fun(i,x)=>(i,a.eval x))=some us.toArray
 |[],cs,ds,z,h,hz=>by
  simp [Ev] at h;subst h;exact⟨z.toList,hz,by simp [Instr.fill]⟩
 |(i,x)::l,cs,ds,z,h,hz=>by
  unfold Ev at h;split at h
  ·rename_i f hf;split at h
   ·rename_i j hj;split at h
    ·rename_i y hy;split at h
     ·rename_i hall;split at h
      ·rename_i hsz;split at h
       ·rename_i hle;have hx:=A1.cells_are hC hV (cw hV hy) hall;have hlen:(a.eval x).cells.toList.length=y.cells.length:=hx.length;have hzl:z.toList.length=cs.length:=hz.length;have hle:=le_of_ble_eq_true hle;have hsz:=eq_of_beq_eq_true hsz;have hls:(a.eval x).cells.size=y.cells.length:=by simpa using hlen
        have hzs:z.size=cs.length:=by simpa using hzl
        let z':=((a.eval x).cells.toList.zipIdx 0).foldl (fun cs (c,j)=>cs.setIfInBounds (f.offset+j) c) z
        have hz':z'.toList=z.toList.take f.offset++(a.eval x).cells.toList++z.toList.drop (f.offset+y.cells.length):=by
         have:=JS f.offset (a.eval x).cells.toList z 0 (by rw[hlen,hzs];omega);simp only[add_zero,hlen] at this;exact this
        obtain⟨us,h1,h2⟩:=EK hC hV hp (z:=z') h (by rw[hz'];exact(hz.take.append hx).append hz.drop);refine⟨us,h1,?_⟩;simp only[map_cons,Instr.fill,hp i f j hf hj];rw[if_neg (by simp only[Bool.or_eq_true,decide_eq_true_eq];omega)];have e1:((a.eval x).cells.zipIdx.foldl (fun cs (c,j)=>cs.setIfInBounds (f.offset+j) c) z)=z':=by
         rw[← Array.foldl_toList];simp [z',Array.toList_zipIdx]
        rw[e1];exact h2
       ·cases h
      ·cases h
     ·cases h
    ·cases h
   ·cases h
  ·cases h
theorem CG (hC:C.Ok) (hV:jB C e a w V) {z n:Nat}:∀ {parts:List (Nat×Operand)}{j:Nat}{cs:List AC},zR C.toStat V z n j parts=some cs->
 ∃ vs:List Value,vs.length=parts.length/\(∀ v∈vs,v.cells.size=z)/\(parts.map fun(i,x)=>(i,a.eval x))=((vs.zipIdx j).map fun x=>(x.2,x.1))/\∃ us,cA e cs us/\(vs.flatMap fun v=>v.cells.toList)=us
 |[],j,cs,h=>by
  simp [zR] at h;subst h;exact⟨[],rfl,fun v h=>by simp at h,rfl,[],rfl,rfl⟩
 |(i,x)::l,j,cs,h=>by
  unfold zR at h;split at h
  ·rename_i hij;split at h
   ·rename_i y hy;split at h
    ·rename_i hall;split at h
     ·rename_i hsz;split at h
      ·rename_i ds hds;injection h with h;subst h
       have hx:=A1.cells_are hC hV (cw hV hy) hall;obtain⟨vs,h1,h2,h3,us,h4,h5⟩:=CG hC hV hds;refine⟨a.eval x::vs,by simp [h1],?_,?_,(a.eval x).cells.toList++us,hx.append h4,by simp [h5]⟩
       ·intro v hv;rcases List.mem_cons.1 hv with rfl|hv
        ·have:=hx.length;simp only[length_toList] at this;rw[this,eq_of_beq_eq_true hsz]
        ·exact h2 v hv
       ·rw[map_cons,h3,List.zipIdx_cons,map_cons,eq_of_beq_eq_true hij]
      ·cases h
     ·cases h
    ·cases h
   ·cases h
  ·cases h
set_option maxHeartbeats 1000000 in
theorem zG (hC:C.Ok) (hT:∀ t∈T,t.Valid C) (hV:jB C e a w V) (hg:cL C e a w) (hf:e.ρ id=none) (hn:∀ x,x/8=id->e.ν x=none)
 (hu:zj C.toStat T V id o=some ws) (hP:Jv C e a w id ws K):o.wp C.P a w K Q:=by
 unfold zj at hu;split at hu
 ·rename_i x ho;split at hu
  ·rename_i v hv;exact co (by simp [execOp,ho]) (hP.value hg hu (cw hV hv))
  ·cases hu
 ·rename_i x ho;split at hu
  ·rename_i v hv;exact co (by simp [execOp,ho]) (hP.value hg hu (cw hV hv))
  ·cases hu
 ·rename_i c x y ho;split at hu
  ·rename_i hc;have hc:=jl hV hc;split at hu
   ·rename_i v hv;exact co (v:=a.eval x) (by simp [execOp,ho,hc,asBool]) (hP.value hg hu (cw hV hv))
   ·cases hu
  ·rename_i hc;have hc:=jl hV hc;split at hu
   ·rename_i v hv;exact co (v:=a.eval y) (by simp [execOp,ho,hc,asBool]) (hP.value hg hu (cw hV hv))
   ·cases hu
  ·cases hu
 ·rename_i t ho;split at hu
  ·rename_i i hi;split at hu
   ·rename_i z hz;refine zB (v:=.pointer (some ⟨w.heap.size,0,none⟩)) (w':={ w with heap:=w.heap.push (.cells z.cells t) }) ?_ ?_
    ·simp [execOp,ho,Instr.alloc,zeroValue,typeInfo,hi,hz,yD]
    ·have:=hP.new hC hg hf hu (ua e z.cells.toList);simpa using this
   ·cases hu
  ·cases hu
 ·rename_i t x ho;split at hu
  ·rename_i y hy;split at hu
   ·rename_i hs;have hx:=cw hV hy;refine zB (v:=.pointer (some ⟨w.heap.size,0,none⟩)) (w':={ w with heap:=w.heap.push (.cells (a.eval x).cells t) }) ?_ ?_
    ·simp [execOp,ho,Instr.box,yD]
    ·have:=hP.new hC hg hf hu (A1.cells_are hC hV hx hs);simpa using this
   ·cases hu
  ·cases hu
 ·rename_i t parts ho;split at hu
  ·rename_i i hi;split at hu
   ·rename_i z hz;split at hu
    ·rename_i fs hfs;split at hu
     ·rename_i hall;split at hu
      ·rename_i cs hcs;have hm:∀ (l:List Field),(l.all fun f=>(C.P.info? f.type).isSome)=true->∃ r,(l.mapM (m:=Sem) fun f=>Prod.mk f.offset <$> sizeOf f.type).run C.P w=.ok r w/\∀ (j:Nat) (f:Field) (inf:TypeInfo),l[j]?=some f->C.P.info? f.type=some inf->r[j]?=some (f.offset,inf.size):=by
        intro l
        induction l with
        |nil=>intro _;exact⟨[],by simp,fun j f inf h=>by simp at h⟩
        |cons f l ih =>
         intro hl;simp only[List.all_cons,and_eq_true] at hl;obtain⟨r,hr,hr2⟩:=ih hl.2;obtain⟨j,hj⟩:=Option.isSome_iff_exists.1 hl.1;refine⟨(f.offset,j.size)::r,by simp [List.mapM_cons,jd hj,hr],?_⟩;intro x g inf hx hinf;cases x with
         |zero=>simp at hx;subst hx;rw[hj] at hinf;injection hinf with hinf;subst hinf;rfl
         |succ x=>simpa using hr2 x g inf (by simpa using hx) hinf
       obtain⟨r,hr,hr2⟩:=hm fs.toList hall;obtain⟨us,hus,hfill⟩:=EK hC hV (z:=z.cells) (place:=fun i=>r.toArray[i]?) (fun j f inf h1 h2=>by simpa using hr2 j f inf h1 h2) hcs (ua e z.cells.toList);refine co (v:=.agg us.toArray) ?_ (hP.value hg hu ⟨us,hus,rfl⟩);have hfill':Instr.fill (fun i=>r.toArray[i]?) z.cells (parts.map fun(i,x)=>(i,a.eval x)).toList=some us.toArray:=by
        rw[Array.toList_map];exact hfill
       simp only[execOp,ho,Instr.build,zeroValue,typeInfo,underlying,run_bind,run_program,andThen_ok,hi,hz,hfs,run_pure,Array.mapM_eq_mapM_toList,Sem.run_map];rw[show (fun(f:Field)=>(do let __do_lift ← sizeOf f.type;pure (f.offset,__do_lift):Sem (Nat×Nat)))=(fun f=>Prod.mk f.offset <$> sizeOf f.type) from rfl];simp only[hr,andThen_ok];rw[hfill'];rfl
      ·cases hu
     ·cases hu
    ·cases hu
   ·cases hu
  ·cases hu
 ·rename_i t x ho;split at hu
  ·rename_i b p hb;obtain⟨k,hk,hx⟩:=zX hV hb;split at hu
   ·rename_i y hy;obtain⟨v,h1,h2⟩:=CA hV hk hy;exact co (v:=v) (by simp [execOp,ho,hx,Instr.loadAt,Instr.sureAddr,h1]) (hP.value hg hu h2)
   ·cases hu
  ·exact kj hC hT hV hg hn (by simp [jU,ho]) (by simp) hu hP
 ·rename_i t x y ho;split at hu
  ·rename_i b p hb;obtain⟨k,hk,hx⟩:=zX hV hb;split at hu
   ·rename_i z hz;obtain⟨w',h1,h2⟩:=cfZ hC hV hg hk (cw hV hz) hu hP;unfold Oper.wp;have:(execOp a.eval o).run C.P w=.ok .skip w':=by simp [execOp,ho,hx,Instr.storeAt,Instr.sureAddr,h1]
    rw[this];exact h2
   ·cases hu
  ·split at hu
   ·rename_i hd _;exact cfY hC hT hV hg hn ho (by assumption) hu hP
   ·cases hu
 ·rename_i x ho;split at hu
  ·rename_i b p hb;obtain⟨k,hk,hx⟩:=zX hV hb;exact co (v:=.pointer (some ⟨k,p,none⟩)) (by simp [execOp,ho,hx]) (hP.value hg hu ⟨k,hk,rfl⟩)
  ·cases hu
 ·rename_i op t x y u ho;split at hu
  ·rename_i vx vy h1 h2;have h1:=jl hV h1;have h2:=jl hV h2;obtain⟨v,h3,h4⟩:=Yh hg hu hP;refine co (v:=v) ?_ h4;simp only[execOp,ho,h1,h2,run_bind];simp only[run_bind] at h3;rw[h3];rfl
  ·exact kj hC hT hV hg hn (by simp [jU,ho]) (by simp) hu hP
 ·rename_i op t x ho;split at hu
  ·rename_i vx h1;have h1:=jl hV h1;obtain⟨v,h3,h4⟩:=Yh hg hu hP;exact co (v:=v) (by simp [execOp,ho,h1,h3]) h4
  ·exact kj hC hT hV hg hn (by simp [jU,ho]) (by simp) hu hP
 ·rename_i s d x ho;split at hu
  ·rename_i vx h1;have h1:=jl hV h1;obtain⟨v,h3,h4⟩:=Yh hg hu hP;exact co (v:=v) (by simp [execOp,ho,h1,h3]) h4
  ·exact kj hC hT hV hg hn (by simp [jU,ho]) (by simp) hu hP
 ·rename_i t x lo hi mx ho;exact kj hC hT hV hg hn (by simp [jU,ho]) (by simp) hu hP
 ·rename_i t l c ho;exact kj hC hT hV hg hn (by simp [jU,ho]) (by simp) hu hP
 ·rename_i t x i ho;exact kj hC hT hV hg hn (by simp [jU,ho]) (by simp) hu hP
 ·rename_i s x f ho;split at hu
  ·rename_i b p hb;obtain⟨k,hk,hx⟩:=zX hV hb;split at hu
   ·rename_i fl hfl;obtain⟨fs,h1,h2⟩:=uO hfl;split at hu
    ·rename_i i hi;split at hu
     ·cases hu
     ·rename_i n hsz;refine co (v:=.pointer (some ⟨k,p+fl.offset,none⟩)) ?_ (hP.value hg hu ⟨k,hk,rfl⟩);simp [execOp,ho,hx,Instr.fieldAt,underlying,h1,h2,Instr.sureAddr,fieldPlace,jd hi,hsz,cY]
    ·cases hu
   ·cases hu
  ·exact kj hC hT hV hg hn (by simp [jU,ho]) (by simp) hu hP
 ·rename_i f first ho
  exact kj hC hT hV hg hn (by simp [jU,ho]) (by simp) hu hP
 ·rename_i t x f ho;split at hu
  ·rename_i cs hcs;obtain⟨vs,hvs,hx⟩:=cw hV hcs;split at hu
   ·rename_i fl hfl;obtain⟨fs,h1,h2⟩:=uO hfl;split at hu
    ·rename_i d hd;split at hu
     ·rename_i hagg;split at hu
      ·rename_i i hi;refine co (v:=.agg ((vs.drop fl.offset).take i.size).toArray) ?_ (hP.value hg hu ⟨_,hvs.drop.take,rfl⟩);have hxx:vs.toArray.extract fl.offset (fl.offset+i.size)=((vs.drop fl.offset).take i.size).toArray:=by
        simp [List.extract_eq_take_drop]
       simp [execOp,ho,hx,Instr.field,underlying,h1,h2,asAgg,part,kd hd,hagg,jd hi,List.extract_eq_take_drop]
      ·cases hu
     ·rename_i hagg;split at hu
      ·rename_i c hc;obtain⟨v,h3,h4⟩:=hvs.get _ _ hc;refine co (v:=v) ?_ (hP.value hg hu h4);simp [execOp,ho,hx,Instr.field,underlying,h1,h2,asAgg,part,kd hd,hagg,h3]
      ·cases hu
    ·cases hu
   ·cases hu
  ·cases hu
 ·rename_i x i ho;split at hu
  ·rename_i l hl;obtain⟨vs,hvs,hx⟩:=cw hV hl;split at hu
   ·rename_i y hy;obtain⟨v,h3,h4⟩:=hvs.get _ _ hy;refine co (v:=v) ?_ (hP.value hg hu h4);simp [execOp,ho,hx,Instr.extract,h3]
   ·cases hu
  ·cases hu
 ·rename_i t n parts ho;split at hu
  ·rename_i ws1 hws;injection hu with hu;subst hu
   unfold entBs at hws;split at hws
   ·rename_i hp;refine kj hC hT hV hg hn ?_ (by simp) hws hP;have:=WM hp;rw[← List.range_eq_range'] at this;simp [jU,ho,this]
   ·cases hws
  ·unfold bsW at hu;split at hu
   ·rename_i el hel;split at hu
    ·rename_i i hi;split at hu
     ·rename_i z0 hz0;split at hu
      ·cases hu
      ·rename_i z hz;split at hu
       ·cases hu
       ·rename_i hle;split at hu
        ·cases hu
        ·rename_i hpos;split at hu
         ·rename_i cs hcs;split at hu
          ·rename_i hlen;split at hu
           ·rename_i ws1 hnb;injection hu with hu;subst hu
            have hle:=le_of_ble_eq_true hle;have hpos:=kg hpos;have hlen:=eq_of_beq_eq_true hlen;obtain⟨vs,h1,h2,h3,us,h4,h5⟩:=CG hC hV hcs;refine zB (v:=.slice (some ⟨w.heap.size,0,none⟩) n n) (w':={ w with heap:=w.heap.push (.cells us.toArray el) }) ?_ (hP.newV hC hg hf (p:=.slc id 0 n n) (fun e' he=>⟨_,he,rfl⟩) hnb h4);have hf:Instr.fill (fun j=>some (j*i.size,i.size)) ((Array.range (n*i.size)).map (z0.cells[·%z0.cells.size]!)) (parts.map fun(j,x)=>(j,a.eval x)).toList=some us.toArray:=by
             rw[Array.toList_map,h3];have:=Great.fill_whole (s:=i.size) (by omega) vs ((Array.range (n*i.size)).map (z0.cells[·%z0.cells.size]!)) (fun v hv=>by rw[hz];exact h2 v hv) (by rw[h1,hlen];simp);rw[this,h5]
            have:=run_buildSlice w t el n (parts.map fun(j,x)=>(j,a.eval x)) _ i z0 hel hi hz0 (by rw[hz];show ¬ n*(z+1)>2^24;omega) (by rw[hz];exact Nat.mul_ne_zero (by omega) (by omega)) hf;simp only[execOp,ho,run_bind,this,andThen_ok];rfl
           ·cases hu
          ·cases hu
         ·cases hu
     ·cases hu
    ·cases hu
   ·cases hu
 ·rename_i t x i ho;split at hu
  ·rename_i b p n j el hb hj hel;obtain⟨k,c,hk,hx⟩:=Ua hV hb;have hi:=jl hV hj;split at hu
   ·rename_i hlt;have hlt:=kg hlt;split at hu
    ·rename_i inf hinf;refine co (v:=.pointer (some ⟨k,p+j*inf.size,none⟩)) ?_ (hP.value hg hu ⟨k,hk,rfl⟩);have h0:(0:Int)<=Int.ofNat j/\Int.ofNat j<n:=⟨Int.natCast_nonneg j,Int.ofNat_lt.2 hlt⟩;simp only[execOp,ho,hx,hi,Instr.indexAt,asIntOf,underlying,run_bind,run_pure,run_program,andThen_ok,hel,if_pos h0,jd hinf,cY];rfl
    ·cases hu
   ·cases hu
  ·exact kj hC hT hV hg hn (by simp [jU,ho]) (by simp) hu hP
 ·rename_i c ho;split at hu
  ·rename_i fo hcal;split at hu
   ·rename_i f hfo;exact cbF hC hT hV hg hn ho hcal (cw hV hfo) hu hP
   ·exact cdz hC hT hV hg hn ho hcal hu hP
  ·rename_i b hcal;exact kj hC hT hV hg hn (by simp [jU,ho,hcal]) (by simp) hu hP
  ·cases hu
 ·cases hu
end
def kI (pres:List Nat):List Edge->Nat
 |[]=>0
 |ed::l=>match Region.binds .any ed with
  |true=>2^ed.on||| pres.getD ed.on 0||| kI pres l
  |false=>kI pres l
def cB:List Nat->List Oper->List Nat
 |acc,[]=>acc
 |acc,o::l=>cB (acc++[kI acc o.after.toList]) l
theorem yR {pres:List Nat}{j:Nat}:∀ {l:List Edge},(kI pres l).testBit j=true->∃ ed∈l,Region.binds .any ed=true/\(ed.on=j\/(pres.getD ed.on 0).testBit j=true)
 |[],h=>by simp [kI] at h
 |ed::l,h=>by
  unfold kI at h;split at h
  ·rename_i hb;simp only[Nat.testBit_or,Bool.or_eq_true] at h;rcases h with(h|h)|h
   ·rw[Nat.testBit_two_pow] at h;exact⟨ed,by simp,hb,.inl (by simpa using h)⟩
   ·exact⟨ed,by simp,hb,.inr h⟩
   ·obtain⟨d,h1,h2⟩:=yR h;exact⟨d,mem_cons_of_mem _ h1,h2⟩
  ·obtain⟨d,h1,h2⟩:=yR h;exact⟨d,mem_cons_of_mem _ h1,h2⟩
theorem uz:∀ (l:List Oper) (acc:List Nat),∃ r,cB acc l=acc++r/\r.length=l.length
 |[],acc=>⟨[],by simp [cB],rfl⟩
 |o::l,acc=>by
  obtain⟨r,h1,h2⟩:=uz l (acc++[kI acc o.after.toList]);exact⟨kI acc o.after.toList::r,by simp [cB,h1],by simp [h2]⟩
theorem uP:∀ (l:List Oper) (acc:List Nat) (i:Nat) (o:Oper),l[i]?=some o->∀ j,((cB acc l).getD (acc.length+i) 0).testBit j=true->
 ∃ ed∈o.after.toList,Region.binds .any ed=true/\(ed.on=j\/((cB acc l).getD ed.on 0).testBit j=true)
 |[],acc,i,o,h,j,hj=>by simp at h
 |o'::l,acc,0,o,h,j,hj=>by
  simp at h;subst h;obtain⟨r,h1,h2⟩:=uz l (acc++[kI acc o'.after.toList]);have h3:cB acc (o'::l)=acc++(kI acc o'.after.toList::r):=by simp [cB,h1]
  rw[h3] at hj ⊢;simp at hj;obtain⟨ed,h4,h5,h6⟩:=yR hj;refine⟨ed,h4,h5,h6.imp (fun h=>h) fun h6=>?_⟩;have hlt:ed.on<acc.length:=by
   rcases lt_or_ge ed.on acc.length with h|h
   ·exact h
   ·simp [List.getD,List.getElem?_eq_none h] at h6
  simpa [List.getD,List.getElem?_append_left hlt] using h6
 |o'::l,acc,i+1,o,h,j,hj=>by
  have:=uP l (acc++[kI acc o'.after.toList]) i o (by simpa using h) j (by
   have h1:acc.length+(i+1)=(acc++[kI acc o'.after.toList]).length+i:=by simp;omega
   rw[← h1];exact hj)
  exact this
def um:Ws->List Key
 |[]=>[]
 |(k,_)::l=>k::um l
def CJ (k:Key):List Key->Bool
 |[]=>false
 |k'::l=>match k'.same k with
  |true=>true
  |false=>CJ k l
def KT:List Key->List Key->Bool
 |[],[]=>true
 |a::l,b::m=>match a.same b with
  |true=>KT l m
  |false=>false
 |_,_=>false
theorem ZR:∀ {l m:List Key},KT l m=true->l=m
 |[],[],_=>rfl
 |[],_::_,h=>by simp [KT] at h
 |_::_,[],h=>by simp [KT] at h
 |a::l,b::m,h=>by
  unfold KT at h;split at h
  ·rename_i hs;rw[Key.same_iff.1 hs,ZR h]
  ·cases h
theorem JF {k:Key}:∀ {ws:Ws},CJ k (um ws)=false->find k ws=none
 |[],_=>rfl
 |(k',v)::l,h=>by
  simp only[um,CJ] at h;split at h
  ·cases h
  ·rename_i hs;simp only[find,hs];exact JF h
theorem KD {k:Key}:∀ {l:List Key},CJ k l=true↔k∈l
 |[]=>by simp [CJ]
 |k'::l=>by
  unfold CJ;split
  ·rename_i hs;rw[Key.same_iff.1 hs];simp
  ·rename_i hs;rw[KD];have:¬ k=k':=by
    rintro rfl;have:=Key.same_iff.2 (rfl:k=k);rw[hs] at this;cases this
   simp [this]
def Gk (pres:List Nat) (acc:List Ws) (i pi:Nat) (k:Key):List (List Key)->Nat->Option Kv->Option Kv
 |[],_,cur=>cur
 |l::K,j,cur=>match CJ k l with
  |false=>Gk pres acc i pi k K (j+1) cur
  |true=>match Nat.beq j i with
   |true=>Gk pres acc i pi k K (j+1) cur
   |false=>match pi.testBit j with
    |true=>match acc[j]? with
     |some ws=>Gk pres acc i pi k K (j+1) (find k ws)
     |none=>none
    |false=>match (pres.getD j 0).testBit i with
     |true=>Gk pres acc i pi k K (j+1) cur
     |false=>none
def cdL (K:List (List Key)) (pres:List Nat) (acc:List Ws) (base:ka) (i pi:Nat):ka:=fun k=>Gk pres acc i pi k K 0 (base k)
def UH (S:Stat) (T:List Ent) (ops:List Oper) (V:ka) (id:Nat) (o:Oper):Option Ws :=
 match o.guard with
 |none=>zj S T V id o
 |some (j,want)=>match ops[j]? with
  |some oj=>match oj.dst with
   |some t=>match lit? (cq V (.tmp t)) with
    |some (.bool b)=>match b,want with
     |true,true=>zj S T V id o
     |false,false=>zj S T V id o
     |_,_=>zW S.nt o.dst JG
    |some (.tuple ⟨[]⟩)=>zW S.nt o.dst JG
    |_=>none
   |none=>none
  |none=>none
def look (S:Stat) (T:List Ent) (ops:List Oper) (pres:List Nat) (base:ka) (nb:Nat):List Oper->Nat->Ws->List (List Key)->Option (List (List Key))
 |[],_,_,K=>some K.reverse
 |o::l,i,m,K=>match UH S T ops (fun k=>match find k m with
  |none=>base k
  |some v=>some v) (nb+i) o with
  |some ws=>look S T ops pres base nb l (i+1) (ws++m) (um ws::K)
  |none=>none
def WR (S:Stat) (T:List Ent) (ops:List Oper) (pres:List Nat) (base:ka) (nb:Nat) (K:List (List Key)):List Oper->Nat->List Ws->Option (List Ws)
 |[],_,acc=>some acc
 |o::l,i,acc=>match UH S T ops (cdL K pres acc base i (pres.getD i 0)) (nb+i) o with
  |some ws=>match KT (um ws) (K.getD i []) with
   |true=>WR S T ops pres base nb K l (i+1) (acc++[ws])
   |false=>none
  |none=>none
def CK (pres:List Nat) (i:Nat) (k:Key):List (List Key)->Nat->Bool
 |[],_=>true
 |l::K,j=>match CJ k l with
  |false=>CK pres i k K (j+1)
  |true=>match (pres.getD j 0).testBit i with
   |true=>CK pres i k K (j+1)
   |false=>false
def GH (pres:List Nat) (i:Nat) (K:List (List Key)) (j:Nat):List Key->Bool
 |[]=>true
 |k::ks=>match CK pres i k K j with
  |true=>GH pres i K j ks
  |false=>false
def JM (pres:List Nat):List (List Key)->Nat->Bool
 |[],_=>true
 |ks::K,i=>match GH pres i K (i+1) ks with
  |true=>JM pres K (i+1)
  |false=>false
def uB:List Oper->Nat->Bool
 |[],_=>true
 |o::l,i=>match o.after.toList.all (fun ed=>match Region.binds .any ed with
  |true=>Nat.blt ed.on i
  |false=>true) with
  |true=>uB l (i+1)
  |false=>false
structure St where
 nb:Nat
 m:Ws
def Uz:List Ws->Ws->Ws
 |[],m=>m
 |w::l,m=>Uz l (w++m)
def region (S:Stat) (T:List Ent) (ops:List Oper) (st:St):Option St :=
 match uB ops 0 with
 |false=>none
 |true=>match look S T ops (cB [] ops) (fun k=>find k st.m) st.nb ops 0 [] [] with
  |none=>none
  |some K=>match Nat.beq K.length ops.length with
   |false=>none
   |true=>match JM (cB [] ops) K 0 with
    |false=>none
    |true=>match WR S T ops (cB [] ops) (fun k=>find k st.m) st.nb K ops 0 [] with
     |some W=>some ⟨st.nb+ops.length,Uz W st.m⟩
     |none=>none
theorem Cq {pres:List Nat}{i:Nat}{k:Key}:∀ {K:List (List Key)}{j:Nat},CK pres i k K j=true->∀ (x:Nat) (l:List Key),K[x]?=some l->CJ k l=true->(pres.getD (j+x) 0).testBit i=true
 |[],j,_,x,l,h,_=>by simp at h
 |y::K,j,h,x,l,hx,hm=>by
  unfold CK at h;split at h
  ·rename_i hy;cases x with
   |zero=>simp at hx;subst hx;rw[hm] at hy;cases hy
   |succ x =>
    have:=Cq h x l (by simpa using hx) hm;rw[show j+(x+1)=j+1+x by omega];exact this
  ·split at h
   ·rename_i hb;cases x with
    |zero=>exact hb
    |succ x =>
     have:=Cq h x l (by simpa using hx) hm;rw[show j+(x+1)=j+1+x by omega];exact this
   ·cases h
theorem EL {pres:List Nat}{i:Nat}{K:List (List Key)}{j:Nat}:∀ {ks:List Key},GH pres i K j ks=true->∀ k∈ks,CK pres i k K j=true
 |[],_,k,hk=>by simp at hk
 |x::ks,h,k,hk=>by
  unfold GH at h;split at h
  ·rename_i hx;rcases List.mem_cons.1 hk with rfl|hk
   ·exact hx
   ·exact EL h k hk
  ·cases h
theorem JJ {pres:List Nat}:∀ {K:List (List Key)}{i:Nat},JM pres K i=true->∀ (x:Nat) (ks:List Key),K[x]?=some ks->∀ k∈ks,∀ (y:Nat) (l:List Key),x<y->K[y]?=some l->CJ k l=true->(pres.getD (i+y) 0).testBit (i+x)=true
 |[],i,_,x,ks,hx,k,hk,y,l,hxy,hy,hm=>by simp at hx
 |z::K,i,h,x,ks,hx,k,hk,y,l,hxy,hy,hm=>by
  unfold JM at h;split at h
  ·rename_i hz;cases y with
   |zero=>omega
   |succ y =>
    have hy':K[y]?=some l:=by simpa using hy
    cases x with
    |zero =>
     simp at hx;subst hx;have:=Cq (EL hz k hk) y l hy' hm;rw[show i+(y+1)=i+1+y by omega];exact this
    |succ x =>
     have:=JJ h x ks (by simpa using hx) k hk y l (by omega) hy' hm;rw[show i+(y+1)=i+1+y by omega,show i+(x+1)=i+1+x by omega];exact this
  ·cases h
theorem kE:∀ {l:List Oper}{i:Nat},uB l i=true->∀ j o,l[j]?=some o->∀ ed∈o.after,Region.binds .any ed=true->ed.on<i+j
 |[],i,_,j,o,hj=>by simp at hj
 |x::l,i,h,j,o,hj=>by
  unfold uB at h;split at h
  ·rename_i hx;cases j with
   |zero =>
    simp at hj;subst hj;intro ed hed hb;have:=List.all_eq_true.1 hx ed (by simpa using hed);simp only[hb] at this;simpa using kg this
   |succ j =>
    have:=kE h j o (by simpa using hj);rw[show i+(j+1)=i+1+j by omega];exact this
  ·cases h
theorem Jy {S:Stat}{T:List Ent}{ops:List Oper}{pres:List Nat}{base:ka}{nb:Nat}{K:List (List Key)}:∀ {l:List Oper}{i:Nat}{acc W:List Ws},acc.length=i->WR S T ops pres base nb K l i acc=some W->
 (∃ r,W=acc++r)/\W.length=i+l.length/\∀ j o,l[j]?=some o->∃ ws,W[i+j]?=some ws/\UH S T ops (cdL K pres (W.take (i+j)) base (i+j) (pres.getD (i+j) 0)) (nb+(i+j)) o=some ws/\um ws=K.getD (i+j) []
 |[],i,acc,W,ha,h=>by
  simp [WR] at h;subst h;exact⟨⟨[],by simp⟩,by simp [ha],fun j o hj=>by simp at hj⟩
 |o'::l,i,acc,W,ha,h=>by
  unfold WR at h;split at h
  ·rename_i ws hws;split at h
   ·rename_i hk;obtain⟨⟨r,h1⟩,h2,h3⟩:=Jy (i:=i+1) (by simp [ha]) h;refine⟨⟨ws::r,by simp [h1]⟩,by simp [h2];omega,fun j o hj=>?_⟩;cases j with
    |zero =>
     simp at hj;subst hj;refine⟨ws,?_,?_,ZR hk⟩
     ·rw[h1,← ha];simp
     ·have:W.take (i+0)=acc:=by rw[h1,← ha];simp
      rw[this];exact hws
    |succ j =>
     have:=h3 j o (by simpa using hj);rw[show i+(j+1)=i+1+j by omega];exact this
   ·cases h
  ·cases h
section
variable {C:Ctx}{T:List Ent}{ops:Array Oper}{Q:Exit->Act->World->Prop}{base:ka}{nb:Nat}{K:List (List Key)}{W:List Ws}
def jW (W:List Ws) (l:Array Bool) (k:Key):List (List Key)->Nat->Option Kv->Option Kv
 |[],_,cur=>cur
 |ks::K,j,cur=>match CJ k ks with
  |false=>jW W l k K (j+1) cur
  |true=>match l.getD j false with
   |true=>match W[j]? with
    |some ws=>jW W l k K (j+1) (find k ws)
    |none=>jW W l k K (j+1) none
   |false=>jW W l k K (j+1) cur
def seen (K:List (List Key)) (W:List Ws) (base:ka) (l:Array Bool):ka:=fun k=>jW W l k K 0 (base k)
theorem Cv {pres:List Nat}{l:Array Bool}{i pi:Nat}{k:Key}(hi:l.getD i false=false) (hpi:∀ j,pi.testBit j=true->l.getD j false=true) (hpr:∀ j,(pres.getD j 0).testBit i=true->l.getD j false=false) {n:Nat} :
 ∀ {K:List (List Key)} {j:Nat} {c c':Option Kv} {v:Kv},(∀ v,c=some v->c'=some v)->Gk pres (W.take n) i pi k K j c=some v->jW W l k K j c'=some v
 |[],j,c,c',v,hc,h=>hc v h
 |x::K,j,c,c',v,hc,h=>by
  cases hm:CJ k x with
  |false =>
   simp only[Gk,hm] at h;simp only[jW,hm];exact Cv hi hpi hpr hc h
  |true =>
   simp only[Gk,hm] at h;simp only[jW,hm];cases hji:Nat.beq j i with
   |true =>
    simp only[hji] at h;have hji:=eq_of_beq_eq_true hji;subst hji;simp only[hi];exact Cv hi hpi hpr hc h
   |false =>
    simp only[hji] at h;cases hb:pi.testBit j with
    |true =>
     simp only[hb] at h;simp only[hpi j hb];cases hws:(W.take n)[j]? with
     |none=>simp [hws] at h
     |some ws =>
      simp only[hws] at h;have:W[j]?=some ws:=by
       rw[List.getElem?_take] at hws;split at hws
       ·exact hws
       ·cases hws
      simp only[this];exact Cv hi hpi hpr (fun _ h=>h) h
    |false =>
     simp only[hb] at h;cases hb2:(pres.getD j 0).testBit i with
     |true =>
      simp only[hb2] at h;simp only[hpr j hb2];exact Cv hi hpi hpr hc h
     |false=>rw[hb2] at h;cases h
theorem YQ {l l':Array Bool}{k:Key}:∀ {K:List (List Key)}{j:Nat}{c:Option Kv},(∀ (x:Nat) (ks:List Key),K[x]?=some ks->CJ k ks=true->l'.getD (j+x) false=l.getD (j+x) false)->jW W l' k K j c=jW W l k K j c
 |[],j,c,h=>rfl
 |y::K,j,c,h=>by
  unfold jW;have hr:∀ c,jW W l' k K (j+1) c=jW W l k K (j+1) c:=fun c=>YQ (fun x ks hx hm=>by
   have:=h (x+1) ks (by simpa using hx) hm;rw[show j+1+x=j+(x+1) by omega];exact this)
  cases hm:CJ k y with
  |false=>exact hr c
  |true =>
   have h0:=h 0 y (by simp) hm;simp only[add_zero] at h0;simp only[h0];split
   ·split<;>exact hr _
   ·exact hr c
theorem KA {l:Array Bool}{k:Key}:∀ {K:List (List Key)}{j:Nat}{c:Option Kv},(∀ (x:Nat) (ks:List Key),K[x]?=some ks->CJ k ks=true->l.getD (j+x) false=false)->jW W l k K j c=c
 |[],j,c,h=>rfl
 |y::K,j,c,h=>by
  unfold jW;have hr:jW W l k K (j+1) c=c:=KA (fun x ks hx hm=>by
   have:=h (x+1) ks (by simpa using hx) hm;rw[show j+1+x=j+(x+1) by omega];exact this)
  cases hm:CJ k y with
  |false=>exact hr
  |true =>
   have h0:=h 0 y (by simp) hm;simp only[add_zero] at h0;simp only[h0];exact hr
theorem ZB {l:Array Bool}{k:Key}{ws:Ws}:∀ {K:List (List Key)}{j i:Nat}{c:Option Kv}{ks:List Key},K[i]?=some ks->CJ k ks=true->l.getD (j+i) false=true->W[j+i]?=some ws->
 (∀ (x:Nat) (ks:List Key),i<x->K[x]?=some ks->CJ k ks=true->l.getD (j+x) false=false)->jW W l k K j c=find k ws
 |[],j,i,c,ks,h,_,_,_,_=>by simp at h
 |y::K,j,0,c,ks,h,hm,hl,hw,hx=>by
  simp at h;subst h;unfold jW;simp only[add_zero] at hl hw;simp only[hm,hl,hw];exact KA (fun x ks h1 h2=>by
   have:=hx (x+1) ks (by omega) (by simpa using h1) h2;rw[show j+1+x=j+(x+1) by omega];exact this)
 |y::K,j,i+1,c,ks,h,hm,hl,hw,hx=>by
  unfold jW;have hr:∀ c,jW W l k K (j+1) c=find k ws:=fun c=>ZB (i:=i) (by simpa using h) hm (by rw[show j+1+i=j+(i+1) by omega];exact hl) (by rw[show j+1+i=j+(i+1) by omega];exact hw) (fun x ks h0 h1 h2=>by
   have:=hx (x+1) ks (by omega) (by simpa using h1) h2;rw[show j+1+x=j+(x+1) by omega];exact this)
  split
  ·exact hr _
  ·split
   ·split<;>exact hr _
   ·exact hr _
structure Inv (C:Ctx) (K:List (List Key)) (W:List Ws) (base:ka) (nb:Nat) (pres:List Nat) (n:Nat) (l:Array Bool) (a:Act) (w:World):Prop where
 size:l.size=n
 down:∀ i,l.getD i false=true->∀ j,(pres.getD i 0).testBit j=true->l.getD j false=true
 env:∃ e,jB C e a w (seen K W base l)/\cL C e a w/\(∀ b k,e.ρ b=some k->b<nb\/∃ i,b=nb+i/\l.getD i false=true)/\(∀ s f,e.ν s=some f->s/8<nb\/∃ i,s/8=nb+i/\l.getD i false=true)
theorem ju {l:Array Bool}{i j:Nat}(hi:i<l.size):(l.setIfInBounds i true).getD j false=if j=i then true else l.getD j false:=by
 simp only[Array.getD_eq_getD_getElem?,Array.getElem?_setIfInBounds];by_cases h:j=i
 ·subst h;simp [hi]
 ·rw[if_neg (fun e=>h e.symm),if_neg h]
theorem JB {a:Act}{oj:Oper}{j:Nat}{t:Tmp}{b:Bool}(ho:ops[j]?=some oj) (hd:oj.dst=some t) (he:a.eval (.tmp t)=.bool b):yielded ops a.tmps j=some b:=by
 unfold yielded;simp only[ho,Option.bind_some,hd];simp only[Act.eval,Array.getD_eq_getD_getElem?] at he;cases h:a.tmps[t]? with
 |none=>rw[h] at he;simp [undef] at he
 |some x=>rw[h] at he;simp at he;rw[he]
theorem Inv.step (hC:C.Ok) (hT:∀ t∈T,t.Valid C) (hKl:Nat.beq K.length ops.toList.length=true) (hu:JM (cB [] ops.toList) K 0=true)
 (hck:WR C.toStat T ops.toList (cB [] ops.toList) base nb K ops.toList 0 []=some W) {l:Array Bool} {a:Act} {w:World} {i:Nat} (hI:Inv C K W base nb (cB [] ops.toList) ops.size l a w)
 (hi:l[i]?=some false) (hr:∀ o,ops[i]?=some o->∀ ed∈o.after,Region.binds .any ed=true->l.getD ed.on false=true) :
 wpOp C.P ops Q i (fun a' w'=>Inv C K W base nb (cB [] ops.toList) ops.size (l.setIfInBounds i true) a' w') a w:=by
 obtain⟨hsz,hdown,e,hk,hg,hρ,hν⟩:=hI;have hil:i<l.size:=by
  rcases lt_or_ge i l.size with h|h
  ·exact h
  ·simp [Array.getElem?_eq_none h] at hi
 have hfalse:l.getD i false=false:=by simp [Array.getD_eq_getD_getElem?,hi]
 have hio:i<ops.size:=by omega
 have ho:ops[i]?=some ops[i]:=Array.getElem?_eq_getElem hio;generalize ops[i]=o at ho;have hol:ops.toList[i]?=some o:=by simpa using ho
 obtain⟨_,hWl,hW⟩:=Jy (i:=0) rfl hck;obtain⟨ws,h1,h2,h3⟩:=hW i o hol;simp only[zero_add] at h1 h2 h3 hWl;have hKi:i<K.length:=by
  have:=eq_of_beq_eq_true hKl;have:ops.toList.length=ops.size:=by simp
  omega
 have hKi':K[i]?=some (um ws):=by
  rw[h3,List.getElem?_eq_getElem hKi];simp [List.getD,hKi]
 have hpre:∀ j,((cB [] ops.toList).getD i 0).testBit j=true->l.getD j false=true:=by
  intro j hj;obtain⟨ed,h4,h5,h6⟩:=uP ops.toList [] i o hol j (by simpa using hj);have h7:=hr o ho ed (by simpa using h4) h5;rcases h6 with rfl|h6
  ·exact h7
  ·exact hdown ed.on h7 j h6
 have hpost:∀ j,((cB [] ops.toList).getD j 0).testBit i=true->l.getD j false=false:=by
  intro j hj;cases hlj:l.getD j false with
  |false=>rfl
  |true =>
   have:=hdown j hlj i hj;rw[hfalse] at this;cases this
 have hV:jB C e a w (cdL K (cB [] ops.toList) (W.take i) base i ((cB [] ops.toList).getD i 0)) :=
  fun k v hkv=>hk k v (Cv hfalse hpre hpost (fun _ h=>h) hkv)
 have hfr:e.ρ (nb+i)=none:=by
  cases h:e.ρ (nb+i) with
  |none=>rfl
  |some k =>
   rcases hρ _ _ h with h|⟨i',h4,h5⟩
   ·omega
   ·have:i'=i:=by omega
    subst this;rw[hfalse] at h5;cases h5
 have hfn:∀ x,x/8=nb+i->e.ν x=none:=by
  intro x hx;cases h:e.ν x with
  |none=>rfl
  |some k =>
   rcases hν _ _ h with h|⟨i',h4,h5⟩
   ·omega
   ·have:i'=i:=by omega
    subst this;rw[hfalse] at h5;cases h5
 have hP:Jv C e a w (nb+i) ws (fun a' w'=>Inv C K W base nb (cB [] ops.toList) ops.size (l.setIfInBounds i true) a' w'):=by
  intro e' a' w' hx hρ' hν' hg' hnew hframe;refine⟨by simpa using hsz,?_,e',?_,hg',?_,?_⟩
  ·intro x hxl j hj;rw[ju hil] at hxl ⊢;by_cases hji:j=i
   ·rw[if_pos hji]
   ·rw[if_neg hji];by_cases hxi:x=i
    ·subst hxi;exact hpre j hj
    ·rw[if_neg hxi] at hxl;exact hdown x hxl j hj
  ·intro k v hkv;have hkv:jW W (l.setIfInBounds i true) k K 0 (base k)=some v:=hkv;cases hm:CJ k (um ws) with
   |true =>
    rw[ZB (W:=W) (K:=K) (j:=0) (i:=i) hKi' hm (by rw[zero_add,ju hil,if_pos rfl]) (by rw[zero_add];exact h1) (fun x ks hx hks hmk=>by
     rw[zero_add,ju hil,if_neg (by omega)];have:=JJ hu i (um ws) hKi' k (KD.1 hm) x ks hx hks hmk;simp only[zero_add] at this;exact hpost x this)] at hkv
    exact hnew k v (jG hkv)
   |false =>
    rw[YQ (W:=W) (l:=l) (fun x ks hx hmk=>by
     rw[ju hil];split
     ·rename_i hxi;rw[zero_add] at hxi;subst hxi;rw[hKi'] at hx;injection hx with hx;subst hx
      rw[hm] at hmk;cases hmk
     ·rfl)] at hkv
    exact hframe k v (hk k v hkv) (JF hm)
  ·intro b k hb;rcases hρ' b k hb with h|h
   ·rcases hρ b k h with h|⟨x,h4,h5⟩
    ·exact .inl h
    ·refine .inr ⟨x,h4,?_⟩;rw[ju hil];split
     ·rfl
     ·exact h5
   ·exact .inr ⟨i,h,by rw[ju hil,if_pos rfl]⟩
  ·intro s f hs;rcases hν' s f hs with h|h
   ·rcases hν s f h with h|⟨x,h4,h5⟩
    ·exact .inl h
    ·refine .inr ⟨x,h4,?_⟩;rw[ju hil];split
     ·rfl
     ·exact h5
   ·exact .inr ⟨i,h,by rw[ju hil,if_pos rfl]⟩
 unfold wpOp;simp only[ho];unfold UH at h2;split at h2
 ·rename_i hgu;have:Region.wanted o (yielded ops a.tmps)=true:=by simp [Region.wanted,hgu]
  rw[if_pos this];exact .inl (zG hC hT hV hg hfr hfn h2 hP)
 ·rename_i j want hgu;split at h2
  ·rename_i oj hoj;split at h2
   ·rename_i t ht;split at h2
    ·rename_i b hb;have hy:=JB (a:=a) (ops:=ops) (by simpa using hoj) ht (jl hV hb);split at h2
     ·have:Region.wanted o (yielded ops a.tmps)=true:=by simp [Region.wanted,hgu,hy]
      rw[if_pos this];exact .inl (zG hC hT hV hg hfr hfn h2 hP)
     ·have:Region.wanted o (yielded ops a.tmps)=true:=by simp [Region.wanted,hgu,hy]
      rw[if_pos this];exact .inl (zG hC hT hV hg hfr hfn h2 hP)
     ·rename_i n1 n2;have:¬ Region.wanted o (yielded ops a.tmps)=true:=by
       simp only[Region.wanted,hgu,hy];cases b<;>cases want<;>simp_all
      rw[if_neg this];exact hP.value hg h2 rfl
    ·rename_i hb;have he:a.eval (.tmp t)=.tuple #[]:=jl hV hb;have hy:yielded ops a.tmps j=none:=by
      unfold yielded;have hoj':ops[j]?=some oj:=by simpa using hoj
      simp only[hoj',Option.bind_some,ht];simp only[Act.eval,Array.getD_eq_getD_getElem?] at he;cases h:a.tmps[t]? with
      |none=>rfl
      |some x=>rw[h] at he;simp at he;rw[he]
     have:¬ Region.wanted o (yielded ops a.tmps)=true:=by simp [Region.wanted,hgu,hy]
     rw[if_neg this];exact hP.value hg h2 rfl
    ·cases h2
   ·cases h2
  ·cases h2
def Sat (C:Ctx) (st:St) (a:Act) (w:World):Prop :=
 ∃ e,jB C e a w (fun k=>find k st.m)/\cL C e a w/\(∀ b k,e.ρ b=some k->b<st.nb)/\(∀ s f,e.ν s=some f->s/8<st.nb)
theorem kp {k:Key}:∀ {l m:Ws},find k (l++m)=(match find k l with|some v=>some v|none=>find k m)
 |[],m=>rfl
 |(k',v)::l,m=>by
  simp only[cons_append,find];split
  ·rfl
  ·exact kp
theorem ccb {k:Key}{l:Array Bool}(W:List Ws):∀ (L:List Ws) (K:List (List Key)) (j:Nat) (m:Ws),K.length=L.length->(∀ x ws,L[x]?=some ws->W[j+x]?=some ws/\um ws=K.getD x []/\l.getD (j+x) false=true)->
 jW W l k K j (find k m)=find k (Uz L m)
 |[],[],j,m,_,_=>rfl
 |[],_::_,j,m,h,_=>by simp at h
 |_::_,[],j,m,h,_=>by simp at h
 |ws::L,ks::K,j,m,hlen,h=>by
  obtain⟨h1,h2,h3⟩:=h 0 ws (by simp);simp only[add_zero] at h1 h3;have h2:um ws=ks:=by simpa using h2
  have hr:=ccb (k:=k) (l:=l) W L K (j+1) (ws++m) (by simpa using hlen) (fun x ws' hx=>by
   obtain⟨q1,q2,q3⟩:=h (x+1) ws' (by simpa using hx);rw[show j+(x+1)=j+1+x by omega] at q1 q3;exact⟨q1,by simpa using q2,q3⟩)
  rw[kp] at hr;unfold jW;rw[← h2];cases hm:CJ k (um ws) with
  |false =>
   rw[JF hm] at hr;exact hr
  |true =>
   simp only[h3,h1];cases hf:find k ws with
   |some v=>rw[hf] at hr;exact hr
   |none =>
    exfalso;have:∀ (ws:Ws),k∈um ws->find k ws≠none:=by
     intro ws
     induction ws with
     |nil=>intro h;simp [um] at h
     |cons x ws ih =>
      obtain⟨k',v'⟩:=x;intro h;simp only[um,mem_cons] at h;simp only[find];split
      ·simp
      ·rename_i hs;rcases h with rfl|h
       ·have:=Key.same_iff.2 (rfl:k=k);rw[hs] at this;cases this
       ·exact ih h
    exact this ws (KD.1 hm) hf
theorem Inv.done {st:St}(hKl:Nat.beq K.length ops.toList.length=true)
 (hck:WR C.toStat T ops.toList (cB [] ops.toList) (fun k=>find k st.m) st.nb K ops.toList 0 []=some W) {l:Array Bool} {a:Act} {w:World}
 (hI:Inv C K W (fun k=>find k st.m) st.nb (cB [] ops.toList) ops.size l a w) (hall:∀ i,i<ops.size->l.getD i false=true):Sat C ⟨st.nb+ops.toList.length,Uz W st.m⟩ a w:=by
 obtain⟨hsz,hdown,e,hk,hg,hρ,hν⟩:=hI;obtain⟨_,hWl,hW⟩:=Jy (i:=0) rfl hck;simp only[zero_add] at hWl hW;have hlim:∀ i,l.getD i false=true->i<ops.size:=by
  intro i hi;rcases lt_or_ge i l.size with h|h
  ·omega
  ·simp [Array.getD_eq_getD_getElem?,Array.getElem?_eq_none h] at hi
 have hin:∀ (j:Nat) (ws:Ws),W[j]?=some ws->j<ops.size/\um ws=K.getD j []:=by
  intro j ws hj;have hlt:j<W.length:=by
   rcases lt_or_ge j W.length with h|h
   ·exact h
   ·simp [List.getElem?_eq_none h] at hj
  have hlt':j<ops.toList.length:=by omega
  obtain⟨ws',h4,_,h6⟩:=hW j _ (List.getElem?_eq_getElem hlt');rw[hj] at h4;injection h4 with h4;subst h4
  exact⟨by simpa using hlt',h6⟩
 refine⟨e,?_,hg,?_,?_⟩
 ·intro k v hkv;apply hk k v;have hkv:find k (Uz W st.m)=some v:=hkv;rw[← ccb (l:=l) W W K 0 st.m (by rw[hWl];exact eq_of_beq_eq_true hKl) (fun x ws hx=>by
   obtain⟨q1,q2⟩:=hin x ws hx;simp only[zero_add];exact⟨hx,q2,hall x q1⟩)] at hkv
  exact hkv
 ·intro b k hb;rcases hρ b k hb with h|⟨i,h4,h5⟩
  ·exact lt_of_lt_of_le h (Nat.le_add_right _ _)
  ·have:=hlim i h5;show b<st.nb+ops.toList.length;simp;omega
 ·intro s f hs;rcases hν s f hs with h|⟨i,h4,h5⟩
  ·exact lt_of_lt_of_le h (Nat.le_add_right _ _)
  ·have:=hlim i h5;show s/8<st.nb+ops.toList.length;simp;omega
end
end Sym
end Go.Proofs.YtokieocpdcngcaaGreatDoor
