/- Part 21. -/
import Derived.Test.YtdopipkmcnkdjaaGreatDoorE5
set_option linter.all false

namespace Go.Proofs.YtdopipkmcnkdjaaGreatDoor
open Go Go.RowKit Go.Proofs
namespace Sym
inductive AC where
 |lit (v:Value)
 |sym (s j:Nat)
 |ptr (b o:Nat)
 |clo (f:FuncId) (bs:List Nat)
 |slc (b o n c:Nat)
inductive A1 where
 |one (c:AC)
 |agg (cs:List AC)
inductive AV where
 |val (a:A1)
 |tup (l:List A1)
structure Env where
 ρ:Nat->Option Nat
 ν:Nat->Option (Nat->Value)
structure Ext (e e':Env):Prop where
 ρ:∀ b k,e.ρ b=some k->e'.ρ b=some k
 ν:∀ s f,e.ν s=some f->e'.ν s=some f
theorem Ext.refl (e:Env):Ext e e:=⟨fun _ _ h=>h,fun _ _ h=>h⟩
theorem Ext.trans {a b c:Env}(h:Ext a b) (k:Ext b c):Ext a c:=⟨fun x y z=>k.ρ x y (h.ρ x y z),fun x y z=>k.ν x y (h.ν x y z)⟩
def Env.blocks (e:Env):List Nat->Option (List Nat)
 |[]=>some []
 |b::bs=>match e.ρ b,e.blocks bs with
  |some k,some ks=>some (k::ks)
  |_,_=>none
theorem Env.blocks_ext {e e':Env}(h:Ext e e'):∀ (bs:List Nat) (ks:List Nat),e.blocks bs=some ks->e'.blocks bs=some ks
 |[],ks,hk=>hk
 |b::bs,ks,hk=>by
  unfold Env.blocks at hk ⊢;cases h1:e.ρ b with
  |none=>simp [h1] at hk
  |some k =>
   cases h2:e.blocks bs with
   |none=>simp [h1,h2] at hk
   |some l =>
    rw[h.ρ b k h1,blocks_ext h bs l h2];rw[h1,h2] at hk;exact hk
def AC.is (e:Env):AC->Value->Prop
 |.lit v',v=>v=v'
 |.sym s j,v=>∃ f,e.ν s=some f/\v=f j
 |.ptr b o,v=>∃ k,e.ρ b=some k/\v=.pointer (some ⟨k,o,none⟩)
 |.clo f bs,v=>∃ ks,e.blocks bs=some ks/\v=.func (.func f) #[] (ks.map (fun k=>Value.pointer (some ⟨k,0,none⟩))).toArray
 |.slc b o n c,v=>∃ k,e.ρ b=some k/\v=.slice (some ⟨k,o,none⟩) n c
theorem AC.is.ext {e e':Env}(h:Ext e e') {c:AC}{v:Value}(hc:c.is e v):c.is e' v:=by
 cases c with
 |lit=>exact hc
 |sym s j=>obtain⟨f,h1,h2⟩:=hc;exact⟨f,h.ν s f h1,h2⟩
 |ptr b o=>obtain⟨k,h1,h2⟩:=hc;exact⟨k,h.ρ b k h1,h2⟩
 |clo f bs=>obtain⟨k,h1,h2⟩:=hc;exact⟨k,Env.blocks_ext h bs k h1,h2⟩
 |slc b o n c=>obtain⟨k,h1,h2⟩:=hc;exact⟨k,h.ρ b k h1,h2⟩
def cZ (e:Env):List AC->List Value->Prop
 |[],vs=>vs=[]
 |c::cs,vs=>∃ v ws,vs=v::ws/\c.is e v/\cZ e cs ws
theorem cZ.ext {e e':Env}(h:Ext e e'):∀ {cs:List AC}{vs:List Value},cZ e cs vs->cZ e' cs vs
 |[],_,hc=>hc
 |c::cs,_,⟨v,ws,h1,h2,h3⟩=>⟨v,ws,h1,h2.ext h,cZ.ext h h3⟩
theorem cZ.length {e:Env}:∀ {cs:List AC}{vs:List Value},cZ e cs vs->vs.length=cs.length
 |[],_,hc=>by rw[hc];rfl
 |c::cs,_,⟨v,ws,h1,h2,h3⟩=>by rw[h1];simp [h3.length]
theorem cZ.get {e:Env}:∀ {cs:List AC}{vs:List Value},cZ e cs vs->∀ (i:Nat) (c:AC),cs[i]?=some c->∃ v,vs[i]?=some v/\c.is e v
 |[],_,_,i,c,h=>by simp at h
 |c::cs,_,⟨v,ws,h1,h2,h3⟩,0,d,h=>by
  simp at h;subst h;subst h1;exact⟨v,rfl,h2⟩
 |c::cs,_,⟨v,ws,h1,h2,h3⟩,i+1,d,h=>by
  simp at h;subst h1;simpa using h3.get i d h
theorem cZ.append {e:Env}:∀ {cs ds:List AC}{vs ws:List Value},cZ e cs vs->cZ e ds ws->cZ e (cs++ds) (vs++ws)
 |[],_,_,_,h,k=>by rw[h];exact k
 |c::cs,_,_,_,⟨v,ws,h1,h2,h3⟩,k=>⟨v,_,by rw[h1];rfl,h2,h3.append k⟩
def A1.is (e:Env):A1->Value->Prop
 |.one c,v=>c.is e v
 |.agg cs,v=>∃ vs,cZ e cs vs/\v=.agg vs.toArray
theorem A1.is.ext {e e':Env}(h:Ext e e') {c:A1}{v:Value}(hc:c.is e v):c.is e' v:=by
 cases c with
 |one c=>exact AC.is.ext h hc
 |agg cs=>obtain⟨vs,h1,h2⟩:=hc;exact⟨vs,h1.ext h,h2⟩
def up (e:Env):List A1->List Value->Prop
 |[],vs=>vs=[]
 |c::cs,vs=>∃ v ws,vs=v::ws/\c.is e v/\up e cs ws
theorem up.ext {e e':Env}(h:Ext e e'):∀ {cs:List A1}{vs:List Value},up e cs vs->up e' cs vs
 |[],_,hc=>hc
 |c::cs,_,⟨v,ws,h1,h2,h3⟩=>⟨v,ws,h1,h2.ext h,up.ext h h3⟩
theorem up.get {e:Env}:∀ {cs:List A1}{vs:List Value},up e cs vs->∀ (i:Nat) (c:A1),cs[i]?=some c->∃ v,vs[i]?=some v/\c.is e v
 |[],_,_,i,c,h=>by simp at h
 |c::cs,_,⟨v,ws,h1,h2,h3⟩,0,d,h=>by
  simp at h;subst h;subst h1;exact⟨v,rfl,h2⟩
 |c::cs,_,⟨v,ws,h1,h2,h3⟩,i+1,d,h=>by
  simp at h;subst h1;simpa using h3.get i d h
def AV.is (e:Env):AV->Value->Prop
 |.val a,v=>a.is e v
 |.tup l,v=>∃ vs,up e l vs/\v=.tuple vs.toArray
theorem AV.is.ext {e e':Env}(h:Ext e e') {c:AV}{v:Value}(hc:c.is e v):c.is e' v:=by
 cases c with
 |val c=>exact A1.is.ext h hc
 |tup cs=>obtain⟨vs,h1,h2⟩:=hc;exact⟨vs,h1.ext h,h2⟩
inductive Key where
 |slot (t:Nat)
 |cell (b o:Nat)
 |box (b:Nat)
 |live (s:Nat)
 deriving DecidableEq
def Key.same:Key->Key->Bool
 |.slot a,.slot b=>Nat.beq a b
 |.cell a c,.cell b d=>match Nat.beq a b with|true=>Nat.beq c d|false=>false
 |.box a,.box b=>Nat.beq a b
 |.live a,.live b=>Nat.beq a b
 |_,_=>false
theorem Key.same_iff {a b:Key}:a.same b=true↔a=b:=by
 cases a<;>cases b<;>simp [Key.same];split
 ·simp_all
 ·rename_i h;constructor
  ·intro h';cases h'
  ·rintro⟨rfl,_⟩;simp at h
inductive Kv where
 |av (a:AV)
 |ac (c:AC)
 |box (t n:Nat)
 |cls (c:Nat)
structure Stat where
 P:Program
 csz:List Nat
 numc:List Bool
 okT:List Nat
 nt:Nat
structure Ctx extends Stat where
 E:Nat->World->(Nat->Value)->Prop
 w0:World
 /-- Blocks that are no boxes: lists that grow; what a growth does that stays in its block. -/
 L:List Nat
 G:World->World->Prop
def noSl:Value->Bool
 |.slice ..=>false
 |_=>true
def cgE (P:Program) (t n:Nat):Bool :=
 match P.info? t with
 |some i=>Nat.beq n i.size
 |none=>false
structure Off (L:List Nat) (w w':World):Prop where
 os:w'.os=w.os
 tape:w'.tape=w.tape
 output:w'.output=w.output
 size:w'.heap.size=w.heap.size
 block:∀ k,k ∉ L->w'.heap[k]?=w.heap[k]?
structure Ctx.Ok (C:Ctx):Prop where
 below:∀ c w w' f,Below w.heap.size w w'->C.E c w f->C.E c w' f
 only:∀ c w w' R f cs t,C.w0.heap.size<=R->R ∉ C.L->w.heap[R]?=some (.cells cs t (0,0))->t∈C.okT->(∀ x,cs[0]?=some x->noSl x=true)->cgE C.P t cs.size=true->jJ R w w'->C.E c w f->C.E c w' f
 num:∀ c w f,C.numc.getD c false=true->C.E c w f->noSl (f 0)=true
 cell:∀ c w f j,C.E c w f->j<C.csz.getD c 0->(f j).oneCell'=true
 mixed:C.P.follows .mixedOrders=true
 grow:∀ c w w' f,C.G w w'->C.E c w f->C.E c w' f
 off:∀ w w',C.G w w'->Off C.L w w'
def kF (C:Ctx) (e:Env) (a:Act) (w:World):Key->Kv->Prop
 |.slot t,.av x=>∃ v,a.tmps[t]?=some v/\x.is e v
 |.cell b o,.ac c=>∃ k cs ty v,e.ρ b=some k/\w.heap[k]?=some (.cells cs ty (0,0))/\cs[o]?=some v/\c.is e v
 |.box b,.box ty n=>∃ k cs,e.ρ b=some k/\w.heap[k]?=some (.cells cs ty (0,0))/\cs.size=n
 |.live s,.cls c=>∃ f,e.ν s=some f/\C.E c w f
 |_,_=>False
structure jr (C:Ctx) (e:Env) (a:Act) (w:World):Prop where
 below:Below C.w0.heap.size C.w0 w
 defers:a.defers=[]
 size:a.tmps.size=C.nt
 inj:∀ b b' k,e.ρ b=some k->e.ρ b'=some k->b=b'
 own:∀ b k,e.ρ b=some k->(C.w0.heap.size<=k/\k ∉ C.L)/\k<w.heap.size
 lim:∀ k∈C.L,C.w0.heap.size<=k/\k<w.heap.size
theorem kF.below {C:Ctx}(hC:C.Ok) {e:Env}{a:Act}{w w':World}(hg:jr C e a w) (hb:Below w.heap.size w w') {k:Key}{v:Kv}(h:kF C e a w k v):kF C e a w' k v:=by
 cases k<;>cases v<;>try exact h
 ·obtain⟨k,cs,ty,x,h1,h2,h3,h4⟩:=h;exact⟨k,cs,ty,x,h1,(hb.block k (hg.own _ _ h1).2).trans h2,h3,h4⟩
 ·obtain⟨k,cs,h1,h2,h3⟩:=h;exact⟨k,cs,h1,(hb.block k (hg.own _ _ h1).2).trans h2,h3⟩
 ·obtain⟨f,h1,h2⟩:=h;exact⟨f,h1,hC.below _ _ _ _ hb h2⟩
theorem kF.ext {C:Ctx}{e e':Env}{a:Act}{w:World}(hx:Ext e e') {k:Key}{v:Kv}(h:kF C e a w k v):kF C e' a w k v:=by
 cases k<;>cases v<;>try exact h
 ·obtain⟨x,h1,h2⟩:=h;exact⟨x,h1,h2.ext hx⟩
 ·obtain⟨k,cs,ty,x,h1,h2,h3,h4⟩:=h;exact⟨k,cs,ty,x,hx.ρ _ _ h1,h2,h3,h4.ext hx⟩
 ·obtain⟨k,cs,h1,h2,h3⟩:=h;exact⟨k,cs,hx.ρ _ _ h1,h2,h3⟩
 ·obtain⟨f,h1,h2⟩:=h;exact⟨f,hx.ν _ _ h1,h2⟩
theorem kF.put {C:Ctx}{e:Env}{a:Act}{w:World}{dst:Option Tmp}{x:Value}{k:Key}{v:Kv}(hk:∀ d,dst=some d->k≠.slot d) (h:kF C e a w k v):kF C e (a.put dst x) w k v:=by
 cases k<;>cases v<;>try exact h
 obtain⟨y,h1,h2⟩:=h;refine⟨y,?_,h2⟩;cases dst with
 |none=>exact h1
 |some d =>
  rename_i t _;have:d≠t:=fun e=>hk d rfl (by rw[e]);simp [Act.put,this,h1]
theorem jr.later {C:Ctx}{e:Env}{a:Act}{w w':World}(hg:jr C e a w) (hb:Below w.heap.size w w'):jr C e a w' :=
 ⟨hg.below.trans ⟨hb.os,hb.tape,hb.output,hb.size,fun i hi=>hb.block i (cI hi hg.below.size)⟩,hg.defers,hg.size,hg.inj,fun b k h=>⟨(hg.own b k h).1,cI (hg.own b k h).2 hb.size⟩,fun k h=>⟨(hg.lim k h).1,cI (hg.lim k h).2 hb.size⟩⟩
theorem uI (a:Act) (d:Option Tmp) (v:Value):(a.put d v).tmps.size=a.tmps.size:=by cases d<;>simp [Act.put]
theorem ue (a:Act) (d:Option Tmp) (v:Value):(a.put d v).defers=a.defers:=by cases d<;>rfl
theorem jr.put {C:Ctx}{e:Env}{a:Act}{w:World}(hg:jr C e a w) (d:Option Tmp) (v:Value):jr C e (a.put d v) w :=
 ⟨hg.below,(ue a d v).trans hg.defers,(uI a d v).trans hg.size,hg.inj,hg.own,hg.lim⟩
theorem jr.off {C:Ctx}{e:Env}{a:Act}{w w':World}(hg:jr C e a w) (ho:Off C.L w w'):jr C e a w' :=
 ⟨hg.below.trans ⟨ho.os,ho.tape,ho.output,Nat.le_of_eq ho.size.symm,fun i hi=>ho.block i (fun hm=>Nat.lt_irrefl _ (cI hi (hg.lim i hm).1))⟩,hg.defers,hg.size,hg.inj,fun b k h=>⟨(hg.own b k h).1,by rw[ho.size];exact(hg.own b k h).2⟩,fun k h=>⟨(hg.lim k h).1,by rw[ho.size];exact(hg.lim k h).2⟩⟩
theorem kF.grow {C:Ctx}(hC:C.Ok) {e:Env}{a:Act}{w w':World}(hg:jr C e a w) (hb:C.G w w') {k:Key}{v:Kv}(h:kF C e a w k v):kF C e a w' k v:=by
 have ho:=hC.off _ _ hb;cases k<;>cases v<;>try exact h
 ·obtain⟨k,cs,ty,x,h1,h2,h3,h4⟩:=h;exact⟨k,cs,ty,x,h1,(ho.block k (hg.own _ _ h1).1.2).trans h2,h3,h4⟩
 ·obtain⟨k,cs,h1,h2,h3⟩:=h;exact⟨k,cs,h1,(ho.block k (hg.own _ _ h1).1.2).trans h2,h3⟩
 ·obtain⟨f,h1,h2⟩:=h;exact⟨f,h1,hC.grow _ _ _ _ hb h2⟩
def Step (C:Ctx):Bool->World->World->Prop
 |true,w,w'=>Below w.heap.size w w'\/C.G w w'
 |false,w,w'=>Below w.heap.size w w'
theorem Step.some {C:Ctx}{b:Bool}{w w':World}(h:Step C b w w'):Below w.heap.size w w'\/C.G w w':=by
 cases b
 ·exact .inl h
 ·exact h
theorem jr.step {C:Ctx}(hC:C.Ok) {e:Env}{a:Act}{w w':World}(hg:jr C e a w) (hb:Below w.heap.size w w'\/C.G w w'):jr C e a w':=hb.elim hg.later (fun h=>hg.off (hC.off _ _ h))
theorem kF.step {C:Ctx}(hC:C.Ok) {e:Env}{a:Act}{w w':World}(hg:jr C e a w) (hb:Below w.heap.size w w'\/C.G w w') {k:Key}{v:Kv}(h:kF C e a w k v):kF C e a w' k v:=hb.elim (fun hb=>h.below hC hg hb) (fun hb=>h.grow hC hg hb)
theorem yq {a b:Nat}(h:Nat.blt a b=true):a<b:=by simpa using h
abbrev uW:=Key->Option Kv
def ub (C:Ctx) (e:Env) (a:Act) (w:World) (V:uW):Prop:=∀ k v,V k=some v->kF C e a w k v
theorem kF.at {C:Ctx}{e:Env}{a:Act}{w:World}{b o k:Nat}{c:AC}(h:kF C e a w (.cell b o) (.ac c)) (hk:e.ρ b=some k) :
 ∃ v,w.cell? ⟨k,o,none⟩=some v/\c.is e v:=by
 obtain⟨k',cs,ty,v,h1,h2,h3,h4⟩:=h;rw[hk] at h1;injection h1 with h1
 subst h1;exact⟨v,by simp [World.cell?,h2,h3],h4⟩
def cG (V:uW):Operand->Option AV
 |.tmp t=>match V (.slot t) with
  |some (.av x)=>some x
  |_=>none
 |.const (.agg cs)=>some (.val (.agg (cs.toList.map .lit)))
 |.const v=>some (.val (.one (.lit v)))
 |.global g=>some (.val (.one (.lit (.pointer (some ⟨g,0,none⟩)))))
 |.func f=>some (.val (.one (.lit (.func (.func f) #[] #[]))))
theorem yZ (e:Env):∀ (vs:List Value),cZ e (vs.map .lit) vs
 |[]=>rfl
 |v::vs=>⟨v,vs,rfl,rfl,yZ e vs⟩
theorem cV {C:Ctx}{e:Env}{a:Act}{w:World}{V:uW}(hV:ub C e a w V) {x:Operand}{av:AV}(h:cG V x=some av):av.is e (a.eval x):=by
 unfold cG at h;split at h
 ·rename_i t;split at h
  ·rename_i x hx;injection h with h;subst h
   obtain⟨v,h1,h2⟩:=hV _ _ hx;rw[Act.eval,uX,h1];exact h2
  ·cases h
 ·injection h with h;subst h
  exact⟨_,yZ e _,by simp [Act.eval]⟩
 ·injection h with h;subst h;exact rfl
 ·injection h with h;subst h;exact rfl
 ·injection h with h;subst h;exact rfl
def lit?:Option AV->Option Value
 |some (.val (.one (.lit v)))=>some v
 |_=>none
theorem kD {C:Ctx}{e:Env}{a:Act}{w:World}{V:uW}(hV:ub C e a w V) {x:Operand}{v:Value}(h:lit? (cG V x)=some v):a.eval x=v:=by
 unfold lit? at h;split at h
 ·rename_i hx;injection h with h;subst h
  exact cV hV hx
 ·cases h
def ptr?:Option AV->Option (Nat×Nat)
 |some (.val (.one (.ptr b o)))=>some (b,o)
 |_=>none
theorem GV {C:Ctx}{e:Env}{a:Act}{w:World}{V:uW}(hV:ub C e a w V) {x:Operand}{b o:Nat}(h:ptr? (cG V x)=some (b,o)) :
 ∃ k,e.ρ b=some k/\a.eval x=.pointer (some ⟨k,o,none⟩):=by
 unfold ptr? at h;split at h
 ·rename_i hx;injection h with h;injection h with h1 h2;subst h1;subst h2
  exact cV hV hx
 ·cases h
def ev {α:Type}(P:Program):Sem α->Option α
 |.pure a=>some a
 |.program k=>ev P (k P)
 |.mark _ k=>ev P k
 |_=>none
theorem KR {α:Type}{P:Program}{s:Sem α}{v:α}(h:ev P s=some v) (w:World):s.run P w=.ok v w:=by
 induction s with
 |pure a=>simp [ev] at h;subst h;rfl
 |program k ih=>exact ih P h
 |mark m k ih=>exact ih h
 |_=>simp [ev] at h
def Gg:TypeDesc->Bool
 |.struct _=>true
 |.array _ _=>true
 |_=>false
theorem uu {P:Program}{t:TypeId}{d:TypeDesc}(h:P.underlying t=some d) (w:World):(isAgg t).run P w=.ok (Gg d) w:=by
 cases d<;>simp [isAgg,underlying,h,Gg]
theorem jZ {P:Program}{t:TypeId}{i:TypeInfo}(h:P.info? t=some i) (w:World):(sizeOf t).run P w=.ok i.size w:=by
 simp [sizeOf,typeInfo,h]
def CP (V:uW) (b:Nat):Nat->Nat->Option (List AC)
 |_,0=>some []
 |o,n+1=>match V (.cell b o) with
  |some (.ac c)=>match CP V b (o+1) n with
   |some l=>some (c::l)
   |none=>none
  |_=>none
theorem Ch {C:Ctx}{e:Env}{a:Act}{w:World}{V:uW}(hV:ub C e a w V) {b k:Nat}(hk:e.ρ b=some k):∀ (n o:Nat) (cs:List AC),CP V b o n=some cs->
 cs.length=n/\∃ vs,cZ e cs vs/\∀ j v,vs[j]?=some v->w.cell? ⟨k,o+j,none⟩=some v
 |0,o,cs,h=>by
  simp [CP] at h;subst h;exact⟨rfl,[],rfl,fun j v h=>by simp at h⟩
 |n+1,o,cs,h=>by
  unfold CP at h;split at h
  ·rename_i c hc;split at h
   ·rename_i l hl;injection h with h;subst h
    obtain⟨h1,vs,h2,h3⟩:=Ch hV hk n (o+1) l hl;obtain⟨v,h4,h5⟩:=(hV _ _ hc).at hk;refine⟨by simp [h1],v::vs,⟨v,vs,rfl,h5,h2⟩,fun j x hx=>?_⟩;cases j with
    |zero=>simp at hx;subst hx;exact h4
    |succ j =>
     have:=h3 j x (by simpa using hx);rw[show o+1+j=o+(j+1) by omega] at this;exact this
   ·cases h
  ·cases h
def Ym (P:Program) (V:uW) (t:TypeId) (b o:Nat):Option A1 :=
 match P.underlying t with
 |none=>none
 |some d=>match Gg d with
  |true=>match P.info? t with
   |some i=>match CP V b o i.size with
    |some cs=>some (.agg cs)
    |none=>none
   |none=>none
  |false=>match V (.cell b o) with
   |some (.ac c)=>some (.one c)
   |_=>none
theorem jL (k o n:Nat):(⟨k,o,none⟩:Addr).add n=⟨k,o+n,none⟩:=by
 unfold Addr.add;split
 ·subst n;rfl
 ·rfl
theorem JT {C:Ctx}{e:Env}{a:Act}{w:World}{V:uW}(hV:ub C e a w V) {b k o:Nat}(hk:e.ρ b=some k) {t:TypeId}{x:A1}(h:Ym C.P V t b o=some x) :
 ∃ v,(loadVar t ⟨k,o,none⟩).run C.P w=.ok v w/\x.is e v:=by
 unfold Ym at h;split at h
 ·cases h
 ·rename_i d hd;split at h
  ·rename_i ha;split at h
   ·rename_i i hi;split at h
    ·rename_i cs hcs;injection h with h;subst h
     obtain⟨h1,vs,h2,h3⟩:=Ch hV hk _ _ _ hcs;refine⟨.agg vs.toArray,?_,vs,h2,rfl⟩;have hl:vs.length=i.size:=h2.length.trans h1;have:=cfu (P:=C.P) (w:=w) ⟨k,o,none⟩ vs (fun j v hj=>by rw[jL];exact h3 j v hj);rw[hl] at this;simp [loadVar,uu hd,ha,jZ hi,this]
    ·cases h
   ·cases h
  ·rename_i ha;split at h
   ·rename_i c hc;injection h with h;subst h
    obtain⟨v,h4,h5⟩:=(hV _ _ hc).at hk;refine⟨v,?_,h5⟩;simp [loadVar,uu hd,ha,h4]
   ·cases h
abbrev Ws:=List (Key×Kv)
def find (k:Key):Ws->Option Kv
 |[]=>none
 |(k',v)::l=>match k'.same k with
  |true=>some v
  |false=>find k l
theorem cen {k:Key}:∀ {l:Ws},find k l=none->∀ v,(k,v) ∉ l
 |[],_,v,hm=>by simp at hm
 |(k',v')::l,h,v,hm=>by
  unfold find at h;split at h
  ·cases h
  ·rename_i hs;simp only[uQ,cr] at hm;rcases hm with⟨h1,_⟩|hm
   ·subst h1;have:=Key.same_iff.2 (rfl:k=k);rw[hs] at this;cases this
   ·exact cen h v hm
theorem uY {k:Key}{v:Kv}:∀ {l:Ws},find k l=some v->(k,v)∈l
 |[],h=>by simp [find] at h
 |(k',v')::l,h=>by
  unfold find at h;split at h
  ·rename_i hs;injection h with h;subst h
   rw[Key.same_iff.1 hs];simp
  ·exact uL _ (uY h)
theorem zL {k:Key}:∀ {l m:Ws},find k (l++m)=none->find k l=none/\find k m=none
 |[],m,h=>⟨rfl,h⟩
 |(k',v')::l,m,h=>by
  simp only[JB,find] at h ⊢;split at h
  ·cases h
  ·exact zL h
def YA (C:Ctx) (e:Env) (a:Act) (w:World) (id:Nat) (ws:Ws) (K:Act->World->Prop):Prop :=
 ∀ e' a' w',Ext e e'->(∀ b k,e'.ρ b=some k->e.ρ b=some k\/b=id)->(∀ s f,e'.ν s=some f->e.ν s=some f\/s/8=id)->jr C e' a' w'->
  (∀ k v,(k,v)∈ws->kF C e' a' w' k v)->(∀ k v,kF C e a w k v->find k ws=none->kF C e' a' w' k v)->K a' w'
def KU:AV:=.val (.one (.lit undef))
def GO (nt:Nat) (dst:Option Tmp) (x:AV):Option Ws :=
 match dst with
 |none=>some []
 |some d=>match Nat.blt d nt with
  |true=>some [(.slot d,.av x)]
  |false=>none
theorem WT {nt:Nat}{dst:Option Tmp}{x:AV}{ws:Ws}(h:GO nt dst x=some ws) {k:Key}(hk:find k ws=none):∀ d,dst=some d->k≠.slot d:=by
 intro d hd e;subst hd;subst e;unfold GO at h;simp only at h;split at h
 ·injection h with h;subst h
  exact cen hk (.av x) (by simp)
 ·cases h
theorem KG {C:Ctx}{e:Env}{a:Act}{w:World}{dst:Option Tmp}{x:AV}{v:Value}{ws:Ws}(hg:jr C e a w) (h:GO C.nt dst x=some ws) (hx:x.is e v) :
 ∀ k y,(k,y)∈ws->kF C e (a.put dst v) w k y:=by
 intro k y hm;unfold GO at h;split at h
 ·injection h with h;subst h;simp at hm
 ·rename_i d;split at h
  ·rename_i hd;injection h with h;subst h
   simp only[uQ,cr,Zr,or_false] at hm;obtain⟨rfl,rfl⟩:=hm;refine⟨v,?_,hx⟩;have:d<a.tmps.size:=by rw[hg.size];exact yq hd
   simp [Act.put,this]
  ·cases h
section
variable {C:Ctx}{e:Env}{a:Act}{w:World}{id:Nat}{ws:Ws}{K:Act->World->Prop}
theorem YA.value (h:YA C e a w id ws K) (hg:jr C e a w) {dst:Option Tmp}{x:AV}{v:Value}(hp:GO C.nt dst x=some ws) (hx:x.is e v):K (a.put dst v) w :=
 h e _ w (Ext.refl e) (fun _ _=>.inl) (fun _ _=>.inl) (hg.put dst v) (KG hg hp hx) (fun k _ hk hn=>hk.put (WT hp hn))
def Kz (b:Nat):Nat->List AC->Ws
 |_,[]=>[]
 |o,c::cs=>(.cell b o,.ac c)::Kz b (o+1) cs
theorem KO {b:Nat}{k:Key}{v:Kv}:∀ {cs:List AC}{o:Nat},(k,v)∈Kz b o cs->∃ j c,cs[j]?=some c/\k=.cell b (o+j)/\v=.ac c
 |[],o,h=>by simp [Kz] at h
 |c::cs,o,h=>by
  simp only[Kz,uQ,cr] at h;rcases h with⟨rfl,rfl⟩|h
  ·exact⟨0,c,rfl,rfl,rfl⟩
  ·obtain⟨j,d,h1,h2,h3⟩:=KO h;exact⟨j+1,d,by simpa using h1,by rw[h2];congr 1;omega,h3⟩
theorem caS {b o':Nat}:∀ {cs:List AC}{o:Nat},find (.cell b o') (Kz b o cs)=none->o'<o\/o+cs.length<=o'
 |[],o,_=>by simp;omega
 |c::cs,o,h=>by
  simp only[Kz,find] at h;split at h
  ·cases h
  ·rename_i hs;have h1:=caS h;have h2:¬ o=o':=by
    rintro rfl;have:=Key.same_iff.2 (rfl:Key.cell b o=.cell b o);rw[hs] at this;cases this
   simp only[uP];omega
def cbw (nt id:Nat) (dst:Option Tmp) (t:Nat) (cs:List AC) (p:AC):Option Ws :=
 match GO nt dst (.val (.one p)) with
 |some l=>some (l++(.box id,.box t cs.length)::Kz id 0 cs)
 |none=>none
def cgt (nt id:Nat) (dst:Option Tmp) (t:Nat) (cs:List AC):Option Ws:=cbw nt id dst t cs (.ptr id 0)
theorem cZ.atA {e:Env}{cs:List AC}{vs:List Value}(h:cZ e cs vs) {i:Nat}{c:AC}(hc:cs[i]?=some c):∃ v,vs.toArray[i]?=some v/\c.is e v:=by
 obtain⟨v,h1,h2⟩:=h.get i c hc;exact⟨v,by simpa using h1,h2⟩
theorem YA.newV (h:YA C e a w id ws K) (hC:C.Ok) (hg:jr C e a w) (hf:e.ρ id=none) {dst:Option Tmp}{t:Nat}{cs:List AC}{vs:List Value}{p:AC}{pv:Value}(hpv:∀ e':Env,e'.ρ id=some w.heap.size->p.is e' pv) (hp:cbw C.nt id dst t cs p=some ws) (hx:cZ e cs vs) :
 K (a.put dst pv) { w with heap:=w.heap.push (.cells vs.toArray t) }:=by
 unfold cbw at hp;split at hp
 ·rename_i l hl;injection hp with hp;subst hp
  let e':Env:={ e with ρ:=fun b=>if b=id then some w.heap.size else e.ρ b }
  let w':World:={ w with heap:=w.heap.push (.cells vs.toArray t) }
  have hid:e'.ρ id=some w.heap.size:=by simp [e']
  have hx':Ext e e':=⟨fun b k hb=>by
   show (if b=id then some w.heap.size else e.ρ b)=some k;rw[cg (fun e0=>by rw[e0,hf] at hb;cases hb),hb],fun _ _ h=>h⟩
  have hold:∀ b k,e'.ρ b=some k->e.ρ b=some k\/(b=id/\k=w.heap.size):=by
   intro b k hb;by_cases hbi:b=id
   ·right;refine⟨hbi,?_⟩;rw[hbi,hid] at hb;injection hb with hb
    exact hb.symm
   ·left;have:(if b=id then some w.heap.size else e.ρ b)=some k:=hb
    rwa [cg hbi] at this
  have hb:Below w.heap.size w w':=⟨rfl,rfl,rfl,by simp [w'],fun k hk=>by
   show (w.heap.push _)[k]?=_;rw[chk,cg (by omega)]⟩
  have hnew:w'.heap[w.heap.size]?=some (.cells vs.toArray t (0,0)):=by
   show (w.heap.push _)[w.heap.size]?=_;simp
  have hg1:=hg.later hb;have hg':jr C e' a w':=⟨hg1.below,hg1.defers,hg1.size,fun b b' k h1 h2=>by
   rcases hold b k h1 with h3|⟨h3,h4⟩<;>rcases hold b' k h2 with h5|⟨h5,h6⟩
   ·exact hg.inj b b' k h3 h5
   ·have:=(hg.own b k h3).2;omega
   ·have:=(hg.own b' k h5).2;omega
   ·rw[h3,h5],fun b k h1=>by
   rcases hold b k h1 with h3|⟨h3,h4⟩
   ·exact hg1.own b k h3
   ·rw[h4];exact⟨⟨hg.below.size,fun hm=>Nat.lt_irrefl _ (hg.lim _ hm).2⟩,by simp [w']⟩,hg1.lim⟩
  have hptr:(AV.val (.one p)).is e' pv:=hpv e' hid;refine h e' _ w' hx' (fun b k hb=>(hold b k hb).imp (fun h=>h) fun h=>h.1) (fun _ _=>.inl) (hg'.put dst _) ?_ ?_
  ·intro k v hm;rcases List.mem_append.1 hm with hm|hm
   ·exact KG hg' hl hptr k v hm
   ·simp only[uQ,cr] at hm;rcases hm with⟨rfl,rfl⟩|hm
    ·exact⟨_,vs.toArray,hid,hnew,by simp [hx.length]⟩
    ·obtain⟨j,c,h1,rfl,rfl⟩:=KO hm;obtain⟨v,h2,h3⟩:=hx.atA h1;exact⟨_,_,_,v,hid,hnew,by simpa using h2,h3.ext hx'⟩
  ·intro k v hk hn;exact((hk.below hC hg hb).ext hx').put (WT hl (zL hn).1)
 ·cases hp
theorem YA.new (h:YA C e a w id ws K) (hC:C.Ok) (hg:jr C e a w) (hf:e.ρ id=none) {dst:Option Tmp}{t:Nat}{cs:List AC}{vs:List Value}(hp:cgt C.nt id dst t cs=some ws) (hx:cZ e cs vs) :
 K (a.put dst (.pointer (some ⟨w.heap.size,0,none⟩))) { w with heap:=w.heap.push (.cells vs.toArray t) } :=
 h.newV hC hg hf (p:=.ptr id 0) (fun e' he=>⟨_,he,rfl⟩) hp hx
theorem CB (P:Program) (k t:Nat):∀ (vs:List Value) (i o:Nat) (w:World) (cs:Array Value),w.heap[k]?=some (.cells cs t (0,0))->(∀ v∈vs,v.oneCell'=true)->o+i+vs.length<=cs.size->
 ∃ w' cs',(storeCells ⟨k,o,none⟩ vs i).run P w=.ok () w'/\w'.heap[k]?=some (.cells cs' t (0,0))/\cs'.size=cs.size/\jJ k w w'/\(∀ j v,vs[j]?=some v->cs'[o+i+j]?=some v)/\
  (∀ m,(m<o+i\/o+i+vs.length<=m)->cs'[m]?=cs[m]?)
 |[],i,o,w,cs,h,_,_=>⟨w,cs,rfl,h,rfl,jJ.refl k w,fun j v hj=>by simp at hj,fun _ _=>rfl⟩
 |v::vs,i,o,w,cs,h,h1,hl=>by
  simp only[uP] at hl;have hlt:o+i<cs.size:=by omega
  have hb:(w.setCell ⟨k,o+i,none⟩ v).heap[k]?=some (.cells (cs.setIfInBounds (o+i) v) t (0,0)):=by
   simp only[World.setCell,cbW,co,h];rfl
  obtain⟨w',cs',h2,h3,h4,h5,h6,h7⟩:=CB P k t vs (i+1) o (w.setCell ⟨k,o+i,none⟩ v) _ hb (fun x hx=>h1 x (uL _ hx)) (by simp;omega);have hc:w.cell? ⟨k,o+i,none⟩=some cs[o+i]:=by simp [World.cell?,h,hlt]
  have hfz:w.frozen? ⟨k,o+i,none⟩=false:=by simp [World.frozen?,h]
  refine⟨w',cs',?_,h3,by simpa using h4,((jJ.refl k w).set (o+i) v).trans h5,?_,?_⟩
  ·rw[storeCells];simp [jL,run_store _ _ _ _ _ (h1 v (by simp)),hc,hfz,h2]
  ·intro j x hj;cases j with
   |zero =>
    simp at hj;subst hj;rw[h7 (o+i+0) (by omega)];simp [hlt]
   |succ j =>
    have:=h6 j x (by simpa using hj);rw[show o+(i+1)+j=o+i+(j+1) by omega] at this;exact this
  ·intro m hm;simp only[uP] at hm;rw[h7 m (by omega)];have:¬ o+i=m:=by omega
   simp [this]
def ky (V:uW) (csz:List Nat):AC->Bool
 |.lit v=>v.oneCell'
 |.sym s j=>match V (.live s) with
  |some (.cls c)=>Nat.blt j (csz.getD c 0)
  |_=>false
 |_=>true
theorem zP (hC:C.Ok) {V:uW}(hV:ub C e a w V) {c:AC}{v:Value}(h:ky V C.csz c=true) (hc:c.is e v):v.oneCell'=true:=by
 cases c with
 |lit x=>rw[show v=x from hc];exact h
 |sym s j =>
  simp only[ky] at h;split at h
  ·rename_i cl hl;obtain⟨f,h1,h2⟩:=hc;obtain⟨f',h3,h4⟩:=hV _ _ hl;rw[h1] at h3;injection h3 with h3;subst h3
   rw[h2];exact hC.cell _ _ _ _ h4 (yq h)
  ·cases h
 |ptr b o=>obtain⟨k,_,rfl⟩:=hc;rfl
 |clo f bs=>obtain⟨k,_,rfl⟩:=hc;rfl
 |slc b o n c=>obtain⟨k,_,rfl⟩:=hc;rfl
def noSlA (V:uW) (numc:List Bool):AC->Bool
 |.lit v=>noSl v
 |.sym s 0=>match V (.live s) with
  |some (.cls c)=>numc.getD c false
  |_=>false
 |.sym _ _=>false
 |.slc ..=>false
 |_=>true
theorem coK (hC:C.Ok) {V:uW}(hV:ub C e a w V) {c:AC}{v:Value}(h:noSlA V C.numc c=true) (hc:c.is e v):noSl v=true:=by
 unfold noSlA at h;split at h
 ·rw[show v=_ from hc];exact h
 ·rename_i s;split at h
  ·rename_i cl hl;obtain⟨f,h1,h2⟩:=hc;obtain⟨f',h3,h4⟩:=hV _ _ hl;rw[h1] at h3;injection h3 with h3;subst h3
   rw[h2];exact hC.num _ _ _ h h4
  ·cases h
 ·cases h
 ·cases h
 ·rename_i h1 h2 h3 h4;cases c with
  |lit=>exact absurd rfl (h1 _)
  |sym s j =>
   cases j with
   |zero=>exact absurd rfl (h2 _)
   |succ j=>exact absurd rfl (h3 _ _)
  |ptr b o=>obtain⟨k,_,rfl⟩:=hc;rfl
  |clo f bs=>obtain⟨k,_,rfl⟩:=hc;rfl
  |slc b o n c=>exact absurd rfl (h4 _ _ _ _)
end
inductive Grp where
 |lit (v:Value)
 |cls (c n:Nat)
inductive Pat where
 |one (g:Grp)
 |agg (gs:List Grp)
 /-- A slice, from its block's begin on, of n elements, and these cells. -/
 |slc (t n:Nat) (gs:List Grp)
inductive jH where
 |val (p:Pat)
 |tup (ps:List Pat)
inductive Hd where
 |call (f:FuncId)
 |bs (t n:Nat)
 |ix (t:Nat)
 |ld (t:Nat)
 |blt (b:Builtin) (ats:List Nat) (t:Nat)
 |bin (op:BinOp) (t:Nat)
 |sl (t:Nat) (lo hi mx:Bool)
 |mk (t:Nat)
 |cv (s d:Nat)
 |un (op:UnOp) (t:Nat)
 |si (t:Nat)
 |fa (s f:Nat)
 |mf (f:Nat)
 |st (t:Nat)
 /-- A call of a function value that is known by its class; the value comes first. -/
 |dyn
 deriving DecidableEq
structure Ent where
 hd:Hd
 args:List Pat
 res:jH
def Hd.grows:Hd->Bool
 |.blt .append _ _=>true
 |.st _=>true
 |_=>false
def uA (o:Oper):Option (Hd×List Operand) :=
 match o.op with
 |.buildSlice t n parts=>match decide (parts.toList.map (·.1)=List.range parts.toList.length) with
  |true=>some (.bs t n,parts.toList.map (·.2))
  |false=>none
 |.indexAddr t x i=>some (.ix t,[x,i])
 |.load t x=>some (.ld t,[x])
 |.binOp op t x y _=>some (.bin op t,[x,y])
 |.slice t x lo hi mx=>some (.sl t lo.isSome hi.isSome mx.isSome,x::(lo.toList++hi.toList++mx.toList))
 |.makeSlice t l c=>some (.mk t,[l,c])
 |.convert s d x=>some (.cv s d,[x])
 |.unOp op t x=>some (.un op t,[x])
 |.index t x i=>some (.si t,[x,i])
 |.fieldAddr s x f=>some (.fa s f,[x])
 |.makeFunc (.func f) first ⟨[]⟩=>some (.mf f,first.toList)
 |.call c=>match c.callee with
  |.builtin b=>some (.blt b c.argTypes.toList o.type,c.args.toList)
  |_=>none
 |_=>none
section
variable (C:Ctx) (w:World)
def Grp.is:Grp->List Value->Prop
 |.lit v,vs=>vs=[v]
 |.cls c n,vs=>∃ f,C.E c w f/\vs=(List.range n).map f
def cO:List Grp->List Value->Prop
 |[],vs=>vs=[]
 |g::gs,vs=>∃ xs ys,vs=xs++ys/\g.is C w xs/\cO gs ys
def Pat.is:Pat->Value->Prop
 |.one g,v=>g.is C w [v]
 |.agg gs,v=>∃ vs,cO C w gs vs/\v=.agg vs.toArray
 |.slc t n gs,v=>∃ k vs,v=.slice (some ⟨k,0,none⟩) n n/\w.heap[k]?=some (.cells vs.toArray t (0,0))/\cO C w gs vs
def jb:List Pat->List Value->Prop
 |[],vs=>vs=[]
 |p::ps,vs=>∃ v ws,vs=v::ws/\p.is C w v/\jb ps ws
def jH.is:jH->Value->Prop
 |.val p,v=>p.is C w v
 |.tup ps,v=>∃ vs,jb C w ps vs/\v=.tuple vs.toArray
end
def Ent.Valid (C:Ctx) (t:Ent):Prop :=
 match t.hd with
 |.call f=>Enters C.P f/\∀ w vs,Below C.w0.heap.size C.w0 w->jb C w t.args vs->Calls C.P f vs.toArray w (fun e w'=>∃ v,e=.returned v/\t.res.is C w' v/\Below w.heap.size w w')
 |.st k=>∀ w (ρ:Operand->Value) (o:Oper) x y,o.op=.store k x y->Below C.w0.heap.size C.w0 w->jb C w t.args [ρ x,ρ y]->∃ w',(execOp ρ o).run C.P w=.ok .skip w'/\t.res.is C w' (ρ x)/\Step C true w w'
 |.dyn=>∀ w vf vs,Below C.w0.heap.size C.w0 w->jb C w t.args (vf::vs)->∃ g pre cap,vf=.func (.func g) pre cap/\Enters C.P g/\Calls C.P g (pre++vs.toArray++cap) w (fun e w'=>∃ v,e=.returned v/\t.res.is C w' v/\Below w.heap.size w w')
 |hd=>∀ w (ρ:Operand->Value) (o:Oper) xs,uA o=some (hd,xs)->Below C.w0.heap.size C.w0 w->jb C w t.args (xs.map ρ)->∃ v w',(execOp ρ o).run C.P w=.ok (.value v) w'/\t.res.is C w' v/\Step C hd.grows w w'
def sameV:Value->Value->Bool
 |.bool true,.bool true=>true
 |.bool false,.bool false=>true
 |.int .i64 (.ofNat a),.int .i64 (.ofNat b)=>Nat.beq a b
 |.int .i64 (.negSucc a),.int .i64 (.negSucc b)=>Nat.beq a b
 |.int .u64 (.ofNat a),.int .u64 (.ofNat b)=>Nat.beq a b
 |.int .u8 (.ofNat a),.int .u8 (.ofNat b)=>Nat.beq a b
 |.pointer none,.pointer none=>true
 |.nilFunc,.nilFunc=>true
 |.slice none 0 0,.slice none 0 0=>true
 |.func (.func f) ⟨[]⟩ ⟨[]⟩,.func (.func g) ⟨[]⟩ ⟨[]⟩=>Nat.beq f g
 |.string a,.string b=>decide (a.data.toList=b.data.toList)
 |_,_=>false
theorem sameS {a b:ByteArray}(h:decide (a.data.toList=b.data.toList)=true):Value.string a=.string b:=by
 have h:=jh h;cases a with
 |mk a =>
  cases b with
  |mk b =>
   cases a with
   |mk a =>
    cases b with
    |mk b =>
     have h:a=b:=h;rw[h]
theorem cnI {a b:Value}(h:sameV a b=true):a=b:=by
 unfold sameV at h;split at h<;>first|rfl|(rw[ct h])|exact sameS h|cases h
def uZ (s:Nat):Nat->Nat->List AC->Option (List AC)
 |_,0,cs=>some cs
 |j,n+1,.sym s' j'::cs=>match Nat.beq s' s with
  |true=>match Nat.beq j' j with
   |true=>uZ s (j+1) n cs
   |false=>none
  |false=>none
 |_,_,_=>none
def cjL (V:uW):Grp->List AC->Option (List AC)
 |.lit v,.lit v'::cs=>match sameV v' v with
  |true=>some cs
  |false=>none
 |.cls c n,.sym s j::cs=>match V (.live s) with
  |some (.cls c')=>match Nat.beq c' c with
   |true=>uZ s 0 n (.sym s j::cs)
   |false=>none
  |_=>none
 |_,_=>none
def GG (V:uW):List Grp->List AC->Bool
 |[],[]=>true
 |g::gs,cs=>match cjL V g cs with
  |some r=>GG V gs r
  |none=>false
 |_,_=>false
def cdl (V:uW):Pat->AV->Bool
 |.one g,.val (.one c)=>GG V [g] [c]
 |.agg gs,.val (.agg cs)=>GG V gs cs
 |.slc t n gs,.val (.one (.slc b 0 n' c'))=>match Nat.beq n' n with
  |true=>match Nat.beq c' n with
   |true=>match V (.box b) with
    |some (.box t' m)=>match Nat.beq t' t with
     |true=>match CP V b 0 m with
      |some cs=>GG V gs cs
      |none=>false
     |false=>false
    |_=>false
   |false=>false
  |false=>false
 |_,_=>false
def Gt (V:uW):List Pat->List AV->Bool
 |[],[]=>true
 |p::ps,x::xs=>match cdl V p x with
  |true=>Gt V ps xs
  |false=>false
 |_,_=>false
section
variable {C:Ctx}{e:Env}{a:Act}{w:World}{V:uW}
theorem GK {s:Nat}{f:Nat->Value}(hf:e.ν s=some f):∀ {n j:Nat}{cs r:List AC}{vs:List Value},uZ s j n cs=some r->cZ e cs vs->∃ ys,vs=(List.range' j n).map f++ys/\cZ e r ys
 |0,j,cs,r,vs,h,hc=>by
  simp [uZ] at h;subst h;exact⟨vs,by simp,hc⟩
 |n+1,j,[],r,vs,h,hc=>by simp [uZ] at h
 |n+1,j,.lit _::_,r,vs,h,hc=>by simp [uZ] at h
 |n+1,j,.ptr _ _::_,r,vs,h,hc=>by simp [uZ] at h
 |n+1,j,.clo _ _::_,r,vs,h,hc=>by simp [uZ] at h
 |n+1,j,.sym s' j'::cs,r,vs,h,hc=>by
  unfold uZ at h;split at h
  ·rename_i hs;split at h
   ·rename_i hj;obtain⟨v,ws,rfl,⟨f',h1,h2⟩,h3⟩:=hc;rw[ct hs,hf] at h1;injection h1 with h1;subst h1
    obtain⟨ys,h4,h5⟩:=GK hf h h3;refine⟨ys,?_,h5⟩;rw[h2,ct hj,h4,cbK];rfl
   ·cases h
  ·cases h
theorem cnA (hV:ub C e a w V) {g:Grp}{cs r:List AC}{vs:List Value}(h:cjL V g cs=some r) (hc:cZ e cs vs):∃ xs ys,vs=xs++ys/\g.is C w xs/\cZ e r ys:=by
 unfold cjL at h;split at h
 ·rename_i v v' cs;split at h
  ·rename_i hs;injection h with h;subst h
   obtain⟨x,ws,rfl,h1,h2⟩:=hc;exact⟨[x],ws,rfl,by rw[show x=v' from h1,cnI hs];rfl,h2⟩
  ·cases h
 ·rename_i c n s j cs;split at h
  ·rename_i c' hl;split at h
   ·rename_i hcc;obtain⟨f,h1,h2⟩:=hV _ _ hl;obtain⟨ys,h3,h4⟩:=GK h1 h hc;exact⟨_,ys,h3,⟨f,by rw[← ct hcc];exact h2,by rw[Zf]⟩,h4⟩
   ·cases h
  ·cases h
 ·cases h
theorem Ez (hV:ub C e a w V):∀ {gs:List Grp}{cs:List AC}{vs:List Value},GG V gs cs=true->cZ e cs vs->cO C w gs vs
 |[],[],vs,h,hc=>hc
 |[],_::_,vs,h,hc=>by simp [GG] at h
 |g::gs,cs,vs,h,hc=>by
  unfold GG at h;split at h
  ·rename_i r hr;obtain⟨xs,ys,h1,h2,h3⟩:=cnA hV hr hc;exact⟨xs,ys,h1,h2,Ez hV h h3⟩
  ·cases h
theorem ZZ (hV:ub C e a w V) {p:Pat}{x:AV}{v:Value}(h:cdl V p x=true) (hx:x.is e v):p.is C w v:=by
 unfold cdl at h;split at h
 ·rename_i g c;obtain⟨xs,ys,h1,h2,h3⟩:=Ez hV h (vs:=[v]) ⟨v,[],rfl,hx,rfl⟩;rw[show ys=[] from h3,ug] at h1;subst h1;exact h2
 ·obtain⟨vs,h1,h2⟩:=hx;exact⟨vs,Ez hV h h1,h2⟩
 ·rename_i t n gs b n' c';obtain⟨k,hk,rfl⟩:=hx;split at h
  ·rename_i hn;split at h
   ·rename_i hc;split at h
    ·rename_i t' m hb;split at h
     ·rename_i ht;split at h
      ·rename_i cs hcs;obtain⟨h1,vs,h2,h3⟩:=Ch hV hk _ _ _ hcs;obtain⟨k',arr,q1,q2,q3⟩:=hV _ _ hb;rw[hk] at q1;injection q1 with q1;subst q1
       have hvs:arr=vs.toArray:=by
        apply Array.ext
        ·simp [q3,h2.length,h1]
        ·intro i h4 h5;have h6:i<vs.length:=by simpa using h5
         have:=h3 i vs[i] (kb h6);simp only[je,World.cell?,q2] at this;simp [h4] at this;simpa using this
       refine⟨k,vs,by rw[ct hn,ct hc],?_,Ez hV h h2⟩;rw[q2,hvs,ct ht]
      ·cases h
     ·cases h
    ·cases h
   ·cases h
  ·cases h
 ·cases h
def yH (e:Env):List AV->List Value->Prop
 |[],vs=>vs=[]
 |c::cs,vs=>∃ v ws,vs=v::ws/\c.is e v/\yH e cs ws
theorem Kl (hV:ub C e a w V):∀ {ps:List Pat}{xs:List AV}{vs:List Value},Gt V ps xs=true->yH e xs vs->jb C w ps vs
 |[],[],vs,h,hc=>hc
 |[],_::_,vs,h,hc=>by simp [Gt] at h
 |_::_,[],vs,h,hc=>by simp [Gt] at h
 |p::ps,x::xs,vs,h,hc=>by
  unfold Gt at h;split at h
  ·rename_i hp;obtain⟨v,ws,h1,h2,h3⟩:=hc;exact⟨v,ws,h1,ZZ hV hp h2,Kl hV h h3⟩
  ·cases h
end
def Ci (s:Nat):Nat->Nat->List AC
 |_,0=>[]
 |j,n+1=>.sym s j::Ci s (j+1) n
def uV (s:Nat):List Grp->List AC×Ws×Nat
 |[]=>([],[],s)
 |.lit v::gs=>match uV s gs with
  |(cs,l,s')=>(.lit v::cs,l,s')
 |.cls c n::gs=>match uV (s+1) gs with
  |(cs,l,s')=>(Ci s 0 n++cs,(.live s,.cls c)::l,s')
def mkP (s:Nat):Pat->Option (A1×Ws×Nat)
 |.one g=>match uV s [g] with
  |([c],l,s')=>some (.one c,l,s')
  |_=>none
 |.agg gs=>match uV s gs with
  |(cs,l,s')=>some (.agg cs,l,s')
 |.slc ..=>none
def Er (s:Nat):List Pat->Option (List A1×Ws×Nat)
 |[]=>some ([],[],s)
 |p::ps=>match mkP s p with
  |some (x,l,s')=>match Er s' ps with
   |some (xs,l',s'')=>some (x::xs,l++l',s'')
   |none=>none
  |none=>none
def mkR (s:Nat):jH->Option (AV×Ws×Nat)
 |.val p=>match mkP s p with
  |some (x,l,s')=>some (.val x,l,s')
  |none=>none
 |.tup ps=>match Er s ps with
  |some (xs,l,s')=>some (.tup xs,l,s')
  |none=>none
structure Grown (C:Ctx) (w:World) (s s':Nat) (l:Ws) (e e':Env):Prop where
 ext:Ext e e'
 ρ:e'.ρ=e.ρ
 ν:∀ x f,e'.ν x=some f->e.ν x=some f\/(s<=x/\x<s')
 le:s<=s'
 live:∀ k v,(k,v)∈l->∃ x c,k=.live x/\v=.cls c/\∃ f,e'.ν x=some f/\C.E c w f
section
variable {C:Ctx}{w:World}
theorem caz (s:Nat) (e:Env):Grown C w s s [] e e:=⟨Ext.refl e,rfl,fun _ _ h=>.inl h,cb _,fun _ _ h=>by simp at h⟩
theorem Grown.trans {s s' s'':Nat}{l l':Ws}{e e' e'':Env}(h:Grown C w s s' l e e') (k:Grown C w s' s'' l' e' e''):Grown C w s s'' (l++l') e e'' :=
 ⟨h.ext.trans k.ext,k.ρ.trans h.ρ,fun x f hx=>by
  rcases k.ν x f hx with h1|h1
  ·rcases h.ν x f h1 with h2|h2
   ·exact .inl h2
   ·exact .inr ⟨h2.1,cI h2.2 k.le⟩
  ·exact .inr ⟨cA h.le h1.1,h1.2⟩,cA h.le k.le,fun x v hm=>by
  rcases List.mem_append.1 hm with hm|hm
  ·obtain⟨x,c,h1,h2,f,h3,h4⟩:=h.live x v hm;exact⟨x,c,h1,h2,f,k.ext.ν _ _ h3,h4⟩
  ·exact k.live x v hm⟩
theorem Eg {e:Env}{s:Nat}{f:Nat->Value}(hf:e.ν s=some f):∀ (n j:Nat),cZ e (Ci s j n) ((List.range' j n).map f)
 |0,j=>rfl
 |n+1,j=>⟨f j,_,by rw[cbK];rfl,⟨f,hf,rfl⟩,Eg hf n (j+1)⟩
theorem Cr:∀ {gs:List Grp}{s s':Nat}{cs:List AC}{l:Ws},uV s gs=(cs,l,s')->s<=s'
 |[],s,s',cs,l,h=>by
  simp only[uV,cr] at h;omega
 |.lit v::gs,s,s',cs,l,h=>by
  simp only[uV] at h;generalize hm:uV s gs=r at h;obtain⟨cs',l',s''⟩:=r;simp only[cr] at h;have:=Cr hm;omega
 |.cls c n::gs,s,s',cs,l,h=>by
  simp only[uV] at h;generalize hm:uV (s+1) gs=r at h;obtain⟨cs',l',s''⟩:=r;simp only[cr] at h;have:=Cr hm;omega
theorem En {B:Nat}:∀ {gs:List Grp}{s s':Nat}{cs:List AC}{l:Ws}{vs:List Value}{e:Env},uV s gs=(cs,l,s')->s'<=B->(∀ x,s<=x->x<B->e.ν x=none)->cO C w gs vs->∃ e',Grown C w s s' l e e'/\cZ e' cs vs
 |[],s,s',cs,l,vs,e,h,hB,hn,hg=>by
  simp only[uV,cr] at h;obtain⟨rfl,rfl,rfl⟩:=h;exact⟨e,caz _ _,hg⟩
 |.lit v::gs,s,s',cs,l,vs,e,h,hB,hn,⟨xs,ys,h1,h2,h3⟩=>by
  simp only[uV] at h;generalize hm:uV s gs=r at h;obtain⟨cs',l',s''⟩:=r;simp only[cr] at h;obtain⟨rfl,rfl,rfl⟩:=h;obtain⟨e',h4,h5⟩:=En hm hB hn h3;subst h1;rw[show xs=[v] from h2];exact⟨e',h4,v,ys,rfl,rfl,h5⟩
 |.cls c n::gs,s,s',cs,l,vs,e,h,hB,hn,⟨xs,ys,h1,⟨f,h2,h2'⟩,h3⟩=>by
  simp only[uV] at h;generalize hm:uV (s+1) gs=r at h;obtain⟨cs',l',s''⟩:=r;simp only[cr] at h;obtain⟨rfl,rfl,rfl⟩:=h;have hle:=Cr hm
  let e1:Env:={ e with ν:=fun x=>if x=s then some f else e.ν x }
  have he1:e1.ν s=some f:=by simp [e1]
  have hg1:Grown C w s (s+1) [(.live s,.cls c)] e e1:=⟨⟨fun _ _ h=>h,fun x g hx=>by
   show (if x=s then some f else e.ν x)=some g;rw[cg (fun e0=>by rw[e0,hn s (cb _) (by omega)] at hx;cases hx),hx]⟩,rfl,fun x g hx=>by
   by_cases hxs:x=s
   ·right;omega
   ·left;have:(if x=s then some f else e.ν x)=some g:=hx
    rwa [cg hxs] at this,by omega,fun k v hk=>by
   simp only[uQ,cr,Zr,or_false] at hk;exact⟨s,c,hk.1,hk.2,f,he1,h2⟩⟩
  obtain⟨e',h4,h5⟩:=En (e:=e1) hm hB (fun x hx hxB=>by
   show (if x=s then some f else e.ν x)=none;rw[cg (by omega)];exact hn x (by omega) hxB) h3
  refine⟨e',hg1.trans h4,?_⟩;subst h1;rw[h2',Zf];exact(Eg (h4.ext.ν _ _ he1) n 0).append h5
theorem cah {B:Nat}{p:Pat}{s s':Nat}{x:A1}{l:Ws}{v:Value}{e:Env}(h:mkP s p=some (x,l,s')) (hB:s'<=B) (hn:∀ x,s<=x->x<B->e.ν x=none) (hp:p.is C w v):∃ e',Grown C w s s' l e e'/\x.is e' v:=by
 cases p with
 |one g =>
  simp only[mkP] at h;generalize hm:uV s [g]=r at h;obtain⟨cs',l',s''⟩:=r;split at h
  ·rename_i c l1 s1 heq;simp only[cr] at heq;obtain⟨rfl,rfl,rfl⟩:=heq;injection h with h
   simp only[cr] at h;obtain⟨rfl,rfl,rfl⟩:=h;obtain⟨e',h1,v',ws,h2,h3,h4⟩:=En hm hB hn (vs:=[v]) ⟨[v],[],rfl,hp,rfl⟩;injection h2 with h2 _
   subst h2;exact⟨e',h1,h3⟩
  ·cases h
 |agg gs =>
  simp only[mkP] at h;generalize hm:uV s gs=r at h;obtain⟨cs',l',s''⟩:=r;injection h with h
  simp only[cr] at h;obtain⟨rfl,rfl,rfl⟩:=h;obtain⟨vs,h1,h2⟩:=hp;obtain⟨e',h3,h4⟩:=En hm hB hn h1;exact⟨e',h3,vs,h4,h2⟩
 |slc t n gs=>simp [mkP] at h
theorem cgK {p:Pat}{s s':Nat}{x:A1}{l:Ws}(h:mkP s p=some (x,l,s')):s<=s':=by
 cases p with
 |one g =>
  simp only[mkP] at h;generalize hm:uV s [g]=r at h;obtain⟨cs',l',s''⟩:=r;have:=Cr hm;split at h
  ·rename_i c l1 s1 heq;simp only[cr] at heq;injection h with h
   simp only[cr] at h;omega
  ·cases h
 |agg gs =>
  simp only[mkP] at h;generalize hm:uV s gs=r at h;obtain⟨cs',l',s''⟩:=r;injection h with h
  simp only[cr] at h;have:=Cr hm;omega
 |slc t n gs=>simp [mkP] at h
theorem WU:∀ {ps:List Pat}{s s':Nat}{xs:List A1}{l:Ws},Er s ps=some (xs,l,s')->s<=s'
 |[],s,s',xs,l,h=>by
  simp only[Er,kJ,cr] at h;omega
 |p::ps,s,s',xs,l,h=>by
  simp only[Er] at h;split at h
  ·rename_i x l1 s1 hp1;split at h
   ·rename_i xs2 l2 s2 hp2;injection h with h
    simp only[cr] at h;have:=cgK hp1;have:=WU hp2;omega
   ·cases h
  ·cases h
theorem Js {B:Nat}:∀ {ps:List Pat}{s s':Nat}{xs:List A1}{l:Ws}{vs:List Value}{e:Env},Er s ps=some (xs,l,s')->s'<=B->(∀ x,s<=x->x<B->e.ν x=none)->jb C w ps vs->∃ e',Grown C w s s' l e e'/\up e' xs vs
 |[],s,s',xs,l,vs,e,h,hB,hn,hp=>by
  simp only[Er,kJ,cr] at h;obtain⟨rfl,rfl,rfl⟩:=h;exact⟨e,caz _ _,hp⟩
 |p::ps,s,s',xs,l,vs,e,h,hB,hn,⟨v,ws,h1,h2,h3⟩=>by
  simp only[Er] at h;split at h
  ·rename_i x l1 s1 hp1;split at h
   ·rename_i xs2 l2 s2 hp2;injection h with h
    simp only[cr] at h;obtain⟨rfl,rfl,rfl⟩:=h;obtain⟨e1,g1,i1⟩:=cah hp1 (cA (WU hp2) hB) hn h2;obtain⟨e2,g2,i2⟩:=Js (e:=e1) hp2 hB (fun x hx hxB=>by
     cases hc:e1.ν x with
     |none=>rfl
     |some f =>
      rcases g1.ν x f hc with h|h
      ·rw[hn x (cA g1.le hx) hxB] at h;cases h
      ·omega) h3
    exact⟨e2,g1.trans g2,v,ws,h1,i1.ext g2.ext,i2⟩
   ·cases h
  ·cases h
theorem cjS {B:Nat}{p:jH}{s s':Nat}{x:AV}{l:Ws}{v:Value}{e:Env}(h:mkR s p=some (x,l,s')) (hB:s'<=B) (hn:∀ x,s<=x->x<B->e.ν x=none) (hp:p.is C w v):∃ e',Grown C w s s' l e e'/\x.is e' v:=by
 cases p with
 |val p =>
  simp only[mkR] at h;split at h
  ·rename_i y l1 s1 hp1;injection h with h
   simp only[cr] at h;obtain⟨rfl,rfl,rfl⟩:=h;exact cah hp1 hB hn hp
  ·cases h
 |tup ps =>
  simp only[mkR] at h;split at h
  ·rename_i y l1 s1 hp1;injection h with h
   simp only[cr] at h;obtain⟨rfl,rfl,rfl⟩:=h;obtain⟨vs,h1,h2⟩:=hp;obtain⟨e',h3,h4⟩:=Js hp1 hB hn h1;exact⟨e',h3,vs,h4,h2⟩
  ·cases h
end
def Et (V:uW):List Operand->Option (List AV)
 |[]=>some []
 |x::xs=>match cG V x with
  |some a=>match Et V xs with
   |some l=>some (a::l)
   |none=>none
  |none=>none
def Hd.same:Hd->Hd->Bool
 |.call f,.call g=>Nat.beq f g
 |.call _,_=>false
 |_,.call _=>false
 |a,b=>decide (a=b)
theorem Hd.same_eq {a b:Hd}(h:a.same b=true):a=b:=by
 unfold Hd.same at h;split at h
 ·rw[ct h]
 ·cases h
 ·cases h
 ·exact jh h
def WM (V:uW) (h:Hd) (xs:List AV):List Ent->Option Ent
 |[]=>none
 |t::T=>match t.hd.same h with
  |true=>match Gt V t.args xs with
   |true=>some t
   |false=>WM V h xs T
  |false=>WM V h xs T
theorem Yt {V:uW}{h:Hd}{xs:List AV}{t:Ent}:∀ {T:List Ent},WM V h xs T=some t->t∈T/\t.hd=h/\Gt V t.args xs=true
 |[],hf=>by simp [WM] at hf
 |u::T,hf=>by
  unfold WM at hf;split at hf
  ·rename_i h1;split at hf
   ·rename_i h2;injection hf with hf;subst hf
    exact⟨by simp,Hd.same_eq h1,h2⟩
   ·obtain⟨h3,h4⟩:=Yt hf;exact⟨uL _ h3,h4⟩
  ·obtain⟨h3,h4⟩:=Yt hf;exact⟨uL _ h3,h4⟩
def yy (S:Stat) (T:List Ent) (V:uW) (id:Nat) (dst:Option Tmp) (h:Hd) (xs:List Operand):Option Ws :=
 match Et V xs with
 |some l=>match WM V h l T with
  |some t=>match mkR (id*8) t.res with
   |some (x,lv,s')=>match Nat.ble s' (id*8+8) with
    |true=>match GO S.nt dst x with
     |some ws=>some (ws++lv)
     |none=>none
    |false=>none
   |none=>none
  |none=>none
 |none=>none
def uU (S:Stat) (dst:Option Tmp) (s:Sem Value):Option Ws :=
 match ev S.P s with
 |some v=>GO S.nt dst (.val (.one (.lit v)))
 |none=>none
def A1.cells:A1->List AC
 |.one c=>[c]
 |.agg cs=>cs
def CQ (f:AC->Bool):List AC->Bool
 |[]=>true
 |c::cs=>match f c with
  |true=>CQ f cs
  |false=>false
def Cn (P:Program) (s f:Nat):Option Field :=
 match P.underlying s with
 |some (.struct fields)=>fields[f]?
 |_=>none
def caO (n:Nat):List Nat->Bool
 |[]=>false
 |m::l=>match Nat.beq m n with
  |true=>true
  |false=>caO n l
theorem cee {n:Nat}:∀ {l:List Nat},caO n l=true->n∈l
 |[],h=>by simp [caO] at h
 |m::l,h=>by
  unfold caO at h;split at h
  ·rename_i hm;rw[ct hm];simp
  ·exact uL _ (cee h)
def cix (S:Stat) (V:uW) (dst:Option Tmp) (t:TypeId) (b o:Nat) (cs:List AC):Option Ws :=
 match S.P.info? t with
 |none=>none
 |some i=>match Nat.beq cs.length i.size with
  |false=>none
  |true=>match CQ (ky V S.csz) cs with
   |false=>none
   |true=>match V (.box b) with
    |some (.box ty n)=>match Nat.ble (o+cs.length) n with
     |false=>none
     |true=>match caO ty S.okT with
      |false=>none
      |true=>match cgE S.P ty n with
       |false=>none
       |true=>match V (.cell b 0) with
        |some (.ac c0)=>match noSlA V S.numc c0 with
         |false=>none
         |true=>match GO S.nt dst KU with
          |some ws=>some (ws++Kz b o cs)
          |none=>none
        |_=>none
    |_=>none
def Ui (S:Stat) (V:uW) (fs:List Field):List (Nat×Operand)->List AC->Option (List AC)
 |[],cs=>some cs
 |(i,x)::l,cs=>match fs[i]? with
  |some f=>match S.P.info? f.type with
   |some j=>match cG V x with
    |some (.val y)=>match CQ (ky V S.csz) y.cells with
     |true=>match Nat.beq y.cells.length j.size with
      |true=>match Nat.ble (f.offset+y.cells.length) cs.length with
       |true=>Ui S V fs l (cs.take f.offset++y.cells++cs.drop (f.offset+y.cells.length))
       |false=>none
      |false=>none
     |false=>none
    |_=>none
   |none=>none
  |none=>none
def Ja (S:Stat) (V:uW) (z n:Nat):Nat->List (Nat×Operand)->Option (List AC)
 |_,[]=>some []
 |j,(i,x)::l=>match Nat.beq i j with
  |true=>match cG V x with
   |some (.val y)=>match CQ (ky V S.csz) y.cells with
    |true=>match Nat.beq y.cells.length z with
     |true=>match Ja S V z n (j+1) l with
      |some cs=>some (y.cells++cs)
      |none=>none
     |false=>none
    |false=>none
   |_=>none
  |false=>none
def slc?:Option AV->Option (Nat×Nat×Nat)
 |some (.val (.one (.slc b o n _)))=>some (b,o,n)
 |_=>none
theorem ZW {C:Ctx}{e:Env}{a:Act}{w:World}{V:uW}(hV:ub C e a w V) {x:Operand}{b o n:Nat}(h:slc? (cG V x)=some (b,o,n)) :
 ∃ k c,e.ρ b=some k/\a.eval x=.slice (some ⟨k,o,none⟩) n c:=by
 unfold slc? at h;split at h
 ·rename_i hx;injection h with h;simp only[cr] at h;obtain⟨h1,h2,h3⟩:=h;subst h1;subst h2;subst h3
  obtain⟨k,h1,h2⟩:=cV hV hx;exact⟨k,_,h1,h2⟩
 ·cases h
def cbx:Nat->List (Nat×Operand)->Bool
 |_,[]=>true
 |j,p::l=>match Nat.beq p.1 j with
  |true=>cbx (j+1) l
  |false=>false
theorem cdw:∀ {l:List (Nat×Operand)}{j:Nat},cbx j l=true->l.map (·.1)=List.range' j l.length
 |[],_,_=>rfl
 |p::l,j,h=>by
  unfold cbx at h;split at h
  ·rename_i hp;rw[jR,cdw h,ct hp];rfl
  ·cases h
def entBs (S:Stat) (T:List Ent) (V:uW) (id:Nat) (dst:Option Tmp) (t n:Nat) (parts:List (Nat×Operand)):Option Ws :=
 match cbx 0 parts with
 |true=>yy S T V id dst (.bs t n) (parts.map (·.2))
 |false=>none
def bsW (S:Stat) (V:uW) (id:Nat) (dst:Option Tmp) (t:TypeId) (n:Nat) (parts:Array (Nat×Operand)):Option Ws :=
 match S.P.underlying t with
  |some (.slice e)=>match S.P.info? e with
   |some i=>match i.zero with
    |some _=>match i.size with
     |0=>none
     |z+1=>match Nat.ble (n*(z+1)) 16777216 with
      |false=>none
      |true=>match Nat.blt 0 n with
       |false=>none
       |true=>match Ja S V (z+1) n 0 parts.toList with
        |some cs=>match Nat.beq parts.toList.length n with
         |true=>match cbw S.nt id dst e cs (.slc id 0 n n) with
          |some ws=>some ws
          |none=>none
         |false=>none
        |none=>none
    |none=>none
   |none=>none
  |_=>none
def Ge (S:Stat) (T:List Ent) (V:uW) (id:Nat) (o:Oper):Option Ws :=
 match o.op with
 |.move x=>match cG V x with
  |some v=>GO S.nt o.dst v
  |none=>none
 |.assign x=>match cG V x with
  |some v=>GO S.nt o.dst v
  |none=>none
 |.pick c x y=>match lit? (cG V c) with
  |some (.bool true)=>match cG V x with
   |some v=>GO S.nt o.dst v
   |none=>none
  |some (.bool false)=>match cG V y with
   |some v=>GO S.nt o.dst v
   |none=>none
  |_=>none
 |.alloc t=>match S.P.info? t with
  |some i=>match i.zero with
   |some z=>cgt S.nt id o.dst t (z.cells.toList.map .lit)
   |none=>none
  |none=>none
 |.box t x=>match cG V x with
  |some (.val a)=>match CQ (ky V S.csz) a.cells with
   |true=>cgt S.nt id o.dst t a.cells
   |false=>none
  |_=>none
 |.build t parts=>match S.P.info? t with
  |some i=>match i.zero with
   |some z=>match S.P.underlying t with
    |some (.struct fs)=>match fs.toList.all (fun f=>(S.P.info? f.type).isSome) with
     |true=>match Ui S V fs.toList parts.toList (z.cells.toList.map .lit) with
      |some cs=>GO S.nt o.dst (.val (.agg cs))
      |none=>none
     |false=>none
    |_=>none
   |none=>none
  |none=>none
 |.load t x=>match ptr? (cG V x) with
  |some (b,p)=>match Ym S.P V t b p with
   |some y=>GO S.nt o.dst (.val y)
   |none=>none
  |none=>yy S T V id o.dst (.ld t) [x]
 |.store t x y=>match ptr? (cG V x) with
  |some (b,p)=>match cG V y with
   |some (.val a)=>cix S V o.dst t b p a.cells
   |_=>none
  |none=>match x,o.dst with
   |.tmp s,none=>yy S T V id (some s) (.st t) [.tmp s,y]
   |_,_=>none
 |.nilCheck x=>match ptr? (cG V x) with
  |some (b,p)=>GO S.nt o.dst (.val (.one (.ptr b p)))
  |none=>none
 |.binOp op t x y u=>match lit? (cG V x),lit? (cG V y) with
  |some vx,some vy=>uU S o.dst (do eqGuard op t x y vx vy;binOp op t vx vy)
  |_,_=>yy S T V id o.dst (.bin op t) [x,y]
 |.unOp op t x=>match lit? (cG V x) with
  |some vx=>uU S o.dst (Op.unary op vx)
  |none=>yy S T V id o.dst (.un op t) [x]
 |.convert s d x=>match lit? (cG V x) with
  |some vx=>uU S o.dst (convert s d vx)
  |none=>yy S T V id o.dst (.cv s d) [x]
 |.slice t x lo hi mx=>yy S T V id o.dst (.sl t lo.isSome hi.isSome mx.isSome) (x::(lo.toList++hi.toList++mx.toList))
 |.makeSlice t l c=>yy S T V id o.dst (.mk t) [l,c]
 |.index t x i=>yy S T V id o.dst (.si t) [x,i]
 |.fieldAddr s x f=>match ptr? (cG V x) with
  |some (b,p)=>match Cn S.P s f with
   |some fl=>match S.P.info? fl.type with
    |some i=>match i.size with
     |0=>none
     |_+1=>GO S.nt o.dst (.val (.one (.ptr b (p+fl.offset))))
    |none=>none
   |none=>none
  |none=>yy S T V id o.dst (.fa s f) [x]
 |.makeFunc (.func f) first ⟨[]⟩=>yy S T V id o.dst (.mf f) first.toList
 |.field t x f=>match cG V x with
  |some (.val (.agg cs))=>match Cn S.P t f with
   |some fl=>match S.P.underlying fl.type with
    |some d=>match Gg d with
     |true=>match S.P.info? fl.type with
      |some i=>GO S.nt o.dst (.val (.agg ((cs.drop fl.offset).take i.size)))
      |none=>none
     |false=>match cs[fl.offset]? with
      |some c=>GO S.nt o.dst (.val (.one c))
      |none=>none
    |none=>none
   |none=>none
  |_=>none
 |.extract x i=>match cG V x with
  |some (.tup l)=>match l[i]? with
   |some y=>GO S.nt o.dst (.val y)
   |none=>none
  |_=>none
 |.buildSlice t n parts=>match entBs S T V id o.dst t n parts.toList with
  |some ws=>some ws
  |none=>bsW S V id o.dst t n parts
 |.indexAddr t x i=>match slc? (cG V x),lit? (cG V i),S.P.underlying t with
  |some (b,p,n),some (.int .i64 (.ofNat j)),some (.slice e)=>match Nat.blt j n with
   |true=>match S.P.info? e with
    |some inf=>GO S.nt o.dst (.val (.one (.ptr b (p+j*inf.size))))
    |none=>none
   |false=>none
  |_,_,_=>yy S T V id o.dst (.ix t) [x,i]
 |.call c=>match c.callee with
  |.value fo=>match cG V fo with
   |some (.val (.one (.lit (.func (.func f) ⟨[]⟩ ⟨[]⟩))))=>yy S T V id o.dst (.call f) c.args.toList
   |_=>yy S T V id o.dst .dyn (fo::c.args.toList)
  |.builtin b=>yy S T V id o.dst (.blt b c.argTypes.toList o.type) c.args.toList
  |_=>none
 |_=>none
section
variable {C:Ctx}{e:Env}{a:Act}{w:World}{V:uW}{T:List Ent}{id:Nat}{ws:Ws}{K:Act->World->Prop}{Q:Exit->Act->World->Prop}{o:Oper}
theorem zj (hV:ub C e a w V):∀ {xs:List Operand}{l:List AV},Et V xs=some l->yH e l (xs.map a.eval)
 |[],l,h=>by simp [Et] at h;subst h;rfl
 |x::xs,l,h=>by
  unfold Et at h;split at h
  ·rename_i y hy;split at h
   ·rename_i ys hys;injection h with h;subst h
    exact⟨_,_,rfl,cV hV hy,zj hV hys⟩
   ·cases h
  ·cases h
theorem ub.below (hC:C.Ok) (hg:jr C e a w) {w':World}(hb:Below w.heap.size w w') (hV:ub C e a w V):ub C e a w' V:=fun k v h=>(hV k v h).below hC hg hb
theorem WB (hC:C.Ok) (hT:∀ t∈T,t.Valid C) (hV:ub C e a w V) (hg:jr C e a w) (hn:∀ x,x/8=id->e.ν x=none) {dst:Option Tmp}{h:Hd}{xs:List Operand}
 (hu:yy C.toStat T V id dst h xs=some ws) (hP:YA C e a w id ws K) :
 ∃ t:Ent,t.Valid C/\t.hd=h/\jb C w t.args (xs.map a.eval)/\∀ v w',(Below w.heap.size w w'\/C.G w w')->t.res.is C w' v->K (a.put dst v) w':=by
 unfold yy at hu;split at hu
 ·rename_i l hl;split at hu
  ·rename_i t ht;split at hu
   ·rename_i x lv s' hm;split at hu
    ·rename_i hs;split at hu
     ·rename_i ws1 hp;injection hu with hu;subst hu
      obtain⟨h1,h2,h3⟩:=Yt ht;refine⟨t,hT t h1,h2,Kl hV h3 (zj hV hl),fun v w' hb hr=>?_⟩;have hs':s'<=id*8+8:=jo hs;obtain⟨e',g,hx⟩:=cjS hm hs' (fun x hx hxB=>hn x (by omega)) hr;have hg1:=hg.step hC hb;have hg':jr C e' a w':=⟨hg1.below,hg1.defers,hg1.size,fun b b' k h1 h2=>hg1.inj b b' k (by rw[← g.ρ];exact h1) (by rw[← g.ρ];exact h2),fun b k h1=>hg1.own b k (by rw[← g.ρ];exact h1),hg1.lim⟩;refine hP e' _ w' g.ext (fun b k hb=>.inl (by rw[← g.ρ];exact hb)) (fun s f hs=>(g.ν s f hs).imp (fun h=>h) (fun h=>by omega)) (hg'.put dst v) ?_ ?_
      ·intro k y hm;rcases List.mem_append.1 hm with hm|hm
       ·exact KG hg' hp hx k y hm
       ·obtain⟨x,c,rfl,rfl,f,h4,h5⟩:=g.live k y hm;exact⟨f,h4,h5⟩
      ·intro k y hk hn;exact((hk.step hC hg hb).ext g.ext).put (WT hp (zL hn).1)
     ·cases hu
    ·cases hu
   ·cases hu
  ·cases hu
 ·cases hu
theorem cJ {v:Value}(h:(execOp a.eval o).run C.P w=.ok (.value v) w) (hK:K (a.put o.dst v) w):o.wp C.P a w K Q:=by
 unfold Oper.wp;rw[h];exact hK
theorem GE {v:Value}{w':World}(h:(execOp a.eval o).run C.P w=.ok (.value v) w') (hK:K (a.put o.dst v) w'):o.wp C.P a w K Q:=by
 unfold Oper.wp;rw[h];exact hK
theorem yt (hC:C.Ok) (hT:∀ t∈T,t.Valid C) (hV:ub C e a w V) (hg:jr C e a w) (hn:∀ x,x/8=id->e.ν x=none) {h:Hd}{xs:List Operand}(hh:uA o=some (h,xs)) (hc:(∀ f,h≠.call f)/\(∀ k,h≠.st k)/\h≠.dyn)
 (hu:yy C.toStat T V id o.dst h xs=some ws) (hP:YA C e a w id ws K):o.wp C.P a w K Q:=by
 obtain⟨t,h1,h2,h3,h4⟩:=WB hC hT hV hg hn hu hP;obtain⟨hd,args,res⟩:=t;simp only at h2;subst h2;unfold Ent.Valid at h1;split at h1
 ·rename_i f hf;exact absurd hf (hc.1 f)
 ·rename_i k hf;exact absurd hf (hc.2.1 k)
 ·rename_i hf;exact absurd hf hc.2.2
 ·obtain⟨v,w',h5,h6,h7⟩:=h1 w a.eval o xs hh hg.below h3;exact GE h5 (h4 v w' h7.some h6)
theorem cnB (a:Act) (s:Tmp):a.put (some s) (a.eval (.tmp s))=a:=by
 have:a.tmps.setIfInBounds s (a.tmps.getD s undef)=a.tmps:=by
  apply Array.ext_getElem?;intro i;rw[ccu];split
  ·rename_i h;subst h;split
   ·rename_i h;rw[Ue h];rfl
   ·rename_i h;rw[Zp (by omega)]
  ·rfl
 obtain⟨ts,ds⟩:=a;simp only[Act.put,Act.eval,Array.set!_eq_setIfInBounds];simp only at this;rw[this]
theorem cnp (hC:C.Ok) (hT:∀ t∈T,t.Valid C) (hV:ub C e a w V) (hg:jr C e a w) (hn:∀ x,x/8=id->e.ν x=none) {t:TypeId}{s:Tmp}{y:Operand}(ho:o.op=.store t (.tmp s) y) (hd:o.dst=none)
 (hu:yy C.toStat T V id (some s) (.st t) [.tmp s,y]=some ws) (hP:YA C e a w id ws K):o.wp C.P a w K Q:=by
 obtain⟨en,h1,h2,h3,h4⟩:=WB hC hT hV hg hn hu hP;obtain⟨hd',args,res⟩:=en;simp only at h2;subst h2;obtain⟨w',h5,h6,h7⟩:=h1 w a.eval o (.tmp s) y ho hg.below h3;have hk:=h4 _ w' h7.some h6;rw[cnB] at hk;unfold Oper.wp;rw[h5,Oper.upon_skip,hd];exact hk
theorem cia (hC:C.Ok) (hT:∀ t∈T,t.Valid C) (hV:ub C e a w V) (hg:jr C e a w) (hn:∀ x,x/8=id->e.ν x=none) {f:FuncId}{c:Call}{fo:Operand}(ho:o.op=.call c) (hcal:c.callee=.value fo)
 (hfo:a.eval fo=.func (.func f) #[] #[]) (hu:yy C.toStat T V id o.dst (.call f) c.args.toList=some ws) (hP:YA C e a w id ws K):o.wp C.P a w K Q:=by
 obtain⟨t,h1,h2,h3,h4⟩:=WB hC hT hV hg hn hu hP;obtain⟨hd,args,res⟩:=t;simp only at h2;subst h2;obtain⟨hE,hc⟩:=h1;have hr:(execOp a.eval o).run C.P w=.ok (.enter f (c.args.toList.map a.eval).toArray) w:=by
  have h:=hE (c.args.map a.eval) w;simp [execOp,ho,resolve,hcal,hfo,Deferred.ofValue,invoke,h];apply CO;simp
 unfold Oper.wp;rw[hr];refine Calls.mono (hc w _ hg.below h3) ?_;rintro e w' ⟨v,rfl,h5,h6⟩;exact h4 v w' (.inl h6) h5
theorem ciu (hC:C.Ok) (hT:∀ t∈T,t.Valid C) (hV:ub C e a w V) (hg:jr C e a w) (hn:∀ x,x/8=id->e.ν x=none) {c:Call}{fo:Operand}(ho:o.op=.call c) (hcal:c.callee=.value fo)
 (hu:yy C.toStat T V id o.dst .dyn (fo::c.args.toList)=some ws) (hP:YA C e a w id ws K):o.wp C.P a w K Q:=by
 obtain⟨t,h1,h2,h3,h4⟩:=WB hC hT hV hg hn hu hP;obtain⟨hd,args,res⟩:=t;simp only at h2;subst h2;obtain⟨g,pre,cap,hf,hE,hc⟩:=h1 w (a.eval fo) (c.args.toList.map a.eval) hg.below h3;have hr:(execOp a.eval o).run C.P w=.ok (.enter g (pre++(c.args.toList.map a.eval).toArray++cap)) w:=by
  have h:=hE (pre++c.args.map a.eval++cap) w;have he:(c.args.toList.map a.eval).toArray=c.args.map a.eval:=by
   apply CO;simp
  rw[he];simp [execOp,ho,resolve,hcal,hf,Deferred.ofValue,invoke];simpa using h
 unfold Oper.wp;rw[hr];refine Calls.mono hc ?_;rintro e w' ⟨v,rfl,h5,h6⟩;exact h4 v w' (.inl h6) h5
theorem A1.cells_are {x:A1}{v:Value}(hC:C.Ok) (hV:ub C e a w V) (h:x.is e v) (hs:CQ (ky V C.csz) x.cells=true):cZ e x.cells v.cells.toList:=by
 cases x with
 |one c =>
  simp only[A1.cells,CQ] at hs ⊢;split at hs
  ·rename_i hc;have h1:=zP hC hV hc h;have:v.cells=#[v]:=by cases v<;>first|rfl|(simp [Value.oneCell'] at h1)
   rw[this];exact⟨v,[],rfl,h,rfl⟩
  ·cases hs
 |agg cs =>
  obtain⟨vs,h1,rfl⟩:=h;simpa [Value.cells,A1.cells] using h1
theorem Ce (hC:C.Ok) (hV:ub C e a w V):∀ {cs:List AC}{vs:List Value},CQ (ky V C.csz) cs=true->cZ e cs vs->∀ v∈vs,v.oneCell'=true
 |[],vs,_,h,v,hv=>by rw[h] at hv;simp at hv
 |c::cs,vs,hs,⟨x,ws,h1,h2,h3⟩,v,hv=>by
  simp only[CQ] at hs;split at hs
  ·rename_i hc;subst h1;rcases List.mem_cons.1 hv with rfl|hv
   ·exact zP hC hV hc h2
   ·exact Ce hC hV hs h3 v hv
  ·cases hs
theorem cmI (hC:C.Ok) (hV:ub C e a w V) (hg:jr C e a w) {dst:Option Tmp}{t:TypeId}{b p k:Nat}(hk:e.ρ b=some k) {x:A1}{v:Value}(hx:x.is e v)
 (hu:cix C.toStat V dst t b p x.cells=some ws) (hP:YA C e a w id ws K):∃ w',(storeVar t ⟨k,p,none⟩ v).run C.P w=.ok () w'/\K (a.put dst undef) w':=by
 unfold cix at hu;split at hu
 ·cases hu
 ·rename_i i hi;split at hu
  ·cases hu
  ·rename_i hsz;split at hu
   ·cases hu
   ·rename_i hall;split at hu
    ·rename_i ty n hbox;split at hu
     ·cases hu
     ·rename_i hle;split at hu
      ·cases hu
      ·rename_i hty;split at hu
       ·cases hu
       rename_i hfull;split at hu
       ·rename_i c0 hc0;split at hu
        ·cases hu
        ·rename_i hns;split at hu
         ·rename_i ws1 hp;injection hu with hu;subst hu
          obtain⟨k1,cs,h1,h2,h3⟩:=hV _ _ hbox;rw[hk] at h1;injection h1 with h1;subst h1
          obtain⟨k2,cs2,ty2,v0,h4,h5,h6,h7⟩:=hV _ _ hc0;rw[hk] at h4;injection h4 with h4;subst h4
          rw[h2] at h5;injection h5 with h5
          injection h5 with h5 h5' _
          subst h5;have hcs:=A1.cells_are hC hV hx hall;have hlen:v.cells.toList.length=x.cells.length:=hcs.length;have hle':=jo hle;obtain⟨w',cs',r1,r2,r3,r4,r5,r6⟩:=CB C.P k ty v.cells.toList 0 p w cs h2 (Ce hC hV hall hcs) (by rw[hlen,h3];omega);refine⟨w',?_,?_⟩
          ·have hs1:¬ v.cells.size≠i.size:=by
            have:=ct hsz;rw[← this,← hlen];simp
           simp only[storeVar,jc,jZ hi,jC,cg hs1];exact r1
          ·have hb:Below C.w0.heap.size w w':=r4.below (hg.own b k hk).1.1;have hg':jr C e a w':=⟨hg.below.trans hb,hg.defers,hg.size,hg.inj,fun b k h=>⟨(hg.own b k h).1,by rw[r4.size];exact(hg.own b k h).2⟩,fun k h=>⟨(hg.lim k h).1,by rw[r4.size];exact(hg.lim k h).2⟩⟩;refine hP e _ w' (Ext.refl e) (fun _ _=>.inl) (fun _ _=>.inl) (hg'.put dst undef) ?_ ?_
           ·intro key y hm;rcases List.mem_append.1 hm with hm|hm
            ·exact KG hg' hp rfl key y hm
            ·obtain⟨j,c,h8,rfl,rfl⟩:=KO hm;obtain⟨z,h9,h10⟩:=hcs.get j c h8;exact⟨k,cs',ty,z,hk,r2,r5 j z h9,h10⟩
           ·intro key y hh hn;obtain⟨hn1,hn2⟩:=zL hn;refine kF.put (WT hp hn1) ?_;cases key<;>cases y<;>try exact hh
            ·rename_i b' o' c';obtain⟨k',cs1,ty1,z,q1,q2,q3,q4⟩:=hh;by_cases hkk:k'=k
             ·subst hkk;have hbb:=hg.inj _ _ _ q1 hk;subst hbb;rw[h2] at q2;injection q2 with q2
              injection q2 with q2 _ _
              subst q2;refine⟨k',cs',ty,z,q1,r2,?_,q4⟩;rw[r6 o' (by rw[hlen];have:=caS hn2;omega)];exact q3
             ·exact⟨k',cs1,ty1,z,q1,(r4.block k' hkk).trans q2,q3,q4⟩
            ·rename_i b' ty' n';obtain⟨k',cs1,q1,q2,q3⟩:=hh;by_cases hkk:k'=k
             ·subst hkk;rw[h2] at q2;injection q2 with q2
              injection q2 with q2 q2' _
              subst q2;subst q2';exact⟨k',cs',q1,r2,r3.trans q3⟩
             ·exact⟨k',cs1,q1,(r4.block k' hkk).trans q2,q3⟩
            ·obtain⟨f,q1,q2⟩:=hh;exact⟨f,q1,hC.only _ _ _ k f cs ty (hg.own b k hk).1.1 (hg.own b k hk).1.2 h2 (cee hty) (fun z hz=>by
              rw[h6] at hz;injection hz with hz;subst hz
              exact coK hC hV hns h7) (by rw[h3];exact hfull) r4 q2⟩
         ·cases hu
       ·cases hu
    ·cases hu
theorem ccw (hg:jr C e a w) {dst:Option Tmp}{s:Sem Value}(hu:uU C.toStat dst s=some ws) (hP:YA C e a w id ws K):∃ v,s.run C.P w=.ok v w/\K (a.put dst v) w:=by
 unfold uU at hu;split at hu
 ·rename_i v hv;exact⟨v,KR hv w,hP.value hg hu rfl⟩
 ·cases hu
theorem cZ.drop {e:Env}:∀ {n:Nat}{cs:List AC}{vs:List Value},cZ e cs vs->cZ e (cs.drop n) (vs.drop n)
 |0,_,_,h=>h
 |n+1,[],vs,h=>by rw[h];rfl
 |n+1,c::cs,_,⟨v,ws,h1,_,h3⟩=>by rw[h1];exact h3.drop
theorem cZ.take {e:Env}:∀ {n:Nat}{cs:List AC}{vs:List Value},cZ e cs vs->cZ e (cs.take n) (vs.take n)
 |0,_,_,h=>rfl
 |n+1,[],vs,h=>by rw[h];rfl
 |n+1,c::cs,_,⟨v,ws,h1,h2,h3⟩=>⟨v,ws.take n,by rw[h1];rfl,h2,h3.take⟩
theorem CI {P:Program}{s f:Nat}{fl:Field}(h:Cn P s f=some fl):∃ fs,P.underlying s=some (.struct fs)/\fs[f]?=some fl:=by
 unfold Cn at h;split at h
 ·exact⟨_,by assumption,h⟩
 ·cases h
theorem EG (P:Program) (t:TypeId) (v:Value):(newVar t v).run P w=.ok ⟨w.heap.size,0,none⟩ { w with heap:=w.heap.push (.cells v.cells t) }:=by
 simp [newVar,newRow]
theorem Zj (off:Nat):∀ (vs:List Value) (cells:Array Value) (j:Nat),off+j+vs.length<=cells.size->
 ((vs.zipIdx j).foldl (fun cs (c,j)=>cs.setIfInBounds (off+j) c) cells).toList=cells.toList.take (off+j)++vs++cells.toList.drop (off+j+vs.length)
 |[],cells,j,h=>by simp
 |v::vs,cells,j,h=>by
  simp only[uP] at h;rw[List.zipIdx_cons,List.foldl_cons,Zj off vs _ (j+1) (by simp;omega)];have hlt:off+j<cells.size:=by omega
  simp only[cjp,uP];rw[show off+(j+1)=off+j+1 by omega,show off+j+1+vs.length=off+j+(vs.length+1) by omega];rw[List.take_set,List.drop_set_of_lt (by omega)];have hlen:off+j<cells.toList.length:=by simpa using hlt
  rw[cbF hlen];have hl:(cells.toList.take (off+j)).length=off+j:=by simp;omega
  rw[cbD _ _ (by omega),hl];simp
theorem Wh (hC:C.Ok) (hV:ub C e a w V) {fs:List Field}{place:Nat->Option (Nat×Nat)}(hp:∀ (j:Nat) (f:Field) (inf:TypeInfo),fs[j]?=some f->C.P.info? f.type=some inf->place j=some (f.offset,inf.size)) :
 ∀ {parts:List (Nat×Operand)} {cs ds:List AC} {z:Array Value},Ui C.toStat V fs parts cs=some ds->cZ e cs z.toList->∃ us,cZ e ds us/\Instr.fill place z (parts.map fun(i,x)=>(i,a.eval x))=some us.toArray
 |[],cs,ds,z,h,hz=>by
  simp [Ui] at h;subst h;exact⟨z.toList,hz,by simp [Instr.fill]⟩
 |(i,x)::l,cs,ds,z,h,hz=>by
  unfold Ui at h;split at h
  ·rename_i f hf;split at h
   ·rename_i j hj;split at h
    ·rename_i y hy;split at h
     ·rename_i hall;split at h
      ·rename_i hsz;split at h
       ·rename_i hle;have hx:=A1.cells_are hC hV (cV hV hy) hall;have hlen:(a.eval x).cells.toList.length=y.cells.length:=hx.length;have hzl:z.toList.length=cs.length:=hz.length;have hle:=jo hle;have hsz:=ct hsz;have hls:(a.eval x).cells.size=y.cells.length:=by simpa using hlen
        have hzs:z.size=cs.length:=by simpa using hzl
        let z':=((a.eval x).cells.toList.zipIdx 0).foldl (fun cs (c,j)=>cs.setIfInBounds (f.offset+j) c) z
        have hz':z'.toList=z.toList.take f.offset++(a.eval x).cells.toList++z.toList.drop (f.offset+y.cells.length):=by
         have:=Zj f.offset (a.eval x).cells.toList z 0 (by rw[hlen,hzs];omega);simp only[kh,hlen] at this;exact this
        obtain⟨us,h1,h2⟩:=Wh hC hV hp (z:=z') h (by rw[hz'];exact(hz.take.append hx).append hz.drop);refine⟨us,h1,?_⟩;simp only[jR,Instr.fill,hp i f j hf hj];rw[cg (by simp only[Wj,Ju];omega)];have e1:((a.eval x).cells.zipIdx.foldl (fun cs (c,j)=>cs.setIfInBounds (f.offset+j) c) z)=z':=by
         rw[← Array.foldl_toList];simp [z',Array.toList_zipIdx]
        rw[e1];exact h2
       ·cases h
      ·cases h
     ·cases h
    ·cases h
   ·cases h
  ·cases h
theorem JL (hC:C.Ok) (hV:ub C e a w V) {z n:Nat}:∀ {parts:List (Nat×Operand)}{j:Nat}{cs:List AC},Ja C.toStat V z n j parts=some cs->
 ∃ vs:List Value,vs.length=parts.length/\(∀ v∈vs,v.cells.size=z)/\(parts.map fun(i,x)=>(i,a.eval x))=((vs.zipIdx j).map fun x=>(x.2,x.1))/\∃ us,cZ e cs us/\(vs.flatMap fun v=>v.cells.toList)=us
 |[],j,cs,h=>by
  simp [Ja] at h;subst h;exact⟨[],rfl,fun v h=>by simp at h,rfl,[],rfl,rfl⟩
 |(i,x)::l,j,cs,h=>by
  unfold Ja at h;split at h
  ·rename_i hij;split at h
   ·rename_i y hy;split at h
    ·rename_i hall;split at h
     ·rename_i hsz;split at h
      ·rename_i ds hds;injection h with h;subst h
       have hx:=A1.cells_are hC hV (cV hV hy) hall;obtain⟨vs,h1,h2,h3,us,h4,h5⟩:=JL hC hV hds;refine⟨a.eval x::vs,by simp [h1],?_,?_,(a.eval x).cells.toList++us,hx.append h4,by simp [h5]⟩
       ·intro v hv;rcases List.mem_cons.1 hv with rfl|hv
        ·have:=hx.length;simp only[Ca] at this;rw[this,ct hsz]
        ·exact h2 v hv
       ·rw[jR,h3,List.zipIdx_cons,jR,ct hij]
      ·cases h
     ·cases h
    ·cases h
   ·cases h
  ·cases h
set_option maxHeartbeats 1000000 in
theorem GH (hC:C.Ok) (hT:∀ t∈T,t.Valid C) (hV:ub C e a w V) (hg:jr C e a w) (hf:e.ρ id=none) (hn:∀ x,x/8=id->e.ν x=none)
 (hu:Ge C.toStat T V id o=some ws) (hP:YA C e a w id ws K):o.wp C.P a w K Q:=by
 unfold Ge at hu;split at hu
 ·rename_i x ho;split at hu
  ·rename_i v hv;exact cJ (by simp [execOp,ho]) (hP.value hg hu (cV hV hv))
  ·cases hu
 ·rename_i x ho;split at hu
  ·rename_i v hv;exact cJ (by simp [execOp,ho]) (hP.value hg hu (cV hV hv))
  ·cases hu
 ·rename_i c x y ho;split at hu
  ·rename_i hc;have hc:=kD hV hc;split at hu
   ·rename_i v hv;exact cJ (v:=a.eval x) (by simp [execOp,ho,hc,asBool]) (hP.value hg hu (cV hV hv))
   ·cases hu
  ·rename_i hc;have hc:=kD hV hc;split at hu
   ·rename_i v hv;exact cJ (v:=a.eval y) (by simp [execOp,ho,hc,asBool]) (hP.value hg hu (cV hV hv))
   ·cases hu
  ·cases hu
 ·rename_i t ho;split at hu
  ·rename_i i hi;split at hu
   ·rename_i z hz;refine GE (v:=.pointer (some ⟨w.heap.size,0,none⟩)) (w':={ w with heap:=w.heap.push (.cells z.cells t) }) ?_ ?_
    ·simp [execOp,ho,Instr.alloc,zeroValue,typeInfo,hi,hz,EG]
    ·have:=hP.new hC hg hf hu (yZ e z.cells.toList);simpa using this
   ·cases hu
  ·cases hu
 ·rename_i t x ho;split at hu
  ·rename_i y hy;split at hu
   ·rename_i hs;have hx:=cV hV hy;refine GE (v:=.pointer (some ⟨w.heap.size,0,none⟩)) (w':={ w with heap:=w.heap.push (.cells (a.eval x).cells t) }) ?_ ?_
    ·simp [execOp,ho,Instr.box,EG]
    ·have:=hP.new hC hg hf hu (A1.cells_are hC hV hx hs);simpa using this
   ·cases hu
  ·cases hu
 ·rename_i t parts ho;split at hu
  ·rename_i i hi;split at hu
   ·rename_i z hz;split at hu
    ·rename_i fs hfs;split at hu
     ·rename_i hall;split at hu
      ·rename_i cs hcs;have hm:∀ (l:List Field),(l.all fun f=>(C.P.info? f.type).isSome)=true->∃ r,(l.mapM (m:=Sem) fun f=>Prod.mk f.offset <$> sizeOf f.type).run C.P w=.ok r w/\∀ (j:Nat) (f:Field) (inf:TypeInfo),l[j]?=some f->C.P.info? f.type=some inf->r[j]?=some (f.offset,inf.size):=by
        intro l
        induction l with
        |nil=>intro _;exact⟨[],by simp,fun j f inf h=>by simp at h⟩
        |cons f l ih =>
         intro hl;simp only[List.all_cons,EL] at hl;obtain⟨r,hr,hr2⟩:=ih hl.2;obtain⟨j,hj⟩:=Option.isSome_iff_exists.1 hl.1;refine⟨(f.offset,j.size)::r,by simp [Wp,jZ hj,hr],?_⟩;intro x g inf hx hinf;cases x with
         |zero=>simp at hx;subst hx;rw[hj] at hinf;injection hinf with hinf;subst hinf;rfl
         |succ x=>simpa using hr2 x g inf (by simpa using hx) hinf
       obtain⟨r,hr,hr2⟩:=hm fs.toList hall;obtain⟨us,hus,hfill⟩:=Wh hC hV (z:=z.cells) (place:=fun i=>r.toArray[i]?) (fun j f inf h1 h2=>by simpa using hr2 j f inf h1 h2) hcs (yZ e z.cells.toList);refine cJ (v:=.agg us.toArray) ?_ (hP.value hg hu ⟨us,hus,rfl⟩);have hfill':Instr.fill (fun i=>r.toArray[i]?) z.cells (parts.map fun(i,x)=>(i,a.eval x)).toList=some us.toArray:=by
        rw[YK];exact hfill
       simp only[execOp,ho,Instr.build,zeroValue,typeInfo,underlying,jc,cae,jC,hi,hz,hfs,zk,ZR,Sem.run_map];rw[show (fun(f:Field)=>(do let __do_lift ← sizeOf f.type;pure (f.offset,__do_lift):Sem (Nat×Nat)))=(fun f=>Prod.mk f.offset <$> sizeOf f.type) from rfl];simp only[hr,jC];rw[hfill'];rfl
      ·cases hu
     ·cases hu
    ·cases hu
   ·cases hu
  ·cases hu
 ·rename_i t x ho;split at hu
  ·rename_i b p hb;obtain⟨k,hk,hx⟩:=GV hV hb;split at hu
   ·rename_i y hy;obtain⟨v,h1,h2⟩:=JT hV hk hy;exact cJ (v:=v) (by simp [execOp,ho,hx,Instr.loadAt,Instr.sureAddr,h1]) (hP.value hg hu h2)
   ·cases hu
  ·exact yt hC hT hV hg hn (by simp [uA,ho]) (by simp) hu hP
 ·rename_i t x y ho;split at hu
  ·rename_i b p hb;obtain⟨k,hk,hx⟩:=GV hV hb;split at hu
   ·rename_i z hz;obtain⟨w',h1,h2⟩:=cmI hC hV hg hk (cV hV hz) hu hP;unfold Oper.wp;have:(execOp a.eval o).run C.P w=.ok .skip w':=by simp [execOp,ho,hx,Instr.storeAt,Instr.sureAddr,h1]
    rw[this];exact h2
   ·cases hu
  ·split at hu
   ·rename_i hd _;exact cnp hC hT hV hg hn ho (by assumption) hu hP
   ·cases hu
 ·rename_i x ho;split at hu
  ·rename_i b p hb;obtain⟨k,hk,hx⟩:=GV hV hb;exact cJ (v:=.pointer (some ⟨k,p,none⟩)) (by simp [execOp,ho,hx]) (hP.value hg hu ⟨k,hk,rfl⟩)
  ·cases hu
 ·rename_i op t x y u ho;split at hu
  ·rename_i vx vy h1 h2;have h1:=kD hV h1;have h2:=kD hV h2;obtain⟨v,h3,h4⟩:=ccw hg hu hP;refine cJ (v:=v) ?_ h4;simp only[execOp,ho,h1,h2,jc];simp only[jc] at h3;rw[h3];rfl
  ·exact yt hC hT hV hg hn (by simp [uA,ho]) (by simp) hu hP
 ·rename_i op t x ho;split at hu
  ·rename_i vx h1;have h1:=kD hV h1;obtain⟨v,h3,h4⟩:=ccw hg hu hP;exact cJ (v:=v) (by simp [execOp,ho,h1,h3]) h4
  ·exact yt hC hT hV hg hn (by simp [uA,ho]) (by simp) hu hP
 ·rename_i s d x ho;split at hu
  ·rename_i vx h1;have h1:=kD hV h1;obtain⟨v,h3,h4⟩:=ccw hg hu hP;exact cJ (v:=v) (by simp [execOp,ho,h1,h3]) h4
  ·exact yt hC hT hV hg hn (by simp [uA,ho]) (by simp) hu hP
 ·rename_i t x lo hi mx ho;exact yt hC hT hV hg hn (by simp [uA,ho]) (by simp) hu hP
 ·rename_i t l c ho;exact yt hC hT hV hg hn (by simp [uA,ho]) (by simp) hu hP
 ·rename_i t x i ho;exact yt hC hT hV hg hn (by simp [uA,ho]) (by simp) hu hP
 ·rename_i s x f ho;split at hu
  ·rename_i b p hb;obtain⟨k,hk,hx⟩:=GV hV hb;split at hu
   ·rename_i fl hfl;obtain⟨fs,h1,h2⟩:=CI hfl;split at hu
    ·rename_i i hi;split at hu
     ·cases hu
     ·rename_i n hsz;refine cJ (v:=.pointer (some ⟨k,p+fl.offset,none⟩)) ?_ (hP.value hg hu ⟨k,hk,rfl⟩);simp [execOp,ho,hx,Instr.fieldAt,underlying,h1,h2,Instr.sureAddr,fieldPlace,jZ hi,hsz,jL]
    ·cases hu
   ·cases hu
  ·exact yt hC hT hV hg hn (by simp [uA,ho]) (by simp) hu hP
 ·rename_i f first ho
  exact yt hC hT hV hg hn (by simp [uA,ho]) (by simp) hu hP
 ·rename_i t x f ho;split at hu
  ·rename_i cs hcs;obtain⟨vs,hvs,hx⟩:=cV hV hcs;split at hu
   ·rename_i fl hfl;obtain⟨fs,h1,h2⟩:=CI hfl;split at hu
    ·rename_i d hd;split at hu
     ·rename_i hagg;split at hu
      ·rename_i i hi;refine cJ (v:=.agg ((vs.drop fl.offset).take i.size).toArray) ?_ (hP.value hg hu ⟨_,hvs.drop.take,rfl⟩);have hxx:vs.toArray.extract fl.offset (fl.offset+i.size)=((vs.drop fl.offset).take i.size).toArray:=by
        simp [cgs]
       simp [execOp,ho,hx,Instr.field,underlying,h1,h2,asAgg,part,uu hd,hagg,jZ hi,cgs]
      ·cases hu
     ·rename_i hagg;split at hu
      ·rename_i c hc;obtain⟨v,h3,h4⟩:=hvs.get _ _ hc;refine cJ (v:=v) ?_ (hP.value hg hu h4);simp [execOp,ho,hx,Instr.field,underlying,h1,h2,asAgg,part,uu hd,hagg,h3]
      ·cases hu
    ·cases hu
   ·cases hu
  ·cases hu
 ·rename_i x i ho;split at hu
  ·rename_i l hl;obtain⟨vs,hvs,hx⟩:=cV hV hl;split at hu
   ·rename_i y hy;obtain⟨v,h3,h4⟩:=hvs.get _ _ hy;refine cJ (v:=v) ?_ (hP.value hg hu h4);simp [execOp,ho,hx,Instr.extract,h3]
   ·cases hu
  ·cases hu
 ·rename_i t n parts ho;split at hu
  ·rename_i ws1 hws;injection hu with hu;subst hu
   unfold entBs at hws;split at hws
   ·rename_i hp;refine yt hC hT hV hg hn ?_ (by simp) hws hP;have:=cdw hp;rw[← Zf] at this;simp [uA,ho,this]
   ·cases hws
  ·unfold bsW at hu;split at hu
   ·rename_i el hel;split at hu
    ·rename_i i hi;split at hu
     ·rename_i z0 hz0;split at hu
      ·cases hu
      ·rename_i z hz;split at hu
       ·cases hu
       ·rename_i hle;split at hu
        ·cases hu
        ·rename_i hpos;split at hu
         ·rename_i cs hcs;split at hu
          ·rename_i hlen;split at hu
           ·rename_i ws1 hnb;injection hu with hu;subst hu
            have hle:=jo hle;have hpos:=yq hpos;have hlen:=ct hlen;obtain⟨vs,h1,h2,h3,us,h4,h5⟩:=JL hC hV hcs;refine GE (v:=.slice (some ⟨w.heap.size,0,none⟩) n n) (w':={ w with heap:=w.heap.push (.cells us.toArray el) }) ?_ (hP.newV hC hg hf (p:=.slc id 0 n n) (fun e' he=>⟨_,he,rfl⟩) hnb h4);have hf:Instr.fill (fun j=>some (j*i.size,i.size)) ((Array.range (n*i.size)).map (z0.cells[·%z0.cells.size]!)) (parts.map fun(j,x)=>(j,a.eval x)).toList=some us.toArray:=by
             rw[YK,h3];have:=Great.fill_whole (s:=i.size) (by omega) vs ((Array.range (n*i.size)).map (z0.cells[·%z0.cells.size]!)) (fun v hv=>by rw[hz];exact h2 v hv) (by rw[h1,hlen];simp);rw[this,h5]
            have:=run_buildSlice w t el n (parts.map fun(j,x)=>(j,a.eval x)) _ i z0 hel hi hz0 (by rw[hz];show ¬ n*(z+1)>2^24;omega) (by rw[hz];exact Nat.mul_ne_zero (by omega) (by omega)) hf;simp only[execOp,ho,jc,this,jC];rfl
           ·cases hu
          ·cases hu
         ·cases hu
     ·cases hu
    ·cases hu
   ·cases hu
 ·rename_i t x i ho;split at hu
  ·rename_i b p n j el hb hj hel;obtain⟨k,c,hk,hx⟩:=ZW hV hb;have hi:=kD hV hj;split at hu
   ·rename_i hlt;have hlt:=yq hlt;split at hu
    ·rename_i inf hinf;refine cJ (v:=.pointer (some ⟨k,p+j*inf.size,none⟩)) ?_ (hP.value hg hu ⟨k,hk,rfl⟩);have h0:(0:Int)<=Int.ofNat j/\Int.ofNat j<n:=⟨ccS j,Int.ofNat_lt.2 hlt⟩;simp only[execOp,ho,hx,hi,Instr.indexAt,asIntOf,underlying,jc,zk,cae,jC,hel,co h0,jZ hinf,jL];rfl
    ·cases hu
   ·cases hu
  ·exact yt hC hT hV hg hn (by simp [uA,ho]) (by simp) hu hP
 ·rename_i c ho;split at hu
  ·rename_i fo hcal;split at hu
   ·rename_i f hfo;exact cia hC hT hV hg hn ho hcal (cV hV hfo) hu hP
   ·exact ciu hC hT hV hg hn ho hcal hu hP
  ·rename_i b hcal;exact yt hC hT hV hg hn (by simp [uA,ho,hcal]) (by simp) hu hP
  ·cases hu
 ·cases hu
end
def zd (pres:List Nat):List Edge->Nat
 |[]=>0
 |ed::l=>match Region.binds .any ed with
  |true=>2^ed.on||| pres.getD ed.on 0||| zd pres l
  |false=>zd pres l
def jj:List Nat->List Oper->List Nat
 |acc,[]=>acc
 |acc,o::l=>jj (acc++[zd acc o.after.toList]) l
theorem EJ {pres:List Nat}{j:Nat}:∀ {l:List Edge},(zd pres l).testBit j=true->∃ ed∈l,Region.binds .any ed=true/\(ed.on=j\/(pres.getD ed.on 0).testBit j=true)
 |[],h=>by simp [zd] at h
 |ed::l,h=>by
  unfold zd at h;split at h
  ·rename_i hb;simp only[Nat.testBit_or,Wj] at h;rcases h with(h|h)|h
   ·rw[Nat.testBit_two_pow] at h;exact⟨ed,by simp,hb,.inl (by simpa using h)⟩
   ·exact⟨ed,by simp,hb,.inr h⟩
   ·obtain⟨d,h1,h2⟩:=EJ h;exact⟨d,uL _ h1,h2⟩
  ·obtain⟨d,h1,h2⟩:=EJ h;exact⟨d,uL _ h1,h2⟩
theorem Cj:∀ (l:List Oper) (acc:List Nat),∃ r,jj acc l=acc++r/\r.length=l.length
 |[],acc=>⟨[],by simp [jj],rfl⟩
 |o::l,acc=>by
  obtain⟨r,h1,h2⟩:=Cj l (acc++[zd acc o.after.toList]);exact⟨zd acc o.after.toList::r,by simp [jj,h1],by simp [h2]⟩
theorem CL:∀ (l:List Oper) (acc:List Nat) (i:Nat) (o:Oper),l[i]?=some o->∀ j,((jj acc l).getD (acc.length+i) 0).testBit j=true->
 ∃ ed∈o.after.toList,Region.binds .any ed=true/\(ed.on=j\/((jj acc l).getD ed.on 0).testBit j=true)
 |[],acc,i,o,h,j,hj=>by simp at h
 |o'::l,acc,0,o,h,j,hj=>by
  simp at h;subst h;obtain⟨r,h1,h2⟩:=Cj l (acc++[zd acc o'.after.toList]);have h3:jj acc (o'::l)=acc++(zd acc o'.after.toList::r):=by simp [jj,h1]
  rw[h3] at hj ⊢;simp at hj;obtain⟨ed,h4,h5,h6⟩:=EJ hj;refine⟨ed,h4,h5,h6.imp (fun h=>h) fun h6=>?_⟩;have hlt:ed.on<acc.length:=by
   rcases jd ed.on acc.length with h|h
   ·exact h
   ·simp [List.getD,yA h] at h6
  simpa [List.getD,KQ hlt] using h6
 |o'::l,acc,i+1,o,h,j,hj=>by
  have:=CL l (acc++[zd acc o'.after.toList]) i o (by simpa using h) j (by
   have h1:acc.length+(i+1)=(acc++[zd acc o'.after.toList]).length+i:=by simp;omega
   rw[← h1];exact hj)
  exact this
def uO:Ws->List Key
 |[]=>[]
 |(k,_)::l=>k::uO l
def Kb (k:Key):List Key->Bool
 |[]=>false
 |k'::l=>match k'.same k with
  |true=>true
  |false=>Kb k l
def caE:List Key->List Key->Bool
 |[],[]=>true
 |a::l,b::m=>match a.same b with
  |true=>caE l m
  |false=>false
 |_,_=>false
theorem cfc:∀ {l m:List Key},caE l m=true->l=m
 |[],[],_=>rfl
 |[],_::_,h=>by simp [caE] at h
 |_::_,[],h=>by simp [caE] at h
 |a::l,b::m,h=>by
  unfold caE at h;split at h
  ·rename_i hs;rw[Key.same_iff.1 hs,cfc h]
  ·cases h
theorem Yo {k:Key}:∀ {ws:Ws},Kb k (uO ws)=false->find k ws=none
 |[],_=>rfl
 |(k',v)::l,h=>by
  simp only[uO,Kb] at h;split at h
  ·cases h
  ·rename_i hs;simp only[find,hs];exact Yo h
theorem caL {k:Key}:∀ {l:List Key},Kb k l=true↔k∈l
 |[]=>by simp [Kb]
 |k'::l=>by
  unfold Kb;split
  ·rename_i hs;rw[Key.same_iff.1 hs];simp
  ·rename_i hs;rw[caL];have:¬ k=k':=by
    rintro rfl;have:=Key.same_iff.2 (rfl:k=k);rw[hs] at this;cases this
   simp [this]
def Wg (pres:List Nat) (acc:List Ws) (i pi:Nat) (k:Key):List (List Key)->Nat->Option Kv->Option Kv
 |[],_,cur=>cur
 |l::K,j,cur=>match Kb k l with
  |false=>Wg pres acc i pi k K (j+1) cur
  |true=>match Nat.beq j i with
   |true=>Wg pres acc i pi k K (j+1) cur
   |false=>match pi.testBit j with
    |true=>match acc[j]? with
     |some ws=>Wg pres acc i pi k K (j+1) (find k ws)
     |none=>none
    |false=>match (pres.getD j 0).testBit i with
     |true=>Wg pres acc i pi k K (j+1) cur
     |false=>none
def ciP (K:List (List Key)) (pres:List Nat) (acc:List Ws) (base:uW) (i pi:Nat):uW:=fun k=>Wg pres acc i pi k K 0 (base k)
def cbC (S:Stat) (T:List Ent) (ops:List Oper) (V:uW) (id:Nat) (o:Oper):Option Ws :=
 match o.guard with
 |none=>Ge S T V id o
 |some (j,want)=>match ops[j]? with
  |some oj=>match oj.dst with
   |some t=>match lit? (cG V (.tmp t)) with
    |some (.bool b)=>match b,want with
     |true,true=>Ge S T V id o
     |false,false=>Ge S T V id o
     |_,_=>GO S.nt o.dst KU
    |some (.tuple ⟨[]⟩)=>GO S.nt o.dst KU
    |_=>none
   |none=>none
  |none=>none
def look (S:Stat) (T:List Ent) (ops:List Oper) (pres:List Nat) (base:uW) (nb:Nat):List Oper->Nat->Ws->List (List Key)->Option (List (List Key))
 |[],_,_,K=>some K.reverse
 |o::l,i,m,K=>match cbC S T ops (fun k=>match find k m with
  |none=>base k
  |some v=>some v) (nb+i) o with
  |some ws=>look S T ops pres base nb l (i+1) (ws++m) (uO ws::K)
  |none=>none
def cbV (S:Stat) (T:List Ent) (ops:List Oper) (pres:List Nat) (base:uW) (nb:Nat) (K:List (List Key)):List Oper->Nat->List Ws->Option (List Ws)
 |[],_,acc=>some acc
 |o::l,i,acc=>match cbC S T ops (ciP K pres acc base i (pres.getD i 0)) (nb+i) o with
  |some ws=>match caE (uO ws) (K.getD i []) with
   |true=>cbV S T ops pres base nb K l (i+1) (acc++[ws])
   |false=>none
  |none=>none
def Kd (pres:List Nat) (i:Nat) (k:Key):List (List Key)->Nat->Bool
 |[],_=>true
 |l::K,j=>match Kb k l with
  |false=>Kd pres i k K (j+1)
  |true=>match (pres.getD j 0).testBit i with
   |true=>Kd pres i k K (j+1)
   |false=>false
def WX (pres:List Nat) (i:Nat) (K:List (List Key)) (j:Nat):List Key->Bool
 |[]=>true
 |k::ks=>match Kd pres i k K j with
  |true=>WX pres i K j ks
  |false=>false
def YX (pres:List Nat):List (List Key)->Nat->Bool
 |[],_=>true
 |ks::K,i=>match WX pres i K (i+1) ks with
  |true=>YX pres K (i+1)
  |false=>false
def ES:List Oper->Nat->Bool
 |[],_=>true
 |o::l,i=>match o.after.toList.all (fun ed=>match Region.binds .any ed with
  |true=>Nat.blt ed.on i
  |false=>true) with
  |true=>ES l (i+1)
  |false=>false
structure St where
 nb:Nat
 m:Ws
def cdr:List Ws->Ws->Ws
 |[],m=>m
 |w::l,m=>cdr l (w++m)
def region (S:Stat) (T:List Ent) (ops:List Oper) (st:St):Option St :=
 match ES ops 0 with
 |false=>none
 |true=>match look S T ops (jj [] ops) (fun k=>find k st.m) st.nb ops 0 [] [] with
  |none=>none
  |some K=>match Nat.beq K.length ops.length with
   |false=>none
   |true=>match YX (jj [] ops) K 0 with
    |false=>none
    |true=>match cbV S T ops (jj [] ops) (fun k=>find k st.m) st.nb K ops 0 [] with
     |some W=>some ⟨st.nb+ops.length,cdr W st.m⟩
     |none=>none
theorem JC {pres:List Nat}{i:Nat}{k:Key}:∀ {K:List (List Key)}{j:Nat},Kd pres i k K j=true->∀ (x:Nat) (l:List Key),K[x]?=some l->Kb k l=true->(pres.getD (j+x) 0).testBit i=true
 |[],j,_,x,l,h,_=>by simp at h
 |y::K,j,h,x,l,hx,hm=>by
  unfold Kd at h;split at h
  ·rename_i hy;cases x with
   |zero=>simp at hx;subst hx;rw[hm] at hy;cases hy
   |succ x =>
    have:=JC h x l (by simpa using hx) hm;rw[show j+(x+1)=j+1+x by omega];exact this
  ·split at h
   ·rename_i hb;cases x with
    |zero=>exact hb
    |succ x =>
     have:=JC h x l (by simpa using hx) hm;rw[show j+(x+1)=j+1+x by omega];exact this
   ·cases h
theorem Us {pres:List Nat}{i:Nat}{K:List (List Key)}{j:Nat}:∀ {ks:List Key},WX pres i K j ks=true->∀ k∈ks,Kd pres i k K j=true
 |[],_,k,hk=>by simp at hk
 |x::ks,h,k,hk=>by
  unfold WX at h;split at h
  ·rename_i hx;rcases List.mem_cons.1 hk with rfl|hk
   ·exact hx
   ·exact Us h k hk
  ·cases h
theorem Zg {pres:List Nat}:∀ {K:List (List Key)}{i:Nat},YX pres K i=true->∀ (x:Nat) (ks:List Key),K[x]?=some ks->∀ k∈ks,∀ (y:Nat) (l:List Key),x<y->K[y]?=some l->Kb k l=true->(pres.getD (i+y) 0).testBit (i+x)=true
 |[],i,_,x,ks,hx,k,hk,y,l,hxy,hy,hm=>by simp at hx
 |z::K,i,h,x,ks,hx,k,hk,y,l,hxy,hy,hm=>by
  unfold YX at h;split at h
  ·rename_i hz;cases y with
   |zero=>omega
   |succ y =>
    have hy':K[y]?=some l:=by simpa using hy
    cases x with
    |zero =>
     simp at hx;subst hx;have:=JC (Us hz k hk) y l hy' hm;rw[show i+(y+1)=i+1+y by omega];exact this
    |succ x =>
     have:=Zg h x ks (by simpa using hx) k hk y l (by omega) hy' hm;rw[show i+(y+1)=i+1+y by omega,show i+(x+1)=i+1+x by omega];exact this
  ·cases h
theorem yQ:∀ {l:List Oper}{i:Nat},ES l i=true->∀ j o,l[j]?=some o->∀ ed∈o.after,Region.binds .any ed=true->ed.on<i+j
 |[],i,_,j,o,hj=>by simp at hj
 |x::l,i,h,j,o,hj=>by
  unfold ES at h;split at h
  ·rename_i hx;cases j with
   |zero =>
    simp at hj;subst hj;intro ed hed hb;have:=List.all_eq_true.1 hx ed (by simpa using hed);simp only[hb] at this;simpa using yq this
   |succ j =>
    have:=yQ h j o (by simpa using hj);rw[show i+(j+1)=i+1+j by omega];exact this
  ·cases h
theorem Yy {S:Stat}{T:List Ent}{ops:List Oper}{pres:List Nat}{base:uW}{nb:Nat}{K:List (List Key)}:∀ {l:List Oper}{i:Nat}{acc W:List Ws},acc.length=i->cbV S T ops pres base nb K l i acc=some W->
 (∃ r,W=acc++r)/\W.length=i+l.length/\∀ j o,l[j]?=some o->∃ ws,W[i+j]?=some ws/\cbC S T ops (ciP K pres (W.take (i+j)) base (i+j) (pres.getD (i+j) 0)) (nb+(i+j)) o=some ws/\uO ws=K.getD (i+j) []
 |[],i,acc,W,ha,h=>by
  simp [cbV] at h;subst h;exact⟨⟨[],by simp⟩,by simp [ha],fun j o hj=>by simp at hj⟩
 |o'::l,i,acc,W,ha,h=>by
  unfold cbV at h;split at h
  ·rename_i ws hws;split at h
   ·rename_i hk;obtain⟨⟨r,h1⟩,h2,h3⟩:=Yy (i:=i+1) (by simp [ha]) h;refine⟨⟨ws::r,by simp [h1]⟩,by simp [h2];omega,fun j o hj=>?_⟩;cases j with
    |zero =>
     simp at hj;subst hj;refine⟨ws,?_,?_,cfc hk⟩
     ·rw[h1,← ha];simp
     ·have:W.take (i+0)=acc:=by rw[h1,← ha];simp
      rw[this];exact hws
    |succ j =>
     have:=h3 j o (by simpa using hj);rw[show i+(j+1)=i+1+j by omega];exact this
   ·cases h
  ·cases h
section
variable {C:Ctx}{T:List Ent}{ops:Array Oper}{Q:Exit->Act->World->Prop}{base:uW}{nb:Nat}{K:List (List Key)}{W:List Ws}
def uN (W:List Ws) (l:Array Bool) (k:Key):List (List Key)->Nat->Option Kv->Option Kv
 |[],_,cur=>cur
 |ks::K,j,cur=>match Kb k ks with
  |false=>uN W l k K (j+1) cur
  |true=>match l.getD j false with
   |true=>match W[j]? with
    |some ws=>uN W l k K (j+1) (find k ws)
    |none=>uN W l k K (j+1) none
   |false=>uN W l k K (j+1) cur
def seen (K:List (List Key)) (W:List Ws) (base:uW) (l:Array Bool):uW:=fun k=>uN W l k K 0 (base k)
theorem Kf {pres:List Nat}{l:Array Bool}{i pi:Nat}{k:Key}(hi:l.getD i false=false) (hpi:∀ j,pi.testBit j=true->l.getD j false=true) (hpr:∀ j,(pres.getD j 0).testBit i=true->l.getD j false=false) {n:Nat} :
 ∀ {K:List (List Key)} {j:Nat} {c c':Option Kv} {v:Kv},(∀ v,c=some v->c'=some v)->Wg pres (W.take n) i pi k K j c=some v->uN W l k K j c'=some v
 |[],j,c,c',v,hc,h=>hc v h
 |x::K,j,c,c',v,hc,h=>by
  cases hm:Kb k x with
  |false =>
   simp only[Wg,hm] at h;simp only[uN,hm];exact Kf hi hpi hpr hc h
  |true =>
   simp only[Wg,hm] at h;simp only[uN,hm];cases hji:Nat.beq j i with
   |true =>
    simp only[hji] at h;have hji:=ct hji;subst hji;simp only[hi];exact Kf hi hpi hpr hc h
   |false =>
    simp only[hji] at h;cases hb:pi.testBit j with
    |true =>
     simp only[hb] at h;simp only[hpi j hb];cases hws:(W.take n)[j]? with
     |none=>simp [hws] at h
     |some ws =>
      simp only[hws] at h;have:W[j]?=some ws:=by
       rw[yF] at hws;split at hws
       ·exact hws
       ·cases hws
      simp only[this];exact Kf hi hpi hpr (fun _ h=>h) h
    |false =>
     simp only[hb] at h;cases hb2:(pres.getD j 0).testBit i with
     |true =>
      simp only[hb2] at h;simp only[hpr j hb2];exact Kf hi hpi hpr hc h
     |false=>rw[hb2] at h;cases h
theorem cdT {l l':Array Bool}{k:Key}:∀ {K:List (List Key)}{j:Nat}{c:Option Kv},(∀ (x:Nat) (ks:List Key),K[x]?=some ks->Kb k ks=true->l'.getD (j+x) false=l.getD (j+x) false)->uN W l' k K j c=uN W l k K j c
 |[],j,c,h=>rfl
 |y::K,j,c,h=>by
  unfold uN;have hr:∀ c,uN W l' k K (j+1) c=uN W l k K (j+1) c:=fun c=>cdT (fun x ks hx hm=>by
   have:=h (x+1) ks (by simpa using hx) hm;rw[show j+1+x=j+(x+1) by omega];exact this)
  cases hm:Kb k y with
  |false=>exact hr c
  |true =>
   have h0:=h 0 y (by simp) hm;simp only[kh] at h0;simp only[h0];split
   ·split<;>exact hr _
   ·exact hr c
theorem ZT {l:Array Bool}{k:Key}:∀ {K:List (List Key)}{j:Nat}{c:Option Kv},(∀ (x:Nat) (ks:List Key),K[x]?=some ks->Kb k ks=true->l.getD (j+x) false=false)->uN W l k K j c=c
 |[],j,c,h=>rfl
 |y::K,j,c,h=>by
  unfold uN;have hr:uN W l k K (j+1) c=c:=ZT (fun x ks hx hm=>by
   have:=h (x+1) ks (by simpa using hx) hm;rw[show j+1+x=j+(x+1) by omega];exact this)
  cases hm:Kb k y with
  |false=>exact hr
  |true =>
   have h0:=h 0 y (by simp) hm;simp only[kh] at h0;simp only[h0];exact hr
theorem ceQ {l:Array Bool}{k:Key}{ws:Ws}:∀ {K:List (List Key)}{j i:Nat}{c:Option Kv}{ks:List Key},K[i]?=some ks->Kb k ks=true->l.getD (j+i) false=true->W[j+i]?=some ws->
 (∀ (x:Nat) (ks:List Key),i<x->K[x]?=some ks->Kb k ks=true->l.getD (j+x) false=false)->uN W l k K j c=find k ws
 |[],j,i,c,ks,h,_,_,_,_=>by simp at h
 |y::K,j,0,c,ks,h,hm,hl,hw,hx=>by
  simp at h;subst h;unfold uN;simp only[kh] at hl hw;simp only[hm,hl,hw];exact ZT (fun x ks h1 h2=>by
   have:=hx (x+1) ks (by omega) (by simpa using h1) h2;rw[show j+1+x=j+(x+1) by omega];exact this)
 |y::K,j,i+1,c,ks,h,hm,hl,hw,hx=>by
  unfold uN;have hr:∀ c,uN W l k K (j+1) c=find k ws:=fun c=>ceQ (i:=i) (by simpa using h) hm (by rw[show j+1+i=j+(i+1) by omega];exact hl) (by rw[show j+1+i=j+(i+1) by omega];exact hw) (fun x ks h0 h1 h2=>by
   have:=hx (x+1) ks (by omega) (by simpa using h1) h2;rw[show j+1+x=j+(x+1) by omega];exact this)
  split
  ·exact hr _
  ·split
   ·split<;>exact hr _
   ·exact hr _
structure Inv (C:Ctx) (K:List (List Key)) (W:List Ws) (base:uW) (nb:Nat) (pres:List Nat) (n:Nat) (l:Array Bool) (a:Act) (w:World):Prop where
 size:l.size=n
 down:∀ i,l.getD i false=true->∀ j,(pres.getD i 0).testBit j=true->l.getD j false=true
 env:∃ e,ub C e a w (seen K W base l)/\jr C e a w/\(∀ b k,e.ρ b=some k->b<nb\/∃ i,b=nb+i/\l.getD i false=true)/\(∀ s f,e.ν s=some f->s/8<nb\/∃ i,s/8=nb+i/\l.getD i false=true)
theorem kU {l:Array Bool}{i j:Nat}(hi:i<l.size):(l.setIfInBounds i true).getD j false=if j=i then true else l.getD j false:=by
 simp only[uX,ccu];by_cases h:j=i
 ·subst h;simp [hi]
 ·rw[cg (fun e=>h e.symm),cg h]
theorem Yp {a:Act}{oj:Oper}{j:Nat}{t:Tmp}{b:Bool}(ho:ops[j]?=some oj) (hd:oj.dst=some t) (he:a.eval (.tmp t)=.bool b):yielded ops a.tmps j=some b:=by
 unfold yielded;simp only[ho,Option.bind_some,hd];simp only[Act.eval,uX] at he;cases h:a.tmps[t]? with
 |none=>rw[h] at he;simp [undef] at he
 |some x=>rw[h] at he;simp at he;rw[he]
theorem Inv.step (hC:C.Ok) (hT:∀ t∈T,t.Valid C) (hKl:Nat.beq K.length ops.toList.length=true) (hu:YX (jj [] ops.toList) K 0=true)
 (hck:cbV C.toStat T ops.toList (jj [] ops.toList) base nb K ops.toList 0 []=some W) {l:Array Bool} {a:Act} {w:World} {i:Nat} (hI:Inv C K W base nb (jj [] ops.toList) ops.size l a w)
 (hi:l[i]?=some false) (hr:∀ o,ops[i]?=some o->∀ ed∈o.after,Region.binds .any ed=true->l.getD ed.on false=true) :
 wpOp C.P ops Q i (fun a' w'=>Inv C K W base nb (jj [] ops.toList) ops.size (l.setIfInBounds i true) a' w') a w:=by
 obtain⟨hsz,hdown,e,hk,hg,hρ,hν⟩:=hI;have hil:i<l.size:=by
  rcases jd i l.size with h|h
  ·exact h
  ·simp [Zp h] at hi
 have hfalse:l.getD i false=false:=by simp [uX,hi]
 have hio:i<ops.size:=by omega
 have ho:ops[i]?=some ops[i]:=Ue hio;generalize ops[i]=o at ho;have hol:ops.toList[i]?=some o:=by simpa using ho
 obtain⟨_,hWl,hW⟩:=Yy (i:=0) rfl hck;obtain⟨ws,h1,h2,h3⟩:=hW i o hol;simp only[je] at h1 h2 h3 hWl;have hKi:i<K.length:=by
  have:=ct hKl;have:ops.toList.length=ops.size:=by simp
  omega
 have hKi':K[i]?=some (uO ws):=by
  rw[h3,kb hKi];simp [List.getD,hKi]
 have hpre:∀ j,((jj [] ops.toList).getD i 0).testBit j=true->l.getD j false=true:=by
  intro j hj;obtain⟨ed,h4,h5,h6⟩:=CL ops.toList [] i o hol j (by simpa using hj);have h7:=hr o ho ed (by simpa using h4) h5;rcases h6 with rfl|h6
  ·exact h7
  ·exact hdown ed.on h7 j h6
 have hpost:∀ j,((jj [] ops.toList).getD j 0).testBit i=true->l.getD j false=false:=by
  intro j hj;cases hlj:l.getD j false with
  |false=>rfl
  |true =>
   have:=hdown j hlj i hj;rw[hfalse] at this;cases this
 have hV:ub C e a w (ciP K (jj [] ops.toList) (W.take i) base i ((jj [] ops.toList).getD i 0)) :=
  fun k v hkv=>hk k v (Kf hfalse hpre hpost (fun _ h=>h) hkv)
 have hfr:e.ρ (nb+i)=none:=by
  cases h:e.ρ (nb+i) with
  |none=>rfl
  |some k =>
   rcases hρ _ _ h with h|⟨i',h4,h5⟩
   ·omega
   ·have:i'=i:=by omega
    subst this;rw[hfalse] at h5;cases h5
 have hfn:∀ x,x/8=nb+i->e.ν x=none:=by
  intro x hx;cases h:e.ν x with
  |none=>rfl
  |some k =>
   rcases hν _ _ h with h|⟨i',h4,h5⟩
   ·omega
   ·have:i'=i:=by omega
    subst this;rw[hfalse] at h5;cases h5
 have hP:YA C e a w (nb+i) ws (fun a' w'=>Inv C K W base nb (jj [] ops.toList) ops.size (l.setIfInBounds i true) a' w'):=by
  intro e' a' w' hx hρ' hν' hg' hnew hframe;refine⟨by simpa using hsz,?_,e',?_,hg',?_,?_⟩
  ·intro x hxl j hj;rw[kU hil] at hxl ⊢;by_cases hji:j=i
   ·rw[co hji]
   ·rw[cg hji];by_cases hxi:x=i
    ·subst hxi;exact hpre j hj
    ·rw[cg hxi] at hxl;exact hdown x hxl j hj
  ·intro k v hkv;have hkv:uN W (l.setIfInBounds i true) k K 0 (base k)=some v:=hkv;cases hm:Kb k (uO ws) with
   |true =>
    rw[ceQ (W:=W) (K:=K) (j:=0) (i:=i) hKi' hm (by rw[je,kU hil,co rfl]) (by rw[je];exact h1) (fun x ks hx hks hmk=>by
     rw[je,kU hil,cg (by omega)];have:=Zg hu i (uO ws) hKi' k (caL.1 hm) x ks hx hks hmk;simp only[je] at this;exact hpost x this)] at hkv
    exact hnew k v (uY hkv)
   |false =>
    rw[cdT (W:=W) (l:=l) (fun x ks hx hmk=>by
     rw[kU hil];split
     ·rename_i hxi;rw[je] at hxi;subst hxi;rw[hKi'] at hx;injection hx with hx;subst hx
      rw[hm] at hmk;cases hmk
     ·rfl)] at hkv
    exact hframe k v (hk k v hkv) (Yo hm)
  ·intro b k hb;rcases hρ' b k hb with h|h
   ·rcases hρ b k h with h|⟨x,h4,h5⟩
    ·exact .inl h
    ·refine .inr ⟨x,h4,?_⟩;rw[kU hil];split
     ·rfl
     ·exact h5
   ·exact .inr ⟨i,h,by rw[kU hil,co rfl]⟩
  ·intro s f hs;rcases hν' s f hs with h|h
   ·rcases hν s f h with h|⟨x,h4,h5⟩
    ·exact .inl h
    ·refine .inr ⟨x,h4,?_⟩;rw[kU hil];split
     ·rfl
     ·exact h5
   ·exact .inr ⟨i,h,by rw[kU hil,co rfl]⟩
 unfold wpOp;simp only[ho];unfold cbC at h2;split at h2
 ·rename_i hgu;have:Region.wanted o (yielded ops a.tmps)=true:=by simp [Region.wanted,hgu]
  rw[co this];exact .inl (GH hC hT hV hg hfr hfn h2 hP)
 ·rename_i j want hgu;split at h2
  ·rename_i oj hoj;split at h2
   ·rename_i t ht;split at h2
    ·rename_i b hb;have hy:=Yp (a:=a) (ops:=ops) (by simpa using hoj) ht (kD hV hb);split at h2
     ·have:Region.wanted o (yielded ops a.tmps)=true:=by simp [Region.wanted,hgu,hy]
      rw[co this];exact .inl (GH hC hT hV hg hfr hfn h2 hP)
     ·have:Region.wanted o (yielded ops a.tmps)=true:=by simp [Region.wanted,hgu,hy]
      rw[co this];exact .inl (GH hC hT hV hg hfr hfn h2 hP)
     ·rename_i n1 n2;have:¬ Region.wanted o (yielded ops a.tmps)=true:=by
       simp only[Region.wanted,hgu,hy];cases b<;>cases want<;>simp_all
      rw[cg this];exact hP.value hg h2 rfl
    ·rename_i hb;have he:a.eval (.tmp t)=.tuple #[]:=kD hV hb;have hy:yielded ops a.tmps j=none:=by
      unfold yielded;have hoj':ops[j]?=some oj:=by simpa using hoj
      simp only[hoj',Option.bind_some,ht];simp only[Act.eval,uX] at he;cases h:a.tmps[t]? with
      |none=>rfl
      |some x=>rw[h] at he;simp at he;rw[he]
     have:¬ Region.wanted o (yielded ops a.tmps)=true:=by simp [Region.wanted,hgu,hy]
     rw[cg this];exact hP.value hg h2 rfl
    ·cases h2
   ·cases h2
  ·cases h2
def Sat (C:Ctx) (st:St) (a:Act) (w:World):Prop :=
 ∃ e,ub C e a w (fun k=>find k st.m)/\jr C e a w/\(∀ b k,e.ρ b=some k->b<st.nb)/\(∀ s f,e.ν s=some f->s/8<st.nb)
theorem yw {k:Key}:∀ {l m:Ws},find k (l++m)=(match find k l with|some v=>some v|none=>find k m)
 |[],m=>rfl
 |(k',v)::l,m=>by
  simp only[JB,find];split
  ·rfl
  ·exact yw
theorem chP {k:Key}{l:Array Bool}(W:List Ws):∀ (L:List Ws) (K:List (List Key)) (j:Nat) (m:Ws),K.length=L.length->(∀ x ws,L[x]?=some ws->W[j+x]?=some ws/\uO ws=K.getD x []/\l.getD (j+x) false=true)->
 uN W l k K j (find k m)=find k (cdr L m)
 |[],[],j,m,_,_=>rfl
 |[],_::_,j,m,h,_=>by simp at h
 |_::_,[],j,m,h,_=>by simp at h
 |ws::L,ks::K,j,m,hlen,h=>by
  obtain⟨h1,h2,h3⟩:=h 0 ws (by simp);simp only[kh] at h1 h3;have h2:uO ws=ks:=by simpa using h2
  have hr:=chP (k:=k) (l:=l) W L K (j+1) (ws++m) (by simpa using hlen) (fun x ws' hx=>by
   obtain⟨q1,q2,q3⟩:=h (x+1) ws' (by simpa using hx);rw[show j+(x+1)=j+1+x by omega] at q1 q3;exact⟨q1,by simpa using q2,q3⟩)
  rw[yw] at hr;unfold uN;rw[← h2];cases hm:Kb k (uO ws) with
  |false =>
   rw[Yo hm] at hr;exact hr
  |true =>
   simp only[h3,h1];cases hf:find k ws with
   |some v=>rw[hf] at hr;exact hr
   |none =>
    exfalso;have:∀ (ws:Ws),k∈uO ws->find k ws≠none:=by
     intro ws
     induction ws with
     |nil=>intro h;simp [uO] at h
     |cons x ws ih =>
      obtain⟨k',v'⟩:=x;intro h;simp only[uO,uQ] at h;simp only[find];split
      ·simp
      ·rename_i hs;rcases h with rfl|h
       ·have:=Key.same_iff.2 (rfl:k=k);rw[hs] at this;cases this
       ·exact ih h
    exact this ws (caL.1 hm) hf
theorem Inv.done {st:St}(hKl:Nat.beq K.length ops.toList.length=true)
 (hck:cbV C.toStat T ops.toList (jj [] ops.toList) (fun k=>find k st.m) st.nb K ops.toList 0 []=some W) {l:Array Bool} {a:Act} {w:World}
 (hI:Inv C K W (fun k=>find k st.m) st.nb (jj [] ops.toList) ops.size l a w) (hall:∀ i,i<ops.size->l.getD i false=true):Sat C ⟨st.nb+ops.toList.length,cdr W st.m⟩ a w:=by
 obtain⟨hsz,hdown,e,hk,hg,hρ,hν⟩:=hI;obtain⟨_,hWl,hW⟩:=Yy (i:=0) rfl hck;simp only[je] at hWl hW;have hlim:∀ i,l.getD i false=true->i<ops.size:=by
  intro i hi;rcases jd i l.size with h|h
  ·omega
  ·simp [uX,Zp h] at hi
 have hin:∀ (j:Nat) (ws:Ws),W[j]?=some ws->j<ops.size/\uO ws=K.getD j []:=by
  intro j ws hj;have hlt:j<W.length:=by
   rcases jd j W.length with h|h
   ·exact h
   ·simp [yA h] at hj
  have hlt':j<ops.toList.length:=by omega
  obtain⟨ws',h4,_,h6⟩:=hW j _ (kb hlt');rw[hj] at h4;injection h4 with h4;subst h4
  exact⟨by simpa using hlt',h6⟩
 refine⟨e,?_,hg,?_,?_⟩
 ·intro k v hkv;apply hk k v;have hkv:find k (cdr W st.m)=some v:=hkv;rw[← chP (l:=l) W W K 0 st.m (by rw[hWl];exact ct hKl) (fun x ws hx=>by
   obtain⟨q1,q2⟩:=hin x ws hx;simp only[je];exact⟨hx,q2,hall x q1⟩)] at hkv
  exact hkv
 ·intro b k hb;rcases hρ b k hb with h|⟨i,h4,h5⟩
  ·exact cI h (cbM _ _)
  ·have:=hlim i h5;show b<st.nb+ops.toList.length;simp;omega
 ·intro s f hs;rcases hν s f hs with h|⟨i,h4,h5⟩
  ·exact cI h (cbM _ _)
  ·have:=hlim i h5;show s/8<st.nb+ops.toList.length;simp;omega
end
end Sym
end Go.Proofs.YtdopipkmcnkdjaaGreatDoor
