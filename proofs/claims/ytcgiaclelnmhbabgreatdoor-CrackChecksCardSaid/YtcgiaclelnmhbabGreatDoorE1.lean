/- Part 1. -/
import Derived.AtR
import Derived.Below
import Derived.ChangeArms
import Derived.ControlIn
import Derived.Laws.Append
import Derived.Laws.AppendOwn
import Derived.Laws.Bits64
import Derived.Laws.Entries
import Derived.Laws.Rows
import Derived.Laws.Sem
import Derived.Laws.World
import Derived.Lib.Hide
import Derived.OpenShut
import Derived.OwnWalk
import Derived.RangeFuncLeaves
import Derived.RangeFuncRecord
import Derived.Shelf.Abstract
import Derived.Tactics
import Derived.Orders
import Derived.Scope
import Derived.KernelRfl
import Derived.Great.BuildSlice
import Derived.Laws.OwnMore
set_option linter.all false
noncomputable section

namespace Go.Proofs.YtcgiaclelnmhbabGreatDoor
open Go Go.RowKit Go.Proofs
def uJ:=@Array.ext'
def WG:=@Array.getD_eq_getD_getElem?
def cfI:=@Array.getElem?_eq_getElem
def lemZ4:=@Array.getElem?_eq_none
def cdf:=@Array.getElem?_modify
def cfh:=@Array.getElem?_push
def lemZ7:=@Array.getElem?_setIfInBounds
def WM:=@Array.getElem?_toList
def yA:=@Array.length_toList
def cbU:=@Array.mapM_eq_mapM_toList
def GA:=@Bool.and_eq_true
def cu:=@Bool.eq_false_or_eq_true
def Gs:=@Bool.eq_iff_iff
def EK:=@Bool.false_eq_true
def YN:=@Bool.false_ne_true
def cbq:=@Bool.or_eq_false_iff
def YB:=@Go.Addr.add_lit
def Ux:=@Go.DataW.trod_int
def cba:=@Go.DataW.trod_struct
def zQ:=@Go.IntKind.wrap_u64
def ca:=@Go.Lib.hid
def Ei:=@Go.Oper.semAt_eq
def jB:=@Go.Proofs.enters_of
def kG:=@Go.Result.andThen_ok
def cF:=@Go.RowKit.Below.refl
def jA:=@Go.Sem.run_bind
def ER:=@Go.Sem.run_pure
def kA:=@Go.World.block_lt_of_cell?
def YV:=@Go.World.cell?_alloc_new
def Ub:=@Go.World.cell?_of_block
def uQ:=@Go.World.putObj_heap_other
def zp:=@Go.World.putObj_heap_same
def JG:=@Go.World.size_alloc
def jT:=@Go.bodyPost_ret
def ceB:=@Go.callsIn_of_wp_marks
def UB:=@Go.grownCap_ge
def caA:=@Go.growslice_fits
def YE:=@Go.heap_alloc_new
def Ge:=@Go.info_parts
def cbI:=@Go.run_append_grow
def Us:=@Go.run_endLoop
def caZ:=@Go.run_endRound
def cdQ:=@Go.run_enterLoop_outer
def ced:=@Go.run_firstCells_none
def ceS:=@Go.run_firstCells_some
def Ju:=@Go.run_program
def jm:=@Go.run_underlying
def caM:=@Go.trodAll_cons_mk
def uS:=@Go.wpIn_mono
def JN:=@Go.wpList_make_full
def Cu:=@Int.natCast_ediv
def kT:=@Int.natCast_mul
def Uy:=@Int.natCast_nonneg
def cbX:=@Int.ofNat_eq_natCast
def Uh:=@Int.tdiv_eq_ediv_of_nonneg
def Ev:=@Int.toNat_of_nonneg
def uU:=@List.append_assoc
def JM:=@List.append_nil
def caU:=@List.cons.injEq
def WY:=@List.cons_append
def caF:=@List.drop_append_of_le_length
def uF:=@List.drop_drop
def JB:=@List.drop_eq_getElem_cons
def cax:=@List.drop_of_length_le
def kr:=@List.drop_zero
def ceO:=@List.eq_of_mem_replicate
def yz:=@List.ext_getElem?
def uD:=@List.getD_eq_getElem?_getD
def JO:=@List.getElem?_append_left
def Yp:=@List.getElem?_append_right
def kJ:=@List.getElem?_drop
def jl:=@List.getElem?_eq_getElem
def uC:=@List.getElem?_eq_none
def uh:=@List.getElem?_map
def cdT:=@List.getElem?_set
def GK:=@List.getElem?_set_ne
def cbS:=@List.getElem?_set_self
def kB:=@List.getElem?_take
def ceD:=@List.getLast_eq_getElem
def kp:=@List.length_append
def CA:=@List.length_cons
def kL:=@List.length_drop
def CC:=@List.length_map
def Cz:=@List.length_set
def caN:=@List.length_singleton
def ji:=@List.length_take
def uf:=@List.map_cons
def zU:=@List.mem_cons
def zG:=@List.mem_cons_of_mem
def caY:=@List.mem_cons_self
def caK:=@List.mem_of_mem_drop
def cbG:=@List.mem_of_mem_take
def ceJ:=@List.mem_or_eq_of_mem_set
def EU:=@List.nil_append
def Gt:=@List.size_toArray
def jZ:=@List.take_append_drop
def WN:=@List.take_append_of_le_length
def uO:=@List.take_length
def kH:=@List.take_of_length_le
def Kz:=@List.take_succ_cons
def Ck:=@Nat.add_assoc
def GS:=@Nat.add_comm
def cD:=@Nat.add_mul
def Ki:=@Nat.add_mul_mod_self_left
def jz:=@Nat.add_zero
def zA:=@Nat.ble_eq_true_of_le
def kf:=@Nat.div_add_mod
def Wh:=@Nat.div_eq_of_lt
def kz:=@Nat.div_le_self
def uM:=@Nat.div_lt_of_lt_mul
def Wk:=@Nat.div_mul_cancel
def Jc:=@Nat.div_mul_le_self
def Wz:=@Nat.dvd_add_left
def cbg:=@Nat.dvd_iff_mod_eq_zero
def uL:=@Nat.dvd_mul_left_of_dvd
def cn:=@Nat.eq_of_beq_eq_true
def jr:=@Nat.eq_zero_or_pos
def zt:=@Nat.gcd_comm
def Ce:=@Nat.gcd_dvd_left
def yX:=@Nat.gcd_dvd_right
def Jh:=@Nat.gcd_pos_of_pos_right
def jh:=@Nat.le_of_ble_eq_true
def uK:=@Nat.le_of_lt
def cbm:=@Nat.le_of_mul_le_mul_right
def cb:=@Nat.le_refl
def jQ:=@Nat.le_succ
def cB:=@Nat.le_trans
def jH:=@Nat.lt_of_le_of_lt
def cT:=@Nat.lt_of_lt_of_le
def EA:=@Nat.lt_of_mul_lt_mul_left
def Eo:=@Nat.lt_of_mul_lt_mul_right
def jj:=@Nat.lt_or_ge
def ux:=@Nat.lt_succ_self
def Je:=@Nat.lt_trans
def Kc:=@Nat.lt_trichotomy
def kQ:=@Nat.min_eq_left
def kP:=@Nat.mod_eq_of_lt
def jJ:=@Nat.mod_lt
def cI:=@Nat.mul_add
def jk:=@Nat.mul_assoc
def jf:=@Nat.mul_comm
def caE:=@Nat.mul_div_mul_right
def uN:=@Nat.mul_le_mul
def ja:=@Nat.mul_le_mul_left
def cK:=@Nat.mul_le_mul_right
def Wj:=@Nat.mul_left_comm
def caD:=@Nat.mul_mod_mul_right
def zc:=@Nat.mul_one
def Cf:=@Nat.mul_zero
def cj:=@Nat.not_lt_zero
def jI:=@Nat.one_mul
def jW:=@Nat.pow_add
def jP:=@Nat.pow_le_pow_right
def WC:=@Nat.pow_lt_pow_iff_right
def Es:=@Nat.pow_one
def jV:=@Nat.pow_pos
def js:=@Nat.pow_succ
def Ch:=@Nat.pow_zero
def GP:=@Nat.succ_mul
def jb:=@Nat.zero_add
def cQ:=@Nat.zero_le
def Cg:=@Nat.zero_mul
def Cr:=@Option.getD_none
def GN:=@Option.getD_some
def Wy:=@Option.some.inj
def kC:=@Option.some.injEq
def co:=@Prod.mk.injEq
def jn:=@beq_eq_false_iff_ne
def zv:=@bne_iff_ne
def cw:=@congrArg
def Wx:=@decide_eq_false
def uk:=@decide_eq_true
def Kt:=@decide_eq_true_eq
def yj:=@if_false
def cf:=@if_neg
def cq:=@if_pos
def zw:=@if_true
def cO:=@of_decide_eq_false
def cH:=@of_decide_eq_true
namespace Pe
inductive AC where
 |lit (v:Value)
 |sym (s j:Nat)
 |ptr (b o:Nat)
 |slc (b o n c:Nat)
 |gsl (b n:Nat)
 |gso (b i z n:Nat)
 |fn (c:Nat)
 |yld (b:Nat)
inductive A1 where
 |one (c:AC)
 |agg (cs:List AC)
inductive AV where
 |val (a:A1)
 |tup (l:List A1)
structure Env where
 ρ:Nat->Option Nat
 κ:Nat->Nat
 ν:Nat->Option (List Value)
 φ:Nat->Option Value
 al:Nat->Bool
 ot:Nat->Prop:=fun _=>False
structure Ext (e e':Env):Prop where
 ρ:∀ b k,e.ρ b=some k->e'.ρ b=some k
 κ:∀ b k,e.ρ b=some k->e'.κ b=e.κ b
 ν:∀ s f,e.ν s=some f->e'.ν s=some f
 φ:∀ s f,e.φ s=some f->e'.φ s=some f
 ot:e'.ot=e.ot
theorem Ext.refl (e:Env):Ext e e:=⟨fun _ _ h=>h,fun _ _ _=>rfl,fun _ _ h=>h,fun _ _ h=>h,rfl⟩
theorem Ext.trans {a b c:Env}(h:Ext a b) (k:Ext b c):Ext a c :=
 ⟨fun x y z=>k.ρ x y (h.ρ x y z),fun x y z=>(k.κ x y (h.ρ x y z)).trans (h.κ x y z),fun x y z=>k.ν x y (h.ν x y z),fun x y z=>k.φ x y (h.φ x y z),k.ot.trans h.ot⟩
def AC.is (e:Env):AC->Value->Prop
 |.lit v',v=>v=v'
 |.sym s j,v=>∃ l,e.ν s=some l/\l[j]?=some v/\v.oneCell'=true
 |.ptr b o,v=>∃ k,e.ρ b=some k/\v=.pointer (some ⟨k,o,none⟩)
 |.slc b o n c,v=>∃ k,e.ρ b=some k/\v=.slice (some ⟨k,o,none⟩) n c
 |.gsl b n,v=>∃ k,e.ρ b=some k/\v=.slice (some ⟨k,0,none⟩) n (e.κ b)
 |.gso b i z n,v=>∃ k,e.ρ b=some k/\v=.slice (some ⟨k,i*z,none⟩) n (e.κ b-i)
 |.fn c,v=>e.φ c=some v
 |.yld b,v=>∃ k,e.ρ b=some k/\v=.func (.yield k) #[] #[]
theorem AC.is.ext {e e':Env}(h:Ext e e') {c:AC}{v:Value}(hc:c.is e v):c.is e' v:=by
 cases c with
 |lit=>exact hc
 |sym s j=>obtain⟨f,h1,h2⟩:=hc;exact⟨f,h.ν s f h1,h2⟩
 |ptr b o=>obtain⟨k,h1,h2⟩:=hc;exact⟨k,h.ρ b k h1,h2⟩
 |slc b o n c=>obtain⟨k,h1,h2⟩:=hc;exact⟨k,h.ρ b k h1,h2⟩
 |gsl b n=>obtain⟨k,h1,h2⟩:=hc;exact⟨k,h.ρ b k h1,by rw[h2,h.κ b k h1]⟩
 |gso b i z n=>obtain⟨k,h1,h2⟩:=hc;exact⟨k,h.ρ b k h1,by rw[h2,h.κ b k h1]⟩
 |fn c=>exact h.φ _ _ hc
 |yld b=>obtain⟨k,h1,h2⟩:=hc;exact⟨k,h.ρ b k h1,h2⟩
def cjd (e:Env):List AC->List Value->Prop
 |[],vs=>vs=[]
 |c::cs,vs=>∃ v ws,vs=v::ws/\c.is e v/\cjd e cs ws
theorem cjd.ext {e e':Env}(h:Ext e e'):∀ {cs:List AC}{vs:List Value},cjd e cs vs->cjd e' cs vs
 |[],_,hc=>hc
 |c::cs,_,⟨v,ws,h1,h2,h3⟩=>⟨v,ws,h1,h2.ext h,cjd.ext h h3⟩
theorem cjd.length {e:Env}:∀ {cs:List AC}{vs:List Value},cjd e cs vs->vs.length=cs.length
 |[],_,hc=>by rw[hc];rfl
 |c::cs,_,⟨v,ws,h1,h2,h3⟩=>by rw[h1];simp [h3.length]
theorem cjd.get {e:Env}:∀ {cs:List AC}{vs:List Value},cjd e cs vs->∀ (i:Nat) (c:AC),cs[i]?=some c->∃ v,vs[i]?=some v/\c.is e v
 |[],_,_,i,c,h=>by simp at h
 |c::cs,_,⟨v,ws,h1,h2,h3⟩,0,d,h=>by
  simp at h;subst h;subst h1;exact⟨v,rfl,h2⟩
 |c::cs,_,⟨v,ws,h1,h2,h3⟩,i+1,d,h=>by
  simp at h;subst h1;simpa using h3.get i d h
theorem cjd.append {e:Env}:∀ {cs ds:List AC}{vs ws:List Value},cjd e cs vs->cjd e ds ws->cjd e (cs++ds) (vs++ws)
 |[],_,_,_,h,k=>by rw[h];exact k
 |c::cs,_,_,_,⟨v,ws,h1,h2,h3⟩,k=>⟨v,_,by rw[h1];rfl,h2,h3.append k⟩
theorem cjd.drop {e:Env}:∀ {n:Nat}{cs:List AC}{vs:List Value},cjd e cs vs->cjd e (cs.drop n) (vs.drop n)
 |0,_,_,h=>h
 |n+1,[],vs,h=>by rw[h];rfl
 |n+1,c::cs,_,⟨v,ws,h1,_,h3⟩=>by rw[h1];exact h3.drop
theorem cjd.take {e:Env}:∀ {n:Nat}{cs:List AC}{vs:List Value},cjd e cs vs->cjd e (cs.take n) (vs.take n)
 |0,_,_,h=>rfl
 |n+1,[],vs,h=>by rw[h];rfl
 |n+1,c::cs,_,⟨v,ws,h1,h2,h3⟩=>⟨v,ws.take n,by rw[h1];rfl,h2,h3.take⟩
theorem zW (e:Env):∀ (vs:List Value),cjd e (vs.map .lit) vs
 |[]=>rfl
 |v::vs=>⟨v,vs,rfl,rfl,zW e vs⟩
def A1.is (e:Env):A1->Value->Prop
 |.one c,v=>c.is e v
 |.agg cs,v=>∃ vs,cjd e cs vs/\v=.agg vs.toArray
theorem A1.is.ext {e e':Env}(h:Ext e e') {c:A1}{v:Value}(hc:c.is e v):c.is e' v:=by
 cases c with
 |one c=>exact AC.is.ext h hc
 |agg cs=>obtain⟨vs,h1,h2⟩:=hc;exact⟨vs,h1.ext h,h2⟩
def ke (e:Env):List A1->List Value->Prop
 |[],vs=>vs=[]
 |c::cs,vs=>∃ v ws,vs=v::ws/\c.is e v/\ke e cs ws
theorem ke.ext {e e':Env}(h:Ext e e'):∀ {cs:List A1}{vs:List Value},ke e cs vs->ke e' cs vs
 |[],_,hc=>hc
 |c::cs,_,⟨v,ws,h1,h2,h3⟩=>⟨v,ws,h1,h2.ext h,ke.ext h h3⟩
theorem ke.get {e:Env}:∀ {cs:List A1}{vs:List Value},ke e cs vs->∀ (i:Nat) (c:A1),cs[i]?=some c->∃ v,vs[i]?=some v/\c.is e v
 |[],_,_,i,c,h=>by simp at h
 |c::cs,_,⟨v,ws,h1,h2,h3⟩,0,d,h=>by
  simp at h;subst h;subst h1;exact⟨v,rfl,h2⟩
 |c::cs,_,⟨v,ws,h1,h2,h3⟩,i+1,d,h=>by
  simp at h;subst h1;simpa using h3.get i d h
theorem ke.length {e:Env}:∀ {cs:List A1}{vs:List Value},ke e cs vs->vs.length=cs.length
 |[],_,hc=>by rw[hc];rfl
 |c::cs,_,⟨v,ws,h1,h2,h3⟩=>by rw[h1];simp [h3.length]
def AV.is (e:Env):AV->Value->Prop
 |.val a,v=>a.is e v
 |.tup l,v=>∃ vs,ke e l vs/\v=.tuple vs.toArray
theorem AV.is.ext {e e':Env}(h:Ext e e') {c:AV}{v:Value}(hc:c.is e v):c.is e' v:=by
 cases c with
 |val c=>exact A1.is.ext h hc
 |tup cs=>obtain⟨vs,h1,h2⟩:=hc;exact⟨vs,h1.ext h,h2⟩
inductive Jm where
 |ret
 |exit (id:Nat)
def Jm.code:Jm->Code
 |.ret=>.ret
 |.exit id=>.exit id
inductive Ls where
 |ready
 |busy
 |done (j:Jm)
inductive Grp (D:Type) where
 |lit (v:Value)
 |cls (d:D)
structure Lt (D:Type) where
 lo:Nat
 ty:Nat
 z:Nat
 n:Nat
 g:Nat->List (Grp D)
inductive kU (D:Type) where
 |blk (ty:Nat) (cs:List AC) (z:Option Nat)
 |clo (f:FuncId) (pre cap:List A1)
 |cls (d:D)
 /-- The record of a range over a function: the slots at its beginning, what is assigned to in a round, its code; how a round has left it. -/
 |loop (nt:Nat) (sl:List (Nat×AV)) (ps:List Nat) (fid:FuncId) (assign body:Code) (st:Ls)
 /-- The block for deferred calls of such a statement. -/
 |mark
 /-- A list of the call's own: the type and the size of an element, how many there are, what each one is. -/
 |gl (ty z n:Nat) (g:Nat->List (Grp D))
 /-- A pointer into such a list: to cell o of element i. -/
 |ep (b i z o:Nat)
 /-- The same into a list that is a symbol. -/
 |cp (s i z o:Nat)
 /-- A slice of such a list: from element i on, n elements. -/
 |es (b i n z:Nat)
 /-- A map: its keys, what lies under them, when they came in; how many came in. -/
 |mp (es:List (Value×A1×Nat)) (ck:Nat)
 /-- A map whose keys are integers (0) or so many each, as a function; whether what lies in it are answers; a name for the stamp of an entry, and its key. -/
 |mf (nk:Nat) (vk:Bool) (g:List Int->Int) (pe:Option (Nat×List Int))
 |dead
structure Stat (D:Type) where
 P:Program
 csz:D->Nat
 okT:Nat->Bool
 /-- The class of lists whose elements are such; and back. -/
 mkL:Lt D->D
 unL:D->Option (Lt D)
 /-- From where on own blocks lie. -/
 lo:Nat
 /-- The class of function values with what is bound to them, and the boxes that they hold (type, size, cells); and back. -/
 mkF:FuncId->List (Grp D)->List (Nat×Nat×List (Grp D))->Option D
 unF:D->Option (FuncId×List (Grp D)×List (Nat×Nat×List (Grp D)))
structure Frm where
 w1:World
 e1:Env
 K:Nat->Prop
 pf:List Nat
 pr:List Nat
structure Ctx (D:Type) extends Stat D where
 E:D->World->List Value->Prop
 w0:World
 fr:Option Frm:=none
def Grp.n {D:Type}(csz:D->Nat):Grp D->Nat
 |.lit _=>1
 |.cls d=>csz d
section
variable {D:Type}(C:Ctx D) (w:World)
def Grp.is:Grp D->List Value->Prop
 |.lit v,vs=>vs=[v]
 |.cls d,vs=>C.E d w vs
def Gw:List (Grp D)->List Value->Prop
 |[],vs=>vs=[]
 |g::gs,vs=>g.is C w (vs.take (g.n C.csz))/\Gw gs (vs.drop (g.n C.csz))
def EN (L:Lt D) (v:Value):Prop :=
 (L.n=0/\∃ a,v=.slice a 0 0)\/∃ k o c arr pre vs rest,v=.slice (some ⟨k,o,none⟩) L.n c/\L.n<=c/\(∃ fr,w.heap[k]?=some (.cells arr L.ty fr))/\arr.toList=pre++vs++rest/\pre.length=o/\vs.length=L.n*L.z/\L.lo<=k/\(∀ v∈vs,v.oneCell'=true)/\∀ j,j<L.n->Gw C w (L.g j) ((vs.drop (j*L.z)).take L.z)
end
section
variable {D:Type}(C:Ctx D) (w:World)
def ym:List (Nat×Nat×List (Grp D))->List Value->Prop
 |[],q=>q=[]
 |c::cs,q=>∃ k o cp q',q=.pointer (some ⟨k,o,none⟩)::q'/\EN C w ⟨0,c.1,c.2.1,1,fun _=>c.2.2⟩ (.slice (some ⟨k,o,none⟩) 1 cp)/\ym cs q'
def JX:List (Grp D)->List Value->Prop
 |[],p=>p=[]
 |g::gs,p=>∃ vs,Gw C w (g::gs) vs/\p=[.agg vs.toArray]
def FnIs (f:FuncId) (pre:List (Grp D)) (cap:List (Nat×Nat×List (Grp D))) (v:Value):Prop :=
 ∃ p q,v=.func (.func f) p.toArray q.toArray/\JX C w pre p/\ym C w cap q
end
structure Ctx.Ok {D:Type}(C:Ctx D):Prop where
 lists:∀ L w v,EN C w L v->C.E (C.mkL L) w [v]
 unlist:∀ d L w l,C.unL d=some L->C.E d w l->∃ v,l=[v]/\EN C w L v
 los:C.lo<=C.w0.heap.size
 cell:∀ d w l,C.E d w l->∀ v∈l,v.oneCell'=true
 len:∀ d w l,C.E d w l->l.length=C.csz d
 mixed:C.P.follows .mixedOrders=true
 funs:∀ f pre cap d w v,C.mkF f pre cap=some d->FnIs C w f pre cap v->C.E d w [v]
 unfun:∀ d f pre cap w l,C.unF d=some (f,pre,cap)->C.E d w l->∃ v,l=[v]/\FnIs C w f pre cap v
section
variable {D:Type}
structure jy (e:Env) (w w':World):Prop where
 size:w.heap.size<=w'.heap.size
 block:∀ k,k<w.heap.size->(∀ b,e.ρ b≠some k)->¬ e.ot k->w'.heap[k]?=w.heap[k]?
theorem jy.refl (e:Env) (w:World):jy e w w:=⟨cb _,fun _ _ _ _=>rfl⟩
def Rob (C:Ctx D) (e:Env) (w:World) (d:D) (f:List Value):Prop:=∀ w',jy e w w'->C.E d w' f
structure Adv (e:Env) (w:World) (e':Env) (w':World):Prop where
 ext:Ext e e'
 size:w.heap.size<=w'.heap.size
 block:∀ k,k<w.heap.size->(∀ b,e.ρ b≠some k)->(∀ b,e'.ρ b≠some k)/\w'.heap[k]?=w.heap[k]?
theorem Adv.refl (e:Env) (w:World):Adv e w e w:=⟨Ext.refl e,cb _,fun _ _ h=>⟨h,rfl⟩⟩
theorem Adv.trans {e e' e'':Env}{w w' w'':World}(h:Adv e w e' w') (k:Adv e' w' e'' w''):Adv e w e'' w'' :=
 ⟨h.ext.trans k.ext,cB h.size k.size,fun x hx hn=>by
  obtain⟨h1,h2⟩:=h.block x hx hn;obtain⟨h3,h4⟩:=k.block x (cT hx h.size) h1;exact⟨h3,h4.trans h2⟩⟩
theorem Adv.keeps {e e':Env}{w w' w'':World}(h:Adv e w e' w') (k:jy e' w' w''):jy e w w'' :=
 ⟨cB h.size k.size,fun x hx hn ht=>by
  obtain⟨h1,h2⟩:=h.block x hx hn;exact(k.block x (cT hx h.size) h1 (by rw[h.ext.ot];exact ht)).trans h2⟩
theorem Rob.adv {C:Ctx D}{e e':Env}{w w':World}{d:D}{f:List Value}(h:Rob C e w d f) (a:Adv e w e' w'):Rob C e' w' d f:=fun w'' k=>h w'' (a.keeps k)
theorem Rob.out {C:Ctx D}{e:Env}{w:World}{d:D}{f:List Value}(h:Rob C e w d f):C.E d w f:=h w (jy.refl e w)
def Cd (C:Ctx D) (e:Env) (w:World) (gs:List (Grp D)) (vs:List Value):Prop:=∀ w',jy e w w'->Gw C w' gs vs
theorem Cd.adv {C:Ctx D}{e e':Env}{w w':World}{gs:List (Grp D)}{vs:List Value}(h:Cd C e w gs vs) (a:Adv e w e' w'):Cd C e' w' gs vs:=fun w'' k=>h w'' (a.keeps k)
theorem Cd.out {C:Ctx D}{e:Env}{w:World}{gs:List (Grp D)}{vs:List Value}(h:Cd C e w gs vs):Gw C w gs vs:=h w (jy.refl e w)
def findI {α:Type}(k:Nat):List (Nat×α)->Option α
 |[]=>none
 |p::l=>match Nat.beq p.1 k with
  |true=>some p.2
  |false=>findI k l
def find {α:Type} (k:Nat) (l:List (Nat×α)):Option α :=
 List.rec (motive:=fun _=>Option α) none (fun p _ ih=>match Nat.beq p.1 k with
  |true=>some p.2
  |false=>ih) l
theorem cP {α:Type}{k:Nat}:find k ([]:List (Nat×α))=none:=rfl
theorem cC {α:Type}{k:Nat}{p:Nat×α}{l:List (Nat×α)}:find k (p::l)=(match Nat.beq p.1 k with
 |true=>some p.2
 |false=>find k l):=rfl
def kE (C:Ctx D) (o:Obj):Prop:=(∃ cs t,o=.cells cs t (0,0)/\C.okT t=true)\/(∃ r,o=.loop r)\/(∃ r,o=.deferred r)\/∃ a c,o=.map a c
def jv (e:Env):List (Value×A1×Nat)->List MapEntry->Prop
 |[],l=>l=[]
 |p::es,l=>∃ v l',l=⟨p.1,v,p.2.2⟩::l'/\p.2.1.is e v/\jv e es l'
theorem jv.ext {e e':Env}(h:Ext e e'):∀ {es:List (Value×A1×Nat)}{l:List MapEntry},jv e es l->jv e' es l
 |[],_,hc=>hc
 |p::es,_,⟨v,l',h1,h2,h3⟩=>⟨v,l',h1,h2.ext h,jv.ext h h3⟩
def ug:Nat->List Int->Value
 |0,[i]=>.int .i64 i
 |0,_=>undef
 |_+1,l=>.agg (l.map (.int .i64)).toArray
def EV (i:Int):Bool:=!(decide (i=0))
def uH:Bool->Int->Value
 |true,i=>.bool (EV i)
 |false,i=>.int .i64 i
def ye:List (List Int×Int×Nat)->List Int->Int
 |[],_=>0
 |p::l,k=>if p.1=k then p.2.1 else ye l k
def CD (nk:Nat) (vk:Bool) (p:List Int×Int×Nat):MapEntry:=⟨ug nk p.1,uH vk p.2.1,p.2.2⟩
structure Jv (nk:Nat) (vk:Bool) (g:List Int->Int) (l:List (List Int×Int×Nat)) (es:List MapEntry) (ck:Nat):Prop where
 ents:es=l.map (CD nk vk)
 wide:∀ p∈l,p.1.length=max nk 1
 born:∀ p∈l,p.2.2<ck
 apart:l.Pairwise fun p q=>p.1≠q.1/\p.2.2≠q.2.2
 val:∀ k,ye l k=g k
def cjg (C:Ctx D) (e:Env) (w:World) (b:Nat):kU D->Prop
 |.blk ty cs z=>∃ k arr vs rest,e.ρ b=some k/\e.al b=true/\w.heap[k]?=some (.cells arr ty (0,0))/\arr.toList=vs++rest/\cjd e cs vs/\(match z with|none=>rest=[]|some z=>arr.size=e.κ b*z)
 |.clo f pre cap=>∃ p q,e.φ b=some (.func (.func f) p.toArray q.toArray)/\ke e pre p/\ke e cap q
 |.cls d=>∃ f,e.ν b=some f/\Rob C e w d f
 |.loop nt sl ps _ assign body st=>∃ k r,e.ρ b=some k/\e.al b=true/\w.heap[k]?=some (.loop r)/\e.φ b=some (.agg r.tmps)/\r.params=ps.toArray/\r.assign=assign/\r.body=body/\r.tmps.size=nt/\(∀ t x,find t sl=some x->∃ v,r.tmps[t]?=some v/\x.is e v)/\(match st with
  |.ready=>r.state=.ready/\r.pending=none
  |.busy=>r.state=.busy
  |.done j=>r.state=.done/\r.pending=some j.code)
 |.mark=>∃ k,e.ρ b=some k/\e.al b=true/\w.heap[k]?=some (.deferred (some []))
 |.gl ty z n g=>∃ v,e.φ b=some v/\((n=0/\v=.slice none 0 0)\/∃ k c arr vs rest,e.ρ b=some k/\e.al b=true/\v=.slice (some ⟨k,0,none⟩) n c/\w.heap[k]?=some (.cells arr ty (0,0))/\arr.toList=vs++rest/\vs.length=n*z/\arr.size=c*z/\n<=c/\(∀ v∈vs,v.oneCell'=true)/\∀ j,j<n->Cd C e w (g j) ((vs.drop (j*z)).take z))
 |.cp s i z o=>∃ k p n c,e.ν s=some [.slice (some ⟨k,p,none⟩) n c]/\e.φ b=some (.pointer (some ⟨k,p+(i*z+o),none⟩))
 |.ep l i z o=>∃ k,e.ρ l=some k/\e.φ b=some (.pointer (some ⟨k,i*z+o,none⟩))
 |.es l i n z=>∃ k N c,e.ρ l=some k/\e.φ l=some (.slice (some ⟨k,0,none⟩) N c)/\i+n<=c/\e.φ b=some (.slice (some ⟨k,i*z,none⟩) n (c-i))
 |.mp es ck=>∃ k arr,e.ρ b=some k/\e.al b=true/\e.φ b=some (.map (some k))/\w.heap[k]?=some (.map arr ck)/\jv e es arr.toList
 |.mf nk vk g pe=>∃ k arr ck l,e.ρ b=some k/\e.al b=true/\e.φ b=some (.map (some k))/\w.heap[k]?=some (.map arr ck)/\Jv nk vk g l arr.toList ck/\∀ s ns,pe=some (s,ns)->∃ p∈l,p.1=ns/\e.φ s=some (.int .i64 p.2.2)
 |.dead=>True
def FrOk (C:Ctx D) (e:Env) (w:World):Prop:=(∀ k,e.ot k->(∀ b,e.ρ b≠some k)/\∃ o,w.heap[k]?=some o/\kE C o)/\∀ F,C.fr=some F->(∀ b v,F.e1.φ b=some v->b∈F.pf/\e.φ b=some v)/\(∀ b f,F.e1.ν b=some f->b∈F.pf/\e.ν b=some f)/\(∀ b k,F.e1.ρ b=some k->b∈F.pr/\e.ρ b=some k)/\(∀ b j,e.ρ b=some j->F.K j\/F.w1.heap.size<=j)/\F.w1.heap.size<=w.heap.size/\∀ j,j<F.w1.heap.size->¬ F.K j->w.heap[j]?=F.w1.heap[j]?
theorem FrOk.adv {C:Ctx D}{e e':Env}{w w':World}(h:FrOk C e w) (a:Adv e w e' w'):FrOk C e' w':=by
 refine⟨fun k hk=>?_,fun F hf=>?_⟩
 ·rw[a.ext.ot] at hk;obtain⟨h0,o,h1,h2⟩:=h.1 k hk;obtain⟨h3,h4⟩:=a.block k (Array.getElem?_eq_some_iff.1 h1).1 h0;exact⟨h3,o,h4.trans h1,h2⟩
 ·obtain⟨h1,h2,h2',h3,h4,h5⟩:=h.2 F hf;have key:∀ j,j<F.w1.heap.size->¬ F.K j->(∀ b,e'.ρ b≠some j)/\w'.heap[j]?=w.heap[j]?:=fun j hj hk=>a.block j (cT hj h4) (fun b hb=>by
   rcases h3 b j hb with h|h
   ·exact hk h
   ·omega)
  refine⟨fun b v hb=>⟨(h1 b v hb).1,a.ext.φ _ _ (h1 b v hb).2⟩,fun b v hb=>⟨(h2 b v hb).1,a.ext.ν _ _ (h2 b v hb).2⟩,fun b v hb=>⟨(h2' b v hb).1,a.ext.ρ _ _ (h2' b v hb).2⟩,fun b j hb=>?_,cB h4 a.size,fun j hj hk=>(key j hj hk).2.trans (h5 j hj hk)⟩;rcases jj j F.w1.heap.size with hj|hj
  ·by_cases hk:F.K j
   ·exact .inl hk
   ·exact absurd hb ((key j hj hk).1 b)
  ·exact .inr hj
theorem FrOk.none {C:Ctx D}{e:Env}{w:World}(h:C.fr=Option.none) (ho:∀ k,¬ e.ot k):FrOk C e w:=⟨fun k hk=>absurd hk (ho k),fun _ hf=>by rw[h] at hf;cases hf⟩
structure Kv (C:Ctx D) (e:Env) (w:World):Prop where
 below:Below C.w0.heap.size C.w0 w
 inj:∀ b b' k,e.al b=true->e.al b'=true->e.ρ b=some k->e.ρ b'=some k->b=b'
 own:∀ b k,e.ρ b=some k->C.w0.heap.size<=k/\∃ o,w.heap[k]?=some o/\kE C o
 fr:FrOk C e w
theorem Kv.lt {C:Ctx D}{e:Env}{w:World}(h:Kv C e w) {b k:Nat}(hk:e.ρ b=some k):k<w.heap.size:=by
 obtain⟨_,o,h1,_⟩:=h.own b k hk;exact(Array.getElem?_eq_some_iff.1 h1).1
theorem cjg.adv {C:Ctx D}{e e':Env}{w w':World}(h:Adv e w e' w') {b:Nat}{o:kU D}(hb:∀ k,e.ρ b=some k->e.al b=true->e'.al b=true/\w'.heap[k]?=w.heap[k]?) (ho:cjg C e w b o):cjg C e' w' b o:=by
 cases o with
 |blk ty cs z =>
  obtain⟨k,arr,vs,rest,h1,h2,h3,h4,h5,h6⟩:=ho;obtain⟨h7,h8⟩:=hb k h1 h2;refine⟨k,arr,vs,rest,h.ext.ρ b k h1,h7,h8.trans h3,h4,h5.ext h.ext,?_⟩;cases z with
  |none=>exact h6
  |some z=>simp only at h6 ⊢;rw[h6,h.ext.κ b k h1]
 |clo f pre cap=>obtain⟨p,q,h1,h2,h3⟩:=ho;exact⟨p,q,h.ext.φ _ _ h1,h2.ext h.ext,h3.ext h.ext⟩
 |cls d=>obtain⟨f,h1,h2⟩:=ho;exact⟨f,h.ext.ν _ _ h1,h2.adv h⟩
 |loop nt sl ps fid assign body st =>
  obtain⟨k,r,h1,h2,h3,hφ,h4,h5,h6,h7,h8,h9⟩:=ho;obtain⟨q1,q2⟩:=hb k h1 h2;exact⟨k,r,h.ext.ρ b k h1,q1,q2.trans h3,h.ext.φ _ _ hφ,h4,h5,h6,h7,fun t x ht=>(by
   obtain⟨v,p1,p2⟩:=h8 t x ht;exact⟨v,p1,p2.ext h.ext⟩),h9⟩
 |mark =>
  obtain⟨k,h1,h2,h3⟩:=ho;obtain⟨q1,q2⟩:=hb k h1 h2;exact⟨k,h.ext.ρ b k h1,q1,q2.trans h3⟩
 |gl ty z n g =>
  obtain⟨v,h1,h2⟩:=ho;refine⟨v,h.ext.φ _ _ h1,h2.imp id ?_⟩;rintro⟨k,c,arr,vs,rest,h3,h4,h5,h6,h7,h8,h9,h10,h12,h11⟩;obtain⟨q1,q2⟩:=hb k h3 h4;exact⟨k,c,arr,vs,rest,h.ext.ρ b k h3,q1,h5,q2.trans h6,h7,h8,h9,h10,h12,fun j hj=>(h11 j hj).adv h⟩
 |cp s i z o=>obtain⟨k,p,n,c,h1,h2⟩:=ho;exact⟨k,p,n,c,h.ext.ν _ _ h1,h.ext.φ _ _ h2⟩
 |ep l i z o=>obtain⟨k,h1,h2⟩:=ho;exact⟨k,h.ext.ρ _ _ h1,h.ext.φ _ _ h2⟩
 |es l i n z=>obtain⟨k,N,c,h1,h2,h3,h4⟩:=ho;exact⟨k,N,c,h.ext.ρ _ _ h1,h.ext.φ _ _ h2,h3,h.ext.φ _ _ h4⟩
 |mp es ck =>
  obtain⟨k,arr,h1,h2,h3,h4,h5⟩:=ho;obtain⟨q1,q2⟩:=hb k h1 h2;exact⟨k,arr,h.ext.ρ b k h1,q1,h.ext.φ _ _ h3,q2.trans h4,h5.ext h.ext⟩
 |mf nk vk g pe =>
  obtain⟨k,arr,ck,l,h1,h2,h3,h4,h5,h6⟩:=ho;obtain⟨q1,q2⟩:=hb k h1 h2;exact⟨k,arr,ck,l,h.ext.ρ b k h1,q1,h.ext.φ _ _ h3,q2.trans h4,h5,fun s ns hs=>(by
   obtain⟨p,p1,p2,p3⟩:=h6 s ns hs;exact⟨p,p1,p2,h.ext.φ _ _ p3⟩)⟩
 |dead=>trivial
theorem Adv.below {C:Ctx D}{e:Env}{w w':World}(_hg:Kv C e w) (hb:Below w.heap.size w w'):Adv e w e w':=⟨Ext.refl e,hb.size,fun k hk hn=>⟨hn,hb.block k hk⟩⟩
theorem Kv.later {C:Ctx D}{e:Env}{w w':World}(hg:Kv C e w) (hb:Below w.heap.size w w'):Kv C e w' :=
 ⟨hg.below.trans ⟨hb.os,hb.tape,hb.output,hb.size,fun i hi=>hb.block i (cT hi hg.below.size)⟩,hg.inj,fun b k h=>by
  obtain⟨h1,o,h2,h3⟩:=hg.own b k h;exact⟨h1,o,(hb.block k (hg.lt h)).trans h2,h3⟩,hg.fr.adv (Adv.below hg hb)⟩
theorem cjg.below {C:Ctx D}{e:Env}{w w':World}(hg:Kv C e w) (hb:Below w.heap.size w w') {b:Nat}{o:kU D}(h:cjg C e w b o):cjg C e w' b o :=
 h.adv (Adv.below hg hb) (fun k hk ha=>⟨ha,hb.block k (hg.lt hk)⟩)
abbrev ct (D:Type):=Nat->Option (kU D)
abbrev cR:=Nat->Option AV
def cA (C:Ctx D) (e:Env) (w:World) (M:ct D):Prop:=∀ b o,M b=some o->cjg C e w b o
def cN (e:Env) (a:Act) (V:cR):Prop:=∀ t x,V t=some x->∃ v,a.tmps[t]?=some v/\x.is e v
theorem cN.ext {e e':Env}{a:Act}{V:cR}(h:cN e a V) (hx:Ext e e'):cN e' a V:=fun t x ht=>by
 obtain⟨v,h1,h2⟩:=h t x ht;exact⟨v,h1,h2.ext hx⟩
theorem jt (k o n:Nat):(⟨k,o,none⟩:Addr).add n=⟨k,o+n,none⟩:=by
 unfold Addr.add;split
 ·subst n;rfl
 ·rfl
theorem cjh {a b:Nat}(h:Nat.blt a b=true):a<b:=by simpa using h
abbrev Ws (D:Type):=List (Nat×kU D)
theorem yg {α:Type}{k:Nat}{v:α}:∀ {l:List (Nat×α)},find k l=some v->(k,v)∈l
 |[],h=>by simp [cP,cC] at h
 |(k',v')::l,h=>by
  rw[cC] at h;split at h
  ·rename_i hs;injection h with h;subst h
   rw[show k'=k from cn hs];simp
  ·exact zG _ (yg h)
def memN {α:Type}(k:Nat):List (Nat×α)->Bool
 |[]=>false
 |p::l=>match Nat.beq p.1 k with
  |true=>true
  |false=>memN k l
theorem KN {α:Type}{k:Nat}:∀ {l:List (Nat×α)},memN k l=false->find k l=none
 |[],_=>rfl
 |p::l,h=>by
  unfold memN at h;split at h
  ·cases h
  ·rename_i hs;simp only[cP,cC,hs];exact KN h
theorem zj {α:Type}{k:Nat}:∀ {l m:List (Nat×α)},find k (l++m)=(match find k l with|some v=>some v|none=>find k m)
 |[],m=>rfl
 |(k',v)::l,m=>by
  simp only[WY,cP,cC];split
  ·rfl
  ·exact zj
def jK {α:Type}(ws l:List (Nat×α)):List (Nat×α) :=
 match ws with
 |[]=>l
 |p::ps=>p::(ps++l)
theorem uP {α:Type}{k:Nat}{ws l:List (Nat×α)}:find k (jK ws l)=(match find k ws with|some v=>some v|none=>find k l):=by
 cases ws with
 |nil=>rfl
 |cons p ps=>exact zj (l:=p::ps)
structure New (n0 n1:Nat) (e e':Env):Prop where
 ρ:∀ b k,e'.ρ b=some k->e.ρ b=some k\/(n0<=b/\b<n1)
 ν:∀ b k,e'.ν b=some k->e.ν b=some k\/(n0<=b/\b<n1)
 φ:∀ b k,e'.φ b=some k->e.φ b=some k\/(n0<=b/\b<n1)
theorem New.refl (n0 n1:Nat) (e:Env):New n0 n1 e e:=⟨fun _ _=>.inl,fun _ _=>.inl,fun _ _=>.inl⟩
theorem New.trans {n0 n1 n2 : Nat} {e e' e'' : Env} (h : New n0 n1 e e') (k : New n1 n2 e' e'') (h1 : n0 ≤ n1) (h2 : n1 ≤ n2) : New n0 n2 e e'' :=
  ⟨fun b x hx => (k.ρ b x hx).elim (fun hx => (h.ρ b x hx).imp id fun h => ⟨h.1, cT h.2 h2⟩) (fun h => .inr ⟨cB h1 h.1, h.2⟩),
   fun b x hx => (k.ν b x hx).elim (fun hx => (h.ν b x hx).imp id fun h => ⟨h.1, cT h.2 h2⟩) (fun h => .inr ⟨cB h1 h.1, h.2⟩),
   fun b x hx => (k.φ b x hx).elim (fun hx => (h.φ b x hx).imp id fun h => ⟨h.1, cT h.2 h2⟩) (fun h => .inr ⟨cB h1 h.1, h.2⟩)⟩
theorem New.mono {n0 n1 m0 m1:Nat}{e e':Env}(h:New n0 n1 e e') (h0:m0<=n0) (h1:n1<=m1):New m0 m1 e e' :=
 ⟨fun b x hx=>(h.ρ b x hx).imp id fun h=>⟨cB h0 h.1,cT h.2 h1⟩,fun b x hx=>(h.ν b x hx).imp id fun h=>⟨cB h0 h.1,cT h.2 h1⟩,fun b x hx=>(h.φ b x hx).imp id fun h=>⟨cB h0 h.1,cT h.2 h1⟩⟩
def jC (n0 n1:Nat) (e:Env):Prop:=∀ b,n0<=b->b<n1->e.ρ b=none/\e.ν b=none/\e.φ b=none
theorem jC.new {n0 n1 n2:Nat}{e e':Env}(h:jC n0 n2 e) (k:New n0 n1 e e') (h01:n0<=n1):jC n1 n2 e':=fun b h1 h2=>by
 obtain⟨q1,q2,q3⟩:=h b (cB h01 h1) h2;refine⟨?_,?_,?_⟩
 ·cases hx:e'.ρ b with
  |none=>rfl
  |some x =>
   rcases k.ρ b x hx with h|h
   ·rw[q1] at h;cases h
   ·omega
 ·cases hx:e'.ν b with
  |none=>rfl
  |some x =>
   rcases k.ν b x hx with h|h
   ·rw[q2] at h;cases h
   ·omega
 ·cases hx:e'.φ b with
  |none=>rfl
  |some x =>
   rcases k.φ b x hx with h|h
   ·rw[q3] at h;cases h
   ·omega
theorem jC.mono {n0 n1 m0 m1:Nat}{e:Env}(h:jC n0 n1 e) (h0:n0<=m0) (h1:m1<=n1):jC m0 m1 e:=fun b q1 q2=>h b (cB h0 q1) (cT q2 h1)
structure jM (C:Ctx D) (e:Env) (w:World) (n0 n1:Nat) (ws:Ws D) (e':Env) (w':World):Prop where
 le:n0<=n1
 adv:Adv e w e' w'
 new:New n0 n1 e e'
 good:Kv C e' w'
 wrote:∀ b o,find b ws=some o->cjg C e' w' b o
 kept:∀ b o,cjg C e w b o->find b ws=none->cjg C e' w' b o
theorem jM.refl {C:Ctx D}{e:Env}{w:World}(hg:Kv C e w) (n0:Nat):jM C e w n0 n0 [] e w :=
 ⟨cb _,Adv.refl e w,New.refl _ _ e,hg,fun b o h=>by simp [cP,cC] at h,fun b o h _=>h⟩
theorem jM.below {C:Ctx D}{e:Env}{w w':World}(hg:Kv C e w) (hb:Below w.heap.size w w') (n0:Nat):jM C e w n0 n0 [] e w' :=
 ⟨cb _,Adv.below hg hb,New.refl _ _ e,hg.later hb,fun b o h=>by simp [cP,cC] at h,fun b o h _=>h.below hg hb⟩
theorem jM.trans {C:Ctx D}{e e' e'':Env}{w w' w'':World}{n0 n1 n2:Nat}{ws ws':Ws D}(h:jM C e w n0 n1 ws e' w') (k:jM C e' w' n1 n2 ws' e'' w''):jM C e w n0 n2 (jK ws' ws) e'' w'' :=
 ⟨cB h.le k.le,h.adv.trans k.adv,h.new.trans k.new h.le k.le,k.good,fun b o ho=>by
  rw[uP] at ho;split at ho
  ·rename_i v hv;injection ho with ho;subst ho
   exact k.wrote b _ hv
  ·rename_i hn;exact k.kept b o (h.wrote b o ho) hn,fun b o ho hn=>by
  rw[uP] at hn;split at hn
  ·cases hn
  ·rename_i hn';exact k.kept b o (h.kept b o ho hn) hn'⟩
end
variable {D:Type}
def CV (V:cR):Operand->Option AV
 |.tmp t=>V t
 |.const (.agg cs)=>some (.val (.agg (cs.toList.map .lit)))
 |.const v=>some (.val (.one (.lit v)))
 |.global g=>some (.val (.one (.lit (.pointer (some ⟨g,0,none⟩)))))
 |.func f=>some (.val (.one (.lit (.func (.func f) #[] #[]))))
theorem cM {e:Env}{a:Act}{V:cR}(hV:cN e a V) {x:Operand}{av:AV}(h:CV V x=some av):av.is e (a.eval x):=by
 unfold CV at h;split at h
 ·rename_i t;obtain⟨v,h1,h2⟩:=hV t av h;rw[Act.eval,WG,h1];exact h2
 ·injection h with h;subst h
  exact⟨_,zW e _,by simp [Act.eval]⟩
 ·injection h with h;subst h;exact rfl
 ·injection h with h;subst h;exact rfl
 ·injection h with h;subst h;exact rfl
def lit?:Option AV->Option Value
 |some (.val (.one (.lit v)))=>some v
 |_=>none
theorem ki {e:Env}{a:Act}{V:cR}(hV:cN e a V) {x:Operand}{v:Value}(h:lit? (CV V x)=some v):a.eval x=v:=by
 unfold lit? at h;split at h
 ·rename_i hx;injection h with h;subst h
  exact cM hV hx
 ·cases h
def ptr?:Option AV->Option (Nat×Nat)
 |some (.val (.one (.ptr b o)))=>some (b,o)
 |_=>none
theorem Zb {e:Env}{a:Act}{V:cR}(hV:cN e a V) {x:Operand}{b o:Nat}(h:ptr? (CV V x)=some (b,o)) :
 ∃ k,e.ρ b=some k/\a.eval x=.pointer (some ⟨k,o,none⟩):=by
 unfold ptr? at h;split at h
 ·rename_i hx;injection h with h;injection h with h1 h2;subst h1;subst h2
  exact cM hV hx
 ·cases h
def CP (V:cR):List Operand->Option (List AV)
 |[]=>some []
 |x::xs=>match CV V x with
  |some a=>match CP V xs with
   |some l=>some (a::l)
   |none=>none
  |none=>none
def kv (e:Env):List AV->List Value->Prop
 |[],vs=>vs=[]
 |c::cs,vs=>∃ v ws,vs=v::ws/\c.is e v/\kv e cs ws
theorem kv.length {e:Env}:∀ {cs:List AV}{vs:List Value},kv e cs vs->vs.length=cs.length
 |[],_,hc=>by rw[hc];rfl
 |c::cs,_,⟨v,ws,h1,h2,h3⟩=>by rw[h1];simp [h3.length]
theorem kv.get {e:Env}:∀ {cs:List AV}{vs:List Value},kv e cs vs->∀ (i:Nat) (c:AV),cs[i]?=some c->∃ v,vs[i]?=some v/\c.is e v
 |[],_,_,i,c,h=>by simp at h
 |c::cs,_,⟨v,ws,h1,h2,h3⟩,0,d,h=>by
  simp at h;subst h;subst h1;exact⟨v,rfl,h2⟩
 |c::cs,_,⟨v,ws,h1,h2,h3⟩,i+1,d,h=>by
  simp at h;subst h1;simpa using h3.get i d h
theorem kv.append {e:Env}:∀ {cs ds:List AV}{vs ws:List Value},kv e cs vs->kv e ds ws->kv e (cs++ds) (vs++ws)
 |[],_,_,_,h,k=>by rw[h];exact k
 |c::cs,_,_,_,⟨v,ws,h1,h2,h3⟩,k=>⟨v,_,by rw[h1];rfl,h2,h3.append k⟩
def jU:List A1->List AV
 |[]=>[]
 |x::l=>.val x::jU l
theorem ub {e:Env}:∀ {l:List A1}{vs:List Value},ke e l vs->kv e (jU l) vs
 |[],_,h=>h
 |x::l,_,⟨v,ws,h1,h2,h3⟩=>⟨v,ws,h1,h2,ub h3⟩
theorem uZ {e:Env}{a:Act}{V:cR}(hV:cN e a V):∀ {xs:List Operand}{l:List AV},CP V xs=some l->kv e l (xs.map a.eval)
 |[],l,h=>by simp [CP] at h;subst h;rfl
 |x::xs,l,h=>by
  unfold CP at h;split at h
  ·rename_i y hy;split at h
   ·rename_i ys hys;injection h with h;subst h
    exact⟨_,_,rfl,cM hV hy,uZ hV hys⟩
   ·cases h
  ·cases h
inductive Pat (D:Type) where
 |one (g:Grp D)
 |agg (gs:List (Grp D))
 /-- A slice of n elements, of which the cells are these. -/
 |slc (t n:Nat) (gs:List (Grp D))
 /-- A function value that cjg a pointer to a box of z cells. -/
 |cap (f ty z:Nat) (gs:List (Grp D))
def Pat.mem:Pat D->Bool
 |.slc ..=>true
 |.cap ..=>true
 |_=>false
inductive RPat (D:Type) where
 |val (p:Pat D)
 |tup (ps:List (Pat D))
inductive Hd where
 |call (f:FuncId)
 |bs (t n:Nat)
 |ix (t:Nat)
 |ld (t:Nat)
 |blt (b:Builtin) (ats:List Nat) (t:Nat)
 |bin (op:BinOp) (t:Nat)
 |sl (t:Nat) (lo hi mx:Bool)
 |mk (t:Nat)
 |cv (s d:Nat)
 |un (op:UnOp) (t:Nat)
 |si (t:Nat)
 |fa (s f:Nat)
 /-- A call that writes a list of the caller's own in place. -/
 |mem (f:FuncId)
 /-- A call that writes a box of the caller's own. -/
 |box (f:FuncId)
 /-- No operation: that a list or a map in a slot is to be one that is known as a function; what an answer read of a map is. -/
 |gl
 deriving DecidableEq
def cjk (o:Oper):Option (Hd×List Operand) :=
 match o.op with
 |.indexAddr t x i=>some (.ix t,[x,i])
 |.load t x=>some (.ld t,[x])
 |.binOp op t x y _=>some (.bin op t,[x,y])
 |.slice t x lo hi mx=>some (.sl t lo.isSome hi.isSome mx.isSome,x::(lo.toList++hi.toList++mx.toList))
 |.makeSlice t l c=>some (.mk t,[l,c])
 |.convert s d x=>some (.cv s d,[x])
 |.unOp op t x=>some (.un op t,[x])
 |.index t x i=>some (.si t,[x,i])
 |.fieldAddr s x f=>some (.fa s f,[x])
 |.call c=>match c.callee with
  |.builtin b=>some (.blt b c.argTypes.toList o.type,c.args.toList)
  |_=>none
 |_=>none
section
variable (C:Ctx D) (w:World)
def Pat.is:Pat D->Value->Prop
 |.one g,v=>g.is C w [v]
 |.agg gs,v=>∃ vs,Gw C w gs vs/\v=.agg vs.toArray
 |.slc t n gs,v=>∃ k o c arr pre vs rest,v=.slice (some ⟨k,o,none⟩) n c/\w.heap[k]?=some (.cells arr t (0,0))/\arr.toList=pre++vs++rest/\pre.length=o/\Gw C w gs vs/\n<=c
 |.cap f ty z gs,v=>∃ k o c,EN C w ⟨0,ty,z,1,fun _=>gs⟩ (.slice (some ⟨k,o,none⟩) 1 c)/\v=.func (.func f) #[] #[.pointer (some ⟨k,o,none⟩)]
def cjf:List (Pat D)->List Value->Prop
 |[],vs=>vs=[]
 |p::ps,vs=>∃ v ws,vs=v::ws/\p.is C w v/\cjf ps ws
def RPat.is:RPat D->Value->Prop
 |.val p,v=>p.is C w v
 |.tup ps,v=>∃ vs,cjf C w ps vs/\v=.tuple vs.toArray
end
def UX (C:Ctx D) (w w':World) (res:RPat D) (v:Value):Prop :=
 ∀ S:Nat->Prop,(∀ k,S k->k<w.heap.size/\∃ o,w'.heap[k]?=some o/\kE C o)->
  ∀ w'',w'.heap.size<=w''.heap.size->(∀ k,k<w'.heap.size->¬ S k->w''.heap[k]?=w'.heap[k]?)->res.is C w'' v
def cbD (vs:List Value):List (Pat D):=vs.map fun v=>.one (.lit v)
def caX:RPat D->Option (D×AV×Value)
 |.val (.one (.cls d))=>some (d,.tup [],.tuple #[])
 |.tup [.one (.cls d),.one (.lit v)]=>some (d,.val (.one (.lit v)),v)
 |.tup [.one (.cls d),.one (.lit v),.one (.lit u)]=>some (d,.tup [.one (.lit v),.one (.lit u)],.tuple #[v,u])
 |_=>none
def preRes:RPat D->Option (D×Nat)
 |.val (.slc _ n [.cls d])=>some (d,n)
 |_=>none
theorem chy {e:Env}{res:RPat D}{d:D}{x:AV}{v:Value}(h:caX res=some (d,x,v)):x.is e v:=by
 unfold caX at h;split at h
 ·injection h with h;simp only[co] at h;obtain⟨rfl,rfl,rfl⟩:=h;exact⟨[],rfl,rfl⟩
 ·injection h with h;simp only[co] at h;obtain⟨rfl,rfl,rfl⟩:=h;rfl
 ·rename_i v u;injection h with h;simp only[co] at h;obtain⟨rfl,rfl,rfl⟩:=h;exact⟨[v,u],⟨v,_,rfl,rfl,u,_,rfl,rfl,rfl⟩,rfl⟩
 ·cases h
def MemEnt (C:Ctx D) (f:FuncId) (args:List (Pat D)) (res:RPat D):Prop :=
 Enters C.P f/\(∀ (L L':Lt D) (d':D) (x:AV) (vr:Value) (ls:List Value),args=.one (.cls (C.mkL L))::cbD ls->caX res=some (d',x,vr)->C.unL d'=some L'->L'.n=L.n->∀ (w:World) (k c:Nat) (arr:Array Value) (us rest:List Value),
  Below C.w0.heap.size C.w0 w->C.w0.heap.size<=k->w.heap[k]?=some (.cells arr L.ty (0,0))->C.okT L.ty=true->arr.toList=us++rest->us.length=L.n*L.z->arr.size=c*L.z->L.n<=c->0<L.n->(∀ v∈us,v.oneCell'=true)->
  (∀ j,j<L.n->∀ w',w.heap.size<=w'.heap.size->(∀ i,i<w.heap.size->i≠k->w'.heap[i]?=w.heap[i]?)->Gw C w' (L.g j) ((us.drop (j*L.z)).take L.z))->
  Calls C.P f (.slice (some ⟨k,0,none⟩) L.n c::ls).toArray w (fun en w'=>en=.returned vr/\Below C.w0.heap.size C.w0 w'/\w.heap.size<=w'.heap.size/\(∀ i,i<w.heap.size->i≠k->w'.heap[i]?=w.heap[i]?)/\
   ∃ (arr':Array Value) (us' rest':List Value),w'.heap[k]?=some (.cells arr' L.ty (0,0))/\arr'.toList=us'++rest'/\us'.length=L.n*L.z/\arr'.size=c*L.z/\(∀ v∈us',v.oneCell'=true)/\
    ∀ j,j<L.n->∀ S:Nat->Prop,(∀ i,S i->∃ o,w'.heap[i]?=some o/\kE C o)->∀ w'',w'.heap.size<=w''.heap.size->(∀ i,i<w'.heap.size->¬ S i->w''.heap[i]?=w'.heap[i]?)->Gw C w'' (L'.g j) ((us'.drop (j*L.z)).take L.z)))/\
 ∀ (L L':Lt D) (d':D) (m:Nat) (ls:List Value),args=.one (.cls (C.mkL L))::cbD ls->preRes res=some (d',m)->C.unL d'=some L'->L'.n=m->m<=L.n->∀ (w:World) (k c:Nat) (arr:Array Value) (us rest:List Value),
  Below C.w0.heap.size C.w0 w->C.w0.heap.size<=k->w.heap[k]?=some (.cells arr L.ty (0,0))->C.okT L.ty=true->arr.toList=us++rest->us.length=L.n*L.z->arr.size=c*L.z->L.n<=c->0<L.n->(∀ v∈us,v.oneCell'=true)->
  (∀ j,j<L.n->∀ w',w.heap.size<=w'.heap.size->(∀ i,i<w.heap.size->i≠k->w'.heap[i]?=w.heap[i]?)->Gw C w' (L.g j) ((us.drop (j*L.z)).take L.z))->
  Calls C.P f (.slice (some ⟨k,0,none⟩) L.n c::ls).toArray w (fun en w'=>en=.returned (.slice (some ⟨k,0,none⟩) m c)/\Below C.w0.heap.size C.w0 w'/\w.heap.size<=w'.heap.size/\(∀ i,i<w.heap.size->i≠k->w'.heap[i]?=w.heap[i]?)/\
   ∃ (arr':Array Value) (us' rest':List Value),w'.heap[k]?=some (.cells arr' L.ty (0,0))/\arr'.toList=us'++rest'/\us'.length=m*L.z/\arr'.size=c*L.z/\(∀ v∈us',v.oneCell'=true)/\
    ∀ j,j<m->∀ S:Nat->Prop,(∀ i,S i->∃ o,w'.heap[i]?=some o/\kE C o)->∀ w'',w'.heap.size<=w''.heap.size->(∀ i,i<w'.heap.size->¬ S i->w''.heap[i]?=w'.heap[i]?)->Gw C w'' (L'.g j) ((us'.drop (j*L.z)).take L.z))
def caQ:RPat D->Option (Value×AV×Value)
 |.val (.one (.lit u))=>some (u,.tup [],.tuple #[])
 |.tup [.one (.lit u),.one (.lit v)]=>some (u,.val (.one (.lit v)),v)
 |.tup [.one (.lit u),.one (.lit v),.one (.lit v')]=>some (u,.tup [.one (.lit v),.one (.lit v')],.tuple #[v,v'])
 |_=>none
theorem cgq {e:Env}{res:RPat D}{d:Value}{x:AV}{v:Value}(h:caQ res=some (d,x,v)):x.is e v:=by
 unfold caQ at h;split at h
 ·injection h with h;simp only[co] at h;obtain⟨rfl,rfl,rfl⟩:=h;exact⟨[],rfl,rfl⟩
 ·injection h with h;simp only[co] at h;obtain⟨rfl,rfl,rfl⟩:=h;rfl
 ·rename_i v u;injection h with h;simp only[co] at h;obtain⟨rfl,rfl,rfl⟩:=h;exact⟨[v,u],⟨v,_,rfl,rfl,u,_,rfl,rfl,rfl⟩,rfl⟩
 ·cases h
abbrev nV (n:Nat):Value:=.int .i64 (Int.ofNat n)
def BoxEnt (C:Ctx D) (f:FuncId) (args:List (Pat D)) (res:RPat D):Prop :=
 Enters C.P f/\∀ (v u:Value) (x:AV) (vr:Value) (n ty:Nat) (ps:List (Pat D)),args=.one (.lit v)::.one (.lit (nV n))::.one (.lit (nV ty))::ps->caQ res=some (u,x,vr)->∀ (w:World) (k:Nat) (arr:Array Value) (rest us us':List Value),
  Below C.w0.heap.size C.w0 w->C.w0.heap.size<=k->w.heap[k]?=some (.cells arr ty (0,0))->C.okT ty=true->arr.toList=v::rest->us.length=n->(∀ w',w.heap.size<=w'.heap.size->(∀ i,i<w.heap.size->i≠k->w'.heap[i]?=w.heap[i]?)->cjf C w' ps (us++us'))->
  Calls C.P f (us++(.pointer (some ⟨k,0,none⟩)::us')).toArray w (fun en w'=>en=.returned vr/\Below C.w0.heap.size C.w0 w'/\w.heap.size<=w'.heap.size/\(∀ i,i<w.heap.size->i≠k->w'.heap[i]?=w.heap[i]?)/\
   ∃ (arr':Array Value) (rest':List Value),w'.heap[k]?=some (.cells arr' ty (0,0))/\arr'.toList=u::rest'/\arr'.size=arr.size/\u.oneCell'=true)
def jL (C:Ctx D) (hd:Hd) (args:List (Pat D)) (res:RPat D):Prop :=
 match hd with
 |.call f=>Enters C.P f/\∀ w vs,Below C.w0.heap.size C.w0 w->cjf C w args vs->Calls C.P f vs.toArray w (fun e w'=>∃ v,e=.returned v/\Below w.heap.size w w'/\UX C w w' res v)
 |.mem f=>MemEnt C f args res
 |.box f=>BoxEnt C f args res
 |.gl=>∀ v u,args=[.one (.lit v)]->res=.val (.one (.lit u))->v=u
 |hd=>∀ w (ρ:Operand->Value) (o:Oper) xs,cjk o=some (hd,xs)->Below C.w0.heap.size C.w0 w->cjf C w args (xs.map ρ)->∃ v w',(execOp ρ o).run C.P w=.ok (.value v) w'/\Below w.heap.size w w'/\UX C w w' res v
abbrev Tab (D:Type):=Nat->Hd->Option (List (Pat D)->Option (RPat D×List Prop))
def cX:List Prop->Prop
 |[]=>True
 |p::l=>p/\cX l
theorem cX.append:∀ {l m:List Prop},cX (l++m)->cX l/\cX m
 |[],m,h=>⟨trivial,h⟩
 |p::l,m,h=>by
  obtain⟨h1,h2⟩:=(cX.append (l:=l) h.2);exact⟨⟨h.1,h1⟩,h2⟩
def Tab.Ok (C:Ctx D) (T:Tab D):Prop:=∀ n hd F args res ob,T n hd=some F->F args=some (res,ob)->cX ob->jL C hd args res
def cjj (s:Nat):Nat->Nat->List AC->Option (List AC)
 |_,0,cs=>some cs
 |j,n+1,.sym s' j'::cs=>match Nat.beq s' s with
  |true=>match Nat.beq j' j with
   |true=>cjj s (j+1) n cs
   |false=>none
  |false=>none
 |_,_,_=>none
def Yh (csz:D->Nat) (M:ct D):List AC->Option (Grp D×List AC)
 |.lit v::cs=>some (.lit v,cs)
 |.sym s j::cs=>match M s with
  |some (.cls d)=>match cjj s 0 (csz d) (.sym s j::cs) with
   |some r=>some (.cls d,r)
   |none=>none
  |_=>none
 |_=>none
def uv (csz:D->Nat) (M:ct D):Nat->List AC->Option (List (Grp D))
 |_,[]=>some []
 |0,_=>none
 |n+1,cs=>match Yh csz M cs with
  |some (g,r)=>match uv csz M n r with
   |some gs=>some (g::gs)
   |none=>none
  |none=>none
def yS (M:ct D) (b o n:Nat):Option (Nat×List AC) :=
 match M b with
 |some (.blk ty cs _)=>match Nat.ble (o+n) cs.length with
  |true=>some (ty,(cs.drop o).take n)
  |false=>none
 |_=>none
def ur (P:Program) (t:Nat):Option (Nat×TypeInfo) :=
 match P.underlying t with
 |some (.slice e)=>match P.info? e with
  |some i=>some (e,i)
  |none=>none
 |_=>none
def Yq:List (Grp D)->Bool
 |[]=>true
 |.lit v::l=>match v.oneCell' with
  |true=>Yq l
  |false=>false
 |.cls _::l=>Yq l
def WX (S:Stat D) (M:ct D):Nat->List AC->Option (List (Grp D))
 |_,[]=>some []
 |0,_=>none
 |n+1,c::cs=>match c with
  |.fn b=>match M b with
   |some (.gl ty z m g)=>match WX S M n cs with
    |some gs=>some (.cls (S.mkL ⟨S.lo,ty,z,m,g⟩)::gs)
    |none=>none
   |_=>none
  |c=>match Yh S.csz M (c::cs) with
   |some (g,r)=>match WX S M n r with
    |some gs=>some (g::gs)
    |none=>none
   |none=>none
def Yf (S:Stat D) (M:ct D) (rf:FuncId->List A1->List A1->Option D):List AC->Option (List (Grp D))
 |[]=>some []
 |c::cs=>match c with
  |.fn b=>match M b with
   |some (.clo f p q)=>match rf f p q,cs with
    |some d,[]=>some [.cls d]
    |_,_=>none
   |some (.gl ty z m g)=>match Yf S M rf cs with
    |some gs=>some (.cls (S.mkL ⟨S.lo,ty,z,m,g⟩)::gs)
    |none=>none
   |_=>none
  |c=>uv S.csz M (c::cs).length (c::cs)
def cbb (S:Stat D) (M:ct D):List A1->Option (List (Grp D))
 |[]=>some []
 |[.agg cs]=>match uv S.csz M cs.length cs with
  |some (g::gs)=>some (g::gs)
  |_=>none
 |_=>none
def zH (S:Stat D) (M:ct D) (rf:FuncId->List A1->List A1->Option D):List A1->Option (List (Nat×Nat×List (Grp D)))
 |[]=>some []
 |.one (.ptr b 0)::l=>match M b with
  |some (.blk ty cs none)=>match Yf S M rf cs with
   |some gs=>match Yq gs,zH S M rf l with
    |true,some r=>some ((ty,cs.length,gs)::r)
    |_,_=>none
   |none=>none
  |_=>none
 |.one (.fn c)::l=>match M c with
  |some (.cp t 0 z 0)=>match M t with
   |some (.cls d)=>match S.unL d with
    |some L=>match Nat.beq L.n 1,Nat.beq L.z z,zH S M rf l with
     |true,true,some r=>some ((L.ty,z,L.g 0)::r)
     |_,_,_=>none
    |_=>none
   |_=>none
  |_=>none
 |_=>none
def cfr (S:Stat D) (M:ct D):Nat->FuncId->List A1->List A1->Option D
 |0,_,_,_=>none
 |n+1,f,p,q=>match cbb S M p,zH S M (cfr S M n) q with
  |some pre,some cap=>S.mkF f pre cap
  |_,_=>none
def readP (S:Stat D) (M:ct D):AV->Option (Pat D)
 |.val (.one (.slc b o n c))=>match M b with
  |some (.blk ty _ _)=>match S.P.info? ty with
   |some i=>match yS M b o (n*i.size) with
    |some (_,cs)=>match uv S.csz M cs.length cs with
     |some gs=>match Nat.ble n c with
      |true=>some (.slc ty n gs)
      |false=>none
     |none=>none
    |none=>none
   |none=>none
  |_=>none
 |.val (.one (.gsl b n))=>match M b with
  |some (.blk ty _ (some z))=>match S.P.info? ty with
   |some i=>match yS M b 0 (n*i.size) with
    |some (_,cs)=>match uv S.csz M cs.length cs with
     |some gs=>match Nat.beq z i.size,Nat.blt 0 z with
      |true,true=>some (.slc ty n gs)
      |_,_=>none
     |none=>none
    |none=>none
   |none=>none
  |_=>none
 |.val (.one (.fn b))=>match M b with
  |some (.gl ty z n g)=>some (.one (.cls (S.mkL ⟨S.lo,ty,z,n,g⟩)))
  |some (.clo f [] [.one (.fn c)])=>match M c with
   |some (.cp t 0 z 0)=>match M t with
    |some (.cls d)=>match S.unL d with
     |some L=>match Nat.beq L.n 1,Nat.beq L.z z with
      |true,true=>some (.cap f L.ty z (L.g 0))
      |_,_=>none
     |none=>none
    |_=>none
   |_=>none
  |some (.clo f [] [.one (.ptr c 0)])=>match M c with
   |some (.blk ty cs none)=>match uv S.csz M cs.length cs with
    |some gs=>match Yq gs with
     |true=>some (.cap f ty cs.length gs)
     |false=>none
    |none=>none
   |_=>none
  |some (.clo f p q)=>match cfr S M 3 f p q with
   |some d=>some (.one (.cls d))
   |none=>none
  |_=>none
 |.val (.one c)=>match Yh S.csz M [c] with
  |some (g,[])=>some (.one g)
  |_=>none
 |.val (.agg cs)=>match WX S M cs.length cs with
  |some gs=>some (.agg gs)
  |none=>none
 |.tup _=>none
def JK (S:Stat D) (M:ct D):List AV->Option (List (Pat D))
 |[]=>some []
 |x::xs=>match readP S M x with
  |some p=>match JK S M xs with
   |some ps=>some (p::ps)
   |none=>none
  |none=>none
section
variable {C:Ctx D}{e:Env}{w:World}{M:ct D}
theorem cjo {s:Nat}{f:List Value}(hf:e.ν s=some f):∀ {n j:Nat}{cs r:List AC}{vs:List Value},cjj s j n cs=some r->cjd e cs vs->j+n<=f.length->vs.take n=(f.drop j).take n/\cjd e r (vs.drop n)
 |0,j,cs,r,vs,h,hc,_=>by
  simp [cjj] at h;subst h;exact⟨by simp,hc⟩
 |n+1,j,[],r,vs,h,hc,_=>by simp [cjj] at h
 |n+1,j,.lit _::_,r,vs,h,hc,_=>by simp [cjj] at h
 |n+1,j,.ptr _ _::_,r,vs,h,hc,_=>by simp [cjj] at h
 |n+1,j,.slc _ _ _ _::_,r,vs,h,hc,_=>by simp [cjj] at h
 |n+1,j,.gsl _ _::_,r,vs,h,hc,_=>by simp [cjj] at h
 |n+1,j,.gso _ _ _ _::_,r,vs,h,hc,_=>by simp [cjj] at h
 |n+1,j,.fn _::_,r,vs,h,hc,_=>by simp [cjj] at h
 |n+1,j,.yld _::_,r,vs,h,hc,_=>by simp [cjj] at h
 |n+1,j,.sym s' j'::cs,r,vs,h,hc,hl=>by
  unfold cjj at h;split at h
  ·rename_i hs;split at h
   ·rename_i hj;obtain⟨v,ws,rfl,⟨f',h1,h2,_⟩,h3⟩:=hc;rw[cn hs,hf] at h1;injection h1 with h1;subst h1
    obtain⟨h4,h5⟩:=cjo hf h h3 (by omega);rw[cn hj] at h2;refine⟨?_,by simpa using h5⟩;have hjl:j<f.length:=by omega
    rw[JB hjl,Kz,Kz,h4];rw[jl hjl] at h2;injection h2 with h2
    rw[h2]
   ·cases h
  ·cases h
theorem Ym (hC:C.Ok) (hM:cA C e w M) {g:Grp D}{cs r:List AC}{vs:List Value}(h:Yh C.csz M cs=some (g,r)) (hc:cjd e cs vs):g.is C w (vs.take (g.n C.csz))/\cjd e r (vs.drop (g.n C.csz)):=by
 unfold Yh at h;split at h
 ·injection h with h;injection h with h1 h2;subst h1;subst h2
  obtain⟨x,ws,rfl,h1,h2⟩:=hc;exact⟨by rw[show x=_ from h1];rfl,by simpa [Grp.n] using h2⟩
 ·rename_i s j cs;split at h
  ·rename_i d hd;split at h
   ·rename_i r' hr;injection h with h;injection h with h1 h2;subst h1;subst h2
    obtain⟨f,h1,h2⟩:=hM _ _ hd;have hl:=hC.len _ _ _ h2.out;obtain⟨h3,h4⟩:=cjo h1 hr hc (by omega);refine⟨?_,h4⟩;show C.E d w (vs.take (C.csz d));rw[h3,kr,kH (by omega)];exact h2.out
   ·cases h
  ·cases h
 ·cases h
theorem zE (hC:C.Ok) (hM:cA C e w M):∀ {n:Nat}{gs:List (Grp D)}{cs:List AC}{vs:List Value},uv C.csz M n cs=some gs->cjd e cs vs->Gw C w gs vs
 |n,gs,[],vs,h,hc=>by
  have:gs=[]:=by cases n<;>(simp [uv] at h;exact h)
  subst this;exact hc
 |0,gs,_::_,vs,h,hc=>by simp [uv] at h
 |n+1,gs,c::cs,vs,h,hc=>by
  simp only[uv] at h;split at h
  ·rename_i g r hr;split at h
   ·rename_i gs' hgs;injection h with h;subst h
    obtain⟨h1,h2⟩:=Ym hC hM hr hc;exact⟨h1,zE hC hM hgs h2⟩
   ·cases h
  ·cases h
theorem cgr (hC:C.Ok) (hM:cA C e w M) {g:Grp D}{cs r:List AC}{vs:List Value}(h:Yh C.csz M cs=some (g,r)) (hc:cjd e cs vs):(∀ w',jy e w w'->g.is C w' (vs.take (g.n C.csz)))/\cjd e r (vs.drop (g.n C.csz)):=by
 unfold Yh at h;split at h
 ·injection h with h;injection h with h1 h2;subst h1;subst h2
  obtain⟨x,ws,rfl,h1,h2⟩:=hc;exact⟨fun _ _=>by rw[show x=_ from h1];rfl,by simpa [Grp.n] using h2⟩
 ·rename_i s j cs;split at h
  ·rename_i d hd;split at h
   ·rename_i r' hr;injection h with h;injection h with h1 h2;subst h1;subst h2
    obtain⟨f,h1,h2⟩:=hM _ _ hd;have hl:=hC.len _ _ _ h2.out;obtain⟨h3,h4⟩:=cjo h1 hr hc (by omega);refine⟨fun w' hk=>?_,h4⟩;show C.E d w' (vs.take (C.csz d));rw[h3,kr,kH (by omega)];exact h2 w' hk
   ·cases h
  ·cases h
 ·cases h
theorem Ep (hC:C.Ok) (hM:cA C e w M):∀ {n:Nat}{gs:List (Grp D)}{cs:List AC}{vs:List Value},uv C.csz M n cs=some gs->cjd e cs vs->Cd C e w gs vs
 |n,gs,[],vs,h,hc=>by
  have:gs=[]:=by cases n<;>(simp [uv] at h;exact h)
  subst this;exact fun _ _=>hc
 |0,gs,_::_,vs,h,hc=>by simp [uv] at h
 |n+1,gs,c::cs,vs,h,hc=>by
  simp only[uv] at h;split at h
  ·rename_i g r hr;split at h
   ·rename_i gs' hgs;injection h with h;subst h
    obtain⟨h1,h2⟩:=cgr hC hM hr hc;exact fun w' hk=>⟨h1 w' hk,Ep hC hM hgs h2 w' hk⟩
   ·cases h
  ·cases h
theorem ul (hM:cA C e w M) {b o n ty k:Nat}{cs:List AC}(hk:e.ρ b=some k) (h:yS M b o n=some (ty,cs)) :
 cs.length=n/\∃ arr pre vs rest,w.heap[k]?=some (.cells arr ty (0,0))/\arr.toList=pre++vs++rest/\pre.length=o/\cjd e cs vs:=by
 unfold yS at h;split at h
 ·rename_i ty' cs' z hb;split at h
  ·rename_i hle;injection h with h;injection h with h1 h2;subst h1;subst h2
   obtain⟨k',arr,vs,rest,q1,q2,q3,q4,q5,q6⟩:=hM _ _ hb;rw[hk] at q1;injection q1 with q1;subst q1
   have hle:=jh hle;have hvl:=q5.length;refine⟨by simp;omega,arr,vs.take o,(vs.drop o).take n,(vs.drop o).drop n++rest,q3,?_,by simp;omega,q5.drop.take⟩;rw[q4]
   conv=>lhs;rw[← jZ o vs,← jZ n (vs.drop o)]
   simp [uU]
  ·cases h
 ·cases h
theorem ud {k o:Nat}{arr:Array Value}{ty:Nat}{fr:Nat×Nat}{pre vs rest:List Value}(h:w.heap[k]?=some (.cells arr ty fr)) (ha:arr.toList=pre++vs++rest) (ho:pre.length=o):∀ j v,vs[j]?=some v->w.cell? ⟨k,o+j,none⟩=some v:=by
 intro j v hj;have hjl:j<vs.length:=by
  rcases jj j vs.length with h|h
  ·exact h
  ·simp [uC h] at hj
 have:arr.toList[o+j]?=some v:=by
  rw[ha,uU,Yp (by omega),ho,Nat.add_sub_cancel_left,JO hjl,hj]
 simp only[World.cell?,h];simpa using this
theorem Za (hC:C.Ok) (hg:Kv C e w) {b ty z n:Nat}{g:Nat->List (Grp D)}{v:Value}(h:cjg C e w b (.gl ty z n g)) (hv:e.φ b=some v):EN C w ⟨C.lo,ty,z,n,g⟩ v:=by
 obtain⟨v',h1,h2⟩:=h;rw[hv] at h1;injection h1 with h1;subst h1
 refine h2.imp (fun⟨h3,h4⟩=>⟨h3,none,h4⟩) ?_;rintro⟨k,c,arr,vs,rest,h3,h4,h5,h6,h7,h8,h9,h10,h12,h11⟩;exact⟨k,0,c,arr,[],vs,rest,h5,h10,⟨_,h6⟩,h7,rfl,h8,cB hC.los (hg.own b k h3).1,h12,fun j hj=>(h11 j hj).out⟩
theorem KB (hC:C.Ok):∀ {gs:List (Grp D)}{vs:List Value},Yq gs=true->Gw C w gs vs->∀ v∈vs,v.oneCell'=true
 |[],vs,_,h,v,hv=>by rw[show vs=[] from h] at hv;cases hv
 |.lit x::gs,vs,ho,h,v,hv=>by
  unfold Yq at ho;split at ho
  ·rename_i hx;have h1:vs.take 1=[x]:=h.1;rw[← jZ 1 vs,h1] at hv;rcases List.mem_cons.1 hv with rfl|hv
   ·exact hx
   ·exact KB hC ho h.2 v hv
  ·cases ho
 |.cls d::gs,vs,ho,h,v,hv=>by
  have ho:Yq gs=true:=ho;rw[← jZ (C.csz d) vs] at hv;rcases List.mem_append.1 hv with hv|hv
  ·exact hC.cell _ _ _ h.1 v hv
  ·exact KB (gs:=gs) hC ho h.2 v hv
theorem YY (hC:C.Ok) (hg:Kv C e w) (hM:cA C e w M):∀ {n:Nat}{gs:List (Grp D)}{cs:List AC}{vs:List Value},WX C.toStat M n cs=some gs->cjd e cs vs->Gw C w gs vs
 |n,gs,[],vs,h,hc=>by
  have:gs=[]:=by cases n<;>(simp [WX] at h;exact h)
  subst this;exact hc
 |0,gs,_::_,vs,h,hc=>by simp [WX] at h
 |n+1,gs,c::cs,vs,h,hc=>by
  simp only[WX] at h;split at h
  ·rename_i b;split at h
   ·rename_i ty z m g hb;split at h
    ·rename_i gs' hgs;injection h with h;subst h
     obtain⟨x,ws,rfl,h1,h2⟩:=hc;have h3:=hC.lists _ _ _ (Za hC hg (hM _ _ hb) h1);have hl:C.csz (C.mkL ⟨C.lo,ty,z,m,g⟩)=1:=(hC.len _ _ _ h3).symm;refine⟨?_,?_⟩
     ·show C.E _ w ((x::ws).take (C.csz _));rw[hl];exact h3
     ·show Gw C w gs' ((x::ws).drop (C.csz _));rw[hl];exact YY hC hg hM hgs h2
    ·cases h
   ·cases h
  ·split at h
   ·rename_i g r hr;split at h
    ·rename_i gs' hgs;injection h with h;subst h
     obtain⟨h1,h2⟩:=Ym hC hM hr hc;exact⟨h1,YY hC hg hM hgs h2⟩
    ·cases h
   ·cases h
theorem ZC (hC:C.Ok) (hg:Kv C e w) (hM:cA C e w M) {rf:FuncId->List A1->List A1->Option D}(hrf:∀ f p q d v us vs,rf f p q=some d->ke e p us->ke e q vs->v=.func (.func f) us.toArray vs.toArray->C.E d w [v]) :
 ∀ {cs:List AC} {gs:List (Grp D)} {vs:List Value},Yf C.toStat M rf cs=some gs->cjd e cs vs->Gw C w gs vs
 |[],gs,vs,h,hc=>by
  simp only[Yf,kC] at h;subst h;exact hc
 |c::cs,gs,vs,h,hc=>by
  simp only[Yf] at h;split at h
  ·rename_i b;obtain⟨x,ws,rfl,h1,h2⟩:=hc;have h1:e.φ b=some x:=h1;split at h
   ·rename_i f p q hb;split at h
    ·rename_i d hd;injection h with h;subst h
     obtain rfl:ws=[]:=h2;obtain⟨us,vs,p1,p2,p3⟩:=hM _ _ hb;rw[h1] at p1;injection p1 with p1
     have hE:=hrf f p q d x us vs hd p2 p3 p1;have hl:=hC.len _ _ _ hE;exact⟨by show C.E d w (List.take (C.csz d) [x]);rw[← hl];exact hE,by show List.drop (C.csz d) [x]=[];rw[← hl];rfl⟩
    ·cases h
   ·rename_i ty z m g hb;split at h
    ·rename_i gs' hgs;injection h with h;subst h
     have hE:=hC.lists _ _ _ (Za hC hg (hM _ _ hb) h1);have hl:=hC.len _ _ _ hE;refine⟨?_,?_⟩
     ·show C.E _ w (List.take (C.csz _) (x::ws));rw[← hl];exact hE
     ·show Gw C w gs' (List.drop (C.csz _) (x::ws));rw[← hl];exact ZC hC hg hM hrf hgs h2
    ·cases h
   ·cases h
  ·exact zE hC hM h hc
theorem ceG (hC:C.Ok) (hM:cA C e w M) {l:List A1}{gs:List (Grp D)}{us:List Value}(h:cbb C.toStat M l=some gs) (hl:ke e l us):JX C w gs us:=by
 unfold cbb at h;split at h
 ·injection h with h;subst h;exact hl
 ·rename_i cs;split at h
  ·rename_i g gs' hgs;injection h with h;subst h
   obtain⟨x,ws,rfl,⟨vs,h1,rfl⟩,h2⟩:=hl;rw[show ws=[] from h2];exact⟨vs,zE hC hM hgs h1,rfl⟩
  ·cases h
 ·cases h
theorem EZ (hC:C.Ok) (hg:Kv C e w) (hM:cA C e w M) {rf:FuncId->List A1->List A1->Option D}(hrf:∀ f p q d v us vs,rf f p q=some d->ke e p us->ke e q vs->v=.func (.func f) us.toArray vs.toArray->C.E d w [v]) :
 ∀ {l:List A1} {cap:List (Nat×Nat×List (Grp D))} {us:List Value},zH C.toStat M rf l=some cap->ke e l us->ym C w cap us
 |[],cap,us,h,hl=>by
  simp only[zH,kC] at h;subst h;exact hl
 |.one c::l,cap,us,h,⟨x,ws,hx0,h1,h2⟩=>by
  subst hx0;unfold zH at h;split at h
  ·rename_i h0;cases h0
  ·rename_i b l' h0;injection h0 with h0 h0';injection h0 with h0;subst h0;subst h0'
   split at h
   rotate_left
   ·cases h
   rename_i ty cs hb;split at h
   rotate_left
   ·cases h
   rename_i gs hgs;split at h
   rotate_left
   ·cases h
   rename_i r ho hr;injection h with h;subst h
   obtain⟨k,hk,rfl⟩:=h1;obtain⟨k',arr,vs,rest,q1,q2,q3,q4,q5,q6⟩:=hM _ _ hb;rw[hk] at q1;injection q1 with q1;subst q1
   have hG:=ZC hC hg hM hrf hgs q5;have q6:rest=[]:=q6;subst q6;refine⟨k,0,1,ws,rfl,.inr ⟨k,0,1,arr,[],vs,[],rfl,cb _,⟨_,q3⟩,by simpa using q4,rfl,?_,cQ _,KB hC ho hG,fun j hj=>?_⟩,EZ hC hg hM hrf hr h2⟩
   ·show vs.length=1*cs.length;rw[jI];exact q5.length
   ·obtain rfl:j=0:=Nat.lt_one_iff.1 hj;show Gw C w gs ((vs.drop (0*cs.length)).take cs.length);rw[Cg,kr,kH (by rw[q5.length];exact cb _)];exact hG
  ·rename_i c' l' h0;injection h0 with h0 h0';injection h0 with h0;subst h0;subst h0'
   split at h
   rotate_left
   ·cases h
   rename_i t z hc;split at h
   rotate_left
   ·cases h
   rename_i d hd;split at h
   rotate_left
   ·cases h
   rename_i L hL;split at h
   rotate_left
   ·cases h
   rename_i r hn hz hr;injection h with h;subst h
   replace hn:=cn hn
   replace hz:=cn hz
   obtain⟨k,o,n,c'',h5,h6⟩:=hM _ _ hc;have h1:e.φ c'=some x:=h1;rw[h1] at h6;injection h6 with h6
   obtain⟨l0,h7,h8⟩:=hM _ _ hd;rw[h5] at h7;injection h7 with h7;subst h7
   obtain⟨u,h9,h10⟩:=hC.unlist _ _ _ _ hL h8.out;injection h9 with h9;subst h9
   obtain⟨lo',ty',z',n',g'⟩:=L
   replace hn:n'=1:=hn
   replace hz:z'=z:=hz
   subst hn;subst hz;rcases h10 with⟨h10,_⟩|⟨k',o',c3,arr,pre,vs,rest,q1,q2,q3,q4,q5,q6,q7,q8,q9⟩
   ·cases h10
   ·injection q1 with q1 q1' q1''
    injection q1 with q1;injection q1 with q1 qo
    subst q1;subst qo;subst q1';subst q1'';refine⟨k,o,c'',ws,by rw[h6];simp,.inr ⟨k,o,c'',arr,pre,vs,rest,rfl,q2,q3,q4,q5,q6,cQ _,q8,fun j hj=>?_⟩,EZ hC hg hM hrf hr h2⟩;obtain rfl:j=0:=Nat.lt_one_iff.1 hj;exact q9 0 hj
  ·cases h
 |.agg cs::l,cap,us,h,_=>by
  unfold zH at h;cases h
theorem cdq (hC:C.Ok) (hg:Kv C e w) (hM:cA C e w M):∀ (n:Nat) (f:FuncId) (p q:List A1) (d:D) (v:Value) (us vs:List Value),cfr C.toStat M n f p q=some d->ke e p us->ke e q vs->v=.func (.func f) us.toArray vs.toArray->C.E d w [v]
 |0,_,_,_,_,_,_,_,h,_,_,_=>by cases h
 |n+1,f,p,q,d,v,us,vs,h,hp,hq,hv=>by
  simp only[cfr] at h;split at h
  ·rename_i pre cap h1 h2;exact hC.funs _ _ _ _ _ _ h ⟨us,vs,hv,ceG hC hM h1 hp,EZ hC hg hM (cdq hC hg hM n) h2 hq⟩
  ·cases h
theorem ciq (hC:C.Ok) (hg:Kv C e w) (hM:cA C e w M) {p:Pat D}{x:AV}{v:Value}(h:readP C.toStat M x=some p) (hx:x.is e v):p.is C w v:=by
 unfold readP at h;split at h
 ·rename_i b o n c;obtain⟨k,hk,rfl⟩:=hx;split at h
  ·rename_i ty cs' z hb;split at h
   ·rename_i i hi;split at h
    ·rename_i ty' cs hcs;split at h
     ·rename_i gs hgs;split at h
      rotate_left
      ·cases h
      rename_i hnc;injection h with h;subst h
      obtain⟨h1,arr,pre,vs,rest,h2,h3,h4,h5⟩:=ul hM hk hcs;obtain⟨k',arr',vs',rest',q1,q2,q3,q4,q5,q6⟩:=hM _ _ hb;rw[hk] at q1;injection q1 with q1;subst q1
      rw[h2] at q3;injection q3 with q3;injection q3 with q3 q3' _;subst q3'
      exact⟨k,o,c,arr,pre,vs,rest,rfl,h2,h3,h4,zE hC hM hgs h5,jh hnc⟩
     ·cases h
    ·cases h
   ·cases h
  ·cases h
 ·rename_i b n;obtain⟨k,hk,rfl⟩:=hx;split at h
  ·rename_i ty cs' z hb;split at h
   ·rename_i i hi;split at h
    ·rename_i ty' cs hcs;split at h
     ·rename_i gs hgs;split at h
      rotate_left
      ·cases h
      rename_i hz h0
      replace hz:=cn hz
      have h0:0<z:=by simpa using h0
      injection h with h;subst h
      obtain⟨h1,arr,pre,vs,rest,h2,h3,h4,h5⟩:=ul hM hk hcs;obtain⟨k',arr',vs',rest',q1,q2,q3,q4,q5,q6⟩:=hM _ _ hb;rw[hk] at q1;injection q1 with q1;subst q1
      rw[h2] at q3;injection q3 with q3;injection q3 with q3 q3' _;subst q3'
      have hle:n<=e.κ b:=by
       have e1:vs.length=n*i.size:=by rw[h5.length,h1]
       have e2:arr.size=e.κ b*z:=by rw[q3];exact q6
       have e3:=cw List.length h3;simp only[kp,yA] at e3;rw[← hz] at e1;have:n*z<=e.κ b*z:=by omega
       exact cbm this h0
      exact⟨k,0,e.κ b,arr,pre,vs,rest,rfl,h2,h3,h4,zE hC hM hgs h5,hle⟩
     ·cases h
    ·cases h
   ·cases h
  ·cases h
 ·rename_i b;split at h
  ·rename_i ty z n g hb;injection h with h;subst h
   exact hC.lists _ _ _ (Za hC hg (hM _ _ hb) hx)
  ·rename_i f c hb;obtain⟨p,q,h1,h2,y,ys,rfl,h3,h4⟩:=hM _ _ hb;obtain rfl:p=[]:=h2;obtain rfl:ys=[]:=h4;have hx:e.φ b=some v:=hx;rw[hx] at h1;injection h1 with h1
   split at h
   ·rename_i t z hc;obtain⟨k,o,n,c',h5,h6⟩:=hM _ _ hc;have h3:e.φ c=some y:=h3;rw[h3] at h6;injection h6 with h6
    split at h
    ·rename_i d hd;split at h
     ·rename_i L hL;split at h
      ·rename_i hn hz
       replace hn:=cn hn
       replace hz:=cn hz
       injection h with h;subst h
       obtain⟨l,h7,h8⟩:=hM _ _ hd;rw[h5] at h7;injection h7 with h7;subst h7
       obtain⟨u,h9,h10⟩:=hC.unlist _ _ _ _ hL h8.out;injection h9 with h9;subst h9
       obtain⟨lo',ty',z',n',g'⟩:=L
       replace hn:n'=1:=hn
       replace hz:z'=z:=hz
       subst hn;subst hz;rcases h10 with⟨h10,_⟩|⟨k',o',c'',arr,pre,vs,rest,q1,q2,q3,q4,q5,q6,q7,q8,q9⟩
       ·cases h10
       ·injection q1 with q1 q1' q1''
        injection q1 with q1;injection q1 with q1 qo
        subst q1;subst qo;subst q1';subst q1'';refine⟨k,o,c',.inr ⟨k,o,c',arr,pre,vs,rest,rfl,q2,q3,q4,q5,q6,cQ _,q8,fun j hj=>?_⟩,?_⟩
        ·obtain rfl:j=0:=Nat.lt_one_iff.1 hj;exact q9 0 hj
        ·rw[h1,h6];simp
      ·cases h
     ·cases h
    ·cases h
   ·cases h
  ·rename_i f c hb;obtain⟨p,q,h1,h2,y,ys,rfl,h3,h4⟩:=hM _ _ hb;obtain rfl:p=[]:=h2;obtain rfl:ys=[]:=h4;have hx:e.φ b=some v:=hx;rw[hx] at h1;injection h1 with h1
   split at h
   ·rename_i ty cs hc;split at h
    ·rename_i gs hgs;split at h
     ·rename_i ho;injection h with h;subst h
      obtain⟨k,hk,rfl⟩:=h3;obtain⟨k',arr,vs,rest,q1,q2,q3,q4,q5,q6⟩:=hM _ _ hc;rw[hk] at q1;injection q1 with q1;subst q1
      have hG:=zE hC hM hgs q5;have q6:rest=[]:=q6;subst q6;refine⟨k,0,1,.inr ⟨k,0,1,arr,[],vs,[],rfl,cb _,⟨_,q3⟩,by simpa using q4,rfl,?_,cQ _,KB hC ho hG,fun j hj=>?_⟩,?_⟩
      ·show vs.length=1*cs.length;rw[jI];exact q5.length
      ·obtain rfl:j=0:=Nat.lt_one_iff.1 hj;show Gw C w gs ((vs.drop (0*cs.length)).take cs.length);rw[Cg,kr,kH (by rw[q5.length];exact cb _)];exact hG
      ·rw[h1]
     ·cases h
    ·cases h
   ·cases h
  ·rename_i f p q _ _ hb;split at h
   ·rename_i d hd;injection h with h;subst h
    obtain⟨us,vs,h1,h2,h3⟩:=hM _ _ hb;have hx:e.φ b=some v:=hx;rw[hx] at h1;injection h1 with h1
    have hE:=cdq hC hg hM 3 f p q d v us vs hd h2 h3 h1;show C.E d w [v];exact hE
   ·cases h
  ·cases h
 ·rename_i c _ _ _;split at h
  ·rename_i g hg;injection h with h;subst h
   obtain⟨h1,h2⟩:=Ym hC hM hg (vs:=[v]) ⟨v,[],rfl,hx,rfl⟩;show g.is C w [v];have h2:[v].drop (g.n C.csz)=[]:=h2;have:1<=g.n C.csz:=by
    rcases jr (g.n C.csz) with h0|h0
    ·rw[h0] at h2;cases h2
    ·exact h0
   rwa [kH (by simpa using this)] at h1
  ·cases h
 ·split at h
  ·rename_i gs hgs;injection h with h;subst h
   obtain⟨vs,h1,h2⟩:=hx;exact⟨vs,YY hC hg hM hgs h1,h2⟩
  ·cases h
 ·cases h
theorem GO (hC:C.Ok) (hg:Kv C e w) (hM:cA C e w M):∀ {xs:List AV}{ps:List (Pat D)}{vs:List Value},JK C.toStat M xs=some ps->kv e xs vs->cjf C w ps vs
 |[],ps,vs,h,hc=>by simp [JK] at h;subst h;exact hc
 |x::xs,ps,vs,h,hc=>by
  simp only[JK] at h;split at h
  ·rename_i p hp;split at h
   ·rename_i ps' hps;injection h with h;subst h
    obtain⟨v,ws,h1,h2,h3⟩:=hc;exact⟨v,ws,h1,ciq hC hg hM hp h2,GO hC hg hM hps h3⟩
   ·cases h
  ·cases h
end
def zY (s:Nat):Nat->Nat->List AC
 |_,0=>[]
 |j,n+1=>.sym s j::zY s (j+1) n
def cji (csz:D->Nat) (s:Nat):List (Grp D)->List AC×Ws D×Nat
 |[]=>([],[],s)
 |.lit v::gs=>match cji csz s gs with
  |(cs,l,s')=>(.lit v::cs,l,s')
 |.cls d::gs=>match cji csz (s+1) gs with
  |(cs,l,s')=>(zY s 0 (csz d)++cs,(s,.cls d)::l,s')
def mkP (csz:D->Nat) (s:Nat):Pat D->Option (A1×Ws D×Nat)
 |.one g=>match cji csz s [g] with
  |([c],l,s')=>some (.one c,l,s')
  |_=>none
 |.agg gs=>match cji csz s gs with
  |(cs,l,s')=>some (.agg cs,l,s')
 |.slc ..=>none
 |.cap ..=>none
def GH (csz:D->Nat) (s:Nat):List (Pat D)->Option (List A1×Ws D×Nat)
 |[]=>some ([],[],s)
 |p::ps=>match mkP csz s p with
  |some (x,l,s')=>match GH csz s' ps with
   |some (xs,l',s'')=>some (x::xs,l++l',s'')
   |none=>none
  |none=>none
def mkR (csz:D->Nat) (s:Nat):RPat D->Option (AV×Ws D×Nat)
 |.val p=>match mkP csz s p with
  |some (x,l,s')=>some (.val x,l,s')
  |none=>none
 |.tup ps=>match GH csz s ps with
  |some (xs,l,s')=>some (.tup xs,l,s')
  |none=>none
structure Cn (Q:D->List Value->Prop) (s s':Nat) (l:Ws D) (e e':Env):Prop where
 ext:Ext e e'
 ρ:e'.ρ=e.ρ
 κ:e'.κ=e.κ
 φ:e'.φ=e.φ
 al:e'.al=e.al
 ν:∀ x f,e'.ν x=some f->e.ν x=some f\/(s<=x/\x<s')
 le:s<=s'
 live:∀ k v,(k,v)∈l->s<=k/\∃ d,v=.cls d/\∃ f,e'.ν k=some f/\Q d f
section
variable {Q:D->List Value->Prop}
theorem Cn.refl (s:Nat) (e:Env):Cn Q s s [] e e:=⟨Ext.refl e,rfl,rfl,rfl,rfl,fun _ _ h=>.inl h,cb _,fun _ _ h=>by simp at h⟩
theorem Cn.trans {s s' s'':Nat}{l l':Ws D}{e e' e'':Env}(h:Cn Q s s' l e e') (k:Cn Q s' s'' l' e' e''):Cn Q s s'' (l++l') e e'' :=
 ⟨h.ext.trans k.ext,k.ρ.trans h.ρ,k.κ.trans h.κ,k.φ.trans h.φ,k.al.trans h.al,fun x f hx=>by
  rcases k.ν x f hx with h1|h1
  ·rcases h.ν x f h1 with h2|h2
   ·exact .inl h2
   ·exact .inr ⟨h2.1,cT h2.2 k.le⟩
  ·exact .inr ⟨cB h.le h1.1,h1.2⟩,cB h.le k.le,fun x v hm=>by
  rcases List.mem_append.1 hm with hm|hm
  ·obtain⟨h0,d,h1,f,h3,h4⟩:=h.live x v hm;exact⟨h0,d,h1,f,k.ext.ν _ _ h3,h4⟩
  ·obtain⟨h0,h1⟩:=k.live x v hm;exact⟨cB h.le h0,h1⟩⟩
theorem Kx {e:Env}{s:Nat}{f:List Value}(hf:e.ν s=some f) (ho:∀ v∈f,v.oneCell'=true):∀ (n j:Nat),j+n<=f.length->cjd e (zY s j n) ((f.drop j).take n)
 |0,j,_=>by simp [zY,cjd]
 |n+1,j,h=>by
  have hj:j<f.length:=by omega
  rw[JB hj,Kz];exact⟨f[j],_,rfl,⟨f,hf,jl hj,ho _ (List.getElem_mem hj)⟩,Kx hf ho n (j+1) (by omega)⟩
theorem Ec {csz:D->Nat}:∀ {gs:List (Grp D)}{s s':Nat}{cs:List AC}{l:Ws D},cji csz s gs=(cs,l,s')->s<=s'
 |[],s,s',cs,l,h=>by
  simp only[cji,co] at h;omega
 |.lit v::gs,s,s',cs,l,h=>by
  simp only[cji] at h;generalize hm:cji csz s gs=r at h;obtain⟨cs',l',s''⟩:=r;simp only[co] at h;have:=Ec hm;omega
 |.cls d::gs,s,s',cs,l,h=>by
  simp only[cji] at h;generalize hm:cji csz (s+1) gs=r at h;obtain⟨cs',l',s''⟩:=r;simp only[co] at h;have:=Ec hm;omega
def Gy (Q:D->List Value->Prop) (csz:D->Nat):List (Grp D)->List Value->Prop
 |[],vs=>vs=[]
 |.lit v::gs,vs=>vs.take 1=[v]/\Gy Q csz gs (vs.drop 1)
 |.cls d::gs,vs=>(Q d (vs.take (csz d))/\(vs.take (csz d)).length=csz d/\∀ v∈vs.take (csz d),v.oneCell'=true)/\Gy Q csz gs (vs.drop (csz d))
theorem CY {csz:D->Nat}{B:Nat}:∀ {gs:List (Grp D)}{s s':Nat}{cs:List AC}{l:Ws D}{vs:List Value}{e:Env},cji csz s gs=(cs,l,s')->s'<=B->(∀ x,s<=x->x<B->e.ν x=none)->Gy Q csz gs vs->∃ e',Cn Q s s' l e e'/\cjd e' cs vs
 |[],s,s',cs,l,vs,e,h,hB,hn,hg=>by
  simp only[cji,co] at h;obtain⟨rfl,rfl,rfl⟩:=h;exact⟨e,Cn.refl _ _,hg⟩
 |.lit v::gs,s,s',cs,l,vs,e,h,hB,hn,⟨h1,h2⟩=>by
  simp only[cji] at h;generalize hm:cji csz s gs=r at h;obtain⟨cs',l',s''⟩:=r;simp only[co] at h;obtain⟨rfl,rfl,rfl⟩:=h;obtain⟨e',h4,h5⟩:=CY hm hB hn h2;refine⟨e',h4,v,vs.drop 1,?_,rfl,h5⟩;cases vs with
  |nil=>simp at h1
  |cons x xs=>simp at h1;rw[h1];rfl
 |.cls d::gs,s,s',cs,l,vs,e,h,hB,hn,⟨⟨h1,h1',ho⟩,h2⟩=>by
  simp only[cji] at h;generalize hm:cji csz (s+1) gs=r at h;obtain⟨cs',l',s''⟩:=r;simp only[co] at h;obtain⟨rfl,rfl,rfl⟩:=h;have hle:=Ec hm
  let e1:Env:={ e with ν:=fun x=>if x=s then some (vs.take (csz d)) else e.ν x }
  have he1:e1.ν s=some (vs.take (csz d)):=by simp [e1]
  have hg1:Cn Q s (s+1) [(s,kU.cls d)] e e1:=⟨⟨fun _ _ h=>h,fun _ _ _=>rfl,fun x g hx=>by
   show (if x=s then _ else e.ν x)=some g;rw[cf (fun e0=>by rw[e0,hn s (cb _) (by omega)] at hx;cases hx),hx],fun _ _ h=>h,rfl⟩,rfl,rfl,rfl,rfl,fun x g hx=>by
   by_cases hxs:x=s
   ·right;omega
   ·left;have:(if x=s then some (vs.take (csz d)) else e.ν x)=some g:=hx
    rwa [cf hxs] at this,by omega,fun k v hk=>by
   simp only[zU,co,List.not_mem_nil,or_false] at hk;obtain⟨rfl,rfl⟩:=hk;exact⟨cb _,d,rfl,_,he1,h1⟩⟩
  obtain⟨e',h4,h5⟩:=CY (e:=e1) hm hB (fun x hx hxB=>by
   show (if x=s then _ else e.ν x)=none;rw[cf (by omega)];exact hn x (by omega) hxB) h2
  refine⟨e',hg1.trans h4,?_⟩;have:=(Kx (h4.ext.ν _ _ he1) ho (csz d) 0 (by omega)).append h5;rw[kr,kH (by omega:(vs.take (csz d)).length<=csz d),jZ] at this;exact this
def cfE (Q:D->List Value->Prop) (csz:D->Nat):Pat D->Value->Prop
 |.one g,v=>Gy Q csz [g] [v]
 |.agg gs,v=>∃ vs,Gy Q csz gs vs/\v=.agg vs.toArray
 |.slc ..,_=>False
 |.cap ..,_=>False
def KT (Q:D->List Value->Prop) (csz:D->Nat):List (Pat D)->List Value->Prop
 |[],vs=>vs=[]
 |p::ps,vs=>∃ v ws,vs=v::ws/\cfE Q csz p v/\KT Q csz ps ws
def RPatBy (Q:D->List Value->Prop) (csz:D->Nat):RPat D->Value->Prop
 |.val p,v=>cfE Q csz p v
 |.tup ps,v=>∃ vs,KT Q csz ps vs/\v=.tuple vs.toArray
theorem mkP_is {csz:D->Nat}{B:Nat}{p:Pat D}{s s':Nat}{x:A1}{l:Ws D}{v:Value}{e:Env}(h:mkP csz s p=some (x,l,s')) (hB:s'<=B) (hn:∀ x,s<=x->x<B->e.ν x=none) (hp:cfE Q csz p v):∃ e',Cn Q s s' l e e'/\x.is e' v:=by
 cases p with
 |one g =>
  simp only[mkP] at h;generalize hm:cji csz s [g]=r at h;obtain⟨cs',l',s''⟩:=r;split at h
  ·rename_i c l1 s1 heq;simp only[co] at heq;obtain⟨rfl,rfl,rfl⟩:=heq;injection h with h
   simp only[co] at h;obtain⟨rfl,rfl,rfl⟩:=h;obtain⟨e',h1,v',ws,h2,h3,h4⟩:=CY hm hB hn hp;injection h2 with h2 _
   subst h2;exact⟨e',h1,h3⟩
  ·cases h
 |agg gs =>
  simp only[mkP] at h;generalize hm:cji csz s gs=r at h;obtain⟨cs',l',s''⟩:=r;injection h with h
  simp only[co] at h;obtain⟨rfl,rfl,rfl⟩:=h;obtain⟨vs,h1,h2⟩:=hp;obtain⟨e',h3,h4⟩:=CY hm hB hn h1;exact⟨e',h3,vs,h4,h2⟩
 |slc t n gs=>simp [mkP] at h
 |cap f ty z gs=>simp [mkP] at h
theorem mkP_le {csz:D->Nat}{p:Pat D}{s s':Nat}{x:A1}{l:Ws D}(h:mkP csz s p=some (x,l,s')):s<=s':=by
 cases p with
 |one g =>
  simp only[mkP] at h;generalize hm:cji csz s [g]=r at h;obtain⟨cs',l',s''⟩:=r;have:=Ec hm;split at h
  ·rename_i c l1 s1 heq;simp only[co] at heq;injection h with h
   simp only[co] at h;omega
  ·cases h
 |agg gs =>
  simp only[mkP] at h;generalize hm:cji csz s gs=r at h;obtain⟨cs',l',s''⟩:=r;injection h with h
  simp only[co] at h;have:=Ec hm;omega
 |slc t n gs=>simp [mkP] at h
 |cap f ty z gs=>simp [mkP] at h
theorem cbw {csz:D->Nat}:∀ {ps:List (Pat D)}{s s':Nat}{xs:List A1}{l:Ws D},GH csz s ps=some (xs,l,s')->s<=s'
 |[],s,s',xs,l,h=>by
  simp only[GH,kC,co] at h;omega
 |p::ps,s,s',xs,l,h=>by
  simp only[GH] at h;split at h
  ·rename_i x l1 s1 hp1;split at h
   ·rename_i xs2 l2 s2 hp2;injection h with h
    simp only[co] at h;have:=mkP_le hp1;have:=cbw hp2;omega
   ·cases h
  ·cases h
theorem Wl {csz:D->Nat}{B:Nat}:∀ {ps:List (Pat D)}{s s':Nat}{xs:List A1}{l:Ws D}{vs:List Value}{e:Env},GH csz s ps=some (xs,l,s')->s'<=B->(∀ x,s<=x->x<B->e.ν x=none)->KT Q csz ps vs->∃ e',Cn Q s s' l e e'/\ke e' xs vs
 |[],s,s',xs,l,vs,e,h,hB,hn,hp=>by
  simp only[GH,kC,co] at h;obtain⟨rfl,rfl,rfl⟩:=h;exact⟨e,Cn.refl _ _,hp⟩
 |p::ps,s,s',xs,l,vs,e,h,hB,hn,⟨v,ws,h1,h2,h3⟩=>by
  simp only[GH] at h;split at h
  ·rename_i x l1 s1 hp1;split at h
   ·rename_i xs2 l2 s2 hp2;injection h with h
    simp only[co] at h;obtain⟨rfl,rfl,rfl⟩:=h;obtain⟨e1,g1,i1⟩:=mkP_is hp1 (cB (cbw hp2) hB) hn h2;obtain⟨e2,g2,i2⟩:=Wl (e:=e1) hp2 hB (fun x hx hxB=>by
     cases hc:e1.ν x with
     |none=>rfl
     |some f =>
      rcases g1.ν x f hc with h|h
      ·rw[hn x (cB g1.le hx) hxB] at h;cases h
      ·omega) h3
    exact⟨e2,g1.trans g2,v,ws,h1,i1.ext g2.ext,i2⟩
   ·cases h
  ·cases h
theorem mkR_is {csz:D->Nat}{B:Nat}{p:RPat D}{s s':Nat}{x:AV}{l:Ws D}{v:Value}{e:Env}(h:mkR csz s p=some (x,l,s')) (hB:s'<=B) (hn:∀ x,s<=x->x<B->e.ν x=none) (hp:RPatBy Q csz p v):∃ e',Cn Q s s' l e e'/\x.is e' v:=by
 cases p with
 |val p =>
  simp only[mkR] at h;split at h
  ·rename_i y l1 s1 hp1;injection h with h
   simp only[co] at h;obtain⟨rfl,rfl,rfl⟩:=h;exact mkP_is hp1 hB hn hp
  ·cases h
 |tup ps =>
  simp only[mkR] at h;split at h
  ·rename_i y l1 s1 hp1;injection h with h
   simp only[co] at h;obtain⟨rfl,rfl,rfl⟩:=h;obtain⟨vs,h1,h2⟩:=hp;obtain⟨e',h3,h4⟩:=Wl hp1 hB hn h1;exact⟨e',h3,vs,h4,h2⟩
  ·cases h
end
theorem Jk {C:Ctx D}(hC:C.Ok) {W:World->Prop}(w1:World) (h1:W w1):∀ {gs:List (Grp D)}{vs:List Value},(∀ w,W w->Gw C w gs vs)->Gy (fun d f=>∀ w,W w->C.E d w f) C.csz gs vs
 |[],vs,h=>h w1 h1
 |.lit v::gs,vs,h=>⟨(h w1 h1).1,Jk hC w1 h1 (fun w hw=>(h w hw).2)⟩
 |.cls d::gs,vs,h=>⟨⟨fun w hw=>(h w hw).1,hC.len _ _ _ (h w1 h1).1,hC.cell _ _ _ (h w1 h1).1⟩,Jk hC w1 h1 (fun w hw=>(h w hw).2)⟩
theorem GD {C:Ctx D}(hC:C.Ok) {w:World}{g:Grp D}{v:Value}(h:g.is C w [v]):Gw C w [g] [v]:=by
 cases g with
 |lit x=>exact⟨h,rfl⟩
 |cls d =>
  have hl:=hC.len _ _ _ (show C.E d w [v] from h);have hl:C.csz d=1:=by simpa using hl.symm
  refine⟨?_,?_⟩
  ·show C.E d w (List.take (C.csz d) [v]);rw[hl];exact h
  ·show List.drop (C.csz d) [v]=[];rw[hl];rfl
theorem pat_by {C:Ctx D}(hC:C.Ok) {W:World->Prop}(w1:World) (h1:W w1) {p:Pat D}{v:Value}(hp:p.mem=false) (h:∀ w,W w->p.is C w v):cfE (fun d f=>∀ w,W w->C.E d w f) C.csz p v:=by
 cases p with
 |one g=>exact Jk hC w1 h1 (fun w hw=>GD hC (h w hw))
 |agg gs =>
  obtain⟨vs,_,hv⟩:=h w1 h1;refine⟨vs,Jk hC w1 h1 (fun w hw=>?_),hv⟩;obtain⟨vs',h2,h3⟩:=h w hw;rw[hv] at h3;have:vs=vs':=by injection h3 with h3;simpa using h3
  rw[this];exact h2
 |slc t n gs=>cases hp
 |cap f ty z gs=>cases hp
theorem cbj {C:Ctx D}(hC:C.Ok) {W:World->Prop}(w1:World) (h1:W w1):∀ {ps:List (Pat D)}{vs:List Value},(∀ p∈ps,p.mem=false)->(∀ w,W w->cjf C w ps vs)->KT (fun d f=>∀ w,W w->C.E d w f) C.csz ps vs
 |[],vs,_,h=>h w1 h1
 |p::ps,vs,hp,h=>by
  obtain⟨v,ws,rfl,h2,h3⟩:=h w1 h1;refine⟨v,ws,rfl,pat_by hC w1 h1 (hp p (by simp)) (fun w hw=>?_),cbj hC w1 h1 (fun q hq=>hp q (by simp [hq])) (fun w hw=>?_)⟩
  ·obtain⟨v',ws',h4,h5,h6⟩:=h w hw;injection h4 with h4 h4';subst h4;exact h5
  ·obtain⟨v',ws',h4,h5,h6⟩:=h w hw;injection h4 with h4 h4';subst h4';exact h6
theorem ZF {csz:D->Nat}{s:Nat}{p:Pat D}{r:A1×Ws D×Nat}(h:mkP csz s p=some r):p.mem=false:=by
 cases p with
 |one g=>rfl
 |agg gs=>rfl
 |slc t n gs=>simp [mkP] at h
 |cap f ty z gs=>simp [mkP] at h
theorem Ef {csz:D->Nat}:∀ {ps:List (Pat D)}{s:Nat}{r:List A1×Ws D×Nat},GH csz s ps=some r->∀ p∈ps,p.mem=false
 |[],s,r,h,p,hp=>by simp at hp
 |q::ps,s,r,h,p,hp=>by
  simp only[GH] at h;split at h
  ·rename_i x l1 s1 hp1;split at h
   ·rename_i xs2 l2 s2 hp2;rcases List.mem_cons.1 hp with rfl|hp
    ·exact ZF hp1
    ·exact Ef hp2 p hp
   ·cases h
  ·cases h
theorem rpat_by {C:Ctx D}(hC:C.Ok) {W:World->Prop}(w1:World) (h1:W w1) {s:Nat}{p:RPat D}{r:AV×Ws D×Nat}{v:Value}(hm:mkR C.csz s p=some r) (h:∀ w,W w->p.is C w v):RPatBy (fun d f=>∀ w,W w->C.E d w f) C.csz p v:=by
 cases p with
 |val p =>
  simp only[mkR] at hm;split at hm
  ·rename_i hp1;exact pat_by hC w1 h1 (ZF hp1) h
  ·cases hm
 |tup ps =>
  simp only[mkR] at hm;split at hm
  ·rename_i hp1;obtain⟨vs,_,hv⟩:=h w1 h1;refine⟨vs,cbj hC w1 h1 (Ef hp1) (fun w hw=>?_),hv⟩;obtain⟨vs',h2,h3⟩:=h w hw;rw[hv] at h3;have:vs=vs':=by injection h3 with h3;simpa using h3
   rw[this];exact h2
  ·cases hm
variable {D:Type}
structure ju (b:Nat) (w w':World):Prop where
 os:w'.os=w.os
 tape:w'.tape=w.tape
 output:w'.output=w.output
 size:w'.heap.size=w.heap.size
 block:∀ k,k≠b->w'.heap[k]?=w.heap[k]?
theorem ju.refl (b:Nat) (w:World):ju b w w:=⟨rfl,rfl,rfl,rfl,fun _ _=>rfl⟩
theorem ju.trans {b:Nat}{w w' w'':World}(h:ju b w w') (k:ju b w' w''):ju b w w'' :=
 ⟨k.os.trans h.os,k.tape.trans h.tape,k.output.trans h.output,k.size.trans h.size,fun i hi=>(k.block i hi).trans (h.block i hi)⟩
theorem ju.below {b k:Nat}{w w':World}(h:ju b w w') (hk:k<=b):Below k w w' :=
 ⟨h.os,h.tape,h.output,Nat.le_of_eq h.size.symm,fun i hi=>h.block i (by omega)⟩
theorem ju.set {b:Nat}{w w':World}(h:ju b w w') (o:Nat) (u:Value):ju b w (w'.setCell ⟨b,o,none⟩ u) :=
 h.trans ⟨rfl,rfl,rfl,by simp [World.setCell],fun k hk=>Below.heap_setCell _ _ _ _ hk⟩
structure Out (D:Type) where
 x:AV
 ws:Ws D
 n1:Nat
 ob:List Prop
def jG (C:Ctx D) (e:Env) (w:World) (n0:Nat) (t:Out D) (v:Value) (w':World):Prop:=∃ e',jM C e w n0 t.n1 t.ws e' w'/\t.x.is e' v
def out (n0:Nat) (x:AV):Option (Out D):=some ⟨x,[],n0,[]⟩
def cjl:AV:=.val (.one (.lit undef))
abbrev cz (D:Type):=ct D->Nat->FuncId->List AV->Option (Out D)
section
variable {C:Ctx D}{e:Env}{w w':World}{n0:Nat}
theorem jG.here (hg:Kv C e w) {x:AV}{v:Value}(hx:x.is e v):jG C e w n0 ⟨x,[],n0,[]⟩ v w:=⟨e,jM.refl hg n0,hx⟩
theorem YW {cs cs':Array Value}{t:TypeId}(h:kE C (.cells cs t (0,0))):kE C (.cells cs' t (0,0)):=by
 rcases h with⟨cs1,t1,h1,h2⟩|⟨r,h1⟩|⟨r,h1⟩|⟨r,c,h1⟩
 ·injection h1 with _ h1 _
  exact .inl ⟨cs',t,rfl,by rw[h1];exact h2⟩
 ·cases h1
 ·cases h1
 ·cases h1
theorem cdx (hg:Kv C e w) (hf:jC n0 (n0+1) e) {t:Nat}(ht:C.okT t=true) (hb:Below w.heap.size w w') {arr:Array Value}(hk:w'.heap[w.heap.size]?=some (.cells arr t (0,0))) {cs:List AC}{vs rest:List Value}(ha:arr.toList=vs++rest) (hc:cjd e cs vs)
 {z:Option Nat} {cap:Nat} (hz:match z with|none=>rest=[]|some z=>arr.size=cap*z) :
 ∃ e',jM C e w n0 (n0+1) [(n0,.blk t cs z)] e' w'/\e'.ρ n0=some w.heap.size/\e'.κ n0=cap:=by
 have hn:=(hf n0 (cb _) (ux _)).1
 let e':Env:={ e with ρ:=fun b=>if b=n0 then some w.heap.size else e.ρ b,κ:=fun b=>if b=n0 then cap else e.κ b,al:=fun b=>if b=n0 then true else e.al b }
 have hid:e'.ρ n0=some w.heap.size:=by simp [e']
 have hκ:e'.κ n0=cap:=by simp [e']
 have hne:∀ b k,e.ρ b=some k->b≠n0:=fun b k h e0=>by rw[e0,hn] at h;cases h
 have hold:∀ b k,e'.ρ b=some k->(b≠n0/\e.ρ b=some k)\/(b=n0/\k=w.heap.size):=by
  intro b k hb;by_cases hbi:b=n0
  ·right;refine⟨hbi,?_⟩;rw[hbi,hid] at hb;injection hb with hb
   exact hb.symm
  ·left;have:(if b=n0 then some w.heap.size else e.ρ b)=some k:=hb;rw[cf hbi] at this;exact⟨hbi,this⟩
 have hx:Ext e e':=⟨fun b k h=>by
  show (if b=n0 then _ else _)=_;rw[cf (hne b k h),h],fun b k h=>by
  show (if b=n0 then _ else _)=_;rw[cf (hne b k h)],fun _ _ h=>h,fun _ _ h=>h,rfl⟩
 have hadv:Adv e w e' w':=⟨hx,hb.size,fun k hk' hn'=>⟨fun b hb'=>by
  rcases hold b k hb' with h|h
  ·exact hn' b h.2
  ·omega,hb.block k hk'⟩⟩
 have hal:∀ b,b≠n0->e'.al b=e.al b:=fun b h=>by show (if b=n0 then _ else _)=_;rw[cf h]
 have hg1:=hg.later hb;refine⟨e',⟨jQ _,hadv,⟨fun b k h=>(hold b k h).imp (fun h=>h.2) (fun h=>by omega),fun _ _ h=>.inl h,fun _ _ h=>.inl h⟩,⟨hg1.below,?_,?_,hg.fr.adv hadv⟩,?_,?_⟩,hid,hκ⟩
 ·intro b b' k h1 h2 h3 h4;rcases hold b k h3 with⟨q1,q2⟩|⟨q1,q2⟩<;>rcases hold b' k h4 with⟨q3,q4⟩|⟨q3,q4⟩
  ·exact hg.inj b b' k (by rw[← hal b q1];exact h1) (by rw[← hal b' q3];exact h2) q2 q4
  ·have:=hg.lt q2;omega
  ·have:=hg.lt q4;omega
  ·rw[q1,q3]
 ·intro b k h;rcases hold b k h with⟨q1,q2⟩|⟨q1,q2⟩
  ·exact hg1.own b k q2
  ·rw[q2];exact⟨hg.below.size,_,hk,.inl ⟨_,_,rfl,ht⟩⟩
 ·intro b o ho;simp only[cP,cC] at ho;split at ho
  ·rename_i hbe;injection ho with ho;subst ho
   obtain rfl:n0=b:=cn hbe;refine⟨_,arr,vs,rest,hid,by simp [e'],hk,ha,hc.ext hx,?_⟩;cases z with
   |none=>exact hz
   |some z=>simp only at hz ⊢;rw[hz,hκ]
  ·cases ho
 ·intro b o ho _;refine ho.adv hadv (fun k hk ha=>?_);have:=hne b k hk;exact⟨by rw[hal b this];exact ha,hb.block k (hg.lt hk)⟩
theorem Jz (hg:Kv C e w) {b k ty:Nat}(hb:e.ρ b=some k) (ha:e.al b=true) {arr arr':Array Value}(hk:w.heap[k]?=some (.cells arr ty (0,0))) (ho:ju k w w') (hk':w'.heap[k]?=some (.cells arr' ty (0,0)))
 {cs':List AC} {vs' rest':List Value} (ha':arr'.toList=vs'++rest') (hc:cjd e cs' vs') {z:Option Nat} (hz:match z with|none=>rest'=[]|some z=>arr'.size=e.κ b*z) :
 jM C e w n0 n0 [(b,.blk ty cs' z)] e w':=by
 have hadv:Adv e w e w':=⟨Ext.refl e,by rw[ho.size];exact cb _,fun x hx hn=>⟨hn,ho.block x (fun h=>hn b (by rw[hb,h]))⟩⟩;refine⟨cb _,hadv,New.refl _ _ e,⟨hg.below.trans (ho.below (hg.own b k hb).1),hg.inj,?_,hg.fr.adv hadv⟩,?_,?_⟩
 ·intro b' k' h;obtain⟨h1,o2,h2,h3⟩:=hg.own b' k' h;refine⟨h1,?_⟩;by_cases hkk:k'=k
  ·subst hkk;rw[hk] at h2;injection h2 with h2
   subst h2;exact⟨_,hk',YW h3⟩
  ·exact⟨o2,(ho.block k' hkk).trans h2,h3⟩
 ·intro b' o h;simp only[cP,cC] at h;split at h
  ·rename_i hbe;injection h with h;subst h
   obtain rfl:b=b':=cn hbe;exact⟨k,arr',vs',rest',hb,ha,hk',ha',hc,hz⟩
  ·cases h
 ·intro b' o h hn;refine h.adv hadv (fun k' h1 h2=>⟨h2,?_⟩);have hbb:b'≠b:=by
   rintro rfl;simp [cP,cC] at hn
  exact ho.block k' (fun hkk=>hbb (hg.inj b' b k h2 ha (by rw[h1,hkk]) hb))
theorem cgP (hg:Kv C e w) (hf:jC n0 (n0+1) e) {b k ty:Nat}(hb:e.ρ b=some k) (ha:e.al b=true) {arr arr':Array Value}(hk:w.heap[k]?=some (.cells arr ty (0,0))) (ho:ju k w w') (hk':w'.heap[k]?=some (.cells arr' ty (0,0)))
 {cs':List AC} {vs' rest':List Value} (ha':arr'.toList=vs'++rest') (hc:cjd e cs' vs') {z:Nat} (hz:arr'.size=e.κ b*z) :
 ∃ e',jM C e w n0 (n0+1) [(n0,.blk ty cs' (some z)),(b,.dead)] e' w'/\e'.ρ n0=some k/\e'.κ n0=e.κ b:=by
 have hn:=(hf n0 (cb _) (ux _)).1;have hbn:b≠n0:=fun e0=>by rw[e0,hn] at hb;cases hb
 let e':Env:={ e with ρ:=fun x=>if x=n0 then some k else e.ρ x,κ:=fun x=>if x=n0 then e.κ b else e.κ x,al:=fun x=>if x=n0 then true else if x=b then false else e.al x }
 have hid:e'.ρ n0=some k:=by simp [e']
 have hκ:e'.κ n0=e.κ b:=by simp [e']
 have hne:∀ b k,e.ρ b=some k->b≠n0:=fun b k h e0=>by rw[e0,hn] at h;cases h
 have hold:∀ x y,e'.ρ x=some y->(x≠n0/\e.ρ x=some y)\/(x=n0/\y=k):=by
  intro x y hb;by_cases hbi:x=n0
  ·right;refine⟨hbi,?_⟩;rw[hbi,hid] at hb;injection hb with hb
   exact hb.symm
  ·left;have:(if x=n0 then some k else e.ρ x)=some y:=hb;rw[cf hbi] at this;exact⟨hbi,this⟩
 have hx:Ext e e':=⟨fun b k h=>by
  show (if b=n0 then _ else _)=_;rw[cf (hne b k h),h],fun b k h=>by
  show (if b=n0 then _ else _)=_;rw[cf (hne b k h)],fun _ _ h=>h,fun _ _ h=>h,rfl⟩
 have hadv:Adv e w e' w':=⟨hx,by rw[ho.size];exact cb _,fun y hy hn'=>⟨fun x hx'=>by
  rcases hold x y hx' with h|h
  ·exact hn' x h.2
  ·exact hn' b (by rw[hb,h.2]),ho.block y (fun h=>hn' b (by rw[hb,h]))⟩⟩
 have hal:∀ x,x≠n0->e'.al x=true->x≠b/\e.al x=true:=fun x h h1=>by
  have h1:(if x=n0 then true else if x=b then false else e.al x)=true:=h1;rw[cf h] at h1;by_cases hxb:x=b
  ·rw[cq hxb] at h1;cases h1
  ·rw[cf hxb] at h1;exact⟨hxb,h1⟩
 refine⟨e',⟨jQ _,hadv,⟨fun b k h=>(hold b k h).imp (fun h=>h.2) (fun h=>by omega),fun _ _ h=>.inl h,fun _ _ h=>.inl h⟩,⟨hg.below.trans (ho.below (hg.own b k hb).1),?_,?_,hg.fr.adv hadv⟩,?_,?_⟩,hid,hκ⟩
 ·intro x x' y h1 h2 h3 h4;rcases hold x y h3 with⟨q1,q2⟩|⟨q1,q2⟩<;>rcases hold x' y h4 with⟨q3,q4⟩|⟨q3,q4⟩
  ·exact hg.inj x x' y (hal x q1 h1).2 (hal x' q3 h2).2 q2 q4
  ·exact absurd (hg.inj x b k (hal x q1 h1).2 ha (by rw[q2,q4]) hb) (hal x q1 h1).1
  ·exact absurd (hg.inj x' b k (hal x' q3 h2).2 ha (by rw[q4,q2]) hb) (hal x' q3 h2).1
  ·rw[q1,q3]
 ·intro x y h;have h':∃ z,e.ρ z=some y:=by
   rcases hold x y h with⟨q1,q2⟩|⟨q1,q2⟩
   ·exact⟨x,q2⟩
   ·exact⟨b,by rw[hb,q2]⟩
  obtain⟨z,hz⟩:=h';obtain⟨h1,o2,h2,h3⟩:=hg.own z y hz;refine⟨h1,?_⟩;by_cases hkk:y=k
  ·subst hkk;rw[hk] at h2;injection h2 with h2
   subst h2;exact⟨_,hk',YW h3⟩
  ·exact⟨o2,(ho.block y hkk).trans h2,h3⟩
 ·intro x o h;simp only[cP,cC] at h;split at h
  ·rename_i hbe;injection h with h;subst h
   obtain rfl:n0=x:=cn hbe;exact⟨k,arr',vs',rest',hid,by simp [e'],hk',ha',hc.ext hx,by rw[hz,hκ]⟩
  ·split at h
   ·injection h with h;subst h
    trivial
   ·cases h
 ·intro x o h hn';refine h.adv hadv (fun y h1 h2=>?_);have hxb:x≠b:=by
   rintro rfl;simp only[cP,cC] at hn';split at hn'
   ·cases hn'
   ·simp at hn'
  have hxn:=hne x y h1;refine⟨?_,ho.block y (fun hkk=>hxb (hg.inj x b k h2 ha (by rw[h1,hkk]) hb))⟩;show (if x=n0 then true else if x=b then false else e.al x)=true;rw[cf hxn,cf hxb,h2]
theorem uI (hg:Kv C e w) {b k:Nat}(hb:e.ρ b=some k) (ha:e.al b=true) (ho:ju k w w') {o:Obj}(hk':w'.heap[k]?=some o) (hok:kE C o) {ob:kU D}(hob:cjg C e w' b ob):jM C e w n0 n0 [(b,ob)] e w':=by
 have hadv:Adv e w e w':=⟨Ext.refl e,by rw[ho.size];exact cb _,fun x hx hn=>⟨hn,ho.block x (fun h=>hn b (by rw[hb,h]))⟩⟩;refine⟨cb _,hadv,New.refl _ _ e,⟨hg.below.trans (ho.below (hg.own b k hb).1),hg.inj,?_,hg.fr.adv hadv⟩,?_,?_⟩
 ·intro b' k' h;obtain⟨h1,o2,h2,h3⟩:=hg.own b' k' h;refine⟨h1,?_⟩;by_cases hkk:k'=k
  ·subst hkk;exact⟨_,hk',hok⟩
  ·exact⟨o2,(ho.block k' hkk).trans h2,h3⟩
 ·intro b' o h;simp only[cP,cC] at h;split at h
  ·rename_i hbe;injection h with h;subst h
   obtain rfl:b=b':=cn hbe;exact hob
  ·cases h
 ·intro b' o h hn;refine h.adv hadv (fun k' h1 h2=>⟨h2,?_⟩);have hbb:b'≠b:=by
   rintro rfl;simp [cP,cC] at hn
  exact ho.block k' (fun hkk=>hbb (hg.inj b' b k h2 ha (by rw[h1,hkk]) hb))
theorem ZL (hg:Kv C e w) (hf:jC n0 (n0+1) e) (hb:Below w.heap.size w w') {k:Nat}(hkk:w.heap.size<=k) {o:Obj}(hk:w'.heap[k]?=some o) (hok:kE C o) {ob:kU D}(hob:∀ e':Env,Ext e e'->e'.ρ n0=some k->e'.al n0=true->cjg C e' w' n0 ob) :
 ∃ e',jM C e w n0 (n0+1) [(n0,ob)] e' w'/\e'.ρ n0=some k:=by
 have hn:=(hf n0 (cb _) (ux _)).1
 let e':Env:={ e with ρ:=fun b=>if b=n0 then some k else e.ρ b,al:=fun b=>if b=n0 then true else e.al b }
 have hid:e'.ρ n0=some k:=by simp [e']
 have hne:∀ b k,e.ρ b=some k->b≠n0:=fun b k h e0=>by rw[e0,hn] at h;cases h
 have hold:∀ b j,e'.ρ b=some j->(b≠n0/\e.ρ b=some j)\/(b=n0/\j=k):=by
  intro b j hb;by_cases hbi:b=n0
  ·right;refine⟨hbi,?_⟩;rw[hbi,hid] at hb;injection hb with hb
   exact hb.symm
  ·left;have:(if b=n0 then some k else e.ρ b)=some j:=hb;rw[cf hbi] at this;exact⟨hbi,this⟩
 have hx:Ext e e':=⟨fun b k h=>by
  show (if b=n0 then _ else _)=_;rw[cf (hne b k h),h],fun _ _ _=>rfl,fun _ _ h=>h,fun _ _ h=>h,rfl⟩
 have hadv:Adv e w e' w':=⟨hx,hb.size,fun j hk' hn'=>⟨fun b hb'=>by
  rcases hold b j hb' with h|h
  ·exact hn' b h.2
  ·omega,hb.block j hk'⟩⟩
 have hal:∀ b,b≠n0->e'.al b=e.al b:=fun b h=>by show (if b=n0 then _ else _)=_;rw[cf h]
 have hg1:=hg.later hb;refine⟨e',⟨jQ _,hadv,⟨fun b k h=>(hold b k h).imp (fun h=>h.2) (fun h=>by omega),fun _ _ h=>.inl h,fun _ _ h=>.inl h⟩,⟨hg1.below,?_,?_,hg.fr.adv hadv⟩,?_,?_⟩,hid⟩
 ·intro b b' j h1 h2 h3 h4;rcases hold b j h3 with⟨q1,q2⟩|⟨q1,q2⟩<;>rcases hold b' j h4 with⟨q3,q4⟩|⟨q3,q4⟩
  ·exact hg.inj b b' j (by rw[← hal b q1];exact h1) (by rw[← hal b' q3];exact h2) q2 q4
  ·have:=hg.lt q2;omega
  ·have:=hg.lt q4;omega
  ·rw[q1,q3]
 ·intro b j h;rcases hold b j h with⟨q1,q2⟩|⟨q1,q2⟩
  ·exact hg1.own b j q2
  ·rw[q2];exact⟨cB hg.below.size hkk,_,hk,hok⟩
 ·intro b o ho;simp only[cP,cC] at ho;split at ho
  ·rename_i hbe;injection ho with ho;subst ho
   obtain rfl:n0=b:=cn hbe;exact hob e' hx hid (by simp [e'])
  ·cases ho
 ·intro b o ho _;refine ho.adv hadv (fun k hk ha=>?_);have:=hne b k hk;exact⟨by rw[hal b this];exact ha,hb.block k (hg.lt hk)⟩
theorem jM.drop {n1:Nat}{b:Nat}{ws:Ws D}{e':Env}(h:jM C e w n0 n1 ws e' w'):jM C e w n0 n1 (ws++[(b,.dead)]) e' w':=by
 refine⟨h.le,h.adv,h.new,h.good,fun x o ho=>?_,fun x o ho hn=>?_⟩
 ·rw[zj] at ho;split at ho
  ·rename_i v hv;injection ho with ho;subst ho
   exact h.wrote x _ hv
  ·simp only[cP,cC] at ho;split at ho
   ·injection ho with ho;subst ho;trivial
   ·cases ho
 ·rw[zj] at hn;split at hn
  ·cases hn
  ·rename_i hn';exact h.kept x o ho hn'
theorem left_fn (hg:Kv C e w) (hf:jC n0 (n0+1) e) {f:FuncId}{pre cap:List A1}{p q:List Value}(hp:ke e pre p) (hq:ke e cap q) :
 ∃ e',jM C e w n0 (n0+1) [(n0,.clo f pre cap)] e' w/\e'.φ n0=some (.func (.func f) p.toArray q.toArray):=by
 have hn:=(hf n0 (cb _) (ux _)).2.2
 let e':Env:={ e with φ:=fun x=>if x=n0 then some (.func (.func f) p.toArray q.toArray) else e.φ x }
 have hid:e'.φ n0=some (.func (.func f) p.toArray q.toArray):=by simp [e']
 have hx:Ext e e':=⟨fun _ _ h=>h,fun _ _ _=>rfl,fun _ _ h=>h,fun b k h=>by
  show (if b=n0 then _ else _)=_;rw[cf (fun e0=>by rw[e0,hn] at h;cases h),h],rfl⟩
 have hadv:Adv e w e' w:=⟨hx,cb _,fun k _ hn'=>⟨hn',rfl⟩⟩;refine⟨e',⟨jQ _,hadv,⟨fun _ _ h=>.inl h,fun _ _ h=>.inl h,fun b k h=>?_⟩,⟨hg.below,hg.inj,hg.own,hg.fr.adv hadv⟩,?_,?_⟩,hid⟩
 ·by_cases hb:b=n0
  ·right;omega
  ·left;have h:(if b=n0 then some (Value.func (.func f) p.toArray q.toArray) else e.φ b)=some k:=h
   rwa [cf hb] at h
 ·intro b o ho;simp only[cP,cC] at ho;split at ho
  ·rename_i hbe;injection ho with ho;subst ho
   obtain rfl:n0=b:=cn hbe;exact⟨p,q,hid,hp.ext hx,hq.ext hx⟩
  ·cases ho
 ·intro b o ho _;exact ho.adv hadv (fun k _ ha=>⟨ha,rfl⟩)
theorem ue (hg:Kv C e w) (hf:jC n0 (n0+1) e) {v:Value}{ob:kU D}(ho:∀ e':Env,Ext e e'->e'.φ n0=some v->cjg C e' w n0 ob) :
 ∃ e',jM C e w n0 (n0+1) [(n0,ob)] e' w/\e'.φ n0=some v:=by
 have hn:=(hf n0 (cb _) (ux _)).2.2
 let e':Env:={ e with φ:=fun x=>if x=n0 then some v else e.φ x }
 have hid:e'.φ n0=some v:=by simp [e']
 have hx:Ext e e':=⟨fun _ _ h=>h,fun _ _ _=>rfl,fun _ _ h=>h,fun b k h=>by
  show (if b=n0 then _ else _)=_;rw[cf (fun e0=>by rw[e0,hn] at h;cases h),h],rfl⟩
 have hadv:Adv e w e' w:=⟨hx,cb _,fun k _ hn'=>⟨hn',rfl⟩⟩;refine⟨e',⟨jQ _,hadv,⟨fun _ _ h=>.inl h,fun _ _ h=>.inl h,fun b k h=>?_⟩,⟨hg.below,hg.inj,hg.own,hg.fr.adv hadv⟩,?_,?_⟩,hid⟩
 ·by_cases hb:b=n0
  ·right;omega
  ·left;have h:(if b=n0 then some v else e.φ b)=some k:=h
   rwa [cf hb] at h
 ·intro b o ho';simp only[cP,cC] at ho';split at ho'
  ·rename_i hbe;injection ho' with ho';subst ho'
   obtain rfl:n0=b:=cn hbe;exact ho e' hx hid
  ·cases ho'
 ·intro b o ho' _;exact ho'.adv hadv (fun k _ ha=>⟨ha,rfl⟩)
theorem Jg (hC:C.Ok) (hg:Kv C e w) {gs:List (Grp D)}{cs:List AC}{ws:Ws D}{n1:Nat}(hm:cji C.csz n0 gs=(cs,ws,n1)) (hf:jC n0 n1 e) {vs:List Value}(hr:Cd C e w gs vs) :
 ∃ e',jM C e w n0 n1 ws e' w/\cjd e' cs vs:=by
 have hby:=Jk hC (W:=fun w''=>jy e w w'') w (jy.refl e w) (fun w'' hk=>hr w'' hk);obtain⟨e',g,hx⟩:=CY hm (cb _) (fun y h1 h2=>(hf y h1 h2).2.1) hby;have hadv:Adv e w e' w:=⟨g.ext,cb _,fun k hk hn=>⟨by rw[g.ρ];exact hn,rfl⟩⟩;have hkp:∀ w'',jy e' w w''->jy e w w'':=fun w'' h=>⟨h.size,fun k h1 h2 h3=>h.block k h1 (by rw[g.ρ];exact h2) (by rw[g.ext.ot];exact h3)⟩;refine⟨e',⟨g.le,hadv,⟨fun b k h=>.inl (by rw[← g.ρ];exact h),g.ν,fun b k h=>.inl (by rw[← g.φ];exact h)⟩,⟨hg.below,?_,?_,hg.fr.adv hadv⟩,?_,?_⟩,hx⟩
 ·rw[g.al,g.ρ];exact hg.inj
 ·rw[g.ρ];exact hg.own
 ·intro b o ho;obtain⟨_,d,rfl,f,h1,h2⟩:=g.live b o (yg ho);exact⟨f,h1,fun w'' hk=>h2 w'' (hkp w'' hk)⟩
 ·intro b o ho _;exact ho.adv hadv (fun k hk ha=>⟨by rw[g.al];exact ha,rfl⟩)
theorem ot_lt {C:Ctx D}{e:Env}{w w':World}(hg:Kv C e w) (hg1:Kv C e w') {k:Nat}(ho:e.ot k):k<w.heap.size/\∃ o,w'.heap[k]?=some o/\kE C o:=by
 obtain⟨_,o,h1,_⟩:=hg.fr.1 k ho;exact⟨(Array.getElem?_eq_some_iff.1 h1).1,(hg1.fr.1 k ho).2⟩
theorem ZK (hg:Kv C e w) (hf:jC n0 (n0+1) e) {b k:Nat}(hb:e.ρ b=some k) (ha:e.al b=true) (hs:w.heap.size<=w'.heap.size) (hbl:Below C.w0.heap.size C.w0 w') (ho:∀ i,i<w.heap.size->i≠k->w'.heap[i]?=w.heap[i]?) {o:Obj}(hk':w'.heap[k]?=some o) (hok:kE C o) {v:Value}{ob:kU D}(hob:∀ e':Env,Adv e w e' w'->e'.ρ n0=some k->e'.al n0=true->e'.φ n0=some v->(∀ x y,e'.ρ x=some y->∃ z,e.ρ z=some y)->cjg C e' w' n0 ob) :
 ∃ e',jM C e w n0 (n0+1) [(n0,ob),(b,.dead)] e' w'/\e'.φ n0=some v:=by
 have hn:=(hf n0 (cb _) (ux _)).1;have hnφ:=(hf n0 (cb _) (ux _)).2.2;have hbn:b≠n0:=fun e0=>by rw[e0,hn] at hb;cases hb
 let e':Env:={ e with ρ:=fun x=>if x=n0 then some k else e.ρ x,al:=fun x=>if x=n0 then true else if x=b then false else e.al x,φ:=fun x=>if x=n0 then some v else e.φ x }
 have hid:e'.ρ n0=some k:=by simp [e']
 have hiφ:e'.φ n0=some v:=by simp [e']
 have hne:∀ b k,e.ρ b=some k->b≠n0:=fun b k h e0=>by rw[e0,hn] at h;cases h
 have hold:∀ x y,e'.ρ x=some y->(x≠n0/\e.ρ x=some y)\/(x=n0/\y=k):=by
  intro x y hb;by_cases hbi:x=n0
  ·right;refine⟨hbi,?_⟩;rw[hbi,hid] at hb;injection hb with hb
   exact hb.symm
  ·left;have:(if x=n0 then some k else e.ρ x)=some y:=hb;rw[cf hbi] at this;exact⟨hbi,this⟩
 have hx:Ext e e':=⟨fun b k h=>by
  show (if b=n0 then _ else _)=_;rw[cf (hne b k h),h],fun _ _ _=>rfl,fun _ _ h=>h,fun b k h=>by
  show (if b=n0 then _ else _)=_;rw[cf (fun e0=>by rw[e0,hnφ] at h;cases h),h],rfl⟩
 have hadv:Adv e w e' w':=⟨hx,hs,fun y hy hn'=>⟨fun x hx'=>by
  rcases hold x y hx' with h|h
  ·exact hn' x h.2
  ·exact hn' b (by rw[hb,h.2]),ho y hy (fun h=>hn' b (by rw[hb,h]))⟩⟩
 have hal:∀ x,x≠n0->e'.al x=true->x≠b/\e.al x=true:=fun x h h1=>by
  have h1:(if x=n0 then true else if x=b then false else e.al x)=true:=h1;rw[cf h] at h1;by_cases hxb:x=b
  ·rw[cq hxb] at h1;cases h1
  ·rw[cf hxb] at h1;exact⟨hxb,h1⟩
 refine⟨e',⟨jQ _,hadv,⟨fun b k h=>(hold b k h).imp (fun h=>h.2) (fun h=>by omega),fun _ _ h=>.inl h,fun b k h=>?_⟩,⟨hbl,?_,?_,hg.fr.adv hadv⟩,?_,?_⟩,hiφ⟩
 ·by_cases hb:b=n0
  ·right;omega
  ·left;have h:(if b=n0 then some v else e.φ b)=some k:=h
   rwa [cf hb] at h
 ·intro x x' y h1 h2 h3 h4;rcases hold x y h3 with⟨q1,q2⟩|⟨q1,q2⟩<;>rcases hold x' y h4 with⟨q3,q4⟩|⟨q3,q4⟩
  ·exact hg.inj x x' y (hal x q1 h1).2 (hal x' q3 h2).2 q2 q4
  ·exact absurd (hg.inj x b k (hal x q1 h1).2 ha (by rw[q2,q4]) hb) (hal x q1 h1).1
  ·exact absurd (hg.inj x' b k (hal x' q3 h2).2 ha (by rw[q4,q2]) hb) (hal x' q3 h2).1
  ·rw[q1,q3]
 ·intro x y h;have h':∃ z,e.ρ z=some y:=by
   rcases hold x y h with⟨q1,q2⟩|⟨q1,q2⟩
   ·exact⟨x,q2⟩
   ·exact⟨b,by rw[hb,q2]⟩
  obtain⟨z,hz⟩:=h';obtain⟨h1,o2,h2,h3⟩:=hg.own z y hz;refine⟨h1,?_⟩;by_cases hkk:y=k
  ·subst hkk;exact⟨_,hk',hok⟩
  ·exact⟨o2,(ho y (hg.lt hz) hkk).trans h2,h3⟩
 ·intro x o h;simp only[cP,cC] at h;split at h
  ·rename_i hbe;injection h with h;subst h
   obtain rfl:n0=x:=cn hbe;exact hob e' hadv hid (by simp [e']) hiφ (fun x y h=>by
    rcases hold x y h with⟨q1,q2⟩|⟨q1,q2⟩
    ·exact⟨x,q2⟩
    ·exact⟨b,by rw[hb,q2]⟩)
  ·split at h
   ·injection h with h;subst h
    trivial
   ·cases h
 ·intro x o h hn';refine h.adv hadv (fun y h1 h2=>?_);have hxb:x≠b:=by
   rintro rfl;simp only[cP,cC] at hn';split at hn'
   ·cases hn'
   ·simp at hn'
  have hxn:=hne x y h1;refine⟨?_,ho y (hg.lt h1) (fun hkk=>hxb (hg.inj x b k h2 ha (by rw[h1,hkk]) hb))⟩;show (if x=n0 then true else if x=b then false else e.al x)=true;rw[cf hxn,cf hxb,h2]
theorem cds (hC:C.Ok) (hg:Kv C e w) (hb:Below w.heap.size w w') {res:RPat D}{x:AV}{ws:Ws D}{n1:Nat}(hm:mkR C.csz n0 res=some (x,ws,n1)) (hf:jC n0 n1 e) {v:Value}(hr:UX C w w' res v) :
 ∃ e',jM C e w n0 n1 ws e' w'/\x.is e' v:=by
 have hg1:=hg.later hb;have hby:=rpat_by hC (W:=fun w''=>jy e w' w'') w' (jy.refl e w') hm (fun w'' hk=>by
  refine hr (fun k=>(∃ b,e.ρ b=some k)\/e.ot k) (fun k hS=>?_) w'' hk.size (fun k hlt hS=>hk.block k hlt (fun b hb=>hS (.inl ⟨b,hb⟩)) (fun ho=>hS (.inr ho)));rcases hS with⟨b,hb'⟩|ho
  ·exact⟨hg.lt hb',(hg1.own b k hb').2⟩
  ·exact ot_lt hg hg1 ho)
 obtain⟨e',g,hx⟩:=mkR_is hm (cb _) (fun y h1 h2=>(hf y h1 h2).2.1) hby;have hadv:Adv e w e' w':=⟨g.ext,hb.size,fun k hk hn=>⟨by rw[g.ρ];exact hn,hb.block k hk⟩⟩;have hkp:∀ w'',jy e' w' w''->jy e w' w'':=fun w'' h=>⟨h.size,fun k h1 h2 h3=>h.block k h1 (by rw[g.ρ];exact h2) (by rw[g.ext.ot];exact h3)⟩;refine⟨e',⟨g.le,hadv,⟨fun b k h=>.inl (by rw[← g.ρ];exact h),g.ν,fun b k h=>.inl (by rw[← g.φ];exact h)⟩,⟨hg1.below,?_,?_,hg.fr.adv hadv⟩,?_,?_⟩,hx⟩
 ·rw[g.al,g.ρ];exact hg1.inj
 ·rw[g.ρ];exact hg1.own
 ·intro b o ho;obtain⟨_,d,rfl,f,h1,h2⟩:=g.live b o (yg ho);exact⟨f,h1,fun w'' hk=>h2 w'' (hkp w'' hk)⟩
 ·intro b o ho _;exact ho.adv hadv (fun k hk ha=>⟨by rw[g.al];exact ha,hb.block k (hg.lt hk)⟩)
end
end Pe
end Go.Proofs.YtcgiaclelnmhbabGreatDoor
