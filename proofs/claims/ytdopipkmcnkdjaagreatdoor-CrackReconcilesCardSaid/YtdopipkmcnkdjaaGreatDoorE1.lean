/- Part 1. -/
import Derived.AtR
import Derived.Below
import Derived.Control
import Derived.ControlIn
import Derived.Laws.AppendOwn
import Derived.Laws.Bits64
import Derived.Laws.BitsLemmas
import Derived.Laws.Cells
import Derived.Laws.Entries
import Derived.Laws.Rows
import Derived.Laws.Sem
import Derived.Laws.World
import Derived.Lib.Hide
import Derived.OwnWalk
import Derived.RangeFuncLeaves
import Derived.RangeFuncRecord
import Derived.RowKit3
import Derived.Shelf.Abstract
import Derived.Tactics
import Derived.Orders
import Derived.Scope
import Derived.KernelRfl
import Derived.Great.BuildSlice
import Derived.Laws.OwnMore
set_option linter.all false
noncomputable section

namespace Go.Proofs.YtdopipkmcnkdjaaGreatDoor
open Go Go.RowKit Go.Proofs
def lemZ1:=@Array.eq_empty_of_size_eq_zero
def CO:=@Array.ext'
def uX:=@Array.getD_eq_getD_getElem?
def ckA:=@Array.getElem?_append_left
def Ue:=@Array.getElem?_eq_getElem
def Zp:=@Array.getElem?_eq_none
def cbW:=@Array.getElem?_modify
def chk:=@Array.getElem?_push
def lemZ9:=@Array.getElem?_replicate
def ccu:=@Array.getElem?_setIfInBounds
def ciY:=@Array.getElem?_toList
def Ca:=@Array.length_toList
def ZR:=@Array.mapM_eq_mapM_toList
def ccG:=@Array.size_append
def cfK:=@Array.size_replicate
def YK:=@Array.toList_map
def cjp:=@Array.toList_setIfInBounds
def EL:=@Bool.and_eq_true
def jA:=@Bool.eq_false_or_eq_true
def YD:=@Bool.eq_iff_iff
def GT:=@Bool.false_and
def UY:=@Bool.false_eq_true
def ccj:=@Bool.false_ne_true
def cgp:=@Bool.or_eq_false_iff
def Wj:=@Bool.or_eq_true
def YP:=@Bool.true_and
def ccq:=@Go.Addr.add_lit
def zH:=@Go.IntKind.wrap_i64
def zA:=@Go.IntKind.wrap_u64
def ca:=@Go.Lib.hid
def Yu:=@Go.Oper.semAt_eq
def cY:=@Go.Proofs.enters_of
def jC:=@Go.Result.andThen_ok
def cw:=@Go.RowKit.Below.refl
def caz:=@Go.RowKit.Grown.refl
def jc:=@Go.Sem.run_bind
def zk:=@Go.Sem.run_pure
def kS:=@Go.World.block_lt_of_cell?
def ZX:=@Go.World.cell?_alloc_new
def ZV:=@Go.World.cell?_of_block
def Jg:=@Go.World.putObj_heap_other
def Kt:=@Go.World.putObj_heap_same
def Gc:=@Go.World.size_alloc
def jw:=@Go.bodyPost_ret
def cjF:=@Go.callsIn_of_wp_marks
def ccr:=@Go.grownCap_ge
def Gh:=@Go.heap_alloc_new
def Ur:=@Go.info_parts
def cgB:=@Go.run_endRound
def cfu:=@Go.run_loadCells_list
def cae:=@Go.run_program
def ud:=@Go.run_underlying
def Ex:=@Go.wpIn_mono
def cjc:=@Go.wpList_append_own
def Uq:=@Go.wpList_make_full
def YE:=@Go.wpList_plain
def CU:=@Go.wp_block
def UR:=@Go.wp_mono
def YC:=@Go.wp_region_lit
def cB:=@Go.wp_seq
def JG:=@Int.natCast_ediv
def uv:=@Int.natCast_mul
def ccS:=@Int.natCast_nonneg
def car:=@Int.tdiv_eq_ediv_of_nonneg
def cjn:=@Int.tmod_eq_emod_of_nonneg
def ZJ:=@Int.toNat_natCast
def uM:=@List.append_assoc
def ug:=@List.append_nil
def yG:=@List.cons.injEq
def JB:=@List.cons_append
def ccz:=@List.drop_append_of_le_length
def zU:=@List.drop_drop
def KM:=@List.drop_eq_getElem_cons
def cfY:=@List.drop_eq_nil_of_le
def cfD:=@List.drop_of_length_le
def ux:=@List.drop_zero
def cff:=@List.eq_of_mem_replicate
def Yq:=@List.ext_getElem?
def cgs:=@List.extract_eq_take_drop
def yR:=@List.getD_eq_getElem?_getD
def KQ:=@List.getElem?_append_left
def YL:=@List.getElem?_append_right
def zz:=@List.getElem?_drop
def kb:=@List.getElem?_eq_getElem
def yA:=@List.getElem?_eq_none
def JF:=@List.getElem?_map
def civ:=@List.getElem?_replicate
def UO:=@List.getElem?_set_ne
def cfW:=@List.getElem?_set_self
def yF:=@List.getElem?_take
def Yv:=@List.getElem_mem
def cjK:=@List.getLast_eq_getElem
def kI:=@List.length_append
def uP:=@List.length_cons
def uK:=@List.length_drop
def Ys:=@List.length_nil
def Ev:=@List.length_set
def Ud:=@List.length_singleton
def jp:=@List.length_take
def Wp:=@List.mapM_cons
def jR:=@List.map_cons
def kW:=@List.map_nil
def uQ:=@List.mem_cons
def uL:=@List.mem_cons_of_mem
def Wn:=@List.mem_of_getElem?
def cbs:=@List.mem_of_mem_drop
def Wo:=@List.mem_of_mem_take
def Em:=@List.nil_append
def Zr:=@List.not_mem_nil
def cbK:=@List.range'_succ
def Zf:=@List.range_eq_range'
def yW:=@List.range_succ
def cbD:=@List.set_append_right
def Ek:=@List.size_toArray
def cgh:=@List.takeWhile_append_dropWhile
def kv:=@List.take_append_drop
def Zd:=@List.take_append_of_le_length
def yC:=@List.take_length
def kA:=@List.take_of_length_le
def Ya:=@List.take_succ_cons
def cbF:=@List.take_succ_eq_append_getElem
def zO:=@Nat.add_assoc
def Wz:=@Nat.add_comm
def cT:=@Nat.add_mul
def YY:=@Nat.add_mul_mod_self_left
def kh:=@Nat.add_zero
def Jp:=@Nat.ble_eq_true_of_le
def cfC:=@Nat.coprime_div_gcd_div_gcd
def kY:=@Nat.div_add_mod
def cbL:=@Nat.div_eq_of_lt
def kX:=@Nat.div_le_self
def zM:=@Nat.div_lt_of_lt_mul
def Jx:=@Nat.div_mul_cancel
def KX:=@Nat.div_mul_le_self
def Jo:=@Nat.div_pos
def cbq:=@Nat.dvd_add_left
def cga:=@Nat.dvd_iff_mod_eq_zero
def Cp:=@Nat.dvd_mul_left_of_dvd
def ct:=@Nat.eq_of_beq_eq_true
def kH:=@Nat.eq_zero_or_pos
def Ec:=@Nat.gcd_comm
def zp:=@Nat.gcd_dvd_left
def yT:=@Nat.gcd_dvd_right
def WH:=@Nat.gcd_le_right
def Cy:=@Nat.gcd_pos_of_pos_right
def cbM:=@Nat.le_add_right
def jo:=@Nat.le_of_ble_eq_true
def Cs:=@Nat.le_of_lt
def cfX:=@Nat.le_of_mul_le_mul_right
def cb:=@Nat.le_refl
def yg:=@Nat.le_succ
def cA:=@Nat.le_trans
def jP:=@Nat.lt_of_le_of_lt
def cI:=@Nat.lt_of_lt_of_le
def KK:=@Nat.lt_of_mul_lt_mul_left
def KF:=@Nat.lt_of_mul_lt_mul_right
def jd:=@Nat.lt_or_ge
def Cu:=@Nat.lt_succ_self
def KD:=@Nat.lt_trans
def KH:=@Nat.lt_trichotomy
def uq:=@Nat.min_eq_left
def yS:=@Nat.mod_eq_of_lt
def ki:=@Nat.mod_lt
def cP:=@Nat.mul_add
def jy:=@Nat.mul_assoc
def jf:=@Nat.mul_comm
def cfr:=@Nat.mul_div_mul_right
def Cw:=@Nat.mul_le_mul
def jz:=@Nat.mul_le_mul_left
def ja:=@Nat.mul_le_mul_right
def cbt:=@Nat.mul_left_comm
def cfE:=@Nat.mul_mod_mul_right
def Cm:=@Nat.mul_one
def Co:=@Nat.mul_pos
def Ck:=@Nat.mul_zero
def cH:=@Nat.not_lt_zero
def kB:=@Nat.one_mul
def cbI:=@Nat.pos_of_ne_zero
def kP:=@Nat.pow_add
def cbB:=@Nat.pow_le_pow_left
def jY:=@Nat.pow_le_pow_right
def cbp:=@Nat.pow_lt_pow_iff_right
def Jn:=@Nat.pow_one
def kQ:=@Nat.pow_pos
def ji:=@Nat.pow_succ
def Jv:=@Nat.pow_zero
def WF:=@Nat.sub_self
def je:=@Nat.zero_add
def ju:=@Nat.zero_le
def Jr:=@Nat.zero_mul
def KV:=@Option.map_none
def Gs:=@Option.some.inj
def kJ:=@Option.some.injEq
def cr:=@Prod.mk.injEq
def GF:=@Rat.le_refl
def zq:=@Rat.le_trans
def jO:=@beq_eq_false_iff_ne
def Jq:=@bne_iff_ne
def cQ:=@congrArg
def cK:=@decide_eq_false
def Zk:=@decide_eq_false_iff_not
def cF:=@decide_eq_true
def Ju:=@decide_eq_true_eq
def GD:=@false_and
def Gy:=@if_false
def cg:=@if_neg
def co:=@if_pos
def Cv:=@if_true
def jn:=@of_decide_eq_false
def jh:=@of_decide_eq_true
namespace Pe
inductive AC where
 |lit (v:Value)
 |sym (s j:Nat)
 |ptr (b o:Nat)
 |slc (b o n c:Nat)
 |gsl (b n:Nat)
 |gso (b i z n:Nat)
 |fn (c:Nat)
 |yld (b:Nat)
inductive A1 where
 |one (c:AC)
 |agg (cs:List AC)
inductive AV where
 |val (a:A1)
 |tup (l:List A1)
structure Env where
 ρ:Nat->Option Nat
 κ:Nat->Nat
 ν:Nat->Option (List Value)
 φ:Nat->Option Value
 al:Nat->Bool
structure Ext (e e':Env):Prop where
 ρ:∀ b k,e.ρ b=some k->e'.ρ b=some k
 κ:∀ b k,e.ρ b=some k->e'.κ b=e.κ b
 ν:∀ s f,e.ν s=some f->e'.ν s=some f
 φ:∀ s f,e.φ s=some f->e'.φ s=some f
theorem Ext.refl (e:Env):Ext e e:=⟨fun _ _ h=>h,fun _ _ _=>rfl,fun _ _ h=>h,fun _ _ h=>h⟩
theorem Ext.trans {a b c:Env}(h:Ext a b) (k:Ext b c):Ext a c :=
 ⟨fun x y z=>k.ρ x y (h.ρ x y z),fun x y z=>(k.κ x y (h.ρ x y z)).trans (h.κ x y z),fun x y z=>k.ν x y (h.ν x y z),fun x y z=>k.φ x y (h.φ x y z)⟩
def AC.is (e:Env):AC->Value->Prop
 |.lit v',v=>v=v'
 |.sym s j,v=>∃ l,e.ν s=some l/\l[j]?=some v/\v.oneCell'=true
 |.ptr b o,v=>∃ k,e.ρ b=some k/\v=.pointer (some ⟨k,o,none⟩)
 |.slc b o n c,v=>∃ k,e.ρ b=some k/\v=.slice (some ⟨k,o,none⟩) n c
 |.gsl b n,v=>∃ k,e.ρ b=some k/\v=.slice (some ⟨k,0,none⟩) n (e.κ b)
 |.gso b i z n,v=>∃ k,e.ρ b=some k/\v=.slice (some ⟨k,i*z,none⟩) n (e.κ b-i)
 |.fn c,v=>e.φ c=some v
 |.yld b,v=>∃ k,e.ρ b=some k/\v=.func (.yield k) #[] #[]
theorem AC.is.ext {e e':Env}(h:Ext e e') {c:AC}{v:Value}(hc:c.is e v):c.is e' v:=by
 cases c with
 |lit=>exact hc
 |sym s j=>obtain⟨f,h1,h2⟩:=hc;exact⟨f,h.ν s f h1,h2⟩
 |ptr b o=>obtain⟨k,h1,h2⟩:=hc;exact⟨k,h.ρ b k h1,h2⟩
 |slc b o n c=>obtain⟨k,h1,h2⟩:=hc;exact⟨k,h.ρ b k h1,h2⟩
 |gsl b n=>obtain⟨k,h1,h2⟩:=hc;exact⟨k,h.ρ b k h1,by rw[h2,h.κ b k h1]⟩
 |gso b i z n=>obtain⟨k,h1,h2⟩:=hc;exact⟨k,h.ρ b k h1,by rw[h2,h.κ b k h1]⟩
 |fn c=>exact h.φ _ _ hc
 |yld b=>obtain⟨k,h1,h2⟩:=hc;exact⟨k,h.ρ b k h1,h2⟩
def cZ (e:Env):List AC->List Value->Prop
 |[],vs=>vs=[]
 |c::cs,vs=>∃ v ws,vs=v::ws/\c.is e v/\cZ e cs ws
theorem cZ.ext {e e':Env}(h:Ext e e'):∀ {cs:List AC}{vs:List Value},cZ e cs vs->cZ e' cs vs
 |[],_,hc=>hc
 |c::cs,_,⟨v,ws,h1,h2,h3⟩=>⟨v,ws,h1,h2.ext h,cZ.ext h h3⟩
theorem cZ.length {e:Env}:∀ {cs:List AC}{vs:List Value},cZ e cs vs->vs.length=cs.length
 |[],_,hc=>by rw[hc];rfl
 |c::cs,_,⟨v,ws,h1,h2,h3⟩=>by rw[h1];simp [h3.length]
theorem cZ.get {e:Env}:∀ {cs:List AC}{vs:List Value},cZ e cs vs->∀ (i:Nat) (c:AC),cs[i]?=some c->∃ v,vs[i]?=some v/\c.is e v
 |[],_,_,i,c,h=>by simp at h
 |c::cs,_,⟨v,ws,h1,h2,h3⟩,0,d,h=>by
  simp at h;subst h;subst h1;exact⟨v,rfl,h2⟩
 |c::cs,_,⟨v,ws,h1,h2,h3⟩,i+1,d,h=>by
  simp at h;subst h1;simpa using h3.get i d h
theorem cZ.append {e:Env}:∀ {cs ds:List AC}{vs ws:List Value},cZ e cs vs->cZ e ds ws->cZ e (cs++ds) (vs++ws)
 |[],_,_,_,h,k=>by rw[h];exact k
 |c::cs,_,_,_,⟨v,ws,h1,h2,h3⟩,k=>⟨v,_,by rw[h1];rfl,h2,h3.append k⟩
theorem cZ.drop {e:Env}:∀ {n:Nat}{cs:List AC}{vs:List Value},cZ e cs vs->cZ e (cs.drop n) (vs.drop n)
 |0,_,_,h=>h
 |n+1,[],vs,h=>by rw[h];rfl
 |n+1,c::cs,_,⟨v,ws,h1,_,h3⟩=>by rw[h1];exact h3.drop
theorem cZ.take {e:Env}:∀ {n:Nat}{cs:List AC}{vs:List Value},cZ e cs vs->cZ e (cs.take n) (vs.take n)
 |0,_,_,h=>rfl
 |n+1,[],vs,h=>by rw[h];rfl
 |n+1,c::cs,_,⟨v,ws,h1,h2,h3⟩=>⟨v,ws.take n,by rw[h1];rfl,h2,h3.take⟩
theorem yZ (e:Env):∀ (vs:List Value),cZ e (vs.map .lit) vs
 |[]=>rfl
 |v::vs=>⟨v,vs,rfl,rfl,yZ e vs⟩
def A1.is (e:Env):A1->Value->Prop
 |.one c,v=>c.is e v
 |.agg cs,v=>∃ vs,cZ e cs vs/\v=.agg vs.toArray
theorem A1.is.ext {e e':Env}(h:Ext e e') {c:A1}{v:Value}(hc:c.is e v):c.is e' v:=by
 cases c with
 |one c=>exact AC.is.ext h hc
 |agg cs=>obtain⟨vs,h1,h2⟩:=hc;exact⟨vs,h1.ext h,h2⟩
def up (e:Env):List A1->List Value->Prop
 |[],vs=>vs=[]
 |c::cs,vs=>∃ v ws,vs=v::ws/\c.is e v/\up e cs ws
theorem up.ext {e e':Env}(h:Ext e e'):∀ {cs:List A1}{vs:List Value},up e cs vs->up e' cs vs
 |[],_,hc=>hc
 |c::cs,_,⟨v,ws,h1,h2,h3⟩=>⟨v,ws,h1,h2.ext h,up.ext h h3⟩
theorem up.get {e:Env}:∀ {cs:List A1}{vs:List Value},up e cs vs->∀ (i:Nat) (c:A1),cs[i]?=some c->∃ v,vs[i]?=some v/\c.is e v
 |[],_,_,i,c,h=>by simp at h
 |c::cs,_,⟨v,ws,h1,h2,h3⟩,0,d,h=>by
  simp at h;subst h;subst h1;exact⟨v,rfl,h2⟩
 |c::cs,_,⟨v,ws,h1,h2,h3⟩,i+1,d,h=>by
  simp at h;subst h1;simpa using h3.get i d h
theorem up.length {e:Env}:∀ {cs:List A1}{vs:List Value},up e cs vs->vs.length=cs.length
 |[],_,hc=>by rw[hc];rfl
 |c::cs,_,⟨v,ws,h1,h2,h3⟩=>by rw[h1];simp [h3.length]
def AV.is (e:Env):AV->Value->Prop
 |.val a,v=>a.is e v
 |.tup l,v=>∃ vs,up e l vs/\v=.tuple vs.toArray
theorem AV.is.ext {e e':Env}(h:Ext e e') {c:AV}{v:Value}(hc:c.is e v):c.is e' v:=by
 cases c with
 |val c=>exact A1.is.ext h hc
 |tup cs=>obtain⟨vs,h1,h2⟩:=hc;exact⟨vs,h1.ext h,h2⟩
inductive Jm where
 |ret
 |exit (id:Nat)
def Jm.code:Jm->Code
 |.ret=>.ret
 |.exit id=>.exit id
inductive Ls where
 |ready
 |busy
 |done (j:Jm)
inductive Grp (D:Type) where
 |lit (v:Value)
 |cls (d:D)
structure Lt (D:Type) where
 lo:Nat
 ty:Nat
 z:Nat
 n:Nat
 g:Nat->List (Grp D)
inductive EZ (D:Type) where
 |blk (ty:Nat) (cs:List AC) (z:Option Nat)
 |clo (f:FuncId) (pre cap:List A1)
 |cls (d:D)
 /-- The record of a range over a function: the slots at its beginning, what is assigned to in a round, its code; how a round has left it. -/
 |loop (nt:Nat) (sl:List (Nat×AV)) (ps:List Nat) (fid:FuncId) (assign body:Code) (st:Ls)
 /-- The block for deferred calls of such a statement. -/
 |mark
 /-- A list of the call's own: the type and the size of an element, how many there are, what each one is. -/
 |gl (ty z n:Nat) (g:Nat->List (Grp D))
 /-- A pointer into such a list: to cell o of element i. -/
 |ep (b i z o:Nat)
 /-- The same into a list that is a symbol. -/
 |cp (s i z o:Nat)
 /-- A map: its keys, what lies under them, when they came in; how many came in. -/
 |mp (es:List (Value×A1×Nat)) (ck:Nat)
 |dead
structure Stat (D:Type) where
 P:Program
 csz:D->Nat
 okT:Nat->Bool
 /-- The class of lists whose elements are such; and back. -/
 mkL:Lt D->D
 unL:D->Option (Lt D)
 /-- From where on own blocks lie. -/
 lo:Nat
structure Ctx (D:Type) extends Stat D where
 E:D->World->List Value->Prop
 w0:World
 /-- A frame into which a list of the caller's own is handed: the world at its beginning, the list's block, its name, its value. -/
 fr:Option (World×Nat×Nat×Value):=none
def Grp.n {D:Type}(csz:D->Nat):Grp D->Nat
 |.lit _=>1
 |.cls d=>csz d
section
variable {D:Type}(C:Ctx D) (w:World)
def Grp.is:Grp D->List Value->Prop
 |.lit v,vs=>vs=[v]
 |.cls d,vs=>C.E d w vs
def cO:List (Grp D)->List Value->Prop
 |[],vs=>vs=[]
 |g::gs,vs=>g.is C w (vs.take (g.n C.csz))/\cO gs (vs.drop (g.n C.csz))
def cfP (L:Lt D) (v:Value):Prop :=
 (L.n=0/\∃ a,v=.slice a 0 0)\/∃ k o c arr pre vs rest,v=.slice (some ⟨k,o,none⟩) L.n c/\L.n<=c/\(∃ fr,w.heap[k]?=some (.cells arr L.ty fr))/\arr.toList=pre++vs++rest/\pre.length=o/\vs.length=L.n*L.z/\L.lo<=k/\(∀ v∈vs,v.oneCell'=true)/\∀ j,j<L.n->cO C w (L.g j) ((vs.drop (j*L.z)).take L.z)
end
structure Ctx.Ok {D:Type}(C:Ctx D):Prop where
 lists:∀ L w v,cfP C w L v->C.E (C.mkL L) w [v]
 unlist:∀ d L w l,C.unL d=some L->C.E d w l->∃ v,l=[v]/\cfP C w L v
 los:C.lo<=C.w0.heap.size
 cell:∀ d w l,C.E d w l->∀ v∈l,v.oneCell'=true
 len:∀ d w l,C.E d w l->l.length=C.csz d
 mixed:C.P.follows .mixedOrders=true
section
variable {D:Type}
structure uH (e:Env) (w w':World):Prop where
 size:w.heap.size<=w'.heap.size
 block:∀ k,k<w.heap.size->(∀ b,e.ρ b≠some k)->w'.heap[k]?=w.heap[k]?
theorem uH.refl (e:Env) (w:World):uH e w w:=⟨cb _,fun _ _ _=>rfl⟩
def Rob (C:Ctx D) (e:Env) (w:World) (d:D) (f:List Value):Prop:=∀ w',uH e w w'->C.E d w' f
structure Adv (e:Env) (w:World) (e':Env) (w':World):Prop where
 ext:Ext e e'
 size:w.heap.size<=w'.heap.size
 block:∀ k,k<w.heap.size->(∀ b,e.ρ b≠some k)->(∀ b,e'.ρ b≠some k)/\w'.heap[k]?=w.heap[k]?
theorem Adv.refl (e:Env) (w:World):Adv e w e w:=⟨Ext.refl e,cb _,fun _ _ h=>⟨h,rfl⟩⟩
theorem Adv.trans {e e' e'':Env}{w w' w'':World}(h:Adv e w e' w') (k:Adv e' w' e'' w''):Adv e w e'' w'' :=
 ⟨h.ext.trans k.ext,cA h.size k.size,fun x hx hn=>by
  obtain⟨h1,h2⟩:=h.block x hx hn;obtain⟨h3,h4⟩:=k.block x (cI hx h.size) h1;exact⟨h3,h4.trans h2⟩⟩
theorem Adv.keeps {e e':Env}{w w' w'':World}(h:Adv e w e' w') (k:uH e' w' w''):uH e w w'' :=
 ⟨cA h.size k.size,fun x hx hn=>by
  obtain⟨h1,h2⟩:=h.block x hx hn;exact(k.block x (cI hx h.size) h1).trans h2⟩
theorem Rob.adv {C:Ctx D}{e e':Env}{w w':World}{d:D}{f:List Value}(h:Rob C e w d f) (a:Adv e w e' w'):Rob C e' w' d f:=fun w'' k=>h w'' (a.keeps k)
theorem Rob.out {C:Ctx D}{e:Env}{w:World}{d:D}{f:List Value}(h:Rob C e w d f):C.E d w f:=h w (uH.refl e w)
def JE (C:Ctx D) (e:Env) (w:World) (gs:List (Grp D)) (vs:List Value):Prop:=∀ w',uH e w w'->cO C w' gs vs
theorem JE.adv {C:Ctx D}{e e':Env}{w w':World}{gs:List (Grp D)}{vs:List Value}(h:JE C e w gs vs) (a:Adv e w e' w'):JE C e' w' gs vs:=fun w'' k=>h w'' (a.keeps k)
theorem JE.out {C:Ctx D}{e:Env}{w:World}{gs:List (Grp D)}{vs:List Value}(h:JE C e w gs vs):cO C w gs vs:=h w (uH.refl e w)
def findI {α:Type}(k:Nat):List (Nat×α)->Option α
 |[]=>none
 |p::l=>match Nat.beq p.1 k with
  |true=>some p.2
  |false=>findI k l
def find {α:Type} (k:Nat) (l:List (Nat×α)):Option α :=
 List.rec (motive:=fun _=>Option α) none (fun p _ ih=>match Nat.beq p.1 k with
  |true=>some p.2
  |false=>ih) l
theorem jl {α:Type}{k:Nat}:find k ([]:List (Nat×α))=none:=rfl
theorem cX {α:Type}{k:Nat}{p:Nat×α}{l:List (Nat×α)}:find k (p::l)=(match Nat.beq p.1 k with
 |true=>some p.2
 |false=>find k l):=rfl
def CD (C:Ctx D) (o:Obj):Prop:=(∃ cs t,o=.cells cs t (0,0)/\C.okT t=true)\/(∃ r,o=.loop r)\/(∃ r,o=.deferred r)\/∃ a c,o=.map a c
def ko (e:Env):List (Value×A1×Nat)->List MapEntry->Prop
 |[],l=>l=[]
 |p::es,l=>∃ v l',l=⟨p.1,v,p.2.2⟩::l'/\p.2.1.is e v/\ko e es l'
theorem ko.ext {e e':Env}(h:Ext e e'):∀ {es:List (Value×A1×Nat)}{l:List MapEntry},ko e es l->ko e' es l
 |[],_,hc=>hc
 |p::es,_,⟨v,l',h1,h2,h3⟩=>⟨v,l',h1,h2.ext h,ko.ext h h3⟩
def kF (C:Ctx D) (e:Env) (w:World) (b:Nat):EZ D->Prop
 |.blk ty cs z=>∃ k arr vs rest,e.ρ b=some k/\e.al b=true/\w.heap[k]?=some (.cells arr ty (0,0))/\arr.toList=vs++rest/\cZ e cs vs/\(match z with|none=>rest=[]|some z=>arr.size=e.κ b*z)
 |.clo f pre cap=>∃ p q,e.φ b=some (.func (.func f) p.toArray q.toArray)/\up e pre p/\up e cap q
 |.cls d=>∃ f,e.ν b=some f/\Rob C e w d f
 |.loop nt sl ps _ assign body st=>∃ k r,e.ρ b=some k/\e.al b=true/\w.heap[k]?=some (.loop r)/\r.params=ps.toArray/\r.assign=assign/\r.body=body/\r.tmps.size=nt/\(∀ t x,find t sl=some x->∃ v,r.tmps[t]?=some v/\x.is e v)/\(match st with
  |.ready=>r.state=.ready/\r.pending=none
  |.busy=>r.state=.busy
  |.done j=>r.state=.done/\r.pending=some j.code)
 |.mark=>∃ k,e.ρ b=some k/\e.al b=true/\w.heap[k]?=some (.deferred (some []))
 |.gl ty z n g=>∃ v,e.φ b=some v/\((n=0/\v=.slice none 0 0)\/∃ k c arr vs rest,e.ρ b=some k/\e.al b=true/\v=.slice (some ⟨k,0,none⟩) n c/\w.heap[k]?=some (.cells arr ty (0,0))/\arr.toList=vs++rest/\vs.length=n*z/\arr.size=c*z/\n<=c/\(∀ v∈vs,v.oneCell'=true)/\∀ j,j<n->JE C e w (g j) ((vs.drop (j*z)).take z))
 |.cp s i z o=>∃ k p n c,e.ν s=some [.slice (some ⟨k,p,none⟩) n c]/\e.φ b=some (.pointer (some ⟨k,p+(i*z+o),none⟩))
 |.ep l i z o=>∃ k,e.ρ l=some k/\e.φ b=some (.pointer (some ⟨k,i*z+o,none⟩))
 |.mp es ck=>∃ k arr,e.ρ b=some k/\e.al b=true/\e.φ b=some (.map (some k))/\w.heap[k]?=some (.map arr ck)/\ko e es arr.toList
 |.dead=>True
def FrOk (C:Ctx D) (e:Env) (w:World):Prop:=∀ w1 k b0 v0,C.fr=some (w1,k,b0,v0)->e.φ b0=some v0/\(∀ b j,e.ρ b=some j->j=k\/w1.heap.size<=j)/\w1.heap.size<=w.heap.size/\∀ j,j<w1.heap.size->j≠k->w.heap[j]?=w1.heap[j]?
theorem FrOk.adv {C:Ctx D}{e e':Env}{w w':World}(h:FrOk C e w) (a:Adv e w e' w'):FrOk C e' w':=by
 intro w1 k b0 v0 hf;obtain⟨h1,h2,h3,h4⟩:=h w1 k b0 v0 hf;have key:∀ j,j<w1.heap.size->j≠k->(∀ b,e'.ρ b≠some j)/\w'.heap[j]?=w.heap[j]?:=fun j hj hk=>a.block j (cI hj h3) (fun b hb=>by
  rcases h2 b j hb with h|h
  ·exact hk h
  ·omega)
 refine⟨a.ext.φ _ _ h1,fun b j hb=>?_,cA h3 a.size,fun j hj hk=>(key j hj hk).2.trans (h4 j hj hk)⟩;rcases jd j w1.heap.size with hj|hj
 ·by_cases hk:j=k
  ·exact .inl hk
  ·exact absurd hb ((key j hj hk).1 b)
 ·exact .inr hj
theorem FrOk.none {C:Ctx D}{e:Env}{w:World}(h:C.fr=Option.none):FrOk C e w:=fun _ _ _ _ hf=>by rw[h] at hf;cases hf
structure jr (C:Ctx D) (e:Env) (w:World):Prop where
 below:Below C.w0.heap.size C.w0 w
 inj:∀ b b' k,e.al b=true->e.al b'=true->e.ρ b=some k->e.ρ b'=some k->b=b'
 own:∀ b k,e.ρ b=some k->C.w0.heap.size<=k/\∃ o,w.heap[k]?=some o/\CD C o
 fr:FrOk C e w
theorem jr.lt {C:Ctx D}{e:Env}{w:World}(h:jr C e w) {b k:Nat}(hk:e.ρ b=some k):k<w.heap.size:=by
 obtain⟨_,o,h1,_⟩:=h.own b k hk;exact(Array.getElem?_eq_some_iff.1 h1).1
theorem kF.adv {C:Ctx D}{e e':Env}{w w':World}(h:Adv e w e' w') {b:Nat}{o:EZ D}(hb:∀ k,e.ρ b=some k->e.al b=true->e'.al b=true/\w'.heap[k]?=w.heap[k]?) (ho:kF C e w b o):kF C e' w' b o:=by
 cases o with
 |blk ty cs z =>
  obtain⟨k,arr,vs,rest,h1,h2,h3,h4,h5,h6⟩:=ho;obtain⟨h7,h8⟩:=hb k h1 h2;refine⟨k,arr,vs,rest,h.ext.ρ b k h1,h7,h8.trans h3,h4,h5.ext h.ext,?_⟩;cases z with
  |none=>exact h6
  |some z=>simp only at h6 ⊢;rw[h6,h.ext.κ b k h1]
 |clo f pre cap=>obtain⟨p,q,h1,h2,h3⟩:=ho;exact⟨p,q,h.ext.φ _ _ h1,h2.ext h.ext,h3.ext h.ext⟩
 |cls d=>obtain⟨f,h1,h2⟩:=ho;exact⟨f,h.ext.ν _ _ h1,h2.adv h⟩
 |loop nt sl ps fid assign body st =>
  obtain⟨k,r,h1,h2,h3,h4,h5,h6,h7,h8,h9⟩:=ho;obtain⟨q1,q2⟩:=hb k h1 h2;exact⟨k,r,h.ext.ρ b k h1,q1,q2.trans h3,h4,h5,h6,h7,fun t x ht=>(by
   obtain⟨v,p1,p2⟩:=h8 t x ht;exact⟨v,p1,p2.ext h.ext⟩),h9⟩
 |mark =>
  obtain⟨k,h1,h2,h3⟩:=ho;obtain⟨q1,q2⟩:=hb k h1 h2;exact⟨k,h.ext.ρ b k h1,q1,q2.trans h3⟩
 |gl ty z n g =>
  obtain⟨v,h1,h2⟩:=ho;refine⟨v,h.ext.φ _ _ h1,h2.imp id ?_⟩;rintro⟨k,c,arr,vs,rest,h3,h4,h5,h6,h7,h8,h9,h10,h12,h11⟩;obtain⟨q1,q2⟩:=hb k h3 h4;exact⟨k,c,arr,vs,rest,h.ext.ρ b k h3,q1,h5,q2.trans h6,h7,h8,h9,h10,h12,fun j hj=>(h11 j hj).adv h⟩
 |cp s i z o=>obtain⟨k,p,n,c,h1,h2⟩:=ho;exact⟨k,p,n,c,h.ext.ν _ _ h1,h.ext.φ _ _ h2⟩
 |ep l i z o=>obtain⟨k,h1,h2⟩:=ho;exact⟨k,h.ext.ρ _ _ h1,h.ext.φ _ _ h2⟩
 |mp es ck =>
  obtain⟨k,arr,h1,h2,h3,h4,h5⟩:=ho;obtain⟨q1,q2⟩:=hb k h1 h2;exact⟨k,arr,h.ext.ρ b k h1,q1,h.ext.φ _ _ h3,q2.trans h4,h5.ext h.ext⟩
 |dead=>trivial
theorem Adv.below {C:Ctx D}{e:Env}{w w':World}(_hg:jr C e w) (hb:Below w.heap.size w w'):Adv e w e w':=⟨Ext.refl e,hb.size,fun k hk hn=>⟨hn,hb.block k hk⟩⟩
theorem jr.later {C:Ctx D}{e:Env}{w w':World}(hg:jr C e w) (hb:Below w.heap.size w w'):jr C e w' :=
 ⟨hg.below.trans ⟨hb.os,hb.tape,hb.output,hb.size,fun i hi=>hb.block i (cI hi hg.below.size)⟩,hg.inj,fun b k h=>by
  obtain⟨h1,o,h2,h3⟩:=hg.own b k h;exact⟨h1,o,(hb.block k (hg.lt h)).trans h2,h3⟩,hg.fr.adv (Adv.below hg hb)⟩
theorem kF.below {C:Ctx D}{e:Env}{w w':World}(hg:jr C e w) (hb:Below w.heap.size w w') {b:Nat}{o:EZ D}(h:kF C e w b o):kF C e w' b o :=
 h.adv (Adv.below hg hb) (fun k hk ha=>⟨ha,hb.block k (hg.lt hk)⟩)
abbrev cR (D:Type):=Nat->Option (EZ D)
abbrev jv:=Nat->Option AV
def jm (C:Ctx D) (e:Env) (w:World) (M:cR D):Prop:=∀ b o,M b=some o->kF C e w b o
def jD (e:Env) (a:Act) (V:jv):Prop:=∀ t x,V t=some x->∃ v,a.tmps[t]?=some v/\x.is e v
theorem jD.ext {e e':Env}{a:Act}{V:jv}(h:jD e a V) (hx:Ext e e'):jD e' a V:=fun t x ht=>by
 obtain⟨v,h1,h2⟩:=h t x ht;exact⟨v,h1,h2.ext hx⟩
theorem jL (k o n:Nat):(⟨k,o,none⟩:Addr).add n=⟨k,o+n,none⟩:=by
 unfold Addr.add;split
 ·subst n;rfl
 ·rfl
theorem yq {a b:Nat}(h:Nat.blt a b=true):a<b:=by simpa using h
abbrev Ws (D:Type):=List (Nat×EZ D)
theorem uY {α:Type}{k:Nat}{v:α}:∀ {l:List (Nat×α)},find k l=some v->(k,v)∈l
 |[],h=>by simp [jl,cX] at h
 |(k',v')::l,h=>by
  rw[cX] at h;split at h
  ·rename_i hs;injection h with h;subst h
   rw[show k'=k from ct hs];simp
  ·exact uL _ (uY h)
def memN {α:Type}(k:Nat):List (Nat×α)->Bool
 |[]=>false
 |p::l=>match Nat.beq p.1 k with
  |true=>true
  |false=>memN k l
theorem cea {α:Type}{k:Nat}:∀ {l:List (Nat×α)},memN k l=false->find k l=none
 |[],_=>rfl
 |p::l,h=>by
  unfold memN at h;split at h
  ·cases h
  ·rename_i hs;simp only[jl,cX,hs];exact cea h
theorem yw {α:Type}{k:Nat}:∀ {l m:List (Nat×α)},find k (l++m)=(match find k l with|some v=>some v|none=>find k m)
 |[],m=>rfl
 |(k',v)::l,m=>by
  simp only[JB,jl,cX];split
  ·rfl
  ·exact yw
def kZ {α:Type}(ws l:List (Nat×α)):List (Nat×α) :=
 match ws with
 |[]=>l
 |p::ps=>p::(ps++l)
theorem Ew {α:Type}{k:Nat}{ws l:List (Nat×α)}:find k (kZ ws l)=(match find k ws with|some v=>some v|none=>find k l):=by
 cases ws with
 |nil=>rfl
 |cons p ps=>exact yw (l:=p::ps)
structure New (n0 n1:Nat) (e e':Env):Prop where
 ρ:∀ b k,e'.ρ b=some k->e.ρ b=some k\/(n0<=b/\b<n1)
 ν:∀ b k,e'.ν b=some k->e.ν b=some k\/(n0<=b/\b<n1)
 φ:∀ b k,e'.φ b=some k->e.φ b=some k\/(n0<=b/\b<n1)
theorem New.refl (n0 n1:Nat) (e:Env):New n0 n1 e e:=⟨fun _ _=>.inl,fun _ _=>.inl,fun _ _=>.inl⟩
theorem New.trans {n0 n1 n2 : Nat} {e e' e'' : Env} (h : New n0 n1 e e') (k : New n1 n2 e' e'') (h1 : n0 ≤ n1) (h2 : n1 ≤ n2) : New n0 n2 e e'' :=
  ⟨fun b x hx => (k.ρ b x hx).elim (fun hx => (h.ρ b x hx).imp id fun h => ⟨h.1, cI h.2 h2⟩) (fun h => .inr ⟨cA h1 h.1, h.2⟩),
   fun b x hx => (k.ν b x hx).elim (fun hx => (h.ν b x hx).imp id fun h => ⟨h.1, cI h.2 h2⟩) (fun h => .inr ⟨cA h1 h.1, h.2⟩),
   fun b x hx => (k.φ b x hx).elim (fun hx => (h.φ b x hx).imp id fun h => ⟨h.1, cI h.2 h2⟩) (fun h => .inr ⟨cA h1 h.1, h.2⟩)⟩
theorem New.mono {n0 n1 m0 m1:Nat}{e e':Env}(h:New n0 n1 e e') (h0:m0<=n0) (h1:n1<=m1):New m0 m1 e e' :=
 ⟨fun b x hx=>(h.ρ b x hx).imp id fun h=>⟨cA h0 h.1,cI h.2 h1⟩,fun b x hx=>(h.ν b x hx).imp id fun h=>⟨cA h0 h.1,cI h.2 h1⟩,fun b x hx=>(h.φ b x hx).imp id fun h=>⟨cA h0 h.1,cI h.2 h1⟩⟩
def um (n0 n1:Nat) (e:Env):Prop:=∀ b,n0<=b->b<n1->e.ρ b=none/\e.ν b=none/\e.φ b=none
theorem um.new {n0 n1 n2:Nat}{e e':Env}(h:um n0 n2 e) (k:New n0 n1 e e') (h01:n0<=n1):um n1 n2 e':=fun b h1 h2=>by
 obtain⟨q1,q2,q3⟩:=h b (cA h01 h1) h2;refine⟨?_,?_,?_⟩
 ·cases hx:e'.ρ b with
  |none=>rfl
  |some x =>
   rcases k.ρ b x hx with h|h
   ·rw[q1] at h;cases h
   ·omega
 ·cases hx:e'.ν b with
  |none=>rfl
  |some x =>
   rcases k.ν b x hx with h|h
   ·rw[q2] at h;cases h
   ·omega
 ·cases hx:e'.φ b with
  |none=>rfl
  |some x =>
   rcases k.φ b x hx with h|h
   ·rw[q3] at h;cases h
   ·omega
theorem um.mono {n0 n1 m0 m1:Nat}{e:Env}(h:um n0 n1 e) (h0:n0<=m0) (h1:m1<=n1):um m0 m1 e:=fun b q1 q2=>h b (cA h0 q1) (cI q2 h1)
structure ut (C:Ctx D) (e:Env) (w:World) (n0 n1:Nat) (ws:Ws D) (e':Env) (w':World):Prop where
 le:n0<=n1
 adv:Adv e w e' w'
 new:New n0 n1 e e'
 good:jr C e' w'
 wrote:∀ b o,find b ws=some o->kF C e' w' b o
 kept:∀ b o,kF C e w b o->find b ws=none->kF C e' w' b o
theorem ut.refl {C:Ctx D}{e:Env}{w:World}(hg:jr C e w) (n0:Nat):ut C e w n0 n0 [] e w :=
 ⟨cb _,Adv.refl e w,New.refl _ _ e,hg,fun b o h=>by simp [jl,cX] at h,fun b o h _=>h⟩
theorem ut.below {C:Ctx D}{e:Env}{w w':World}(hg:jr C e w) (hb:Below w.heap.size w w') (n0:Nat):ut C e w n0 n0 [] e w' :=
 ⟨cb _,Adv.below hg hb,New.refl _ _ e,hg.later hb,fun b o h=>by simp [jl,cX] at h,fun b o h _=>h.below hg hb⟩
theorem ut.trans {C:Ctx D}{e e' e'':Env}{w w' w'':World}{n0 n1 n2:Nat}{ws ws':Ws D}(h:ut C e w n0 n1 ws e' w') (k:ut C e' w' n1 n2 ws' e'' w''):ut C e w n0 n2 (kZ ws' ws) e'' w'' :=
 ⟨cA h.le k.le,h.adv.trans k.adv,h.new.trans k.new h.le k.le,k.good,fun b o ho=>by
  rw[Ew] at ho;split at ho
  ·rename_i v hv;injection ho with ho;subst ho
   exact k.wrote b _ hv
  ·rename_i hn;exact k.kept b o (h.wrote b o ho) hn,fun b o ho hn=>by
  rw[Ew] at hn;split at hn
  ·cases hn
  ·rename_i hn';exact k.kept b o (h.kept b o ho hn) hn'⟩
end
variable {D:Type}
def cG (V:jv):Operand->Option AV
 |.tmp t=>V t
 |.const (.agg cs)=>some (.val (.agg (cs.toList.map .lit)))
 |.const v=>some (.val (.one (.lit v)))
 |.global g=>some (.val (.one (.lit (.pointer (some ⟨g,0,none⟩)))))
 |.func f=>some (.val (.one (.lit (.func (.func f) #[] #[]))))
theorem cV {e:Env}{a:Act}{V:jv}(hV:jD e a V) {x:Operand}{av:AV}(h:cG V x=some av):av.is e (a.eval x):=by
 unfold cG at h;split at h
 ·rename_i t;obtain⟨v,h1,h2⟩:=hV t av h;rw[Act.eval,uX,h1];exact h2
 ·injection h with h;subst h
  exact⟨_,yZ e _,by simp [Act.eval]⟩
 ·injection h with h;subst h;exact rfl
 ·injection h with h;subst h;exact rfl
 ·injection h with h;subst h;exact rfl
def lit?:Option AV->Option Value
 |some (.val (.one (.lit v)))=>some v
 |_=>none
theorem kD {e:Env}{a:Act}{V:jv}(hV:jD e a V) {x:Operand}{v:Value}(h:lit? (cG V x)=some v):a.eval x=v:=by
 unfold lit? at h;split at h
 ·rename_i hx;injection h with h;subst h
  exact cV hV hx
 ·cases h
def ptr?:Option AV->Option (Nat×Nat)
 |some (.val (.one (.ptr b o)))=>some (b,o)
 |_=>none
theorem GV {e:Env}{a:Act}{V:jv}(hV:jD e a V) {x:Operand}{b o:Nat}(h:ptr? (cG V x)=some (b,o)) :
 ∃ k,e.ρ b=some k/\a.eval x=.pointer (some ⟨k,o,none⟩):=by
 unfold ptr? at h;split at h
 ·rename_i hx;injection h with h;injection h with h1 h2;subst h1;subst h2
  exact cV hV hx
 ·cases h
def Et (V:jv):List Operand->Option (List AV)
 |[]=>some []
 |x::xs=>match cG V x with
  |some a=>match Et V xs with
   |some l=>some (a::l)
   |none=>none
  |none=>none
def yH (e:Env):List AV->List Value->Prop
 |[],vs=>vs=[]
 |c::cs,vs=>∃ v ws,vs=v::ws/\c.is e v/\yH e cs ws
theorem yH.length {e:Env}:∀ {cs:List AV}{vs:List Value},yH e cs vs->vs.length=cs.length
 |[],_,hc=>by rw[hc];rfl
 |c::cs,_,⟨v,ws,h1,h2,h3⟩=>by rw[h1];simp [h3.length]
theorem yH.get {e:Env}:∀ {cs:List AV}{vs:List Value},yH e cs vs->∀ (i:Nat) (c:AV),cs[i]?=some c->∃ v,vs[i]?=some v/\c.is e v
 |[],_,_,i,c,h=>by simp at h
 |c::cs,_,⟨v,ws,h1,h2,h3⟩,0,d,h=>by
  simp at h;subst h;subst h1;exact⟨v,rfl,h2⟩
 |c::cs,_,⟨v,ws,h1,h2,h3⟩,i+1,d,h=>by
  simp at h;subst h1;simpa using h3.get i d h
theorem yH.append {e:Env}:∀ {cs ds:List AV}{vs ws:List Value},yH e cs vs->yH e ds ws->yH e (cs++ds) (vs++ws)
 |[],_,_,_,h,k=>by rw[h];exact k
 |c::cs,_,_,_,⟨v,ws,h1,h2,h3⟩,k=>⟨v,_,by rw[h1];rfl,h2,h3.append k⟩
def uB:List A1->List AV
 |[]=>[]
 |x::l=>.val x::uB l
theorem zc {e:Env}:∀ {l:List A1}{vs:List Value},up e l vs->yH e (uB l) vs
 |[],_,h=>h
 |x::l,_,⟨v,ws,h1,h2,h3⟩=>⟨v,ws,h1,h2,zc h3⟩
theorem zj {e:Env}{a:Act}{V:jv}(hV:jD e a V):∀ {xs:List Operand}{l:List AV},Et V xs=some l->yH e l (xs.map a.eval)
 |[],l,h=>by simp [Et] at h;subst h;rfl
 |x::xs,l,h=>by
  unfold Et at h;split at h
  ·rename_i y hy;split at h
   ·rename_i ys hys;injection h with h;subst h
    exact⟨_,_,rfl,cV hV hy,zj hV hys⟩
   ·cases h
  ·cases h
inductive Pat (D:Type) where
 |one (g:Grp D)
 |agg (gs:List (Grp D))
 /-- A slice of n elements, of which the cells are these. -/
 |slc (t n:Nat) (gs:List (Grp D))
 /-- A function value that kF a pointer to a box of z cells. -/
 |cap (f ty z:Nat) (gs:List (Grp D))
def Pat.mem:Pat D->Bool
 |.slc ..=>true
 |.cap ..=>true
 |_=>false
inductive jH (D:Type) where
 |val (p:Pat D)
 |tup (ps:List (Pat D))
inductive Hd where
 |call (f:FuncId)
 |bs (t n:Nat)
 |ix (t:Nat)
 |ld (t:Nat)
 |blt (b:Builtin) (ats:List Nat) (t:Nat)
 |bin (op:BinOp) (t:Nat)
 |sl (t:Nat) (lo hi mx:Bool)
 |mk (t:Nat)
 |cv (s d:Nat)
 |un (op:UnOp) (t:Nat)
 |si (t:Nat)
 |fa (s f:Nat)
 /-- A call that writes a list of the caller's own in place. -/
 |mem (f:FuncId)
 /-- No operation: that a list in a slot is to be one whose elements are known by their number. -/
 |gl
 deriving DecidableEq
def uA (o:Oper):Option (Hd×List Operand) :=
 match o.op with
 |.indexAddr t x i=>some (.ix t,[x,i])
 |.load t x=>some (.ld t,[x])
 |.binOp op t x y _=>some (.bin op t,[x,y])
 |.slice t x lo hi mx=>some (.sl t lo.isSome hi.isSome mx.isSome,x::(lo.toList++hi.toList++mx.toList))
 |.makeSlice t l c=>some (.mk t,[l,c])
 |.convert s d x=>some (.cv s d,[x])
 |.unOp op t x=>some (.un op t,[x])
 |.index t x i=>some (.si t,[x,i])
 |.fieldAddr s x f=>some (.fa s f,[x])
 |.call c=>match c.callee with
  |.builtin b=>some (.blt b c.argTypes.toList o.type,c.args.toList)
  |_=>none
 |_=>none
section
variable (C:Ctx D) (w:World)
def Pat.is:Pat D->Value->Prop
 |.one g,v=>g.is C w [v]
 |.agg gs,v=>∃ vs,cO C w gs vs/\v=.agg vs.toArray
 |.slc t n gs,v=>∃ k o c arr pre vs rest,v=.slice (some ⟨k,o,none⟩) n c/\w.heap[k]?=some (.cells arr t (0,0))/\arr.toList=pre++vs++rest/\pre.length=o/\cO C w gs vs/\n<=c
 |.cap f ty z gs,v=>∃ k o c,cfP C w ⟨0,ty,z,1,fun _=>gs⟩ (.slice (some ⟨k,o,none⟩) 1 c)/\v=.func (.func f) #[] #[.pointer (some ⟨k,o,none⟩)]
def jb:List (Pat D)->List Value->Prop
 |[],vs=>vs=[]
 |p::ps,vs=>∃ v ws,vs=v::ws/\p.is C w v/\jb ps ws
def jH.is:jH D->Value->Prop
 |.val p,v=>p.is C w v
 |.tup ps,v=>∃ vs,jb C w ps vs/\v=.tuple vs.toArray
end
def cdj (C:Ctx D) (w w':World) (res:jH D) (v:Value):Prop :=
 ∀ S:Nat->Prop,(∀ k,S k->k<w.heap.size/\∃ o,w'.heap[k]?=some o/\CD C o)->
  ∀ w'',w'.heap.size<=w''.heap.size->(∀ k,k<w'.heap.size->¬ S k->w''.heap[k]?=w'.heap[k]?)->res.is C w'' v
def ckV (vs:List Value):List (Pat D):=vs.map fun v=>.one (.lit v)
def MemEnt (C:Ctx D) (f:FuncId) (args:List (Pat D)) (res:jH D):Prop :=
 Enters C.P f/\∀ (L L':Lt D) (d':D) (ls:List Value),args=.one (.cls (C.mkL L))::ckV ls->res=.val (.one (.cls d'))->C.unL d'=some L'->L'.n=L.n->∀ (w:World) (k c:Nat) (arr:Array Value) (us rest:List Value),
  Below C.w0.heap.size C.w0 w->C.w0.heap.size<=k->w.heap[k]?=some (.cells arr L.ty (0,0))->C.okT L.ty=true->arr.toList=us++rest->us.length=L.n*L.z->arr.size=c*L.z->L.n<=c->0<L.n->(∀ v∈us,v.oneCell'=true)->
  (∀ j,j<L.n->∀ w',w.heap.size<=w'.heap.size->(∀ i,i<w.heap.size->i≠k->w'.heap[i]?=w.heap[i]?)->cO C w' (L.g j) ((us.drop (j*L.z)).take L.z))->
  Calls C.P f (.slice (some ⟨k,0,none⟩) L.n c::ls).toArray w (fun en w'=>en=.returned (.tuple #[])/\Below C.w0.heap.size C.w0 w'/\w.heap.size<=w'.heap.size/\(∀ i,i<w.heap.size->i≠k->w'.heap[i]?=w.heap[i]?)/\
   ∃ (arr':Array Value) (us' rest':List Value),w'.heap[k]?=some (.cells arr' L.ty (0,0))/\arr'.toList=us'++rest'/\us'.length=L.n*L.z/\arr'.size=c*L.z/\(∀ v∈us',v.oneCell'=true)/\
    ∀ j,j<L.n->∀ S:Nat->Prop,(∀ i,S i->∃ o,w'.heap[i]?=some o/\CD C o)->∀ w'',w'.heap.size<=w''.heap.size->(∀ i,i<w'.heap.size->¬ S i->w''.heap[i]?=w'.heap[i]?)->cO C w'' (L'.g j) ((us'.drop (j*L.z)).take L.z))
def jG (C:Ctx D) (hd:Hd) (args:List (Pat D)) (res:jH D):Prop :=
 match hd with
 |.call f=>Enters C.P f/\∀ w vs,Below C.w0.heap.size C.w0 w->jb C w args vs->Calls C.P f vs.toArray w (fun e w'=>∃ v,e=.returned v/\Below w.heap.size w w'/\cdj C w w' res v)
 |.mem f=>MemEnt C f args res
 |hd=>∀ w (ρ:Operand->Value) (o:Oper) xs,uA o=some (hd,xs)->Below C.w0.heap.size C.w0 w->jb C w args (xs.map ρ)->∃ v w',(execOp ρ o).run C.P w=.ok (.value v) w'/\Below w.heap.size w w'/\cdj C w w' res v
abbrev Tab (D:Type):=Nat->Hd->Option (List (Pat D)->Option (jH D×List Prop))
def jE:List Prop->Prop
 |[]=>True
 |p::l=>p/\jE l
theorem jE.append:∀ {l m:List Prop},jE (l++m)->jE l/\jE m
 |[],m,h=>⟨trivial,h⟩
 |p::l,m,h=>by
  obtain⟨h1,h2⟩:=(jE.append (l:=l) h.2);exact⟨⟨h.1,h1⟩,h2⟩
def Tab.Ok (C:Ctx D) (T:Tab D):Prop:=∀ n hd F args res ob,T n hd=some F->F args=some (res,ob)->jE ob->jG C hd args res
def uZ (s:Nat):Nat->Nat->List AC->Option (List AC)
 |_,0,cs=>some cs
 |j,n+1,.sym s' j'::cs=>match Nat.beq s' s with
  |true=>match Nat.beq j' j with
   |true=>uZ s (j+1) n cs
   |false=>none
  |false=>none
 |_,_,_=>none
def cdn (csz:D->Nat) (M:cR D):List AC->Option (Grp D×List AC)
 |.lit v::cs=>some (.lit v,cs)
 |.sym s j::cs=>match M s with
  |some (.cls d)=>match uZ s 0 (csz d) (.sym s j::cs) with
   |some r=>some (.cls d,r)
   |none=>none
  |_=>none
 |_=>none
def Cz (csz:D->Nat) (M:cR D):Nat->List AC->Option (List (Grp D))
 |_,[]=>some []
 |0,_=>none
 |n+1,cs=>match cdn csz M cs with
  |some (g,r)=>match Cz csz M n r with
   |some gs=>some (g::gs)
   |none=>none
  |none=>none
def EN (M:cR D) (b o n:Nat):Option (Nat×List AC) :=
 match M b with
 |some (.blk ty cs _)=>match Nat.ble (o+n) cs.length with
  |true=>some (ty,(cs.drop o).take n)
  |false=>none
 |_=>none
def EA (P:Program) (t:Nat):Option (Nat×TypeInfo) :=
 match P.underlying t with
 |some (.slice e)=>match P.info? e with
  |some i=>some (e,i)
  |none=>none
 |_=>none
def ceV:List (Grp D)->Bool
 |[]=>true
 |.lit v::l=>match v.oneCell' with
  |true=>ceV l
  |false=>false
 |.cls _::l=>ceV l
def cci (S:Stat D) (M:cR D):Nat->List AC->Option (List (Grp D))
 |_,[]=>some []
 |0,_=>none
 |n+1,c::cs=>match c with
  |.fn b=>match M b with
   |some (.gl ty z m g)=>match cci S M n cs with
    |some gs=>some (.cls (S.mkL ⟨S.lo,ty,z,m,g⟩)::gs)
    |none=>none
   |_=>none
  |c=>match cdn S.csz M (c::cs) with
   |some (g,r)=>match cci S M n r with
    |some gs=>some (g::gs)
    |none=>none
   |none=>none
def readP (S:Stat D) (M:cR D):AV->Option (Pat D)
 |.val (.one (.slc b o n c))=>match M b with
  |some (.blk ty _ _)=>match S.P.info? ty with
   |some i=>match EN M b o (n*i.size) with
    |some (_,cs)=>match Cz S.csz M cs.length cs with
     |some gs=>match Nat.ble n c with
      |true=>some (.slc ty n gs)
      |false=>none
     |none=>none
    |none=>none
   |none=>none
  |_=>none
 |.val (.one (.gsl b n))=>match M b with
  |some (.blk ty _ (some z))=>match S.P.info? ty with
   |some i=>match EN M b 0 (n*i.size) with
    |some (_,cs)=>match Cz S.csz M cs.length cs with
     |some gs=>match Nat.beq z i.size,Nat.blt 0 z with
      |true,true=>some (.slc ty n gs)
      |_,_=>none
     |none=>none
    |none=>none
   |none=>none
  |_=>none
 |.val (.one (.fn b))=>match M b with
  |some (.gl ty z n g)=>some (.one (.cls (S.mkL ⟨S.lo,ty,z,n,g⟩)))
  |some (.clo f [] [.one (.fn c)])=>match M c with
   |some (.cp t 0 z 0)=>match M t with
    |some (.cls d)=>match S.unL d with
     |some L=>match Nat.beq L.n 1,Nat.beq L.z z with
      |true,true=>some (.cap f L.ty z (L.g 0))
      |_,_=>none
     |none=>none
    |_=>none
   |_=>none
  |some (.clo f [] [.one (.ptr c 0)])=>match M c with
   |some (.blk ty cs none)=>match Cz S.csz M cs.length cs with
    |some gs=>match ceV gs with
     |true=>some (.cap f ty cs.length gs)
     |false=>none
    |none=>none
   |_=>none
  |_=>none
 |.val (.one c)=>match cdn S.csz M [c] with
  |some (g,[])=>some (.one g)
  |_=>none
 |.val (.agg cs)=>match cci S M cs.length cs with
  |some gs=>some (.agg gs)
  |none=>none
 |.tup _=>none
def YN (S:Stat D) (M:cR D):List AV->Option (List (Pat D))
 |[]=>some []
 |x::xs=>match readP S M x with
  |some p=>match YN S M xs with
   |some ps=>some (p::ps)
   |none=>none
  |none=>none
section
variable {C:Ctx D}{e:Env}{w:World}{M:cR D}
theorem GK {s:Nat}{f:List Value}(hf:e.ν s=some f):∀ {n j:Nat}{cs r:List AC}{vs:List Value},uZ s j n cs=some r->cZ e cs vs->j+n<=f.length->vs.take n=(f.drop j).take n/\cZ e r (vs.drop n)
 |0,j,cs,r,vs,h,hc,_=>by
  simp [uZ] at h;subst h;exact⟨by simp,hc⟩
 |n+1,j,[],r,vs,h,hc,_=>by simp [uZ] at h
 |n+1,j,.lit _::_,r,vs,h,hc,_=>by simp [uZ] at h
 |n+1,j,.ptr _ _::_,r,vs,h,hc,_=>by simp [uZ] at h
 |n+1,j,.slc _ _ _ _::_,r,vs,h,hc,_=>by simp [uZ] at h
 |n+1,j,.gsl _ _::_,r,vs,h,hc,_=>by simp [uZ] at h
 |n+1,j,.gso _ _ _ _::_,r,vs,h,hc,_=>by simp [uZ] at h
 |n+1,j,.fn _::_,r,vs,h,hc,_=>by simp [uZ] at h
 |n+1,j,.yld _::_,r,vs,h,hc,_=>by simp [uZ] at h
 |n+1,j,.sym s' j'::cs,r,vs,h,hc,hl=>by
  unfold uZ at h;split at h
  ·rename_i hs;split at h
   ·rename_i hj;obtain⟨v,ws,rfl,⟨f',h1,h2,_⟩,h3⟩:=hc;rw[ct hs,hf] at h1;injection h1 with h1;subst h1
    obtain⟨h4,h5⟩:=GK hf h h3 (by omega);rw[ct hj] at h2;refine⟨?_,by simpa using h5⟩;have hjl:j<f.length:=by omega
    rw[KM hjl,Ya,Ya,h4];rw[kb hjl] at h2;injection h2 with h2
    rw[h2]
   ·cases h
  ·cases h
theorem ccT (hC:C.Ok) (hM:jm C e w M) {g:Grp D}{cs r:List AC}{vs:List Value}(h:cdn C.csz M cs=some (g,r)) (hc:cZ e cs vs):g.is C w (vs.take (g.n C.csz))/\cZ e r (vs.drop (g.n C.csz)):=by
 unfold cdn at h;split at h
 ·injection h with h;injection h with h1 h2;subst h1;subst h2
  obtain⟨x,ws,rfl,h1,h2⟩:=hc;exact⟨by rw[show x=_ from h1];rfl,by simpa [Grp.n] using h2⟩
 ·rename_i s j cs;split at h
  ·rename_i d hd;split at h
   ·rename_i r' hr;injection h with h;injection h with h1 h2;subst h1;subst h2
    obtain⟨f,h1,h2⟩:=hM _ _ hd;have hl:=hC.len _ _ _ h2.out;obtain⟨h3,h4⟩:=GK h1 hr hc (by omega);refine⟨?_,h4⟩;show C.E d w (vs.take (C.csz d));rw[h3,ux,kA (by omega)];exact h2.out
   ·cases h
  ·cases h
 ·cases h
theorem WN (hC:C.Ok) (hM:jm C e w M):∀ {n:Nat}{gs:List (Grp D)}{cs:List AC}{vs:List Value},Cz C.csz M n cs=some gs->cZ e cs vs->cO C w gs vs
 |n,gs,[],vs,h,hc=>by
  have:gs=[]:=by cases n<;>(simp [Cz] at h;exact h)
  subst this;exact hc
 |0,gs,_::_,vs,h,hc=>by simp [Cz] at h
 |n+1,gs,c::cs,vs,h,hc=>by
  simp only[Cz] at h;split at h
  ·rename_i g r hr;split at h
   ·rename_i gs' hgs;injection h with h;subst h
    obtain⟨h1,h2⟩:=ccT hC hM hr hc;exact⟨h1,WN hC hM hgs h2⟩
   ·cases h
  ·cases h
theorem cmx (hC:C.Ok) (hM:jm C e w M) {g:Grp D}{cs r:List AC}{vs:List Value}(h:cdn C.csz M cs=some (g,r)) (hc:cZ e cs vs):(∀ w',uH e w w'->g.is C w' (vs.take (g.n C.csz)))/\cZ e r (vs.drop (g.n C.csz)):=by
 unfold cdn at h;split at h
 ·injection h with h;injection h with h1 h2;subst h1;subst h2
  obtain⟨x,ws,rfl,h1,h2⟩:=hc;exact⟨fun _ _=>by rw[show x=_ from h1];rfl,by simpa [Grp.n] using h2⟩
 ·rename_i s j cs;split at h
  ·rename_i d hd;split at h
   ·rename_i r' hr;injection h with h;injection h with h1 h2;subst h1;subst h2
    obtain⟨f,h1,h2⟩:=hM _ _ hd;have hl:=hC.len _ _ _ h2.out;obtain⟨h3,h4⟩:=GK h1 hr hc (by omega);refine⟨fun w' hk=>?_,h4⟩;show C.E d w' (vs.take (C.csz d));rw[h3,ux,kA (by omega)];exact h2 w' hk
   ·cases h
  ·cases h
 ·cases h
theorem KE (hC:C.Ok) (hM:jm C e w M):∀ {n:Nat}{gs:List (Grp D)}{cs:List AC}{vs:List Value},Cz C.csz M n cs=some gs->cZ e cs vs->JE C e w gs vs
 |n,gs,[],vs,h,hc=>by
  have:gs=[]:=by cases n<;>(simp [Cz] at h;exact h)
  subst this;exact fun _ _=>hc
 |0,gs,_::_,vs,h,hc=>by simp [Cz] at h
 |n+1,gs,c::cs,vs,h,hc=>by
  simp only[Cz] at h;split at h
  ·rename_i g r hr;split at h
   ·rename_i gs' hgs;injection h with h;subst h
    obtain⟨h1,h2⟩:=cmx hC hM hr hc;exact fun w' hk=>⟨h1 w' hk,KE hC hM hgs h2 w' hk⟩
   ·cases h
  ·cases h
theorem zG (hM:jm C e w M) {b o n ty k:Nat}{cs:List AC}(hk:e.ρ b=some k) (h:EN M b o n=some (ty,cs)) :
 cs.length=n/\∃ arr pre vs rest,w.heap[k]?=some (.cells arr ty (0,0))/\arr.toList=pre++vs++rest/\pre.length=o/\cZ e cs vs:=by
 unfold EN at h;split at h
 ·rename_i ty' cs' z hb;split at h
  ·rename_i hle;injection h with h;injection h with h1 h2;subst h1;subst h2
   obtain⟨k',arr,vs,rest,q1,q2,q3,q4,q5,q6⟩:=hM _ _ hb;rw[hk] at q1;injection q1 with q1;subst q1
   have hle:=jo hle;have hvl:=q5.length;refine⟨by simp;omega,arr,vs.take o,(vs.drop o).take n,(vs.drop o).drop n++rest,q3,?_,by simp;omega,q5.drop.take⟩;rw[q4]
   conv=>lhs;rw[← kv o vs,← kv n (vs.drop o)]
   simp [uM]
  ·cases h
 ·cases h
theorem zi {k o:Nat}{arr:Array Value}{ty:Nat}{fr:Nat×Nat}{pre vs rest:List Value}(h:w.heap[k]?=some (.cells arr ty fr)) (ha:arr.toList=pre++vs++rest) (ho:pre.length=o):∀ j v,vs[j]?=some v->w.cell? ⟨k,o+j,none⟩=some v:=by
 intro j v hj;have hjl:j<vs.length:=by
  rcases jd j vs.length with h|h
  ·exact h
  ·simp [yA h] at hj
 have:arr.toList[o+j]?=some v:=by
  rw[ha,uM,YL (by omega),ho,Nat.add_sub_cancel_left,KQ hjl,hj]
 simp only[World.cell?,h];simpa using this
theorem cid (hC:C.Ok) (hg:jr C e w) {b ty z n:Nat}{g:Nat->List (Grp D)}{v:Value}(h:kF C e w b (.gl ty z n g)) (hv:e.φ b=some v):cfP C w ⟨C.lo,ty,z,n,g⟩ v:=by
 obtain⟨v',h1,h2⟩:=h;rw[hv] at h1;injection h1 with h1;subst h1
 refine h2.imp (fun⟨h3,h4⟩=>⟨h3,none,h4⟩) ?_;rintro⟨k,c,arr,vs,rest,h3,h4,h5,h6,h7,h8,h9,h10,h12,h11⟩;exact⟨k,0,c,arr,[],vs,rest,h5,h10,⟨_,h6⟩,h7,rfl,h8,cA hC.los (hg.own b k h3).1,h12,fun j hj=>(h11 j hj).out⟩
theorem cce (hC:C.Ok):∀ {gs:List (Grp D)}{vs:List Value},ceV gs=true->cO C w gs vs->∀ v∈vs,v.oneCell'=true
 |[],vs,_,h,v,hv=>by rw[show vs=[] from h] at hv;cases hv
 |.lit x::gs,vs,ho,h,v,hv=>by
  unfold ceV at ho;split at ho
  ·rename_i hx;have h1:vs.take 1=[x]:=h.1;rw[← kv 1 vs,h1] at hv;rcases List.mem_cons.1 hv with rfl|hv
   ·exact hx
   ·exact cce hC ho h.2 v hv
  ·cases ho
 |.cls d::gs,vs,ho,h,v,hv=>by
  have ho:ceV gs=true:=ho;rw[← kv (C.csz d) vs] at hv;rcases List.mem_append.1 hv with hv|hv
  ·exact hC.cell _ _ _ h.1 v hv
  ·exact cce (gs:=gs) hC ho h.2 v hv
theorem cdk (hC:C.Ok) (hg:jr C e w) (hM:jm C e w M):∀ {n:Nat}{gs:List (Grp D)}{cs:List AC}{vs:List Value},cci C.toStat M n cs=some gs->cZ e cs vs->cO C w gs vs
 |n,gs,[],vs,h,hc=>by
  have:gs=[]:=by cases n<;>(simp [cci] at h;exact h)
  subst this;exact hc
 |0,gs,_::_,vs,h,hc=>by simp [cci] at h
 |n+1,gs,c::cs,vs,h,hc=>by
  simp only[cci] at h;split at h
  ·rename_i b;split at h
   ·rename_i ty z m g hb;split at h
    ·rename_i gs' hgs;injection h with h;subst h
     obtain⟨x,ws,rfl,h1,h2⟩:=hc;have h3:=hC.lists _ _ _ (cid hC hg (hM _ _ hb) h1);have hl:C.csz (C.mkL ⟨C.lo,ty,z,m,g⟩)=1:=(hC.len _ _ _ h3).symm;refine⟨?_,?_⟩
     ·show C.E _ w ((x::ws).take (C.csz _));rw[hl];exact h3
     ·show cO C w gs' ((x::ws).drop (C.csz _));rw[hl];exact cdk hC hg hM hgs h2
    ·cases h
   ·cases h
  ·split at h
   ·rename_i g r hr;split at h
    ·rename_i gs' hgs;injection h with h;subst h
     obtain⟨h1,h2⟩:=ccT hC hM hr hc;exact⟨h1,cdk hC hg hM hgs h2⟩
    ·cases h
   ·cases h
theorem coq (hC:C.Ok) (hg:jr C e w) (hM:jm C e w M) {p:Pat D}{x:AV}{v:Value}(h:readP C.toStat M x=some p) (hx:x.is e v):p.is C w v:=by
 unfold readP at h;split at h
 ·rename_i b o n c;obtain⟨k,hk,rfl⟩:=hx;split at h
  ·rename_i ty cs' z hb;split at h
   ·rename_i i hi;split at h
    ·rename_i ty' cs hcs;split at h
     ·rename_i gs hgs;split at h
      rotate_left
      ·cases h
      rename_i hnc;injection h with h;subst h
      obtain⟨h1,arr,pre,vs,rest,h2,h3,h4,h5⟩:=zG hM hk hcs;obtain⟨k',arr',vs',rest',q1,q2,q3,q4,q5,q6⟩:=hM _ _ hb;rw[hk] at q1;injection q1 with q1;subst q1
      rw[h2] at q3;injection q3 with q3;injection q3 with q3 q3' _;subst q3'
      exact⟨k,o,c,arr,pre,vs,rest,rfl,h2,h3,h4,WN hC hM hgs h5,jo hnc⟩
     ·cases h
    ·cases h
   ·cases h
  ·cases h
 ·rename_i b n;obtain⟨k,hk,rfl⟩:=hx;split at h
  ·rename_i ty cs' z hb;split at h
   ·rename_i i hi;split at h
    ·rename_i ty' cs hcs;split at h
     ·rename_i gs hgs;split at h
      rotate_left
      ·cases h
      rename_i hz h0
      replace hz:=ct hz
      have h0:0<z:=by simpa using h0
      injection h with h;subst h
      obtain⟨h1,arr,pre,vs,rest,h2,h3,h4,h5⟩:=zG hM hk hcs;obtain⟨k',arr',vs',rest',q1,q2,q3,q4,q5,q6⟩:=hM _ _ hb;rw[hk] at q1;injection q1 with q1;subst q1
      rw[h2] at q3;injection q3 with q3;injection q3 with q3 q3' _;subst q3'
      have hle:n<=e.κ b:=by
       have e1:vs.length=n*i.size:=by rw[h5.length,h1]
       have e2:arr.size=e.κ b*z:=by rw[q3];exact q6
       have e3:=cQ List.length h3;simp only[kI,Ca] at e3;rw[← hz] at e1;have:n*z<=e.κ b*z:=by omega
       exact cfX this h0
      exact⟨k,0,e.κ b,arr,pre,vs,rest,rfl,h2,h3,h4,WN hC hM hgs h5,hle⟩
     ·cases h
    ·cases h
   ·cases h
  ·cases h
 ·rename_i b;split at h
  ·rename_i ty z n g hb;injection h with h;subst h
   exact hC.lists _ _ _ (cid hC hg (hM _ _ hb) hx)
  ·rename_i f c hb;obtain⟨p,q,h1,h2,y,ys,rfl,h3,h4⟩:=hM _ _ hb;obtain rfl:p=[]:=h2;obtain rfl:ys=[]:=h4;have hx:e.φ b=some v:=hx;rw[hx] at h1;injection h1 with h1
   split at h
   ·rename_i t z hc;obtain⟨k,o,n,c',h5,h6⟩:=hM _ _ hc;have h3:e.φ c=some y:=h3;rw[h3] at h6;injection h6 with h6
    split at h
    ·rename_i d hd;split at h
     ·rename_i L hL;split at h
      ·rename_i hn hz
       replace hn:=ct hn
       replace hz:=ct hz
       injection h with h;subst h
       obtain⟨l,h7,h8⟩:=hM _ _ hd;rw[h5] at h7;injection h7 with h7;subst h7
       obtain⟨u,h9,h10⟩:=hC.unlist _ _ _ _ hL h8.out;injection h9 with h9;subst h9
       obtain⟨lo',ty',z',n',g'⟩:=L
       replace hn:n'=1:=hn
       replace hz:z'=z:=hz
       subst hn;subst hz;rcases h10 with⟨h10,_⟩|⟨k',o',c'',arr,pre,vs,rest,q1,q2,q3,q4,q5,q6,q7,q8,q9⟩
       ·cases h10
       ·injection q1 with q1 q1' q1''
        injection q1 with q1;injection q1 with q1 qo
        subst q1;subst qo;subst q1';subst q1'';refine⟨k,o,c',.inr ⟨k,o,c',arr,pre,vs,rest,rfl,q2,q3,q4,q5,q6,ju _,q8,fun j hj=>?_⟩,?_⟩
        ·obtain rfl:j=0:=Nat.lt_one_iff.1 hj;exact q9 0 hj
        ·rw[h1,h6];simp
      ·cases h
     ·cases h
    ·cases h
   ·cases h
  ·rename_i f c hb;obtain⟨p,q,h1,h2,y,ys,rfl,h3,h4⟩:=hM _ _ hb;obtain rfl:p=[]:=h2;obtain rfl:ys=[]:=h4;have hx:e.φ b=some v:=hx;rw[hx] at h1;injection h1 with h1
   split at h
   ·rename_i ty cs hc;split at h
    ·rename_i gs hgs;split at h
     ·rename_i ho;injection h with h;subst h
      obtain⟨k,hk,rfl⟩:=h3;obtain⟨k',arr,vs,rest,q1,q2,q3,q4,q5,q6⟩:=hM _ _ hc;rw[hk] at q1;injection q1 with q1;subst q1
      have hG:=WN hC hM hgs q5;have q6:rest=[]:=q6;subst q6;refine⟨k,0,1,.inr ⟨k,0,1,arr,[],vs,[],rfl,cb _,⟨_,q3⟩,by simpa using q4,rfl,?_,ju _,cce hC ho hG,fun j hj=>?_⟩,?_⟩
      ·show vs.length=1*cs.length;rw[kB];exact q5.length
      ·obtain rfl:j=0:=Nat.lt_one_iff.1 hj;show cO C w gs ((vs.drop (0*cs.length)).take cs.length);rw[Jr,ux,kA (by rw[q5.length];exact cb _)];exact hG
      ·rw[h1]
     ·cases h
    ·cases h
   ·cases h
  ·cases h
 ·rename_i c _ _ _;split at h
  ·rename_i g hg;injection h with h;subst h
   obtain⟨h1,h2⟩:=ccT hC hM hg (vs:=[v]) ⟨v,[],rfl,hx,rfl⟩;show g.is C w [v];have h2:[v].drop (g.n C.csz)=[]:=h2;have:1<=g.n C.csz:=by
    rcases kH (g.n C.csz) with h0|h0
    ·rw[h0] at h2;cases h2
    ·exact h0
   rwa [kA (by simpa using this)] at h1
  ·cases h
 ·split at h
  ·rename_i gs hgs;injection h with h;subst h
   obtain⟨vs,h1,h2⟩:=hx;exact⟨vs,cdk hC hg hM hgs h1,h2⟩
  ·cases h
 ·cases h
theorem JK (hC:C.Ok) (hg:jr C e w) (hM:jm C e w M):∀ {xs:List AV}{ps:List (Pat D)}{vs:List Value},YN C.toStat M xs=some ps->yH e xs vs->jb C w ps vs
 |[],ps,vs,h,hc=>by simp [YN] at h;subst h;exact hc
 |x::xs,ps,vs,h,hc=>by
  simp only[YN] at h;split at h
  ·rename_i p hp;split at h
   ·rename_i ps' hps;injection h with h;subst h
    obtain⟨v,ws,h1,h2,h3⟩:=hc;exact⟨v,ws,h1,coq hC hg hM hp h2,JK hC hg hM hps h3⟩
   ·cases h
  ·cases h
end
def Ci (s:Nat):Nat->Nat->List AC
 |_,0=>[]
 |j,n+1=>.sym s j::Ci s (j+1) n
def uV (csz:D->Nat) (s:Nat):List (Grp D)->List AC×Ws D×Nat
 |[]=>([],[],s)
 |.lit v::gs=>match uV csz s gs with
  |(cs,l,s')=>(.lit v::cs,l,s')
 |.cls d::gs=>match uV csz (s+1) gs with
  |(cs,l,s')=>(Ci s 0 (csz d)++cs,(s,.cls d)::l,s')
def mkP (csz:D->Nat) (s:Nat):Pat D->Option (A1×Ws D×Nat)
 |.one g=>match uV csz s [g] with
  |([c],l,s')=>some (.one c,l,s')
  |_=>none
 |.agg gs=>match uV csz s gs with
  |(cs,l,s')=>some (.agg cs,l,s')
 |.slc ..=>none
 |.cap ..=>none
def Er (csz:D->Nat) (s:Nat):List (Pat D)->Option (List A1×Ws D×Nat)
 |[]=>some ([],[],s)
 |p::ps=>match mkP csz s p with
  |some (x,l,s')=>match Er csz s' ps with
   |some (xs,l',s'')=>some (x::xs,l++l',s'')
   |none=>none
  |none=>none
def mkR (csz:D->Nat) (s:Nat):jH D->Option (AV×Ws D×Nat)
 |.val p=>match mkP csz s p with
  |some (x,l,s')=>some (.val x,l,s')
  |none=>none
 |.tup ps=>match Er csz s ps with
  |some (xs,l,s')=>some (.tup xs,l,s')
  |none=>none
structure Grown (Q:D->List Value->Prop) (s s':Nat) (l:Ws D) (e e':Env):Prop where
 ext:Ext e e'
 ρ:e'.ρ=e.ρ
 κ:e'.κ=e.κ
 φ:e'.φ=e.φ
 al:e'.al=e.al
 ν:∀ x f,e'.ν x=some f->e.ν x=some f\/(s<=x/\x<s')
 le:s<=s'
 live:∀ k v,(k,v)∈l->s<=k/\∃ d,v=.cls d/\∃ f,e'.ν k=some f/\Q d f
section
variable {Q:D->List Value->Prop}
theorem caz (s:Nat) (e:Env):Grown Q s s [] e e:=⟨Ext.refl e,rfl,rfl,rfl,rfl,fun _ _ h=>.inl h,cb _,fun _ _ h=>by simp at h⟩
theorem Grown.trans {s s' s'':Nat}{l l':Ws D}{e e' e'':Env}(h:Grown Q s s' l e e') (k:Grown Q s' s'' l' e' e''):Grown Q s s'' (l++l') e e'' :=
 ⟨h.ext.trans k.ext,k.ρ.trans h.ρ,k.κ.trans h.κ,k.φ.trans h.φ,k.al.trans h.al,fun x f hx=>by
  rcases k.ν x f hx with h1|h1
  ·rcases h.ν x f h1 with h2|h2
   ·exact .inl h2
   ·exact .inr ⟨h2.1,cI h2.2 k.le⟩
  ·exact .inr ⟨cA h.le h1.1,h1.2⟩,cA h.le k.le,fun x v hm=>by
  rcases List.mem_append.1 hm with hm|hm
  ·obtain⟨h0,d,h1,f,h3,h4⟩:=h.live x v hm;exact⟨h0,d,h1,f,k.ext.ν _ _ h3,h4⟩
  ·obtain⟨h0,h1⟩:=k.live x v hm;exact⟨cA h.le h0,h1⟩⟩
theorem Eg {e:Env}{s:Nat}{f:List Value}(hf:e.ν s=some f) (ho:∀ v∈f,v.oneCell'=true):∀ (n j:Nat),j+n<=f.length->cZ e (Ci s j n) ((f.drop j).take n)
 |0,j,_=>by simp [Ci,cZ]
 |n+1,j,h=>by
  have hj:j<f.length:=by omega
  rw[KM hj,Ya];exact⟨f[j],_,rfl,⟨f,hf,kb hj,ho _ (Yv hj)⟩,Eg hf ho n (j+1) (by omega)⟩
theorem Cr {csz:D->Nat}:∀ {gs:List (Grp D)}{s s':Nat}{cs:List AC}{l:Ws D},uV csz s gs=(cs,l,s')->s<=s'
 |[],s,s',cs,l,h=>by
  simp only[uV,cr] at h;omega
 |.lit v::gs,s,s',cs,l,h=>by
  simp only[uV] at h;generalize hm:uV csz s gs=r at h;obtain⟨cs',l',s''⟩:=r;simp only[cr] at h;have:=Cr hm;omega
 |.cls d::gs,s,s',cs,l,h=>by
  simp only[uV] at h;generalize hm:uV csz (s+1) gs=r at h;obtain⟨cs',l',s''⟩:=r;simp only[cr] at h;have:=Cr hm;omega
def cav (Q:D->List Value->Prop) (csz:D->Nat):List (Grp D)->List Value->Prop
 |[],vs=>vs=[]
 |.lit v::gs,vs=>vs.take 1=[v]/\cav Q csz gs (vs.drop 1)
 |.cls d::gs,vs=>(Q d (vs.take (csz d))/\(vs.take (csz d)).length=csz d/\∀ v∈vs.take (csz d),v.oneCell'=true)/\cav Q csz gs (vs.drop (csz d))
theorem En {csz:D->Nat}{B:Nat}:∀ {gs:List (Grp D)}{s s':Nat}{cs:List AC}{l:Ws D}{vs:List Value}{e:Env},uV csz s gs=(cs,l,s')->s'<=B->(∀ x,s<=x->x<B->e.ν x=none)->cav Q csz gs vs->∃ e',Grown Q s s' l e e'/\cZ e' cs vs
 |[],s,s',cs,l,vs,e,h,hB,hn,hg=>by
  simp only[uV,cr] at h;obtain⟨rfl,rfl,rfl⟩:=h;exact⟨e,caz _ _,hg⟩
 |.lit v::gs,s,s',cs,l,vs,e,h,hB,hn,⟨h1,h2⟩=>by
  simp only[uV] at h;generalize hm:uV csz s gs=r at h;obtain⟨cs',l',s''⟩:=r;simp only[cr] at h;obtain⟨rfl,rfl,rfl⟩:=h;obtain⟨e',h4,h5⟩:=En hm hB hn h2;refine⟨e',h4,v,vs.drop 1,?_,rfl,h5⟩;cases vs with
  |nil=>simp at h1
  |cons x xs=>simp at h1;rw[h1];rfl
 |.cls d::gs,s,s',cs,l,vs,e,h,hB,hn,⟨⟨h1,h1',ho⟩,h2⟩=>by
  simp only[uV] at h;generalize hm:uV csz (s+1) gs=r at h;obtain⟨cs',l',s''⟩:=r;simp only[cr] at h;obtain⟨rfl,rfl,rfl⟩:=h;have hle:=Cr hm
  let e1:Env:={ e with ν:=fun x=>if x=s then some (vs.take (csz d)) else e.ν x }
  have he1:e1.ν s=some (vs.take (csz d)):=by simp [e1]
  have hg1:Grown Q s (s+1) [(s,EZ.cls d)] e e1:=⟨⟨fun _ _ h=>h,fun _ _ _=>rfl,fun x g hx=>by
   show (if x=s then _ else e.ν x)=some g;rw[cg (fun e0=>by rw[e0,hn s (cb _) (by omega)] at hx;cases hx),hx],fun _ _ h=>h⟩,rfl,rfl,rfl,rfl,fun x g hx=>by
   by_cases hxs:x=s
   ·right;omega
   ·left;have:(if x=s then some (vs.take (csz d)) else e.ν x)=some g:=hx
    rwa [cg hxs] at this,by omega,fun k v hk=>by
   simp only[uQ,cr,Zr,or_false] at hk;obtain⟨rfl,rfl⟩:=hk;exact⟨cb _,d,rfl,_,he1,h1⟩⟩
  obtain⟨e',h4,h5⟩:=En (e:=e1) hm hB (fun x hx hxB=>by
   show (if x=s then _ else e.ν x)=none;rw[cg (by omega)];exact hn x (by omega) hxB) h2
  refine⟨e',hg1.trans h4,?_⟩;have:=(Eg (h4.ext.ν _ _ he1) ho (csz d) 0 (by omega)).append h5;rw[ux,kA (by omega:(vs.take (csz d)).length<=csz d),kv] at this;exact this
def ckJ (Q:D->List Value->Prop) (csz:D->Nat):Pat D->Value->Prop
 |.one g,v=>cav Q csz [g] [v]
 |.agg gs,v=>∃ vs,cav Q csz gs vs/\v=.agg vs.toArray
 |.slc ..,_=>False
 |.cap ..,_=>False
def caj (Q:D->List Value->Prop) (csz:D->Nat):List (Pat D)->List Value->Prop
 |[],vs=>vs=[]
 |p::ps,vs=>∃ v ws,vs=v::ws/\ckJ Q csz p v/\caj Q csz ps ws
def RPatBy (Q:D->List Value->Prop) (csz:D->Nat):jH D->Value->Prop
 |.val p,v=>ckJ Q csz p v
 |.tup ps,v=>∃ vs,caj Q csz ps vs/\v=.tuple vs.toArray
theorem cah {csz:D->Nat}{B:Nat}{p:Pat D}{s s':Nat}{x:A1}{l:Ws D}{v:Value}{e:Env}(h:mkP csz s p=some (x,l,s')) (hB:s'<=B) (hn:∀ x,s<=x->x<B->e.ν x=none) (hp:ckJ Q csz p v):∃ e',Grown Q s s' l e e'/\x.is e' v:=by
 cases p with
 |one g =>
  simp only[mkP] at h;generalize hm:uV csz s [g]=r at h;obtain⟨cs',l',s''⟩:=r;split at h
  ·rename_i c l1 s1 heq;simp only[cr] at heq;obtain⟨rfl,rfl,rfl⟩:=heq;injection h with h
   simp only[cr] at h;obtain⟨rfl,rfl,rfl⟩:=h;obtain⟨e',h1,v',ws,h2,h3,h4⟩:=En hm hB hn hp;injection h2 with h2 _
   subst h2;exact⟨e',h1,h3⟩
  ·cases h
 |agg gs =>
  simp only[mkP] at h;generalize hm:uV csz s gs=r at h;obtain⟨cs',l',s''⟩:=r;injection h with h
  simp only[cr] at h;obtain⟨rfl,rfl,rfl⟩:=h;obtain⟨vs,h1,h2⟩:=hp;obtain⟨e',h3,h4⟩:=En hm hB hn h1;exact⟨e',h3,vs,h4,h2⟩
 |slc t n gs=>simp [mkP] at h
 |cap f ty z gs=>simp [mkP] at h
theorem cgK {csz:D->Nat}{p:Pat D}{s s':Nat}{x:A1}{l:Ws D}(h:mkP csz s p=some (x,l,s')):s<=s':=by
 cases p with
 |one g =>
  simp only[mkP] at h;generalize hm:uV csz s [g]=r at h;obtain⟨cs',l',s''⟩:=r;have:=Cr hm;split at h
  ·rename_i c l1 s1 heq;simp only[cr] at heq;injection h with h
   simp only[cr] at h;omega
  ·cases h
 |agg gs =>
  simp only[mkP] at h;generalize hm:uV csz s gs=r at h;obtain⟨cs',l',s''⟩:=r;injection h with h
  simp only[cr] at h;have:=Cr hm;omega
 |slc t n gs=>simp [mkP] at h
 |cap f ty z gs=>simp [mkP] at h
theorem WU {csz:D->Nat}:∀ {ps:List (Pat D)}{s s':Nat}{xs:List A1}{l:Ws D},Er csz s ps=some (xs,l,s')->s<=s'
 |[],s,s',xs,l,h=>by
  simp only[Er,kJ,cr] at h;omega
 |p::ps,s,s',xs,l,h=>by
  simp only[Er] at h;split at h
  ·rename_i x l1 s1 hp1;split at h
   ·rename_i xs2 l2 s2 hp2;injection h with h
    simp only[cr] at h;have:=cgK hp1;have:=WU hp2;omega
   ·cases h
  ·cases h
theorem Js {csz:D->Nat}{B:Nat}:∀ {ps:List (Pat D)}{s s':Nat}{xs:List A1}{l:Ws D}{vs:List Value}{e:Env},Er csz s ps=some (xs,l,s')->s'<=B->(∀ x,s<=x->x<B->e.ν x=none)->caj Q csz ps vs->∃ e',Grown Q s s' l e e'/\up e' xs vs
 |[],s,s',xs,l,vs,e,h,hB,hn,hp=>by
  simp only[Er,kJ,cr] at h;obtain⟨rfl,rfl,rfl⟩:=h;exact⟨e,caz _ _,hp⟩
 |p::ps,s,s',xs,l,vs,e,h,hB,hn,⟨v,ws,h1,h2,h3⟩=>by
  simp only[Er] at h;split at h
  ·rename_i x l1 s1 hp1;split at h
   ·rename_i xs2 l2 s2 hp2;injection h with h
    simp only[cr] at h;obtain⟨rfl,rfl,rfl⟩:=h;obtain⟨e1,g1,i1⟩:=cah hp1 (cA (WU hp2) hB) hn h2;obtain⟨e2,g2,i2⟩:=Js (e:=e1) hp2 hB (fun x hx hxB=>by
     cases hc:e1.ν x with
     |none=>rfl
     |some f =>
      rcases g1.ν x f hc with h|h
      ·rw[hn x (cA g1.le hx) hxB] at h;cases h
      ·omega) h3
    exact⟨e2,g1.trans g2,v,ws,h1,i1.ext g2.ext,i2⟩
   ·cases h
  ·cases h
theorem cjS {csz:D->Nat}{B:Nat}{p:jH D}{s s':Nat}{x:AV}{l:Ws D}{v:Value}{e:Env}(h:mkR csz s p=some (x,l,s')) (hB:s'<=B) (hn:∀ x,s<=x->x<B->e.ν x=none) (hp:RPatBy Q csz p v):∃ e',Grown Q s s' l e e'/\x.is e' v:=by
 cases p with
 |val p =>
  simp only[mkR] at h;split at h
  ·rename_i y l1 s1 hp1;injection h with h
   simp only[cr] at h;obtain⟨rfl,rfl,rfl⟩:=h;exact cah hp1 hB hn hp
  ·cases h
 |tup ps =>
  simp only[mkR] at h;split at h
  ·rename_i y l1 s1 hp1;injection h with h
   simp only[cr] at h;obtain⟨rfl,rfl,rfl⟩:=h;obtain⟨vs,h1,h2⟩:=hp;obtain⟨e',h3,h4⟩:=Js hp1 hB hn h1;exact⟨e',h3,vs,h4,h2⟩
  ·cases h
end
theorem YS {C:Ctx D}(hC:C.Ok) {W:World->Prop}(w1:World) (h1:W w1):∀ {gs:List (Grp D)}{vs:List Value},(∀ w,W w->cO C w gs vs)->cav (fun d f=>∀ w,W w->C.E d w f) C.csz gs vs
 |[],vs,h=>h w1 h1
 |.lit v::gs,vs,h=>⟨(h w1 h1).1,YS hC w1 h1 (fun w hw=>(h w hw).2)⟩
 |.cls d::gs,vs,h=>⟨⟨fun w hw=>(h w hw).1,hC.len _ _ _ (h w1 h1).1,hC.cell _ _ _ (h w1 h1).1⟩,YS hC w1 h1 (fun w hw=>(h w hw).2)⟩
theorem Uu {C:Ctx D}(hC:C.Ok) {w:World}{g:Grp D}{v:Value}(h:g.is C w [v]):cO C w [g] [v]:=by
 cases g with
 |lit x=>exact⟨h,rfl⟩
 |cls d =>
  have hl:=hC.len _ _ _ (show C.E d w [v] from h);have hl:C.csz d=1:=by simpa using hl.symm
  refine⟨?_,?_⟩
  ·show C.E d w (List.take (C.csz d) [v]);rw[hl];exact h
  ·show List.drop (C.csz d) [v]=[];rw[hl];rfl
theorem pat_by {C:Ctx D}(hC:C.Ok) {W:World->Prop}(w1:World) (h1:W w1) {p:Pat D}{v:Value}(hp:p.mem=false) (h:∀ w,W w->p.is C w v):ckJ (fun d f=>∀ w,W w->C.E d w f) C.csz p v:=by
 cases p with
 |one g=>exact YS hC w1 h1 (fun w hw=>Uu hC (h w hw))
 |agg gs =>
  obtain⟨vs,_,hv⟩:=h w1 h1;refine⟨vs,YS hC w1 h1 (fun w hw=>?_),hv⟩;obtain⟨vs',h2,h3⟩:=h w hw;rw[hv] at h3;have:vs=vs':=by injection h3 with h3;simpa using h3
  rw[this];exact h2
 |slc t n gs=>cases hp
 |cap f ty z gs=>cases hp
theorem Zm {C:Ctx D}(hC:C.Ok) {W:World->Prop}(w1:World) (h1:W w1):∀ {ps:List (Pat D)}{vs:List Value},(∀ p∈ps,p.mem=false)->(∀ w,W w->jb C w ps vs)->caj (fun d f=>∀ w,W w->C.E d w f) C.csz ps vs
 |[],vs,_,h=>h w1 h1
 |p::ps,vs,hp,h=>by
  obtain⟨v,ws,rfl,h2,h3⟩:=h w1 h1;refine⟨v,ws,rfl,pat_by hC w1 h1 (hp p (by simp)) (fun w hw=>?_),Zm hC w1 h1 (fun q hq=>hp q (by simp [hq])) (fun w hw=>?_)⟩
  ·obtain⟨v',ws',h4,h5,h6⟩:=h w hw;injection h4 with h4 h4';subst h4;exact h5
  ·obtain⟨v',ws',h4,h5,h6⟩:=h w hw;injection h4 with h4 h4';subst h4';exact h6
theorem cei {csz:D->Nat}{s:Nat}{p:Pat D}{r:A1×Ws D×Nat}(h:mkP csz s p=some r):p.mem=false:=by
 cases p with
 |one g=>rfl
 |agg gs=>rfl
 |slc t n gs=>simp [mkP] at h
 |cap f ty z gs=>simp [mkP] at h
theorem EH {csz:D->Nat}:∀ {ps:List (Pat D)}{s:Nat}{r:List A1×Ws D×Nat},Er csz s ps=some r->∀ p∈ps,p.mem=false
 |[],s,r,h,p,hp=>by simp at hp
 |q::ps,s,r,h,p,hp=>by
  simp only[Er] at h;split at h
  ·rename_i x l1 s1 hp1;split at h
   ·rename_i xs2 l2 s2 hp2;rcases List.mem_cons.1 hp with rfl|hp
    ·exact cei hp1
    ·exact EH hp2 p hp
   ·cases h
  ·cases h
theorem rpat_by {C:Ctx D}(hC:C.Ok) {W:World->Prop}(w1:World) (h1:W w1) {s:Nat}{p:jH D}{r:AV×Ws D×Nat}{v:Value}(hm:mkR C.csz s p=some r) (h:∀ w,W w->p.is C w v):RPatBy (fun d f=>∀ w,W w->C.E d w f) C.csz p v:=by
 cases p with
 |val p =>
  simp only[mkR] at hm;split at hm
  ·rename_i hp1;exact pat_by hC w1 h1 (cei hp1) h
  ·cases hm
 |tup ps =>
  simp only[mkR] at hm;split at hm
  ·rename_i hp1;obtain⟨vs,_,hv⟩:=h w1 h1;refine⟨vs,Zm hC w1 h1 (EH hp1) (fun w hw=>?_),hv⟩;obtain⟨vs',h2,h3⟩:=h w hw;rw[hv] at h3;have:vs=vs':=by injection h3 with h3;simpa using h3
   rw[this];exact h2
  ·cases hm
variable {D:Type}
structure jJ (b:Nat) (w w':World):Prop where
 os:w'.os=w.os
 tape:w'.tape=w.tape
 output:w'.output=w.output
 size:w'.heap.size=w.heap.size
 block:∀ k,k≠b->w'.heap[k]?=w.heap[k]?
theorem jJ.refl (b:Nat) (w:World):jJ b w w:=⟨rfl,rfl,rfl,rfl,fun _ _=>rfl⟩
theorem jJ.trans {b:Nat}{w w' w'':World}(h:jJ b w w') (k:jJ b w' w''):jJ b w w'' :=
 ⟨k.os.trans h.os,k.tape.trans h.tape,k.output.trans h.output,k.size.trans h.size,fun i hi=>(k.block i hi).trans (h.block i hi)⟩
theorem jJ.below {b k:Nat}{w w':World}(h:jJ b w w') (hk:k<=b):Below k w w' :=
 ⟨h.os,h.tape,h.output,Nat.le_of_eq h.size.symm,fun i hi=>h.block i (by omega)⟩
theorem jJ.set {b:Nat}{w w':World}(h:jJ b w w') (o:Nat) (u:Value):jJ b w (w'.setCell ⟨b,o,none⟩ u) :=
 h.trans ⟨rfl,rfl,rfl,by simp [World.setCell],fun k hk=>Below.heap_setCell _ _ _ _ hk⟩
structure Out (D:Type) where
 x:AV
 ws:Ws D
 n1:Nat
 ob:List Prop
def uk (C:Ctx D) (e:Env) (w:World) (n0:Nat) (t:Out D) (v:Value) (w':World):Prop:=∃ e',ut C e w n0 t.n1 t.ws e' w'/\t.x.is e' v
def out (n0:Nat) (x:AV):Option (Out D):=some ⟨x,[],n0,[]⟩
def KU:AV:=.val (.one (.lit undef))
abbrev cN (D:Type):=cR D->Nat->FuncId->List AV->Option (Out D)
section
variable {C:Ctx D}{e:Env}{w w':World}{n0:Nat}
theorem uk.here (hg:jr C e w) {x:AV}{v:Value}(hx:x.is e v):uk C e w n0 ⟨x,[],n0,[]⟩ v w:=⟨e,ut.refl hg n0,hx⟩
theorem cde {cs cs':Array Value}{t:TypeId}(h:CD C (.cells cs t (0,0))):CD C (.cells cs' t (0,0)):=by
 rcases h with⟨cs1,t1,h1,h2⟩|⟨r,h1⟩|⟨r,h1⟩|⟨r,c,h1⟩
 ·injection h1 with _ h1 _
  exact .inl ⟨cs',t,rfl,by rw[h1];exact h2⟩
 ·cases h1
 ·cases h1
 ·cases h1
theorem cir (hg:jr C e w) (hf:um n0 (n0+1) e) {t:Nat}(ht:C.okT t=true) (hb:Below w.heap.size w w') {arr:Array Value}(hk:w'.heap[w.heap.size]?=some (.cells arr t (0,0))) {cs:List AC}{vs rest:List Value}(ha:arr.toList=vs++rest) (hc:cZ e cs vs)
 {z:Option Nat} {cap:Nat} (hz:match z with|none=>rest=[]|some z=>arr.size=cap*z) :
 ∃ e',ut C e w n0 (n0+1) [(n0,.blk t cs z)] e' w'/\e'.ρ n0=some w.heap.size/\e'.κ n0=cap:=by
 have hn:=(hf n0 (cb _) (Cu _)).1
 let e':Env:={ e with ρ:=fun b=>if b=n0 then some w.heap.size else e.ρ b,κ:=fun b=>if b=n0 then cap else e.κ b,al:=fun b=>if b=n0 then true else e.al b }
 have hid:e'.ρ n0=some w.heap.size:=by simp [e']
 have hκ:e'.κ n0=cap:=by simp [e']
 have hne:∀ b k,e.ρ b=some k->b≠n0:=fun b k h e0=>by rw[e0,hn] at h;cases h
 have hold:∀ b k,e'.ρ b=some k->(b≠n0/\e.ρ b=some k)\/(b=n0/\k=w.heap.size):=by
  intro b k hb;by_cases hbi:b=n0
  ·right;refine⟨hbi,?_⟩;rw[hbi,hid] at hb;injection hb with hb
   exact hb.symm
  ·left;have:(if b=n0 then some w.heap.size else e.ρ b)=some k:=hb;rw[cg hbi] at this;exact⟨hbi,this⟩
 have hx:Ext e e':=⟨fun b k h=>by
  show (if b=n0 then _ else _)=_;rw[cg (hne b k h),h],fun b k h=>by
  show (if b=n0 then _ else _)=_;rw[cg (hne b k h)],fun _ _ h=>h,fun _ _ h=>h⟩
 have hadv:Adv e w e' w':=⟨hx,hb.size,fun k hk' hn'=>⟨fun b hb'=>by
  rcases hold b k hb' with h|h
  ·exact hn' b h.2
  ·omega,hb.block k hk'⟩⟩
 have hal:∀ b,b≠n0->e'.al b=e.al b:=fun b h=>by show (if b=n0 then _ else _)=_;rw[cg h]
 have hg1:=hg.later hb;refine⟨e',⟨yg _,hadv,⟨fun b k h=>(hold b k h).imp (fun h=>h.2) (fun h=>by omega),fun _ _ h=>.inl h,fun _ _ h=>.inl h⟩,⟨hg1.below,?_,?_,hg.fr.adv hadv⟩,?_,?_⟩,hid,hκ⟩
 ·intro b b' k h1 h2 h3 h4;rcases hold b k h3 with⟨q1,q2⟩|⟨q1,q2⟩<;>rcases hold b' k h4 with⟨q3,q4⟩|⟨q3,q4⟩
  ·exact hg.inj b b' k (by rw[← hal b q1];exact h1) (by rw[← hal b' q3];exact h2) q2 q4
  ·have:=hg.lt q2;omega
  ·have:=hg.lt q4;omega
  ·rw[q1,q3]
 ·intro b k h;rcases hold b k h with⟨q1,q2⟩|⟨q1,q2⟩
  ·exact hg1.own b k q2
  ·rw[q2];exact⟨hg.below.size,_,hk,.inl ⟨_,_,rfl,ht⟩⟩
 ·intro b o ho;simp only[jl,cX] at ho;split at ho
  ·rename_i hbe;injection ho with ho;subst ho
   obtain rfl:n0=b:=ct hbe;refine⟨_,arr,vs,rest,hid,by simp [e'],hk,ha,hc.ext hx,?_⟩;cases z with
   |none=>exact hz
   |some z=>simp only at hz ⊢;rw[hz,hκ]
  ·cases ho
 ·intro b o ho _;refine ho.adv hadv (fun k hk ha=>?_);have:=hne b k hk;exact⟨by rw[hal b this];exact ha,hb.block k (hg.lt hk)⟩
theorem Yx (hg:jr C e w) {b k ty:Nat}(hb:e.ρ b=some k) (ha:e.al b=true) {arr arr':Array Value}(hk:w.heap[k]?=some (.cells arr ty (0,0))) (ho:jJ k w w') (hk':w'.heap[k]?=some (.cells arr' ty (0,0)))
 {cs':List AC} {vs' rest':List Value} (ha':arr'.toList=vs'++rest') (hc:cZ e cs' vs') {z:Option Nat} (hz:match z with|none=>rest'=[]|some z=>arr'.size=e.κ b*z) :
 ut C e w n0 n0 [(b,.blk ty cs' z)] e w':=by
 have hadv:Adv e w e w':=⟨Ext.refl e,by rw[ho.size];exact cb _,fun x hx hn=>⟨hn,ho.block x (fun h=>hn b (by rw[hb,h]))⟩⟩;refine⟨cb _,hadv,New.refl _ _ e,⟨hg.below.trans (ho.below (hg.own b k hb).1),hg.inj,?_,hg.fr.adv hadv⟩,?_,?_⟩
 ·intro b' k' h;obtain⟨h1,o2,h2,h3⟩:=hg.own b' k' h;refine⟨h1,?_⟩;by_cases hkk:k'=k
  ·subst hkk;rw[hk] at h2;injection h2 with h2
   subst h2;exact⟨_,hk',cde h3⟩
  ·exact⟨o2,(ho.block k' hkk).trans h2,h3⟩
 ·intro b' o h;simp only[jl,cX] at h;split at h
  ·rename_i hbe;injection h with h;subst h
   obtain rfl:b=b':=ct hbe;exact⟨k,arr',vs',rest',hb,ha,hk',ha',hc,hz⟩
  ·cases h
 ·intro b' o h hn;refine h.adv hadv (fun k' h1 h2=>⟨h2,?_⟩);have hbb:b'≠b:=by
   rintro rfl;simp [jl,cX] at hn
  exact ho.block k' (fun hkk=>hbb (hg.inj b' b k h2 ha (by rw[h1,hkk]) hb))
theorem cmt (hg:jr C e w) (hf:um n0 (n0+1) e) {b k ty:Nat}(hb:e.ρ b=some k) (ha:e.al b=true) {arr arr':Array Value}(hk:w.heap[k]?=some (.cells arr ty (0,0))) (ho:jJ k w w') (hk':w'.heap[k]?=some (.cells arr' ty (0,0)))
 {cs':List AC} {vs' rest':List Value} (ha':arr'.toList=vs'++rest') (hc:cZ e cs' vs') {z:Nat} (hz:arr'.size=e.κ b*z) :
 ∃ e',ut C e w n0 (n0+1) [(n0,.blk ty cs' (some z)),(b,.dead)] e' w'/\e'.ρ n0=some k/\e'.κ n0=e.κ b:=by
 have hn:=(hf n0 (cb _) (Cu _)).1;have hbn:b≠n0:=fun e0=>by rw[e0,hn] at hb;cases hb
 let e':Env:={ e with ρ:=fun x=>if x=n0 then some k else e.ρ x,κ:=fun x=>if x=n0 then e.κ b else e.κ x,al:=fun x=>if x=n0 then true else if x=b then false else e.al x }
 have hid:e'.ρ n0=some k:=by simp [e']
 have hκ:e'.κ n0=e.κ b:=by simp [e']
 have hne:∀ b k,e.ρ b=some k->b≠n0:=fun b k h e0=>by rw[e0,hn] at h;cases h
 have hold:∀ x y,e'.ρ x=some y->(x≠n0/\e.ρ x=some y)\/(x=n0/\y=k):=by
  intro x y hb;by_cases hbi:x=n0
  ·right;refine⟨hbi,?_⟩;rw[hbi,hid] at hb;injection hb with hb
   exact hb.symm
  ·left;have:(if x=n0 then some k else e.ρ x)=some y:=hb;rw[cg hbi] at this;exact⟨hbi,this⟩
 have hx:Ext e e':=⟨fun b k h=>by
  show (if b=n0 then _ else _)=_;rw[cg (hne b k h),h],fun b k h=>by
  show (if b=n0 then _ else _)=_;rw[cg (hne b k h)],fun _ _ h=>h,fun _ _ h=>h⟩
 have hadv:Adv e w e' w':=⟨hx,by rw[ho.size];exact cb _,fun y hy hn'=>⟨fun x hx'=>by
  rcases hold x y hx' with h|h
  ·exact hn' x h.2
  ·exact hn' b (by rw[hb,h.2]),ho.block y (fun h=>hn' b (by rw[hb,h]))⟩⟩
 have hal:∀ x,x≠n0->e'.al x=true->x≠b/\e.al x=true:=fun x h h1=>by
  have h1:(if x=n0 then true else if x=b then false else e.al x)=true:=h1;rw[cg h] at h1;by_cases hxb:x=b
  ·rw[co hxb] at h1;cases h1
  ·rw[cg hxb] at h1;exact⟨hxb,h1⟩
 refine⟨e',⟨yg _,hadv,⟨fun b k h=>(hold b k h).imp (fun h=>h.2) (fun h=>by omega),fun _ _ h=>.inl h,fun _ _ h=>.inl h⟩,⟨hg.below.trans (ho.below (hg.own b k hb).1),?_,?_,hg.fr.adv hadv⟩,?_,?_⟩,hid,hκ⟩
 ·intro x x' y h1 h2 h3 h4;rcases hold x y h3 with⟨q1,q2⟩|⟨q1,q2⟩<;>rcases hold x' y h4 with⟨q3,q4⟩|⟨q3,q4⟩
  ·exact hg.inj x x' y (hal x q1 h1).2 (hal x' q3 h2).2 q2 q4
  ·exact absurd (hg.inj x b k (hal x q1 h1).2 ha (by rw[q2,q4]) hb) (hal x q1 h1).1
  ·exact absurd (hg.inj x' b k (hal x' q3 h2).2 ha (by rw[q4,q2]) hb) (hal x' q3 h2).1
  ·rw[q1,q3]
 ·intro x y h;have h':∃ z,e.ρ z=some y:=by
   rcases hold x y h with⟨q1,q2⟩|⟨q1,q2⟩
   ·exact⟨x,q2⟩
   ·exact⟨b,by rw[hb,q2]⟩
  obtain⟨z,hz⟩:=h';obtain⟨h1,o2,h2,h3⟩:=hg.own z y hz;refine⟨h1,?_⟩;by_cases hkk:y=k
  ·subst hkk;rw[hk] at h2;injection h2 with h2
   subst h2;exact⟨_,hk',cde h3⟩
  ·exact⟨o2,(ho.block y hkk).trans h2,h3⟩
 ·intro x o h;simp only[jl,cX] at h;split at h
  ·rename_i hbe;injection h with h;subst h
   obtain rfl:n0=x:=ct hbe;exact⟨k,arr',vs',rest',hid,by simp [e'],hk',ha',hc.ext hx,by rw[hz,hκ]⟩
  ·split at h
   ·injection h with h;subst h
    trivial
   ·cases h
 ·intro x o h hn';refine h.adv hadv (fun y h1 h2=>?_);have hxb:x≠b:=by
   rintro rfl;simp only[jl,cX] at hn';split at hn'
   ·cases hn'
   ·simp at hn'
  have hxn:=hne x y h1;refine⟨?_,ho.block y (fun hkk=>hxb (hg.inj x b k h2 ha (by rw[h1,hkk]) hb))⟩;show (if x=n0 then true else if x=b then false else e.al x)=true;rw[cg hxn,cg hxb,h2]
theorem Kh (hg:jr C e w) {b k:Nat}(hb:e.ρ b=some k) (ha:e.al b=true) (ho:jJ k w w') {o:Obj}(hk':w'.heap[k]?=some o) (hok:CD C o) {ob:EZ D}(hob:kF C e w' b ob):ut C e w n0 n0 [(b,ob)] e w':=by
 have hadv:Adv e w e w':=⟨Ext.refl e,by rw[ho.size];exact cb _,fun x hx hn=>⟨hn,ho.block x (fun h=>hn b (by rw[hb,h]))⟩⟩;refine⟨cb _,hadv,New.refl _ _ e,⟨hg.below.trans (ho.below (hg.own b k hb).1),hg.inj,?_,hg.fr.adv hadv⟩,?_,?_⟩
 ·intro b' k' h;obtain⟨h1,o2,h2,h3⟩:=hg.own b' k' h;refine⟨h1,?_⟩;by_cases hkk:k'=k
  ·subst hkk;exact⟨_,hk',hok⟩
  ·exact⟨o2,(ho.block k' hkk).trans h2,h3⟩
 ·intro b' o h;simp only[jl,cX] at h;split at h
  ·rename_i hbe;injection h with h;subst h
   obtain rfl:b=b':=ct hbe;exact hob
  ·cases h
 ·intro b' o h hn;refine h.adv hadv (fun k' h1 h2=>⟨h2,?_⟩);have hbb:b'≠b:=by
   rintro rfl;simp [jl,cX] at hn
  exact ho.block k' (fun hkk=>hbb (hg.inj b' b k h2 ha (by rw[h1,hkk]) hb))
theorem ceW (hg:jr C e w) (hf:um n0 (n0+1) e) (hb:Below w.heap.size w w') {k:Nat}(hkk:w.heap.size<=k) {o:Obj}(hk:w'.heap[k]?=some o) (hok:CD C o) {ob:EZ D}(hob:∀ e':Env,Ext e e'->e'.ρ n0=some k->e'.al n0=true->kF C e' w' n0 ob) :
 ∃ e',ut C e w n0 (n0+1) [(n0,ob)] e' w'/\e'.ρ n0=some k:=by
 have hn:=(hf n0 (cb _) (Cu _)).1
 let e':Env:={ e with ρ:=fun b=>if b=n0 then some k else e.ρ b,al:=fun b=>if b=n0 then true else e.al b }
 have hid:e'.ρ n0=some k:=by simp [e']
 have hne:∀ b k,e.ρ b=some k->b≠n0:=fun b k h e0=>by rw[e0,hn] at h;cases h
 have hold:∀ b j,e'.ρ b=some j->(b≠n0/\e.ρ b=some j)\/(b=n0/\j=k):=by
  intro b j hb;by_cases hbi:b=n0
  ·right;refine⟨hbi,?_⟩;rw[hbi,hid] at hb;injection hb with hb
   exact hb.symm
  ·left;have:(if b=n0 then some k else e.ρ b)=some j:=hb;rw[cg hbi] at this;exact⟨hbi,this⟩
 have hx:Ext e e':=⟨fun b k h=>by
  show (if b=n0 then _ else _)=_;rw[cg (hne b k h),h],fun _ _ _=>rfl,fun _ _ h=>h,fun _ _ h=>h⟩
 have hadv:Adv e w e' w':=⟨hx,hb.size,fun j hk' hn'=>⟨fun b hb'=>by
  rcases hold b j hb' with h|h
  ·exact hn' b h.2
  ·omega,hb.block j hk'⟩⟩
 have hal:∀ b,b≠n0->e'.al b=e.al b:=fun b h=>by show (if b=n0 then _ else _)=_;rw[cg h]
 have hg1:=hg.later hb;refine⟨e',⟨yg _,hadv,⟨fun b k h=>(hold b k h).imp (fun h=>h.2) (fun h=>by omega),fun _ _ h=>.inl h,fun _ _ h=>.inl h⟩,⟨hg1.below,?_,?_,hg.fr.adv hadv⟩,?_,?_⟩,hid⟩
 ·intro b b' j h1 h2 h3 h4;rcases hold b j h3 with⟨q1,q2⟩|⟨q1,q2⟩<;>rcases hold b' j h4 with⟨q3,q4⟩|⟨q3,q4⟩
  ·exact hg.inj b b' j (by rw[← hal b q1];exact h1) (by rw[← hal b' q3];exact h2) q2 q4
  ·have:=hg.lt q2;omega
  ·have:=hg.lt q4;omega
  ·rw[q1,q3]
 ·intro b j h;rcases hold b j h with⟨q1,q2⟩|⟨q1,q2⟩
  ·exact hg1.own b j q2
  ·rw[q2];exact⟨cA hg.below.size hkk,_,hk,hok⟩
 ·intro b o ho;simp only[jl,cX] at ho;split at ho
  ·rename_i hbe;injection ho with ho;subst ho
   obtain rfl:n0=b:=ct hbe;exact hob e' hx hid (by simp [e'])
  ·cases ho
 ·intro b o ho _;refine ho.adv hadv (fun k hk ha=>?_);have:=hne b k hk;exact⟨by rw[hal b this];exact ha,hb.block k (hg.lt hk)⟩
theorem ut.drop {n1:Nat}{b:Nat}{ws:Ws D}{e':Env}(h:ut C e w n0 n1 ws e' w'):ut C e w n0 n1 (ws++[(b,.dead)]) e' w':=by
 refine⟨h.le,h.adv,h.new,h.good,fun x o ho=>?_,fun x o ho hn=>?_⟩
 ·rw[yw] at ho;split at ho
  ·rename_i v hv;injection ho with ho;subst ho
   exact h.wrote x _ hv
  ·simp only[jl,cX] at ho;split at ho
   ·injection ho with ho;subst ho;trivial
   ·cases ho
 ·rw[yw] at hn;split at hn
  ·cases hn
  ·rename_i hn';exact h.kept x o ho hn'
theorem left_fn (hg:jr C e w) (hf:um n0 (n0+1) e) {f:FuncId}{pre cap:List A1}{p q:List Value}(hp:up e pre p) (hq:up e cap q) :
 ∃ e',ut C e w n0 (n0+1) [(n0,.clo f pre cap)] e' w/\e'.φ n0=some (.func (.func f) p.toArray q.toArray):=by
 have hn:=(hf n0 (cb _) (Cu _)).2.2
 let e':Env:={ e with φ:=fun x=>if x=n0 then some (.func (.func f) p.toArray q.toArray) else e.φ x }
 have hid:e'.φ n0=some (.func (.func f) p.toArray q.toArray):=by simp [e']
 have hx:Ext e e':=⟨fun _ _ h=>h,fun _ _ _=>rfl,fun _ _ h=>h,fun b k h=>by
  show (if b=n0 then _ else _)=_;rw[cg (fun e0=>by rw[e0,hn] at h;cases h),h]⟩
 have hadv:Adv e w e' w:=⟨hx,cb _,fun k _ hn'=>⟨hn',rfl⟩⟩;refine⟨e',⟨yg _,hadv,⟨fun _ _ h=>.inl h,fun _ _ h=>.inl h,fun b k h=>?_⟩,⟨hg.below,hg.inj,hg.own,hg.fr.adv hadv⟩,?_,?_⟩,hid⟩
 ·by_cases hb:b=n0
  ·right;omega
  ·left;have h:(if b=n0 then some (Value.func (.func f) p.toArray q.toArray) else e.φ b)=some k:=h
   rwa [cg hb] at h
 ·intro b o ho;simp only[jl,cX] at ho;split at ho
  ·rename_i hbe;injection ho with ho;subst ho
   obtain rfl:n0=b:=ct hbe;exact⟨p,q,hid,hp.ext hx,hq.ext hx⟩
  ·cases ho
 ·intro b o ho _;exact ho.adv hadv (fun k _ ha=>⟨ha,rfl⟩)
theorem GL (hg:jr C e w) (hf:um n0 (n0+1) e) {v:Value}{ob:EZ D}(ho:∀ e':Env,Ext e e'->e'.φ n0=some v->kF C e' w n0 ob) :
 ∃ e',ut C e w n0 (n0+1) [(n0,ob)] e' w/\e'.φ n0=some v:=by
 have hn:=(hf n0 (cb _) (Cu _)).2.2
 let e':Env:={ e with φ:=fun x=>if x=n0 then some v else e.φ x }
 have hid:e'.φ n0=some v:=by simp [e']
 have hx:Ext e e':=⟨fun _ _ h=>h,fun _ _ _=>rfl,fun _ _ h=>h,fun b k h=>by
  show (if b=n0 then _ else _)=_;rw[cg (fun e0=>by rw[e0,hn] at h;cases h),h]⟩
 have hadv:Adv e w e' w:=⟨hx,cb _,fun k _ hn'=>⟨hn',rfl⟩⟩;refine⟨e',⟨yg _,hadv,⟨fun _ _ h=>.inl h,fun _ _ h=>.inl h,fun b k h=>?_⟩,⟨hg.below,hg.inj,hg.own,hg.fr.adv hadv⟩,?_,?_⟩,hid⟩
 ·by_cases hb:b=n0
  ·right;omega
  ·left;have h:(if b=n0 then some v else e.φ b)=some k:=h
   rwa [cg hb] at h
 ·intro b o ho';simp only[jl,cX] at ho';split at ho'
  ·rename_i hbe;injection ho' with ho';subst ho'
   obtain rfl:n0=b:=ct hbe;exact ho e' hx hid
  ·cases ho'
 ·intro b o ho' _;exact ho'.adv hadv (fun k _ ha=>⟨ha,rfl⟩)
theorem WP (hC:C.Ok) (hg:jr C e w) {gs:List (Grp D)}{cs:List AC}{ws:Ws D}{n1:Nat}(hm:uV C.csz n0 gs=(cs,ws,n1)) (hf:um n0 n1 e) {vs:List Value}(hr:JE C e w gs vs) :
 ∃ e',ut C e w n0 n1 ws e' w/\cZ e' cs vs:=by
 have hby:=YS hC (W:=fun w''=>uH e w w'') w (uH.refl e w) (fun w'' hk=>hr w'' hk);obtain⟨e',g,hx⟩:=En hm (cb _) (fun y h1 h2=>(hf y h1 h2).2.1) hby;have hadv:Adv e w e' w:=⟨g.ext,cb _,fun k hk hn=>⟨by rw[g.ρ];exact hn,rfl⟩⟩;have hkp:∀ w'',uH e' w w''->uH e w w'':=fun w'' h=>⟨h.size,fun k h1 h2=>h.block k h1 (by rw[g.ρ];exact h2)⟩;refine⟨e',⟨g.le,hadv,⟨fun b k h=>.inl (by rw[← g.ρ];exact h),g.ν,fun b k h=>.inl (by rw[← g.φ];exact h)⟩,⟨hg.below,?_,?_,hg.fr.adv hadv⟩,?_,?_⟩,hx⟩
 ·rw[g.al,g.ρ];exact hg.inj
 ·rw[g.ρ];exact hg.own
 ·intro b o ho;obtain⟨_,d,rfl,f,h1,h2⟩:=g.live b o (uY ho);exact⟨f,h1,fun w'' hk=>h2 w'' (hkp w'' hk)⟩
 ·intro b o ho _;exact ho.adv hadv (fun k hk ha=>⟨by rw[g.al];exact ha,rfl⟩)
theorem chY (hC:C.Ok) (hg:jr C e w) (hb:Below w.heap.size w w') {res:jH D}{x:AV}{ws:Ws D}{n1:Nat}(hm:mkR C.csz n0 res=some (x,ws,n1)) (hf:um n0 n1 e) {v:Value}(hr:cdj C w w' res v) :
 ∃ e',ut C e w n0 n1 ws e' w'/\x.is e' v:=by
 have hg1:=hg.later hb;have hby:=rpat_by hC (W:=fun w''=>uH e w' w'') w' (uH.refl e w') hm (fun w'' hk=>by
  refine hr (fun k=>∃ b,e.ρ b=some k) (fun k hS=>?_) w'' hk.size (fun k hlt hS=>hk.block k hlt (fun b hb=>hS ⟨b,hb⟩));obtain⟨b,hb'⟩:=hS;exact⟨hg.lt hb',(hg1.own b k hb').2⟩)
 obtain⟨e',g,hx⟩:=cjS hm (cb _) (fun y h1 h2=>(hf y h1 h2).2.1) hby;have hadv:Adv e w e' w':=⟨g.ext,hb.size,fun k hk hn=>⟨by rw[g.ρ];exact hn,hb.block k hk⟩⟩;have hkp:∀ w'',uH e' w' w''->uH e w' w'':=fun w'' h=>⟨h.size,fun k h1 h2=>h.block k h1 (by rw[g.ρ];exact h2)⟩;refine⟨e',⟨g.le,hadv,⟨fun b k h=>.inl (by rw[← g.ρ];exact h),g.ν,fun b k h=>.inl (by rw[← g.φ];exact h)⟩,⟨hg1.below,?_,?_,hg.fr.adv hadv⟩,?_,?_⟩,hx⟩
 ·rw[g.al,g.ρ];exact hg1.inj
 ·rw[g.ρ];exact hg1.own
 ·intro b o ho;obtain⟨_,d,rfl,f,h1,h2⟩:=g.live b o (uY ho);exact⟨f,h1,fun w'' hk=>h2 w'' (hkp w'' hk)⟩
 ·intro b o ho _;exact ho.adv hadv (fun k hk ha=>⟨by rw[g.al];exact ha,hb.block k (hg.lt hk)⟩)
end
variable {D:Type}
def ev {α:Type}(P:Program):Sem α->Option α
 |.pure a=>some a
 |.program k=>ev P (k P)
 |.mark _ k=>ev P k
 |_=>none
theorem KR {α:Type}{P:Program}{s:Sem α}{v:α}(h:ev P s=some v) (w:World):s.run P w=.ok v w:=by
 induction s with
 |pure a=>simp [ev] at h;subst h;rfl
 |program k ih=>exact ih P h
 |mark m k ih=>exact ih h
 |_=>simp [ev] at h
def uU (P:Program) (n0:Nat) (s:Sem Value):Option (Out D) :=
 match ev P s with
 |some v=>out n0 (.val (.one (.lit v)))
 |none=>none
def Gg:TypeDesc->Bool
 |.struct _=>true
 |.array _ _=>true
 |_=>false
theorem uu {P:Program}{t:TypeId}{d:TypeDesc}(h:P.underlying t=some d) (w:World):(isAgg t).run P w=.ok (Gg d) w:=by
 cases d<;>simp [isAgg,underlying,h,Gg]
theorem jZ {P:Program}{t:TypeId}{i:TypeInfo}(h:P.info? t=some i) (w:World):(sizeOf t).run P w=.ok i.size w:=by
 simp [sizeOf,typeInfo,h]
def lits:List AC->Option (List Value)
 |[]=>some []
 |.lit v::cs=>match lits cs with
  |some vs=>some (v::vs)
  |none=>none
 |_::_=>none
theorem ckM {e:Env}:∀ {cs:List AC}{vs us:List Value},lits cs=some vs->cZ e cs us->us=vs
 |[],vs,us,h,hc=>by simp [lits] at h;subst h;exact hc
 |c::cs,vs,us,h,⟨v,ws,h1,h2,h3⟩=>by
  unfold lits at h;split at h
  ·rename_i h0;cases h0
  ·rename_i v' cs' h0;injection h0 with h0 h0';subst h0;subst h0'
   split at h
   ·rename_i vs' hv;injection h with h;subst h
    rw[h1,show v=v' from h2,ckM hv h3]
   ·cases h
  ·cases h
def Kw?:Option AV->Option Value
 |some (.val (.one (.lit v)))=>some v
 |some (.val (.agg cs))=>match lits cs with
  |some vs=>some (.agg vs.toArray)
  |none=>none
 |_=>none
theorem Gm {e:Env}{a:Act}{V:jv}(hV:jD e a V) {x:Operand}{v:Value}(h:Kw? (cG V x)=some v):a.eval x=v:=by
 unfold Kw? at h;split at h
 ·rename_i hx;injection h with h;subst h
  exact cV hV hx
 ·rename_i cs hx;split at h
  ·rename_i vs hvs;injection h with h;subst h
   obtain⟨us,h1,h2⟩:=cV hV hx;rw[h2,ckM hvs h1]
  ·cases h
 ·cases h
def zD (S:Stat D) (n0:Nat) (t:Nat) (cs:List AC) (z:Option Nat) (x:AC):Option (Out D) :=
 match S.okT t with
 |true=>some ⟨.val (.one x),[(n0,.blk t cs z)],n0+1,[]⟩
 |false=>none
def ky (M:cR D):AC->Bool
 |.lit v=>v.oneCell'
 |.fn c=>match M c with
  |some (.clo ..)=>true
  |some (.gl ..)=>true
  |some (.ep ..)=>true
  |some (.cp ..)=>true
  |some (.mp ..)=>true
  |_=>false
 |_=>true
def CQ (f:AC->Bool):List AC->Bool
 |[]=>true
 |c::cs=>match f c with
  |true=>CQ f cs
  |false=>false
def A1.cells:A1->List AC
 |.one c=>[c]
 |.agg cs=>cs
def Ym (P:Program) (M:cR D) (t:TypeId) (b o:Nat):Option A1 :=
 match P.underlying t with
 |none=>none
 |some d=>match Gg d with
  |true=>match P.info? t with
   |some i=>match EN M b o i.size with
    |some (_,cs)=>some (.agg cs)
    |none=>none
   |none=>none
  |false=>match EN M b o 1 with
   |some (_,[c])=>some (.one c)
   |_=>none
def cab (S:Stat D) (M:cR D) (n0:Nat) (t:TypeId) (b o:Nat) (cs:List AC):Option (Out D) :=
 match S.P.info? t with
 |none=>none
 |some i=>match Nat.beq cs.length i.size with
  |false=>none
  |true=>match CQ (ky M) cs with
   |false=>none
   |true=>match M b with
    |some (.blk ty ds z)=>match Nat.ble (o+cs.length) ds.length with
     |false=>none
     |true=>some ⟨KU,[(b,.blk ty (ds.take o++(cs++ds.drop (o+cs.length))) z)],n0,[]⟩
    |_=>none
def Cn (P:Program) (s f:Nat):Option Field :=
 match P.underlying s with
 |some (.struct fields)=>fields[f]?
 |_=>none
def Ui (S:Stat D) (V:jv) (M:cR D) (fs:List Field):List (Nat×Operand)->List AC->Option (List AC)
 |[],cs=>some cs
 |(i,x)::l,cs=>match fs[i]? with
  |some f=>match S.P.info? f.type with
   |some j=>match cG V x with
    |some (.val y)=>match CQ (ky M) y.cells with
     |true=>match Nat.beq y.cells.length j.size with
      |true=>match Nat.ble (f.offset+y.cells.length) cs.length with
       |true=>Ui S V M fs l (cs.take f.offset++y.cells++cs.drop (f.offset+y.cells.length))
       |false=>none
      |false=>none
     |false=>none
    |_=>none
   |none=>none
  |none=>none
def Ja (S:Stat D) (V:jv) (M:cR D) (z n:Nat):Nat->List (Nat×Operand)->Option (List AC)
 |_,[]=>some []
 |j,(i,x)::l=>match Nat.beq i j with
  |true=>match cG V x with
   |some (.val y)=>match CQ (ky M) y.cells with
    |true=>match Nat.beq y.cells.length z with
     |true=>match Ja S V M z n (j+1) l with
      |some cs=>some (y.cells++cs)
      |none=>none
     |false=>none
    |false=>none
   |_=>none
  |false=>none
def bsA (S:Stat D) (V:jv) (M:cR D) (n0:Nat) (t:TypeId) (n:Nat) (parts:Array (Nat×Operand)):Option (Out D) :=
 match EA S.P t with
 |some (e,i)=>match i.zero with
  |some _=>match i.size with
   |0=>none
   |z+1=>match Nat.ble (n*(z+1)) 16777216 with
    |false=>none
    |true=>match Nat.blt 0 n with
     |false=>none
     |true=>match Ja S V M (z+1) n 0 parts.toList with
      |some cs=>match Nat.beq parts.toList.length n with
       |true=>zD S n0 e cs none (.slc n0 0 n n)
       |false=>none
      |none=>none
  |none=>none
 |none=>none
def repl (zs:List AC):Nat->List AC
 |0=>[]
 |n+1=>zs++repl zs n
def mkA (S:Stat D) (n0:Nat) (t:TypeId):Option Value->Option Value->Option (Out D)
 |some (.int _ (.ofNat l)),some (.int _ (.ofNat c))=>match EA S.P t with
  |some (e,i)=>match i.zero with
   |some z=>match Nat.beq z.cells.size i.size,Nat.ble l c,Nat.ble c 1000000,Nat.ble i.bytes 1000 with
    |true,true,true,true=>zD S n0 e (repl (z.cells.toList.map .lit) c) none (.slc n0 0 l c)
    |_,_,_,_=>none
   |none=>none
  |none=>none
 |_,_=>none
def EM (M:cR D) (z:Nat):Option AV->Option (Nat×List AC)
 |some (.val (.one (.slc b o n _)))=>match EN M b o (n*z) with
  |some (_,cs)=>some (n,cs)
  |none=>none
 |some (.val (.one (.gsl b n)))=>match EN M b 0 (n*z) with
  |some (_,cs)=>some (n,cs)
  |none=>none
 |some (.val (.one (.gso b i s n)))=>match EN M b (i*s) (n*z) with
  |some (_,cs)=>some (n,cs)
  |none=>none
 |_=>none
def WZ (S:Stat D) (M:cR D) (n0:Nat) (ats:List Nat) (s:AV) (x:Option AV):Option (Out D) :=
 match ats with
 |[t,t']=>match Nat.beq t t',EA S.P t with
  |true,some (e,i)=>match i.zero with
   |some z0=>match Nat.beq z0.cells.size i.size,Nat.blt 0 i.size,Nat.ble i.bytes 1000,EM M i.size x with
    |true,true,true,some (m,news)=>match Nat.blt 0 m,Nat.ble m 1000000,CQ (ky M) news with
     |true,true,true=>match s with
      |.val (.one (.lit (.slice none 0 0)))=>zD S n0 e news (some i.size) (.gsl n0 m)
      |.val (.one (.slc b o n c))=>match Nat.ble n 1000000 with
       |true=>match Nat.ble (n+m) c with
        |true=>match Nat.beq o 0,M b with
         |true,some (.blk ty ds z)=>match Nat.ble ((n+m)*i.size) ds.length,Nat.beq ty e with
          |true,true=>some ⟨.val (.one (.slc b 0 (n+m) c)),[(b,.blk ty (ds.take (n*i.size)++(news++ds.drop (n*i.size+news.length))) z)],n0,[]⟩
          |_,_=>none
         |_,_=>none
        |false=>match EN M b o (n*i.size) with
         |some (_,olds)=>zD S n0 e (olds++news) (some i.size) (.gsl n0 (n+m))
         |none=>none
       |false=>none
      |.val (.one (.gsl b n))=>match Nat.ble n 1000000,M b with
       |true,some (.blk ty ds (some z))=>match Nat.beq ds.length (n*i.size),Nat.beq ty e,Nat.beq z i.size,S.okT e with
        |true,true,true,true=>some ⟨.val (.one (.gsl n0 (n+m))),[(n0,.blk e (ds++news) (some i.size)),(b,.dead)],n0+1,[]⟩
        |_,_,_,_=>none
       |_,_=>none
      |_=>none
     |_,_,_=>none
    |_,_,_,_=>none
   |none=>none
  |_,_=>none
 |_=>none
def slc?:Option AV->Option (Nat×Nat×Nat)
 |some (.val (.one (.slc b o n _)))=>some (b,o,n)
 |some (.val (.one (.gsl b n)))=>some (b,0,n)
 |some (.val (.one (.gso b i z n)))=>some (b,i*z,n)
 |_=>none
def caw (S:Stat D) (M:cR D) (n0:Nat) (ats:List Nat) (x:Option AV):Option (Out D) :=
 match ats with
 |[t]=>match EA S.P t,slc? x with
  |some (_,i),some (b,o,n)=>match i.zero,M b with
   |some z0,some (.blk ty ds z)=>match Nat.beq z0.cells.size i.size,Nat.ble (o+n*i.size) ds.length,CQ (ky M) (z0.cells.toList.map .lit),Nat.blt 0 n with
    |true,true,true,true=>some ⟨.tup [],[(b,.blk ty (ds.take o++(repl (z0.cells.toList.map .lit) n++ds.drop (o+n*i.size))) z)],n0,[]⟩
    |_,_,_,_=>none
   |_,_=>none
  |_,_=>none
 |_=>none
def cjv:Option Value->Option Nat
 |some (.int _ (.ofNat n))=>some n
 |_=>none
def Ep (V:jv):Option Operand->Option (Option Nat)
 |none=>some none
 |some x=>match cjv (lit? (cG V x)) with
  |some n=>some (some n)
  |none=>none
def ZH (S:Stat D) (V:jv) (M:cR D) (n0:Nat) (t:TypeId) (x:Option AV) (lo hi mx:Option Operand):Option (Out D) :=
 match EA S.P t,Ep V lo,Ep V hi,Ep V mx with
 |some (_,i),some l?,some h?,some m?=>match x with
  |some (.val (.one (.slc b o n c))) =>
   match m?,h? with
   |some _,none=>none
   |_,_ =>
    match Nat.ble (l?.getD 0) (h?.getD n),Nat.ble (h?.getD n) (m?.getD c),Nat.ble (m?.getD c) c with
    |true,true,true=>match Nat.beq (m?.getD c) (l?.getD 0) with
     |true=>out n0 (.val (.one (.slc b o (h?.getD n-l?.getD 0) (m?.getD c-l?.getD 0))))
     |false=>out n0 (.val (.one (.slc b (o+l?.getD 0*i.size) (h?.getD n-l?.getD 0) (m?.getD c-l?.getD 0))))
    |_,_,_=>none
  |some (.val (.one (.gsl b n)))=>match m? with
   |some m=>match Nat.beq (l?.getD 0) 0,Nat.beq (h?.getD 1) 0,Nat.beq m 0 with
    |true,true,true=>out n0 (.val (.one (.slc b 0 0 0)))
    |_,_,_=>none
   |none=>match Nat.beq (l?.getD 0) 0,Nat.ble (h?.getD n) n with
    |true,true=>match M b with
     |some (.blk _ cs (some z))=>match Nat.ble ((h?.getD n)*z) cs.length,Nat.blt 0 z with
      |true,true=>out n0 (.val (.one (.gsl b (h?.getD n))))
      |_,_=>none
     |_=>none
    |false,true=>match Nat.blt (l?.getD 0) (h?.getD n),M b with
     |true,some (.blk _ cs (some z))=>match Nat.ble ((h?.getD n)*z) cs.length,Nat.beq z i.size,Nat.blt 0 z with
      |true,true,true=>out n0 (.val (.one (.gso b (l?.getD 0) i.size (h?.getD n-l?.getD 0))))
      |_,_,_=>none
     |_,_=>none
    |_,_=>none
  |_=>none
 |_,_,_,_=>none
theorem ZW {e:Env}{a:Act}{V:jv}(hV:jD e a V) {x:Operand}{b o n:Nat}(h:slc? (cG V x)=some (b,o,n)) :
 ∃ k c,e.ρ b=some k/\a.eval x=.slice (some ⟨k,o,none⟩) n c:=by
 unfold slc? at h;split at h
 ·rename_i hx;injection h with h;simp only[cr] at h;obtain⟨h1,h2,h3⟩:=h;subst h1;subst h2;subst h3
  obtain⟨k,h1,h2⟩:=cV hV hx;exact⟨k,_,h1,h2⟩
 ·rename_i hx;injection h with h;simp only[cr] at h;obtain⟨h1,h2,h3⟩:=h;subst h1;subst h2;subst h3
  obtain⟨k,h1,h2⟩:=cV hV hx;exact⟨k,_,h1,h2⟩
 ·rename_i hx;injection h with h;simp only[cr] at h;obtain⟨h1,h2,h3⟩:=h;subst h1;subst h2;subst h3
  obtain⟨k,h1,h2⟩:=cV hV hx;exact⟨k,_,h1,h2⟩
 ·cases h
def EC (S:Stat D) (T:Tab D) (V:jv) (M:cR D) (n0 d:Nat) (h:Hd) (xs:List Operand):Option (Out D) :=
 match T d h with
 |none=>none
 |some F=>match Et V xs with
  |some l=>match YN S M l with
   |some ps=>match F ps with
    |some (res,ob)=>match mkR S.csz n0 res with
     |some (x,ws,n1)=>some ⟨x,ws,n1,ob⟩
     |none=>none
    |none=>none
   |none=>none
  |none=>none
def ccH:List AV->Option (List Value)
 |[]=>some []
 |.val (.one (.lit v))::l=>match ccH l with
  |some vs=>some (v::vs)
  |none=>none
 |_=>none
def memA (S:Stat D) (T:Tab D) (M:cR D) (n0 d:Nat) (f:FuncId) (l:List AV):Option (Out D) :=
 match T d (.mem f),l with
 |some F,.val (.one (.fn b))::more=>match M b,ccH more with
  |some (.gl ty z n g),some vs=>match F (.one (.cls (S.mkL ⟨S.lo,ty,z,n,g⟩))::ckV vs) with
   |some (.val (.one (.cls d')),ob)=>match S.unL d',S.okT ty with
    |some L',true=>some ⟨.tup [],[(b,.gl ty z n L'.g)],n0,(0<n)::(L'.n=n)::ob⟩
    |_,_=>none
   |_=>none
  |_,_=>none
 |_,_=>none
def caY (S:Stat D) (T:Tab D) (CF:cN D) (M:cR D) (n0 d:Nat) (f:FuncId) (l:List AV):Option (Out D) :=
 match memA S T M n0 d f l with
 |some r=>some r
 |none=>match T d (.call f) with
 |some F=>match YN S M l with
  |some ps=>match F ps with
   |some (res,ob)=>match mkR S.csz n0 res with
    |some (x,ws,n1)=>some ⟨x,ws,n1,ob⟩
    |none=>none
   |none=>none
  |none=>none
 |none=>CF M n0 f l
def a1s:List AV->Option (List A1)
 |[]=>some []
 |.val a::l=>match a1s l with
  |some bs=>some (a::bs)
  |none=>none
 |.tup _::_=>none
def cbO (S:Stat D) (T:Tab D) (CF YF:cN D) (V:jv) (M:cR D) (n0:Nat) (o:Oper):Option (Out D) :=
 let d:=o.dst.getD 0
 match o.op with
 |.move x=>match cG V x with
  |some v=>out n0 v
  |none=>none
 |.assign x=>match cG V x with
  |some v=>out n0 v
  |none=>none
 |.pick c x y=>match lit? (cG V c) with
  |some (.bool true)=>match cG V x with
   |some v=>out n0 v
   |none=>none
  |some (.bool false)=>match cG V y with
   |some v=>out n0 v
   |none=>none
  |_=>none
 |.alloc t=>match S.P.info? t with
  |some i=>match i.zero with
   |some z=>zD S n0 t (z.cells.toList.map .lit) none (.ptr n0 0)
   |none=>none
  |none=>none
 |.box t x=>match cG V x with
  |some (.val a)=>match CQ (ky M) a.cells with
   |true=>zD S n0 t a.cells none (.ptr n0 0)
   |false=>none
  |_=>none
 |.build t parts=>match S.P.info? t with
  |some i=>match i.zero with
   |some z=>match S.P.underlying t with
    |some (.struct fs)=>match fs.toList.all (fun f=>(S.P.info? f.type).isSome) with
     |true=>match Ui S V M fs.toList parts.toList (z.cells.toList.map .lit) with
      |some cs=>out n0 (.val (.agg cs))
      |none=>none
     |false=>none
    |_=>none
   |none=>none
  |none=>none
 |.load t x=>match ptr? (cG V x) with
  |some (b,p)=>match Ym S.P M t b p with
   |some y=>out n0 (.val y)
   |none=>none
  |none=>EC S T V M n0 d (.ld t) [x]
 |.store t x y=>match ptr? (cG V x) with
  |some (b,p)=>match cG V y with
   |some (.val a)=>cab S M n0 t b p a.cells
   |_=>none
  |none=>none
 |.nilCheck x=>match cG V x with
  |some (.val (.one (.ptr b p)))=>out n0 (.val (.one (.ptr b p)))
  |some (.val (.one (.fn c)))=>match M c with
   |some (.clo ..)=>out n0 (.val (.one (.fn c)))
   |_=>none
  |some (.val (.one (.lit (.func (.func f) a b))))=>out n0 (.val (.one (.lit (.func (.func f) a b))))
  |_=>none
 |.binOp op t x y _=>match EC S T V M n0 d (.bin op t) [x,y] with
  |some r=>some r
  |none=>match Kw? (cG V x),Kw? (cG V y) with
   |some vx,some vy=>uU S.P n0 (do eqGuard op t x y vx vy;binOp op t vx vy)
   |_,_=>none
 |.unOp op t x=>match EC S T V M n0 d (.un op t) [x] with
  |some r=>some r
  |none=>match lit? (cG V x) with
   |some vx=>uU S.P n0 (Op.unary op vx)
   |none=>none
 |.convert s t x=>match EC S T V M n0 d (.cv s t) [x] with
  |some r=>some r
  |none=>match lit? (cG V x) with
   |some vx=>uU S.P n0 (convert s t vx)
   |none=>none
 |.slice t x lo hi mx=>match ZH S V M n0 t (cG V x) lo hi mx with
  |some r=>some r
  |none=>match lit? (cG V x),mx with
   |some vx,none=>match (lo.map fun y=>lit? (cG V y)),(hi.map fun y=>lit? (cG V y)) with
    |some (some vl),some (some vh)=>uU S.P n0 (Instr.sliceAt t vx (some vl) (some vh) none)
    |some (some vl),none=>uU S.P n0 (Instr.sliceAt t vx (some vl) none none)
    |none,some (some vh)=>uU S.P n0 (Instr.sliceAt t vx none (some vh) none)
    |none,none=>uU S.P n0 (Instr.sliceAt t vx none none none)
    |_,_=>none
   |_,_=>EC S T V M n0 d (.sl t lo.isSome hi.isSome mx.isSome) (x::(lo.toList++hi.toList++mx.toList))
 |.makeSlice t l c=>match mkA S n0 t (lit? (cG V l)) (lit? (cG V c)) with
  |some r=>some r
  |none=>EC S T V M n0 d (.mk t) [l,c]
 |.index t x i=>match Kw? (cG V x),lit? (cG V i) with
  |some vx,some vi=>uU S.P n0 (Instr.index t vx vi)
  |_,_=>EC S T V M n0 d (.si t) [x,i]
 |.fieldAddr s x f=>match ptr? (cG V x) with
  |some (b,p)=>match Cn S.P s f with
   |some fl=>match S.P.info? fl.type with
    |some i=>match i.size with
     |0=>none
     |_+1=>out n0 (.val (.one (.ptr b (p+fl.offset))))
    |none=>none
   |none=>none
  |none=>EC S T V M n0 d (.fa s f) [x]
 |.makeFunc (.func f) first cap=>match Et V first.toList,Et V cap.toList with
  |some xs,some ys=>match a1s xs,a1s ys with
   |some ps,some qs=>some ⟨.val (.one (.fn n0)),[(n0,.clo f ps qs)],n0+1,[]⟩
   |_,_=>none
  |_,_=>none
 |.field t x f=>match cG V x with
  |some (.val (.agg cs))=>match Cn S.P t f with
   |some fl=>match S.P.underlying fl.type with
    |some d=>match Gg d with
     |true=>match S.P.info? fl.type with
      |some i=>out n0 (.val (.agg ((cs.drop fl.offset).take i.size)))
      |none=>none
     |false=>match cs[fl.offset]? with
      |some c=>out n0 (.val (.one c))
      |none=>none
    |none=>none
   |none=>none
  |_=>none
 |.extract x i=>match cG V x with
  |some (.tup l)=>match l[i]? with
   |some y=>out n0 (.val y)
   |none=>none
  |_=>none
 |.buildSlice t n parts=>bsA S V M n0 t n parts
 |.indexAddr t x i=>match slc? (cG V x),lit? (cG V i),S.P.underlying t with
  |some (b,p,n),some (.int .i64 (.ofNat j)),some (.slice e)=>match Nat.blt j n with
   |true=>match S.P.info? e with
    |some inf=>out n0 (.val (.one (.ptr b (p+j*inf.size))))
    |none=>none
   |false=>none
  |_,_,_=>EC S T V M n0 d (.ix t) [x,i]
 |.call c=>match c.callee with
  |.value fo=>match cG V fo,Et V c.args.toList with
   |some (.val (.one (.lit (.func (.func f) ⟨[]⟩ ⟨[]⟩)))),some l=>caY S T CF M n0 d f l
   |some (.val (.one (.fn k))),some l=>match M k with
    |some (.clo f ps qs)=>caY S T CF M n0 d f (uB ps++(l++uB qs))
    |_=>none
   |some (.val (.one (.yld k))),some l=>YF M n0 k l
   |_,_=>none
  |.builtin .len=>match c.args.toList with
   |[x]=>match slc? (cG V x),c.argTypes[0]? with
    |some (_,_,n),some t=>match S.P.underlying t with
     |some (.slice _)=>out n0 (.val (.one (.lit (goInt n))))
     |_=>none
    |_,_=>match Kw? (cG V x) with
     |some vx=>uU S.P n0 (Builtin.len_ c.argTypes o.type #[vx])
     |none=>EC S T V M n0 d (.blt .len c.argTypes.toList o.type) [x]
   |_=>none
  |.builtin .append=>match c.args.toList with
   |[s,x]=>match cG V s with
    |some y=>WZ S M n0 c.argTypes.toList y (cG V x)
    |none=>none
   |_=>none
  |.builtin .clear=>match c.args.toList with
   |[x]=>caw S M n0 c.argTypes.toList (cG V x)
   |_=>none
  |.builtin b=>EC S T V M n0 d (.blt b c.argTypes.toList o.type) c.args.toList
  |_=>none
 |_=>none
def opAlt0 (S:Stat D) (T:Tab D) (CF YF:cN D) (V:jv) (M:cR D) (n0:Nat) (d:Nat) (o:Oper):Option (Out D):=match o.op with
 |.move x=>match cG V x with
  |some v=>out n0 v
  |none=>none
 |_=>none
def opAlt1 (S:Stat D) (T:Tab D) (CF YF:cN D) (V:jv) (M:cR D) (n0:Nat) (d:Nat) (o:Oper):Option (Out D):=match o.op with
 |.assign x=>match cG V x with
  |some v=>out n0 v
  |none=>none
 |_=>none
def opAlt2 (S:Stat D) (T:Tab D) (CF YF:cN D) (V:jv) (M:cR D) (n0:Nat) (d:Nat) (o:Oper):Option (Out D):=match o.op with
 |.pick c x y=>match lit? (cG V c) with
  |some (.bool true)=>match cG V x with
   |some v=>out n0 v
   |none=>none
  |some (.bool false)=>match cG V y with
   |some v=>out n0 v
   |none=>none
  |_=>none
 |_=>none
def opAlt3 (S:Stat D) (T:Tab D) (CF YF:cN D) (V:jv) (M:cR D) (n0:Nat) (d:Nat) (o:Oper):Option (Out D):=match o.op with
 |.alloc t=>match S.P.info? t with
  |some i=>match i.zero with
   |some z=>zD S n0 t (z.cells.toList.map .lit) none (.ptr n0 0)
   |none=>none
  |none=>none
 |_=>none
def opAlt4 (S:Stat D) (T:Tab D) (CF YF:cN D) (V:jv) (M:cR D) (n0:Nat) (d:Nat) (o:Oper):Option (Out D):=match o.op with
 |.box t x=>match cG V x with
  |some (.val a)=>match CQ (ky M) a.cells with
   |true=>zD S n0 t a.cells none (.ptr n0 0)
   |false=>none
  |_=>none
 |_=>none
def opAlt5 (S:Stat D) (T:Tab D) (CF YF:cN D) (V:jv) (M:cR D) (n0:Nat) (d:Nat) (o:Oper):Option (Out D):=match o.op with
 |.build t parts=>match S.P.info? t with
  |some i=>match i.zero with
   |some z=>match S.P.underlying t with
    |some (.struct fs)=>match fs.toList.all (fun f=>(S.P.info? f.type).isSome) with
     |true=>match Ui S V M fs.toList parts.toList (z.cells.toList.map .lit) with
      |some cs=>out n0 (.val (.agg cs))
      |none=>none
     |false=>none
    |_=>none
   |none=>none
  |none=>none
 |_=>none
def opAlt6 (S:Stat D) (T:Tab D) (CF YF:cN D) (V:jv) (M:cR D) (n0:Nat) (d:Nat) (o:Oper):Option (Out D):=match o.op with
 |.load t x=>match ptr? (cG V x) with
  |some (b,p)=>match Ym S.P M t b p with
   |some y=>out n0 (.val y)
   |none=>none
  |none=>EC S T V M n0 d (.ld t) [x]
 |_=>none
def opAlt7 (S:Stat D) (T:Tab D) (CF YF:cN D) (V:jv) (M:cR D) (n0:Nat) (d:Nat) (o:Oper):Option (Out D):=match o.op with
 |.store t x y=>match ptr? (cG V x) with
  |some (b,p)=>match cG V y with
   |some (.val a)=>cab S M n0 t b p a.cells
   |_=>none
  |none=>none
 |_=>none
def opAlt8 (S:Stat D) (T:Tab D) (CF YF:cN D) (V:jv) (M:cR D) (n0:Nat) (d:Nat) (o:Oper):Option (Out D):=match o.op with
 |.nilCheck x=>match cG V x with
  |some (.val (.one (.ptr b p)))=>out n0 (.val (.one (.ptr b p)))
  |some (.val (.one (.fn c)))=>match M c with
   |some (.clo ..)=>out n0 (.val (.one (.fn c)))
   |_=>none
  |some (.val (.one (.lit (.func (.func f) a b))))=>out n0 (.val (.one (.lit (.func (.func f) a b))))
  |_=>none
 |_=>none
def opAlt9 (S:Stat D) (T:Tab D) (CF YF:cN D) (V:jv) (M:cR D) (n0:Nat) (d:Nat) (o:Oper):Option (Out D):=match o.op with
 |.binOp op t x y _=>match EC S T V M n0 d (.bin op t) [x,y] with
  |some r=>some r
  |none=>match Kw? (cG V x),Kw? (cG V y) with
   |some vx,some vy=>uU S.P n0 (do eqGuard op t x y vx vy;binOp op t vx vy)
   |_,_=>none
 |_=>none
def opAlt10 (S:Stat D) (T:Tab D) (CF YF:cN D) (V:jv) (M:cR D) (n0:Nat) (d:Nat) (o:Oper):Option (Out D):=match o.op with
 |.unOp op t x=>match EC S T V M n0 d (.un op t) [x] with
  |some r=>some r
  |none=>match lit? (cG V x) with
   |some vx=>uU S.P n0 (Op.unary op vx)
   |none=>none
 |_=>none
def opAlt11 (S:Stat D) (T:Tab D) (CF YF:cN D) (V:jv) (M:cR D) (n0:Nat) (d:Nat) (o:Oper):Option (Out D):=match o.op with
 |.convert s t x=>match EC S T V M n0 d (.cv s t) [x] with
  |some r=>some r
  |none=>match lit? (cG V x) with
   |some vx=>uU S.P n0 (convert s t vx)
   |none=>none
 |_=>none
def opAlt12 (S:Stat D) (T:Tab D) (CF YF:cN D) (V:jv) (M:cR D) (n0:Nat) (d:Nat) (o:Oper):Option (Out D):=match o.op with
 |.slice t x lo hi mx=>match ZH S V M n0 t (cG V x) lo hi mx with
  |some r=>some r
  |none=>match lit? (cG V x),mx with
   |some vx,none=>match (lo.map fun y=>lit? (cG V y)),(hi.map fun y=>lit? (cG V y)) with
    |some (some vl),some (some vh)=>uU S.P n0 (Instr.sliceAt t vx (some vl) (some vh) none)
    |some (some vl),none=>uU S.P n0 (Instr.sliceAt t vx (some vl) none none)
    |none,some (some vh)=>uU S.P n0 (Instr.sliceAt t vx none (some vh) none)
    |none,none=>uU S.P n0 (Instr.sliceAt t vx none none none)
    |_,_=>none
   |_,_=>EC S T V M n0 d (.sl t lo.isSome hi.isSome mx.isSome) (x::(lo.toList++hi.toList++mx.toList))
 |_=>none
def opAlt13 (S:Stat D) (T:Tab D) (CF YF:cN D) (V:jv) (M:cR D) (n0:Nat) (d:Nat) (o:Oper):Option (Out D):=match o.op with
 |.makeSlice t l c=>match mkA S n0 t (lit? (cG V l)) (lit? (cG V c)) with
  |some r=>some r
  |none=>EC S T V M n0 d (.mk t) [l,c]
 |_=>none
def opAlt14 (S:Stat D) (T:Tab D) (CF YF:cN D) (V:jv) (M:cR D) (n0:Nat) (d:Nat) (o:Oper):Option (Out D):=match o.op with
 |.index t x i=>match Kw? (cG V x),lit? (cG V i) with
  |some vx,some vi=>uU S.P n0 (Instr.index t vx vi)
  |_,_=>EC S T V M n0 d (.si t) [x,i]
 |_=>none
def opAlt15 (S:Stat D) (T:Tab D) (CF YF:cN D) (V:jv) (M:cR D) (n0:Nat) (d:Nat) (o:Oper):Option (Out D):=match o.op with
 |.fieldAddr s x f=>match ptr? (cG V x) with
  |some (b,p)=>match Cn S.P s f with
   |some fl=>match S.P.info? fl.type with
    |some i=>match i.size with
     |0=>none
     |_+1=>out n0 (.val (.one (.ptr b (p+fl.offset))))
    |none=>none
   |none=>none
  |none=>EC S T V M n0 d (.fa s f) [x]
 |_=>none
def opAlt16 (S:Stat D) (T:Tab D) (CF YF:cN D) (V:jv) (M:cR D) (n0:Nat) (d:Nat) (o:Oper):Option (Out D):=match o.op with
 |.makeFunc (.func f) first cap=>match Et V first.toList,Et V cap.toList with
  |some xs,some ys=>match a1s xs,a1s ys with
   |some ps,some qs=>some ⟨.val (.one (.fn n0)),[(n0,.clo f ps qs)],n0+1,[]⟩
   |_,_=>none
  |_,_=>none
 |_=>none
def opAlt17 (S:Stat D) (T:Tab D) (CF YF:cN D) (V:jv) (M:cR D) (n0:Nat) (d:Nat) (o:Oper):Option (Out D):=match o.op with
 |.field t x f=>match cG V x with
  |some (.val (.agg cs))=>match Cn S.P t f with
   |some fl=>match S.P.underlying fl.type with
    |some d=>match Gg d with
     |true=>match S.P.info? fl.type with
      |some i=>out n0 (.val (.agg ((cs.drop fl.offset).take i.size)))
      |none=>none
     |false=>match cs[fl.offset]? with
      |some c=>out n0 (.val (.one c))
      |none=>none
    |none=>none
   |none=>none
  |_=>none
 |_=>none
def opAlt18 (S:Stat D) (T:Tab D) (CF YF:cN D) (V:jv) (M:cR D) (n0:Nat) (d:Nat) (o:Oper):Option (Out D):=match o.op with
 |.extract x i=>match cG V x with
  |some (.tup l)=>match l[i]? with
   |some y=>out n0 (.val y)
   |none=>none
  |_=>none
 |_=>none
def opAlt19 (S:Stat D) (T:Tab D) (CF YF:cN D) (V:jv) (M:cR D) (n0:Nat) (d:Nat) (o:Oper):Option (Out D):=match o.op with
 |.buildSlice t n parts=>bsA S V M n0 t n parts
 |_=>none
def opAlt20 (S:Stat D) (T:Tab D) (CF YF:cN D) (V:jv) (M:cR D) (n0:Nat) (d:Nat) (o:Oper):Option (Out D):=match o.op with
 |.indexAddr t x i=>match slc? (cG V x),lit? (cG V i),S.P.underlying t with
  |some (b,p,n),some (.int .i64 (.ofNat j)),some (.slice e)=>match Nat.blt j n with
   |true=>match S.P.info? e with
    |some inf=>out n0 (.val (.one (.ptr b (p+j*inf.size))))
    |none=>none
   |false=>none
  |_,_,_=>EC S T V M n0 d (.ix t) [x,i]
 |_=>none
def opCallV (S:Stat D) (T:Tab D) (CF YF:cN D) (V:jv) (M:cR D) (n0:Nat) (d:Nat) (c:Call):Option (Out D):=match c.callee with
 |.value fo=>match cG V fo,Et V c.args.toList with
  |some (.val (.one (.lit (.func (.func f) ⟨[]⟩ ⟨[]⟩)))),some l=>caY S T CF M n0 d f l
  |some (.val (.one (.fn k))),some l=>match M k with
   |some (.clo f ps qs)=>caY S T CF M n0 d f (uB ps++(l++uB qs))
   |_=>none
  |some (.val (.one (.yld k))),some l=>YF M n0 k l
  |_,_=>none
 |_=>none
def opCallB (S:Stat D) (T:Tab D) (CF YF:cN D) (V:jv) (M:cR D) (n0:Nat) (d:Nat) (o:Oper) (c:Call):Option (Out D):=match c.callee with
 |.builtin .len=>match c.args.toList with
  |[x]=>match slc? (cG V x),c.argTypes[0]? with
   |some (_,_,n),some t=>match S.P.underlying t with
    |some (.slice _)=>out n0 (.val (.one (.lit (goInt n))))
    |_=>none
   |_,_=>match Kw? (cG V x) with
    |some vx=>uU S.P n0 (Builtin.len_ c.argTypes o.type #[vx])
    |none=>EC S T V M n0 d (.blt .len c.argTypes.toList o.type) [x]
  |_=>none
 |.builtin .append=>match c.args.toList with
  |[s,x]=>match cG V s with
   |some y=>WZ S M n0 c.argTypes.toList y (cG V x)
   |none=>none
  |_=>none
 |.builtin .clear=>match c.args.toList with
  |[x]=>caw S M n0 c.argTypes.toList (cG V x)
  |_=>none
 |.builtin b=>EC S T V M n0 d (.blt b c.argTypes.toList o.type) c.args.toList
 |_=>none
def Ge (S:Stat D) (T:Tab D) (CF YF:cN D) (V:jv) (M:cR D) (n0:Nat) (o:Oper):Option (Out D):=match o.dst.getD 0 with
 |d=>match o.op with
  |.move ..=>opAlt0 S T CF YF V M n0 d o
  |.assign ..=>opAlt1 S T CF YF V M n0 d o
  |.pick ..=>opAlt2 S T CF YF V M n0 d o
  |.alloc ..=>opAlt3 S T CF YF V M n0 d o
  |.box ..=>opAlt4 S T CF YF V M n0 d o
  |.build ..=>opAlt5 S T CF YF V M n0 d o
  |.load ..=>opAlt6 S T CF YF V M n0 d o
  |.store ..=>opAlt7 S T CF YF V M n0 d o
  |.nilCheck ..=>opAlt8 S T CF YF V M n0 d o
  |.binOp ..=>opAlt9 S T CF YF V M n0 d o
  |.unOp ..=>opAlt10 S T CF YF V M n0 d o
  |.convert ..=>opAlt11 S T CF YF V M n0 d o
  |.slice ..=>opAlt12 S T CF YF V M n0 d o
  |.makeSlice ..=>opAlt13 S T CF YF V M n0 d o
  |.index ..=>opAlt14 S T CF YF V M n0 d o
  |.fieldAddr ..=>opAlt15 S T CF YF V M n0 d o
  |.makeFunc (.func _) _ _=>opAlt16 S T CF YF V M n0 d o
  |.field ..=>opAlt17 S T CF YF V M n0 d o
  |.extract ..=>opAlt18 S T CF YF V M n0 d o
  |.buildSlice ..=>opAlt19 S T CF YF V M n0 d o
  |.indexAddr ..=>opAlt20 S T CF YF V M n0 d o
  |.call c=>match c.callee with
   |.value _=>opCallV S T CF YF V M n0 d c
   |.builtin _=>opCallB S T CF YF V M n0 d o c
   |_=>none
  |_=>none
theorem cao (S:Stat D) (T:Tab D) (CF YF:cN D) (V:jv) (M:cR D) (n0:Nat) (o:Oper):Ge S T CF YF V M n0 o=cbO S T CF YF V M n0 o:=by
 obtain⟨dst,op,ty,pos,af,gu⟩:=o;cases op with
 |call c =>
  obtain⟨callee,args,ats⟩:=c;cases callee with
  |builtin b=>cases b<;>rfl
  |_=>rfl
 |makeFunc f x y=>cases f<;>rfl
 |_=>rfl
end Pe
end Go.Proofs.YtdopipkmcnkdjaaGreatDoor
