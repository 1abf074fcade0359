/- Part 27. -/
import Derived.Test.YtcgiaclelnmhbabGreatDoorE26
set_option linter.all false
open Go.IntKind (wrap_i64)
noncomputable section

namespace Go.Proofs.YtcgiaclelnmhbabGreatDoor
open Go Go.RowKit Go.Proofs Lim
namespace Sym
end Sym
namespace Sym
end Sym
namespace Pe
structure Opt where
 ors:List (Nat×Nat×Bool)
 gls:List (Nat×Nat)
 ex:List (Nat×Con)
def ccx (f d:Nat):List (Nat×Nat×Bool)->Option Bool
 |[]=>none
 |(g,t,b)::l=>match Nat.beq g f with
  |true=>match Nat.beq t d with
   |true=>some b
   |false=>ccx f d l
  |false=>ccx f d l
def cfv (f d:Nat):List (Nat×Nat)->Bool
 |[]=>false
 |(g,t)::l=>match Nat.beq g f with
  |true=>match Nat.beq t d with
   |true=>true
   |false=>cfv f d l
  |false=>cfv f d l
def cmpI:BinOp->Int->Int->Option Bool
 |.lss,i,j=>some (decide (i<j))
 |.leq,i,j=>some (decide (i<=j))
 |.gtr,i,j=>some (decide (i>j))
 |.geq,i,j=>some (decide (i>=j))
 |.eql,i,j=>some (decide (i=j))
 |.neq,i,j=>some (decide (i≠j))
 |_,_,_=>none
def cbH (op:BinOp) (b:Bool):Con
 |[.one (.lit (.int .i64 i)),.one (.lit (.int .i64 j))]=>match cmpI op i j with
  |some x=>some (vr (.bool b),[x=b])
  |none=>none
 |[.one (.lit (.int .u8 i)),.one (.lit (.int .u8 j))]=>match cmpI op i j with
  |some x=>some (vr (.bool b),[x=b])
  |none=>none
 |_=>none
def cdj (op:BinOp):Con
 |[.one (.lit (.int .i64 i)),.one (.lit (.int .i64 j))]=>match op with
  |.add=>some (vr (.int .i64 (i+j)),[ko (i+j)])
  |.sub=>some (vr (.int .i64 (i-j)),[ko (i-j)])
  |.mul=>some (vr (.int .i64 (i*j)),[ko (i*j)])
  |_=>none
 |_=>none
def cbf:Con
 |[.one (.lit (.int .i64 (.ofNat i))),.one (.lit (.int .i64 (.ofNat j)))]=>some (vr (.int .i64 (.ofNat (i-j))),[j<=i,i<=1000000000])
 |_=>none
def cdK:Con
 |[.one (.lit (.int .i64 (.ofNat i)))]=>some (vr (.int .u64 (.ofNat i)),[i<=4000000000])
 |_=>none
def cdY:Con
 |[.one (.lit (.int .i64 (.ofNat i))),.one (.lit (.int .u64 (.ofNat j)))]=>some (vr (.int .i64 (.ofNat (i/2^j))),[j<=62])
 |_=>none
def ceQ:Con
 |[.one (.lit (.int .i64 (.ofNat i))),.one (.lit (.int .u64 (.ofNat j)))]=>some (vr (.int .i64 (.ofNat (i*2^j))),[j<=62,i*2^j<=9223372036854775807])
 |_=>none
def cdA:Con
 |[.one (.lit (.int .i64 (.ofNat i))),.one (.lit (.int .i64 (.ofNat j)))]=>match Nat.beq j 1 with
  |true=>some (vr (.int .i64 (.ofNat (i%2))),[i<=9223372036854775807])
  |false=>none
 |_=>none
def conId (b:Bool):Con
 |[.one (.lit (.bool x))]=>some (vr (.bool b),[x=b])
 |_=>none
def conAns (b:Bool) (F:Con):Con:=fun l=>match F l with
 |some (.val (.one (.lit (.bool x))),ob)=>some (vr (.bool b),(x=b)::ob)
 |r=>r
def hdK (J K f:Nat):Hd:=match Nat.ble K f with
 |true=>.mem (f-K)
 |false=>match Nat.ble J f with
  |true=>.box (f-J)
  |false=>.call f
def hdOf (f:Nat):Hd:=hdK 500000 1000000 f
def keyB (f:Nat):Nat:=f+500000
theorem cfc {J f:Nat}(h:Nat.ble J f=false):f<J:=Nat.lt_of_not_le fun h'=>by rw[zA h'] at h;cases h
theorem cfC {J f:Nat}(h:f<J):Nat.ble J f=false:=by
 cases hb:Nat.ble J f with
 |false=>rfl
 |true=>exact absurd (jh hb) (Nat.not_le.2 h)
theorem chS {J K f:Nat}(hJ:J<=K) (h:Nat.ble J f=false):hdK J K f=.call f:=by
 unfold hdK;rw[cfC (cT (cfc h) hJ),h]
theorem hdK_box {J K f:Nat}(h:f+J<K):hdK J K (f+J)=.box f:=by
 unfold hdK;rw[cfC h,zA (Nat.le_add_left J f),Nat.add_sub_cancel]
theorem ZT {f:Nat}(h:Nat.ble 500000 f=false):hdOf f=.call f:=chS (J:=500000) (K:=1000000) (by omega) h
theorem ciE {f:Nat}(h:Nat.ble 500000 f=false):hdOf (keyB f)=.box f:=hdK_box (J:=500000) (K:=1000000) (by have:=cfc h;omega)
section
variable {bb:Bool}{lo:Nat}{w0:World}
theorem cdL {o:Oper}{op:BinOp}{t:Nat}{xs:List Operand}(h:cjk o=some (.bin op t,xs)):∃ x y u,o.op=.binOp op t x y u/\xs=[x,y]:=by
 unfold cjk at h;split at h<;>first
  |(rename_i h0;simp only[kC,co,Hd.bin.injEq,reduceCtorEq,false_and] at h;try (obtain⟨⟨rfl,rfl⟩,rfl⟩:=h;exact⟨_,_,_,h0,rfl⟩))
  |(split at h<;>simp at h)
  |simp at h
theorem zB {op:BinOp}{t:Nat}{k:IntKind}{i j:Int}{v:Value}(hr:∀ w,(Go.binOp op t (.int k i) (.int k j)).run Tryz.prog w=.ok v w):jL (Cx bb lo w0) (.bin op t) [.one (.lit (.int k i)),.one (.lit (.int k j))] (vr v):=by
 intro w ρ o xs ho hb hvs;obtain⟨x,y,u,hop,rfl⟩:=cdL ho;obtain⟨v1,_,e1,h4,v2,_,e2,h5,e3⟩:=hvs;have h4:[v1]=[.int k i]:=h4;have h5:[v2]=[.int k j]:=h5;injection h4 with h4 _
 injection h5 with h5 _
 subst h4;subst h5;subst e3;subst e2;simp only[uf,List.map_nil,caU] at e1;obtain⟨ea,eb,_⟩:=e1;refine⟨v,w,?_,cF _ _,Yl⟩;have hg:(eqGuard op t x y (.int k i) (.int k j)).run Tryz.prog w=.ok () w:=by
  unfold eqGuard;cases op<;>rfl
 show (execOp ρ o).run Tryz.prog w=_;simp only[execOp,hop,ea,eb,jA,hg,hr w,kG];rfl
theorem cam {op : BinOp} {t : Nat} {b : Bool} {args : List (Pat Dx)} {res : RPat Dx} {ob : List Prop} (h : cbH op b args = some (res, ob)) (ho : cX ob) : jL (Cx bb lo w0) (.bin op t) args res := by
  unfold cbH at h
  split at h
  · rename_i i j
    split at h
    · rename_i x hx
      injection h with h; injection h with h1 h2; subst h1; subst h2
      obtain rfl : x = b := ho.1
      refine zB (fun w => ?_)
      cases op <;> simp only [cmpI, reduceCtorEq, kC] at hx <;> subst hx <;> first
        | rfl
        | (show Result.ok (Value.bool (!(decide (i = j)))) w = _
           simp)
    · cases h
  · rename_i i j
    split at h
    · rename_i x hx
      injection h with h; injection h with h1 h2; subst h1; subst h2
      obtain rfl : x = b := ho.1
      refine zB (fun w => ?_)
      cases op <;> simp only [cmpI, reduceCtorEq, kC] at hx <;> subst hx <;> first
        | rfl
        | (show Result.ok (Value.bool (!(decide (i = j)))) w = _
           simp)
    · cases h
  · cases h
theorem YL {op op':BinOp}{t:Nat}{args:List (Pat Dx)}{res:RPat Dx}{ob:List Prop}(h:cdj op args=some (res,ob)) (ho:cX ob) (hop:op=op'):jL (Cx bb lo w0) (.bin op' t) args res:=by
 subst hop;unfold cdj at h;split at h
 ·rename_i i j;split at h
  ·injection h with h;injection h with h1 h2;subst h1;subst h2
   obtain⟨⟨h3,h4⟩,_⟩:=ho;refine zB (fun w=>?_);show Result.ok (Value.int .i64 (IntKind.i64.wrap (i+j))) w=_;rw[show IntKind.i64.wrap (i+j)=i+j by rw[wrap_i64];omega]
  ·injection h with h;injection h with h1 h2;subst h1;subst h2
   obtain⟨⟨h3,h4⟩,_⟩:=ho;refine zB (fun w=>?_);show Result.ok (Value.int .i64 (IntKind.i64.wrap (i-j))) w=_;rw[show IntKind.i64.wrap (i-j)=i-j by rw[wrap_i64];omega]
  ·injection h with h;injection h with h1 h2;subst h1;subst h2
   obtain⟨⟨h3,h4⟩,_⟩:=ho;refine zB (fun w=>?_);show Result.ok (Value.int .i64 (IntKind.i64.wrap (i*j))) w=_;rw[show IntKind.i64.wrap (i*j)=i*j by rw[wrap_i64];omega]
  ·cases h
 ·cases h
theorem chC {C:Ctx Dx}{b:Bool}{args:List (Pat Dx)}{res:RPat Dx}{ob:List Prop}(h:conId b args=some (res,ob)) (ho:cX ob):jL C .gl args res:=by
 unfold conId at h;split at h
 ·injection h with h;injection h with h1 h2;subst h1;subst h2
  intro v u q1 q2;injection q1 with q1 _;injection q1 with q1;injection q1 with q1;subst q1
  injection q2 with q2;injection q2 with q2;injection q2 with q2;subst q2
  rw[ho.1]
 ·cases h
theorem ceA {t:Nat}{args:List (Pat Dx)}{res:RPat Dx}{ob:List Prop}(h:cbf args=some (res,ob)) (ho:cX ob):jL (Cx bb lo w0) (.bin .sub t) args res:=by
 unfold cbf at h;split at h
 ·rename_i i j;injection h with h;injection h with h1 h2;subst h1;subst h2
  obtain⟨h3,h4,_⟩:=ho;refine zB (fun w=>?_);have h3:j<=i:=h3;have h4:i<=1000000000:=h4;have e:(Int.ofNat i:Int)-Int.ofNat j=Int.ofNat (i-j):=by
   show (i:Int)-(j:Int)=((i-j:Nat):Int);omega
  show Result.ok (Value.int .i64 (IntKind.i64.wrap (Int.ofNat i-Int.ofNat j))) w=_;rw[e,show IntKind.i64.wrap (Int.ofNat (i-j))=Int.ofNat (i-j) by
   rw[wrap_i64];have:(Int.ofNat (i-j):Int)=((i-j:Nat):Int):=rfl;omega]
 ·cases h
theorem hd_cv {o:Oper}{s d:Nat}{xs:List Operand}(h:cjk o=some (.cv s d,xs)):∃ x,o.op=.convert s d x/\xs=[x]:=by
 unfold cjk at h;split at h<;>first
  |(rename_i h0;simp only[kC,co,Hd.cv.injEq,reduceCtorEq,false_and] at h;try (obtain⟨⟨rfl,rfl⟩,rfl⟩:=h;exact⟨_,h0,rfl⟩))
  |(split at h<;>simp at h)
  |simp at h
theorem ent_cv {s d:Nat}{k k':IntKind}{i:Int}(hs:(Tryz.prog.underlying s).isSome=true) (hd:Tryz.prog.underlying d=some (.int (Tryz.prog.intKind d))) (hk:Tryz.prog.intKind d=k') (hw:k'.wrap i=i):jL (Cx bb lo w0) (.cv s d) [.one (.lit (.int k i))] (vr (.int k' i)):=by
 intro w ρ o xs ho hb hvs;obtain⟨x,hop,rfl⟩:=hd_cv ho;obtain⟨v1,_,e1,h4,e2⟩:=hvs;have h4:[v1]=[.int k i]:=h4;injection h4 with h4 _
 subst h4;subst e2;simp only[uf,List.map_nil,caU] at e1;obtain⟨ea,_⟩:=e1;refine⟨_,w,?_,cF _ _,Yl⟩;show (execOp ρ o).run Tryz.prog w=_;simp only[execOp,hop,ea,jA,run_convert_int _ _ _ _ _ hs hd,hk,hw,kG];rfl
theorem cgD {args:List (Pat Dx)}{res:RPat Dx}{ob:List Prop}(h:cdK args=some (res,ob)) (ho:cX ob):jL (Cx bb lo w0) (.cv 3 113) args res:=by
 unfold cdK at h;split at h
 ·rename_i i;injection h with h;injection h with h1 h2;subst h1;subst h2
  have h3:i<=4000000000:=ho.1;refine ent_cv (by kernel_rfl) (by kernel_rfl) (by kernel_rfl) ?_;rw[zQ];have:(Int.ofNat i:Int)=((i:Nat):Int):=rfl;omega
 ·cases h
theorem car {op:BinOp}{k':IntKind}{i j:Nat}{t:Nat}{v:Value}(hj:j<=62) (h:op=.shr/\v=.int .i64 (.ofNat (i/2^j))\/op=.shl/\i*2^j<=9223372036854775807/\v=.int .i64 (.ofNat (i*2^j))) {w:World}:(Go.binOp op t (.int .i64 (.ofNat i)) (.int k' (.ofNat j))).run Tryz.prog w=.ok v w:=by
 have hn:¬ (Int.ofNat j:Int)<0:=by show ¬ ((j:Nat):Int)<0;omega
 have hm:min (Int.ofNat j).toNat IntKind.i64.bits=j:=by
  show min j 64=j;omega
 have hp:((2:Int)^j)=((2^j:Nat):Int):=by rw[Int.natCast_pow];rfl
 rcases h with⟨rfl,rfl⟩|⟨rfl,hb,rfl⟩
 ·rw[binOp_shr,Op.shift,cf hn,hm];show Result.ok (Value.int .i64 (Int.fdiv (Int.ofNat i) (2^j))) w=_;rw[hp,Int.fdiv_eq_ediv_of_nonneg _ (Uy _)];rfl
 ·rw[binOp_shl,Op.shift,cf hn,hm];show Result.ok (Value.int .i64 (IntKind.i64.wrap (Int.ofNat i*2^j))) w=_;rw[hp,show (Int.ofNat i:Int)*((2^j:Nat):Int)=Int.ofNat (i*2^j) from(kT i (2^j)).symm];generalize i*2^j=m at hb ⊢;rw[show IntKind.i64.wrap (Int.ofNat m)=Int.ofNat m by
   rw[wrap_i64];have:(Int.ofNat m:Int)=((m:Nat):Int):=rfl;omega]
theorem Ky {op:BinOp}{t:Nat}{k k':IntKind}{i j:Int}{v:Value}(hop:op=.shr\/op=.shl) (hr:∀ w,(Go.binOp op t (.int k i) (.int k' j)).run Tryz.prog w=.ok v w):jL (Cx bb lo w0) (.bin op t) [.one (.lit (.int k i)),.one (.lit (.int k' j))] (vr v):=by
 intro w ρ o xs ho hb hvs;obtain⟨x,y,u,h0,rfl⟩:=cdL ho;obtain⟨v1,_,e1,h4,v2,_,e2,h5,e3⟩:=hvs;have h4:[v1]=[.int k i]:=h4;have h5:[v2]=[.int k' j]:=h5;injection h4 with h4 _
 injection h5 with h5 _
 subst h4;subst h5;subst e3;subst e2;simp only[uf,List.map_nil,caU] at e1;obtain⟨ea,eb,_⟩:=e1;refine⟨v,w,?_,cF _ _,Yl⟩;have hg:(eqGuard op t x y (.int k i) (.int k' j)).run Tryz.prog w=.ok () w:=by rcases hop with rfl|rfl<;>rfl
 show (execOp ρ o).run Tryz.prog w=_;simp only[execOp,h0,ea,eb,jA,hg,hr w,kG];rfl
theorem cgw {t:Nat}{args:List (Pat Dx)}{res:RPat Dx}{ob:List Prop}(h:ceQ args=some (res,ob)) (ho:cX ob):jL (Cx bb lo w0) (.bin .shl t) args res:=by
 unfold ceQ at h;split at h
 ·injection h with h;injection h with h1 h2;subst h1;subst h2
  exact Ky (.inr rfl) (fun w=>car ho.1 (.inr ⟨rfl,ho.2.1,rfl⟩))
 ·cases h
theorem cgF {t:Nat}{args:List (Pat Dx)}{res:RPat Dx}{ob:List Prop}(h:cdA args=some (res,ob)) (ho:cX ob):jL (Cx bb lo w0) (.bin .and t) args res:=by
 unfold cdA at h;split at h
 ·rename_i i j;split at h
  ·rename_i hj;obtain rfl:=cn hj;injection h with h;injection h with h1 h2;subst h1;subst h2
   have hi:i<=9223372036854775807:=ho.1;refine zB (fun w=>?_);rw[binOp_and];have e:=bits_nat .i64 63 (by decide) (fun n h1 h2=>by rw[wrap_i64];omega) i 1 (by omega) (by decide);exact cw (fun z=>Result.ok (Value.int .i64 z) w) (e.1.trans (by rw[Nat.and_one_is_mod];rfl))
  ·cases h
 ·cases h
def yf (bb:Bool) (lo:Nat) (w0:World) (l:List (Nat×Con)):Prop:=∀ f F,find f l=some F->∀ hd,hdOf f=hd->∀ args res ob,F args=some (res,ob)->cX ob->jL (Cx bb lo w0) hd args res
theorem jF:yf bb lo w0 []:=fun f F h=>by simp [cP] at h
theorem ciP {g:Nat}{G:Con}{l:List (Nat×Con)}{hg:Hd}(hh:hdOf g=hg) (h:∀ args res ob,G args=some (res,ob)->cX ob->jL (Cx bb lo w0) hg args res) (k:yf bb lo w0 l):yf bb lo w0 ((g,G)::l):=fun f F hF hd hd' args res ob hr ho=>by
 rw[cC] at hF;split at hF
 ·rename_i hb;injection hF with hF;subst hF
  rw[← cn hb,hh] at hd';subst hd';exact h args res ob hr ho
 ·exact k f F hF hd hd' args res ob hr ho
theorem cV {g:Nat}{G:Con}{l:List (Nat×Con)}(h:∀ args res ob,G args=some (res,ob)->cX ob->jL (Cx bb lo w0) (.call g) args res) (k:yf bb lo w0 l) (hg:Nat.ble 500000 g=false:=by rfl):yf bb lo w0 ((g,G)::l):=ciP (ZT hg) h k
end
end Pe
end Go.Proofs.YtcgiaclelnmhbabGreatDoor
