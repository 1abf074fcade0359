/- Part 28. -/
import Derived.Test.YtolcmngcebnjdaaGreatDoorW27
set_option linter.all false
open Go.IntKind (wrap_i64 wrap_u64)
open List (map_cons mem_cons)
open Nat (eq_of_beq_eq_true)
open Go.Result (andThen_ok)
open Go.Sem (run_bind)
noncomputable section

namespace Go.Proofs.YtolcmngcebnjdaaGreatDoor
open Go Go.RowKit Go.Proofs Lim
namespace Sym
section
variable {csz:List Nat}{numc:List Bool}{okT:List Nat}{nt:Nat}{cl:List Cl}{w0:World}{w:World}{v z:Value}{p1 p2 p3 p4:Pat}{res:jc}{c d c1 c2 c3 c4 c5 c6:Nat}{a b l:List UInt8}{r s:Rat}{k k1 k2 k3:Nat}{i j:Int}
theorem e_rread (h1:PV csz numc okT nt cl w0 p1 (str l)) (hr:(jv l).1=r) (hi:(jv l).2=i) (z:Siz r k) (h3:cl[c3]?=some (clR r k)) {q:Pat}(hq:∀ w,q.is (mkC csz numc okT nt cl w0) w (ii i)):V csz numc okT nt cl w0 (.call 50) [p1] (.tup [rq c3,q]):=by
 refine⟨enters_of Tryz.func50 (by kernel_rfl) rfl,fun w vs hb hvs=>?_⟩;obtain⟨v1,_,rfl,h4,rfl⟩:=hvs;obtain rfl:=h1 _ _ h4;refine(chJ l w).mono ?_;rintro e w' ⟨v,rfl,hv,hb'⟩;rw[hr] at hv;rw[hi];exact⟨_,rfl,⟨_,⟨_,_,rfl,(CN h3).2 ⟨hv,z⟩,_,_,rfl,hq w',rfl⟩,rfl⟩,hb'⟩
end
end Sym
namespace Sym
theorem rat_ok (l:List UInt8) (r:Rat) (k:Nat) (w:World) (hr:(jv l).1=r) (z:Siz r k):Calls Tryz.prog 13 #[str l] w (RNew w r):=by
 have hC:(mkC [1,3,1] [true,true,true] [44] 11 [clV (str l),clR r k,clV (ii (jv l).2)] w).Ok:=kr (ce (uD _) (ce (CI ke _ _) (ce (jG _) jF))) rfl rfl;have hT:∀ t∈([⟨.call 50,[op 0],.tup [rq 1,op 2]⟩]:List Ent),t.Valid (mkC [1,3,1] [true,true,true] [44] 11 [clV (str l),clR r k,clV (ii (jv l).2)] w) :=
  ca (e_rread (pv rfl) hr rfl z rfl (fun _=>(ue rfl).2 rfl)) cf
 refine(jX hC hT 13 Tryz.f13 [op 0] (.val (rq 1)) 60 Tryz.func13 rfl rfl rfl (by kernel_rfl) [str l] ⟨_,_,rfl,(ue rfl).2 rfl,rfl⟩).mono ?_;rintro e w' ⟨v,rfl,hv,hb⟩;exact⟨v,rfl,((CN rfl).1 hv).1,hb⟩
theorem long_ok (l:List UInt8) (w:World):Calls Tryz.prog 24 #[str l] w (Go.Proofs.YtolcmngcebnjdaaGreatDoor.Val w (.bool (decide (40<l.length)))):=by
 have hC:(mkC [1,1] [true,true] [] 6 [clV (str l),clV (ii (l.length:Int))] w).Ok:=kr (ce (uD _) (ce (jG _) jF)) rfl rfl;have hT:∀ b,decide (40<l.length)=b->∀ t∈([⟨.blt .len [9] 3,[op 0],.val (op 1)⟩,⟨.bin .gtr 3,[op 1,vp (ii 40)],.val (vp (.bool b))⟩]:List Ent),t.Valid (mkC [1,1] [true,true] [] 6 [clV (str l),clV (ii (l.length:Int))] w):=fun b hb =>
  ca (Wi rfl (pv rfl) (rv rfl)) (ca (zk (pv rfl) pvl (by rw[← hb];congr 1;apply propext;omega)) cf)
 have go:∀ b,decide (40<l.length)=b->Calls Tryz.prog 24 #[str l] w (Go.Proofs.YtolcmngcebnjdaaGreatDoor.Val w (.bool b)):=by
  intro b hb;cases b with
  |true =>
   refine(jX hC (hT _ hb) 24 Tryz.f24 [op 0] (.val (vp (.bool true))) 60 Tryz.func24 rfl rfl rfl (by kernel_rfl) [str l] ⟨_,_,rfl,(ue rfl).2 rfl,rfl⟩).mono ?_;rintro e w' ⟨v,rfl,hv,hb⟩;rw[Jf hv];exact⟨rfl,hb⟩
  |false =>
   refine(jX hC (hT _ hb) 24 Tryz.f24 [op 0] (.val (vp (.bool false))) 60 Tryz.func24 rfl rfl rfl (by kernel_rfl) [str l] ⟨_,_,rfl,(ue rfl).2 rfl,rfl⟩).mono ?_;rintro e w' ⟨v,rfl,hv,hb⟩;rw[Jf hv];exact⟨rfl,hb⟩
 exact go _ rfl
section
variable {csz:List Nat}{numc:List Bool}{okT:List Nat}{nt:Nat}{cl:List Cl}{w0:World}{w:World}{p1 p2:Pat}{c1 c2:Nat}{l:List UInt8}{r:Rat}{k1 k2:Nat}
end
end Sym
namespace Pe
structure Opt where
 ors:List (Nat×Nat×Bool)
 gls:List (Nat×Nat)
 ex:List (Nat×Con)
def cgN (f d:Nat):List (Nat×Nat×Bool)->Option Bool
 |[]=>none
 |(g,t,b)::l=>match Nat.beq g f with
  |true=>match Nat.beq t d with
   |true=>some b
   |false=>cgN f d l
  |false=>cgN f d l
def hasGl (f d:Nat):List (Nat×Nat)->Bool
 |[]=>false
 |(g,t)::l=>match Nat.beq g f with
  |true=>match Nat.beq t d with
   |true=>true
   |false=>hasGl f d l
  |false=>hasGl f d l
def tabR:List (Nat×Con):=[
 (70,r2 fun r j s k=>ck false (j+k+1<=10000) (rr (r+s) (j+k+1))),
 (69,r2 fun r j s k=>ck false (j+k+1<=10000) (rr (r-s) (j+k+1))),
 (71,r2 fun r j s k=>ck false (j+k<=10000) (rr (r*s) (j+k))),
 (68,r2 fun r j s k=>ck false (s.num≠0/\j+k<=10000) (rr (r/s) (j+k))),
 (51,r2 fun r j s k=>ck false (j+k<=10000) (vr (.int .i64 (jp r s)))),
 (31,r1 fun r _=>some (vr (.int .i64 (jg r)),[])),
 (52,r1 fun r _=>some (vr (.bool (decide (r=0))),[])),
 (72,i1 fun i=>ck false (yt i) (rr (i:Rat) 1)),
 (21,qr2 fun r j s k=>ck false (j+k<=1000000) (vr (.bool (decide (r=s))))),
 (12,t1 fun l=>ck false (l.length<=60) (qr (jv l).1 4)),
 (13,t1 fun l=>ck false (l.length<=60) (rr (jv l).1 4)),
 (24,t1 fun l=>some (vr (.bool (decide (40<l.length))),[]))]
def cmpI:BinOp->Int->Int->Option Bool
 |.lss,i,j=>some (decide (i<j))
 |.leq,i,j=>some (decide (i<=j))
 |.gtr,i,j=>some (decide (i>j))
 |.geq,i,j=>some (decide (i>=j))
 |.eql,i,j=>some (decide (i=j))
 |.neq,i,j=>some (decide (i≠j))
 |_,_,_=>none
def cfs (op:BinOp) (b:Bool):Con
 |[.one (.lit (.int .i64 i)),.one (.lit (.int .i64 j))]=>match cmpI op i j with
  |some x=>some (vr (.bool b),[x=b])
  |none=>none
 |_=>none
def cgu (op:BinOp):Con
 |[.one (.lit (.int .i64 i)),.one (.lit (.int .i64 j))]=>match op with
  |.add=>some (vr (.int .i64 (i+j)),[yt (i+j)])
  |.sub=>some (vr (.int .i64 (i-j)),[yt (i-j)])
  |_=>none
 |_=>none
def cca:Con
 |[.one (.lit (.int .i64 (.ofNat i))),.one (.lit (.int .i64 (.ofNat j)))]=>some (vr (.int .i64 (.ofNat (i-j))),[j<=i,i<=1000000000])
 |_=>none
def cfK:Con
 |[.one (.lit (.int .i64 (.ofNat i)))]=>some (vr (.int .u64 (.ofNat i)),[i<=4000000000])
 |_=>none
def cfn:Con
 |[.one (.lit (.int .u64 (.ofNat i)))]=>some (vr (.int .i64 (.ofNat i)),[i<=4000000000])
 |_=>none
def ccK:Con
 |[.one (.lit (.int .u64 (.ofNat i))),.one (.lit (.int .u64 (.ofNat j)))]=>match Nat.beq j 1 with
  |true=>some (vr (.int .u64 (.ofNat (i/2))),[])
  |false=>none
 |_=>none
def conAns (b:Bool) (F:Con):Con:=fun l=>match F l with
 |some (.val (.one (.lit (.bool x))),ob)=>some (vr (.bool b),(x=b)::ob)
 |r=>r
def callT (o:Opt) (f:Nat):Option Con:=match find f o.ex with
 |some F=>some F
 |none=>match find f (tabX false) with
  |some F=>some F
  |none=>find f tabR
def TY (o:Opt):FuncId->Tab Dx:=fun fid d h=>match h with
 |.call f=>match callT o f with
  |some F=>match cgN fid d o.ors with
   |some b=>some (conAns b F)
   |none=>some F
  |none=>none
 |.gl=>match hasGl fid d o.gls with
  |true=>some (fun _=>none)
  |false=>none
 |.bin op _=>match cgN fid d o.ors with
  |some b=>match op with
   |.sub=>some cca
   |_=>some (cfs op b)
  |none=>match op with
   |.add=>some (cgu .add)
   |.sub=>some (cgu .sub)
   |.shr=>some ccK
   |_=>none
 |.cv s t=>match Nat.beq s 3 with
  |true=>match Nat.beq t 156 with
   |true=>some cfK
   |false=>none
  |false=>match Nat.beq s 156 with
   |true=>match Nat.beq t 3 with
    |true=>some cfn
    |false=>none
   |false=>none
 |_=>none
section
variable {bb:Bool}{lo:Nat}{w0:World}
theorem ent_r1 {f:Nat}{g:Rat->Nat->Option (jc Dx×List Prop)}{args:List (Pat Dx)}{res:jc Dx}{ob:List Prop}(h:r1 g args=some (res,ob)) (hE:Enters Tryz.prog f)
 (hc:∀ r k,g r k=some (res,ob)->∀ w v,Below w0.heap.size w0 w->Sym.RQ w v r->Siz r k->Calls Tryz.prog f #[v] w (Zk bb lo w0 w res)):jz (Cx bb lo w0) (.call f) args res:=by
 refine⟨hE,fun w vs hb hvs=>?_⟩;unfold r1 at h;split at h
 ·split at h
  ·rename_i r k hq;obtain⟨v,_,rfl,h1,rfl⟩:=hvs;have h1:=ccH hq h1;exact hc r k h w v hb h1.1 h1.2
  ·cases h
 ·cases h
theorem Za {f:Nat}{g:Rat->Nat->Rat->Nat->Option (jc Dx×List Prop)}{args:List (Pat Dx)}{res:jc Dx}{ob:List Prop}(h:r2 g args=some (res,ob)) (hE:Enters Tryz.prog f)
 (hc:∀ r j s k,g r j s k=some (res,ob)->∀ w v1 v2,Below w0.heap.size w0 w->Sym.RQ w v1 r->Siz r j->Sym.RQ w v2 s->Siz s k->Calls Tryz.prog f #[v1,v2] w (Zk bb lo w0 w res)):jz (Cx bb lo w0) (.call f) args res:=by
 refine⟨hE,fun w vs hb hvs=>?_⟩;unfold r2 at h;split at h
 ·split at h
  ·rename_i r j s k hq hq';obtain⟨v1,_,rfl,h1,v2,_,rfl,h2,rfl⟩:=hvs;have h1:=ccH hq h1;have h2:=ccH hq' h2;exact hc r j s k h w v1 v2 hb h1.1 h1.2 h2.1 h2.2
  ·cases h
 ·cases h
theorem ent_qr2 {f:Nat}{g:Rat->Nat->Rat->Nat->Option (jc Dx×List Prop)}{args:List (Pat Dx)}{res:jc Dx}{ob:List Prop}(h:qr2 g args=some (res,ob)) (hE:Enters Tryz.prog f)
 (hc:∀ r j s k,g r j s k=some (res,ob)->∀ w v1 v2,Below w0.heap.size w0 w->IsQ w v1 r->Siz r j->Sym.RQ w v2 s->Siz s k->Calls Tryz.prog f #[v1,v2] w (Zk bb lo w0 w res)):jz (Cx bb lo w0) (.call f) args res:=by
 refine⟨hE,fun w vs hb hvs=>?_⟩;unfold qr2 at h;split at h
 ·split at h
  ·rename_i r j s k hq hq';obtain⟨v1,_,rfl,h1,v2,_,rfl,h2,rfl⟩:=hvs;have h1:=ccE hq h1;have h2:=ccH hq' h2;exact hc r j s k h w v1 v2 hb h1.1 h1.2 h2.1 h2.2
  ·cases h
 ·cases h
theorem ceT {f:Nat}{g:List UInt8->Option (jc Dx×List Prop)}{args:List (Pat Dx)}{res:jc Dx}{ob:List Prop}(h:t1 g args=some (res,ob)) (hE:Enters Tryz.prog f)
 (hc:∀ l,g l=some (res,ob)->∀ w,Below w0.heap.size w0 w->Calls Tryz.prog f #[str l] w (Zk bb lo w0 w res)):jz (Cx bb lo w0) (.call f) args res:=by
 refine⟨hE,fun w vs hb hvs=>?_⟩;unfold t1 at h;split at h
 ·rename_i l;obtain⟨v,_,rfl,h1,rfl⟩:=hvs;have h1:[v]=[str l]:=h1;injection h1 with h1 _
  subst h1;exact hc l h w hb
 ·cases h
theorem rob_r {w w':World}{v:Value}{r:Rat}{k:Nat}(h:Sym.RQ w' v r) (z:Siz r k):Zo (Cx true lo w0) w w' (rr r k) v:=by
 intro S hS w'' hs hk;have h1:=rqK h (ccA (b:=true) rfl hS hk);obtain⟨a,b,h2,h3,h4⟩:=h1;refine⟨[_,a,b],⟨?_,rfl⟩,h2⟩;show DIs w'' (.rq r k) ([_,a,b].take 3);exact .rq rfl ⟨a,b,rfl,h3,h4⟩ z
theorem cau {w:World}{r:Rat}{k:Nat}(z:Siz r k) {e:Ending}{w':World}(h:Sym.RNew w r e w'):Zk true lo w0 w (rr r k) e w':=by
 obtain⟨v,he,hv,hb⟩:=h;exact⟨v,he,hb,rob_r hv z⟩
theorem ZS (l:List UInt8) (h:l.length<=60):Siz (jv l).1 4:=Siz.read l (L:=60) h (by decide) (by decide)
theorem tabR_ok (hG:Gr w0) {f:Nat}{F:Con}{args:List (Pat Dx)}{res:jc Dx}{ob:List Prop}(hF:find f tabR=some F) (hres:F args=some (res,ob)) (ho:jH ob):jz (Cx true lo w0) (.call f) args res:=by
 have hG':∀ w,Below w0.heap.size w0 w->Gr w:=fun w hb=>hG.below hb hG.size;have hm:=kV hF;simp only[tabR,mem_cons,Prod.mk.injEq,List.not_mem_nil,or_false] at hm;rcases hm with⟨rfl,rfl⟩|⟨rfl,rfl⟩|⟨rfl,rfl⟩|⟨rfl,rfl⟩|⟨rfl,rfl⟩|⟨rfl,rfl⟩|⟨rfl,rfl⟩|⟨rfl,rfl⟩|⟨rfl,rfl⟩|⟨rfl,rfl⟩|⟨rfl,rfl⟩|⟨rfl,rfl⟩
 ·refine Za hres (enters_of Tryz.func70 (by kernel_rfl) rfl) (fun r j s k h w v1 v2 hb a1 z1 a2 z2=>?_);obtain⟨hk,rfl⟩:=zn h ho;exact(Sym.radd_q v1 v2 r s (j+k+1) w a1 a2 (z1.le (by omega)) (z2.le (by omega)) (by omega)).mono fun _ _ h=>cau (z1.add z2) h
 ·refine Za hres (enters_of Tryz.func69 (by kernel_rfl) rfl) (fun r j s k h w v1 v2 hb a1 z1 a2 z2=>?_);obtain⟨hk,rfl⟩:=zn h ho;exact(Sym.rsub_q v1 v2 r s (j+k+1) w a1 a2 (z1.le (by omega)) (z2.le (by omega)) (by omega)).mono fun _ _ h=>cau (z1.sub z2) h
 ·refine Za hres (enters_of Tryz.func71 (by kernel_rfl) rfl) (fun r j s k h w v1 v2 hb a1 z1 a2 z2=>?_);obtain⟨hk,rfl⟩:=zn h ho;exact(Sym.rmul_q v1 v2 r s (j+k) w a1 a2 (z1.le (by omega)) (z2.le (by omega)) (by omega)).mono fun _ _ h=>cau (z1.mul z2) h
 ·refine Za hres (enters_of Tryz.func68 (by kernel_rfl) rfl) (fun r j s k h w v1 v2 hb a1 z1 a2 z2=>?_);obtain⟨⟨h0,hk⟩,rfl⟩:=zn h ho;exact(Sym.rdiv_q v1 v2 r s (j+k) w a1 a2 h0 (z1.le (by omega)) (z2.le (by omega)) (by omega)).mono fun _ _ h=>cau (z1.div z2 h0) h
 ·refine Za hres (enters_of Tryz.func51 (by kernel_rfl) rfl) (fun r j s k h w v1 v2 hb a1 z1 a2 z2=>?_);obtain⟨hk,rfl⟩:=zn h ho;exact(Sym.rcmp_q v1 v2 r s (j+k) w a1 a2 (z1.le (by omega)) (z2.le (by omega)) (by omega)).mono fun _ _ h=>⟨_,h.1,h.2,JB⟩
 ·refine ent_r1 hres (enters_of Tryz.func31 (by kernel_rfl) rfl) (fun r k h w v hb a1 z1=>?_);injection h with h;injection h with h _;subst h
  exact(Sym.rsign_q v r w a1).mono fun _ _ h=>⟨_,h.1,h.2,JB⟩
 ·refine ent_r1 hres (enters_of Tryz.func52 (by kernel_rfl) rfl) (fun r k h w v hb a1 z1=>?_);injection h with h;injection h with h _;subst h
  exact(Sym.riszero_q v r w a1).mono fun _ _ h=>⟨_,h.1,h.2,JB⟩
 ·refine ent_i1 hres (enters_of Tryz.func72 (by kernel_rfl) rfl) (fun i h w hb=>?_);obtain⟨h0,rfl⟩:=zn h ho;exact(Sym.rint_q i h0.1 h0.2 w).mono fun _ _ h=>cau (GT i h0.1 h0.2) h
 ·refine ent_qr2 hres (enters_of Tryz.func21 (by kernel_rfl) rfl) (fun r j s k h w v1 v2 hb a1 z1 a2 z2=>?_);obtain⟨hk,rfl⟩:=zn h ho;exact(Sym.same_ok v1 v2 r s (j+k) w a1 a2 (z1.le (by omega)) (z2.le (by omega)) (by omega)).mono fun _ _ h=>⟨_,h.1,h.2,JB⟩
 ·refine ceT hres (enters_of Tryz.func12 (by kernel_rfl) rfl) (fun l h w hb=>?_);obtain⟨hk,rfl⟩:=zn h ho;exact(ceV l w (by omega) (hG' w hb)).mono fun _ _ h=>car (ZS l hk) h
 ·refine ceT hres (enters_of Tryz.func13 (by kernel_rfl) rfl) (fun l h w hb=>?_);obtain⟨hk,rfl⟩:=zn h ho;exact(Sym.rat_ok l _ 4 w rfl (ZS l hk)).mono fun _ _ h=>cau (ZS l hk) h
 ·refine ceT hres (enters_of Tryz.func24 (by kernel_rfl) rfl) (fun l h w hb=>?_);injection h with h;injection h with h _;subst h
  exact(Sym.long_ok l w).mono fun _ _ h=>⟨_,h.1,h.2,JB⟩
theorem za {o:Oper}{op:BinOp}{t:Nat}{xs:List Operand}(h:kM o=some (.bin op t,xs)):∃ x y u,o.op=.binOp op t x y u/\xs=[x,y]:=by
 unfold kM at h;split at h<;>first
  |(rename_i h0;simp only[Option.some.injEq,Prod.mk.injEq,Hd.bin.injEq,reduceCtorEq,false_and] at h;try (obtain⟨⟨rfl,rfl⟩,rfl⟩:=h;exact⟨_,_,_,h0,rfl⟩))
  |(split at h<;>simp at h)
  |simp at h
theorem YD {op:BinOp}{t:Nat}{i j:Int}{v:Value}(hr:∀ w,(Go.binOp op t (.int .i64 i) (.int .i64 j)).run Tryz.prog w=.ok v w):jz (Cx bb lo w0) (.bin op t) [.one (.lit (.int .i64 i)),.one (.lit (.int .i64 j))] (vr v):=by
 intro w ρ o xs ho hb hvs;obtain⟨x,y,u,hop,rfl⟩:=za ho;obtain⟨v1,_,e1,h4,v2,_,e2,h5,e3⟩:=hvs;have h4:[v1]=[.int .i64 i]:=h4;have h5:[v2]=[.int .i64 j]:=h5;injection h4 with h4 _
 injection h5 with h5 _
 subst h4;subst h5;subst e3;subst e2;simp only[map_cons,List.map_nil,List.cons.injEq] at e1;obtain⟨ea,eb,_⟩:=e1;refine⟨v,w,?_,Below.refl _ _,JB⟩;have hg:(eqGuard op t x y (.int .i64 i) (.int .i64 j)).run Tryz.prog w=.ok () w:=by
  unfold eqGuard;cases op<;>rfl
 show (execOp ρ o).run Tryz.prog w=_;simp only[execOp,hop,ea,eb,run_bind,hg,hr w,andThen_ok];rfl
theorem chZ {op : BinOp} {t : Nat} {b : Bool} {args : List (Pat Dx)} {res : jc Dx} {ob : List Prop} (h : cfs op b args = some (res, ob)) (ho : jH ob) : jz (Cx bb lo w0) (.bin op t) args res := by
  unfold cfs at h
  split at h
  · rename_i i j
    split at h
    · rename_i x hx
      injection h with h; injection h with h1 h2; subst h1; subst h2
      obtain rfl : x = b := ho.1
      refine YD (fun w => ?_)
      cases op <;> simp only [cmpI, reduceCtorEq, Option.some.injEq] at hx <;> subst hx <;> first
        | rfl
        | (show Result.ok (Value.bool (!(decide (i = j)))) w = _
           simp)
    · cases h
  · cases h
theorem cdF {op op':BinOp}{t:Nat}{args:List (Pat Dx)}{res:jc Dx}{ob:List Prop}(h:cgu op args=some (res,ob)) (ho:jH ob) (hop:op=op'):jz (Cx bb lo w0) (.bin op' t) args res:=by
 subst hop;unfold cgu at h;split at h
 ·rename_i i j;split at h
  ·injection h with h;injection h with h1 h2;subst h1;subst h2
   obtain⟨⟨h3,h4⟩,_⟩:=ho;refine YD (fun w=>?_);show Result.ok (Value.int .i64 (IntKind.i64.wrap (i+j))) w=_;rw[show IntKind.i64.wrap (i+j)=i+j by rw[wrap_i64];omega]
  ·injection h with h;injection h with h1 h2;subst h1;subst h2
   obtain⟨⟨h3,h4⟩,_⟩:=ho;refine YD (fun w=>?_);show Result.ok (Value.int .i64 (IntKind.i64.wrap (i-j))) w=_;rw[show IntKind.i64.wrap (i-j)=i-j by rw[wrap_i64];omega]
  ·cases h
 ·cases h
theorem cfa {t:Nat}{args:List (Pat Dx)}{res:jc Dx}{ob:List Prop}(h:cca args=some (res,ob)) (ho:jH ob):jz (Cx bb lo w0) (.bin .sub t) args res:=by
 unfold cca at h;split at h
 ·rename_i i j;injection h with h;injection h with h1 h2;subst h1;subst h2
  obtain⟨h3,h4,_⟩:=ho;refine YD (fun w=>?_);have h3:j<=i:=h3;have h4:i<=1000000000:=h4;have e:(Int.ofNat i:Int)-Int.ofNat j=Int.ofNat (i-j):=by
   show (i:Int)-(j:Int)=((i-j:Nat):Int);omega
  show Result.ok (Value.int .i64 (IntKind.i64.wrap (Int.ofNat i-Int.ofNat j))) w=_;rw[e,show IntKind.i64.wrap (Int.ofNat (i-j))=Int.ofNat (i-j) by
   rw[wrap_i64];have:(Int.ofNat (i-j):Int)=((i-j:Nat):Int):=rfl;omega]
 ·cases h
theorem cgt {o:Oper}{s d:Nat}{xs:List Operand}(h:kM o=some (.cv s d,xs)):∃ x,o.op=.convert s d x/\xs=[x]:=by
 unfold kM at h;split at h<;>first
  |(rename_i h0;simp only[Option.some.injEq,Prod.mk.injEq,Hd.cv.injEq,reduceCtorEq,false_and] at h;try (obtain⟨⟨rfl,rfl⟩,rfl⟩:=h;exact⟨_,h0,rfl⟩))
  |(split at h<;>simp at h)
  |simp at h
theorem ent_cv {s d:Nat}{k k':IntKind}{i:Int}(hs:(Tryz.prog.underlying s).isSome=true) (hd:Tryz.prog.underlying d=some (.int (Tryz.prog.intKind d))) (hk:Tryz.prog.intKind d=k') (hw:k'.wrap i=i):jz (Cx bb lo w0) (.cv s d) [.one (.lit (.int k i))] (vr (.int k' i)):=by
 intro w ρ o xs ho hb hvs;obtain⟨x,hop,rfl⟩:=cgt ho;obtain⟨v1,_,e1,h4,e2⟩:=hvs;have h4:[v1]=[.int k i]:=h4;injection h4 with h4 _
 subst h4;subst e2;simp only[map_cons,List.map_nil,List.cons.injEq] at e1;obtain⟨ea,_⟩:=e1;refine⟨_,w,?_,Below.refl _ _,JB⟩;show (execOp ρ o).run Tryz.prog w=_;simp only[execOp,hop,ea,run_bind,run_convert_int _ _ _ _ _ hs hd,hk,hw,andThen_ok];rfl
theorem ciS {args:List (Pat Dx)}{res:jc Dx}{ob:List Prop}(h:cfK args=some (res,ob)) (ho:jH ob):jz (Cx bb lo w0) (.cv 3 156) args res:=by
 unfold cfK at h;split at h
 ·rename_i i;injection h with h;injection h with h1 h2;subst h1;subst h2
  have h3:i<=4000000000:=ho.1;refine ent_cv (by kernel_rfl) (by kernel_rfl) (by kernel_rfl) ?_;rw[wrap_u64];have:(Int.ofNat i:Int)=((i:Nat):Int):=rfl;omega
 ·cases h
theorem chx {args:List (Pat Dx)}{res:jc Dx}{ob:List Prop}(h:cfn args=some (res,ob)) (ho:jH ob):jz (Cx bb lo w0) (.cv 156 3) args res:=by
 unfold cfn at h;split at h
 ·rename_i i;injection h with h;injection h with h1 h2;subst h1;subst h2
  have h3:i<=4000000000:=ho.1;refine ent_cv (by kernel_rfl) (by kernel_rfl) (by kernel_rfl) ?_;rw[wrap_i64];have:(Int.ofNat i:Int)=((i:Nat):Int):=rfl;omega
 ·cases h
theorem cep {t:Nat}{args:List (Pat Dx)}{res:jc Dx}{ob:List Prop}(h:ccK args=some (res,ob)):jz (Cx bb lo w0) (.bin .shr t) args res:=by
 unfold ccK at h;split at h
 ·rename_i i j;split at h
  ·rename_i hj;obtain rfl:=eq_of_beq_eq_true hj;injection h with h;injection h with h1 h2;subst h1;subst h2
   intro w ρ o xs ho hb hvs;obtain⟨x,y,u,hop,rfl⟩:=za ho;obtain⟨v1,_,e1,h4,v2,_,e2,h5,e3⟩:=hvs;have h4:[v1]=[.int .u64 (.ofNat i)]:=h4;have h5:[v2]=[.int .u64 (.ofNat 1)]:=h5;injection h4 with h4 _
   injection h5 with h5 _
   subst h4;subst h5;subst e3;subst e2;simp only[map_cons,List.map_nil,List.cons.injEq] at e1;obtain⟨ea,eb,_⟩:=e1;refine⟨.int .u64 (.ofNat (i/2)),w,?_,Below.refl _ _,JB⟩;have hg:(eqGuard .shr t x y (.int .u64 (.ofNat i)) (.int .u64 (.ofNat 1))).run Tryz.prog w=.ok () w:=rfl;show (execOp ρ o).run Tryz.prog w=_;simp only[execOp,hop,ea,eb,run_bind,hg,andThen_ok,binOp_shr];show Result.ok (Next.value (Value.int .u64 (Int.fdiv (Int.ofNat i) (2^1)))) w=_;rw[show Int.fdiv (Int.ofNat i) (2^1)=Int.ofNat (i/2) by
    show Int.fdiv ((i:Nat):Int) 2=((i/2:Nat):Int);rw[Int.fdiv_eq_ediv_of_nonneg _ (by omega)];rfl]
  ·cases h
 ·cases h
def CU (bb:Bool) (lo:Nat) (w0:World) (l:List (Nat×Con)):Prop:=∀ f F,find f l=some F->∀ args res ob,F args=some (res,ob)->jH ob->jz (Cx bb lo w0) (.call f) args res
theorem kz:CU bb lo w0 []:=fun f F h=>by simp [jb] at h
theorem cS {g:Nat}{G:Con}{l:List (Nat×Con)}(h:∀ args res ob,G args=some (res,ob)->jH ob->jz (Cx bb lo w0) (.call g) args res) (k:CU bb lo w0 l):CU bb lo w0 ((g,G)::l):=fun f F hF args res ob hr ho=>by
 rw[cQ] at hF;split at hF
 ·rename_i hb;injection hF with hF;subst hF
  rw[← eq_of_beq_eq_true hb];exact h args res ob hr ho
 ·exact k f F hF args res ob hr ho
theorem ty_ok (hG:Gr w0) {o:Opt}(hE:CU true lo w0 o.ex) (g:FuncId):(TY o g).Ok (Cx true lo w0):=by
 intro n hd F args res ob hF hres ho;unfold TY at hF;split at hF
 ·rename_i f;have key:∀ F,callT o f=some F->∀ res ob,F args=some (res,ob)->jH ob->jz (Cx true lo w0) (.call f) args res:=by
   intro F hF res ob hr ho;unfold callT at hF;split at hF
   ·rename_i h1;injection hF with hF;subst hF
    exact hE _ _ h1 _ _ _ hr ho
   ·split at hF
    ·rename_i h1;injection hF with hF;subst hF
     exact cgy hG h1 hr ho
    ·exact tabR_ok hG hF hr ho
  split at hF
  ·rename_i G hG;split at hF
   ·rename_i b hb;injection hF with hF;subst hF
    unfold conAns at hres;split at hres
    ·rename_i x ob' hx;injection hres with hres;injection hres with h1 h2;subst h1;subst h2
     have:=key G hG _ _ hx ho.2;rw[show x=b from ho.1] at this;exact this
    ·exact key G hG _ _ hres ho
   ·injection hF with hF;subst hF
    exact key _ hG _ _ hres ho
  ·cases hF
 ·split at hF
  ·injection hF with hF;subst hF
   cases hres
  ·cases hF
 ·split at hF
  ·split at hF
   ·injection hF with hF;subst hF
    exact cfa hres ho
   ·injection hF with hF;subst hF
    exact chZ hres ho
  ·split at hF
   ·injection hF with hF;subst hF
    exact cdF hres ho rfl
   ·injection hF with hF;subst hF
    exact cdF hres ho rfl
   ·injection hF with hF;subst hF
    exact cep hres
   ·cases hF
 ·rename_i s t;split at hF
  ·rename_i h1;split at hF
   ·rename_i h2;injection hF with hF;subst hF
    rw[eq_of_beq_eq_true h1,eq_of_beq_eq_true h2];exact ciS hres ho
   ·cases hF
  ·split at hF
   ·rename_i h1;split at hF
    ·rename_i h2;injection hF with hF;subst hF
     rw[eq_of_beq_eq_true h1,eq_of_beq_eq_true h2];exact chx hres ho
    ·cases hF
   ·cases hF
 ·cases hF
theorem run_ok (hlo : lo ≤ w0.heap.size) (hG : Gr w0) (hN : ∀ (f : Nat) (fn : Func), Tryz.prog.funcs[f]? = some fn → (fn.name == "runtime.NumGoroutine") = false) {o : Opt} (hE : CU true lo w0 o.ex) : KF (Cx true lo w0) (TY o) := ⟨cx_ok hlo, hN, ty_ok hG hE⟩
end
end Pe
end Go.Proofs.YtolcmngcebnjdaaGreatDoor
