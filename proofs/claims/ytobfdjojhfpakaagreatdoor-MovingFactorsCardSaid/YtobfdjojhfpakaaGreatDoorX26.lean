/- Part 26. -/
import Derived.Test.YtobfdjojhfpakaaGreatDoorX25
set_option linter.all false
open Go.IntKind (wrap_i64 wrap_u64)
open List (map_cons mem_cons)
open Nat (eq_of_beq_eq_true)
open Go.Result (andThen_ok)
open Go.Sem (run_bind)
noncomputable section

namespace Go.Proofs.YtobfdjojhfpakaaGreatDoor
open Go Go.RowKit Go.Proofs Lim
namespace Sym
section
variable {csz:List Nat}{numc:List Bool}{okT:List Nat}{nt:Nat}{cl:List Cl}{w0:World}{w:World}{v z:Value}{p1 p2 p3 p4:Pat}{res:cT}{c d c1 c2 c3 c4 c5 c6:Nat}{a b l:List UInt8}{r s:Rat}{k k1 k2 k3:Nat}{i j:Int}
theorem e_rread (h1:PV csz numc okT nt cl w0 p1 (str l)) (hr:(jD l).1=r) (hi:(jD l).2=i) (z:Siz r k) (h3:cl[c3]?=some (clR r k)) {q:Pat}(hq:∀ w,q.is (mkC csz numc okT nt cl w0) w (ii i)):V csz numc okT nt cl w0 (.call 43) [p1] (.tup [rq c3,q]):=by
 refine⟨enters_of Tryz.func43 (by kernel_rfl) rfl,fun w vs hb hvs=>?_⟩;obtain⟨v1,_,rfl,h4,rfl⟩:=hvs;obtain rfl:=h1 _ _ h4;refine(chi l w).mono ?_;rintro e w' ⟨v,rfl,hv,hb'⟩;rw[hr] at hv;rw[hi];exact⟨_,rfl,⟨_,⟨_,_,rfl,(kY h3).2 ⟨hv,z⟩,_,_,rfl,hq w',rfl⟩,rfl⟩,hb'⟩
end
end Sym
namespace Sym
theorem rat_ok (l:List UInt8) (r:Rat) (k:Nat) (w:World) (hr:(jD l).1=r) (z:Siz r k):Calls Tryz.prog 10 #[str l] w (RNew w r):=by
 have hC:(mkC [1,3,1] [true,true,true] [39] 11 [clV (str l),clR r k,clV (ii (jD l).2)] w).Ok:=jL (ce (kR _) (ce (uI jQ _ _) (ce (jj _) jh))) rfl rfl;have hT:∀ t∈([⟨.call 43,[op 0],.tup [rq 1,op 2]⟩]:List Ent),t.Valid (mkC [1,3,1] [true,true,true] [39] 11 [clV (str l),clR r k,clV (ii (jD l).2)] w) :=
  ca (e_rread (pv rfl) hr rfl z rfl (fun _=>(kD rfl).2 rfl)) cc
 refine(jv hC hT 10 Tryz.f10 [op 0] (.val (rq 1)) 60 Tryz.func10 rfl rfl rfl (by kernel_rfl) [str l] ⟨_,_,rfl,(kD rfl).2 rfl,rfl⟩).mono ?_;rintro e w' ⟨v,rfl,hv,hb⟩;exact⟨v,rfl,((kY rfl).1 hv).1,hb⟩
theorem long_ok (l:List UInt8) (w:World):Calls Tryz.prog 8 #[str l] w (Go.Proofs.YtobfdjojhfpakaaGreatDoor.Val w (.bool (decide (40<l.length)))):=by
 have hC:(mkC [1,1] [true,true] [] 6 [clV (str l),clV (ii (l.length:Int))] w).Ok:=jL (ce (kR _) (ce (jj _) jh)) rfl rfl;have hT:∀ b,decide (40<l.length)=b->∀ t∈([⟨.blt .len [9] 3,[op 0],.val (op 1)⟩,⟨.bin .gtr 3,[op 1,vp (ii 40)],.val (vp (.bool b))⟩]:List Ent),t.Valid (mkC [1,1] [true,true] [] 6 [clV (str l),clV (ii (l.length:Int))] w):=fun b hb =>
  ca (Ue rfl (pv rfl) (rv rfl)) (ca (yk (pv rfl) pvl (by rw[← hb];congr 1;apply propext;omega)) cc)
 have go:∀ b,decide (40<l.length)=b->Calls Tryz.prog 8 #[str l] w (Go.Proofs.YtobfdjojhfpakaaGreatDoor.Val w (.bool b)):=by
  intro b hb;cases b with
  |true =>
   refine(jv hC (hT _ hb) 8 Tryz.f8 [op 0] (.val (vp (.bool true))) 60 Tryz.func8 rfl rfl rfl (by kernel_rfl) [str l] ⟨_,_,rfl,(kD rfl).2 rfl,rfl⟩).mono ?_;rintro e w' ⟨v,rfl,hv,hb⟩;rw[GB hv];exact⟨rfl,hb⟩
  |false =>
   refine(jv hC (hT _ hb) 8 Tryz.f8 [op 0] (.val (vp (.bool false))) 60 Tryz.func8 rfl rfl rfl (by kernel_rfl) [str l] ⟨_,_,rfl,(kD rfl).2 rfl,rfl⟩).mono ?_;rintro e w' ⟨v,rfl,hv,hb⟩;rw[GB hv];exact⟨rfl,hb⟩
 exact go _ rfl
section
variable {csz:List Nat}{numc:List Bool}{okT:List Nat}{nt:Nat}{cl:List Cl}{w0:World}{w:World}{p1 p2:Pat}{c1 c2:Nat}{l:List UInt8}{r:Rat}{k1 k2:Nat}
end
end Sym
namespace Pe
structure Opt where
 ors:List (Nat×Nat×Bool)
 gls:List (Nat×Nat)
 ex:List (Nat×Con)
def ceB (f d:Nat):List (Nat×Nat×Bool)->Option Bool
 |[]=>none
 |(g,t,b)::l=>match Nat.beq g f with
  |true=>match Nat.beq t d with
   |true=>some b
   |false=>ceB f d l
  |false=>ceB f d l
def hasGl (f d:Nat):List (Nat×Nat)->Bool
 |[]=>false
 |(g,t)::l=>match Nat.beq g f with
  |true=>match Nat.beq t d with
   |true=>true
   |false=>hasGl f d l
  |false=>hasGl f d l
def tabR:List (Nat×Con):=[
 (116,r2 fun r j s k=>ck false (j+k+1<=10000) (rr (r+s) (j+k+1))),
 (123,r2 fun r j s k=>ck false (j+k+1<=10000) (rr (r-s) (j+k+1))),
 (117,r2 fun r j s k=>ck false (j+k<=10000) (rr (r*s) (j+k))),
 (72,r2 fun r j s k=>ck false (j+k<=10000) (vr (.int .i64 (jU r s)))),
 (54,r2 fun r j s k=>ck false (j<=5000/\k=j) (rr (Sym.minQ r s) j)),
 (55,r2 fun r j s k=>ck false (j<=5000/\k=j) (rr (Sym.maxQ r s) j)),
 (74,r1 fun r k=>some (rr (-r) k,[])),
 (17,r1 fun r _=>some (vr (.int .i64 (jE r)),[])),
 (73,r1 fun r _=>some (vr (.bool (decide (r=0))),[])),
 (61,i1 fun i=>ck false (um i) (rr (i:Rat) 1)),
 (28,qr2 fun r j s k=>ck false (j+k<=1000000) (vr (.bool (decide (r=s))))),
 (9,t1 fun l=>ck false (l.length<=60) (qr (jD l).1 4)),
 (10,t1 fun l=>ck false (l.length<=60) (rr (jD l).1 4)),
 (8,t1 fun l=>some (vr (.bool (decide (40<l.length))),[]))]
def cmpI:BinOp->Int->Int->Option Bool
 |.lss,i,j=>some (decide (i<j))
 |.leq,i,j=>some (decide (i<=j))
 |.gtr,i,j=>some (decide (i>j))
 |.geq,i,j=>some (decide (i>=j))
 |.eql,i,j=>some (decide (i=j))
 |.neq,i,j=>some (decide (i≠j))
 |_,_,_=>none
def cbt (op:BinOp) (b:Bool):Con
 |[.one (.lit (.int .i64 i)),.one (.lit (.int .i64 j))]=>match cmpI op i j with
  |some x=>some (vr (.bool b),[x=b])
  |none=>none
 |_=>none
noncomputable def conNil (t:Nat) (b:Bool):Con
 |[.one (.cls (.ls L)),.one (.lit (.slice none 0 0))]=>match Tryz.prog.underlying t with
  |some (.slice _)=>some (vr (.bool b),[b=false,0<L.n])
  |_=>none
 |_=>none
noncomputable def conEql (t:Nat) (b:Bool):Con:=fun l=>match conNil t b l with
 |some r=>some r
 |none=>cbt .eql b l
def cfu (op:BinOp):Con
 |[.one (.lit (.int .i64 i)),.one (.lit (.int .i64 j))]=>match op with
  |.add=>some (vr (.int .i64 (i+j)),[um (i+j)])
  |.sub=>some (vr (.int .i64 (i-j)),[um (i-j)])
  |_=>none
 |_=>none
def cbo:Con
 |[.one (.lit (.int .i64 (.ofNat i))),.one (.lit (.int .i64 (.ofNat j)))]=>some (vr (.int .i64 (.ofNat (i-j))),[j<=i,i<=1000000000])
 |_=>none
def ceg:Con
 |[.one (.lit (.int .i64 (.ofNat i)))]=>some (vr (.int .u64 (.ofNat i)),[i<=4000000000])
 |_=>none
def ceh:Con
 |[.one (.lit (.int .u64 (.ofNat i)))]=>some (vr (.int .i64 (.ofNat i)),[i<=4000000000])
 |_=>none
def cbv:Con
 |[.one (.lit (.int .u64 (.ofNat i))),.one (.lit (.int .u64 (.ofNat j)))]=>match Nat.beq j 1 with
  |true=>some (vr (.int .u64 (.ofNat (i/2))),[])
  |false=>none
 |_=>none
def conAns (b:Bool) (F:Con):Con:=fun l=>match F l with
 |some (.val (.one (.lit (.bool x))),ob)=>some (vr (.bool b),(x=b)::ob)
 |r=>r
def callT (o:Opt) (f:Nat):Option Con:=match find f o.ex with
 |some F=>some F
 |none=>match find f (tabX false) with
  |some F=>some F
  |none=>find f tabR
noncomputable def TY (o:Opt):FuncId->Tab Dx:=fun fid d h=>match h with
 |.call f=>match callT o f with
  |some F=>match ceB fid d o.ors with
   |some b=>some (conAns b F)
   |none=>some F
  |none=>none
 |.gl=>match hasGl fid d o.gls with
  |true=>some (fun _=>none)
  |false=>none
 |.bin op t=>match ceB fid d o.ors with
  |some b=>match op with
   |.sub=>some cbo
   |.eql=>some (conEql t b)
   |_=>some (cbt op b)
  |none=>match op with
   |.add=>some (cfu .add)
   |.sub=>some (cfu .sub)
   |.shr=>some cbv
   |_=>none
 |.cv s t=>match Nat.beq s 3 with
  |true=>match Nat.beq t 133 with
   |true=>some ceg
   |false=>none
  |false=>match Nat.beq s 133 with
   |true=>match Nat.beq t 3 with
    |true=>some ceh
    |false=>none
   |false=>none
 |_=>none
section
variable {bb:Bool}{lo:Nat}{w0:World}
theorem cdl {f:Nat}{g:Rat->Nat->Option (cT Dx×List Prop)}{args:List (Pat Dx)}{res:cT Dx}{ob:List Prop}(h:r1 g args=some (res,ob)) (hE:Enters Tryz.prog f)
 (hc:∀ r k,g r k=some (res,ob)->∀ w v,Below w0.heap.size w0 w->Sym.RQ w v r->Siz r k->Calls Tryz.prog f #[v] w (WX bb lo w0 w res)):jF (Cx bb lo w0) (.call f) args res:=by
 refine⟨hE,fun w vs hb hvs=>?_⟩;unfold r1 at h;split at h
 ·split at h
  ·rename_i r k hq;obtain⟨v,_,rfl,h1,rfl⟩:=hvs;have h1:=cbb hq h1;exact hc r k h w v hb h1.1 h1.2
  ·cases h
 ·cases h
theorem Uu {f:Nat}{g:Rat->Nat->Rat->Nat->Option (cT Dx×List Prop)}{args:List (Pat Dx)}{res:cT Dx}{ob:List Prop}(h:r2 g args=some (res,ob)) (hE:Enters Tryz.prog f)
 (hc:∀ r j s k,g r j s k=some (res,ob)->∀ w v1 v2,Below w0.heap.size w0 w->Sym.RQ w v1 r->Siz r j->Sym.RQ w v2 s->Siz s k->Calls Tryz.prog f #[v1,v2] w (WX bb lo w0 w res)):jF (Cx bb lo w0) (.call f) args res:=by
 refine⟨hE,fun w vs hb hvs=>?_⟩;unfold r2 at h;split at h
 ·split at h
  ·rename_i r j s k hq hq';obtain⟨v1,_,rfl,h1,v2,_,rfl,h2,rfl⟩:=hvs;have h1:=cbb hq h1;have h2:=cbb hq' h2;exact hc r j s k h w v1 v2 hb h1.1 h1.2 h2.1 h2.2
  ·cases h
 ·cases h
theorem ent_qr2 {f:Nat}{g:Rat->Nat->Rat->Nat->Option (cT Dx×List Prop)}{args:List (Pat Dx)}{res:cT Dx}{ob:List Prop}(h:qr2 g args=some (res,ob)) (hE:Enters Tryz.prog f)
 (hc:∀ r j s k,g r j s k=some (res,ob)->∀ w v1 v2,Below w0.heap.size w0 w->IsQ w v1 r->Siz r j->Sym.RQ w v2 s->Siz s k->Calls Tryz.prog f #[v1,v2] w (WX bb lo w0 w res)):jF (Cx bb lo w0) (.call f) args res:=by
 refine⟨hE,fun w vs hb hvs=>?_⟩;unfold qr2 at h;split at h
 ·split at h
  ·rename_i r j s k hq hq';obtain⟨v1,_,rfl,h1,v2,_,rfl,h2,rfl⟩:=hvs;have h1:=caS hq h1;have h2:=cbb hq' h2;exact hc r j s k h w v1 v2 hb h1.1 h1.2 h2.1 h2.2
  ·cases h
 ·cases h
theorem cdD {f:Nat}{g:List UInt8->Option (cT Dx×List Prop)}{args:List (Pat Dx)}{res:cT Dx}{ob:List Prop}(h:t1 g args=some (res,ob)) (hE:Enters Tryz.prog f)
 (hc:∀ l,g l=some (res,ob)->∀ w,Below w0.heap.size w0 w->Calls Tryz.prog f #[str l] w (WX bb lo w0 w res)):jF (Cx bb lo w0) (.call f) args res:=by
 refine⟨hE,fun w vs hb hvs=>?_⟩;unfold t1 at h;split at h
 ·rename_i l;obtain⟨v,_,rfl,h1,rfl⟩:=hvs;have h1:[v]=[str l]:=h1;injection h1 with h1 _
  subst h1;exact hc l h w hb
 ·cases h
theorem rob_r {w w':World}{v:Value}{r:Rat}{k:Nat}(h:Sym.RQ w' v r) (z:Siz r k):WD (Cx true lo w0) w w' (rr r k) v:=by
 intro S hS w'' hs hk;have h1:=rqK h (cbx (b:=true) rfl hS hk);obtain⟨a,b,h2,h3,h4⟩:=h1;refine⟨[_,a,b],⟨?_,rfl⟩,h2⟩;show DIs w'' (.rq r k) ([_,a,b].take 3);exact .rq rfl ⟨a,b,rfl,h3,h4⟩ z
theorem Uy {w:World}{r:Rat}{k:Nat}(z:Siz r k) {e:Ending}{w':World}(h:Sym.RNew w r e w'):WX true lo w0 w (rr r k) e w':=by
 obtain⟨v,he,hv,hb⟩:=h;exact⟨v,he,hb,rob_r hv z⟩
theorem Yl (l:List UInt8) (h:l.length<=60):Siz (jD l).1 4:=Siz.read l (L:=60) h (by decide) (by decide)
theorem tabR_ok (hG:Gr w0) {f:Nat}{F:Con}{args:List (Pat Dx)}{res:cT Dx}{ob:List Prop}(hF:find f tabR=some F) (hres:F args=some (res,ob)) (ho:jk ob):jF (Cx true lo w0) (.call f) args res:=by
 have hG':∀ w,Below w0.heap.size w0 w->Gr w:=fun w hb=>hG.below hb hG.size;have hm:=kr hF;simp only[tabR,mem_cons,Prod.mk.injEq,List.not_mem_nil,or_false] at hm;rcases hm with⟨rfl,rfl⟩|⟨rfl,rfl⟩|⟨rfl,rfl⟩|⟨rfl,rfl⟩|⟨rfl,rfl⟩|⟨rfl,rfl⟩|⟨rfl,rfl⟩|⟨rfl,rfl⟩|⟨rfl,rfl⟩|⟨rfl,rfl⟩|⟨rfl,rfl⟩|⟨rfl,rfl⟩|⟨rfl,rfl⟩|⟨rfl,rfl⟩
 ·refine Uu hres (enters_of Tryz.func116 (by kernel_rfl) rfl) (fun r j s k h w v1 v2 hb a1 z1 a2 z2=>?_);obtain⟨hk,rfl⟩:=yP h ho;exact(Sym.radd_q v1 v2 r s (j+k+1) w a1 a2 (z1.le (by omega)) (z2.le (by omega)) (by omega)).mono fun _ _ h=>Uy (z1.add z2) h
 ·refine Uu hres (enters_of Tryz.func123 (by kernel_rfl) rfl) (fun r j s k h w v1 v2 hb a1 z1 a2 z2=>?_);obtain⟨hk,rfl⟩:=yP h ho;exact(Sym.rsub_q v1 v2 r s (j+k+1) w a1 a2 (z1.le (by omega)) (z2.le (by omega)) (by omega)).mono fun _ _ h=>Uy (z1.sub z2) h
 ·refine Uu hres (enters_of Tryz.func117 (by kernel_rfl) rfl) (fun r j s k h w v1 v2 hb a1 z1 a2 z2=>?_);obtain⟨hk,rfl⟩:=yP h ho;exact(Sym.rmul_q v1 v2 r s (j+k) w a1 a2 (z1.le (by omega)) (z2.le (by omega)) (by omega)).mono fun _ _ h=>Uy (z1.mul z2) h
 ·refine Uu hres (enters_of Tryz.func72 (by kernel_rfl) rfl) (fun r j s k h w v1 v2 hb a1 z1 a2 z2=>?_);obtain⟨hk,rfl⟩:=yP h ho;exact(Sym.rcmp_q v1 v2 r s (j+k) w a1 a2 (z1.le (by omega)) (z2.le (by omega)) (by omega)).mono fun _ _ h=>⟨_,h.1,h.2,EI⟩
 ·refine Uu hres (enters_of Tryz.func54 (by kernel_rfl) rfl) (fun r j s k h w v1 v2 hb a1 z1 a2 z2=>?_);obtain⟨⟨hk,rfl⟩,rfl⟩:=yP h ho;exact(Sym.rmin_q v1 v2 r s k w a1 a2 z1 z2 hk).mono fun _ _ h=>Uy (Sym.minQ_siz z1 z2) h
 ·refine Uu hres (enters_of Tryz.func55 (by kernel_rfl) rfl) (fun r j s k h w v1 v2 hb a1 z1 a2 z2=>?_);obtain⟨⟨hk,rfl⟩,rfl⟩:=yP h ho;exact(Sym.rmax_q v1 v2 r s k w a1 a2 z1 z2 hk).mono fun _ _ h=>Uy (Sym.maxQ_siz z1 z2) h
 ·refine cdl hres (enters_of Tryz.func74 (by kernel_rfl) rfl) (fun r k h w v hb a1 z1=>?_);injection h with h;injection h with h _;subst h
  exact(Sym.rneg_q v r w a1).mono fun _ _ h=>Uy z1.neg h
 ·refine cdl hres (enters_of Tryz.func17 (by kernel_rfl) rfl) (fun r k h w v hb a1 z1=>?_);injection h with h;injection h with h _;subst h
  exact(Sym.rsign_q v r w a1).mono fun _ _ h=>⟨_,h.1,h.2,EI⟩
 ·refine cdl hres (enters_of Tryz.func73 (by kernel_rfl) rfl) (fun r k h w v hb a1 z1=>?_);injection h with h;injection h with h _;subst h
  exact(Sym.riszero_q v r w a1).mono fun _ _ h=>⟨_,h.1,h.2,EI⟩
 ·refine ent_i1 hres (enters_of Tryz.func61 (by kernel_rfl) rfl) (fun i h w hb=>?_);obtain⟨h0,rfl⟩:=yP h ho;exact(Sym.rint_q i h0.1 h0.2 w).mono fun _ _ h=>Uy (EH i h0.1 h0.2) h
 ·refine ent_qr2 hres (enters_of Tryz.func28 (by kernel_rfl) rfl) (fun r j s k h w v1 v2 hb a1 z1 a2 z2=>?_);obtain⟨hk,rfl⟩:=yP h ho;exact(Sym.same_ok v1 v2 r s (j+k) w a1 a2 (z1.le (by omega)) (z2.le (by omega)) (by omega)).mono fun _ _ h=>⟨_,h.1,h.2,EI⟩
 ·refine cdD hres (enters_of Tryz.func9 (by kernel_rfl) rfl) (fun l h w hb=>?_);obtain⟨hk,rfl⟩:=yP h ho;exact(cdP l w (by omega) (hG' w hb)).mono fun _ _ h=>Zh (Yl l hk) h
 ·refine cdD hres (enters_of Tryz.func10 (by kernel_rfl) rfl) (fun l h w hb=>?_);obtain⟨hk,rfl⟩:=yP h ho;exact(Sym.rat_ok l _ 4 w rfl (Yl l hk)).mono fun _ _ h=>Uy (Yl l hk) h
 ·refine cdD hres (enters_of Tryz.func8 (by kernel_rfl) rfl) (fun l h w hb=>?_);injection h with h;injection h with h _;subst h
  exact(Sym.long_ok l w).mono fun _ _ h=>⟨_,h.1,h.2,EI⟩
theorem CK {o:Oper}{op:BinOp}{t:Nat}{xs:List Operand}(h:kn o=some (.bin op t,xs)):∃ x y u,o.op=.binOp op t x y u/\xs=[x,y]:=by
 unfold kn at h;split at h<;>first
  |(rename_i h0;simp only[Option.some.injEq,Prod.mk.injEq,Hd.bin.injEq,reduceCtorEq,false_and] at h;try (obtain⟨⟨rfl,rfl⟩,rfl⟩:=h;exact⟨_,_,_,h0,rfl⟩))
  |(split at h<;>simp at h)
  |simp at h
theorem UZ {op:BinOp}{t:Nat}{i j:Int}{v:Value}(hr:∀ w,(Go.binOp op t (.int .i64 i) (.int .i64 j)).run Tryz.prog w=.ok v w):jF (Cx bb lo w0) (.bin op t) [.one (.lit (.int .i64 i)),.one (.lit (.int .i64 j))] (vr v):=by
 intro w ρ o xs ho hb hvs;obtain⟨x,y,u,hop,rfl⟩:=CK ho;obtain⟨v1,_,e1,h4,v2,_,e2,h5,e3⟩:=hvs;have h4:[v1]=[.int .i64 i]:=h4;have h5:[v2]=[.int .i64 j]:=h5;injection h4 with h4 _
 injection h5 with h5 _
 subst h4;subst h5;subst e3;subst e2;simp only[map_cons,List.map_nil,List.cons.injEq] at e1;obtain⟨ea,eb,_⟩:=e1;refine⟨v,w,?_,Below.refl _ _,EI⟩;have hg:(eqGuard op t x y (.int .i64 i) (.int .i64 j)).run Tryz.prog w=.ok () w:=by
  unfold eqGuard;cases op<;>rfl
 show (execOp ρ o).run Tryz.prog w=_;simp only[execOp,hop,ea,eb,run_bind,hg,hr w,andThen_ok];rfl
theorem ZZ {op : BinOp} {t : Nat} {b : Bool} {args : List (Pat Dx)} {res : cT Dx} {ob : List Prop} (h : cbt op b args = some (res, ob)) (ho : jk ob) : jF (Cx bb lo w0) (.bin op t) args res := by
  unfold cbt at h
  split at h
  · rename_i i j
    split at h
    · rename_i x hx
      injection h with h; injection h with h1 h2; subst h1; subst h2
      obtain rfl : x = b := ho.1
      refine UZ (fun w => ?_)
      cases op <;> simp only [cmpI, reduceCtorEq, Option.some.injEq] at hx <;> subst hx <;> first
        | rfl
        | (show Result.ok (Value.bool (!(decide (i = j)))) w = _
           simp)
    · cases h
  · cases h
theorem cgZ {t:Nat}{b:Bool}{args:List (Pat Dx)}{res:cT Dx}{ob:List Prop}(h:conNil t b args=some (res,ob)) (ho:jk ob):jF (Cx bb lo w0) (.bin .eql t) args res:=by
 unfold conNil at h;split at h
 ·rename_i L;split at h
  ·rename_i el hel;injection h with h;injection h with h1 h2;subst h1;subst h2
   obtain⟨h3,h4,_⟩:=ho;have h3:b=false:=h3;have h4:0<L.n:=h4;subst h3;intro w ρ o xs ho hb hvs;obtain⟨x,y,u,hop,rfl⟩:=CK ho;obtain⟨v1,_,e1,h5,v2,_,e2,h6,e3⟩:=hvs;have h5:DIs w (.ls L) [v1]:=h5;have h6:[v2]=[.slice none 0 0]:=h6;injection h6 with h6 _
   subst h6;subst e3;subst e2;simp only[map_cons,List.map_nil,List.cons.injEq] at e1;obtain⟨ea,eb,_⟩:=e1;refine⟨.bool false,w,?_,Below.refl _ _,EI⟩;cases h5 with
   |nil h=>omega
   |ls k o' c arr pre vs rest =>
    have hg:(eqGuard .eql t x y (.slice (some ⟨k,o',none⟩) L.n c) (.slice none 0 0)).run Tryz.prog w=.ok () w:=rfl;have he:(Go.binOp .eql t (.slice (some ⟨k,o',none⟩) L.n c) (.slice none 0 0)).run Tryz.prog w=.ok (.bool false) w:=by
     have h0:(Op.equalIn (9999+1) t (.slice (some ⟨k,o',none⟩) L.n c) (.slice none 0 0)).run Tryz.prog w=.ok false w:=by
      generalize 9999=d;simp [Op.equalIn,run_underlying hel]
     have h1:(Op.equal t (.slice (some ⟨k,o',none⟩) L.n c) (.slice none 0 0)).run Tryz.prog w=.ok false w:=h0;simp [Go.binOp,h1]
    show (execOp ρ o).run Tryz.prog w=_;simp only[execOp,hop,ea,eb,run_bind,hg,he,andThen_ok];rfl
  ·cases h
 ·cases h
theorem cgQ {t:Nat}{b:Bool}{args:List (Pat Dx)}{res:cT Dx}{ob:List Prop}(h:conEql t b args=some (res,ob)) (ho:jk ob):jF (Cx bb lo w0) (.bin .eql t) args res:=by
 unfold conEql at h;split at h
 ·rename_i r hr;injection h with h;subst h
  exact cgZ hr ho
 ·exact ZZ h ho
theorem ccg {op op':BinOp}{t:Nat}{args:List (Pat Dx)}{res:cT Dx}{ob:List Prop}(h:cfu op args=some (res,ob)) (ho:jk ob) (hop:op=op'):jF (Cx bb lo w0) (.bin op' t) args res:=by
 subst hop;unfold cfu at h;split at h
 ·rename_i i j;split at h
  ·injection h with h;injection h with h1 h2;subst h1;subst h2
   obtain⟨⟨h3,h4⟩,_⟩:=ho;refine UZ (fun w=>?_);show Result.ok (Value.int .i64 (IntKind.i64.wrap (i+j))) w=_;rw[show IntKind.i64.wrap (i+j)=i+j by rw[wrap_i64];omega]
  ·injection h with h;injection h with h1 h2;subst h1;subst h2
   obtain⟨⟨h3,h4⟩,_⟩:=ho;refine UZ (fun w=>?_);show Result.ok (Value.int .i64 (IntKind.i64.wrap (i-j))) w=_;rw[show IntKind.i64.wrap (i-j)=i-j by rw[wrap_i64];omega]
  ·cases h
 ·cases h
theorem cdN {t:Nat}{args:List (Pat Dx)}{res:cT Dx}{ob:List Prop}(h:cbo args=some (res,ob)) (ho:jk ob):jF (Cx bb lo w0) (.bin .sub t) args res:=by
 unfold cbo at h;split at h
 ·rename_i i j;injection h with h;injection h with h1 h2;subst h1;subst h2
  obtain⟨h3,h4,_⟩:=ho;refine UZ (fun w=>?_);have h3:j<=i:=h3;have h4:i<=1000000000:=h4;have e:(Int.ofNat i:Int)-Int.ofNat j=Int.ofNat (i-j):=by
   show (i:Int)-(j:Int)=((i-j:Nat):Int);omega
  show Result.ok (Value.int .i64 (IntKind.i64.wrap (Int.ofNat i-Int.ofNat j))) w=_;rw[e,show IntKind.i64.wrap (Int.ofNat (i-j))=Int.ofNat (i-j) by
   rw[wrap_i64];have:(Int.ofNat (i-j):Int)=((i-j:Nat):Int):=rfl;omega]
 ·cases h
theorem cfB {o:Oper}{s d:Nat}{xs:List Operand}(h:kn o=some (.cv s d,xs)):∃ x,o.op=.convert s d x/\xs=[x]:=by
 unfold kn at h;split at h<;>first
  |(rename_i h0;simp only[Option.some.injEq,Prod.mk.injEq,Hd.cv.injEq,reduceCtorEq,false_and] at h;try (obtain⟨⟨rfl,rfl⟩,rfl⟩:=h;exact⟨_,h0,rfl⟩))
  |(split at h<;>simp at h)
  |simp at h
theorem ent_cv {s d:Nat}{k k':IntKind}{i:Int}(hs:(Tryz.prog.underlying s).isSome=true) (hd:Tryz.prog.underlying d=some (.int (Tryz.prog.intKind d))) (hk:Tryz.prog.intKind d=k') (hw:k'.wrap i=i):jF (Cx bb lo w0) (.cv s d) [.one (.lit (.int k i))] (vr (.int k' i)):=by
 intro w ρ o xs ho hb hvs;obtain⟨x,hop,rfl⟩:=cfB ho;obtain⟨v1,_,e1,h4,e2⟩:=hvs;have h4:[v1]=[.int k i]:=h4;injection h4 with h4 _
 subst h4;subst e2;simp only[map_cons,List.map_nil,List.cons.injEq] at e1;obtain⟨ea,_⟩:=e1;refine⟨_,w,?_,Below.refl _ _,EI⟩;show (execOp ρ o).run Tryz.prog w=_;simp only[execOp,hop,ea,run_bind,run_convert_int _ _ _ _ _ hs hd,hk,hw,andThen_ok];rfl
theorem cfK {args:List (Pat Dx)}{res:cT Dx}{ob:List Prop}(h:ceg args=some (res,ob)) (ho:jk ob):jF (Cx bb lo w0) (.cv 3 133) args res:=by
 unfold ceg at h;split at h
 ·rename_i i;injection h with h;injection h with h1 h2;subst h1;subst h2
  have h3:i<=4000000000:=ho.1;refine ent_cv (by kernel_rfl) (by kernel_rfl) (by kernel_rfl) ?_;rw[wrap_u64];have:(Int.ofNat i:Int)=((i:Nat):Int):=rfl;omega
 ·cases h
theorem chc {args:List (Pat Dx)}{res:cT Dx}{ob:List Prop}(h:ceh args=some (res,ob)) (ho:jk ob):jF (Cx bb lo w0) (.cv 133 3) args res:=by
 unfold ceh at h;split at h
 ·rename_i i;injection h with h;injection h with h1 h2;subst h1;subst h2
  have h3:i<=4000000000:=ho.1;refine ent_cv (by kernel_rfl) (by kernel_rfl) (by kernel_rfl) ?_;rw[wrap_i64];have:(Int.ofNat i:Int)=((i:Nat):Int):=rfl;omega
 ·cases h
theorem cdf {t:Nat}{args:List (Pat Dx)}{res:cT Dx}{ob:List Prop}(h:cbv args=some (res,ob)):jF (Cx bb lo w0) (.bin .shr t) args res:=by
 unfold cbv at h;split at h
 ·rename_i i j;split at h
  ·rename_i hj;obtain rfl:=eq_of_beq_eq_true hj;injection h with h;injection h with h1 h2;subst h1;subst h2
   intro w ρ o xs ho hb hvs;obtain⟨x,y,u,hop,rfl⟩:=CK ho;obtain⟨v1,_,e1,h4,v2,_,e2,h5,e3⟩:=hvs;have h4:[v1]=[.int .u64 (.ofNat i)]:=h4;have h5:[v2]=[.int .u64 (.ofNat 1)]:=h5;injection h4 with h4 _
   injection h5 with h5 _
   subst h4;subst h5;subst e3;subst e2;simp only[map_cons,List.map_nil,List.cons.injEq] at e1;obtain⟨ea,eb,_⟩:=e1;refine⟨.int .u64 (.ofNat (i/2)),w,?_,Below.refl _ _,EI⟩;have hg:(eqGuard .shr t x y (.int .u64 (.ofNat i)) (.int .u64 (.ofNat 1))).run Tryz.prog w=.ok () w:=rfl;show (execOp ρ o).run Tryz.prog w=_;simp only[execOp,hop,ea,eb,run_bind,hg,andThen_ok,binOp_shr];show Result.ok (Next.value (Value.int .u64 (Int.fdiv (Int.ofNat i) (2^1)))) w=_;rw[show Int.fdiv (Int.ofNat i) (2^1)=Int.ofNat (i/2) by
    show Int.fdiv ((i:Nat):Int) 2=((i/2:Nat):Int);rw[Int.fdiv_eq_ediv_of_nonneg _ (by omega)];rfl]
  ·cases h
 ·cases h
def EN (bb:Bool) (lo:Nat) (w0:World) (l:List (Nat×Con)):Prop:=∀ f F,find f l=some F->∀ args res ob,F args=some (res,ob)->jk ob->jF (Cx bb lo w0) (.call f) args res
theorem kA:EN bb lo w0 []:=fun f F h=>by simp [cI] at h
theorem ji {g:Nat}{G:Con}{l:List (Nat×Con)}(h:∀ args res ob,G args=some (res,ob)->jk ob->jF (Cx bb lo w0) (.call g) args res) (k:EN bb lo w0 l):EN bb lo w0 ((g,G)::l):=fun f F hF args res ob hr ho=>by
 rw[cw] at hF;split at hF
 ·rename_i hb;injection hF with hF;subst hF
  rw[← eq_of_beq_eq_true hb];exact h args res ob hr ho
 ·exact k f F hF args res ob hr ho
theorem ty_ok (hG:Gr w0) {o:Opt}(hE:EN true lo w0 o.ex) (g:FuncId):(TY o g).Ok (Cx true lo w0):=by
 intro n hd F args res ob hF hres ho;unfold TY at hF;split at hF
 ·rename_i f;have key:∀ F,callT o f=some F->∀ res ob,F args=some (res,ob)->jk ob->jF (Cx true lo w0) (.call f) args res:=by
   intro F hF res ob hr ho;unfold callT at hF;split at hF
   ·rename_i h1;injection hF with hF;subst hF
    exact hE _ _ h1 _ _ _ hr ho
   ·split at hF
    ·rename_i h1;injection hF with hF;subst hF
     exact ceM hG h1 hr ho
    ·exact tabR_ok hG hF hr ho
  split at hF
  ·rename_i G hG;split at hF
   ·rename_i b hb;injection hF with hF;subst hF
    unfold conAns at hres;split at hres
    ·rename_i x ob' hx;injection hres with hres;injection hres with h1 h2;subst h1;subst h2
     have:=key G hG _ _ hx ho.2;rw[show x=b from ho.1] at this;exact this
    ·exact key G hG _ _ hres ho
   ·injection hF with hF;subst hF
    exact key _ hG _ _ hres ho
  ·cases hF
 ·split at hF
  ·injection hF with hF;subst hF
   cases hres
  ·cases hF
 ·split at hF
  ·split at hF
   ·injection hF with hF;subst hF
    exact cdN hres ho
   ·injection hF with hF;subst hF
    exact cgQ hres ho
   ·injection hF with hF;subst hF
    exact ZZ hres ho
  ·split at hF
   ·injection hF with hF;subst hF
    exact ccg hres ho rfl
   ·injection hF with hF;subst hF
    exact ccg hres ho rfl
   ·injection hF with hF;subst hF
    exact cdf hres
   ·cases hF
 ·rename_i s t;split at hF
  ·rename_i h1;split at hF
   ·rename_i h2;injection hF with hF;subst hF
    rw[eq_of_beq_eq_true h1,eq_of_beq_eq_true h2];exact cfK hres ho
   ·cases hF
  ·split at hF
   ·rename_i h1;split at hF
    ·rename_i h2;injection hF with hF;subst hF
     rw[eq_of_beq_eq_true h1,eq_of_beq_eq_true h2];exact chc hres ho
    ·cases hF
   ·cases hF
 ·cases hF
theorem cbm (hlo : lo ≤ w0.heap.size) (hG : Gr w0) (hN : ∀ (f : Nat) (fn : Func), Tryz.prog.funcs[f]? = some fn → (fn.name == "runtime.NumGoroutine") = false) {o : Opt} (hE : EN true lo w0 o.ex) : Ck (Cx true lo w0) (TY o) := ⟨cx_ok hlo, hN, ty_ok hG hE⟩
end
end Pe
end Go.Proofs.YtobfdjojhfpakaaGreatDoor
