/- Part 28. -/
import Derived.Test.YtdopipkmcnkdjaaGreatDoorE27
set_option linter.all false
noncomputable section

namespace Go.Proofs.YtdopipkmcnkdjaaGreatDoor
open Go Go.RowKit Go.Proofs Lim
namespace Sym
section
variable {csz:List Nat}{numc:List Bool}{okT:List Nat}{nt:Nat}{cl:List Cl}{w0:World}{w:World}{v z:Value}{p1 p2 p3 p4:Pat}{res:jH}{c d c1 c2 c3 c4 c5 c6:Nat}{a b l:List UInt8}{r s:Rat}{k k1 k2 k3:Nat}{i j:Int}
theorem e_rread (h1:PV csz numc okT nt cl w0 p1 (str l)) (hr:(kG l).1=r) (hi:(kG l).2=i) (z:Siz r k) (h3:cl[c3]?=some (clR r k)) {q:Pat}(hq:∀ w,q.is (mkC csz numc okT nt cl w0) w (ii i)):V csz numc okT nt cl w0 (.call 51) [p1] (.tup [rq c3,q]):=by
 refine⟨cY Tryz.func51 (by kernel_rfl) rfl,fun w vs hb hvs=>?_⟩;obtain⟨v1,_,rfl,h4,rfl⟩:=hvs;obtain rfl:=h1 _ _ h4;refine(cml l w).mono ?_;rintro e w' ⟨v,rfl,hv,hb'⟩;rw[hr] at hv;rw[hi];exact⟨_,rfl,⟨_,⟨_,_,rfl,(yL h3).2 ⟨hv,z⟩,_,_,rfl,hq w',rfl⟩,rfl⟩,hb'⟩
end
end Sym
namespace Sym
theorem rat_ok (l:List UInt8) (r:Rat) (k:Nat) (w:World) (hr:(kG l).1=r) (z:Siz r k):Calls Tryz.prog 19 #[str l] w (RNew w r):=by
 have hC:(mkC [1,3,1] [true,true,true] [40] 11 [clV (str l),clR r k,clV (ii (kG l).2)] w).Ok:=uw (cn (yU _) (cn (zW yk _ _) (cn (kx _) kr))) rfl rfl;have hT:∀ t∈([⟨.call 51,[op 0],.tup [rq 1,op 2]⟩]:List Ent),t.Valid (mkC [1,3,1] [true,true,true] [40] 11 [clV (str l),clR r k,clV (ii (kG l).2)] w) :=
  ce (e_rread (pv rfl) hr rfl z rfl (fun _=>(yB rfl).2 rfl)) cj
 refine(kM hC hT 19 Tryz.f19 [op 0] (.val (rq 1)) 60 Tryz.func19 rfl rfl rfl (by kernel_rfl) [str l] ⟨_,_,rfl,(yB rfl).2 rfl,rfl⟩).mono ?_;rintro e w' ⟨v,rfl,hv,hb⟩;exact⟨v,rfl,((yL rfl).1 hv).1,hb⟩
end Sym
namespace Pe
structure Opt where
 ors:List (Nat×Nat×Bool)
 gls:List (Nat×Nat)
 ex:List (Nat×Con)
def cej (f d:Nat):List (Nat×Nat×Bool)->Option Bool
 |[]=>none
 |(g,t,b)::l=>match Nat.beq g f with
  |true=>match Nat.beq t d with
   |true=>some b
   |false=>cej f d l
  |false=>cej f d l
def clB (f d:Nat):List (Nat×Nat)->Bool
 |[]=>false
 |(g,t)::l=>match Nat.beq g f with
  |true=>match Nat.beq t d with
   |true=>true
   |false=>clB f d l
  |false=>clB f d l
def tabR:List (Nat×Con):=[
 (30,r2 fun r j s k=>ck false (j+k<=10000) (vr (.int .i64 (jk r s)))),
 (61,r2 fun r j s k=>ck false (j<=5000/\k=j) (rr (Sym.minQ r s) j)),
 (60,r2 fun r j s k=>ck false (j<=5000/\k=j) (rr (Sym.maxQ r s) j)),
 (53,r1 fun r _=>some (vr (.int .i64 (yK r)),[])),
 (64,qr2 fun r j s k=>ck false (j+k<=1000000) (vr (.bool (decide (r=s))))),
 (20,t1 fun l=>ck false (l.length<=60) (qr (kG l).1 4)),
 (19,t1 fun l=>ck false (l.length<=60) (rr (kG l).1 4)),
 (0,fun _=>none)]
def cmpI:BinOp->Int->Int->Option Bool
 |.lss,i,j=>some (decide (i<j))
 |.leq,i,j=>some (decide (i<=j))
 |.gtr,i,j=>some (decide (i>j))
 |.geq,i,j=>some (decide (i>=j))
 |.eql,i,j=>some (decide (i=j))
 |.neq,i,j=>some (decide (i≠j))
 |_,_,_=>none
def cfS (op:BinOp) (b:Bool):Con
 |[.one (.lit (.int .i64 i)),.one (.lit (.int .i64 j))]=>match cmpI op i j with
  |some x=>some (vr (.bool b),[x=b])
  |none=>none
 |[.one (.lit (.int .u8 i)),.one (.lit (.int .u8 j))]=>match cmpI op i j with
  |some x=>some (vr (.bool b),[x=b])
  |none=>none
 |_=>none
def cds (op:BinOp):Con
 |[.one (.lit (.int .i64 i)),.one (.lit (.int .i64 j))]=>match op with
  |.add=>some (vr (.int .i64 (i+j)),[Gd (i+j)])
  |.sub=>some (vr (.int .i64 (i-j)),[Gd (i-j)])
  |.mul=>some (vr (.int .i64 (i*j)),[Gd (i*j)])
  |_=>none
 |_=>none
def cfJ:Con
 |[.one (.lit (.int .i64 (.ofNat i))),.one (.lit (.int .i64 (.ofNat j)))]=>some (vr (.int .i64 (.ofNat (i-j))),[j<=i,i<=1000000000])
 |_=>none
def cgf:Con
 |[.one (.lit (.int .i64 (.ofNat i)))]=>some (vr (.int .u64 (.ofNat i)),[i<=4000000000])
 |_=>none
def ccx:Con
 |[.one (.lit (.int .i64 (.ofNat i))),.one (.lit (.int .u64 (.ofNat j)))]=>some (vr (.int .i64 (.ofNat (i/2^j))),[j<=62])
 |_=>none
def ciH:Con:=ccx
def cgA:Con
 |[.one (.lit (.int .i64 (.ofNat i))),.one (.lit (.int .u64 (.ofNat j)))]=>some (vr (.int .i64 (.ofNat (i*2^j))),[j<=62,i*2^j<=9223372036854775807])
 |_=>none
def cgq:Con
 |[.one (.lit (.int .i64 (.ofNat i))),.one (.lit (.int .i64 (.ofNat j)))]=>match Nat.beq j 1 with
  |true=>some (vr (.int .i64 (.ofNat (i%2))),[i<=9223372036854775807])
  |false=>none
 |_=>none
def cfm (b:Bool) (F:Con):Con:=fun l=>match F l with
 |some (.val (.one (.lit (.bool x))),ob)=>some (vr (.bool b),(x=b)::ob)
 |r=>r
def hdK (K f:Nat):Hd:=match Nat.ble K f with
 |true=>.mem (f-K)
 |false=>.call f
def hdOf (f:Nat):Hd:=hdK 1000000 f
def keyM (f:Nat):Nat:=f+1000000
theorem hdK_mem (K f:Nat):hdK K (f+K)=.mem f:=by
 unfold hdK;rw[Jp (Nat.le_add_left K f),Nat.add_sub_cancel]
theorem coN (f:Nat):hdOf (keyM f)=.mem f:=hdK_mem 1000000 f
theorem ZN {f:Nat}(h:Nat.ble 1000000 f=false):hdOf f=.call f:=by
 unfold hdOf hdK;rw[h]
def callT (o:Opt) (f:Nat):Option Con:=match find f o.ex with
 |some F=>match Nat.ble 1000000 f with
  |true=>none
  |false=>some F
 |none=>match find f (tabX false) with
  |some F=>some F
  |none=>find f tabR
noncomputable def TY (o:Opt):FuncId->Tab Dx:=fun fid d h=>match h with
 |.call f=>match callT o f with
  |some F=>match cej fid d o.ors with
   |some b=>some (cfm b F)
   |none=>some F
  |none=>none
 |.mem f=>find (keyM f) o.ex
 |.gl=>match clB fid d o.gls with
  |true=>some (fun _=>none)
  |false=>none
 |.bin op t=>match cej fid d o.ors with
  |some b=>match op with
   |.sub=>some cfJ
   |_=>some (cfS op b)
  |none=>match op with
   |.add=>some (cds .add)
   |.sub=>some (cds .sub)
   |.mul=>some (cds .mul)
   |.shr=>some ciH
   |.shl=>some cgA
   |.and=>some cgq
   |_=>none
 |.cv s t=>match Nat.beq s 3 with
  |true=>match Nat.beq t 87 with
   |true=>some cgf
   |false=>none
  |false=>none
 |_=>none
section
variable {bb:Bool}{lo:Nat}{w0:World}
theorem ent_r1 {f:Nat}{g:Rat->Nat->Option (jH Dx×List Prop)}{args:List (Pat Dx)}{res:jH Dx}{ob:List Prop}(h:r1 g args=some (res,ob)) (hE:Enters Tryz.prog f)
 (hc:∀ r k,g r k=some (res,ob)->∀ w v,Below w0.heap.size w0 w->Sym.RQ w v r->Siz r k->Calls Tryz.prog f #[v] w (cch bb lo w0 w res)):jG (Cx bb lo w0) (.call f) args res:=by
 refine⟨hE,fun w vs hb hvs=>?_⟩;unfold r1 at h;split at h
 ·split at h
  ·rename_i r k hq;obtain⟨v,_,rfl,h1,rfl⟩:=hvs;have h1:=cfF hq h1;exact hc r k h w v hb h1.1 h1.2
  ·cases h
 ·cases h
theorem cfH {f:Nat}{g:Rat->Nat->Rat->Nat->Option (jH Dx×List Prop)}{args:List (Pat Dx)}{res:jH Dx}{ob:List Prop}(h:r2 g args=some (res,ob)) (hE:Enters Tryz.prog f)
 (hc:∀ r j s k,g r j s k=some (res,ob)->∀ w v1 v2,Below w0.heap.size w0 w->Sym.RQ w v1 r->Siz r j->Sym.RQ w v2 s->Siz s k->Calls Tryz.prog f #[v1,v2] w (cch bb lo w0 w res)):jG (Cx bb lo w0) (.call f) args res:=by
 refine⟨hE,fun w vs hb hvs=>?_⟩;unfold r2 at h;split at h
 ·split at h
  ·rename_i r j s k hq hq';obtain⟨v1,_,rfl,h1,v2,_,rfl,h2,rfl⟩:=hvs;have h1:=cfF hq h1;have h2:=cfF hq' h2;exact hc r j s k h w v1 v2 hb h1.1 h1.2 h2.1 h2.2
  ·cases h
 ·cases h
theorem ent_qr2 {f:Nat}{g:Rat->Nat->Rat->Nat->Option (jH Dx×List Prop)}{args:List (Pat Dx)}{res:jH Dx}{ob:List Prop}(h:qr2 g args=some (res,ob)) (hE:Enters Tryz.prog f)
 (hc:∀ r j s k,g r j s k=some (res,ob)->∀ w v1 v2,Below w0.heap.size w0 w->IsQ w v1 r->Siz r j->Sym.RQ w v2 s->Siz s k->Calls Tryz.prog f #[v1,v2] w (cch bb lo w0 w res)):jG (Cx bb lo w0) (.call f) args res:=by
 refine⟨hE,fun w vs hb hvs=>?_⟩;unfold qr2 at h;split at h
 ·split at h
  ·rename_i r j s k hq hq';obtain⟨v1,_,rfl,h1,v2,_,rfl,h2,rfl⟩:=hvs;have h1:=ccQ hq h1;have h2:=cfF hq' h2;exact hc r j s k h w v1 v2 hb h1.1 h1.2 h2.1 h2.2
  ·cases h
 ·cases h
theorem ent_t1 {f:Nat}{g:List UInt8->Option (jH Dx×List Prop)}{args:List (Pat Dx)}{res:jH Dx}{ob:List Prop}(h:t1 g args=some (res,ob)) (hE:Enters Tryz.prog f)
 (hc:∀ l,g l=some (res,ob)->∀ w,Below w0.heap.size w0 w->Calls Tryz.prog f #[str l] w (cch bb lo w0 w res)):jG (Cx bb lo w0) (.call f) args res:=by
 refine⟨hE,fun w vs hb hvs=>?_⟩;unfold t1 at h;split at h
 ·rename_i l;obtain⟨v,_,rfl,h1,rfl⟩:=hvs;have h1:[v]=[str l]:=h1;injection h1 with h1 _
  subst h1;exact hc l h w hb
 ·cases h
theorem rob_r {w w':World}{v:Value}{r:Rat}{k:Nat}(h:Sym.RQ w' v r) (z:Siz r k):cdj (Cx true lo w0) w w' (rr r k) v:=by
 intro S hS w'' hs hk;have h1:=rqK h (cfQ (b:=true) rfl hS hk);obtain⟨a,b,h2,h3,h4⟩:=h1;refine⟨[_,a,b],⟨?_,rfl⟩,h2⟩;show DIs w'' (.rq r k) ([_,a,b].take 3);exact .rq rfl ⟨a,b,rfl,h3,h4⟩ z
theorem res_r {w:World}{r:Rat}{k:Nat}(z:Siz r k) {e:Ending}{w':World}(h:Sym.RNew w r e w'):cch true lo w0 w (rr r k) e w':=by
 obtain⟨v,he,hv,hb⟩:=h;exact⟨v,he,hb,rob_r hv z⟩
theorem cbU (l:List UInt8) (h:l.length<=60):Siz (kG l).1 4:=Siz.read l (L:=60) h (by decide) (by decide)
theorem tabR_ok (hG:Gr w0) {f:Nat}{F:Con}{args:List (Pat Dx)}{res:jH Dx}{ob:List Prop}(hF:find f tabR=some F) (hres:F args=some (res,ob)) (ho:jE ob):jG (Cx true lo w0) (.call f) args res:=by
 have hG':∀ w,Below w0.heap.size w0 w->Gr w:=fun w hb=>hG.below hb hG.size;have hm:=uY hF;simp only[tabR,uQ,cr,Zr,or_false] at hm;rcases hm with⟨rfl,rfl⟩|⟨rfl,rfl⟩|⟨rfl,rfl⟩|⟨rfl,rfl⟩|⟨rfl,rfl⟩|⟨rfl,rfl⟩|⟨rfl,rfl⟩|⟨rfl,rfl⟩
 ·refine cfH hres (cY Tryz.func30 (by kernel_rfl) rfl) (fun r j s k h w v1 v2 hb a1 z1 a2 z2=>?_);obtain⟨hk,rfl⟩:=Ug h ho;exact(Sym.rcmp_q v1 v2 r s (j+k) w a1 a2 (z1.le (by omega)) (z2.le (by omega)) (by omega)).mono fun _ _ h=>⟨_,h.1,h.2,Yf⟩
 ·refine cfH hres (cY Tryz.func61 (by kernel_rfl) rfl) (fun r j s k h w v1 v2 hb a1 z1 a2 z2=>?_);obtain⟨⟨hk,rfl⟩,rfl⟩:=Ug h ho;exact(Sym.rmin_q v1 v2 r s k w a1 a2 z1 z2 hk).mono fun _ _ h=>res_r (Sym.minQ_siz z1 z2) h
 ·refine cfH hres (cY Tryz.func60 (by kernel_rfl) rfl) (fun r j s k h w v1 v2 hb a1 z1 a2 z2=>?_);obtain⟨⟨hk,rfl⟩,rfl⟩:=Ug h ho;exact(Sym.rmax_q v1 v2 r s k w a1 a2 z1 z2 hk).mono fun _ _ h=>res_r (Sym.maxQ_siz z1 z2) h
 ·refine ent_r1 hres (cY Tryz.func53 (by kernel_rfl) rfl) (fun r k h w v hb a1 z1=>?_);injection h with h;injection h with h _;subst h
  exact(Sym.rsign_q v r w a1).mono fun _ _ h=>⟨_,h.1,h.2,Yf⟩
 ·refine ent_qr2 hres (cY Tryz.func64 (by kernel_rfl) rfl) (fun r j s k h w v1 v2 hb a1 z1 a2 z2=>?_);obtain⟨hk,rfl⟩:=Ug h ho;exact(Sym.same_ok v1 v2 r s (j+k) w a1 a2 (z1.le (by omega)) (z2.le (by omega)) (by omega)).mono fun _ _ h=>⟨_,h.1,h.2,Yf⟩
 ·refine ent_t1 hres (cY Tryz.func20 (by kernel_rfl) rfl) (fun l h w hb=>?_);obtain⟨hk,rfl⟩:=Ug h ho;exact(ciW l w (by omega) (hG' w hb)).mono fun _ _ h=>res_q (cbU l hk) h
 ·refine ent_t1 hres (cY Tryz.func19 (by kernel_rfl) rfl) (fun l h w hb=>?_);obtain⟨hk,rfl⟩:=Ug h ho;exact(Sym.rat_ok l _ 4 w rfl (cbU l hk)).mono fun _ _ h=>res_r (cbU l hk) h
 ·cases hres
theorem UQ {o:Oper}{op:BinOp}{t:Nat}{xs:List Operand}(h:uA o=some (.bin op t,xs)):∃ x y u,o.op=.binOp op t x y u/\xs=[x,y]:=by
 unfold uA at h;split at h<;>first
  |(rename_i h0;simp only[kJ,cr,Hd.bin.injEq,reduceCtorEq,GD] at h;try (obtain⟨⟨rfl,rfl⟩,rfl⟩:=h;exact⟨_,_,_,h0,rfl⟩))
  |(split at h<;>simp at h)
  |simp at h
theorem KJ {op:BinOp}{t:Nat}{k:IntKind}{i j:Int}{v:Value}(hr:∀ w,(Go.binOp op t (.int k i) (.int k j)).run Tryz.prog w=.ok v w):jG (Cx bb lo w0) (.bin op t) [.one (.lit (.int k i)),.one (.lit (.int k j))] (vr v):=by
 intro w ρ o xs ho hb hvs;obtain⟨x,y,u,hop,rfl⟩:=UQ ho;obtain⟨v1,_,e1,h4,v2,_,e2,h5,e3⟩:=hvs;have h4:[v1]=[.int k i]:=h4;have h5:[v2]=[.int k j]:=h5;injection h4 with h4 _
 injection h5 with h5 _
 subst h4;subst h5;subst e3;subst e2;simp only[jR,kW,yG] at e1;obtain⟨ea,eb,_⟩:=e1;refine⟨v,w,?_,cw _ _,Yf⟩;have hg:(eqGuard op t x y (.int k i) (.int k j)).run Tryz.prog w=.ok () w:=by
  unfold eqGuard;cases op<;>rfl
 show (execOp ρ o).run Tryz.prog w=_;simp only[execOp,hop,ea,eb,jc,hg,hr w,jC];rfl
theorem cek {op : BinOp} {t : Nat} {b : Bool} {args : List (Pat Dx)} {res : jH Dx} {ob : List Prop} (h : cfS op b args = some (res, ob)) (ho : jE ob) : jG (Cx bb lo w0) (.bin op t) args res := by
  unfold cfS at h
  split at h
  · rename_i i j
    split at h
    · rename_i x hx
      injection h with h; injection h with h1 h2; subst h1; subst h2
      obtain rfl : x = b := ho.1
      refine KJ (fun w => ?_)
      cases op <;> simp only [cmpI, reduceCtorEq, kJ] at hx <;> subst hx <;> first
        | rfl
        | (show Result.ok (Value.bool (!(decide (i = j)))) w = _
           simp)
    · cases h
  · rename_i i j
    split at h
    · rename_i x hx
      injection h with h; injection h with h1 h2; subst h1; subst h2
      obtain rfl : x = b := ho.1
      refine KJ (fun w => ?_)
      cases op <;> simp only [cmpI, reduceCtorEq, kJ] at hx <;> subst hx <;> first
        | rfl
        | (show Result.ok (Value.bool (!(decide (i = j)))) w = _
           simp)
    · cases h
  · cases h
theorem UX {op op':BinOp}{t:Nat}{args:List (Pat Dx)}{res:jH Dx}{ob:List Prop}(h:cds op args=some (res,ob)) (ho:jE ob) (hop:op=op'):jG (Cx bb lo w0) (.bin op' t) args res:=by
 subst hop;unfold cds at h;split at h
 ·rename_i i j;split at h
  ·injection h with h;injection h with h1 h2;subst h1;subst h2
   obtain⟨⟨h3,h4⟩,_⟩:=ho;refine KJ (fun w=>?_);show Result.ok (Value.int .i64 (IntKind.i64.wrap (i+j))) w=_;rw[show IntKind.i64.wrap (i+j)=i+j by rw[zH];omega]
  ·injection h with h;injection h with h1 h2;subst h1;subst h2
   obtain⟨⟨h3,h4⟩,_⟩:=ho;refine KJ (fun w=>?_);show Result.ok (Value.int .i64 (IntKind.i64.wrap (i-j))) w=_;rw[show IntKind.i64.wrap (i-j)=i-j by rw[zH];omega]
  ·injection h with h;injection h with h1 h2;subst h1;subst h2
   obtain⟨⟨h3,h4⟩,_⟩:=ho;refine KJ (fun w=>?_);show Result.ok (Value.int .i64 (IntKind.i64.wrap (i*j))) w=_;rw[show IntKind.i64.wrap (i*j)=i*j by rw[zH];omega]
  ·cases h
 ·cases h
theorem ciT {t:Nat}{args:List (Pat Dx)}{res:jH Dx}{ob:List Prop}(h:cfJ args=some (res,ob)) (ho:jE ob):jG (Cx bb lo w0) (.bin .sub t) args res:=by
 unfold cfJ at h;split at h
 ·rename_i i j;injection h with h;injection h with h1 h2;subst h1;subst h2
  obtain⟨h3,h4,_⟩:=ho;refine KJ (fun w=>?_);have h3:j<=i:=h3;have h4:i<=1000000000:=h4;have e:(Int.ofNat i:Int)-Int.ofNat j=Int.ofNat (i-j):=by
   show (i:Int)-(j:Int)=((i-j:Nat):Int);omega
  show Result.ok (Value.int .i64 (IntKind.i64.wrap (Int.ofNat i-Int.ofNat j))) w=_;rw[e,show IntKind.i64.wrap (Int.ofNat (i-j))=Int.ofNat (i-j) by
   rw[zH];have:(Int.ofNat (i-j):Int)=((i-j:Nat):Int):=rfl;omega]
 ·cases h
theorem clf {o:Oper}{s d:Nat}{xs:List Operand}(h:uA o=some (.cv s d,xs)):∃ x,o.op=.convert s d x/\xs=[x]:=by
 unfold uA at h;split at h<;>first
  |(rename_i h0;simp only[kJ,cr,Hd.cv.injEq,reduceCtorEq,GD] at h;try (obtain⟨⟨rfl,rfl⟩,rfl⟩:=h;exact⟨_,h0,rfl⟩))
  |(split at h<;>simp at h)
  |simp at h
theorem ent_cv {s d:Nat}{k k':IntKind}{i:Int}(hs:(Tryz.prog.underlying s).isSome=true) (hd:Tryz.prog.underlying d=some (.int (Tryz.prog.intKind d))) (hk:Tryz.prog.intKind d=k') (hw:k'.wrap i=i):jG (Cx bb lo w0) (.cv s d) [.one (.lit (.int k i))] (vr (.int k' i)):=by
 intro w ρ o xs ho hb hvs;obtain⟨x,hop,rfl⟩:=clf ho;obtain⟨v1,_,e1,h4,e2⟩:=hvs;have h4:[v1]=[.int k i]:=h4;injection h4 with h4 _
 subst h4;subst e2;simp only[jR,kW,yG] at e1;obtain⟨ea,_⟩:=e1;refine⟨_,w,?_,cw _ _,Yf⟩;show (execOp ρ o).run Tryz.prog w=_;simp only[execOp,hop,ea,jc,run_convert_int _ _ _ _ _ hs hd,hk,hw,jC];rfl
theorem cev {args:List (Pat Dx)}{res:jH Dx}{ob:List Prop}(h:cgf args=some (res,ob)) (ho:jE ob):jG (Cx bb lo w0) (.cv 3 87) args res:=by
 unfold cgf at h;split at h
 ·rename_i i;injection h with h;injection h with h1 h2;subst h1;subst h2
  have h3:i<=4000000000:=ho.1;refine ent_cv (by kernel_rfl) (by kernel_rfl) (by kernel_rfl) ?_;rw[zA];have:(Int.ofNat i:Int)=((i:Nat):Int):=rfl;omega
 ·cases h
theorem cad {op:BinOp}{k':IntKind}{i j:Nat}{t:Nat}{v:Value}(hj:j<=62) (h:op=.shr/\v=.int .i64 (.ofNat (i/2^j))\/op=.shl/\i*2^j<=9223372036854775807/\v=.int .i64 (.ofNat (i*2^j))) {w:World}:(Go.binOp op t (.int .i64 (.ofNat i)) (.int k' (.ofNat j))).run Tryz.prog w=.ok v w:=by
 have hn:¬ (Int.ofNat j:Int)<0:=by show ¬ ((j:Nat):Int)<0;omega
 have hm:min (Int.ofNat j).toNat IntKind.i64.bits=j:=by
  show min j 64=j;omega
 have hp:((2:Int)^j)=((2^j:Nat):Int):=by rw[Int.natCast_pow];rfl
 rcases h with⟨rfl,rfl⟩|⟨rfl,hb,rfl⟩
 ·rw[binOp_shr,Op.shift,cg hn,hm];show Result.ok (Value.int .i64 (Int.fdiv (Int.ofNat i) (2^j))) w=_;rw[hp,Int.fdiv_eq_ediv_of_nonneg _ (ccS _)];rfl
 ·rw[binOp_shl,Op.shift,cg hn,hm];show Result.ok (Value.int .i64 (IntKind.i64.wrap (Int.ofNat i*2^j))) w=_;rw[hp,show (Int.ofNat i:Int)*((2^j:Nat):Int)=Int.ofNat (i*2^j) from(uv i (2^j)).symm];generalize i*2^j=m at hb ⊢;rw[show IntKind.i64.wrap (Int.ofNat m)=Int.ofNat m by
   rw[zH];have:(Int.ofNat m:Int)=((m:Nat):Int):=rfl;omega]
theorem cdg {op:BinOp}{t:Nat}{k k':IntKind}{i j:Int}{v:Value}(hop:op=.shr\/op=.shl) (hr:∀ w,(Go.binOp op t (.int k i) (.int k' j)).run Tryz.prog w=.ok v w):jG (Cx bb lo w0) (.bin op t) [.one (.lit (.int k i)),.one (.lit (.int k' j))] (vr v):=by
 intro w ρ o xs ho hb hvs;obtain⟨x,y,u,h0,rfl⟩:=UQ ho;obtain⟨v1,_,e1,h4,v2,_,e2,h5,e3⟩:=hvs;have h4:[v1]=[.int k i]:=h4;have h5:[v2]=[.int k' j]:=h5;injection h4 with h4 _
 injection h5 with h5 _
 subst h4;subst h5;subst e3;subst e2;simp only[jR,kW,yG] at e1;obtain⟨ea,eb,_⟩:=e1;refine⟨v,w,?_,cw _ _,Yf⟩;have hg:(eqGuard op t x y (.int k i) (.int k' j)).run Tryz.prog w=.ok () w:=by rcases hop with rfl|rfl<;>rfl
 show (execOp ρ o).run Tryz.prog w=_;simp only[execOp,h0,ea,eb,jc,hg,hr w,jC];rfl
theorem cmm {t:Nat}{args:List (Pat Dx)}{res:jH Dx}{ob:List Prop}(h:ciH args=some (res,ob)) (ho:jE ob):jG (Cx bb lo w0) (.bin .shr t) args res:=by
 unfold ciH ccx at h;split at h
 ·injection h with h;injection h with h1 h2;subst h1;subst h2
  exact cdg (.inl rfl) (fun w=>cad ho.1 (.inl ⟨rfl,rfl⟩))
 ·cases h
theorem cfd {t:Nat}{args:List (Pat Dx)}{res:jH Dx}{ob:List Prop}(h:cgA args=some (res,ob)) (ho:jE ob):jG (Cx bb lo w0) (.bin .shl t) args res:=by
 unfold cgA at h;split at h
 ·injection h with h;injection h with h1 h2;subst h1;subst h2
  exact cdg (.inr rfl) (fun w=>cad ho.1 (.inr ⟨rfl,ho.2.1,rfl⟩))
 ·cases h
theorem ceu {t:Nat}{args:List (Pat Dx)}{res:jH Dx}{ob:List Prop}(h:cgq args=some (res,ob)) (ho:jE ob):jG (Cx bb lo w0) (.bin .and t) args res:=by
 unfold cgq at h;split at h
 ·rename_i i j;split at h
  ·rename_i hj;obtain rfl:=ct hj;injection h with h;injection h with h1 h2;subst h1;subst h2
   have hi:i<=9223372036854775807:=ho.1;refine KJ (fun w=>?_);rw[binOp_and];have e:=bits_nat .i64 63 (by decide) (fun n h1 h2=>by rw[zH];omega) i 1 (by omega) (by decide);exact cQ (fun z=>Result.ok (Value.int .i64 z) w) (e.1.trans (by rw[Nat.and_one_is_mod];rfl))
  ·cases h
 ·cases h
def zv (bb:Bool) (lo:Nat) (w0:World) (l:List (Nat×Con)):Prop:=∀ f F,find f l=some F->∀ hd,hdOf f=hd->∀ args res ob,F args=some (res,ob)->jE ob->jG (Cx bb lo w0) hd args res
theorem kg:zv bb lo w0 []:=fun f F h=>by simp [jl] at h
theorem cnX {g:Nat}{G:Con}{l:List (Nat×Con)}{hg:Hd}(hh:hdOf g=hg) (h:∀ args res ob,G args=some (res,ob)->jE ob->jG (Cx bb lo w0) hg args res) (k:zv bb lo w0 l):zv bb lo w0 ((g,G)::l):=fun f F hF hd hd' args res ob hr ho=>by
 rw[cX] at hF;split at hF
 ·rename_i hb;injection hF with hF;subst hF
  rw[← ct hb,hh] at hd';subst hd';exact h args res ob hr ho
 ·exact k f F hF hd hd' args res ob hr ho
theorem jg {g:Nat}{G:Con}{l:List (Nat×Con)}(h:∀ args res ob,G args=some (res,ob)->jE ob->jG (Cx bb lo w0) (.call g) args res) (k:zv bb lo w0 l) (hg:Nat.ble 1000000 g=false:=by rfl):zv bb lo w0 ((g,G)::l):=cnX (ZN hg) h k
theorem ty_ok (hG:Gr w0) {o:Opt}(hE:zv true lo w0 o.ex) (g:FuncId):(TY o g).Ok (Cx true lo w0):=by
 intro n hd F args res ob hF hres ho;unfold TY at hF;split at hF
 ·rename_i f;have key:∀ F,callT o f=some F->∀ res ob,F args=some (res,ob)->jE ob->jG (Cx true lo w0) (.call f) args res:=by
   intro F hF res ob hr ho;unfold callT at hF;split at hF
   ·rename_i h1;split at hF
    ·cases hF
    ·rename_i hg;injection hF with hF;subst hF
     exact hE _ _ h1 _ (ZN hg) _ _ _ hr ho
   ·split at hF
    ·rename_i h1;injection hF with hF;subst hF
     exact cfp hG h1 hr ho
    ·exact tabR_ok hG hF hr ho
  split at hF
  ·rename_i G hG;split at hF
   ·rename_i b hb;injection hF with hF;subst hF
    unfold cfm at hres;split at hres
    ·rename_i x ob' hx;injection hres with hres;injection hres with h1 h2;subst h1;subst h2
     have:=key G hG _ _ hx ho.2;rw[show x=b from ho.1] at this;exact this
    ·exact key G hG _ _ hres ho
   ·injection hF with hF;subst hF
    exact key _ hG _ _ hres ho
  ·cases hF
 ·rename_i f;exact hE (keyM f) F hF (.mem f) (coN f) args res ob hres ho
 ·split at hF
  ·injection hF with hF;subst hF
   cases hres
  ·cases hF
 ·split at hF
  ·split at hF
   ·injection hF with hF;subst hF
    exact ciT hres ho
   ·injection hF with hF;subst hF
    exact cek hres ho
  ·split at hF
   ·injection hF with hF;subst hF
    exact UX hres ho rfl
   ·injection hF with hF;subst hF
    exact UX hres ho rfl
   ·injection hF with hF;subst hF
    exact UX hres ho rfl
   ·injection hF with hF;subst hF
    exact cmm hres ho
   ·injection hF with hF;subst hF
    exact cfd hres ho
   ·injection hF with hF;subst hF
    exact ceu hres ho
   ·cases hF
 ·rename_i s t;split at hF
  ·rename_i h1;split at hF
   ·rename_i h2;injection hF with hF;subst hF
    rw[ct h1,ct h2];exact cev hres ho
   ·cases hF
  ·cases hF
 ·cases hF
theorem ZL (hlo : lo ≤ w0.heap.size) (hG : Gr w0) (hN : ∀ (f : Nat) (fn : Func), Tryz.prog.funcs[f]? = some fn → (fn.name == "runtime.NumGoroutine") = false) {o : Opt} (hE : zv true lo w0 o.ex) : zt (Cx true lo w0) (TY o) := ⟨ceD hlo, hN, ty_ok hG hE⟩
end
end Pe
end Go.Proofs.YtdopipkmcnkdjaaGreatDoor
