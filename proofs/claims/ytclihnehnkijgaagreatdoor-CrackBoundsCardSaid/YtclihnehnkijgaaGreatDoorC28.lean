/- Part 28. -/
import Derived.Test.YtclihnehnkijgaaGreatDoorC27
set_option linter.all false
noncomputable section

namespace Go.Proofs.YtclihnehnkijgaaGreatDoor
open Go Go.RowKit Go.Proofs Lim
namespace Sym
section
variable {csz:List Nat}{numc:List Bool}{okT:List Nat}{nt:Nat}{cl:List Cl}{w0:World}{w:World}{v z:Value}{p1 p2 p3 p4:Pat}{res:jE}{c d c1 c2 c3 c4 c5 c6:Nat}{a b l:List UInt8}{r s:Rat}{k k1 k2 k3:Nat}{i j:Int}
theorem e_rread (h1:PV csz numc okT nt cl w0 p1 (str l)) (hr:(jN l).1=r) (hi:(jN l).2=i) (z:Siz r k) (h3:cl[c3]?=some (clR r k)) {q:Pat}(hq:∀ w,q.is (mkC csz numc okT nt cl w0) w (ii i)):V csz numc okT nt cl w0 (.call 41) [p1] (.tup [rq c3,q]):=by
 refine⟨ja Tryz.func41 (by kernel_rfl) rfl,fun w vs hb hvs=>?_⟩;obtain⟨v1,_,rfl,h4,rfl⟩:=hvs;obtain rfl:=h1 _ _ h4;refine(cmI l w).mono ?_;rintro e w' ⟨v,rfl,hv,hb'⟩;rw[hr] at hv;rw[hi];exact⟨_,rfl,⟨_,⟨_,_,rfl,(yO h3).2 ⟨hv,z⟩,_,_,rfl,hq w',rfl⟩,rfl⟩,hb'⟩
end
end Sym
namespace Sym
theorem rat_ok (l:List UInt8) (r:Rat) (k:Nat) (w:World) (hr:(jN l).1=r) (z:Siz r k):Calls Tryz.prog 17 #[str l] w (RNew w r):=by
 have hC:(mkC [1,3,1] [true,true,true] [45] 11 [clV (str l),clR r k,clV (ii (jN l).2)] w).Ok:=uG (co (zF _) (co (Cq uW _ _) (co (kr _) ky))) rfl rfl;have hT:∀ t∈([⟨.call 41,[op 0],.tup [rq 1,op 2]⟩]:List Ent),t.Valid (mkC [1,3,1] [true,true,true] [45] 11 [clV (str l),clR r k,clV (ii (jN l).2)] w) :=
  ce (e_rread (pv rfl) hr rfl z rfl (fun _=>(yu rfl).2 rfl)) cj
 refine(kT hC hT 17 Tryz.f17 [op 0] (.val (rq 1)) 60 Tryz.func17 rfl rfl rfl (by kernel_rfl) [str l] ⟨_,_,rfl,(yu rfl).2 rfl,rfl⟩).mono ?_;rintro e w' ⟨v,rfl,hv,hb⟩;exact⟨v,rfl,((yO rfl).1 hv).1,hb⟩
section
variable {csz:List Nat}{numc:List Bool}{okT:List Nat}{nt:Nat}{cl:List Cl}{w0:World}{w:World}{p1 p2:Pat}{c1 c2:Nat}{l:List UInt8}{r:Rat}{k1 k2:Nat}
end
end Sym
namespace Pe
structure Opt where
 ors:List (Nat×Nat×Bool)
 gls:List (Nat×Nat)
 ex:List (Nat×Con)
def clv (f d:Nat):List (Nat×Nat×Bool)->Option Bool
 |[]=>none
 |(g,t,b)::l=>match Nat.beq g f with
  |true=>match Nat.beq t d with
   |true=>some b
   |false=>clv f d l
  |false=>clv f d l
def hasGl (f d:Nat):List (Nat×Nat)->Bool
 |[]=>false
 |(g,t)::l=>match Nat.beq g f with
  |true=>match Nat.beq t d with
   |true=>true
   |false=>hasGl f d l
  |false=>hasGl f d l
def tabR:List (Nat×Con):=[
 (61,r2 fun r j s k=>ck false (j+k<=10000) (vr (.int .i64 (jh r s)))),
 (42,r2 fun r j s k=>ck false (j<=5000/\k=j) (rr (Sym.minQ r s) j)),
 (43,r2 fun r j s k=>ck false (j<=5000/\k=j) (rr (Sym.maxQ r s) j)),
 (60,r1 fun r _=>some (vr (.int .i64 (sign r)),[])),
 (9,t1 fun l=>ck false (l.length<=60) (qr (jN l).1 4)),
 (17,t1 fun l=>ck false (l.length<=60) (rr (jN l).1 4)),
 (0,fun _=>none)]
def cmpI:BinOp->Int->Int->Option Bool
 |.lss,i,j=>some (decide (i<j))
 |.leq,i,j=>some (decide (i<=j))
 |.gtr,i,j=>some (decide (i>j))
 |.geq,i,j=>some (decide (i>=j))
 |.eql,i,j=>some (decide (i=j))
 |.neq,i,j=>some (decide (i≠j))
 |_,_,_=>none
def cjP (op:BinOp) (b:Bool):Con
 |[.one (.lit (.int .i64 i)),.one (.lit (.int .i64 j))]=>match cmpI op i j with
  |some x=>some (vr (.bool b),[x=b])
  |none=>none
 |[.one (.lit (.int .u8 i)),.one (.lit (.int .u8 j))]=>match cmpI op i j with
  |some x=>some (vr (.bool b),[x=b])
  |none=>none
 |_=>none
def chv (op:BinOp):Con
 |[.one (.lit (.int .i64 i)),.one (.lit (.int .i64 j))]=>match op with
  |.add=>some (vr (.int .i64 (i+j)),[yZ (i+j)])
  |.sub=>some (vr (.int .i64 (i-j)),[yZ (i-j)])
  |.mul=>some (vr (.int .i64 (i*j)),[yZ (i*j)])
  |_=>none
 |_=>none
def cjf:Con
 |[.one (.lit (.int .u8 (.ofNat i)))]=>some (vr (.int .i64 (.ofNat i)),[i<=255])
 |_=>none
def cfP:Con
 |[.one (.lit (.int .i64 (.ofNat i))),.one (.lit (.int .i64 (.ofNat j)))]=>some (vr (.int .i64 (.ofNat (i-j))),[j<=i,i<=1000000000])
 |_=>none
def cjo:Con
 |[.one (.lit (.int .i64 (.ofNat i)))]=>some (vr (.int .u64 (.ofNat i)),[i<=4000000000])
 |_=>none
def cjV:Con
 |[.one (.lit (.int .u64 (.ofNat i)))]=>some (vr (.int .i64 (.ofNat i)),[i<=4000000000])
 |_=>none
def cfq:Con
 |[.one (.lit (.int .u64 (.ofNat i))),.one (.lit (.int .u64 (.ofNat j)))]=>match Nat.beq j 1 with
  |true=>some (vr (.int .u64 (.ofNat (i/2))),[])
  |false=>none
 |_=>none
def conShI:Con
 |[.one (.lit (.int .i64 (.ofNat i))),.one (.lit (.int .u64 (.ofNat j)))]=>some (vr (.int .i64 (.ofNat (i/2^j))),[j<=62])
 |_=>none
def cjm:Con:=fun l=>match cfq l with
 |some r=>some r
 |none=>conShI l
def ciC:Con
 |[.one (.lit (.int .i64 (.ofNat i))),.one (.lit (.int .u64 (.ofNat j)))]=>some (vr (.int .i64 (.ofNat (i*2^j))),[j<=62,i*2^j<=9223372036854775807])
 |_=>none
def ciB:Con
 |[.one (.lit (.int .i64 (.ofNat i))),.one (.lit (.int .i64 (.ofNat j)))]=>match Nat.beq j 1 with
  |true=>some (vr (.int .i64 (.ofNat (i%2))),[i<=9223372036854775807])
  |false=>none
 |_=>none
def conAns (b:Bool) (F:Con):Con:=fun l=>match F l with
 |some (.val (.one (.lit (.bool x))),ob)=>some (vr (.bool b),(x=b)::ob)
 |r=>r
def hdK (K f:Nat):Hd:=match Nat.ble K f with
 |true=>.mem (f-K)
 |false=>.call f
def hdOf (f:Nat):Hd:=hdK 1000000 f
def keyM (f:Nat):Nat:=f+1000000
theorem hdK_mem (K f:Nat):hdK K (f+K)=.mem f:=by
 unfold hdK;rw[Jv (Nat.le_add_left K f),cbq]
theorem cpd (f:Nat):hdOf (keyM f)=.mem f:=hdK_mem 1000000 f
theorem ceR {f:Nat}(h:Nat.ble 1000000 f=false):hdOf f=.call f:=by
 unfold hdOf hdK;rw[h]
def callT (o:Opt) (f:Nat):Option Con:=match find f o.ex with
 |some F=>match Nat.ble 1000000 f with
  |true=>none
  |false=>some F
 |none=>match find f (tabX false) with
  |some F=>some F
  |none=>find f tabR
noncomputable def TY (o:Opt):FuncId->Tab Dx:=fun fid d h=>match h with
 |.call f=>match callT o f with
  |some F=>match clv fid d o.ors with
   |some b=>some (conAns b F)
   |none=>some F
  |none=>none
 |.mem f=>find (keyM f) o.ex
 |.gl=>match hasGl fid d o.gls with
  |true=>some (fun _=>none)
  |false=>none
 |.bin op t=>match clv fid d o.ors with
  |some b=>match op with
   |.sub=>some cfP
   |_=>some (cjP op b)
  |none=>match op with
   |.add=>some (chv .add)
   |.sub=>some (chv .sub)
   |.mul=>some (chv .mul)
   |.shr=>some cjm
   |.shl=>some ciC
   |.and=>some ciB
   |_=>none
 |.cv s t=>match Nat.beq s 3 with
  |true=>match Nat.beq t 193 with
   |true=>some cjo
   |false=>none
  |false=>match Nat.beq s 193 with
   |true=>match Nat.beq t 3 with
    |true=>some cjV
    |false=>none
   |false=>match Nat.beq s 5 with
    |true=>match Nat.beq t 2 with
     |true=>some cjf
     |false=>none
    |false=>none
 |_=>none
section
variable {bb:Bool}{lo:Nat}{w0:World}
theorem ent_r1 {f:Nat}{g:Rat->Nat->Option (jE Dx×List Prop)}{args:List (Pat Dx)}{res:jE Dx}{ob:List Prop}(h:r1 g args=some (res,ob)) (hE:Enters Tryz.prog f)
 (hc:∀ r k,g r k=some (res,ob)->∀ w v,Below w0.heap.size w0 w->Sym.RQ w v r->Siz r k->Calls Tryz.prog f #[v] w (cdj bb lo w0 w res)):jJ (Cx bb lo w0) (.call f) args res:=by
 refine⟨hE,fun w vs hb hvs=>?_⟩;unfold r1 at h;split at h
 ·split at h
  ·rename_i r k hq;obtain⟨v,_,rfl,h1,rfl⟩:=hvs;have h1:=ciQ hq h1;exact hc r k h w v hb h1.1 h1.2
  ·cases h
 ·cases h
theorem cjv {f:Nat}{g:Rat->Nat->Rat->Nat->Option (jE Dx×List Prop)}{args:List (Pat Dx)}{res:jE Dx}{ob:List Prop}(h:r2 g args=some (res,ob)) (hE:Enters Tryz.prog f)
 (hc:∀ r j s k,g r j s k=some (res,ob)->∀ w v1 v2,Below w0.heap.size w0 w->Sym.RQ w v1 r->Siz r j->Sym.RQ w v2 s->Siz s k->Calls Tryz.prog f #[v1,v2] w (cdj bb lo w0 w res)):jJ (Cx bb lo w0) (.call f) args res:=by
 refine⟨hE,fun w vs hb hvs=>?_⟩;unfold r2 at h;split at h
 ·split at h
  ·rename_i r j s k hq hq';obtain⟨v1,_,rfl,h1,v2,_,rfl,h2,rfl⟩:=hvs;have h1:=ciQ hq h1;have h2:=ciQ hq' h2;exact hc r j s k h w v1 v2 hb h1.1 h1.2 h2.1 h2.2
  ·cases h
 ·cases h
theorem ent_t1 {f:Nat}{g:List UInt8->Option (jE Dx×List Prop)}{args:List (Pat Dx)}{res:jE Dx}{ob:List Prop}(h:t1 g args=some (res,ob)) (hE:Enters Tryz.prog f)
 (hc:∀ l,g l=some (res,ob)->∀ w,Below w0.heap.size w0 w->Calls Tryz.prog f #[str l] w (cdj bb lo w0 w res)):jJ (Cx bb lo w0) (.call f) args res:=by
 refine⟨hE,fun w vs hb hvs=>?_⟩;unfold t1 at h;split at h
 ·rename_i l;obtain⟨v,_,rfl,h1,rfl⟩:=hvs;have h1:[v]=[str l]:=h1;injection h1 with h1 _
  subst h1;exact hc l h w hb
 ·cases h
theorem rob_r {w w':World}{v:Value}{r:Rat}{k:Nat}(h:Sym.RQ w' v r) (z:Siz r k):caW (Cx true lo w0) w w' (rr r k) v:=by
 intro S hS w'' hs hk;have h1:=rqK h (cbz (b:=true) rfl hS hk);obtain⟨a,b,h2,h3,h4⟩:=h1;refine⟨[_,a,b],⟨?_,rfl⟩,h2⟩;show DIs w'' (.rq r k) ([_,a,b].take 3);exact .rq rfl ⟨a,b,rfl,h3,h4⟩ z
theorem res_r {w:World}{r:Rat}{k:Nat}(z:Siz r k) {e:Ending}{w':World}(h:Sym.RNew w r e w'):cdj true lo w0 w (rr r k) e w':=by
 obtain⟨v,he,hv,hb⟩:=h;exact⟨v,he,hb,rob_r hv z⟩
theorem ccU (l:List UInt8) (h:l.length<=60):Siz (jN l).1 4:=Siz.read l (L:=60) h (by decide) (by decide)
theorem tabR_ok (hG:Gr w0) {f:Nat}{F:Con}{args:List (Pat Dx)}{res:jE Dx}{ob:List Prop}(hF:find f tabR=some F) (hres:F args=some (res,ob)) (ho:jS ob):jJ (Cx true lo w0) (.call f) args res:=by
 have hG':∀ w,Below w0.heap.size w0 w->Gr w:=fun w hb=>hG.below hb hG.size;have hm:=uN hF;simp only[tabR,uV,cr,YS,or_false] at hm;rcases hm with⟨rfl,rfl⟩|⟨rfl,rfl⟩|⟨rfl,rfl⟩|⟨rfl,rfl⟩|⟨rfl,rfl⟩|⟨rfl,rfl⟩|⟨rfl,rfl⟩
 ·refine cjv hres (ja Tryz.func61 (by kernel_rfl) rfl) (fun r j s k h w v1 v2 hb a1 z1 a2 z2=>?_);obtain⟨hk,rfl⟩:=EL h ho;exact(Sym.rcmp_q v1 v2 r s (j+k) w a1 a2 (z1.le (by omega)) (z2.le (by omega)) (by omega)).mono fun _ _ h=>⟨_,h.1,h.2,YN⟩
 ·refine cjv hres (ja Tryz.func42 (by kernel_rfl) rfl) (fun r j s k h w v1 v2 hb a1 z1 a2 z2=>?_);obtain⟨⟨hk,rfl⟩,rfl⟩:=EL h ho;exact(Sym.rmin_q v1 v2 r s k w a1 a2 z1 z2 hk).mono fun _ _ h=>res_r (Sym.minQ_siz z1 z2) h
 ·refine cjv hres (ja Tryz.func43 (by kernel_rfl) rfl) (fun r j s k h w v1 v2 hb a1 z1 a2 z2=>?_);obtain⟨⟨hk,rfl⟩,rfl⟩:=EL h ho;exact(Sym.rmax_q v1 v2 r s k w a1 a2 z1 z2 hk).mono fun _ _ h=>res_r (Sym.maxQ_siz z1 z2) h
 ·refine ent_r1 hres (ja Tryz.func60 (by kernel_rfl) rfl) (fun r k h w v hb a1 z1=>?_);injection h with h;injection h with h _;subst h
  exact(Sym.rsign_q v r w a1).mono fun _ _ h=>⟨_,h.1,h.2,YN⟩
 ·refine ent_t1 hres (ja Tryz.func9 (by kernel_rfl) rfl) (fun l h w hb=>?_);obtain⟨hk,rfl⟩:=EL h ho;exact(ckg l w (by omega) (hG' w hb)).mono fun _ _ h=>caJ (ccU l hk) h
 ·refine ent_t1 hres (ja Tryz.func17 (by kernel_rfl) rfl) (fun l h w hb=>?_);obtain⟨hk,rfl⟩:=EL h ho;exact(Sym.rat_ok l _ 4 w rfl (ccU l hk)).mono fun _ _ h=>res_r (ccU l hk) h
 ·cases hres
theorem Ug {o:Oper}{op:BinOp}{t:Nat}{xs:List Operand}(h:uo o=some (.bin op t,xs)):∃ x y u,o.op=.binOp op t x y u/\xs=[x,y]:=by
 unfold uo at h;split at h<;>first
  |(rename_i h0;simp only[kG,cr,Hd.bin.injEq,reduceCtorEq,Gt] at h;try (obtain⟨⟨rfl,rfl⟩,rfl⟩:=h;exact⟨_,_,_,h0,rfl⟩))
  |(split at h<;>simp at h)
  |simp at h
theorem KM {op:BinOp}{t:Nat}{k:IntKind}{i j:Int}{v:Value}(hr:∀ w,(Go.binOp op t (.int k i) (.int k j)).run Tryz.prog w=.ok v w):jJ (Cx bb lo w0) (.bin op t) [.one (.lit (.int k i)),.one (.lit (.int k j))] (vr v):=by
 intro w ρ o xs ho hb hvs;obtain⟨x,y,u,hop,rfl⟩:=Ug ho;obtain⟨v1,_,e1,h4,v2,_,e2,h5,e3⟩:=hvs;have h4:[v1]=[.int k i]:=h4;have h5:[v2]=[.int k j]:=h5;injection h4 with h4 _
 injection h5 with h5 _
 subst h4;subst h5;subst e3;subst e2;simp only[jX,kQ,yC] at e1;obtain⟨ea,eb,_⟩:=e1;refine⟨v,w,?_,cw _ _,YN⟩;have hg:(eqGuard op t x y (.int k i) (.int k j)).run Tryz.prog w=.ok () w:=by
  unfold eqGuard;cases op<;>rfl
 show (execOp ρ o).run Tryz.prog w=_;simp only[execOp,hop,ea,eb,jd,hg,hr w,jG];rfl
theorem cnz {op : BinOp} {t : Nat} {b : Bool} {args : List (Pat Dx)} {res : jE Dx} {ob : List Prop} (h : cjP op b args = some (res, ob)) (ho : jS ob) : jJ (Cx bb lo w0) (.bin op t) args res := by
  unfold cjP at h
  split at h
  · rename_i i j
    split at h
    · rename_i x hx
      injection h with h; injection h with h1 h2; subst h1; subst h2
      obtain rfl : x = b := ho.1
      refine KM (fun w => ?_)
      cases op <;> simp only [cmpI, reduceCtorEq, kG] at hx <;> subst hx <;> first
        | rfl
        | (show Result.ok (Value.bool (!(decide (i = j)))) w = _
           simp)
    · cases h
  · rename_i i j
    split at h
    · rename_i x hx
      injection h with h; injection h with h1 h2; subst h1; subst h2
      obtain rfl : x = b := ho.1
      refine KM (fun w => ?_)
      cases op <;> simp only [cmpI, reduceCtorEq, kG] at hx <;> subst hx <;> first
        | rfl
        | (show Result.ok (Value.bool (!(decide (i = j)))) w = _
           simp)
    · cases h
  · cases h
theorem ccz {op op':BinOp}{t:Nat}{args:List (Pat Dx)}{res:jE Dx}{ob:List Prop}(h:chv op args=some (res,ob)) (ho:jS ob) (hop:op=op'):jJ (Cx bb lo w0) (.bin op' t) args res:=by
 subst hop;unfold chv at h;split at h
 ·rename_i i j;split at h
  ·injection h with h;injection h with h1 h2;subst h1;subst h2
   obtain⟨⟨h3,h4⟩,_⟩:=ho;refine KM (fun w=>?_);show Result.ok (Value.int .i64 (IntKind.i64.wrap (i+j))) w=_;rw[show IntKind.i64.wrap (i+j)=i+j by rw[yG];omega]
  ·injection h with h;injection h with h1 h2;subst h1;subst h2
   obtain⟨⟨h3,h4⟩,_⟩:=ho;refine KM (fun w=>?_);show Result.ok (Value.int .i64 (IntKind.i64.wrap (i-j))) w=_;rw[show IntKind.i64.wrap (i-j)=i-j by rw[yG];omega]
  ·injection h with h;injection h with h1 h2;subst h1;subst h2
   obtain⟨⟨h3,h4⟩,_⟩:=ho;refine KM (fun w=>?_);show Result.ok (Value.int .i64 (IntKind.i64.wrap (i*j))) w=_;rw[show IntKind.i64.wrap (i*j)=i*j by rw[yG];omega]
  ·cases h
 ·cases h
theorem ciF {t:Nat}{args:List (Pat Dx)}{res:jE Dx}{ob:List Prop}(h:cfP args=some (res,ob)) (ho:jS ob):jJ (Cx bb lo w0) (.bin .sub t) args res:=by
 unfold cfP at h;split at h
 ·rename_i i j;injection h with h;injection h with h1 h2;subst h1;subst h2
  obtain⟨h3,h4,_⟩:=ho;refine KM (fun w=>?_);have h3:j<=i:=h3;have h4:i<=1000000000:=h4;have e:(Int.ofNat i:Int)-Int.ofNat j=Int.ofNat (i-j):=by
   show (i:Int)-(j:Int)=((i-j:Nat):Int);omega
  show Result.ok (Value.int .i64 (IntKind.i64.wrap (Int.ofNat i-Int.ofNat j))) w=_;rw[e,show IntKind.i64.wrap (Int.ofNat (i-j))=Int.ofNat (i-j) by
   rw[yG];have:(Int.ofNat (i-j):Int)=((i-j:Nat):Int):=rfl;omega]
 ·cases h
theorem ckG {o:Oper}{s d:Nat}{xs:List Operand}(h:uo o=some (.cv s d,xs)):∃ x,o.op=.convert s d x/\xs=[x]:=by
 unfold uo at h;split at h<;>first
  |(rename_i h0;simp only[kG,cr,Hd.cv.injEq,reduceCtorEq,Gt] at h;try (obtain⟨⟨rfl,rfl⟩,rfl⟩:=h;exact⟨_,h0,rfl⟩))
  |(split at h<;>simp at h)
  |simp at h
theorem cjQ {s d:Nat}{k k':IntKind}{i:Int}(hs:(Tryz.prog.underlying s).isSome=true) (hd:Tryz.prog.underlying d=some (.int (Tryz.prog.intKind d))) (hk:Tryz.prog.intKind d=k') (hw:k'.wrap i=i):jJ (Cx bb lo w0) (.cv s d) [.one (.lit (.int k i))] (vr (.int k' i)):=by
 intro w ρ o xs ho hb hvs;obtain⟨x,hop,rfl⟩:=ckG ho;obtain⟨v1,_,e1,h4,e2⟩:=hvs;have h4:[v1]=[.int k i]:=h4;injection h4 with h4 _
 subst h4;subst e2;simp only[jX,kQ,yC] at e1;obtain⟨ea,_⟩:=e1;refine⟨_,w,?_,cw _ _,YN⟩;show (execOp ρ o).run Tryz.prog w=_;simp only[execOp,hop,ea,jd,run_convert_int _ _ _ _ _ hs hd,hk,hw,jG];rfl
theorem cmd {args:List (Pat Dx)}{res:jE Dx}{ob:List Prop}(h:cjo args=some (res,ob)) (ho:jS ob):jJ (Cx bb lo w0) (.cv 3 193) args res:=by
 unfold cjo at h;split at h
 ·rename_i i;injection h with h;injection h with h1 h2;subst h1;subst h2
  have h3:i<=4000000000:=ho.1;refine cjQ (by kernel_rfl) (by kernel_rfl) (by kernel_rfl) ?_;rw[zv];have:(Int.ofNat i:Int)=((i:Nat):Int):=rfl;omega
 ·cases h
theorem cmC {args:List (Pat Dx)}{res:jE Dx}{ob:List Prop}(h:cjf args=some (res,ob)) (ho:jS ob):jJ (Cx bb lo w0) (.cv 5 2) args res:=by
 unfold cjf at h;split at h
 ·rename_i i;injection h with h;injection h with h1 h2;subst h1;subst h2
  have h3:i<=255:=ho.1;refine cjQ (by kernel_rfl) (by kernel_rfl) (by kernel_rfl) ?_;rw[yG];have:(Int.ofNat i:Int)=((i:Nat):Int):=rfl;omega
 ·cases h
theorem cmW {args:List (Pat Dx)}{res:jE Dx}{ob:List Prop}(h:cjV args=some (res,ob)) (ho:jS ob):jJ (Cx bb lo w0) (.cv 193 3) args res:=by
 unfold cjV at h;split at h
 ·rename_i i;injection h with h;injection h with h1 h2;subst h1;subst h2
  have h3:i<=4000000000:=ho.1;refine cjQ (by kernel_rfl) (by kernel_rfl) (by kernel_rfl) ?_;rw[yG];have:(Int.ofNat i:Int)=((i:Nat):Int):=rfl;omega
 ·cases h
theorem cjp {t:Nat}{args:List (Pat Dx)}{res:jE Dx}{ob:List Prop}(h:cfq args=some (res,ob)):jJ (Cx bb lo w0) (.bin .shr t) args res:=by
 unfold cfq at h;split at h
 ·rename_i i j;split at h
  ·rename_i hj;obtain rfl:=ct hj;injection h with h;injection h with h1 h2;subst h1;subst h2
   intro w ρ o xs ho hb hvs;obtain⟨x,y,u,hop,rfl⟩:=Ug ho;obtain⟨v1,_,e1,h4,v2,_,e2,h5,e3⟩:=hvs;have h4:[v1]=[.int .u64 (.ofNat i)]:=h4;have h5:[v2]=[.int .u64 (.ofNat 1)]:=h5;injection h4 with h4 _
   injection h5 with h5 _
   subst h4;subst h5;subst e3;subst e2;simp only[jX,kQ,yC] at e1;obtain⟨ea,eb,_⟩:=e1;refine⟨.int .u64 (.ofNat (i/2)),w,?_,cw _ _,YN⟩;have hg:(eqGuard .shr t x y (.int .u64 (.ofNat i)) (.int .u64 (.ofNat 1))).run Tryz.prog w=.ok () w:=rfl;show (execOp ρ o).run Tryz.prog w=_;simp only[execOp,hop,ea,eb,jd,hg,jG,binOp_shr];show Result.ok (Next.value (Value.int .u64 (Int.fdiv (Int.ofNat i) (2^1)))) w=_;rw[show Int.fdiv (Int.ofNat i) (2^1)=Int.ofNat (i/2) by
    show Int.fdiv ((i:Nat):Int) 2=((i/2:Nat):Int);rw[Int.fdiv_eq_ediv_of_nonneg _ (by omega)];rfl]
  ·cases h
 ·cases h
theorem cdI {op:BinOp}{k':IntKind}{i j:Nat}{t:Nat}{v:Value}(hj:j<=62) (h:op=.shr/\v=.int .i64 (.ofNat (i/2^j))\/op=.shl/\i*2^j<=9223372036854775807/\v=.int .i64 (.ofNat (i*2^j))) {w:World}:(Go.binOp op t (.int .i64 (.ofNat i)) (.int k' (.ofNat j))).run Tryz.prog w=.ok v w:=by
 have hn:¬ (Int.ofNat j:Int)<0:=by show ¬ ((j:Nat):Int)<0;omega
 have hm:min (Int.ofNat j).toNat IntKind.i64.bits=j:=by
  show min j 64=j;omega
 have hp:((2:Int)^j)=((2^j:Nat):Int):=by rw[Int.natCast_pow];rfl
 rcases h with⟨rfl,rfl⟩|⟨rfl,hb,rfl⟩
 ·rw[binOp_shr,Op.shift,cg hn,hm];show Result.ok (Value.int .i64 (Int.fdiv (Int.ofNat i) (2^j))) w=_;rw[hp,Int.fdiv_eq_ediv_of_nonneg _ (Zo _)];rfl
 ·rw[binOp_shl,Op.shift,cg hn,hm];show Result.ok (Value.int .i64 (IntKind.i64.wrap (Int.ofNat i*2^j))) w=_;rw[hp,show (Int.ofNat i:Int)*((2^j:Nat):Int)=Int.ofNat (i*2^j) from(uv i (2^j)).symm];generalize i*2^j=m at hb ⊢;rw[show IntKind.i64.wrap (Int.ofNat m)=Int.ofNat m by
   rw[yG];have:(Int.ofNat m:Int)=((m:Nat):Int):=rfl;omega]
theorem chT {op:BinOp}{t:Nat}{k k':IntKind}{i j:Int}{v:Value}(hop:op=.shr\/op=.shl) (hr:∀ w,(Go.binOp op t (.int k i) (.int k' j)).run Tryz.prog w=.ok v w):jJ (Cx bb lo w0) (.bin op t) [.one (.lit (.int k i)),.one (.lit (.int k' j))] (vr v):=by
 intro w ρ o xs ho hb hvs;obtain⟨x,y,u,h0,rfl⟩:=Ug ho;obtain⟨v1,_,e1,h4,v2,_,e2,h5,e3⟩:=hvs;have h4:[v1]=[.int k i]:=h4;have h5:[v2]=[.int k' j]:=h5;injection h4 with h4 _
 injection h5 with h5 _
 subst h4;subst h5;subst e3;subst e2;simp only[jX,kQ,yC] at e1;obtain⟨ea,eb,_⟩:=e1;refine⟨v,w,?_,cw _ _,YN⟩;have hg:(eqGuard op t x y (.int k i) (.int k' j)).run Tryz.prog w=.ok () w:=by rcases hop with rfl|rfl<;>rfl
 show (execOp ρ o).run Tryz.prog w=_;simp only[execOp,h0,ea,eb,jd,hg,hr w,jG];rfl
theorem cnv {t:Nat}{args:List (Pat Dx)}{res:jE Dx}{ob:List Prop}(h:cjm args=some (res,ob)) (ho:jS ob):jJ (Cx bb lo w0) (.bin .shr t) args res:=by
 unfold cjm at h;split at h
 ·rename_i r hr;injection h with h;subst h
  exact cjp hr
 ·unfold conShI at h;split at h
  ·injection h with h;injection h with h1 h2;subst h1;subst h2
   exact chT (.inl rfl) (fun w=>cdI ho.1 (.inl ⟨rfl,rfl⟩))
  ·cases h
theorem cma {t:Nat}{args:List (Pat Dx)}{res:jE Dx}{ob:List Prop}(h:ciC args=some (res,ob)) (ho:jS ob):jJ (Cx bb lo w0) (.bin .shl t) args res:=by
 unfold ciC at h;split at h
 ·injection h with h;injection h with h1 h2;subst h1;subst h2
  exact chT (.inr rfl) (fun w=>cdI ho.1 (.inr ⟨rfl,ho.2.1,rfl⟩))
 ·cases h
theorem cmJ {t:Nat}{args:List (Pat Dx)}{res:jE Dx}{ob:List Prop}(h:ciB args=some (res,ob)) (ho:jS ob):jJ (Cx bb lo w0) (.bin .and t) args res:=by
 unfold ciB at h;split at h
 ·rename_i i j;split at h
  ·rename_i hj;obtain rfl:=ct hj;injection h with h;injection h with h1 h2;subst h1;subst h2
   have hi:i<=9223372036854775807:=ho.1;refine KM (fun w=>?_);rw[binOp_and];have e:=bits_nat .i64 63 (by decide) (fun n h1 h2=>by rw[yG];omega) i 1 (by omega) (by decide);exact cu (fun z=>Result.ok (Value.int .i64 z) w) (e.1.trans (by rw[Nat.and_one_is_mod];rfl))
  ·cases h
 ·cases h
def Ef (bb:Bool) (lo:Nat) (w0:World) (l:List (Nat×Con)):Prop:=∀ f F,find f l=some F->∀ hd,hdOf f=hd->∀ args res ob,F args=some (res,ob)->jS ob->jJ (Cx bb lo w0) hd args res
theorem jT:Ef bb lo w0 []:=fun f F h=>by simp [jk] at h
theorem cnV {g:Nat}{G:Con}{l:List (Nat×Con)}{hg:Hd}(hh:hdOf g=hg) (h:∀ args res ob,G args=some (res,ob)->jS ob->jJ (Cx bb lo w0) hg args res) (k:Ef bb lo w0 l):Ef bb lo w0 ((g,G)::l):=fun f F hF hd hd' args res ob hr ho=>by
 rw[cS] at hF;split at hF
 ·rename_i hb;injection hF with hF;subst hF
  rw[← ct hb,hh] at hd';subst hd';exact h args res ob hr ho
 ·exact k f F hF hd hd' args res ob hr ho
theorem jm {g:Nat}{G:Con}{l:List (Nat×Con)}(h:∀ args res ob,G args=some (res,ob)->jS ob->jJ (Cx bb lo w0) (.call g) args res) (k:Ef bb lo w0 l) (hg:Nat.ble 1000000 g=false:=by rfl):Ef bb lo w0 ((g,G)::l):=cnV (ceR hg) h k
theorem ty_ok (hG:Gr w0) {o:Opt}(hE:Ef true lo w0 o.ex) (g:FuncId):(TY o g).Ok (Cx true lo w0):=by
 intro n hd F args res ob hF hres ho;unfold TY at hF;split at hF
 ·rename_i f;have key:∀ F,callT o f=some F->∀ res ob,F args=some (res,ob)->jS ob->jJ (Cx true lo w0) (.call f) args res:=by
   intro F hF res ob hr ho;unfold callT at hF;split at hF
   ·rename_i h1;split at hF
    ·cases hF
    ·rename_i hg;injection hF with hF;subst hF
     exact hE _ _ h1 _ (ceR hg) _ _ _ hr ho
   ·split at hF
    ·rename_i h1;injection hF with hF;subst hF
     exact ckr hG h1 hr ho
    ·exact tabR_ok hG hF hr ho
  split at hF
  ·rename_i G hG;split at hF
   ·rename_i b hb;injection hF with hF;subst hF
    unfold conAns at hres;split at hres
    ·rename_i x ob' hx;injection hres with hres;injection hres with h1 h2;subst h1;subst h2
     have:=key G hG _ _ hx ho.2;rw[show x=b from ho.1] at this;exact this
    ·exact key G hG _ _ hres ho
   ·injection hF with hF;subst hF
    exact key _ hG _ _ hres ho
  ·cases hF
 ·rename_i f;exact hE (keyM f) F hF (.mem f) (cpd f) args res ob hres ho
 ·split at hF
  ·injection hF with hF;subst hF
   cases hres
  ·cases hF
 ·split at hF
  ·split at hF
   ·injection hF with hF;subst hF
    exact ciF hres ho
   ·injection hF with hF;subst hF
    exact cnz hres ho
  ·split at hF
   ·injection hF with hF;subst hF
    exact ccz hres ho rfl
   ·injection hF with hF;subst hF
    exact ccz hres ho rfl
   ·injection hF with hF;subst hF
    exact ccz hres ho rfl
   ·injection hF with hF;subst hF
    exact cnv hres ho
   ·injection hF with hF;subst hF
    exact cma hres ho
   ·injection hF with hF;subst hF
    exact cmJ hres ho
   ·cases hF
 ·rename_i s t;split at hF
  ·rename_i h1;split at hF
   ·rename_i h2;injection hF with hF;subst hF
    rw[ct h1,ct h2];exact cmd hres ho
   ·cases hF
  ·split at hF
   ·rename_i h1;split at hF
    ·rename_i h2;injection hF with hF;subst hF
     rw[ct h1,ct h2];exact cmW hres ho
    ·cases hF
   ·split at hF
    ·rename_i h1;split at hF
     ·rename_i h2;injection hF with hF;subst hF
      rw[ct h1,ct h2];exact cmC hres ho
     ·cases hF
    ·cases hF
 ·cases hF
theorem run_ok (hlo : lo ≤ w0.heap.size) (hG : Gr w0) (hN : ∀ (f : Nat) (fn : Func), Tryz.prog.funcs[f]? = some fn → (fn.name == "runtime.NumGoroutine") = false) {o : Opt} (hE : Ef true lo w0 o.ex) : UC (Cx true lo w0) (TY o) := ⟨cx_ok hlo, hN, ty_ok hG hE⟩
end
end Pe
end Go.Proofs.YtclihnehnkijgaaGreatDoor
