/- Part 28. -/
import Derived.Test.YtgdnkbajagfijaaGreatDoorD27
set_option linter.all false
noncomputable section

namespace Go.Proofs.YtgdnkbajagfijaaGreatDoor
open Go Go.RowKit Go.Proofs Lim
namespace Sym
section
variable {csz:List Nat}{numc:List Bool}{okT:List Nat}{nt:Nat}{cl:List Cl}{w0:World}{w:World}{v z:Value}{p1 p2 p3 p4:Pat}{res:jy}{c d c1 c2 c3 c4 c5 c6:Nat}{a b l:List UInt8}{r s:Rat}{k k1 k2 k3:Nat}{i j:Int}
theorem e_rread (h1:PV csz numc okT nt cl w0 p1 (str l)) (hr:(kq l).1=r) (hi:(kq l).2=i) (z:Siz r k) (h3:cl[c3]?=some (clR r k)) {q:Pat}(hq:∀ w,q.is (mkC csz numc okT nt cl w0) w (ii i)):V csz numc okT nt cl w0 (.call 84) [p1] (.tup [rq c3,q]):=by
 refine⟨jg Tryz.func84 (by kernel_rfl) rfl,fun w vs hb hvs=>?_⟩;obtain⟨v1,_,rfl,h4,rfl⟩:=hvs;obtain rfl:=h1 _ _ h4;refine(cmJ l w).mono ?_;rintro e w' ⟨v,rfl,hv,hb'⟩;rw[hr] at hv;rw[hi];exact⟨_,rfl,⟨_,⟨_,_,rfl,(yS h3).2 ⟨hv,z⟩,_,_,rfl,hq w',rfl⟩,rfl⟩,hb'⟩
end
end Sym
namespace Sym
theorem rat_ok (l:List UInt8) (r:Rat) (k:Nat) (w:World) (hr:(kq l).1=r) (z:Siz r k):Calls Tryz.prog 37 #[str l] w (RNew w r):=by
 have hC:(mkC [1,3,1] [true,true,true] [40] 11 [clV (str l),clR r k,clV (ii (kq l).2)] w).Ok:=uG (cq (zK _) (cq (Ct ye _ _) (cq (kp _) kx))) rfl rfl;have hT:∀ t∈([⟨.call 84,[op 0],.tup [rq 1,op 2]⟩]:List Ent),t.Valid (mkC [1,3,1] [true,true,true] [40] 11 [clV (str l),clR r k,clV (ii (kq l).2)] w) :=
  ce (e_rread (pv rfl) hr rfl z rfl (fun _=>(yw rfl).2 rfl)) cj
 refine(kR hC hT 37 Tryz.f37 [op 0] (.val (rq 1)) 60 Tryz.func37 rfl rfl rfl (by kernel_rfl) [str l] ⟨_,_,rfl,(yw rfl).2 rfl,rfl⟩).mono ?_;rintro e w' ⟨v,rfl,hv,hb⟩;exact⟨v,rfl,((yS rfl).1 hv).1,hb⟩
end Sym
namespace Pe
structure Opt where
 ors:List (Nat×Nat×Bool)
 gls:List (Nat×Nat)
 ex:List (Nat×Con)
def ceH (f d:Nat):List (Nat×Nat×Bool)->Option Bool
 |[]=>none
 |(g,t,b)::l=>match Nat.beq g f with
  |true=>match Nat.beq t d with
   |true=>some b
   |false=>ceH f d l
  |false=>ceH f d l
def clu (f d:Nat):List (Nat×Nat)->Bool
 |[]=>false
 |(g,t)::l=>match Nat.beq g f with
  |true=>match Nat.beq t d with
   |true=>true
   |false=>clu f d l
  |false=>clu f d l
def tabR:List (Nat×Con):=[
 (46,r2 fun r j s k=>ck false (j+k<=10000) (vr (.int .i64 (kd r s)))),
 (91,r2 fun r j s k=>ck false (j<=5000/\k=j) (rr (Sym.minQ r s) j)),
 (90,r2 fun r j s k=>ck false (j<=5000/\k=j) (rr (Sym.maxQ r s) j)),
 (85,r1 fun r _=>some (vr (.int .i64 (sign r)),[])),
 (24,t1 fun l=>ck false (l.length<=60) (qr (kq l).1 4)),
 (37,t1 fun l=>ck false (l.length<=60) (rr (kq l).1 4)),
 (0,fun _=>none)]
def cmpI:BinOp->Int->Int->Option Bool
 |.lss,i,j=>some (decide (i<j))
 |.leq,i,j=>some (decide (i<=j))
 |.gtr,i,j=>some (decide (i>j))
 |.geq,i,j=>some (decide (i>=j))
 |.eql,i,j=>some (decide (i=j))
 |.neq,i,j=>some (decide (i≠j))
 |_,_,_=>none
def cfO (op:BinOp) (b:Bool):Con
 |[.one (.lit (.int .i64 i)),.one (.lit (.int .i64 j))]=>match cmpI op i j with
  |some x=>some (vr (.bool b),[x=b])
  |none=>none
 |[.one (.lit (.int .u8 i)),.one (.lit (.int .u8 j))]=>match cmpI op i j with
  |some x=>some (vr (.bool b),[x=b])
  |none=>none
 |_=>none
def ccW (op:BinOp):Con
 |[.one (.lit (.int .i64 i)),.one (.lit (.int .i64 j))]=>match op with
  |.add=>some (vr (.int .i64 (i+j)),[Gc (i+j)])
  |.sub=>some (vr (.int .i64 (i-j)),[Gc (i-j)])
  |.mul=>some (vr (.int .i64 (i*j)),[Gc (i*j)])
  |_=>none
 |_=>none
def ckk:Con
 |[.one (.lit (.int .u8 (.ofNat i)))]=>some (vr (.int .i64 (.ofNat i)),[i<=255])
 |_=>none
def cfR:Con
 |[.one (.lit (.int .i64 (.ofNat i))),.one (.lit (.int .i64 (.ofNat j)))]=>some (vr (.int .i64 (.ofNat (i-j))),[j<=i,i<=1000000000])
 |_=>none
def cjw:Con
 |[.one (.lit (.int .i64 (.ofNat i)))]=>some (vr (.int .u64 (.ofNat i)),[i<=4000000000])
 |_=>none
def ciD:Con
 |[.one (.lit (.int .u64 (.ofNat i)))]=>some (vr (.int .i64 (.ofNat i)),[i<=4000000000])
 |_=>none
def cfU:Con
 |[.one (.lit (.int .u64 (.ofNat i))),.one (.lit (.int .u64 (.ofNat j)))]=>match Nat.beq j 1 with
  |true=>some (vr (.int .u64 (.ofNat (i/2))),[])
  |false=>none
 |_=>none
def conShI:Con
 |[.one (.lit (.int .i64 (.ofNat i))),.one (.lit (.int .u64 (.ofNat j)))]=>some (vr (.int .i64 (.ofNat (i/2^j))),[j<=62])
 |_=>none
def cjA:Con:=fun l=>match cfU l with
 |some r=>some r
 |none=>conShI l
def ckb:Con
 |[.one (.lit (.int .i64 (.ofNat i))),.one (.lit (.int .u64 (.ofNat j)))]=>some (vr (.int .i64 (.ofNat (i*2^j))),[j<=62,i*2^j<=9223372036854775807])
 |_=>none
def cjh:Con
 |[.one (.lit (.int .i64 (.ofNat i))),.one (.lit (.int .i64 (.ofNat j)))]=>match Nat.beq j 1 with
  |true=>some (vr (.int .i64 (.ofNat (i%2))),[i<=9223372036854775807])
  |false=>none
 |_=>none
def cfl (b:Bool) (F:Con):Con:=fun l=>match F l with
 |some (.val (.one (.lit (.bool x))),ob)=>some (vr (.bool b),(x=b)::ob)
 |r=>r
def hdK (K f:Nat):Hd:=match Nat.ble K f with
 |true=>.mem (f-K)
 |false=>.call f
def hdOf (f:Nat):Hd:=hdK 1000000 f
def keyM (f:Nat):Nat:=f+1000000
theorem hdK_mem (K f:Nat):hdK K (f+K)=.mem f:=by
 unfold hdK;rw[JA (Nat.le_add_left K f),Nat.add_sub_cancel]
theorem coi (f:Nat):hdOf (keyM f)=.mem f:=hdK_mem 1000000 f
theorem ZU {f:Nat}(h:Nat.ble 1000000 f=false):hdOf f=.call f:=by
 unfold hdOf hdK;rw[h]
def callT (o:Opt) (f:Nat):Option Con:=match find f o.ex with
 |some F=>match Nat.ble 1000000 f with
  |true=>none
  |false=>some F
 |none=>match find f (tabX false) with
  |some F=>some F
  |none=>find f tabR
noncomputable def TY (o:Opt):FuncId->Tab Dx:=fun fid d h=>match h with
 |.call f=>match callT o f with
  |some F=>match ceH fid d o.ors with
   |some b=>some (cfl b F)
   |none=>some F
  |none=>none
 |.mem f=>find (keyM f) o.ex
 |.gl=>match clu fid d o.gls with
  |true=>some (fun _=>none)
  |false=>none
 |.bin op t=>match ceH fid d o.ors with
  |some b=>match op with
   |.sub=>some cfR
   |_=>some (cfO op b)
  |none=>match op with
   |.add=>some (ccW .add)
   |.sub=>some (ccW .sub)
   |.mul=>some (ccW .mul)
   |.shr=>some cjA
   |.shl=>some ckb
   |.and=>some cjh
   |_=>none
 |.cv s t=>match Nat.beq s 3 with
  |true=>match Nat.beq t 112 with
   |true=>some cjw
   |false=>none
  |false=>match Nat.beq s 112 with
   |true=>match Nat.beq t 3 with
    |true=>some ciD
    |false=>none
   |false=>match Nat.beq s 5 with
    |true=>match Nat.beq t 2 with
     |true=>some ckk
     |false=>none
    |false=>none
 |_=>none
section
variable {bb:Bool}{lo:Nat}{w0:World}
theorem ent_r1 {f:Nat}{g:Rat->Nat->Option (jy Dx×List Prop)}{args:List (Pat Dx)}{res:jy Dx}{ob:List Prop}(h:r1 g args=some (res,ob)) (hE:Enters Tryz.prog f)
 (hc:∀ r k,g r k=some (res,ob)->∀ w v,Below w0.heap.size w0 w->Sym.RQ w v r->Siz r k->Calls Tryz.prog f #[v] w (cbO bb lo w0 w res)):jQ (Cx bb lo w0) (.call f) args res:=by
 refine⟨hE,fun w vs hb hvs=>?_⟩;unfold r1 at h;split at h
 ·split at h
  ·rename_i r k hq;obtain⟨v,_,rfl,h1,rfl⟩:=hvs;have h1:=cjW hq h1;exact hc r k h w v hb h1.1 h1.2
  ·cases h
 ·cases h
theorem cjz {f:Nat}{g:Rat->Nat->Rat->Nat->Option (jy Dx×List Prop)}{args:List (Pat Dx)}{res:jy Dx}{ob:List Prop}(h:r2 g args=some (res,ob)) (hE:Enters Tryz.prog f)
 (hc:∀ r j s k,g r j s k=some (res,ob)->∀ w v1 v2,Below w0.heap.size w0 w->Sym.RQ w v1 r->Siz r j->Sym.RQ w v2 s->Siz s k->Calls Tryz.prog f #[v1,v2] w (cbO bb lo w0 w res)):jQ (Cx bb lo w0) (.call f) args res:=by
 refine⟨hE,fun w vs hb hvs=>?_⟩;unfold r2 at h;split at h
 ·split at h
  ·rename_i r j s k hq hq';obtain⟨v1,_,rfl,h1,v2,_,rfl,h2,rfl⟩:=hvs;have h1:=cjW hq h1;have h2:=cjW hq' h2;exact hc r j s k h w v1 v2 hb h1.1 h1.2 h2.1 h2.2
  ·cases h
 ·cases h
theorem ent_t1 {f:Nat}{g:List UInt8->Option (jy Dx×List Prop)}{args:List (Pat Dx)}{res:jy Dx}{ob:List Prop}(h:t1 g args=some (res,ob)) (hE:Enters Tryz.prog f)
 (hc:∀ l,g l=some (res,ob)->∀ w,Below w0.heap.size w0 w->Calls Tryz.prog f #[str l] w (cbO bb lo w0 w res)):jQ (Cx bb lo w0) (.call f) args res:=by
 refine⟨hE,fun w vs hb hvs=>?_⟩;unfold t1 at h;split at h
 ·rename_i l;obtain⟨v,_,rfl,h1,rfl⟩:=hvs;have h1:[v]=[str l]:=h1;injection h1 with h1 _
  subst h1;exact hc l h w hb
 ·cases h
theorem rob_r {w w':World}{v:Value}{r:Rat}{k:Nat}(h:Sym.RQ w' v r) (z:Siz r k):cbd (Cx true lo w0) w w' (rr r k) v:=by
 intro S hS w'' hs hk;have h1:=rqK h (cbw (b:=true) rfl hS hk);obtain⟨a,b,h2,h3,h4⟩:=h1;refine⟨[_,a,b],⟨?_,rfl⟩,h2⟩;show DIs w'' (.rq r k) ([_,a,b].take 3);exact .rq rfl ⟨a,b,rfl,h3,h4⟩ z
theorem res_r {w:World}{r:Rat}{k:Nat}(z:Siz r k) {e:Ending}{w':World}(h:Sym.RNew w r e w'):cbO true lo w0 w (rr r k) e w':=by
 obtain⟨v,he,hv,hb⟩:=h;exact⟨v,he,hb,rob_r hv z⟩
theorem cdg (l:List UInt8) (h:l.length<=60):Siz (kq l).1 4:=Siz.read l (L:=60) h (by decide) (by decide)
theorem tabR_ok (hG:Gr w0) {f:Nat}{F:Con}{args:List (Pat Dx)}{res:jy Dx}{ob:List Prop}(hF:find f tabR=some F) (hres:F args=some (res,ob)) (ho:jC ob):jQ (Cx true lo w0) (.call f) args res:=by
 have hG':∀ w,Below w0.heap.size w0 w->Gr w:=fun w hb=>hG.below hb hG.size;have hm:=uV hF;simp only[tabR,uZ,cr,YU,or_false] at hm;rcases hm with⟨rfl,rfl⟩|⟨rfl,rfl⟩|⟨rfl,rfl⟩|⟨rfl,rfl⟩|⟨rfl,rfl⟩|⟨rfl,rfl⟩|⟨rfl,rfl⟩
 ·refine cjz hres (jg Tryz.func46 (by kernel_rfl) rfl) (fun r j s k h w v1 v2 hb a1 z1 a2 z2=>?_);obtain⟨hk,rfl⟩:=Jg h ho;exact(Sym.rcmp_q v1 v2 r s (j+k) w a1 a2 (z1.le (by omega)) (z2.le (by omega)) (by omega)).mono fun _ _ h=>⟨_,h.1,h.2,Zk⟩
 ·refine cjz hres (jg Tryz.func91 (by kernel_rfl) rfl) (fun r j s k h w v1 v2 hb a1 z1 a2 z2=>?_);obtain⟨⟨hk,rfl⟩,rfl⟩:=Jg h ho;exact(Sym.rmin_q v1 v2 r s k w a1 a2 z1 z2 hk).mono fun _ _ h=>res_r (Sym.minQ_siz z1 z2) h
 ·refine cjz hres (jg Tryz.func90 (by kernel_rfl) rfl) (fun r j s k h w v1 v2 hb a1 z1 a2 z2=>?_);obtain⟨⟨hk,rfl⟩,rfl⟩:=Jg h ho;exact(Sym.rmax_q v1 v2 r s k w a1 a2 z1 z2 hk).mono fun _ _ h=>res_r (Sym.maxQ_siz z1 z2) h
 ·refine ent_r1 hres (jg Tryz.func85 (by kernel_rfl) rfl) (fun r k h w v hb a1 z1=>?_);injection h with h;injection h with h _;subst h
  exact(Sym.rsign_q v r w a1).mono fun _ _ h=>⟨_,h.1,h.2,Zk⟩
 ·refine ent_t1 hres (jg Tryz.func24 (by kernel_rfl) rfl) (fun l h w hb=>?_);obtain⟨hk,rfl⟩:=Jg h ho;exact(cjR l w (by omega) (hG' w hb)).mono fun _ _ h=>cbU (cdg l hk) h
 ·refine ent_t1 hres (jg Tryz.func37 (by kernel_rfl) rfl) (fun l h w hb=>?_);obtain⟨hk,rfl⟩:=Jg h ho;exact(Sym.rat_ok l _ 4 w rfl (cdg l hk)).mono fun _ _ h=>res_r (cdg l hk) h
 ·cases hres
theorem UO {o:Oper}{op:BinOp}{t:Nat}{xs:List Operand}(h:uu o=some (.bin op t,xs)):∃ x y u,o.op=.binOp op t x y u/\xs=[x,y]:=by
 unfold uu at h;split at h<;>first
  |(rename_i h0;simp only[kD,cr,Hd.bin.injEq,reduceCtorEq,Gm] at h;try (obtain⟨⟨rfl,rfl⟩,rfl⟩:=h;exact⟨_,_,_,h0,rfl⟩))
  |(split at h<;>simp at h)
  |simp at h
theorem Kl {op:BinOp}{t:Nat}{k:IntKind}{i j:Int}{v:Value}(hr:∀ w,(Go.binOp op t (.int k i) (.int k j)).run Tryz.prog w=.ok v w):jQ (Cx bb lo w0) (.bin op t) [.one (.lit (.int k i)),.one (.lit (.int k j))] (vr v):=by
 intro w ρ o xs ho hb hvs;obtain⟨x,y,u,hop,rfl⟩:=UO ho;obtain⟨v1,_,e1,h4,v2,_,e2,h5,e3⟩:=hvs;have h4:[v1]=[.int k i]:=h4;have h5:[v2]=[.int k j]:=h5;injection h4 with h4 _
 injection h5 with h5 _
 subst h4;subst h5;subst e3;subst e2;simp only[jN,kN,yD] at e1;obtain⟨ea,eb,_⟩:=e1;refine⟨v,w,?_,cu _ _,Zk⟩;have hg:(eqGuard op t x y (.int k i) (.int k j)).run Tryz.prog w=.ok () w:=by
  unfold eqGuard;cases op<;>rfl
 show (execOp ρ o).run Tryz.prog w=_;simp only[execOp,hop,ea,eb,jd,hg,hr w,jA];rfl
theorem ceh {op : BinOp} {t : Nat} {b : Bool} {args : List (Pat Dx)} {res : jy Dx} {ob : List Prop} (h : cfO op b args = some (res, ob)) (ho : jC ob) : jQ (Cx bb lo w0) (.bin op t) args res := by
  unfold cfO at h
  split at h
  · rename_i i j
    split at h
    · rename_i x hx
      injection h with h; injection h with h1 h2; subst h1; subst h2
      obtain rfl : x = b := ho.1
      refine Kl (fun w => ?_)
      cases op <;> simp only [cmpI, reduceCtorEq, kD] at hx <;> subst hx <;> first
        | rfl
        | (show Result.ok (Value.bool (!(decide (i = j)))) w = _
           simp)
    · cases h
  · rename_i i j
    split at h
    · rename_i x hx
      injection h with h; injection h with h1 h2; subst h1; subst h2
      obtain rfl : x = b := ho.1
      refine Kl (fun w => ?_)
      cases op <;> simp only [cmpI, reduceCtorEq, kD] at hx <;> subst hx <;> first
        | rfl
        | (show Result.ok (Value.bool (!(decide (i = j)))) w = _
           simp)
    · cases h
  · cases h
theorem UF {op op':BinOp}{t:Nat}{args:List (Pat Dx)}{res:jy Dx}{ob:List Prop}(h:ccW op args=some (res,ob)) (ho:jC ob) (hop:op=op'):jQ (Cx bb lo w0) (.bin op' t) args res:=by
 subst hop;unfold ccW at h;split at h
 ·rename_i i j;split at h
  ·injection h with h;injection h with h1 h2;subst h1;subst h2
   obtain⟨⟨h3,h4⟩,_⟩:=ho;refine Kl (fun w=>?_);show Result.ok (Value.int .i64 (IntKind.i64.wrap (i+j))) w=_;rw[show IntKind.i64.wrap (i+j)=i+j by rw[yM];omega]
  ·injection h with h;injection h with h1 h2;subst h1;subst h2
   obtain⟨⟨h3,h4⟩,_⟩:=ho;refine Kl (fun w=>?_);show Result.ok (Value.int .i64 (IntKind.i64.wrap (i-j))) w=_;rw[show IntKind.i64.wrap (i-j)=i-j by rw[yM];omega]
  ·injection h with h;injection h with h1 h2;subst h1;subst h2
   obtain⟨⟨h3,h4⟩,_⟩:=ho;refine Kl (fun w=>?_);show Result.ok (Value.int .i64 (IntKind.i64.wrap (i*j))) w=_;rw[show IntKind.i64.wrap (i*j)=i*j by rw[yM];omega]
  ·cases h
 ·cases h
theorem cjE {t:Nat}{args:List (Pat Dx)}{res:jy Dx}{ob:List Prop}(h:cfR args=some (res,ob)) (ho:jC ob):jQ (Cx bb lo w0) (.bin .sub t) args res:=by
 unfold cfR at h;split at h
 ·rename_i i j;injection h with h;injection h with h1 h2;subst h1;subst h2
  obtain⟨h3,h4,_⟩:=ho;refine Kl (fun w=>?_);have h3:j<=i:=h3;have h4:i<=1000000000:=h4;have e:(Int.ofNat i:Int)-Int.ofNat j=Int.ofNat (i-j):=by
   show (i:Int)-(j:Int)=((i-j:Nat):Int);omega
  show Result.ok (Value.int .i64 (IntKind.i64.wrap (Int.ofNat i-Int.ofNat j))) w=_;rw[e,show IntKind.i64.wrap (Int.ofNat (i-j))=Int.ofNat (i-j) by
   rw[yM];have:(Int.ofNat (i-j):Int)=((i-j:Nat):Int):=rfl;omega]
 ·cases h
theorem ckO {o:Oper}{s d:Nat}{xs:List Operand}(h:uu o=some (.cv s d,xs)):∃ x,o.op=.convert s d x/\xs=[x]:=by
 unfold uu at h;split at h<;>first
  |(rename_i h0;simp only[kD,cr,Hd.cv.injEq,reduceCtorEq,Gm] at h;try (obtain⟨⟨rfl,rfl⟩,rfl⟩:=h;exact⟨_,h0,rfl⟩))
  |(split at h<;>simp at h)
  |simp at h
theorem cjV {s d:Nat}{k k':IntKind}{i:Int}(hs:(Tryz.prog.underlying s).isSome=true) (hd:Tryz.prog.underlying d=some (.int (Tryz.prog.intKind d))) (hk:Tryz.prog.intKind d=k') (hw:k'.wrap i=i):jQ (Cx bb lo w0) (.cv s d) [.one (.lit (.int k i))] (vr (.int k' i)):=by
 intro w ρ o xs ho hb hvs;obtain⟨x,hop,rfl⟩:=ckO ho;obtain⟨v1,_,e1,h4,e2⟩:=hvs;have h4:[v1]=[.int k i]:=h4;injection h4 with h4 _
 subst h4;subst e2;simp only[jN,kN,yD] at e1;obtain⟨ea,_⟩:=e1;refine⟨_,w,?_,cu _ _,Zk⟩;show (execOp ρ o).run Tryz.prog w=_;simp only[execOp,hop,ea,jd,run_convert_int _ _ _ _ _ hs hd,hk,hw,jA];rfl
theorem cna {args:List (Pat Dx)}{res:jy Dx}{ob:List Prop}(h:cjw args=some (res,ob)) (ho:jC ob):jQ (Cx bb lo w0) (.cv 3 112) args res:=by
 unfold cjw at h;split at h
 ·rename_i i;injection h with h;injection h with h1 h2;subst h1;subst h2
  have h3:i<=4000000000:=ho.1;refine cjV (by kernel_rfl) (by kernel_rfl) (by kernel_rfl) ?_;rw[zz];have:(Int.ofNat i:Int)=((i:Nat):Int):=rfl;omega
 ·cases h
theorem cmM {args:List (Pat Dx)}{res:jy Dx}{ob:List Prop}(h:ckk args=some (res,ob)) (ho:jC ob):jQ (Cx bb lo w0) (.cv 5 2) args res:=by
 unfold ckk at h;split at h
 ·rename_i i;injection h with h;injection h with h1 h2;subst h1;subst h2
  have h3:i<=255:=ho.1;refine cjV (by kernel_rfl) (by kernel_rfl) (by kernel_rfl) ?_;rw[yM];have:(Int.ofNat i:Int)=((i:Nat):Int):=rfl;omega
 ·cases h
theorem cnw {args:List (Pat Dx)}{res:jy Dx}{ob:List Prop}(h:ciD args=some (res,ob)) (ho:jC ob):jQ (Cx bb lo w0) (.cv 112 3) args res:=by
 unfold ciD at h;split at h
 ·rename_i i;injection h with h;injection h with h1 h2;subst h1;subst h2
  have h3:i<=4000000000:=ho.1;refine cjV (by kernel_rfl) (by kernel_rfl) (by kernel_rfl) ?_;rw[yM];have:(Int.ofNat i:Int)=((i:Nat):Int):=rfl;omega
 ·cases h
theorem ciC {t:Nat}{args:List (Pat Dx)}{res:jy Dx}{ob:List Prop}(h:cfU args=some (res,ob)):jQ (Cx bb lo w0) (.bin .shr t) args res:=by
 unfold cfU at h;split at h
 ·rename_i i j;split at h
  ·rename_i hj;obtain rfl:=ct hj;injection h with h;injection h with h1 h2;subst h1;subst h2
   intro w ρ o xs ho hb hvs;obtain⟨x,y,u,hop,rfl⟩:=UO ho;obtain⟨v1,_,e1,h4,v2,_,e2,h5,e3⟩:=hvs;have h4:[v1]=[.int .u64 (.ofNat i)]:=h4;have h5:[v2]=[.int .u64 (.ofNat 1)]:=h5;injection h4 with h4 _
   injection h5 with h5 _
   subst h4;subst h5;subst e3;subst e2;simp only[jN,kN,yD] at e1;obtain⟨ea,eb,_⟩:=e1;refine⟨.int .u64 (.ofNat (i/2)),w,?_,cu _ _,Zk⟩;have hg:(eqGuard .shr t x y (.int .u64 (.ofNat i)) (.int .u64 (.ofNat 1))).run Tryz.prog w=.ok () w:=rfl;show (execOp ρ o).run Tryz.prog w=_;simp only[execOp,hop,ea,eb,jd,hg,jA,binOp_shr];show Result.ok (Next.value (Value.int .u64 (Int.fdiv (Int.ofNat i) (2^1)))) w=_;rw[show Int.fdiv (Int.ofNat i) (2^1)=Int.ofNat (i/2) by
    show Int.fdiv ((i:Nat):Int) 2=((i/2:Nat):Int);rw[Int.fdiv_eq_ediv_of_nonneg _ (by omega)];rfl]
  ·cases h
 ·cases h
theorem cdJ {op:BinOp}{k':IntKind}{i j:Nat}{t:Nat}{v:Value}(hj:j<=62) (h:op=.shr/\v=.int .i64 (.ofNat (i/2^j))\/op=.shl/\i*2^j<=9223372036854775807/\v=.int .i64 (.ofNat (i*2^j))) {w:World}:(Go.binOp op t (.int .i64 (.ofNat i)) (.int k' (.ofNat j))).run Tryz.prog w=.ok v w:=by
 have hn:¬ (Int.ofNat j:Int)<0:=by show ¬ ((j:Nat):Int)<0;omega
 have hm:min (Int.ofNat j).toNat IntKind.i64.bits=j:=by
  show min j 64=j;omega
 have hp:((2:Int)^j)=((2^j:Nat):Int):=by rw[Int.natCast_pow];rfl
 rcases h with⟨rfl,rfl⟩|⟨rfl,hb,rfl⟩
 ·rw[binOp_shr,Op.shift,cg hn,hm];show Result.ok (Value.int .i64 (Int.fdiv (Int.ofNat i) (2^j))) w=_;rw[hp,Int.fdiv_eq_ediv_of_nonneg _ (cdl _)];rfl
 ·rw[binOp_shl,Op.shift,cg hn,hm];show Result.ok (Value.int .i64 (IntKind.i64.wrap (Int.ofNat i*2^j))) w=_;rw[hp,show (Int.ofNat i:Int)*((2^j:Nat):Int)=Int.ofNat (i*2^j) from(ut i (2^j)).symm];generalize i*2^j=m at hb ⊢;rw[show IntKind.i64.wrap (Int.ofNat m)=Int.ofNat m by
   rw[yM];have:(Int.ofNat m:Int)=((m:Nat):Int):=rfl;omega]
theorem chS {op:BinOp}{t:Nat}{k k':IntKind}{i j:Int}{v:Value}(hop:op=.shr\/op=.shl) (hr:∀ w,(Go.binOp op t (.int k i) (.int k' j)).run Tryz.prog w=.ok v w):jQ (Cx bb lo w0) (.bin op t) [.one (.lit (.int k i)),.one (.lit (.int k' j))] (vr v):=by
 intro w ρ o xs ho hb hvs;obtain⟨x,y,u,h0,rfl⟩:=UO ho;obtain⟨v1,_,e1,h4,v2,_,e2,h5,e3⟩:=hvs;have h4:[v1]=[.int k i]:=h4;have h5:[v2]=[.int k' j]:=h5;injection h4 with h4 _
 injection h5 with h5 _
 subst h4;subst h5;subst e3;subst e2;simp only[jN,kN,yD] at e1;obtain⟨ea,eb,_⟩:=e1;refine⟨v,w,?_,cu _ _,Zk⟩;have hg:(eqGuard op t x y (.int k i) (.int k' j)).run Tryz.prog w=.ok () w:=by rcases hop with rfl|rfl<;>rfl
 show (execOp ρ o).run Tryz.prog w=_;simp only[execOp,h0,ea,eb,jd,hg,hr w,jA];rfl
theorem cmA {t:Nat}{args:List (Pat Dx)}{res:jy Dx}{ob:List Prop}(h:cjA args=some (res,ob)) (ho:jC ob):jQ (Cx bb lo w0) (.bin .shr t) args res:=by
 unfold cjA at h;split at h
 ·rename_i r hr;injection h with h;subst h
  exact ciC hr
 ·unfold conShI at h;split at h
  ·injection h with h;injection h with h1 h2;subst h1;subst h2
   exact chS (.inl rfl) (fun w=>cdJ ho.1 (.inl ⟨rfl,rfl⟩))
  ·cases h
theorem cmN {t:Nat}{args:List (Pat Dx)}{res:jy Dx}{ob:List Prop}(h:ckb args=some (res,ob)) (ho:jC ob):jQ (Cx bb lo w0) (.bin .shl t) args res:=by
 unfold ckb at h;split at h
 ·injection h with h;injection h with h1 h2;subst h1;subst h2
  exact chS (.inr rfl) (fun w=>cdJ ho.1 (.inr ⟨rfl,ho.2.1,rfl⟩))
 ·cases h
theorem cme {t:Nat}{args:List (Pat Dx)}{res:jy Dx}{ob:List Prop}(h:cjh args=some (res,ob)) (ho:jC ob):jQ (Cx bb lo w0) (.bin .and t) args res:=by
 unfold cjh at h;split at h
 ·rename_i i j;split at h
  ·rename_i hj;obtain rfl:=ct hj;injection h with h;injection h with h1 h2;subst h1;subst h2
   have hi:i<=9223372036854775807:=ho.1;refine Kl (fun w=>?_);rw[binOp_and];have e:=bits_nat .i64 63 (by decide) (fun n h1 h2=>by rw[yM];omega) i 1 (by omega) (by decide);exact cX (fun z=>Result.ok (Value.int .i64 z) w) (e.1.trans (by rw[Nat.and_one_is_mod];rfl))
  ·cases h
 ·cases h
def CI (bb:Bool) (lo:Nat) (w0:World) (l:List (Nat×Con)):Prop:=∀ f F,find f l=some F->∀ hd,hdOf f=hd->∀ args res ob,F args=some (res,ob)->jC ob->jQ (Cx bb lo w0) hd args res
theorem kU:CI bb lo w0 []:=fun f F h=>by simp [jj] at h
theorem cpg {g:Nat}{G:Con}{l:List (Nat×Con)}{hg:Hd}(hh:hdOf g=hg) (h:∀ args res ob,G args=some (res,ob)->jC ob->jQ (Cx bb lo w0) hg args res) (k:CI bb lo w0 l):CI bb lo w0 ((g,G)::l):=fun f F hF hd hd' args res ob hr ho=>by
 rw[cS] at hF;split at hF
 ·rename_i hb;injection hF with hF;subst hF
  rw[← ct hb,hh] at hd';subst hd';exact h args res ob hr ho
 ·exact k f F hF hd hd' args res ob hr ho
theorem jG {g:Nat}{G:Con}{l:List (Nat×Con)}(h:∀ args res ob,G args=some (res,ob)->jC ob->jQ (Cx bb lo w0) (.call g) args res) (k:CI bb lo w0 l) (hg:Nat.ble 1000000 g=false:=by rfl):CI bb lo w0 ((g,G)::l):=cpg (ZU hg) h k
theorem ty_ok (hG:Gr w0) {o:Opt}(hE:CI true lo w0 o.ex) (g:FuncId):(TY o g).Ok (Cx true lo w0):=by
 intro n hd F args res ob hF hres ho;unfold TY at hF;split at hF
 ·rename_i f;have key:∀ F,callT o f=some F->∀ res ob,F args=some (res,ob)->jC ob->jQ (Cx true lo w0) (.call f) args res:=by
   intro F hF res ob hr ho;unfold callT at hF;split at hF
   ·rename_i h1;split at hF
    ·cases hF
    ·rename_i hg;injection hF with hF;subst hF
     exact hE _ _ h1 _ (ZU hg) _ _ _ hr ho
   ·split at hF
    ·rename_i h1;injection hF with hF;subst hF
     exact cfz hG h1 hr ho
    ·exact tabR_ok hG hF hr ho
  split at hF
  ·rename_i G hG;split at hF
   ·rename_i b hb;injection hF with hF;subst hF
    unfold cfl at hres;split at hres
    ·rename_i x ob' hx;injection hres with hres;injection hres with h1 h2;subst h1;subst h2
     have:=key G hG _ _ hx ho.2;rw[show x=b from ho.1] at this;exact this
    ·exact key G hG _ _ hres ho
   ·injection hF with hF;subst hF
    exact key _ hG _ _ hres ho
  ·cases hF
 ·rename_i f;exact hE (keyM f) F hF (.mem f) (coi f) args res ob hres ho
 ·split at hF
  ·injection hF with hF;subst hF
   cases hres
  ·cases hF
 ·split at hF
  ·split at hF
   ·injection hF with hF;subst hF
    exact cjE hres ho
   ·injection hF with hF;subst hF
    exact ceh hres ho
  ·split at hF
   ·injection hF with hF;subst hF
    exact UF hres ho rfl
   ·injection hF with hF;subst hF
    exact UF hres ho rfl
   ·injection hF with hF;subst hF
    exact UF hres ho rfl
   ·injection hF with hF;subst hF
    exact cmA hres ho
   ·injection hF with hF;subst hF
    exact cmN hres ho
   ·injection hF with hF;subst hF
    exact cme hres ho
   ·cases hF
 ·rename_i s t;split at hF
  ·rename_i h1;split at hF
   ·rename_i h2;injection hF with hF;subst hF
    rw[ct h1,ct h2];exact cna hres ho
   ·cases hF
  ·split at hF
   ·rename_i h1;split at hF
    ·rename_i h2;injection hF with hF;subst hF
     rw[ct h1,ct h2];exact cnw hres ho
    ·cases hF
   ·split at hF
    ·rename_i h1;split at hF
     ·rename_i h2;injection hF with hF;subst hF
      rw[ct h1,ct h2];exact cmM hres ho
     ·cases hF
    ·cases hF
 ·cases hF
theorem ccA (hlo : lo ≤ w0.heap.size) (hG : Gr w0) (hN : ∀ (f : Nat) (fn : Func), Tryz.prog.funcs[f]? = some fn → (fn.name == "runtime.NumGoroutine") = false) {o : Opt} (hE : CI true lo w0 o.ex) : CB (Cx true lo w0) (TY o) := ⟨cgH hlo, hN, ty_ok hG hE⟩
end
end Pe
end Go.Proofs.YtgdnkbajagfijaaGreatDoor
