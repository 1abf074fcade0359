/- Part 28. -/
import Derived.Test.YtokieocpdcngcaaGreatDoorZ27
set_option linter.all false
open Int (natCast_mul)
open Go.IntKind (wrap_i64 wrap_u64)
open List (map_cons mem_cons)
open Nat (eq_of_beq_eq_true)
open Rat (num_intCast)
open Go.Result (andThen_ok)
open Go.Sem (run_bind)
noncomputable section

namespace Go.Proofs.YtokieocpdcngcaaGreatDoor
open Go Go.RowKit Go.Proofs Lim
namespace Sym
section
variable {csz:List Nat}{numc:List Bool}{okT:List Nat}{nt:Nat}{cl:List Cl}{w0:World}{w:World}{v z:Value}{p1 p2 p3 p4:Pat}{res:cK}{c d c1 c2 c3 c4 c5 c6:Nat}{a b l:List UInt8}{r s:Rat}{k k1 k2 k3:Nat}{i j:Int}
end
end Sym
namespace Sym
section
variable {csz:List Nat}{numc:List Bool}{okT:List Nat}{nt:Nat}{cl:List Cl}{w0:World}{w:World}{p1 p2:Pat}{c1 c2:Nat}{l:List UInt8}{r:Rat}{k1 k2:Nat}
end
end Sym
namespace Pe
structure Opt where
 ors:List (Nat×Nat×Bool)
 gls:List (Nat×Nat)
 ex:List (Nat×Con)
def ceX (f d:Nat):List (Nat×Nat×Bool)->Option Bool
 |[]=>none
 |(g,t,b)::l=>match Nat.beq g f with
  |true=>match Nat.beq t d with
   |true=>some b
   |false=>ceX f d l
  |false=>ceX f d l
def hasGl (f d:Nat):List (Nat×Nat)->Bool
 |[]=>false
 |(g,t)::l=>match Nat.beq g f with
  |true=>match Nat.beq t d with
   |true=>true
   |false=>hasGl f d l
  |false=>hasGl f d l
def tabR:List (Nat×Con):=[
 (57,r2 fun r j s k=>ck false (j+k+1<=10000) (rr (r+s) (j+k+1))),
 (55,r2 fun r j s k=>ck false (j+k+1<=10000) (rr (r-s) (j+k+1))),
 (58,r2 fun r j s k=>ck false (j+k<=10000) (rr (r*s) (j+k))),
 (88,r2 fun r j s k=>ck false (s.num≠0/\j+k<=10000) (rr (r/s) (j+k))),
 (21,r2 fun r j s k=>ck false (j+k<=10000) (vr (.int .i64 (uu r s)))),
 (89,r1 fun r k=>some (rr (-r) k,[])),
 (54,r1 fun r _=>some (vr (.int .i64 (zl r)),[])),
 (56,i1 fun i=>ck false (yu i) (rr (i:Rat) 1)),
 (53,i2 fun i j=>ck false (yu i/\yu j/\j≠0) (rr ((i:Rat)/(j:Rat)) 2)),
 (0,fun _=>none)]
def cmpI:BinOp->Int->Int->Option Bool
 |.lss,i,j=>some (decide (i<j))
 |.leq,i,j=>some (decide (i<=j))
 |.gtr,i,j=>some (decide (i>j))
 |.geq,i,j=>some (decide (i>=j))
 |.eql,i,j=>some (decide (i=j))
 |.neq,i,j=>some (decide (i≠j))
 |_,_,_=>none
def cak (op:BinOp) (b:Bool):Con
 |[.one (.lit (.int .i64 i)),.one (.lit (.int .i64 j))]=>match cmpI op i j with
  |some x=>some (vr (.bool b),[x=b])
  |none=>none
 |[.one (.lit (.int .u8 i)),.one (.lit (.int .u8 j))]=>match cmpI op i j with
  |some x=>some (vr (.bool b),[x=b])
  |none=>none
 |_=>none
noncomputable def conNil (t:Nat) (b:Bool):Con
 |[.one (.cls (.ls L)),.one (.lit (.slice none 0 0))]=>match Tryz.prog.underlying t with
  |some (.slice _)=>some (vr (.bool b),[b=false,0<L.n])
  |_=>none
 |_=>none
noncomputable def conEql (t:Nat) (b:Bool):Con:=fun l=>match conNil t b l with
 |some r=>some r
 |none=>cak .eql b l
def cbA (op:BinOp):Con
 |[.one (.lit (.int .i64 i)),.one (.lit (.int .i64 j))]=>match op with
  |.add=>some (vr (.int .i64 (i+j)),[yu (i+j)])
  |.sub=>some (vr (.int .i64 (i-j)),[yu (i-j)])
  |.mul=>some (vr (.int .i64 (i*j)),[yu (i*j)])
  |_=>none
 |_=>none
def caF:Con
 |[.one (.lit (.int .u8 (.ofNat i))),.one (.lit (.int .u8 (.ofNat j)))]=>some (vr (.int .u8 (.ofNat (i%j))),[0<j])
 |_=>none
def ccC:Con
 |[.one (.lit (.int .u8 (.ofNat i)))]=>some (vr (.int .i64 (.ofNat i)),[i<=255])
 |_=>none
def cay:Con
 |[.one (.lit (.int .i32 i))]=>some (vr (.int .i64 i),[-2147483648<=i/\i<=2147483647])
 |_=>none
def caM:Con
 |[.one (.lit (.int .i64 (.ofNat i))),.one (.lit (.int .i64 (.ofNat j)))]=>some (vr (.int .i64 (.ofNat (i-j))),[j<=i,i<=1000000000])
 |_=>none
def ccL:Con
 |[.one (.lit (.int .i64 (.ofNat i)))]=>some (vr (.int .u64 (.ofNat i)),[i<=4000000000])
 |_=>none
def ccx:Con
 |[.one (.lit (.int .u64 (.ofNat i)))]=>some (vr (.int .i64 (.ofNat i)),[i<=4000000000])
 |_=>none
def cab:Con
 |[.one (.lit (.int .u64 (.ofNat i))),.one (.lit (.int .u64 (.ofNat j)))]=>match Nat.beq j 1 with
  |true=>some (vr (.int .u64 (.ofNat (i/2))),[])
  |false=>none
 |_=>none
def conShI:Con
 |[.one (.lit (.int .i64 (.ofNat i))),.one (.lit (.int .u64 (.ofNat j)))]=>some (vr (.int .i64 (.ofNat (i/2^j))),[j<=62])
 |_=>none
def ccE:Con:=fun l=>match cab l with
 |some r=>some r
 |none=>conShI l
def cdl:Con
 |[.one (.lit (.int .i64 (.ofNat i))),.one (.lit (.int .u64 (.ofNat j)))]=>some (vr (.int .i64 (.ofNat (i*2^j))),[j<=62,i*2^j<=9223372036854775807])
 |_=>none
def ccJ:Con
 |[.one (.lit (.int .i64 (.ofNat i))),.one (.lit (.int .i64 (.ofNat j)))]=>match Nat.beq j 1 with
  |true=>some (vr (.int .i64 (.ofNat (i%2))),[i<=9223372036854775807])
  |false=>none
 |_=>none
def conAns (b:Bool) (F:Con):Con:=fun l=>match F l with
 |some (.val (.one (.lit (.bool x))),ob)=>some (vr (.bool b),(x=b)::ob)
 |r=>r
def hdK (K f:Nat):Hd:=match Nat.ble K f with
 |true=>.mem (f-K)
 |false=>.call f
def hdOf (f:Nat):Hd:=hdK 1000000 f
def keyM (f:Nat):Nat:=f+1000000
theorem hdK_mem (K f:Nat):hdK K (f+K)=.mem f:=by
 unfold hdK;rw[Nat.ble_eq_true_of_le (Nat.le_add_left K f),Nat.add_sub_cancel]
theorem chs (f:Nat):hdOf (keyM f)=.mem f:=hdK_mem 1000000 f
theorem ZL {f:Nat}(h:Nat.ble 1000000 f=false):hdOf f=.call f:=by
 unfold hdOf hdK;rw[h]
def callT (o:Opt) (f:Nat):Option Con:=match find f o.ex with
 |some F=>match Nat.ble 1000000 f with
  |true=>none
  |false=>some F
 |none=>match find f (tabX false) with
  |some F=>some F
  |none=>find f tabR
noncomputable def TY (o:Opt):FuncId->Tab Dx:=fun fid d h=>match h with
 |.call f=>match callT o f with
  |some F=>match ceX fid d o.ors with
   |some b=>some (conAns b F)
   |none=>some F
  |none=>none
 |.mem f=>find (keyM f) o.ex
 |.gl=>match hasGl fid d o.gls with
  |true=>some (fun _=>none)
  |false=>none
 |.bin op t=>match ceX fid d o.ors with
  |some b=>match op with
   |.sub=>some caM
   |.eql=>some (conEql t b)
   |_=>some (cak op b)
  |none=>match op with
   |.add=>some (cbA .add)
   |.sub=>some (cbA .sub)
   |.mul=>some (cbA .mul)
   |.rem=>some caF
   |.shr=>some ccE
   |.shl=>some cdl
   |.and=>some ccJ
   |_=>none
 |.cv 21 2=>some cay
 |.cv s t=>match Nat.beq s 3 with
  |true=>match Nat.beq t 155 with
   |true=>some ccL
   |false=>none
  |false=>match Nat.beq s 155 with
   |true=>match Nat.beq t 3 with
    |true=>some ccx
    |false=>none
   |false=>match Nat.beq s 5 with
    |true=>match Nat.beq t 2 with
     |true=>some ccC
     |false=>none
    |false=>none
 |_=>none
section
variable {bb:Bool}{lo:Nat}{w0:World}
theorem ent_r1 {f:Nat}{g:Rat->Nat->Option (cK Dx×List Prop)}{args:List (Pat Dx)}{res:cK Dx}{ob:List Prop}(h:r1 g args=some (res,ob)) (hE:Enters Tryz.prog f)
 (hc:∀ r k,g r k=some (res,ob)->∀ w v,Below w0.heap.size w0 w->Sym.RQ w v r->Siz r k->Calls Tryz.prog f #[v] w (caK bb lo w0 w res)):cZ (Cx bb lo w0) (.call f) args res:=by
 refine⟨hE,fun w vs hb hvs=>?_⟩;unfold r1 at h;split at h
 ·split at h
  ·rename_i r k hq;obtain⟨v,_,rfl,h1,rfl⟩:=hvs;have h1:=cdo hq h1;exact hc r k h w v hb h1.1 h1.2
  ·cases h
 ·cases h
theorem WZ {f:Nat}{g:Rat->Nat->Rat->Nat->Option (cK Dx×List Prop)}{args:List (Pat Dx)}{res:cK Dx}{ob:List Prop}(h:r2 g args=some (res,ob)) (hE:Enters Tryz.prog f)
 (hc:∀ r j s k,g r j s k=some (res,ob)->∀ w v1 v2,Below w0.heap.size w0 w->Sym.RQ w v1 r->Siz r j->Sym.RQ w v2 s->Siz s k->Calls Tryz.prog f #[v1,v2] w (caK bb lo w0 w res)):cZ (Cx bb lo w0) (.call f) args res:=by
 refine⟨hE,fun w vs hb hvs=>?_⟩;unfold r2 at h;split at h
 ·split at h
  ·rename_i r j s k hq hq';obtain⟨v1,_,rfl,h1,v2,_,rfl,h2,rfl⟩:=hvs;have h1:=cdo hq h1;have h2:=cdo hq' h2;exact hc r j s k h w v1 v2 hb h1.1 h1.2 h2.1 h2.2
  ·cases h
 ·cases h
theorem rob_r {w w':World}{v:Value}{r:Rat}{k:Nat}(h:Sym.RQ w' v r) (z:Siz r k):KS (Cx true lo w0) w w' (rr r k) v:=by
 intro S hS w'' hs hk;have h1:=rqK h (GI (b:=true) rfl hS hk);obtain⟨a,b,h2,h3,h4⟩:=h1;refine⟨[_,a,b],⟨?_,rfl⟩,h2⟩;show DIs w'' (.rq r k) ([_,a,b].take 3);exact .rq rfl ⟨a,b,rfl,h3,h4⟩ z
theorem Wp {w:World}{r:Rat}{k:Nat}(z:Siz r k) {e:Ending}{w':World}(h:Sym.RNew w r e w'):caK true lo w0 w (rr r k) e w':=by
 obtain⟨v,he,hv,hb⟩:=h;exact⟨v,he,hb,rob_r hv z⟩
theorem tabR_ok (hG:Gr w0) {f:Nat}{F:Con}{args:List (Pat Dx)}{res:cK Dx}{ob:List Prop}(hF:find f tabR=some F) (hres:F args=some (res,ob)) (ho:jc ob):cZ (Cx true lo w0) (.call f) args res:=by
 have hG':∀ w,Below w0.heap.size w0 w->Gr w:=fun w hb=>hG.below hb hG.size;have hm:=jG hF;simp only[tabR,mem_cons,Prod.mk.injEq,List.not_mem_nil,or_false] at hm;rcases hm with⟨rfl,rfl⟩|⟨rfl,rfl⟩|⟨rfl,rfl⟩|⟨rfl,rfl⟩|⟨rfl,rfl⟩|⟨rfl,rfl⟩|⟨rfl,rfl⟩|⟨rfl,rfl⟩|⟨rfl,rfl⟩|⟨rfl,rfl⟩
 ·refine WZ hres (enters_of Tryz.func57 (by kernel_rfl) rfl) (fun r j s k h w v1 v2 hb a1 z1 a2 z2=>?_);obtain⟨hk,rfl⟩:=zd h ho;exact(Sym.radd_q v1 v2 r s (j+k+1) w a1 a2 (z1.le (by omega)) (z2.le (by omega)) (by omega)).mono fun _ _ h=>Wp (z1.add z2) h
 ·refine WZ hres (enters_of Tryz.func55 (by kernel_rfl) rfl) (fun r j s k h w v1 v2 hb a1 z1 a2 z2=>?_);obtain⟨hk,rfl⟩:=zd h ho;exact(Sym.rsub_q v1 v2 r s (j+k+1) w a1 a2 (z1.le (by omega)) (z2.le (by omega)) (by omega)).mono fun _ _ h=>Wp (z1.sub z2) h
 ·refine WZ hres (enters_of Tryz.func58 (by kernel_rfl) rfl) (fun r j s k h w v1 v2 hb a1 z1 a2 z2=>?_);obtain⟨hk,rfl⟩:=zd h ho;exact(Sym.rmul_q v1 v2 r s (j+k) w a1 a2 (z1.le (by omega)) (z2.le (by omega)) (by omega)).mono fun _ _ h=>Wp (z1.mul z2) h
 ·refine WZ hres (enters_of Tryz.func88 (by kernel_rfl) rfl) (fun r j s k h w v1 v2 hb a1 z1 a2 z2=>?_);obtain⟨⟨h0,hk⟩,rfl⟩:=zd h ho;exact(Sym.rdiv_q v1 v2 r s (j+k) w a1 a2 h0 (z1.le (by omega)) (z2.le (by omega)) (by omega)).mono fun _ _ h=>Wp (z1.div z2 h0) h
 ·refine WZ hres (enters_of Tryz.func21 (by kernel_rfl) rfl) (fun r j s k h w v1 v2 hb a1 z1 a2 z2=>?_);obtain⟨hk,rfl⟩:=zd h ho;exact(Sym.rcmp_q v1 v2 r s (j+k) w a1 a2 (z1.le (by omega)) (z2.le (by omega)) (by omega)).mono fun _ _ h=>⟨_,h.1,h.2,EW⟩
 ·refine ent_r1 hres (enters_of Tryz.func89 (by kernel_rfl) rfl) (fun r k h w v hb a1 z1=>?_);injection h with h;injection h with h _;subst h
  exact(Sym.rneg_q v r w a1).mono fun _ _ h=>Wp z1.neg h
 ·refine ent_r1 hres (enters_of Tryz.func54 (by kernel_rfl) rfl) (fun r k h w v hb a1 z1=>?_);injection h with h;injection h with h _;subst h
  exact(Sym.rsign_q v r w a1).mono fun _ _ h=>⟨_,h.1,h.2,EW⟩
 ·refine ent_i1 hres (enters_of Tryz.func56 (by kernel_rfl) rfl) (fun i h w hb=>?_);obtain⟨h0,rfl⟩:=zd h ho;exact(Sym.rint_q i h0.1 h0.2 w).mono fun _ _ h=>Wp (yT i h0.1 h0.2) h
 ·refine ent_i2 hres (enters_of Tryz.func53 (by kernel_rfl) rfl) (fun i j h w hb=>?_);obtain⟨⟨h1,h2,h3⟩,rfl⟩:=zd h ho;exact(Sym.rfrac_q i j h1.1 h1.2 h2.1 h2.2 h3 w).mono fun _ _ h=>Wp ((yT i h1.1 h1.2).div (yT j h2.1 h2.2) (by rw[num_intCast];exact h3)) h
 ·cases hres
theorem EB {o:Oper}{op:BinOp}{t:Nat}{xs:List Operand}(h:jU o=some (.bin op t,xs)):∃ x y u,o.op=.binOp op t x y u/\xs=[x,y]:=by
 unfold jU at h;split at h<;>first
  |(rename_i h0;simp only[Option.some.injEq,Prod.mk.injEq,Hd.bin.injEq,reduceCtorEq,false_and] at h;try (obtain⟨⟨rfl,rfl⟩,rfl⟩:=h;exact⟨_,_,_,h0,rfl⟩))
  |(split at h<;>simp at h)
  |simp at h
theorem Ci {op:BinOp}{t:Nat}{k:IntKind}{i j:Int}{v:Value}(hr:∀ w,(Go.binOp op t (.int k i) (.int k j)).run Tryz.prog w=.ok v w):cZ (Cx bb lo w0) (.bin op t) [.one (.lit (.int k i)),.one (.lit (.int k j))] (vr v):=by
 intro w ρ o xs ho hb hvs;obtain⟨x,y,u,hop,rfl⟩:=EB ho;obtain⟨v1,_,e1,h4,v2,_,e2,h5,e3⟩:=hvs;have h4:[v1]=[.int k i]:=h4;have h5:[v2]=[.int k j]:=h5;injection h4 with h4 _
 injection h5 with h5 _
 subst h4;subst h5;subst e3;subst e2;simp only[map_cons,List.map_nil,List.cons.injEq] at e1;obtain⟨ea,eb,_⟩:=e1;refine⟨v,w,?_,Below.refl _ _,EW⟩;have hg:(eqGuard op t x y (.int k i) (.int k j)).run Tryz.prog w=.ok () w:=by
  unfold eqGuard;cases op<;>rfl
 show (execOp ρ o).run Tryz.prog w=_;simp only[execOp,hop,ea,eb,run_bind,hg,hr w,andThen_ok];rfl
theorem Zq {op : BinOp} {t : Nat} {b : Bool} {args : List (Pat Dx)} {res : cK Dx} {ob : List Prop} (h : cak op b args = some (res, ob)) (ho : jc ob) : cZ (Cx bb lo w0) (.bin op t) args res := by
  unfold cak at h
  split at h
  · rename_i i j
    split at h
    · rename_i x hx
      injection h with h; injection h with h1 h2; subst h1; subst h2
      obtain rfl : x = b := ho.1
      refine Ci (fun w => ?_)
      cases op <;> simp only [cmpI, reduceCtorEq, Option.some.injEq] at hx <;> subst hx <;> first
        | rfl
        | (show Result.ok (Value.bool (!(decide (i = j)))) w = _
           simp)
    · cases h
  · rename_i i j
    split at h
    · rename_i x hx
      injection h with h; injection h with h1 h2; subst h1; subst h2
      obtain rfl : x = b := ho.1
      refine Ci (fun w => ?_)
      cases op <;> simp only [cmpI, reduceCtorEq, Option.some.injEq] at hx <;> subst hx <;> first
        | rfl
        | (show Result.ok (Value.bool (!(decide (i = j)))) w = _
           simp)
    · cases h
  · cases h
theorem cfG {t:Nat}{b:Bool}{args:List (Pat Dx)}{res:cK Dx}{ob:List Prop}(h:conNil t b args=some (res,ob)) (ho:jc ob):cZ (Cx bb lo w0) (.bin .eql t) args res:=by
 unfold conNil at h;split at h
 ·rename_i L;split at h
  ·rename_i el hel;injection h with h;injection h with h1 h2;subst h1;subst h2
   obtain⟨h3,h4,_⟩:=ho;have h3:b=false:=h3;have h4:0<L.n:=h4;subst h3;intro w ρ o xs ho hb hvs;obtain⟨x,y,u,hop,rfl⟩:=EB ho;obtain⟨v1,_,e1,h5,v2,_,e2,h6,e3⟩:=hvs;have h5:DIs w (.ls L) [v1]:=h5;have h6:[v2]=[.slice none 0 0]:=h6;injection h6 with h6 _
   subst h6;subst e3;subst e2;simp only[map_cons,List.map_nil,List.cons.injEq] at e1;obtain⟨ea,eb,_⟩:=e1;refine⟨.bool false,w,?_,Below.refl _ _,EW⟩;cases h5 with
   |nil h=>omega
   |ls k o' c arr pre vs rest =>
    have hg:(eqGuard .eql t x y (.slice (some ⟨k,o',none⟩) L.n c) (.slice none 0 0)).run Tryz.prog w=.ok () w:=rfl;have he:(Go.binOp .eql t (.slice (some ⟨k,o',none⟩) L.n c) (.slice none 0 0)).run Tryz.prog w=.ok (.bool false) w:=by
     have h0:(Op.equalIn (9999+1) t (.slice (some ⟨k,o',none⟩) L.n c) (.slice none 0 0)).run Tryz.prog w=.ok false w:=by
      generalize 9999=d;simp [Op.equalIn,run_underlying hel]
     have h1:(Op.equal t (.slice (some ⟨k,o',none⟩) L.n c) (.slice none 0 0)).run Tryz.prog w=.ok false w:=h0;simp [Go.binOp,h1]
    show (execOp ρ o).run Tryz.prog w=_;simp only[execOp,hop,ea,eb,run_bind,hg,he,andThen_ok];rfl
  ·cases h
 ·cases h
theorem cgq {t:Nat}{b:Bool}{args:List (Pat Dx)}{res:cK Dx}{ob:List Prop}(h:conEql t b args=some (res,ob)) (ho:jc ob):cZ (Cx bb lo w0) (.bin .eql t) args res:=by
 unfold conEql at h;split at h
 ·rename_i r hr;injection h with h;subst h
  exact cfG hr ho
 ·exact Zq h ho
theorem WL {op op':BinOp}{t:Nat}{args:List (Pat Dx)}{res:cK Dx}{ob:List Prop}(h:cbA op args=some (res,ob)) (ho:jc ob) (hop:op=op'):cZ (Cx bb lo w0) (.bin op' t) args res:=by
 subst hop;unfold cbA at h;split at h
 ·rename_i i j;split at h
  ·injection h with h;injection h with h1 h2;subst h1;subst h2
   obtain⟨⟨h3,h4⟩,_⟩:=ho;refine Ci (fun w=>?_);show Result.ok (Value.int .i64 (IntKind.i64.wrap (i+j))) w=_;rw[show IntKind.i64.wrap (i+j)=i+j by rw[wrap_i64];omega]
  ·injection h with h;injection h with h1 h2;subst h1;subst h2
   obtain⟨⟨h3,h4⟩,_⟩:=ho;refine Ci (fun w=>?_);show Result.ok (Value.int .i64 (IntKind.i64.wrap (i-j))) w=_;rw[show IntKind.i64.wrap (i-j)=i-j by rw[wrap_i64];omega]
  ·injection h with h;injection h with h1 h2;subst h1;subst h2
   obtain⟨⟨h3,h4⟩,_⟩:=ho;refine Ci (fun w=>?_);show Result.ok (Value.int .i64 (IntKind.i64.wrap (i*j))) w=_;rw[show IntKind.i64.wrap (i*j)=i*j by rw[wrap_i64];omega]
  ·cases h
 ·cases h
theorem ccB {t:Nat}{args:List (Pat Dx)}{res:cK Dx}{ob:List Prop}(h:caF args=some (res,ob)) (ho:jc ob):cZ (Cx bb lo w0) (.bin .rem t) args res:=by
 unfold caF at h;split at h
 ·rename_i i j;injection h with h;injection h with h1 h2;subst h1;subst h2
  have h3:0<j:=ho.1;refine Ci (fun w=>?_);rw[binOp_rem,Op.intDiv,if_neg (by show ¬ ((j:Nat):Int)=0;omega)];show Result.ok (Value.int .u8 (((i:Nat):Int).tmod ((j:Nat):Int))) w=_;rw[show ((i:Nat):Int).tmod ((j:Nat):Int)=((i%j:Nat):Int) by rw[Int.tmod_eq_emod_of_nonneg (by omega)];rfl];rfl
 ·cases h
theorem cdI {t:Nat}{args:List (Pat Dx)}{res:cK Dx}{ob:List Prop}(h:caM args=some (res,ob)) (ho:jc ob):cZ (Cx bb lo w0) (.bin .sub t) args res:=by
 unfold caM at h;split at h
 ·rename_i i j;injection h with h;injection h with h1 h2;subst h1;subst h2
  obtain⟨h3,h4,_⟩:=ho;refine Ci (fun w=>?_);have h3:j<=i:=h3;have h4:i<=1000000000:=h4;have e:(Int.ofNat i:Int)-Int.ofNat j=Int.ofNat (i-j):=by
   show (i:Int)-(j:Int)=((i-j:Nat):Int);omega
  show Result.ok (Value.int .i64 (IntKind.i64.wrap (Int.ofNat i-Int.ofNat j))) w=_;rw[e,show IntKind.i64.wrap (Int.ofNat (i-j))=Int.ofNat (i-j) by
   rw[wrap_i64];have:(Int.ofNat (i-j):Int)=((i-j:Nat):Int):=rfl;omega]
 ·cases h
theorem hd_cv {o:Oper}{s d:Nat}{xs:List Operand}(h:jU o=some (.cv s d,xs)):∃ x,o.op=.convert s d x/\xs=[x]:=by
 unfold jU at h;split at h<;>first
  |(rename_i h0;simp only[Option.some.injEq,Prod.mk.injEq,Hd.cv.injEq,reduceCtorEq,false_and] at h;try (obtain⟨⟨rfl,rfl⟩,rfl⟩:=h;exact⟨_,h0,rfl⟩))
  |(split at h<;>simp at h)
  |simp at h
theorem caC {s d:Nat}{k k':IntKind}{i:Int}(hs:(Tryz.prog.underlying s).isSome=true) (hd:Tryz.prog.underlying d=some (.int (Tryz.prog.intKind d))) (hk:Tryz.prog.intKind d=k') (hw:k'.wrap i=i):cZ (Cx bb lo w0) (.cv s d) [.one (.lit (.int k i))] (vr (.int k' i)):=by
 intro w ρ o xs ho hb hvs;obtain⟨x,hop,rfl⟩:=hd_cv ho;obtain⟨v1,_,e1,h4,e2⟩:=hvs;have h4:[v1]=[.int k i]:=h4;injection h4 with h4 _
 subst h4;subst e2;simp only[map_cons,List.map_nil,List.cons.injEq] at e1;obtain⟨ea,_⟩:=e1;refine⟨_,w,?_,Below.refl _ _,EW⟩;show (execOp ρ o).run Tryz.prog w=_;simp only[execOp,hop,ea,run_bind,run_convert_int _ _ _ _ _ hs hd,hk,hw,andThen_ok];rfl
theorem cfm {args:List (Pat Dx)}{res:cK Dx}{ob:List Prop}(h:ccL args=some (res,ob)) (ho:jc ob):cZ (Cx bb lo w0) (.cv 3 155) args res:=by
 unfold ccL at h;split at h
 ·rename_i i;injection h with h;injection h with h1 h2;subst h1;subst h2
  have h3:i<=4000000000:=ho.1;refine caC (by kernel_rfl) (by kernel_rfl) (by kernel_rfl) ?_;rw[wrap_u64];have:(Int.ofNat i:Int)=((i:Nat):Int):=rfl;omega
 ·cases h
theorem cdT {args:List (Pat Dx)}{res:cK Dx}{ob:List Prop}(h:cay args=some (res,ob)) (ho:jc ob):cZ (Cx bb lo w0) (.cv 21 2) args res:=by
 unfold cay at h;split at h
 ·injection h with h;injection h with h1 h2;subst h1;subst h2
  obtain⟨h3,h4⟩:=ho.1;exact caC (by kernel_rfl) (by kernel_rfl) (by kernel_rfl) (by rw[wrap_i64];omega)
 ·cases h
theorem cfR {args:List (Pat Dx)}{res:cK Dx}{ob:List Prop}(h:ccC args=some (res,ob)) (ho:jc ob):cZ (Cx bb lo w0) (.cv 5 2) args res:=by
 unfold ccC at h;split at h
 ·rename_i i;injection h with h;injection h with h1 h2;subst h1;subst h2
  have h3:i<=255:=ho.1;refine caC (by kernel_rfl) (by kernel_rfl) (by kernel_rfl) ?_;rw[wrap_i64];have:(Int.ofNat i:Int)=((i:Nat):Int):=rfl;omega
 ·cases h
theorem cfP {args:List (Pat Dx)}{res:cK Dx}{ob:List Prop}(h:ccx args=some (res,ob)) (ho:jc ob):cZ (Cx bb lo w0) (.cv 155 3) args res:=by
 unfold ccx at h;split at h
 ·rename_i i;injection h with h;injection h with h1 h2;subst h1;subst h2
  have h3:i<=4000000000:=ho.1;refine caC (by kernel_rfl) (by kernel_rfl) (by kernel_rfl) ?_;rw[wrap_i64];have:(Int.ofNat i:Int)=((i:Nat):Int):=rfl;omega
 ·cases h
theorem ccQ {t:Nat}{args:List (Pat Dx)}{res:cK Dx}{ob:List Prop}(h:cab args=some (res,ob)):cZ (Cx bb lo w0) (.bin .shr t) args res:=by
 unfold cab at h;split at h
 ·rename_i i j;split at h
  ·rename_i hj;obtain rfl:=eq_of_beq_eq_true hj;injection h with h;injection h with h1 h2;subst h1;subst h2
   intro w ρ o xs ho hb hvs;obtain⟨x,y,u,hop,rfl⟩:=EB ho;obtain⟨v1,_,e1,h4,v2,_,e2,h5,e3⟩:=hvs;have h4:[v1]=[.int .u64 (.ofNat i)]:=h4;have h5:[v2]=[.int .u64 (.ofNat 1)]:=h5;injection h4 with h4 _
   injection h5 with h5 _
   subst h4;subst h5;subst e3;subst e2;simp only[map_cons,List.map_nil,List.cons.injEq] at e1;obtain⟨ea,eb,_⟩:=e1;refine⟨.int .u64 (.ofNat (i/2)),w,?_,Below.refl _ _,EW⟩;have hg:(eqGuard .shr t x y (.int .u64 (.ofNat i)) (.int .u64 (.ofNat 1))).run Tryz.prog w=.ok () w:=rfl;show (execOp ρ o).run Tryz.prog w=_;simp only[execOp,hop,ea,eb,run_bind,hg,andThen_ok,binOp_shr];show Result.ok (Next.value (Value.int .u64 (Int.fdiv (Int.ofNat i) (2^1)))) w=_;rw[show Int.fdiv (Int.ofNat i) (2^1)=Int.ofNat (i/2) by
    show Int.fdiv ((i:Nat):Int) 2=((i/2:Nat):Int);rw[Int.fdiv_eq_ediv_of_nonneg _ (by omega)];rfl]
  ·cases h
 ·cases h
theorem ZO {op:BinOp}{k':IntKind}{i j:Nat}{t:Nat}{v:Value}(hj:j<=62) (h:op=.shr/\v=.int .i64 (.ofNat (i/2^j))\/op=.shl/\i*2^j<=9223372036854775807/\v=.int .i64 (.ofNat (i*2^j))) {w:World}:(Go.binOp op t (.int .i64 (.ofNat i)) (.int k' (.ofNat j))).run Tryz.prog w=.ok v w:=by
 have hn:¬ (Int.ofNat j:Int)<0:=by show ¬ ((j:Nat):Int)<0;omega
 have hm:min (Int.ofNat j).toNat IntKind.i64.bits=j:=by
  show min j 64=j;omega
 have hp:((2:Int)^j)=((2^j:Nat):Int):=by rw[Int.natCast_pow];rfl
 rcases h with⟨rfl,rfl⟩|⟨rfl,hb,rfl⟩
 ·rw[binOp_shr,Op.shift,if_neg hn,hm];show Result.ok (Value.int .i64 (Int.fdiv (Int.ofNat i) (2^j))) w=_;rw[hp,Int.fdiv_eq_ediv_of_nonneg _ (Int.natCast_nonneg _)];rfl
 ·rw[binOp_shl,Op.shift,if_neg hn,hm];show Result.ok (Value.int .i64 (IntKind.i64.wrap (Int.ofNat i*2^j))) w=_;rw[hp,show (Int.ofNat i:Int)*((2^j:Nat):Int)=Int.ofNat (i*2^j) from(natCast_mul i (2^j)).symm];generalize i*2^j=m at hb ⊢;rw[show IntKind.i64.wrap (Int.ofNat m)=Int.ofNat m by
   rw[wrap_i64];have:(Int.ofNat m:Int)=((m:Nat):Int):=rfl;omega]
theorem cbs {op:BinOp}{t:Nat}{k k':IntKind}{i j:Int}{v:Value}(hop:op=.shr\/op=.shl) (hr:∀ w,(Go.binOp op t (.int k i) (.int k' j)).run Tryz.prog w=.ok v w):cZ (Cx bb lo w0) (.bin op t) [.one (.lit (.int k i)),.one (.lit (.int k' j))] (vr v):=by
 intro w ρ o xs ho hb hvs;obtain⟨x,y,u,h0,rfl⟩:=EB ho;obtain⟨v1,_,e1,h4,v2,_,e2,h5,e3⟩:=hvs;have h4:[v1]=[.int k i]:=h4;have h5:[v2]=[.int k' j]:=h5;injection h4 with h4 _
 injection h5 with h5 _
 subst h4;subst h5;subst e3;subst e2;simp only[map_cons,List.map_nil,List.cons.injEq] at e1;obtain⟨ea,eb,_⟩:=e1;refine⟨v,w,?_,Below.refl _ _,EW⟩;have hg:(eqGuard op t x y (.int k i) (.int k' j)).run Tryz.prog w=.ok () w:=by rcases hop with rfl|rfl<;>rfl
 show (execOp ρ o).run Tryz.prog w=_;simp only[execOp,h0,ea,eb,run_bind,hg,hr w,andThen_ok];rfl
theorem cgd {t:Nat}{args:List (Pat Dx)}{res:cK Dx}{ob:List Prop}(h:ccE args=some (res,ob)) (ho:jc ob):cZ (Cx bb lo w0) (.bin .shr t) args res:=by
 unfold ccE at h;split at h
 ·rename_i r hr;injection h with h;subst h
  exact ccQ hr
 ·unfold conShI at h;split at h
  ·injection h with h;injection h with h1 h2;subst h1;subst h2
   exact cbs (.inl rfl) (fun w=>ZO ho.1 (.inl ⟨rfl,rfl⟩))
  ·cases h
theorem cgh {t:Nat}{args:List (Pat Dx)}{res:cK Dx}{ob:List Prop}(h:cdl args=some (res,ob)) (ho:jc ob):cZ (Cx bb lo w0) (.bin .shl t) args res:=by
 unfold cdl at h;split at h
 ·injection h with h;injection h with h1 h2;subst h1;subst h2
  exact cbs (.inr rfl) (fun w=>ZO ho.1 (.inr ⟨rfl,ho.2.1,rfl⟩))
 ·cases h
theorem cgD {t:Nat}{args:List (Pat Dx)}{res:cK Dx}{ob:List Prop}(h:ccJ args=some (res,ob)) (ho:jc ob):cZ (Cx bb lo w0) (.bin .and t) args res:=by
 unfold ccJ at h;split at h
 ·rename_i i j;split at h
  ·rename_i hj;obtain rfl:=eq_of_beq_eq_true hj;injection h with h;injection h with h1 h2;subst h1;subst h2
   have hi:i<=9223372036854775807:=ho.1;refine Ci (fun w=>?_);rw[binOp_and];have e:=bits_nat .i64 63 (by decide) (fun n h1 h2=>by rw[wrap_i64];omega) i 1 (by omega) (by decide);exact congrArg (fun z=>Result.ok (Value.int .i64 z) w) (e.1.trans (by rw[Nat.and_one_is_mod];rfl))
  ·cases h
 ·cases h
def yI (bb:Bool) (lo:Nat) (w0:World) (l:List (Nat×Con)):Prop:=∀ f F,find f l=some F->∀ hd,hdOf f=hd->∀ args res ob,F args=some (res,ob)->jc ob->cZ (Cx bb lo w0) hd args res
theorem cR:yI bb lo w0 []:=fun f F h=>by simp [cC] at h
theorem chZ {g:Nat}{G:Con}{l:List (Nat×Con)}{hg:Hd}(hh:hdOf g=hg) (h:∀ args res ob,G args=some (res,ob)->jc ob->cZ (Cx bb lo w0) hg args res) (k:yI bb lo w0 l):yI bb lo w0 ((g,G)::l):=fun f F hF hd hd' args res ob hr ho=>by
 rw[ct] at hF;split at hF
 ·rename_i hb;injection hF with hF;subst hF
  rw[← eq_of_beq_eq_true hb,hh] at hd';subst hd';exact h args res ob hr ho
 ·exact k f F hF hd hd' args res ob hr ho
theorem je {g:Nat}{G:Con}{l:List (Nat×Con)}(h:∀ args res ob,G args=some (res,ob)->jc ob->cZ (Cx bb lo w0) (.call g) args res) (k:yI bb lo w0 l) (hg:Nat.ble 1000000 g=false:=by rfl):yI bb lo w0 ((g,G)::l):=chZ (ZL hg) h k
theorem ty_ok (hG:Gr w0) {o:Opt}(hE:yI true lo w0 o.ex) (g:FuncId):(TY o g).Ok (Cx true lo w0):=by
 intro n hd F args res ob hF hres ho;unfold TY at hF;split at hF
 ·rename_i f;have key:∀ F,callT o f=some F->∀ res ob,F args=some (res,ob)->jc ob->cZ (Cx true lo w0) (.call f) args res:=by
   intro F hF res ob hr ho;unfold callT at hF;split at hF
   ·rename_i h1;split at hF
    ·cases hF
    ·rename_i hg;injection hF with hF;subst hF
     exact hE _ _ h1 _ (ZL hg) _ _ _ hr ho
   ·split at hF
    ·rename_i h1;injection hF with hF;subst hF
     exact ceH hG h1 hr ho
    ·exact tabR_ok hG hF hr ho
  split at hF
  ·rename_i G hG;split at hF
   ·rename_i b hb;injection hF with hF;subst hF
    unfold conAns at hres;split at hres
    ·rename_i x ob' hx;injection hres with hres;injection hres with h1 h2;subst h1;subst h2
     have:=key G hG _ _ hx ho.2;rw[show x=b from ho.1] at this;exact this
    ·exact key G hG _ _ hres ho
   ·injection hF with hF;subst hF
    exact key _ hG _ _ hres ho
  ·cases hF
 ·rename_i f;exact hE (keyM f) F hF (.mem f) (chs f) args res ob hres ho
 ·split at hF
  ·injection hF with hF;subst hF
   cases hres
  ·cases hF
 ·split at hF
  ·split at hF
   ·injection hF with hF;subst hF
    exact cdI hres ho
   ·injection hF with hF;subst hF
    exact cgq hres ho
   ·injection hF with hF;subst hF
    exact Zq hres ho
  ·split at hF
   ·injection hF with hF;subst hF
    exact WL hres ho rfl
   ·injection hF with hF;subst hF
    exact WL hres ho rfl
   ·injection hF with hF;subst hF
    exact WL hres ho rfl
   ·injection hF with hF;subst hF
    exact ccB hres ho
   ·injection hF with hF;subst hF
    exact cgd hres ho
   ·injection hF with hF;subst hF
    exact cgh hres ho
   ·injection hF with hF;subst hF
    exact cgD hres ho
   ·cases hF
 ·injection hF with hF;subst hF
  exact cdT hres ho
 ·rename_i s t;split at hF
  ·rename_i h1;split at hF
   ·rename_i h2;injection hF with hF;subst hF
    rw[eq_of_beq_eq_true h1,eq_of_beq_eq_true h2];exact cfm hres ho
   ·cases hF
  ·split at hF
   ·rename_i h1;split at hF
    ·rename_i h2;injection hF with hF;subst hF
     rw[eq_of_beq_eq_true h1,eq_of_beq_eq_true h2];exact cfP hres ho
    ·cases hF
   ·split at hF
    ·rename_i h1;split at hF
     ·rename_i h2;injection hF with hF;subst hF
      rw[eq_of_beq_eq_true h1,eq_of_beq_eq_true h2];exact cfR hres ho
     ·cases hF
    ·cases hF
 ·cases hF
theorem cdB (hlo : lo ≤ w0.heap.size) (hG : Gr w0) (hN : ∀ (f : Nat) (fn : Func), Tryz.prog.funcs[f]? = some fn → (fn.name == "runtime.NumGoroutine") = false) {o : Opt} (hE : yI true lo w0 o.ex) : Cf (Cx true lo w0) (TY o) := ⟨cx_ok hlo, hN, ty_ok hG hE⟩
end
end Pe
end Go.Proofs.YtokieocpdcngcaaGreatDoor
