/- Part 24. -/
import Derived.Test.YtobfdjojhfpakaaGreatDoorY23
set_option linter.all false
open Go.IntKind (wrap_i64 wrap_u64)
open List (map_cons mem_cons)
open Nat (add_sub_cancel eq_of_beq_eq_true)
open Go.Result (andThen_ok)
open Go.Sem (run_bind)
noncomputable section

namespace Go.Proofs.YtobfdjojhfpakaaGreatDoor
open Go Go.RowKit Go.Proofs Lim
namespace Sym
section
variable {csz:List Nat}{numc:List Bool}{okT:List Nat}{nt:Nat}{cl:List Cl}{w0:World}{w:World}{v z:Value}{p1 p2 p3 p4:Pat}{res:cM}{c d c1 c2 c3 c4 c5 c6:Nat}{a b l:List UInt8}{r s:Rat}{k k1 k2 k3:Nat}{i j:Int}
end
end Sym
namespace Sym
theorem long_ok (l:List UInt8) (w:World):Calls Tryz.prog 8 #[str l] w (Go.Proofs.YtobfdjojhfpakaaGreatDoor.Val w (.bool (decide (40<l.length)))):=by
 have hC:(mkC [1,1] [true,true] [] 6 [clV (str l),clV (ii (l.length:Int))] w).Ok:=mkC_ok (cg (clVs_ok _) (cg (clVi_ok _) oks_nil)) rfl rfl;have hT:∀ b,decide (40<l.length)=b->∀ t∈([⟨.blt .len [9] 3,[op 0],.val (op 1)⟩,⟨.bin .gtr 3,[op 1,vp (ii 40)],.val (vp (.bool b))⟩]:List Ent),t.Valid (mkC [1,1] [true,true] [] 6 [clV (str l),clV (ii (l.length:Int))] w):=fun b hb =>
  ca (e_slen rfl (pv rfl) (rv rfl)) (ca (e_gtr (pv rfl) pvl (by rw[← hb];congr 1;apply propext;omega)) ce)
 have go:∀ b,decide (40<l.length)=b->Calls Tryz.prog 8 #[str l] w (Go.Proofs.YtobfdjojhfpakaaGreatDoor.Val w (.bool b)):=by
  intro b hb;cases b with
  |true =>
   refine(run_mk hC (hT _ hb) 8 Tryz.f8 [op 0] (.val (vp (.bool true))) 60 Tryz.func8 rfl rfl rfl (by kernel_rfl) [str l] ⟨_,_,rfl,(kI rfl).2 rfl,rfl⟩).mono ?_;rintro e w' ⟨v,rfl,hv,hb⟩;rw[val_of hv];exact⟨rfl,hb⟩
  |false =>
   refine(run_mk hC (hT _ hb) 8 Tryz.f8 [op 0] (.val (vp (.bool false))) 60 Tryz.func8 rfl rfl rfl (by kernel_rfl) [str l] ⟨_,_,rfl,(kI rfl).2 rfl,rfl⟩).mono ?_;rintro e w' ⟨v,rfl,hv,hb⟩;rw[val_of hv];exact⟨rfl,hb⟩
 exact go _ rfl
section
variable {csz:List Nat}{numc:List Bool}{okT:List Nat}{nt:Nat}{cl:List Cl}{w0:World}{w:World}{p1 p2:Pat}{c1 c2:Nat}{l:List UInt8}{r:Rat}{k1 k2:Nat}
end
end Sym
namespace Pe
structure Opt where
 ors:List (Nat×Nat×Bool)
 gls:List (Nat×Nat)
 ex:List (Nat×Con)
def chj (f d:Nat):List (Nat×Nat×Bool)->Option Bool
 |[]=>none
 |(g,t,b)::l=>match Nat.beq g f with
  |true=>match Nat.beq t d with
   |true=>some b
   |false=>chj f d l
  |false=>chj f d l
def hasGl (f d:Nat):List (Nat×Nat)->Bool
 |[]=>false
 |(g,t)::l=>match Nat.beq g f with
  |true=>match Nat.beq t d with
   |true=>true
   |false=>hasGl f d l
  |false=>hasGl f d l
def tabR:List (Nat×Con):=[
 (9,t1 fun l=>ck false (l.length<=60) (qr (cT l).1 4)),
 (8,t1 fun l=>some (vr (.bool (decide (40<l.length))),[]))]
def cmpI:BinOp->Int->Int->Option Bool
 |.lss,i,j=>some (decide (i<j))
 |.leq,i,j=>some (decide (i<=j))
 |.gtr,i,j=>some (decide (i>j))
 |.geq,i,j=>some (decide (i>=j))
 |.eql,i,j=>some (decide (i=j))
 |.neq,i,j=>some (decide (i≠j))
 |_,_,_=>none
def cbN (op:BinOp) (b:Bool):Con
 |[.one (.lit (.int .i64 i)),.one (.lit (.int .i64 j))]=>match cmpI op i j with
  |some x=>some (vr (.bool b),[x=b])
  |none=>none
 |[.one (.lit (.int .u8 i)),.one (.lit (.int .u8 j))]=>match cmpI op i j with
  |some x=>some (vr (.bool b),[x=b])
  |none=>none
 |_=>none
noncomputable def conNil (t:Nat) (b:Bool):Con
 |[.one (.cls (.ls L)),.one (.lit (.slice none 0 0))]=>match Tryz.prog.underlying t with
  |some (.slice _)=>some (vr (.bool b),[b=false,0<L.n])
  |_=>none
 |_=>none
noncomputable def conEql (t:Nat) (b:Bool):Con:=fun l=>match conNil t b l with
 |some r=>some r
 |none=>cbN .eql b l
def cdN (op:BinOp):Con
 |[.one (.lit (.int .i64 i)),.one (.lit (.int .i64 j))]=>match op with
  |.add=>some (vr (.int .i64 (i+j)),[jQ (i+j)])
  |.sub=>some (vr (.int .i64 (i-j)),[jQ (i-j)])
  |.mul=>some (vr (.int .i64 (i*j)),[jQ (i*j)])
  |_=>none
 |_=>none
def cbR:Con
 |[.one (.lit (.int .u8 (.ofNat i))),.one (.lit (.int .u8 (.ofNat j)))]=>some (vr (.int .u8 (.ofNat (i%j))),[0<j])
 |_=>none
def cfK:Con
 |[.one (.lit (.int .u8 (.ofNat i)))]=>some (vr (.int .i64 (.ofNat i)),[i<=255])
 |_=>none
def cbD:Con
 |[.one (.lit (.int .i64 (.ofNat i))),.one (.lit (.int .i64 (.ofNat j)))]=>some (vr (.int .i64 (.ofNat (i-j))),[j<=i,i<=1000000000])
 |_=>none
def cfS:Con
 |[.one (.lit (.int .i64 (.ofNat i)))]=>some (vr (.int .u64 (.ofNat i)),[i<=4000000000])
 |_=>none
def ceV:Con
 |[.one (.lit (.int .u64 (.ofNat i)))]=>some (vr (.int .i64 (.ofNat i)),[i<=4000000000])
 |_=>none
def ccH:Con
 |[.one (.lit (.int .u64 (.ofNat i))),.one (.lit (.int .u64 (.ofNat j)))]=>match Nat.beq j 1 with
  |true=>some (vr (.int .u64 (.ofNat (i/2))),[])
  |false=>none
 |_=>none
def conAns (b:Bool) (F:Con):Con:=fun l=>match F l with
 |some (.val (.one (.lit (.bool x))),ob)=>some (vr (.bool b),(x=b)::ob)
 |r=>r
def hdK (K f:Nat):Hd:=match Nat.ble K f with
 |true=>.mem (f-K)
 |false=>.call f
def hdOf (f:Nat):Hd:=hdK 1000000 f
def keyM (f:Nat):Nat:=f+1000000
theorem hdK_mem (K f:Nat):hdK K (f+K)=.mem f:=by
 unfold hdK;rw[Nat.ble_eq_true_of_le (Nat.le_add_left K f),add_sub_cancel]
theorem cdx (f:Nat):hdOf (keyM f)=.mem f:=hdK_mem 1000000 f
theorem caO {f:Nat}(h:Nat.ble 1000000 f=false):hdOf f=.call f:=by
 unfold hdOf hdK;rw[h]
def callT (o:Opt) (f:Nat):Option Con:=match find f o.ex with
 |some F=>match Nat.ble 1000000 f with
  |true=>none
  |false=>some F
 |none=>match find f (tabX false) with
  |some F=>some F
  |none=>find f tabR
noncomputable def TY (o:Opt):FuncId->Tab Dx:=fun fid d h=>match h with
 |.call f=>match callT o f with
  |some F=>match chj fid d o.ors with
   |some b=>some (conAns b F)
   |none=>some F
  |none=>none
 |.mem f=>find (keyM f) o.ex
 |.gl=>match hasGl fid d o.gls with
  |true=>some (fun _=>none)
  |false=>none
 |.bin op t=>match chj fid d o.ors with
  |some b=>match op with
   |.sub=>some cbD
   |.eql=>some (conEql t b)
   |_=>some (cbN op b)
  |none=>match op with
   |.add=>some (cdN .add)
   |.sub=>some (cdN .sub)
   |.mul=>some (cdN .mul)
   |.rem=>some cbR
   |.shr=>some ccH
   |_=>none
 |.cv s t=>match Nat.beq s 3 with
  |true=>match Nat.beq t 133 with
   |true=>some cfS
   |false=>none
  |false=>match Nat.beq s 133 with
   |true=>match Nat.beq t 3 with
    |true=>some ceV
    |false=>none
   |false=>match Nat.beq s 5 with
    |true=>match Nat.beq t 2 with
     |true=>some cfK
     |false=>none
    |false=>none
 |_=>none
section
variable {bb:Bool}{lo:Nat}{w0:World}
theorem ent_t1 {f:Nat}{g:List UInt8->Option (cM Dx×List Prop)}{args:List (Pat Dx)}{res:cM Dx}{ob:List Prop}(h:t1 g args=some (res,ob)) (hE:Enters Tryz.prog f)
 (hc:∀ l,g l=some (res,ob)->∀ w,Below w0.heap.size w0 w->Calls Tryz.prog f #[str l] w (KH bb lo w0 w res)):cO (Cx bb lo w0) (.call f) args res:=by
 refine⟨hE,fun w vs hb hvs=>?_⟩;unfold t1 at h;split at h
 ·rename_i l;obtain⟨v,_,rfl,h1,rfl⟩:=hvs;have h1:[v]=[str l]:=h1;injection h1 with h1 _
  subst h1;exact hc l h w hb
 ·cases h
theorem Zs (l:List UInt8) (h:l.length<=60):Siz (cT l).1 4:=Siz.read l (L:=60) h (by decide) (by decide)
theorem tabR_ok (hG:Gr w0) {f:Nat}{F:Con}{args:List (Pat Dx)}{res:cM Dx}{ob:List Prop}(hF:find f tabR=some F) (hres:F args=some (res,ob)) (ho:cV ob):cO (Cx true lo w0) (.call f) args res:=by
 have hG':∀ w,Below w0.heap.size w0 w->Gr w:=fun w hb=>hG.below hb hG.size;have hm:=kG hF;simp only[tabR,mem_cons,Prod.mk.injEq,List.not_mem_nil,or_false] at hm;rcases hm with⟨rfl,rfl⟩|⟨rfl,rfl⟩
 ·refine ent_t1 hres (enters_of Tryz.func9 (by kernel_rfl) rfl) (fun l h w hb=>?_);obtain⟨hk,rfl⟩:=yk h ho;exact(ceu l w (by omega) (hG' w hb)).mono fun _ _ h=>caU (Zs l hk) h
 ·refine ent_t1 hres (enters_of Tryz.func8 (by kernel_rfl) rfl) (fun l h w hb=>?_);injection h with h;injection h with h _;subst h
  exact(Sym.long_ok l w).mono fun _ _ h=>⟨_,h.1,h.2,Gk⟩
theorem Ed {o:Oper}{op:BinOp}{t:Nat}{xs:List Operand}(h:kr o=some (.bin op t,xs)):∃ x y u,o.op=.binOp op t x y u/\xs=[x,y]:=by
 unfold kr at h;split at h<;>first
  |(rename_i h0;simp only[Option.some.injEq,Prod.mk.injEq,Hd.bin.injEq,reduceCtorEq,false_and] at h;try (obtain⟨⟨rfl,rfl⟩,rfl⟩:=h;exact⟨_,_,_,h0,rfl⟩))
  |(split at h<;>simp at h)
  |simp at h
theorem Gi {op:BinOp}{t:Nat}{k:IntKind}{i j:Int}{v:Value}(hr:∀ w,(Go.binOp op t (.int k i) (.int k j)).run Tryz.prog w=.ok v w):cO (Cx bb lo w0) (.bin op t) [.one (.lit (.int k i)),.one (.lit (.int k j))] (vr v):=by
 intro w ρ o xs ho hb hvs;obtain⟨x,y,u,hop,rfl⟩:=Ed ho;obtain⟨v1,_,e1,h4,v2,_,e2,h5,e3⟩:=hvs;have h4:[v1]=[.int k i]:=h4;have h5:[v2]=[.int k j]:=h5;injection h4 with h4 _
 injection h5 with h5 _
 subst h4;subst h5;subst e3;subst e2;simp only[map_cons,List.map_nil,List.cons.injEq] at e1;obtain⟨ea,eb,_⟩:=e1;refine⟨v,w,?_,Below.refl _ _,Gk⟩;have hg:(eqGuard op t x y (.int k i) (.int k j)).run Tryz.prog w=.ok () w:=by
  unfold eqGuard;cases op<;>rfl
 show (execOp ρ o).run Tryz.prog w=_;simp only[execOp,hop,ea,eb,run_bind,hg,hr w,andThen_ok];rfl
theorem caJ {op : BinOp} {t : Nat} {b : Bool} {args : List (Pat Dx)} {res : cM Dx} {ob : List Prop} (h : cbN op b args = some (res, ob)) (ho : cV ob) : cO (Cx bb lo w0) (.bin op t) args res := by
  unfold cbN at h
  split at h
  · rename_i i j
    split at h
    · rename_i x hx
      injection h with h; injection h with h1 h2; subst h1; subst h2
      obtain rfl : x = b := ho.1
      refine Gi (fun w => ?_)
      cases op <;> simp only [cmpI, reduceCtorEq, Option.some.injEq] at hx <;> subst hx <;> first
        | rfl
        | (show Result.ok (Value.bool (!(decide (i = j)))) w = _
           simp)
    · cases h
  · rename_i i j
    split at h
    · rename_i x hx
      injection h with h; injection h with h1 h2; subst h1; subst h2
      obtain rfl : x = b := ho.1
      refine Gi (fun w => ?_)
      cases op <;> simp only [cmpI, reduceCtorEq, Option.some.injEq] at hx <;> subst hx <;> first
        | rfl
        | (show Result.ok (Value.bool (!(decide (i = j)))) w = _
           simp)
    · cases h
  · cases h
theorem chJ {t:Nat}{b:Bool}{args:List (Pat Dx)}{res:cM Dx}{ob:List Prop}(h:conNil t b args=some (res,ob)) (ho:cV ob):cO (Cx bb lo w0) (.bin .eql t) args res:=by
 unfold conNil at h;split at h
 ·rename_i L;split at h
  ·rename_i el hel;injection h with h;injection h with h1 h2;subst h1;subst h2
   obtain⟨h3,h4,_⟩:=ho;have h3:b=false:=h3;have h4:0<L.n:=h4;subst h3;intro w ρ o xs ho hb hvs;obtain⟨x,y,u,hop,rfl⟩:=Ed ho;obtain⟨v1,_,e1,h5,v2,_,e2,h6,e3⟩:=hvs;have h5:DIs w (.ls L) [v1]:=h5;have h6:[v2]=[.slice none 0 0]:=h6;injection h6 with h6 _
   subst h6;subst e3;subst e2;simp only[map_cons,List.map_nil,List.cons.injEq] at e1;obtain⟨ea,eb,_⟩:=e1;refine⟨.bool false,w,?_,Below.refl _ _,Gk⟩;cases h5 with
   |nil h=>omega
   |ls k o' c arr pre vs rest =>
    have hg:(eqGuard .eql t x y (.slice (some ⟨k,o',none⟩) L.n c) (.slice none 0 0)).run Tryz.prog w=.ok () w:=rfl;have he:(Go.binOp .eql t (.slice (some ⟨k,o',none⟩) L.n c) (.slice none 0 0)).run Tryz.prog w=.ok (.bool false) w:=by
     have h0:(Op.equalIn (9999+1) t (.slice (some ⟨k,o',none⟩) L.n c) (.slice none 0 0)).run Tryz.prog w=.ok false w:=by
      generalize 9999=d;simp [Op.equalIn,run_underlying hel]
     have h1:(Op.equal t (.slice (some ⟨k,o',none⟩) L.n c) (.slice none 0 0)).run Tryz.prog w=.ok false w:=h0;simp [Go.binOp,h1]
    show (execOp ρ o).run Tryz.prog w=_;simp only[execOp,hop,ea,eb,run_bind,hg,he,andThen_ok];rfl
  ·cases h
 ·cases h
theorem ciX {t:Nat}{b:Bool}{args:List (Pat Dx)}{res:cM Dx}{ob:List Prop}(h:conEql t b args=some (res,ob)) (ho:cV ob):cO (Cx bb lo w0) (.bin .eql t) args res:=by
 unfold conEql at h;split at h
 ·rename_i r hr;injection h with h;subst h
  exact chJ hr ho
 ·exact caJ h ho
theorem Zg {op op':BinOp}{t:Nat}{args:List (Pat Dx)}{res:cM Dx}{ob:List Prop}(h:cdN op args=some (res,ob)) (ho:cV ob) (hop:op=op'):cO (Cx bb lo w0) (.bin op' t) args res:=by
 subst hop;unfold cdN at h;split at h
 ·rename_i i j;split at h
  ·injection h with h;injection h with h1 h2;subst h1;subst h2
   obtain⟨⟨h3,h4⟩,_⟩:=ho;refine Gi (fun w=>?_);show Result.ok (Value.int .i64 (IntKind.i64.wrap (i+j))) w=_;rw[show IntKind.i64.wrap (i+j)=i+j by rw[wrap_i64];omega]
  ·injection h with h;injection h with h1 h2;subst h1;subst h2
   obtain⟨⟨h3,h4⟩,_⟩:=ho;refine Gi (fun w=>?_);show Result.ok (Value.int .i64 (IntKind.i64.wrap (i-j))) w=_;rw[show IntKind.i64.wrap (i-j)=i-j by rw[wrap_i64];omega]
  ·injection h with h;injection h with h1 h2;subst h1;subst h2
   obtain⟨⟨h3,h4⟩,_⟩:=ho;refine Gi (fun w=>?_);show Result.ok (Value.int .i64 (IntKind.i64.wrap (i*j))) w=_;rw[show IntKind.i64.wrap (i*j)=i*j by rw[wrap_i64];omega]
  ·cases h
 ·cases h
theorem ceJ {t:Nat}{args:List (Pat Dx)}{res:cM Dx}{ob:List Prop}(h:cbR args=some (res,ob)) (ho:cV ob):cO (Cx bb lo w0) (.bin .rem t) args res:=by
 unfold cbR at h;split at h
 ·rename_i i j;injection h with h;injection h with h1 h2;subst h1;subst h2
  have h3:0<j:=ho.1;refine Gi (fun w=>?_);rw[binOp_rem,Op.intDiv,if_neg (by show ¬ ((j:Nat):Int)=0;omega)];show Result.ok (Value.int .u8 (((i:Nat):Int).tmod ((j:Nat):Int))) w=_;rw[show ((i:Nat):Int).tmod ((j:Nat):Int)=((i%j:Nat):Int) by rw[Int.tmod_eq_emod_of_nonneg (by omega)];rfl];rfl
 ·cases h
theorem cfh {t:Nat}{args:List (Pat Dx)}{res:cM Dx}{ob:List Prop}(h:cbD args=some (res,ob)) (ho:cV ob):cO (Cx bb lo w0) (.bin .sub t) args res:=by
 unfold cbD at h;split at h
 ·rename_i i j;injection h with h;injection h with h1 h2;subst h1;subst h2
  obtain⟨h3,h4,_⟩:=ho;refine Gi (fun w=>?_);have h3:j<=i:=h3;have h4:i<=1000000000:=h4;have e:(Int.ofNat i:Int)-Int.ofNat j=Int.ofNat (i-j):=by
   show (i:Int)-(j:Int)=((i-j:Nat):Int);omega
  show Result.ok (Value.int .i64 (IntKind.i64.wrap (Int.ofNat i-Int.ofNat j))) w=_;rw[e,show IntKind.i64.wrap (Int.ofNat (i-j))=Int.ofNat (i-j) by
   rw[wrap_i64];have:(Int.ofNat (i-j):Int)=((i-j:Nat):Int):=rfl;omega]
 ·cases h
theorem hd_cv {o:Oper}{s d:Nat}{xs:List Operand}(h:kr o=some (.cv s d,xs)):∃ x,o.op=.convert s d x/\xs=[x]:=by
 unfold kr at h;split at h<;>first
  |(rename_i h0;simp only[Option.some.injEq,Prod.mk.injEq,Hd.cv.injEq,reduceCtorEq,false_and] at h;try (obtain⟨⟨rfl,rfl⟩,rfl⟩:=h;exact⟨_,h0,rfl⟩))
  |(split at h<;>simp at h)
  |simp at h
theorem cfM {s d:Nat}{k k':IntKind}{i:Int}(hs:(Tryz.prog.underlying s).isSome=true) (hd:Tryz.prog.underlying d=some (.int (Tryz.prog.intKind d))) (hk:Tryz.prog.intKind d=k') (hw:k'.wrap i=i):cO (Cx bb lo w0) (.cv s d) [.one (.lit (.int k i))] (vr (.int k' i)):=by
 intro w ρ o xs ho hb hvs;obtain⟨x,hop,rfl⟩:=hd_cv ho;obtain⟨v1,_,e1,h4,e2⟩:=hvs;have h4:[v1]=[.int k i]:=h4;injection h4 with h4 _
 subst h4;subst e2;simp only[map_cons,List.map_nil,List.cons.injEq] at e1;obtain⟨ea,_⟩:=e1;refine⟨_,w,?_,Below.refl _ _,Gk⟩;show (execOp ρ o).run Tryz.prog w=_;simp only[execOp,hop,ea,run_bind,run_convert_int _ _ _ _ _ hs hd,hk,hw,andThen_ok];rfl
theorem cja {args:List (Pat Dx)}{res:cM Dx}{ob:List Prop}(h:cfS args=some (res,ob)) (ho:cV ob):cO (Cx bb lo w0) (.cv 3 133) args res:=by
 unfold cfS at h;split at h
 ·rename_i i;injection h with h;injection h with h1 h2;subst h1;subst h2
  have h3:i<=4000000000:=ho.1;refine cfM (by kernel_rfl) (by kernel_rfl) (by kernel_rfl) ?_;rw[wrap_u64];have:(Int.ofNat i:Int)=((i:Nat):Int):=rfl;omega
 ·cases h
theorem ciJ {args:List (Pat Dx)}{res:cM Dx}{ob:List Prop}(h:cfK args=some (res,ob)) (ho:cV ob):cO (Cx bb lo w0) (.cv 5 2) args res:=by
 unfold cfK at h;split at h
 ·rename_i i;injection h with h;injection h with h1 h2;subst h1;subst h2
  have h3:i<=255:=ho.1;refine cfM (by kernel_rfl) (by kernel_rfl) (by kernel_rfl) ?_;rw[wrap_i64];have:(Int.ofNat i:Int)=((i:Nat):Int):=rfl;omega
 ·cases h
theorem cip {args:List (Pat Dx)}{res:cM Dx}{ob:List Prop}(h:ceV args=some (res,ob)) (ho:cV ob):cO (Cx bb lo w0) (.cv 133 3) args res:=by
 unfold ceV at h;split at h
 ·rename_i i;injection h with h;injection h with h1 h2;subst h1;subst h2
  have h3:i<=4000000000:=ho.1;refine cfM (by kernel_rfl) (by kernel_rfl) (by kernel_rfl) ?_;rw[wrap_i64];have:(Int.ofNat i:Int)=((i:Nat):Int):=rfl;omega
 ·cases h
theorem ceA {t:Nat}{args:List (Pat Dx)}{res:cM Dx}{ob:List Prop}(h:ccH args=some (res,ob)):cO (Cx bb lo w0) (.bin .shr t) args res:=by
 unfold ccH at h;split at h
 ·rename_i i j;split at h
  ·rename_i hj;obtain rfl:=eq_of_beq_eq_true hj;injection h with h;injection h with h1 h2;subst h1;subst h2
   intro w ρ o xs ho hb hvs;obtain⟨x,y,u,hop,rfl⟩:=Ed ho;obtain⟨v1,_,e1,h4,v2,_,e2,h5,e3⟩:=hvs;have h4:[v1]=[.int .u64 (.ofNat i)]:=h4;have h5:[v2]=[.int .u64 (.ofNat 1)]:=h5;injection h4 with h4 _
   injection h5 with h5 _
   subst h4;subst h5;subst e3;subst e2;simp only[map_cons,List.map_nil,List.cons.injEq] at e1;obtain⟨ea,eb,_⟩:=e1;refine⟨.int .u64 (.ofNat (i/2)),w,?_,Below.refl _ _,Gk⟩;have hg:(eqGuard .shr t x y (.int .u64 (.ofNat i)) (.int .u64 (.ofNat 1))).run Tryz.prog w=.ok () w:=rfl;show (execOp ρ o).run Tryz.prog w=_;simp only[execOp,hop,ea,eb,run_bind,hg,andThen_ok,binOp_shr];show Result.ok (Next.value (Value.int .u64 (Int.fdiv (Int.ofNat i) (2^1)))) w=_;rw[show Int.fdiv (Int.ofNat i) (2^1)=Int.ofNat (i/2) by
    show Int.fdiv ((i:Nat):Int) 2=((i/2:Nat):Int);rw[Int.fdiv_eq_ediv_of_nonneg _ (by omega)];rfl]
  ·cases h
 ·cases h
def Cu (bb:Bool) (lo:Nat) (w0:World) (l:List (Nat×Con)):Prop:=∀ f F,find f l=some F->∀ hd,hdOf f=hd->∀ args res ob,F args=some (res,ob)->cV ob->cO (Cx bb lo w0) hd args res
theorem jI:Cu bb lo w0 []:=fun f F h=>by simp [cG] at h
theorem cdf {g:Nat}{G:Con}{l:List (Nat×Con)}{hg:Hd}(hh:hdOf g=hg) (h:∀ args res ob,G args=some (res,ob)->cV ob->cO (Cx bb lo w0) hg args res) (k:Cu bb lo w0 l):Cu bb lo w0 ((g,G)::l):=fun f F hF hd hd' args res ob hr ho=>by
 rw[cC] at hF;split at hF
 ·rename_i hb;injection hF with hF;subst hF
  rw[← eq_of_beq_eq_true hb,hh] at hd';subst hd';exact h args res ob hr ho
 ·exact k f F hF hd hd' args res ob hr ho
theorem jk {g:Nat}{G:Con}{l:List (Nat×Con)}(h:∀ args res ob,G args=some (res,ob)->cV ob->cO (Cx bb lo w0) (.call g) args res) (k:Cu bb lo w0 l) (hg:Nat.ble 1000000 g=false:=by rfl):Cu bb lo w0 ((g,G)::l):=cdf (caO hg) h k
theorem GP {g:Nat}{G:Con}{l:List (Nat×Con)}(h:∀ args res ob,G args=some (res,ob)->cV ob->cO (Cx bb lo w0) (.mem g) args res) (k:Cu bb lo w0 l):Cu bb lo w0 ((keyM g,G)::l):=cdf (cdx g) h k
theorem ty_ok (hG:Gr w0) {o:Opt}(hE:Cu true lo w0 o.ex) (g:FuncId):(TY o g).Ok (Cx true lo w0):=by
 intro n hd F args res ob hF hres ho;unfold TY at hF;split at hF
 ·rename_i f;have key:∀ F,callT o f=some F->∀ res ob,F args=some (res,ob)->cV ob->cO (Cx true lo w0) (.call f) args res:=by
   intro F hF res ob hr ho;unfold callT at hF;split at hF
   ·rename_i h1;split at hF
    ·cases hF
    ·rename_i hg;injection hF with hF;subst hF
     exact hE _ _ h1 _ (caO hg) _ _ _ hr ho
   ·split at hF
    ·rename_i h1;injection hF with hF;subst hF
     exact cgE hG h1 hr ho
    ·exact tabR_ok hG hF hr ho
  split at hF
  ·rename_i G hG;split at hF
   ·rename_i b hb;injection hF with hF;subst hF
    unfold conAns at hres;split at hres
    ·rename_i x ob' hx;injection hres with hres;injection hres with h1 h2;subst h1;subst h2
     have:=key G hG _ _ hx ho.2;rw[show x=b from ho.1] at this;exact this
    ·exact key G hG _ _ hres ho
   ·injection hF with hF;subst hF
    exact key _ hG _ _ hres ho
  ·cases hF
 ·rename_i f;exact hE (keyM f) F hF (.mem f) (cdx f) args res ob hres ho
 ·split at hF
  ·injection hF with hF;subst hF
   cases hres
  ·cases hF
 ·split at hF
  ·split at hF
   ·injection hF with hF;subst hF
    exact cfh hres ho
   ·injection hF with hF;subst hF
    exact ciX hres ho
   ·injection hF with hF;subst hF
    exact caJ hres ho
  ·split at hF
   ·injection hF with hF;subst hF
    exact Zg hres ho rfl
   ·injection hF with hF;subst hF
    exact Zg hres ho rfl
   ·injection hF with hF;subst hF
    exact Zg hres ho rfl
   ·injection hF with hF;subst hF
    exact ceJ hres ho
   ·injection hF with hF;subst hF
    exact ceA hres
   ·cases hF
 ·rename_i s t;split at hF
  ·rename_i h1;split at hF
   ·rename_i h2;injection hF with hF;subst hF
    rw[eq_of_beq_eq_true h1,eq_of_beq_eq_true h2];exact cja hres ho
   ·cases hF
  ·split at hF
   ·rename_i h1;split at hF
    ·rename_i h2;injection hF with hF;subst hF
     rw[eq_of_beq_eq_true h1,eq_of_beq_eq_true h2];exact cip hres ho
    ·cases hF
   ·split at hF
    ·rename_i h1;split at hF
     ·rename_i h2;injection hF with hF;subst hF
      rw[eq_of_beq_eq_true h1,eq_of_beq_eq_true h2];exact ciJ hres ho
     ·cases hF
    ·cases hF
 ·cases hF
theorem ccB (hlo : lo ≤ w0.heap.size) (hG : Gr w0) (hN : ∀ (f : Nat) (fn : Func), Tryz.prog.funcs[f]? = some fn → (fn.name == "runtime.NumGoroutine") = false) {o : Opt} (hE : Cu true lo w0 o.ex) : uy (Cx true lo w0) (TY o) := ⟨cx_ok hlo, hN, ty_ok hG hE⟩
end
end Pe
end Go.Proofs.YtobfdjojhfpakaaGreatDoor
