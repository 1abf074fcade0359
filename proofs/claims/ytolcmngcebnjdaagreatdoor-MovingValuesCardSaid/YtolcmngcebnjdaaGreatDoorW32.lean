/- Part 32. -/
import Derived.Test.YtolcmngcebnjdaaGreatDoorW29
set_option linter.all false
open Nat (le_refl zero_le)
noncomputable section

namespace Go.Proofs.YtolcmngcebnjdaaGreatDoor
open Go Go.RowKit Go.Proofs Lim
namespace Pe
noncomputable def kvehicle11_:List Kp:=[.code (codeOf Tryz.f11)]
noncomputable def kvehicle11_n:List Kp:=next kvehicle11_
noncomputable def kvehicle11_nl:List Kp:=[.code (kj kvehicle11_n)]
noncomputable def kvehicle11_nt:List Kp:=kvehicle11_n.tail
abbrev vhI (lo1 lo2:Nat) (ps as':List P3) (t:Tx) (i:Nat):St Dx:=⟨5,[(1,.val (.one (.ptr 2 0))),(4,.val (.one (.fn 3))),(5,.val (.one (.fn 4))),(6,.val (.one (.lit (ii (i:Int)))))],cdc lo1 lo2 ps as'++[(2,.blk 25 [.sym 0 0,.sym 1 0,.lit (str t)] none),(3,.gl 103 8 i (fun j=>fa (as'.getD j default))),(4,.gl 105 6 i (fun j=>fb (as'.getD j default)))],[]⟩
abbrev vhR (lo:Nat) (xs:List P3):List (Pat Dx):=[pL lo 103 (cV xs),pM lo 105 (cV xs)]
abbrev vhO (b:Bool):Opt:=⟨[(11,13,b)],[],[]⟩
theorem vha {w:World}(lo1 lo2:Nat) (ps as':List P3) (t:Tx) (b:Bool):run w (vhO b) 11 54 kvehicle11_ (stA [kv lo1 lo2 ps as' t]) (vhI lo1 lo2 ps as' t 0)=some (.normal,[ct (W0 w) (.ls (lst 0 lo1 3 ps f3)) (.ls (lst 0 lo1 3 ps f3)),ct (W0 w) (.ls (lst 0 lo2 3 as' f3)) (.ls (lst 0 lo2 3 as' f3)),str t=str t,0=0,∀ (j:Nat),j<0->cC (W0 w) (fa (as'.getD j default)) [],0=0,∀ (j:Nat),j<0->cC (W0 w) (fb (as'.getD j default)) [],0=0,ii (↑0:Int)=Value.int IntKind.i64 0]):=by kernel_rfl
theorem vhb {w:World}(lo1 lo2:Nat) (ps as':List P3) (t:Tx) (i:Nat):run w (vhO true) 11 54 kvehicle11_nl (vhI lo1 lo2 ps as' t i) (vhI lo1 lo2 ps as' t (i+1))=some (.normal,[decide ((i:Int)<(as'.length:Int))=true,i<as'.length,i<as'.length,List.length (as'.getD i default).1<=60,i<as'.length,i<as'.length,List.length (as'.getD i default).2.2<=60,i+1<=1000000,i<as'.length,i<as'.length,List.length (as'.getD i default).1<=60,i<as'.length,i<as'.length,List.length (as'.getD i default).2.2<=60,i+1<=1000000,yt ((i:Int)+1),ct (W0 w) (.ls (lst 0 lo1 3 ps f3)) (.ls (lst 0 lo1 3 ps f3)),ct (W0 w) (.ls (lst 0 lo2 3 as' f3)) (.ls (lst 0 lo2 3 as' f3)),str t=str t,i+1=i+1,∀ (j:Nat),j<i+1->cC (W0 w) (fa (as'.getD j default)) (Yi i (fun(j:Nat)=>fa (as'.getD j default)) (fun(x:Nat)=>[Grp.cls (Dx.q (jv (as'.getD i default).1).1 4),Grp.cls (Dx.q (jv (as'.getD i default).2.2).1 4)]) j),i+1=i+1,∀ (j:Nat),j<i+1->cC (W0 w) (fb (as'.getD j default)) (Yi i (fun(j:Nat)=>fb (as'.getD j default)) (fun(x:Nat)=>[Grp.cls (Dx.rq (jv (as'.getD i default).1).1 4),Grp.cls (Dx.rq (jv (as'.getD i default).2.2).1 4)]) j),0=0,ii (↑(i+1):Int)=Value.int IntKind.i64 ((i:Int)+1)]):=by kernel_rfl
theorem vhc {w:World}(lo1 lo2:Nat) (ps as':List P3) (t:Tx) (i:Nat):run w (vhO false) 11 54 kvehicle11_nl (vhI lo1 lo2 ps as' t i) (vhI lo1 lo2 ps as' t i)=some (.exit 0,[decide ((i:Int)<(as'.length:Int))=false,ct (W0 w) (.ls (lst 0 lo1 3 ps f3)) (.ls (lst 0 lo1 3 ps f3)),ct (W0 w) (.ls (lst 0 lo2 3 as' f3)) (.ls (lst 0 lo2 3 as' f3)),str t=str t,i=i,∀ (j:Nat),j<i->cC (W0 w) (fa (as'.getD j default)) (fa (as'.getD j default)),i=i,∀ (j:Nat),j<i->cC (W0 w) (fb (as'.getD j default)) (fb (as'.getD j default)),0=0,ii (i:Int)=ii (i:Int)]):=by kernel_rfl
theorem vhd {w:World}(lo1 lo2:Nat) (ps as':List P3) (t:Tx):runR w (vhO true) 11 54 Tryz.f11 kvehicle11_nt (vhI lo1 lo2 ps as' t as'.length) (vhR w.heap.size as')=some (.ret,[ct (W0 w) (.ls (lst w.1.size 103 8 (cV as') fQ)) (.ls { lo:=w.1.size,ty:=103,z:=8,n:=as'.length,g:=fun(j:Nat)=>fa (as'.getD j default) }),ct (W0 w) (.ls (lst w.1.size 105 6 (cV as') fR)) (.ls { lo:=w.1.size,ty:=105,z:=6,n:=as'.length,g:=fun(j:Nat)=>fb (as'.getD j default) }),ku (W0 w) (.ls (lst w.1.size 103 8 (cV as') fQ)),ku (W0 w) (.ls (lst w.1.size 105 6 (cV as') fR))]):=by kernel_rfl
theorem cfl (hN:cM) (lo1 lo2:Nat) (ps as':List P3) (t:Tx) (hs:Yu as') (hl:as'.length<=1000):uB 11 [kv lo1 lo2 ps as' t] (fun lo=>vhR lo as'):=by
 intro w vs hG hp;refine uq hG hN (ex:=[]) kz (fn:=Tryz.f11) Tryz.func11 (c:=codeOf Tryz.f11) (by kernel_rfl) (args:=[kv lo1 lo2 ps as' t]) (by kernel_rfl) hp (fun hR _ hA=>?_);refine Gz (vha lo1 lo2 ps as' t true) (hR _ rfl) hA (fun a1 w1 hA=>uk ?_);refine uC (fun i=>vhI lo1 lo2 ps as' t i) (fun i=>i<=as'.length) (fun i=>as'.length-i) (L:=kvehicle11_n) (ks:=kvehicle11_nt) (id:=0) (c:=kj kvehicle11_n) (by kernel_rfl) 0 (zero_le _) hA (fun i a2 w2 hi hA=>?_);cases hq:decide ((i:Int)<(as'.length:Int)) with
 |true =>
  have hlt:i<as'.length:=by have:=of_decide_eq_true hq;omega
  obtain⟨s1,s2,s3⟩:=cde hs hlt;refine Gz (vhb lo1 lo2 ps as' t i) (hR _ rfl) hA (fun a3 w3 hA=>jY (by kernel_rfl) ⟨i+1,by omega,hA,by omega⟩)
 |false =>
  obtain rfl:i=as'.length:=by have:=of_decide_eq_false hq;omega
  refine Gz (vhc lo1 lo2 ps as' t as'.length) (hR _ rfl) hA (fun a3 w3 hA=>ki _ (by kernel_rfl) ?_);refine cA (hR (vhO true) rfl) (.inl rfl) (fun _=>rfl) (fn:=Tryz.f11) (vhd lo1 lo2 ps as' t) ?_ hA (fun _ _ h=>h);refine⟨YK (fun _=>rfl),YK (fun _=>rfl),Kk (le_refl _) ?_,Kk (le_refl _) ?_,trivial⟩<;>(intro j hj d hd;simp [lst,zH] at hd;rcases hd with rfl|rfl<;>first|exact cj _ _|exact cn _ _)
theorem cdp {lo lo1 lo2:Nat}{w0:World}{ps as':List P3}{t:Tx}(hN:cM) (hG:Gr w0) (hlo:lo<=w0.heap.size) (hs:Yu as') (hl:as'.length<=1000):jz (Cx true lo w0) (.call 11) [kv lo1 lo2 ps as' t] (Ym (vhR lo as')) :=
 (cfl hN lo1 lo2 ps as' t hs hl).ent hG hlo (enters_of Tryz.func11 (by kernel_rfl) rfl) (fun hi h=>⟨_,rfl,UI (L:=lst lo _ 8 _ fQ) h,UI (L:=lst lo _ 6 _ fR) h,trivial⟩)
end Pe
end Go.Proofs.YtolcmngcebnjdaaGreatDoor
