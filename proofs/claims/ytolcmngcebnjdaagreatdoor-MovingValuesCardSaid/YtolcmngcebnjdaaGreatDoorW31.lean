/- Part 31. -/
import Derived.Test.YtolcmngcebnjdaaGreatDoorW29
set_option linter.all false
open Nat (le_refl zero_le)
noncomputable section

namespace Go.Proofs.YtolcmngcebnjdaaGreatDoor
open Go Go.RowKit Go.Proofs Lim
namespace Pe
noncomputable def kline10_:List Kp:=[.code (codeOf Tryz.f10)]
noncomputable def kline10_n:List Kp:=next kline10_
noncomputable def kline10_nl:List Kp:=[.code (kj kline10_n)]
noncomputable def kline10_nt:List Kp:=kline10_n.tail
abbrev lnI (lo1 lo2:Nat) (ps as':List P3) (t:Tx) (i:Nat):St Dx:=⟨5,[(1,.val (.one (.ptr 2 0))),(4,.val (.one (.fn 3))),(5,.val (.one (.fn 4))),(6,.val (.one (.lit (ii (i:Int)))))],cdc lo1 lo2 ps as'++[(2,.blk 25 [.sym 0 0,.sym 1 0,.lit (str t)] none),(3,.gl 98 8 i (fun j=>fp (ps.getD j default))),(4,.gl 100 6 i (fun j=>fr (ps.getD j default)))],[]⟩
abbrev lnR (lo:Nat) (xs:List P3):List (Pat Dx):=[pL lo 98 (cL xs),pM lo 100 (cL xs)]
abbrev lnO (b:Bool):Opt:=⟨[(10,13,b)],[],[]⟩
theorem lna {w:World}(lo1 lo2:Nat) (ps as':List P3) (t:Tx) (b:Bool):run w (lnO b) 10 54 kline10_ (stA [kv lo1 lo2 ps as' t]) (lnI lo1 lo2 ps as' t 0)=some (.normal,[ct (W0 w) (.ls (lst 0 lo1 3 ps f3)) (.ls (lst 0 lo1 3 ps f3)),ct (W0 w) (.ls (lst 0 lo2 3 as' f3)) (.ls (lst 0 lo2 3 as' f3)),str t=str t,0=0,∀ (j:Nat),j<0->cC (W0 w) (fp (ps.getD j default)) [],0=0,∀ (j:Nat),j<0->cC (W0 w) (fr (ps.getD j default)) [],0=0,ii (↑0:Int)=Value.int IntKind.i64 0]):=by kernel_rfl
theorem lnb {w:World}(lo1 lo2:Nat) (ps as':List P3) (t:Tx) (i:Nat):run w (lnO true) 10 54 kline10_nl (lnI lo1 lo2 ps as' t i) (lnI lo1 lo2 ps as' t (i+1))=some (.normal,[decide ((i:Int)<(ps.length:Int))=true,i<ps.length,i<ps.length,List.length (ps.getD i default).1<=60,i<ps.length,i<ps.length,List.length (ps.getD i default).2.1<=60,i+1<=1000000,i<ps.length,i<ps.length,List.length (ps.getD i default).1<=60,i<ps.length,i<ps.length,List.length (ps.getD i default).2.1<=60,i+1<=1000000,yt ((i:Int)+1),ct (W0 w) (.ls (lst 0 lo1 3 ps f3)) (.ls (lst 0 lo1 3 ps f3)),ct (W0 w) (.ls (lst 0 lo2 3 as' f3)) (.ls (lst 0 lo2 3 as' f3)),str t=str t,i+1=i+1,∀ (j:Nat),j<i+1->cC (W0 w) (fp (ps.getD j default)) (Yi i (fun(j:Nat)=>fp (ps.getD j default)) (fun(x:Nat)=>[Grp.cls (Dx.q (jv (ps.getD i default).1).1 4),Grp.cls (Dx.q (jv (ps.getD i default).2.1).1 4)]) j),i+1=i+1,∀ (j:Nat),j<i+1->cC (W0 w) (fr (ps.getD j default)) (Yi i (fun(j:Nat)=>fr (ps.getD j default)) (fun(x:Nat)=>[Grp.cls (Dx.rq (jv (ps.getD i default).1).1 4),Grp.cls (Dx.rq (jv (ps.getD i default).2.1).1 4)]) j),0=0,ii (↑(i+1):Int)=Value.int IntKind.i64 ((i:Int)+1)]):=by kernel_rfl
theorem lnc {w:World}(lo1 lo2:Nat) (ps as':List P3) (t:Tx) (i:Nat):run w (lnO false) 10 54 kline10_nl (lnI lo1 lo2 ps as' t i) (lnI lo1 lo2 ps as' t i)=some (.exit 0,[decide ((i:Int)<(ps.length:Int))=false,ct (W0 w) (.ls (lst 0 lo1 3 ps f3)) (.ls (lst 0 lo1 3 ps f3)),ct (W0 w) (.ls (lst 0 lo2 3 as' f3)) (.ls (lst 0 lo2 3 as' f3)),str t=str t,i=i,∀ (j:Nat),j<i->cC (W0 w) (fp (ps.getD j default)) (fp (ps.getD j default)),i=i,∀ (j:Nat),j<i->cC (W0 w) (fr (ps.getD j default)) (fr (ps.getD j default)),0=0,ii (i:Int)=ii (i:Int)]):=by kernel_rfl
theorem lnd {w:World}(lo1 lo2:Nat) (ps as':List P3) (t:Tx):runR w (lnO true) 10 54 Tryz.f10 kline10_nt (lnI lo1 lo2 ps as' t ps.length) (lnR w.heap.size ps)=some (.ret,[ct (W0 w) (.ls (lst w.1.size 98 8 (cL ps) fQ)) (.ls { lo:=w.1.size,ty:=98,z:=8,n:=ps.length,g:=fun(j:Nat)=>fp (ps.getD j default) }),ct (W0 w) (.ls (lst w.1.size 100 6 (cL ps) fR)) (.ls { lo:=w.1.size,ty:=100,z:=6,n:=ps.length,g:=fun(j:Nat)=>fr (ps.getD j default) }),ku (W0 w) (.ls (lst w.1.size 98 8 (cL ps) fQ)),ku (W0 w) (.ls (lst w.1.size 100 6 (cL ps) fR))]):=by kernel_rfl
theorem line_ok (hN:cM) (lo1 lo2:Nat) (ps as':List P3) (t:Tx) (hs:Yu ps) (hl:ps.length<=1000):uB 10 [kv lo1 lo2 ps as' t] (fun lo=>lnR lo ps):=by
 intro w vs hG hp;refine uq hG hN (ex:=[]) kz (fn:=Tryz.f10) Tryz.func10 (c:=codeOf Tryz.f10) (by kernel_rfl) (args:=[kv lo1 lo2 ps as' t]) (by kernel_rfl) hp (fun hR _ hA=>?_);refine Gz (lna lo1 lo2 ps as' t true) (hR _ rfl) hA (fun a1 w1 hA=>uk ?_);refine uC (fun i=>lnI lo1 lo2 ps as' t i) (fun i=>i<=ps.length) (fun i=>ps.length-i) (L:=kline10_n) (ks:=kline10_nt) (id:=0) (c:=kj kline10_n) (by kernel_rfl) 0 (zero_le _) hA (fun i a2 w2 hi hA=>?_);cases hq:decide ((i:Int)<(ps.length:Int)) with
 |true =>
  have hlt:i<ps.length:=by have:=of_decide_eq_true hq;omega
  obtain⟨s1,s2,s3⟩:=cde hs hlt;refine Gz (lnb lo1 lo2 ps as' t i) (hR _ rfl) hA (fun a3 w3 hA=>jY (by kernel_rfl) ⟨i+1,by omega,hA,by omega⟩)
 |false =>
  obtain rfl:i=ps.length:=by have:=of_decide_eq_false hq;omega
  refine Gz (lnc lo1 lo2 ps as' t ps.length) (hR _ rfl) hA (fun a3 w3 hA=>ki _ (by kernel_rfl) ?_);refine cA (hR (lnO true) rfl) (.inl rfl) (fun _=>rfl) (fn:=Tryz.f10) (lnd lo1 lo2 ps as' t) ?_ hA (fun _ _ h=>h);refine⟨YK (fun _=>rfl),YK (fun _=>rfl),Kk (le_refl _) ?_,Kk (le_refl _) ?_,trivial⟩<;>(intro j hj d hd;simp [lst,zH] at hd;rcases hd with rfl|rfl<;>first|exact cj _ _|exact cn _ _)
theorem cjr {lo lo1 lo2:Nat}{w0:World}{ps as':List P3}{t:Tx}(hN:cM) (hG:Gr w0) (hlo:lo<=w0.heap.size) (hs:Yu ps) (hl:ps.length<=1000):jz (Cx true lo w0) (.call 10) [kv lo1 lo2 ps as' t] (Ym (lnR lo ps)) :=
 (line_ok hN lo1 lo2 ps as' t hs hl).ent hG hlo (enters_of Tryz.func10 (by kernel_rfl) rfl) (fun hi h=>⟨_,rfl,UI (L:=lst lo _ 8 _ fQ) h,UI (L:=lst lo _ 6 _ fR) h,trivial⟩)
end Pe
end Go.Proofs.YtolcmngcebnjdaaGreatDoor
