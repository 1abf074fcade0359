/- Part 30. -/
import Derived.Test.YtobfdjojhfpakaaGreatDoorW27
set_option linter.all false
open Nat (le_refl zero_le)
noncomputable section

namespace Go.Proofs.YtobfdjojhfpakaaGreatDoor
open Go Go.RowKit Go.Proofs Lim
namespace Pe
noncomputable def kline21_:List Kp:=[.code (codeOf Tryz.f21)]
noncomputable def kline21_n:List Kp:=next kline21_
noncomputable def kline21_nl:List Kp:=[.code (ug kline21_n)]
noncomputable def kline21_nt:List Kp:=kline21_n.tail
abbrev lnI (lo1 lo2:Nat) (ps as':List P3) (t:Tx) (i:Nat):St Dx:=⟨5,[(1,.val (.one (.ptr 2 0))),(4,.val (.one (.fn 3))),(5,.val (.one (.fn 4))),(6,.val (.one (.lit (ii (i:Int)))))],cdv lo1 lo2 ps as'++[(2,.blk 71 [.sym 0 0,.sym 1 0,.lit (str t)] none),(3,.gl 90 8 i (fun j=>fp (ps.getD j default))),(4,.gl 92 6 i (fun j=>fr (ps.getD j default)))],[]⟩
abbrev lnR (lo:Nat) (xs:List P3):List (Pat Dx):=[pL lo 90 (cB xs),pM lo 92 (cB xs)]
abbrev lnO (b:Bool):Opt:=⟨[(21,13,b)],[],[]⟩
theorem lna {w:World}(lo1 lo2:Nat) (ps as':List P3) (t:Tx) (b:Bool):run w (lnO b) 21 54 kline21_ (stA [kh lo1 lo2 ps as' t]) (lnI lo1 lo2 ps as' t 0)=some (.normal,[co (W0 w) (.ls (lst 0 lo1 3 ps f3)) (.ls (lst 0 lo1 3 ps f3)),co (W0 w) (.ls (lst 0 lo2 3 as' f3)) (.ls (lst 0 lo2 3 as' f3)),str t=str t,0=0,∀ (j:Nat),j<0->cw (W0 w) (fp (ps.getD j default)) [],0=0,∀ (j:Nat),j<0->cw (W0 w) (fr (ps.getD j default)) [],0=0,ii (↑0:Int)=Value.int IntKind.i64 0]):=by kernel_rfl
theorem lnb {w:World}(lo1 lo2:Nat) (ps as':List P3) (t:Tx) (i:Nat):run w (lnO true) 21 54 kline21_nl (lnI lo1 lo2 ps as' t i) (lnI lo1 lo2 ps as' t (i+1))=some (.normal,[decide ((i:Int)<(ps.length:Int))=true,i<ps.length,i<ps.length,List.length (ps.getD i default).1<=60,i<ps.length,i<ps.length,List.length (ps.getD i default).2.1<=60,i+1<=1000000,i<ps.length,i<ps.length,List.length (ps.getD i default).1<=60,i<ps.length,i<ps.length,List.length (ps.getD i default).2.1<=60,i+1<=1000000,cn ((i:Int)+1),co (W0 w) (.ls (lst 0 lo1 3 ps f3)) (.ls (lst 0 lo1 3 ps f3)),co (W0 w) (.ls (lst 0 lo2 3 as' f3)) (.ls (lst 0 lo2 3 as' f3)),str t=str t,i+1=i+1,∀ (j:Nat),j<i+1->cw (W0 w) (fp (ps.getD j default)) (jE i (fun(j:Nat)=>fp (ps.getD j default)) (fun(x:Nat)=>[Grp.cls (Dx.q (jF (ps.getD i default).1).1 4),Grp.cls (Dx.q (jF (ps.getD i default).2.1).1 4)]) j),i+1=i+1,∀ (j:Nat),j<i+1->cw (W0 w) (fr (ps.getD j default)) (jE i (fun(j:Nat)=>fr (ps.getD j default)) (fun(x:Nat)=>[Grp.cls (Dx.rq (jF (ps.getD i default).1).1 4),Grp.cls (Dx.rq (jF (ps.getD i default).2.1).1 4)]) j),0=0,ii (↑(i+1):Int)=Value.int IntKind.i64 ((i:Int)+1)]):=by kernel_rfl
theorem lnc {w:World}(lo1 lo2:Nat) (ps as':List P3) (t:Tx) (i:Nat):run w (lnO false) 21 54 kline21_nl (lnI lo1 lo2 ps as' t i) (lnI lo1 lo2 ps as' t i)=some (.exit 0,[decide ((i:Int)<(ps.length:Int))=false,co (W0 w) (.ls (lst 0 lo1 3 ps f3)) (.ls (lst 0 lo1 3 ps f3)),co (W0 w) (.ls (lst 0 lo2 3 as' f3)) (.ls (lst 0 lo2 3 as' f3)),str t=str t,i=i,∀ (j:Nat),j<i->cw (W0 w) (fp (ps.getD j default)) (fp (ps.getD j default)),i=i,∀ (j:Nat),j<i->cw (W0 w) (fr (ps.getD j default)) (fr (ps.getD j default)),0=0,ii (i:Int)=ii (i:Int)]):=by kernel_rfl
theorem lnd {w:World}(lo1 lo2:Nat) (ps as':List P3) (t:Tx):runR w (lnO true) 21 54 Tryz.f21 kline21_nt (lnI lo1 lo2 ps as' t ps.length) (lnR w.heap.size ps)=some (.ret,[co (W0 w) (.ls (lst w.1.size 90 8 (cB ps) fQ)) (.ls { lo:=w.1.size,ty:=90,z:=8,n:=ps.length,g:=fun(j:Nat)=>fp (ps.getD j default) }),co (W0 w) (.ls (lst w.1.size 92 6 (cB ps) fR)) (.ls { lo:=w.1.size,ty:=92,z:=6,n:=ps.length,g:=fun(j:Nat)=>fr (ps.getD j default) }),ju (W0 w) (.ls (lst w.1.size 90 8 (cB ps) fQ)),ju (W0 w) (.ls (lst w.1.size 92 6 (cB ps) fR))]):=by kernel_rfl
theorem line_ok (hN:cF) (lo1 lo2:Nat) (ps as':List P3) (t:Tx) (hs:Wf ps) (hl:ps.length<=1000):kb 21 [kh lo1 lo2 ps as' t] (fun lo=>lnR lo ps):=by
 intro w vs hG hp;refine jR hG hN (ex:=[]) jd (fn:=Tryz.f21) Tryz.func21 (c:=codeOf Tryz.f21) (by kernel_rfl) (args:=[kh lo1 lo2 ps as' t]) (by kernel_rfl) hp (fun hR _ hA=>?_);refine kp (lna lo1 lo2 ps as' t true) (hR _ rfl) hA (fun a1 w1 hA=>ki ?_);refine yw (fun i=>lnI lo1 lo2 ps as' t i) (fun i=>i<=ps.length) (fun i=>ps.length-i) (L:=kline21_n) (ks:=kline21_nt) (id:=0) (c:=ug kline21_n) (by kernel_rfl) 0 (zero_le _) hA (fun i a2 w2 hi hA=>?_);cases hq:decide ((i:Int)<(ps.length:Int)) with
 |true =>
  have hlt:i<ps.length:=by have:=of_decide_eq_true hq;omega
  obtain⟨s1,s2,s3⟩:=cdl hs hlt;refine kp (lnb lo1 lo2 ps as' t i) (hR _ rfl) hA (fun a3 w3 hA=>uz (by kernel_rfl) ⟨i+1,by omega,hA,by omega⟩)
 |false =>
  obtain rfl:i=ps.length:=by have:=of_decide_eq_false hq;omega
  refine kp (lnc lo1 lo2 ps as' t ps.length) (hR _ rfl) hA (fun a3 w3 hA=>kT _ (by kernel_rfl) ?_);refine GD (hR (lnO true) rfl) (.inl rfl) (fun _=>rfl) (fn:=Tryz.f21) (lnd lo1 lo2 ps as' t) ?_ hA (fun _ _ h=>h);refine⟨WE (fun _=>rfl),WE (fun _=>rfl),jA (le_refl _) ?_,jA (le_refl _) ?_,trivial⟩<;>(intro j hj d hd;simp [lst,jI] at hd;rcases hd with rfl|rfl<;>first|exact cu _ _|exact ct _ _)
theorem ciA {lo lo1 lo2:Nat}{w0:World}{ps as':List P3}{t:Tx}(hN:cF) (hG:Gr w0) (hlo:lo<=w0.heap.size) (hs:Wf ps) (hl:ps.length<=1000):jD (Cx true lo w0) (.call 21) [kh lo1 lo2 ps as' t] (Kg (lnR lo ps)) :=
 (line_ok hN lo1 lo2 ps as' t hs hl).ent hG hlo (enters_of Tryz.func21 (by kernel_rfl) rfl) (fun hi h=>⟨_,rfl,Ee (L:=lst lo _ 8 _ fQ) h,Ee (L:=lst lo _ 6 _ fR) h,trivial⟩)
end Pe
end Go.Proofs.YtobfdjojhfpakaaGreatDoor
