/- Part 30. -/
import Derived.Test.YtcgiaclelnmhbabGreatDoorE28
set_option linter.all false
noncomputable section

namespace Go.Proofs.YtcgiaclelnmhbabGreatDoor
open Go Go.RowKit Go.Proofs Lim
namespace Pe
def ccm:Nat->List Kp->List Kp
 |n+1,k::ks=>match k with
  |.code (.seq x y)=>ccm n (.code x::.code y::ks)
  |k=>k::ccm n ks
 |_,ks=>ks
section
variable {F:Fence}{m:Nat}{P:Program}{Q:Exit->Act->World->Prop}
theorem ceh {k:Kp}{ks ks':List Kp}(h:∀ e a w,after F m P ks' Q e a w->after F m P ks Q e a w) {e:Exit}{a:Act}{w:World}(hq:after F m P (k::ks') Q e a w):after F m P (k::ks) Q e a w:=by
 cases k with
 |code c =>
  cases e with
  |normal=>exact uS hq h
  |_=>exact h _ a w hq
 |endB id =>
  cases e with
  |exit j =>
   simp only[after,Exit.inBlock] at hq ⊢;split
   ·rename_i hj;rw[cq hj] at hq;exact h _ a w hq
   ·rename_i hj;rw[cf hj] at hq;exact h _ a w hq
  |_=>exact h _ a w hq
theorem cbh:∀ (n:Nat) (ks:List Kp) {e:Exit}{a:Act}{w:World},after F m P (ccm n ks) Q e a w->after F m P ks Q e a w
 |0,ks,e,a,w,h=>by cases ks<;>exact h
 |n+1,[],e,a,w,h=>h
 |n+1,k::ks,e,a,w,h=>by
  unfold ccm at h;split at h
  ·rename_i x y;have ih:=cbh n (.code x::.code y::ks) h;cases e with
   |normal=>exact wpIn_seq ih
   |_=>exact ih
  ·exact ceh (fun e a w h=>cbh n ks h) h
theorem cet:∀ (k:Nat) (ks:List Kp),after F m P ks Q=after F m P (ks.take k) (after F m P (ks.drop k) Q)
 |0,ks=>rfl
 |k+1,[]=>rfl
 |k+1,.code c::ks=>by
  show Exit.then (fun a w=>c.wpIn F m P (after F m P ks Q) a w) (after F m P ks Q)=Exit.then (fun a w=>c.wpIn F m P (after F m P (ks.take k) (after F m P (ks.drop k) Q)) a w) (after F m P (ks.take k) (after F m P (ks.drop k) Q));rw[← cet k ks]
 |k+1,.endB id::ks=>by
  show Exit.inBlock id (after F m P ks Q)=Exit.inBlock id (after F m P (ks.take k) (after F m P (ks.drop k) Q));rw[← cet k ks]
theorem cut_is (k:Nat) {ks:List Kp}{e:Exit}{a:Act}{w:World}(h:after F m P (ks.take k) (after F m P (ks.drop k) Q) e a w):after F m P ks Q e a w:=by
 rw[cet k ks];exact h
end
end Pe
end Go.Proofs.YtcgiaclelnmhbabGreatDoor
