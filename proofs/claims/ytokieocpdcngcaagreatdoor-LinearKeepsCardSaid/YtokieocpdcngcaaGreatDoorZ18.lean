/- Part 18. -/
import Derived.Test.YtokieocpdcngcaaGreatDoorZ17
set_option linter.all false
open Nat (div_le_self eq_zero_or_pos le_trans lt_of_le_of_lt lt_of_lt_of_le mul_le_mul_left pow_le_pow_right pow_succ)

namespace Go.Proofs.YtokieocpdcngcaaGreatDoor.Lim
theorem Yw (n:Int) (g:Nat):(n/(g:Int)).natAbs<=n.natAbs:=by
 rcases eq_zero_or_pos g with h|h
 ·subst h;simp
 ·rcases (Decidable.em (n<0)) with hn|hn
  ·have h1:=Int.mul_ediv_add_emod n g;have h2:=Int.emod_nonneg n (b:=(g:Int)) (by omega);have h3:=Int.emod_lt_of_pos n (b:=(g:Int)) (by omega);have h4:n<=n/(g:Int):=by
    have:n*(g:Int)<=n*1:=Int.mul_le_mul_of_nonpos_left (by omega) (by omega);rw[Int.mul_one] at this;exact(Int.le_ediv_iff_mul_le (by omega)).2 this
   have h5:n/(g:Int)<0:=Int.ediv_neg_of_neg_of_pos hn (by omega);omega
  ·have h1:0<=n/(g:Int):=Int.ediv_nonneg (by omega) (by omega);have h2:n/(g:Int)<=n:=Int.ediv_le_self _ (by omega);omega
theorem Wm (n:Int) (d:Nat) (hd:d≠0):(mkRat n d).num.natAbs<=n.natAbs/\(mkRat n d).den<=d:=by
 rw[Rat.num_mkRat,Rat.den_mkRat,if_neg hd,if_neg hd];exact⟨Yw _ _,div_le_self _ _⟩
theorem cic (r s:Rat):(r*s).num.natAbs<=r.num.natAbs*s.num.natAbs/\(r*s).den<=r.den*s.den:=by
 rw[Rat.mul_def'];have:=Wm (r.num*s.num) (r.den*s.den) (Nat.mul_ne_zero r.den_nz s.den_nz)
 rwa [Int.natAbs_mul] at this
theorem chE (r s:Rat):(r+s).num.natAbs<=r.num.natAbs*s.den+s.num.natAbs*r.den/\(r+s).den<=r.den*s.den:=by
 rw[Rat.add_def'];have:=Wm (r.num*s.den+s.num*r.den) (r.den*s.den) (Nat.mul_ne_zero r.den_nz s.den_nz);refine⟨le_trans this.1 ?_,this.2⟩;refine le_trans (Int.natAbs_add_le _ _) ?_;rw[Int.natAbs_mul,Int.natAbs_mul];simp
end Go.Proofs.YtokieocpdcngcaaGreatDoor.Lim

namespace Go.Proofs.YtokieocpdcngcaaGreatDoor
open Go Go.RowKit Go.Proofs Lim
theorem Siz.mul {r s:Rat}{k j:Nat}(h1:Siz r k) (h2:Siz s j):Siz (r*s) (k+j):=by
 obtain⟨a,b⟩:=cic r s;exact⟨lt_of_le_of_lt a (uG h1.1 h2.1),lt_of_le_of_lt b (uG h1.2 h2.2)⟩
theorem Siz.add {r s:Rat}{k j:Nat}(h1:Siz r k) (h2:Siz s j):Siz (r+s) (k+j+1):=by
 obtain⟨a,b⟩:=chE r s;have e1:=uG h1.1 h2.2;have e2:=uG h2.1 h1.2;rw[Nat.add_comm j k] at e2;have e3:=uG h1.2 h2.2;have h:B^(k+j)*2<=B^(k+j+1):=by rw[pow_succ];exact mul_le_mul_left _ WB
 refine⟨?_,?_⟩
 ·refine lt_of_le_of_lt a ?_;omega
 ·refine lt_of_le_of_lt b ?_;omega
theorem Siz.sub {r s:Rat}{k j:Nat}(h1:Siz r k) (h2:Siz s j):Siz (r-s) (k+j+1):=by
 rw[Rat.sub_eq_add_neg];exact h1.add h2.neg
theorem Siz.zero (k:Nat) (h:1<=k):Siz 0 k:=by
 have:1<B^k:=lt_of_lt_of_le (show 1<B^1 by decide) (pow_le_pow_right jk h);exact⟨by simp;omega,by simp;omega⟩
theorem Siz.div {r s:Rat}{k j:Nat}(h1:Siz r k) (h2:Siz s j) (h0:s.num≠0):Siz (r/s) (k+j):=by
 rw[Rat.div_def];exact h1.mul (h2.inv h0)
theorem Yl {L k:Nat}(h:L<=19*k):10^L<=B^k:=by
 refine le_trans (pow_le_pow_right (by omega) h) ?_;rw[Nat.pow_mul];exact Nat.pow_le_pow_left (by decide) k
theorem Siz.read (s:List UInt8) {L k:Nat}(h:s.length<=L) (h1:1<=L) (hk:L<=19*k):Siz (EI s).1 k:=by
 obtain⟨a,b⟩:=cdA s h h1;exact⟨lt_of_lt_of_le a (Yl hk),lt_of_lt_of_le b (Yl hk)⟩
open Go Go.RowKit Go.Proofs Lim
def IsS (w:World) (v:Value) (lo hi:Rat):Prop:=∃ s1 a1 b1 p1 s2 a2 b2 p2,v=.agg #[.bool s1,u a1,u b1,.pointer p1,.bool s2,u a2,u b2,.pointer p2]/\
 IsQ w (.agg #[.bool s1,u a1,u b1,.pointer p1]) lo/\IsQ w (.agg #[.bool s2,u a2,u b2,.pointer p2]) hi
open Go Go.RowKit Go.Proofs Lim
end Go.Proofs.YtokieocpdcngcaaGreatDoor
