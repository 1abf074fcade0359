/- Part 19. -/
import Derived.Test.YtcgiaclelnmhbabGreatDoorE18
set_option linter.all false

namespace Go.Proofs.YtcgiaclelnmhbabGreatDoor.Lim
theorem Ze (n:Int) (g:Nat):(n/(g:Int)).natAbs<=n.natAbs:=by
 rcases jr g with h|h
 ·subst h;simp
 ·rcases (Decidable.em (n<0)) with hn|hn
  ·have h1:=Int.mul_ediv_add_emod n g;have h2:=Int.emod_nonneg n (b:=(g:Int)) (by omega);have h3:=Int.emod_lt_of_pos n (b:=(g:Int)) (by omega);have h4:n<=n/(g:Int):=by
    have:n*(g:Int)<=n*1:=Int.mul_le_mul_of_nonpos_left (by omega) (by omega);rw[Int.mul_one] at this;exact(Int.le_ediv_iff_mul_le (by omega)).2 this
   have h5:n/(g:Int)<0:=Int.ediv_neg_of_neg_of_pos hn (by omega);omega
  ·have h1:0<=n/(g:Int):=Int.ediv_nonneg (by omega) (by omega);have h2:n/(g:Int)<=n:=Int.ediv_le_self _ (by omega);omega
theorem WD (n:Int) (d:Nat) (hd:d≠0):(mkRat n d).num.natAbs<=n.natAbs/\(mkRat n d).den<=d:=by
 rw[Rat.num_mkRat,Rat.den_mkRat,cf hd,cf hd];exact⟨Ze _ _,kz _ _⟩
theorem ciK (r s:Rat):(r+s).num.natAbs<=r.num.natAbs*s.den+s.num.natAbs*r.den/\(r+s).den<=r.den*s.den:=by
 rw[Rat.add_def'];have:=WD (r.num*s.den+s.num*r.den) (r.den*s.den) (Nat.mul_ne_zero r.den_nz s.den_nz);refine⟨cB this.1 ?_,this.2⟩;refine cB (Int.natAbs_add_le _ _) ?_;rw[Int.natAbs_mul,Int.natAbs_mul];simp
end Go.Proofs.YtcgiaclelnmhbabGreatDoor.Lim

namespace Go.Proofs.YtcgiaclelnmhbabGreatDoor
open Go Go.RowKit Go.Proofs Lim
theorem Siz.add {r s:Rat}{k j:Nat}(h1:Siz r k) (h2:Siz s j):Siz (r+s) (k+j+1):=by
 obtain⟨a,b⟩:=ciK r s;have e1:=uT h1.1 h2.2;have e2:=uT h2.1 h1.2;rw[GS j k] at e2;have e3:=uT h1.2 h2.2;have h:B^(k+j)*2<=B^(k+j+1):=by rw[js];exact ja _ YQ
 refine⟨?_,?_⟩
 ·refine jH a ?_;omega
 ·refine jH b ?_;omega
theorem Siz.zero (k:Nat) (h:1<=k):Siz 0 k:=by
 have:1<B^k:=cT (show 1<B^1 by decide) (jP jE h);exact⟨by simp;omega,by simp;omega⟩
open Go Go.RowKit Go.Proofs Lim
open Go Go.RowKit Go.Proofs Lim
end Go.Proofs.YtcgiaclelnmhbabGreatDoor
