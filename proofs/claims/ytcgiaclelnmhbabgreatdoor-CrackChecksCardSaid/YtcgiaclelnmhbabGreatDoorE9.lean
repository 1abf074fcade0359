/- Part 9. -/
import Derived.Test.YtcgiaclelnmhbabGreatDoorE7
import Derived.Laws.MathBits
set_option linter.all false

namespace Go.Proofs.YtcgiaclelnmhbabGreatDoor
open Go Go.RowKit Go.Proofs Lim
theorem Uo:B=2^64:=by decide
def lz (y:Nat):Nat:=64-Lib.bitLen y
theorem bitLen_le64 {y:Nat}(hy:y<B):Lib.bitLen y<=64:=by
 have:=Any.bitLen_le64 (y:Int) (by omega) (by unfold B at hy;omega);simpa using this
theorem Yn (y:Nat) (hy:y<B) (w:World):Calls Tryz.prog 123 #[u y] w fun e w'=>e=.returned (.int .i64 (lz y:Nat))/\w=w':=by
 refine(Tryz.bits_LeadingZeros64 y w (by omega) (by unfold B at hy;omega)).mono ?_;rintro e w' ⟨rfl,rfl⟩;refine⟨?_,rfl⟩;have h:=bitLen_le64 hy;unfold lz;rw[Int.toNat_natCast,show (64-(Lib.bitLen y:Int))=((64-Lib.bitLen y:Nat):Int) from by omega]
theorem Gx:∀ (f x:Nat),x<2^f->x<2^Lib.bitLenAux f x/\(x≠0->2^(Lib.bitLenAux f x-1)<=x)
 |0,x,h=>by
  have:x=0:=by simpa using h
  subst this;simp [Lib.bitLenAux]
 |f+1,x,h=>by
  unfold Lib.bitLenAux;split
  ·rename_i h0;subst h0;simp
  ·rename_i h0;have hx:x/2<2^f:=by rw[js] at h;omega
   obtain⟨h1,h2⟩:=Gx f (x/2) hx;have hz:x/2=0->Lib.bitLenAux f (x/2)=0:=fun e=>by rw[e];cases f<;>simp [Lib.bitLenAux]
   generalize Lib.bitLenAux f (x/2)=n at *;refine⟨by rw[GS,js];omega,fun _=>?_⟩;rcases jr n with hn|hn
   ·subst hn;simp;omega
   ·have h3:=h2 (fun e=>by have:=hz e;omega);rw[show 1+n-1=(n-1)+1 from by omega,js];omega
theorem caG {x:Nat}(h:x<B):x<2^Lib.bitLen x/\(x≠0->2^(Lib.bitLen x-1)<=x):=Gx 64 x (by rw[← Uo];exact h)
theorem caL {y:Nat}(h0:0<y) (hy:y<B):lz y<=63/\y*2^lz y<B/\B<=2*(y*2^lz y):=by
 have h:=bitLen_le64 hy;obtain⟨h1,h2⟩:=caG hy;have h3:=h2 (by omega);have hb:1<=Lib.bitLen y:=by
  rcases jr (Lib.bitLen y) with e|e
  ·rw[e] at h1;simp at h1;omega
  ·exact e
 unfold lz;generalize Lib.bitLen y=n at *;have e1:2^n*2^(64-n)=B:=by rw[← jW,Uo];congr 1;omega
 have e2:2*2^(n-1)=2^n:=by rw[jf,← js];congr 1;omega
 have hp:0<2^(64-n):=jV (by omega);refine⟨by omega,?_,?_⟩
 ·rw[← e1];exact(Nat.mul_lt_mul_right hp).2 h1
 ·rw[← e1,← e2,jk];exact ja _ (cK _ h3)
theorem cab (x s:Nat) (hs:s<=64):x*2^s=x/2^(64-s)*B+x*2^s%B:=by
 have e1:2^(64-s)*2^s=B:=by rw[← jW,Uo];congr 1;omega
 have h:=kf (x*2^s) B;have e2:x*2^s/B=x/2^(64-s):=by rw[← e1,caE _ _ (jV (by omega))]
 rw[e2] at h;rw[jf (x/2^(64-s)) B];omega
theorem cbx {x s:Nat}(hx:x<B) (hs:s<=64):x/2^(64-s)<2^s:=by
 have e1:2^(64-s)*2^s=B:=by rw[← jW,Uo];congr 1;omega
 exact uM (by omega)
theorem zi (x s:Nat):IntKind.u64.wrap ((x:Int)*2^s)=((x*2^s%B:Nat):Int):=by
 rw[zQ];unfold B;rw[Int.natCast_emod,kT,Int.natCast_pow];rfl
theorem yU (x s:Nat):(x:Int)/2^s=((x/2^s:Nat):Int):=by
 rw[Cu,Int.natCast_pow];rfl
theorem ceP {a b s:Nat}(hb:b<2^s) (h:a*2^s+b<B):bits .or .u64 ((a*2^s:Nat):Int) (b:Int)=((a*2^s+b:Nat):Int):=by
 rw[bits_or_u64_nat _ _ (by unfold B at h;omega) (by unfold B at h;omega)];congr 1;rw[← Nat.shiftLeft_eq,Nat.shiftLeft_add_eq_or_of_lt hb]
theorem or_add' {a b s:Nat}(hb:b<2^s) (h:a*2^s+b<B):bits .or .u64 (b:Int) ((a*2^s:Nat):Int)=((a*2^s+b:Nat):Int):=by
 rw[bits_or_u64_nat _ _ (by unfold B at h;omega) (by unfold B at h;omega)];congr 1;rw[Nat.or_comm,← Nat.shiftLeft_eq,Nat.shiftLeft_add_eq_or_of_lt hb]
def H:Nat:=4294967296
theorem HH:H*H=B:=by decide
theorem ccr:0<H:=by decide
theorem ccE {x:Nat}(h:x<B):bits .and .u64 (x:Int) 4294967295=((x%H:Nat):Int):=by
 rw[and_low32 _ (by omega) (by unfold B at h;omega)];unfold H;omega
theorem ccQ (x:Nat):(x:Int)/4294967296=((x/H:Nat):Int):=by unfold H;omega
end Go.Proofs.YtcgiaclelnmhbabGreatDoor
