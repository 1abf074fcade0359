/- Part 15. -/
import Derived.Test.YtcgiaclelnmhbabGreatDoorE1
set_option linter.all false

namespace Go.Proofs.YtcgiaclelnmhbabGreatDoor.Lim
def uB (n:Nat):List Nat:=if n=0 then [] else n%10::uB (n/10)
 termination_by n
 decreasing_by omega
theorem uX:uB 0=[]:=by rw[uB];simp
theorem CR {n:Nat}(h:n≠0):uB n=n%10::uB (n/10):=by rw[uB,cf h]
def EW (d:Nat):UInt8:=UInt8.ofNat (48+d)
def je (n:Nat):List UInt8:=if n=0 then [48] else ((uB n).map EW).reverse
def dval (l:List UInt8):Nat:=l.foldl (fun a c=>10*a+(c.toNat-48)) 0
def isDig (c:UInt8):Bool:=48<=c.toNat&&c.toNat<=57
theorem Gd {d:Nat}(h:d<10):(EW d).toNat=48+d:=by
 unfold EW;rw[UInt8.toNat_ofNat'];omega
theorem digs_lt (n:Nat):∀ d∈uB n,d<10:=by
 induction n using Nat.strongRecOn with
 |ind n ih =>
  by_cases h:n=0
  ·subst h;rw[uX];intro d hd;cases hd
  ·rw[CR h];intro d hd;rcases List.mem_cons.1 hd with rfl|hd
   ·omega
   ·exact ih (n/10) (by omega) d hd
theorem chP {n j : Nat} (h : n < 10 ^ j) : (uB n).length ≤ j := by
  induction j generalizing n with
  | zero => have : n = 0 := by simpa using h
            subst this; rw [uX]; simp
  | succ j ih =>
    by_cases h0 : n = 0
    · subst h0; rw [uX]; simp
    · rw [CR h0, CA]
      have := ih (n := n / 10) (by rw [Nat.div_lt_iff_lt_mul (by omega)]; rw [js] at h; exact h)
      omega
def ES (r:Rat):List UInt8:=(if r.num<0 then [45] else [])++je r.num.natAbs++(if r.den=1 then [] else 47::je r.den)
def cft (s:List UInt8):Bool:=s.head? == some 45
def ceF (s:List UInt8):List UInt8:=if cft s then s.tail else s
def okNat (l:List UInt8):Bool:=!l.isEmpty&&l.all isDig
def cfb (s:List UInt8):List UInt8:=(ceF s).takeWhile (· != 47)
def cbN (s:List UInt8):List UInt8:=if ((ceF s).dropWhile (· != 47)).isEmpty then [49] else ((ceF s).dropWhile (· != 47)).tail
def signed (neg:Bool) (n:Nat):Rat:=if neg then -(n:Rat) else (n:Rat)
def parsed (s:List UInt8):Option Rat :=
 if okNat (cfb s)&&okNat (cbN s)&&dval (cbN s) != 0 then some (signed (cft s) (dval (cfb s))*((dval (cbN s):Nat):Rat)⁻¹) else none
def readQ (s:List UInt8):Rat×Int :=
 if 4000<s.length then (0,5) else
 match parsed s with
 |none=>(0,4)
 |some r=>if ES r=s then (r,0) else (0,4)
end Go.Proofs.YtcgiaclelnmhbabGreatDoor.Lim
