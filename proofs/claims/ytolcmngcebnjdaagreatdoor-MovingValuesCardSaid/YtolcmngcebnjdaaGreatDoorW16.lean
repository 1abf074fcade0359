/- Part 16. -/
set_option linter.all false
open List (length_append length_cons map_cons)
open Nat (lt_of_lt_of_le mul_add mul_comm mul_le_mul_left pow_add pow_le_pow_right pow_succ)

namespace Go.Proofs.YtolcmngcebnjdaaGreatDoor.Lim
def digs (n:Nat):List Nat:=if n=0 then [] else n%10::digs (n/10)
 termination_by n
 decreasing_by omega
theorem digs_zero:digs 0=[]:=by rw[digs];simp
theorem digs_pos {n:Nat}(h:n≠0):digs n=n%10::digs (n/10):=by rw[digs,if_neg h]
def CM (d:Nat):UInt8:=UInt8.ofNat (48+d)
def cE (n:Nat):List UInt8:=if n=0 then [48] else ((digs n).map CM).reverse
def jf (l:List UInt8):Nat:=l.foldl (fun a c=>10*a+(c.toNat-48)) 0
def kd (c:UInt8):Bool:=48<=c.toNat&&c.toNat<=57
theorem EH {d:Nat}(h:d<10):(CM d).toNat=48+d:=by
 unfold CM;rw[UInt8.toNat_ofNat'];omega
theorem CY (n:Nat):∀ d∈digs n,d<10:=by
 induction n using Nat.strongRecOn with
 |ind n ih =>
  by_cases h:n=0
  ·subst h;rw[digs_zero];intro d hd;cases hd
  ·rw[digs_pos h];intro d hd;rcases List.mem_cons.1 hd with rfl|hd
   ·omega
   ·exact ih (n/10) (by omega) d hd
theorem caQ (l:List UInt8) (c:UInt8):jf (l++[c])=10*jf l+(c.toNat-48):=by
 unfold jf;rw[List.foldl_append];rfl
theorem cek:jf []=0:=rfl
theorem JM (l m:List UInt8):jf (l++m)=10^m.length*jf l+jf m:=by
 have h:∀ (m:List UInt8) (a:Nat),m.foldl (fun a c=>10*a+(c.toNat-48)) a=10^m.length*a+m.foldl (fun a c=>10*a+(c.toNat-48)) 0:=by
  intro m
  induction m with
  |nil=>intro a;simp
  |cons c m ih =>
   intro a;simp only[List.foldl_cons,length_cons];rw[ih,ih (10*0+(c.toNat-48)),pow_succ];grind
 unfold jf;rw[List.foldl_append,h]
theorem cib (n:Nat):jf ((digs n).map CM).reverse=n:=by
 induction n using Nat.strongRecOn with
 |ind n ih =>
  by_cases h:n=0
  ·subst h;rw[digs_zero];rfl
  ·rw[digs_pos h,map_cons,List.reverse_cons,caQ,ih (n/10) (by omega),EH (by omega)];omega
theorem KP (n:Nat):jf (cE n)=n:=by
 unfold cE;split
 ·rename_i h;subst h;rfl
 ·exact cib n
theorem caR {m n:Nat}(h:cE m=cE n):m=n:=by rw[← KP m,h,KP]
theorem cdI {d:Nat}(h:d<10):kd (CM d)=true:=by
 unfold kd;rw[EH h];simp;omega
theorem Ko (n:Nat):∀ c∈cE n,kd c=true:=by
 unfold cE;split
 ·intro c hc;simp at hc;subst hc;decide
 ·intro c hc;rw[List.mem_reverse,List.mem_map] at hc;obtain⟨d,hd,rfl⟩:=hc;exact cdI (CY n d hd)
theorem ciX (n:Nat):cE n≠[]:=by
 unfold cE;split
 ·simp
 ·rename_i h;rw[digs_pos h];simp
theorem digs_len {n j : Nat} (h : n < 10 ^ j) : (digs n).length ≤ j := by
  induction j generalizing n with
  | zero => have : n = 0 := by simpa using h
            subst this; rw [digs_zero]; simp
  | succ j ih =>
    by_cases h0 : n = 0
    · subst h0; rw [digs_zero]; simp
    · rw [digs_pos h0, length_cons]
      have := ih (n := n / 10) (by rw [Nat.div_lt_iff_lt_mul (by omega)]; rw [pow_succ] at h; exact h)
      omega
theorem Kw (l:List UInt8) (h:∀ c∈l,kd c=true):jf l<10^l.length:=by
 induction l with
 |nil=>decide
 |cons c l ih =>
  have h1:=ih (fun x hx=>h x (by simp [hx]));have h2:=h c (by simp);unfold kd at h2;simp at h2;have h3:=JM [c] l;rw[show jf [c]=c.toNat-48 from by simp [jf]] at h3;rw[show c::l=[c]++l from rfl,h3,length_append,pow_add,mul_comm (10^[c].length)];have h4:10^l.length*(c.toNat-48+1)<=10^l.length*10^[c].length:=mul_le_mul_left _ (by simp;omega);rw[mul_add] at h4;omega
def ky (r:Rat):List UInt8:=(if r.num<0 then [45] else [])++cE r.num.natAbs++(if r.den=1 then [] else 47::cE r.den)
def jW (s:List UInt8):Bool:=s.head? == some 45
def kG (s:List UInt8):List UInt8:=if jW s then s.tail else s
def kR (l:List UInt8):Bool:=!l.isEmpty&&l.all kd
def kx (s:List UInt8):List UInt8:=(kG s).takeWhile (· != 47)
def js (s:List UInt8):List UInt8:=if ((kG s).dropWhile (· != 47)).isEmpty then [49] else ((kG s).dropWhile (· != 47)).tail
def zd (neg:Bool) (n:Nat):Rat:=if neg then -(n:Rat) else (n:Rat)
def kJ (s:List UInt8):Option Rat :=
 if kR (kx s)&&kR (js s)&&jf (js s) != 0 then some (zd (jW s) (jf (kx s))*((jf (js s):Nat):Rat)⁻¹) else none
def jv (s:List UInt8):Rat×Int :=
 if 4000<s.length then (0,5) else
 match kJ s with
 |none=>(0,4)
 |some r=>if ky r=s then (r,0) else (0,4)
theorem ckl {s:List UInt8}(h:(jv s).2=0):ky (jv s).1=s:=by
 unfold jv at *;by_cases hl:4000<s.length
 ·rw[if_pos hl] at h;cases h
 ·rw[if_neg hl] at h ⊢;cases hp:kJ s with
  |none=>rw[hp] at h;cases h
  |some r =>
   rw[hp] at h;by_cases hq:ky r=s
   ·simp [hq]
   ·simp [hq] at h
theorem chq {s:List UInt8}(h:(jv s).2≠0):(jv s).1=0:=by
 unfold jv at *;by_cases hl:4000<s.length
 ·rw[if_pos hl]
 ·rw[if_neg hl] at h ⊢;cases hp:kJ s with
  |none=>rfl
  |some r =>
   rw[hp] at h;by_cases hq:ky r=s
   ·simp [hq] at h
   ·simp [hq]
theorem cdQ (n:Nat):n<10^(cE n).length:=by
 have:=Kw (cE n) (Ko n)
 rwa [KP] at this
theorem cfc (r:Rat) {L:Nat}(h:(ky r).length<=L) (h1:1<=L):r.num.natAbs<10^L/\r.den<10^L:=by
 have e:(ky r).length=(if r.num<0 then [45] else ([]:List UInt8)).length+(cE r.num.natAbs).length+(if r.den=1 then [] else 47::cE r.den).length:=by
  unfold ky;rw[length_append,length_append]
 refine⟨lt_of_lt_of_le (cdQ _) (pow_le_pow_right (by omega) (by omega)),?_⟩;by_cases hd:r.den=1
 ·rw[hd];exact lt_of_lt_of_le (by decide:1<10^1) (pow_le_pow_right (by omega) h1)
 ·rw[if_neg hd,length_cons] at e;exact lt_of_lt_of_le (cdQ _) (pow_le_pow_right (by omega) (by omega))
theorem ceQ (s:List UInt8) {L:Nat}(h:s.length<=L) (h1:1<=L):(jv s).1.num.natAbs<10^L/\(jv s).1.den<10^L:=by
 by_cases hk:(jv s).2=0
 ·have:=ckl hk;exact cfc _ (by rw[this];exact h) h1
 ·rw[chq hk];have:1<10^L:=lt_of_lt_of_le (by decide:1<10^1) (pow_le_pow_right (by omega) h1);exact⟨by simp;omega,by simp;omega⟩
end Go.Proofs.YtolcmngcebnjdaaGreatDoor.Lim
