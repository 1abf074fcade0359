/- Part 14. -/
set_option linter.all false
open List (length_append length_cons map_cons)
open Nat (lt_of_lt_of_le mul_add mul_comm mul_le_mul_left pow_add pow_le_pow_right pow_succ)

namespace Go.Proofs.YtobfdjojhfpakaaGreatDoor.Lim
def digs (n:Nat):List Nat:=if n=0 then [] else n%10::digs (n/10)
 termination_by n
 decreasing_by omega
theorem digs_zero:digs 0=[]:=by rw[digs];simp
theorem digs_pos {n:Nat}(h:n≠0):digs n=n%10::digs (n/10):=by rw[digs,if_neg h]
def Ca (d:Nat):UInt8:=UInt8.ofNat (48+d)
def cG (n:Nat):List UInt8:=if n=0 then [48] else ((digs n).map Ca).reverse
def cV (l:List UInt8):Nat:=l.foldl (fun a c=>10*a+(c.toNat-48)) 0
def jU (c:UInt8):Bool:=48<=c.toNat&&c.toNat<=57
theorem CY {d:Nat}(h:d<10):(Ca d).toNat=48+d:=by
 unfold Ca;rw[UInt8.toNat_ofNat'];omega
theorem Cc (n:Nat):∀ d∈digs n,d<10:=by
 induction n using Nat.strongRecOn with
 |ind n ih =>
  by_cases h:n=0
  ·subst h;rw[digs_zero];intro d hd;cases hd
  ·rw[digs_pos h];intro d hd;rcases List.mem_cons.1 hd with rfl|hd
   ·omega
   ·exact ih (n/10) (by omega) d hd
theorem ZJ (l:List UInt8) (c:UInt8):cV (l++[c])=10*cV l+(c.toNat-48):=by
 unfold cV;rw[List.foldl_append];rfl
theorem ccW:cV []=0:=rfl
theorem GK (l m:List UInt8):cV (l++m)=10^m.length*cV l+cV m:=by
 have h:∀ (m:List UInt8) (a:Nat),m.foldl (fun a c=>10*a+(c.toNat-48)) a=10^m.length*a+m.foldl (fun a c=>10*a+(c.toNat-48)) 0:=by
  intro m
  induction m with
  |nil=>intro a;simp
  |cons c m ih =>
   intro a;simp only[List.foldl_cons,length_cons];rw[ih,ih (10*0+(c.toNat-48)),pow_succ];grind
 unfold cV;rw[List.foldl_append,h]
theorem chA (n:Nat):cV ((digs n).map Ca).reverse=n:=by
 induction n using Nat.strongRecOn with
 |ind n ih =>
  by_cases h:n=0
  ·subst h;rw[digs_zero];rfl
  ·rw[digs_pos h,map_cons,List.reverse_cons,ZJ,ih (n/10) (by omega),CY (by omega)];omega
theorem Kq (n:Nat):cV (cG n)=n:=by
 unfold cG;split
 ·rename_i h;subst h;rfl
 ·exact chA n
theorem cat {m n:Nat}(h:cG m=cG n):m=n:=by rw[← Kq m,h,Kq]
theorem cdp {d:Nat}(h:d<10):jU (Ca d)=true:=by
 unfold jU;rw[CY h];simp;omega
theorem Ji (n:Nat):∀ c∈cG n,jU c=true:=by
 unfold cG;split
 ·intro c hc;simp at hc;subst hc;decide
 ·intro c hc;rw[List.mem_reverse,List.mem_map] at hc;obtain⟨d,hd,rfl⟩:=hc;exact cdp (Cc n d hd)
theorem cjx (n:Nat):cG n≠[]:=by
 unfold cG;split
 ·simp
 ·rename_i h;rw[digs_pos h];simp
theorem digs_len {n j : Nat} (h : n < 10 ^ j) : (digs n).length ≤ j := by
  induction j generalizing n with
  | zero => have : n = 0 := by simpa using h
            subst this; rw [digs_zero]; simp
  | succ j ih =>
    by_cases h0 : n = 0
    · subst h0; rw [digs_zero]; simp
    · rw [digs_pos h0, length_cons]
      have := ih (n := n / 10) (by rw [Nat.div_lt_iff_lt_mul (by omega)]; rw [pow_succ] at h; exact h)
      omega
theorem Jp (l:List UInt8) (h:∀ c∈l,jU c=true):cV l<10^l.length:=by
 induction l with
 |nil=>decide
 |cons c l ih =>
  have h1:=ih (fun x hx=>h x (by simp [hx]));have h2:=h c (by simp);unfold jU at h2;simp at h2;have h3:=GK [c] l;rw[show cV [c]=c.toNat-48 from by simp [cV]] at h3;rw[show c::l=[c]++l from rfl,h3,length_append,pow_add,mul_comm (10^[c].length)];have h4:10^l.length*(c.toNat-48+1)<=10^l.length*10^[c].length:=mul_le_mul_left _ (by simp;omega);rw[mul_add] at h4;omega
def ko (r:Rat):List UInt8:=(if r.num<0 then [45] else [])++cG r.num.natAbs++(if r.den=1 then [] else 47::cG r.den)
def jP (s:List UInt8):Bool:=s.head? == some 45
def kt (s:List UInt8):List UInt8:=if jP s then s.tail else s
def kH (l:List UInt8):Bool:=!l.isEmpty&&l.all jU
def kn (s:List UInt8):List UInt8:=(kt s).takeWhile (· != 47)
def je (s:List UInt8):List UInt8:=if ((kt s).dropWhile (· != 47)).isEmpty then [49] else ((kt s).dropWhile (· != 47)).tail
def yB (neg:Bool) (n:Nat):Rat:=if neg then -(n:Rat) else (n:Rat)
def ky (s:List UInt8):Option Rat :=
 if kH (kn s)&&kH (je s)&&cV (je s) != 0 then some (yB (jP s) (cV (kn s))*((cV (je s):Nat):Rat)⁻¹) else none
def jF (s:List UInt8):Rat×Int :=
 if 4000<s.length then (0,5) else
 match ky s with
 |none=>(0,4)
 |some r=>if ko r=s then (r,0) else (0,4)
theorem ciF {s:List UInt8}(h:(jF s).2=0):ko (jF s).1=s:=by
 unfold jF at *;by_cases hl:4000<s.length
 ·rw[if_pos hl] at h;cases h
 ·rw[if_neg hl] at h ⊢;cases hp:ky s with
  |none=>rw[hp] at h;cases h
  |some r =>
   rw[hp] at h;by_cases hq:ko r=s
   ·simp [hq]
   ·simp [hq] at h
theorem chy {s:List UInt8}(h:(jF s).2≠0):(jF s).1=0:=by
 unfold jF at *;by_cases hl:4000<s.length
 ·rw[if_pos hl]
 ·rw[if_neg hl] at h ⊢;cases hp:ky s with
  |none=>rfl
  |some r =>
   rw[hp] at h;by_cases hq:ko r=s
   ·simp [hq] at h
   ·simp [hq]
theorem ccn (n:Nat):n<10^(cG n).length:=by
 have:=Jp (cG n) (Ji n)
 rwa [Kq] at this
theorem cfn (r:Rat) {L:Nat}(h:(ko r).length<=L) (h1:1<=L):r.num.natAbs<10^L/\r.den<10^L:=by
 have e:(ko r).length=(if r.num<0 then [45] else ([]:List UInt8)).length+(cG r.num.natAbs).length+(if r.den=1 then [] else 47::cG r.den).length:=by
  unfold ko;rw[length_append,length_append]
 refine⟨lt_of_lt_of_le (ccn _) (pow_le_pow_right (by omega) (by omega)),?_⟩;by_cases hd:r.den=1
 ·rw[hd];exact lt_of_lt_of_le (by decide:1<10^1) (pow_le_pow_right (by omega) h1)
 ·rw[if_neg hd,length_cons] at e;exact lt_of_lt_of_le (ccn _) (pow_le_pow_right (by omega) (by omega))
theorem ceK (s:List UInt8) {L:Nat}(h:s.length<=L) (h1:1<=L):(jF s).1.num.natAbs<10^L/\(jF s).1.den<10^L:=by
 by_cases hk:(jF s).2=0
 ·have:=ciF hk;exact cfn _ (by rw[this];exact h) h1
 ·rw[chy hk];have:1<10^L:=lt_of_lt_of_le (by decide:1<10^1) (pow_le_pow_right (by omega) h1);exact⟨by simp;omega,by simp;omega⟩
end Go.Proofs.YtobfdjojhfpakaaGreatDoor.Lim
