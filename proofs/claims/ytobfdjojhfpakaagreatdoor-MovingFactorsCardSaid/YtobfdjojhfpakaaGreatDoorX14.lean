/- Part 14. -/
set_option linter.all false
open List (length_append length_cons map_cons)
open Nat (lt_of_lt_of_le mul_add mul_comm mul_le_mul_left pow_add pow_le_pow_right pow_succ)

namespace Go.Proofs.YtobfdjojhfpakaaGreatDoor.Lim
def digs (n:Nat):List Nat:=if n=0 then [] else n%10::digs (n/10)
 termination_by n
 decreasing_by omega
theorem digs_zero:digs 0=[]:=by rw[digs];simp
theorem digs_pos {n:Nat}(h:n≠0):digs n=n%10::digs (n/10):=by rw[digs,if_neg h]
def zH (d:Nat):UInt8:=UInt8.ofNat (48+d)
def ct (n:Nat):List UInt8:=if n=0 then [48] else ((digs n).map zH).reverse
def cO (l:List UInt8):Nat:=l.foldl (fun a c=>10*a+(c.toNat-48)) 0
def jI (c:UInt8):Bool:=48<=c.toNat&&c.toNat<=57
theorem CD {d:Nat}(h:d<10):(zH d).toNat=48+d:=by
 unfold zH;rw[UInt8.toNat_ofNat'];omega
theorem zV (n:Nat):∀ d∈digs n,d<10:=by
 induction n using Nat.strongRecOn with
 |ind n ih =>
  by_cases h:n=0
  ·subst h;rw[digs_zero];intro d hd;cases hd
  ·rw[digs_pos h];intro d hd;rcases List.mem_cons.1 hd with rfl|hd
   ·omega
   ·exact ih (n/10) (by omega) d hd
theorem Zs (l:List UInt8) (c:UInt8):cO (l++[c])=10*cO l+(c.toNat-48):=by
 unfold cO;rw[List.foldl_append];rfl
theorem cbT:cO []=0:=rfl
theorem EQ (l m:List UInt8):cO (l++m)=10^m.length*cO l+cO m:=by
 have h:∀ (m:List UInt8) (a:Nat),m.foldl (fun a c=>10*a+(c.toNat-48)) a=10^m.length*a+m.foldl (fun a c=>10*a+(c.toNat-48)) 0:=by
  intro m
  induction m with
  |nil=>intro a;simp
  |cons c m ih =>
   intro a;simp only[List.foldl_cons,length_cons];rw[ih,ih (10*0+(c.toNat-48)),pow_succ];grind
 unfold cO;rw[List.foldl_append,h]
theorem cfF (n:Nat):cO ((digs n).map zH).reverse=n:=by
 induction n using Nat.strongRecOn with
 |ind n ih =>
  by_cases h:n=0
  ·subst h;rw[digs_zero];rfl
  ·rw[digs_pos h,map_cons,List.reverse_cons,Zs,ih (n/10) (by omega),CD (by omega)];omega
theorem JM (n:Nat):cO (ct n)=n:=by
 unfold ct;split
 ·rename_i h;subst h;rfl
 ·exact cfF n
theorem ZK {m n:Nat}(h:ct m=ct n):m=n:=by rw[← JM m,h,JM]
theorem ccF {d:Nat}(h:d<10):jI (zH d)=true:=by
 unfold jI;rw[CD h];simp;omega
theorem Jk (n:Nat):∀ c∈ct n,jI c=true:=by
 unfold ct;split
 ·intro c hc;simp at hc;subst hc;decide
 ·intro c hc;rw[List.mem_reverse,List.mem_map] at hc;obtain⟨d,hd,rfl⟩:=hc;exact ccF (zV n d hd)
theorem chO (n:Nat):ct n≠[]:=by
 unfold ct;split
 ·simp
 ·rename_i h;rw[digs_pos h];simp
theorem digs_len {n j : Nat} (h : n < 10 ^ j) : (digs n).length ≤ j := by
  induction j generalizing n with
  | zero => have : n = 0 := by simpa using h
            subst this; rw [digs_zero]; simp
  | succ j ih =>
    by_cases h0 : n = 0
    · subst h0; rw [digs_zero]; simp
    · rw [digs_pos h0, length_cons]
      have := ih (n := n / 10) (by rw [Nat.div_lt_iff_lt_mul (by omega)]; rw [pow_succ] at h; exact h)
      omega
theorem Jf (l:List UInt8) (h:∀ c∈l,jI c=true):cO l<10^l.length:=by
 induction l with
 |nil=>decide
 |cons c l ih =>
  have h1:=ih (fun x hx=>h x (by simp [hx]));have h2:=h c (by simp);unfold jI at h2;simp at h2;have h3:=EQ [c] l;rw[show cO [c]=c.toNat-48 from by simp [cO]] at h3;rw[show c::l=[c]++l from rfl,h3,length_append,pow_add,mul_comm (10^[c].length)];have h4:10^l.length*(c.toNat-48+1)<=10^l.length*10^[c].length:=mul_le_mul_left _ (by simp;omega);rw[mul_add] at h4;omega
def jX (r:Rat):List UInt8:=(if r.num<0 then [45] else [])++ct r.num.natAbs++(if r.den=1 then [] else 47::ct r.den)
def jC (s:List UInt8):Bool:=s.head? == some 45
def ke (s:List UInt8):List UInt8:=if jC s then s.tail else s
def kv (l:List UInt8):Bool:=!l.isEmpty&&l.all jI
def jW (s:List UInt8):List UInt8:=(ke s).takeWhile (· != 47)
def cY (s:List UInt8):List UInt8:=if ((ke s).dropWhile (· != 47)).isEmpty then [49] else ((ke s).dropWhile (· != 47)).tail
def yd (neg:Bool) (n:Nat):Rat:=if neg then -(n:Rat) else (n:Rat)
def kd (s:List UInt8):Option Rat :=
 if kv (jW s)&&kv (cY s)&&cO (cY s) != 0 then some (yd (jC s) (cO (jW s))*((cO (cY s):Nat):Rat)⁻¹) else none
def jD (s:List UInt8):Rat×Int :=
 if 4000<s.length then (0,5) else
 match kd s with
 |none=>(0,4)
 |some r=>if jX r=s then (r,0) else (0,4)
theorem ciE {s:List UInt8}(h:(jD s).2=0):jX (jD s).1=s:=by
 unfold jD at *;by_cases hl:4000<s.length
 ·rw[if_pos hl] at h;cases h
 ·rw[if_neg hl] at h ⊢;cases hp:kd s with
  |none=>rw[hp] at h;cases h
  |some r =>
   rw[hp] at h;by_cases hq:jX r=s
   ·simp [hq]
   ·simp [hq] at h
theorem cfJ {s:List UInt8}(h:(jD s).2≠0):(jD s).1=0:=by
 unfold jD at *;by_cases hl:4000<s.length
 ·rw[if_pos hl]
 ·rw[if_neg hl] at h ⊢;cases hp:kd s with
  |none=>rfl
  |some r =>
   rw[hp] at h;by_cases hq:jX r=s
   ·simp [hq] at h
   ·simp [hq]
theorem ccC (n:Nat):n<10^(ct n).length:=by
 have:=Jf (ct n) (Jk n)
 rwa [JM] at this
theorem ccY (r:Rat) {L:Nat}(h:(jX r).length<=L) (h1:1<=L):r.num.natAbs<10^L/\r.den<10^L:=by
 have e:(jX r).length=(if r.num<0 then [45] else ([]:List UInt8)).length+(ct r.num.natAbs).length+(if r.den=1 then [] else 47::ct r.den).length:=by
  unfold jX;rw[length_append,length_append]
 refine⟨lt_of_lt_of_le (ccC _) (pow_le_pow_right (by omega) (by omega)),?_⟩;by_cases hd:r.den=1
 ·rw[hd];exact lt_of_lt_of_le (by decide:1<10^1) (pow_le_pow_right (by omega) h1)
 ·rw[if_neg hd,length_cons] at e;exact lt_of_lt_of_le (ccC _) (pow_le_pow_right (by omega) (by omega))
theorem cdF (s:List UInt8) {L:Nat}(h:s.length<=L) (h1:1<=L):(jD s).1.num.natAbs<10^L/\(jD s).1.den<10^L:=by
 by_cases hk:(jD s).2=0
 ·have:=ciE hk;exact ccY _ (by rw[this];exact h) h1
 ·rw[cfJ hk];have:1<10^L:=lt_of_lt_of_le (by decide:1<10^1) (pow_le_pow_right (by omega) h1);exact⟨by simp;omega,by simp;omega⟩
end Go.Proofs.YtobfdjojhfpakaaGreatDoor.Lim
