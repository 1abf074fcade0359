/- Part 14. -/
set_option linter.all false
open List (length_append length_cons map_cons)
open Nat (lt_of_lt_of_le mul_add mul_comm mul_le_mul_left pow_add pow_le_pow_right pow_succ)

namespace Go.Proofs.YtokieocpdcngcabGreatDoor.Lim
def digs (n:Nat):List Nat:=if n=0 then [] else n%10::digs (n/10)
 termination_by n
 decreasing_by omega
theorem digs_zero:digs 0=[]:=by rw[digs];simp
theorem digs_pos {n:Nat}(h:n≠0):digs n=n%10::digs (n/10):=by rw[digs,if_neg h]
def Cb (d:Nat):UInt8:=UInt8.ofNat (48+d)
def cA (n:Nat):List UInt8:=if n=0 then [48] else ((digs n).map Cb).reverse
def cR (l:List UInt8):Nat:=l.foldl (fun a c=>10*a+(c.toNat-48)) 0
def jP (c:UInt8):Bool:=48<=c.toNat&&c.toNat<=57
theorem CT {d:Nat}(h:d<10):(Cb d).toNat=48+d:=by
 unfold Cb;rw[UInt8.toNat_ofNat'];omega
theorem Cf (n:Nat):∀ d∈digs n,d<10:=by
 induction n using Nat.strongRecOn with
 |ind n ih =>
  by_cases h:n=0
  ·subst h;rw[digs_zero];intro d hd;cases hd
  ·rw[digs_pos h];intro d hd;rcases List.mem_cons.1 hd with rfl|hd
   ·omega
   ·exact ih (n/10) (by omega) d hd
theorem cbk (l:List UInt8) (c:UInt8):cR (l++[c])=10*cR l+(c.toNat-48):=by
 unfold cR;rw[List.foldl_append];rfl
theorem cdx:cR []=0:=rfl
theorem GS (l m:List UInt8):cR (l++m)=10^m.length*cR l+cR m:=by
 have h:∀ (m:List UInt8) (a:Nat),m.foldl (fun a c=>10*a+(c.toNat-48)) a=10^m.length*a+m.foldl (fun a c=>10*a+(c.toNat-48)) 0:=by
  intro m
  induction m with
  |nil=>intro a;simp
  |cons c m ih =>
   intro a;simp only[List.foldl_cons,length_cons];rw[ih,ih (10*0+(c.toNat-48)),pow_succ];grind
 unfold cR;rw[List.foldl_append,h]
theorem cje (n:Nat):cR ((digs n).map Cb).reverse=n:=by
 induction n using Nat.strongRecOn with
 |ind n ih =>
  by_cases h:n=0
  ·subst h;rw[digs_zero];rfl
  ·rw[digs_pos h,map_cons,List.reverse_cons,cbk,ih (n/10) (by omega),CT (by omega)];omega
theorem KA (n:Nat):cR (cA n)=n:=by
 unfold cA;split
 ·rename_i h;subst h;rfl
 ·exact cje n
theorem cao {m n:Nat}(h:cA m=cA n):m=n:=by rw[← KA m,h,KA]
theorem cee {d:Nat}(h:d<10):jP (Cb d)=true:=by
 unfold jP;rw[CT h];simp;omega
theorem Jz (n:Nat):∀ c∈cA n,jP c=true:=by
 unfold cA;split
 ·intro c hc;simp at hc;subst hc;decide
 ·intro c hc;rw[List.mem_reverse,List.mem_map] at hc;obtain⟨d,hd,rfl⟩:=hc;exact cee (Cf n d hd)
theorem cjz (n:Nat):cA n≠[]:=by
 unfold cA;split
 ·simp
 ·rename_i h;rw[digs_pos h];simp
theorem digs_len {n j : Nat} (h : n < 10 ^ j) : (digs n).length ≤ j := by
  induction j generalizing n with
  | zero => have : n = 0 := by simpa using h
            subst this; rw [digs_zero]; simp
  | succ j ih =>
    by_cases h0 : n = 0
    · subst h0; rw [digs_zero]; simp
    · rw [digs_pos h0, length_cons]
      have := ih (n := n / 10) (by rw [Nat.div_lt_iff_lt_mul (by omega)]; rw [pow_succ] at h; exact h)
      omega
theorem JX (l:List UInt8) (h:∀ c∈l,jP c=true):cR l<10^l.length:=by
 induction l with
 |nil=>decide
 |cons c l ih =>
  have h1:=ih (fun x hx=>h x (by simp [hx]));have h2:=h c (by simp);unfold jP at h2;simp at h2;have h3:=GS [c] l;rw[show cR [c]=c.toNat-48 from by simp [cR]] at h3;rw[show c::l=[c]++l from rfl,h3,length_append,pow_add,mul_comm (10^[c].length)];have h4:10^l.length*(c.toNat-48+1)<=10^l.length*10^[c].length:=mul_le_mul_left _ (by simp;omega);rw[mul_add] at h4;omega
def kg (r:Rat):List UInt8:=(if r.num<0 then [45] else [])++cA r.num.natAbs++(if r.den=1 then [] else 47::cA r.den)
def jL (s:List UInt8):Bool:=s.head? == some 45
def kr (s:List UInt8):List UInt8:=if jL s then s.tail else s
def kE (l:List UInt8):Bool:=!l.isEmpty&&l.all jP
def kf (s:List UInt8):List UInt8:=(kr s).takeWhile (· != 47)
def jc (s:List UInt8):List UInt8:=if ((kr s).dropWhile (· != 47)).isEmpty then [49] else ((kr s).dropWhile (· != 47)).tail
def yz (neg:Bool) (n:Nat):Rat:=if neg then -(n:Rat) else (n:Rat)
def kn (s:List UInt8):Option Rat :=
 if kE (kf s)&&kE (jc s)&&cR (jc s) != 0 then some (yz (jL s) (cR (kf s))*((cR (jc s):Nat):Rat)⁻¹) else none
def jr (s:List UInt8):Rat×Int :=
 if 4000<s.length then (0,5) else
 match kn s with
 |none=>(0,4)
 |some r=>if kg r=s then (r,0) else (0,4)
theorem cjA {s:List UInt8}(h:(jr s).2=0):kg (jr s).1=s:=by
 unfold jr at *;by_cases hl:4000<s.length
 ·rw[if_pos hl] at h;cases h
 ·rw[if_neg hl] at h ⊢;cases hp:kn s with
  |none=>rw[hp] at h;cases h
  |some r =>
   rw[hp] at h;by_cases hq:kg r=s
   ·simp [hq]
   ·simp [hq] at h
theorem ciu {s:List UInt8}(h:(jr s).2≠0):(jr s).1=0:=by
 unfold jr at *;by_cases hl:4000<s.length
 ·rw[if_pos hl]
 ·rw[if_neg hl] at h ⊢;cases hp:kn s with
  |none=>rfl
  |some r =>
   rw[hp] at h;by_cases hq:kg r=s
   ·simp [hq] at h
   ·simp [hq]
theorem ccO (n:Nat):n<10^(cA n).length:=by
 have:=JX (cA n) (Jz n)
 rwa [KA] at this
theorem cfL (r:Rat) {L:Nat}(h:(kg r).length<=L) (h1:1<=L):r.num.natAbs<10^L/\r.den<10^L:=by
 have e:(kg r).length=(if r.num<0 then [45] else ([]:List UInt8)).length+(cA r.num.natAbs).length+(if r.den=1 then [] else 47::cA r.den).length:=by
  unfold kg;rw[length_append,length_append]
 refine⟨lt_of_lt_of_le (ccO _) (pow_le_pow_right (by omega) (by omega)),?_⟩;by_cases hd:r.den=1
 ·rw[hd];exact lt_of_lt_of_le (by decide:1<10^1) (pow_le_pow_right (by omega) h1)
 ·rw[if_neg hd,length_cons] at e;exact lt_of_lt_of_le (ccO _) (pow_le_pow_right (by omega) (by omega))
theorem cfc (s:List UInt8) {L:Nat}(h:s.length<=L) (h1:1<=L):(jr s).1.num.natAbs<10^L/\(jr s).1.den<10^L:=by
 by_cases hk:(jr s).2=0
 ·have:=cjA hk;exact cfL _ (by rw[this];exact h) h1
 ·rw[ciu hk];have:1<10^L:=lt_of_lt_of_le (by decide:1<10^1) (pow_le_pow_right (by omega) h1);exact⟨by simp;omega,by simp;omega⟩
end Go.Proofs.YtokieocpdcngcabGreatDoor.Lim
