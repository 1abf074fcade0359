/- Part 14. -/
set_option linter.all false
open List (length_append length_cons map_cons)
open Nat (lt_of_lt_of_le mul_add mul_comm mul_le_mul_left pow_add pow_le_pow_right pow_succ)

namespace Go.Proofs.YtobfdjojhfpakaaGreatDoor.Lim
def ci (n:Nat):List Nat:=if n=0 then [] else n%10::ci (n/10)
 termination_by n
 decreasing_by omega
theorem cz:ci 0=[]:=by rw[ci];simp
theorem ui {n:Nat}(h:n≠0):ci n=n%10::ci (n/10):=by rw[ci,if_neg h]
def Cb (d:Nat):UInt8:=UInt8.ofNat (48+d)
def cA (n:Nat):List UInt8:=if n=0 then [48] else ((ci n).map Cb).reverse
def cX (l:List UInt8):Nat:=l.foldl (fun a c=>10*a+(c.toNat-48)) 0
def jR (c:UInt8):Bool:=48<=c.toNat&&c.toNat<=57
theorem Eb {d:Nat}(h:d<10):(Cb d).toNat=48+d:=by
 unfold Cb;rw[UInt8.toNat_ofNat'];omega
theorem Cc (n:Nat):∀ d∈ci n,d<10:=by
 induction n using Nat.strongRecOn with
 |ind n ih =>
  by_cases h:n=0
  ·subst h;rw[cz];intro d hd;cases hd
  ·rw[ui h];intro d hd;rcases List.mem_cons.1 hd with rfl|hd
   ·omega
   ·exact ih (n/10) (by omega) d hd
theorem caQ (l:List UInt8) (c:UInt8):cX (l++[c])=10*cX l+(c.toNat-48):=by
 unfold cX;rw[List.foldl_append];rfl
theorem Jd (l m:List UInt8):cX (l++m)=10^m.length*cX l+cX m:=by
 have h:∀ (m:List UInt8) (a:Nat),m.foldl (fun a c=>10*a+(c.toNat-48)) a=10^m.length*a+m.foldl (fun a c=>10*a+(c.toNat-48)) 0:=by
  intro m
  induction m with
  |nil=>intro a;simp
  |cons c m ih =>
   intro a;simp only[List.foldl_cons,length_cons];rw[ih,ih (10*0+(c.toNat-48)),pow_succ];grind
 unfold cX;rw[List.foldl_append,h]
theorem cjf (n:Nat):cX ((ci n).map Cb).reverse=n:=by
 induction n using Nat.strongRecOn with
 |ind n ih =>
  by_cases h:n=0
  ·subst h;rw[cz];rfl
  ·rw[ui h,map_cons,List.reverse_cons,caQ,ih (n/10) (by omega),Eb (by omega)];omega
theorem Ku (n:Nat):cX (cA n)=n:=by
 unfold cA;split
 ·rename_i h;subst h;rfl
 ·exact cjf n
theorem cdq {d:Nat}(h:d<10):jR (Cb d)=true:=by
 unfold jR;rw[Eb h];simp;omega
theorem Jt (n:Nat):∀ c∈cA n,jR c=true:=by
 unfold cA;split
 ·intro c hc;simp at hc;subst hc;decide
 ·intro c hc;rw[List.mem_reverse,List.mem_map] at hc;obtain⟨d,hd,rfl⟩:=hc;exact cdq (Cc n d hd)
theorem CV {n j : Nat} (h : n < 10 ^ j) : (ci n).length ≤ j := by
  induction j generalizing n with
  | zero => have : n = 0 := by simpa using h
            subst this; rw [cz]; simp
  | succ j ih =>
    by_cases h0 : n = 0
    · subst h0; rw [cz]; simp
    · rw [ui h0, length_cons]
      have := ih (n := n / 10) (by rw [Nat.div_lt_iff_lt_mul (by omega)]; rw [pow_succ] at h; exact h)
      omega
theorem JS (l:List UInt8) (h:∀ c∈l,jR c=true):cX l<10^l.length:=by
 induction l with
 |nil=>decide
 |cons c l ih =>
  have h1:=ih (fun x hx=>h x (by simp [hx]));have h2:=h c (by simp);unfold jR at h2;simp at h2;have h3:=Jd [c] l;rw[show cX [c]=c.toNat-48 from by simp [cX]] at h3;rw[show c::l=[c]++l from rfl,h3,length_append,pow_add,mul_comm (10^[c].length)];have h4:10^l.length*(c.toNat-48+1)<=10^l.length*10^[c].length:=mul_le_mul_left _ (by simp;omega);rw[mul_add] at h4;omega
def kf (r:Rat):List UInt8:=(if r.num<0 then [45] else [])++cA r.num.natAbs++(if r.den=1 then [] else 47::cA r.den)
def jO (s:List UInt8):Bool:=s.head? == some 45
def kj (s:List UInt8):List UInt8:=if jO s then s.tail else s
def kB (l:List UInt8):Bool:=!l.isEmpty&&l.all jR
def kd (s:List UInt8):List UInt8:=(kj s).takeWhile (· != 47)
def jg (s:List UInt8):List UInt8:=if ((kj s).dropWhile (· != 47)).isEmpty then [49] else ((kj s).dropWhile (· != 47)).tail
def yz (neg:Bool) (n:Nat):Rat:=if neg then -(n:Rat) else (n:Rat)
def kn (s:List UInt8):Option Rat :=
 if kB (kd s)&&kB (jg s)&&cX (jg s) != 0 then some (yz (jO s) (cX (kd s))*((cX (jg s):Nat):Rat)⁻¹) else none
def cT (s:List UInt8):Rat×Int :=
 if 4000<s.length then (0,5) else
 match kn s with
 |none=>(0,4)
 |some r=>if kf r=s then (r,0) else (0,4)
theorem ckj {s:List UInt8}(h:(cT s).2=0):kf (cT s).1=s:=by
 unfold cT at *;by_cases hl:4000<s.length
 ·rw[if_pos hl] at h;cases h
 ·rw[if_neg hl] at h ⊢;cases hp:kn s with
  |none=>rw[hp] at h;cases h
  |some r =>
   rw[hp] at h;by_cases hq:kf r=s
   ·simp [hq]
   ·simp [hq] at h
theorem ciB {s:List UInt8}(h:(cT s).2≠0):(cT s).1=0:=by
 unfold cT at *;by_cases hl:4000<s.length
 ·rw[if_pos hl]
 ·rw[if_neg hl] at h ⊢;cases hp:kn s with
  |none=>rfl
  |some r =>
   rw[hp] at h;by_cases hq:kf r=s
   ·simp [hq] at h
   ·simp [hq]
theorem ceg (n:Nat):n<10^(cA n).length:=by
 have:=JS (cA n) (Jt n)
 rwa [Ku] at this
theorem cfF (r:Rat) {L:Nat}(h:(kf r).length<=L) (h1:1<=L):r.num.natAbs<10^L/\r.den<10^L:=by
 have e:(kf r).length=(if r.num<0 then [45] else ([]:List UInt8)).length+(cA r.num.natAbs).length+(if r.den=1 then [] else 47::cA r.den).length:=by
  unfold kf;rw[length_append,length_append]
 refine⟨lt_of_lt_of_le (ceg _) (pow_le_pow_right (by omega) (by omega)),?_⟩;by_cases hd:r.den=1
 ·rw[hd];exact lt_of_lt_of_le (by decide:1<10^1) (pow_le_pow_right (by omega) h1)
 ·rw[if_neg hd,length_cons] at e;exact lt_of_lt_of_le (ceg _) (pow_le_pow_right (by omega) (by omega))
theorem ceM (s:List UInt8) {L:Nat}(h:s.length<=L) (h1:1<=L):(cT s).1.num.natAbs<10^L/\(cT s).1.den<10^L:=by
 by_cases hk:(cT s).2=0
 ·have:=ckj hk;exact cfF _ (by rw[this];exact h) h1
 ·rw[ciB hk];have:1<10^L:=lt_of_lt_of_le (by decide:1<10^1) (pow_le_pow_right (by omega) h1);exact⟨by simp;omega,by simp;omega⟩
end Go.Proofs.YtobfdjojhfpakaaGreatDoor.Lim
