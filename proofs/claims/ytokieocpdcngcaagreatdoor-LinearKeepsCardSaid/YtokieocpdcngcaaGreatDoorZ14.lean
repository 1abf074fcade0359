/- Part 14. -/
set_option linter.all false
open List (length_append length_cons map_cons)
open Nat (lt_of_lt_of_le mul_add mul_comm mul_le_mul_left pow_add pow_le_pow_right pow_succ)

namespace Go.Proofs.YtokieocpdcngcaaGreatDoor.Lim
def ci (n:Nat):List Nat:=if n=0 then [] else n%10::ci (n/10)
 termination_by n
 decreasing_by omega
theorem jb:ci 0=[]:=by rw[ci];simp
theorem jF {n:Nat}(h:n≠0):ci n=n%10::ci (n/10):=by rw[ci,if_neg h]
def Gi (d:Nat):UInt8:=UInt8.ofNat (48+d)
def cO (n:Nat):List UInt8:=if n=0 then [48] else ((ci n).map Gi).reverse
def Jx (l:List UInt8):Nat:=l.foldl (fun a c=>10*a+(c.toNat-48)) 0
def YZ (c:UInt8):Bool:=48<=c.toNat&&c.toNat<=57
theorem ED {d:Nat}(h:d<10):(Gi d).toNat=48+d:=by
 unfold Gi;rw[UInt8.toNat_ofNat'];omega
theorem Cj (n:Nat):∀ d∈ci n,d<10:=by
 induction n using Nat.strongRecOn with
 |ind n ih =>
  by_cases h:n=0
  ·subst h;rw[jb];intro d hd;cases hd
  ·rw[jF h];intro d hd;rcases List.mem_cons.1 hd with rfl|hd
   ·omega
   ·exact ih (n/10) (by omega) d hd
theorem cgA (l:List UInt8) (c:UInt8):Jx (l++[c])=10*Jx l+(c.toNat-48):=by
 unfold Jx;rw[List.foldl_append];rfl
theorem cbS (l m:List UInt8):Jx (l++m)=10^m.length*Jx l+Jx m:=by
 have h:∀ (m:List UInt8) (a:Nat),m.foldl (fun a c=>10*a+(c.toNat-48)) a=10^m.length*a+m.foldl (fun a c=>10*a+(c.toNat-48)) 0:=by
  intro m
  induction m with
  |nil=>intro a;simp
  |cons c m ih =>
   intro a;simp only[List.foldl_cons,length_cons];rw[ih,ih (10*0+(c.toNat-48)),pow_succ];grind
 unfold Jx;rw[List.foldl_append,h]
theorem cfH (n:Nat):Jx ((ci n).map Gi).reverse=n:=by
 induction n using Nat.strongRecOn with
 |ind n ih =>
  by_cases h:n=0
  ·subst h;rw[jb];rfl
  ·rw[jF h,map_cons,List.reverse_cons,cgA,ih (n/10) (by omega),ED (by omega)];omega
theorem ccR (n:Nat):Jx (cO n)=n:=by
 unfold cO;split
 ·rename_i h;subst h;rfl
 ·exact cfH n
theorem cbB {d:Nat}(h:d<10):YZ (Gi d)=true:=by
 unfold YZ;rw[ED h];simp;omega
theorem cge (n:Nat):∀ c∈cO n,YZ c=true:=by
 unfold cO;split
 ·intro c hc;simp at hc;subst hc;decide
 ·intro c hc;rw[List.mem_reverse,List.mem_map] at hc;obtain⟨d,hd,rfl⟩:=hc;exact cbB (Cj n d hd)
theorem yd {n j : Nat} (h : n < 10 ^ j) : (ci n).length ≤ j := by
  induction j generalizing n with
  | zero => have : n = 0 := by simpa using h
            subst this; rw [jb]; simp
  | succ j ih =>
    by_cases h0 : n = 0
    · subst h0; rw [jb]; simp
    · rw [jF h0, length_cons]
      have := ih (n := n / 10) (by rw [Nat.div_lt_iff_lt_mul (by omega)]; rw [pow_succ] at h; exact h)
      omega
theorem dval_lt (l:List UInt8) (h:∀ c∈l,YZ c=true):Jx l<10^l.length:=by
 induction l with
 |nil=>decide
 |cons c l ih =>
  have h1:=ih (fun x hx=>h x (by simp [hx]));have h2:=h c (by simp);unfold YZ at h2;simp at h2;have h3:=cbS [c] l;rw[show Jx [c]=c.toNat-48 from by simp [Jx]] at h3;rw[show c::l=[c]++l from rfl,h3,length_append,pow_add,mul_comm (10^[c].length)];have h4:10^l.length*(c.toNat-48+1)<=10^l.length*10^[c].length:=mul_le_mul_left _ (by simp;omega);rw[mul_add] at h4;omega
def Gd (r:Rat):List UInt8:=(if r.num<0 then [45] else [])++cO r.num.natAbs++(if r.den=1 then [] else 47::cO r.den)
def cfa (s:List UInt8):Bool:=s.head? == some 45
def cdr (s:List UInt8):List UInt8:=if cfa s then s.tail else s
def okNat (l:List UInt8):Bool:=!l.isEmpty&&l.all YZ
def cer (s:List UInt8):List UInt8:=(cdr s).takeWhile (· != 47)
def ZW (s:List UInt8):List UInt8:=if ((cdr s).dropWhile (· != 47)).isEmpty then [49] else ((cdr s).dropWhile (· != 47)).tail
def signed (neg:Bool) (n:Nat):Rat:=if neg then -(n:Rat) else (n:Rat)
def cdv (s:List UInt8):Option Rat :=
 if okNat (cer s)&&okNat (ZW s)&&Jx (ZW s) != 0 then some (signed (cfa s) (Jx (cer s))*((Jx (ZW s):Nat):Rat)⁻¹) else none
def EI (s:List UInt8):Rat×Int :=
 if 4000<s.length then (0,5) else
 match cdv s with
 |none=>(0,4)
 |some r=>if Gd r=s then (r,0) else (0,4)
theorem chg {s:List UInt8}(h:(EI s).2=0):Gd (EI s).1=s:=by
 unfold EI at *;by_cases hl:4000<s.length
 ·rw[if_pos hl] at h;cases h
 ·rw[if_neg hl] at h ⊢;cases hp:cdv s with
  |none=>rw[hp] at h;cases h
  |some r =>
   rw[hp] at h;by_cases hq:Gd r=s
   ·simp [hq]
   ·simp [hq] at h
theorem cfE {s:List UInt8}(h:(EI s).2≠0):(EI s).1=0:=by
 unfold EI at *;by_cases hl:4000<s.length
 ·rw[if_pos hl]
 ·rw[if_neg hl] at h ⊢;cases hp:cdv s with
  |none=>rfl
  |some r =>
   rw[hp] at h;by_cases hq:Gd r=s
   ·simp [hq] at h
   ·simp [hq]
theorem cbr (n:Nat):n<10^(cO n).length:=by
 have:=dval_lt (cO n) (cge n)
 rwa [ccR] at this
theorem ccv (r:Rat) {L:Nat}(h:(Gd r).length<=L) (h1:1<=L):r.num.natAbs<10^L/\r.den<10^L:=by
 have e:(Gd r).length=(if r.num<0 then [45] else ([]:List UInt8)).length+(cO r.num.natAbs).length+(if r.den=1 then [] else 47::cO r.den).length:=by
  unfold Gd;rw[length_append,length_append]
 refine⟨lt_of_lt_of_le (cbr _) (pow_le_pow_right (by omega) (by omega)),?_⟩;by_cases hd:r.den=1
 ·rw[hd];exact lt_of_lt_of_le (by decide:1<10^1) (pow_le_pow_right (by omega) h1)
 ·rw[if_neg hd,length_cons] at e;exact lt_of_lt_of_le (cbr _) (pow_le_pow_right (by omega) (by omega))
theorem cdA (s:List UInt8) {L:Nat}(h:s.length<=L) (h1:1<=L):(EI s).1.num.natAbs<10^L/\(EI s).1.den<10^L:=by
 by_cases hk:(EI s).2=0
 ·have:=chg hk;exact ccv _ (by rw[this];exact h) h1
 ·rw[cfE hk];have:1<10^L:=lt_of_lt_of_le (by decide:1<10^1) (pow_le_pow_right (by omega) h1);exact⟨by simp;omega,by simp;omega⟩
end Go.Proofs.YtokieocpdcngcaaGreatDoor.Lim
