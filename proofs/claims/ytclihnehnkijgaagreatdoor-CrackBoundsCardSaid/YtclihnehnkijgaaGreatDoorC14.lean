/- Part 14. -/
import Derived.Test.YtclihnehnkijgaaGreatDoorC1
set_option linter.all false

namespace Go.Proofs.YtclihnehnkijgaaGreatDoor.Lim
def digs (n:Nat):List Nat:=if n=0 then [] else n%10::digs (n/10)
 termination_by n
 decreasing_by omega
theorem digs_zero:digs 0=[]:=by rw[digs];simp
theorem digs_pos {n:Nat}(h:n≠0):digs n=n%10::digs (n/10):=by rw[digs,cg h]
def Gh (d:Nat):UInt8:=UInt8.ofNat (48+d)
def cU (n:Nat):List UInt8:=if n=0 then [48] else ((digs n).map Gh).reverse
def jA (l:List UInt8):Nat:=l.foldl (fun a c=>10*a+(c.toNat-48)) 0
def kS (c:UInt8):Bool:=48<=c.toNat&&c.toNat<=57
theorem Jn {d:Nat}(h:d<10):(Gh d).toNat=48+d:=by
 unfold Gh;rw[UInt8.toNat_ofNat'];omega
theorem GA (n:Nat):∀ d∈digs n,d<10:=by
 induction n using Nat.strongRecOn with
 |ind n ih =>
  by_cases h:n=0
  ·subst h;rw[digs_zero];intro d hd;cases hd
  ·rw[digs_pos h];intro d hd;rcases List.mem_cons.1 hd with rfl|hd
   ·omega
   ·exact ih (n/10) (by omega) d hd
theorem ceJ (l:List UInt8) (c:UInt8):jA (l++[c])=10*jA l+(c.toNat-48):=by
 unfold jA;rw[List.foldl_append];rfl
theorem chj:jA []=0:=rfl
theorem UI (l m:List UInt8):jA (l++m)=10^m.length*jA l+jA m:=by
 have h:∀ (m:List UInt8) (a:Nat),m.foldl (fun a c=>10*a+(c.toNat-48)) a=10^m.length*a+m.foldl (fun a c=>10*a+(c.toNat-48)) 0:=by
  intro m
  induction m with
  |nil=>intro a;simp
  |cons c m ih =>
   intro a;simp only[List.foldl_cons,kK];rw[ih,ih (10*0+(c.toNat-48)),jl];grind
 unfold jA;rw[List.foldl_append,h]
theorem cmN (n:Nat):jA ((digs n).map Gh).reverse=n:=by
 induction n using Nat.strongRecOn with
 |ind n ih =>
  by_cases h:n=0
  ·subst h;rw[digs_zero];rfl
  ·rw[digs_pos h,jX,List.reverse_cons,ceJ,ih (n/10) (by omega),Jn (by omega)];omega
theorem ckb (n:Nat):jA (cU n)=n:=by
 unfold cU;split
 ·rename_i h;subst h;rfl
 ·exact cmN n
theorem chM {d:Nat}(h:d<10):kS (Gh d)=true:=by
 unfold kS;rw[Jn h];simp;omega
theorem cms (n:Nat):∀ c∈cU n,kS c=true:=by
 unfold cU;split
 ·intro c hc;simp at hc;subst hc;decide
 ·intro c hc;rw[List.mem_reverse,List.mem_map] at hc;obtain⟨d,hd,rfl⟩:=hc;exact chM (GA n d hd)
theorem digs_len {n j : Nat} (h : n < 10 ^ j) : (digs n).length ≤ j := by
  induction j generalizing n with
  | zero => have : n = 0 := by simpa using h
            subst this; rw [digs_zero]; simp
  | succ j ih =>
    by_cases h0 : n = 0
    · subst h0; rw [digs_zero]; simp
    · rw [digs_pos h0, kK]
      have := ih (n := n / 10) (by rw [Nat.div_lt_iff_lt_mul (by omega)]; rw [jl] at h; exact h)
      omega
theorem WD (l:List UInt8) (h:∀ c∈l,kS c=true):jA l<10^l.length:=by
 induction l with
 |nil=>decide
 |cons c l ih =>
  have h1:=ih (fun x hx=>h x (by simp [hx]));have h2:=h c (by simp);unfold kS at h2;simp at h2;have h3:=UI [c] l;rw[show jA [c]=c.toNat-48 from by simp [jA]] at h3;rw[show c::l=[c]++l from rfl,h3,kR,kJ,jg (10^[c].length)];have h4:10^l.length*(c.toNat-48+1)<=10^l.length*10^[c].length:=jw _ (by simp;omega);rw[cK] at h4;omega
def zd (r:Rat):List UInt8:=(if r.num<0 then [45] else [])++cU r.num.natAbs++(if r.den=1 then [] else 47::cU r.den)
def kI (s:List UInt8):Bool:=s.head? == some 45
def ur (s:List UInt8):List UInt8:=if kI s then s.tail else s
def uJ (l:List UInt8):Bool:=!l.isEmpty&&l.all kS
def ue (s:List UInt8):List UInt8:=(ur s).takeWhile (· != 47)
def jQ (s:List UInt8):List UInt8:=if ((ur s).dropWhile (· != 47)).isEmpty then [49] else ((ur s).dropWhile (· != 47)).tail
def Cp (neg:Bool) (n:Nat):Rat:=if neg then -(n:Rat) else (n:Rat)
def uq (s:List UInt8):Option Rat :=
 if uJ (ue s)&&uJ (jQ s)&&jA (jQ s) != 0 then some (Cp (kI s) (jA (ue s))*((jA (jQ s):Nat):Rat)⁻¹) else none
def jN (s:List UInt8):Rat×Int :=
 if 4000<s.length then (0,5) else
 match uq s with
 |none=>(0,4)
 |some r=>if zd r=s then (r,0) else (0,4)
theorem coF {s:List UInt8}(h:(jN s).2=0):zd (jN s).1=s:=by
 unfold jN at *;by_cases hl:4000<s.length
 ·rw[cq hl] at h;cases h
 ·rw[cg hl] at h ⊢;cases hp:uq s with
  |none=>rw[hp] at h;cases h
  |some r =>
   rw[hp] at h;by_cases hq:zd r=s
   ·simp [hq]
   ·simp [hq] at h
theorem cmg {s:List UInt8}(h:(jN s).2≠0):(jN s).1=0:=by
 unfold jN at *;by_cases hl:4000<s.length
 ·rw[cq hl]
 ·rw[cg hl] at h ⊢;cases hp:uq s with
  |none=>rfl
  |some r =>
   rw[hp] at h;by_cases hq:zd r=s
   ·simp [hq] at h
   ·simp [hq]
theorem cgF (n:Nat):n<10^(cU n).length:=by
 have:=WD (cU n) (cms n)
 rwa [ckb] at this
theorem cjH (r:Rat) {L:Nat}(h:(zd r).length<=L) (h1:1<=L):r.num.natAbs<10^L/\r.den<10^L:=by
 have e:(zd r).length=(if r.num<0 then [45] else ([]:List UInt8)).length+(cU r.num.natAbs).length+(if r.den=1 then [] else 47::cU r.den).length:=by
  unfold zd;rw[kR,kR]
 refine⟨cF (cgF _) (ke (by omega) (by omega)),?_⟩;by_cases hd:r.den=1
 ·rw[hd];exact cF (by decide:1<10^1) (ke (by omega) h1)
 ·rw[cg hd,kK] at e;exact cF (cgF _) (ke (by omega) (by omega))
theorem ciE (s:List UInt8) {L:Nat}(h:s.length<=L) (h1:1<=L):(jN s).1.num.natAbs<10^L/\(jN s).1.den<10^L:=by
 by_cases hk:(jN s).2=0
 ·have:=coF hk;exact cjH _ (by rw[this];exact h) h1
 ·rw[cmg hk];have:1<10^L:=cF (by decide:1<10^1) (ke (by omega) h1);exact⟨by simp;omega,by simp;omega⟩
end Go.Proofs.YtclihnehnkijgaaGreatDoor.Lim
