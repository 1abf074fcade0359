/- Part 14. -/
import Derived.Test.YtgdnkbajagfijaaGreatDoorD1
set_option linter.all false

namespace Go.Proofs.YtgdnkbajagfijaaGreatDoor.Lim
def digs (n:Nat):List Nat:=if n=0 then [] else n%10::digs (n/10)
 termination_by n
 decreasing_by omega
theorem digs_zero:digs 0=[]:=by rw[digs];simp
theorem digs_pos {n:Nat}(h:n≠0):digs n=n%10::digs (n/10):=by rw[digs,cg h]
def Gg (d:Nat):UInt8:=UInt8.ofNat (48+d)
def cV (n:Nat):List UInt8:=if n=0 then [48] else ((digs n).map Gg).reverse
def jt (l:List UInt8):Nat:=l.foldl (fun a c=>10*a+(c.toNat-48)) 0
def kP (c:UInt8):Bool:=48<=c.toNat&&c.toNat<=57
theorem Jo {d:Nat}(h:d<10):(Gg d).toNat=48+d:=by
 unfold Gg;rw[UInt8.toNat_ofNat'];omega
theorem Gk (n:Nat):∀ d∈digs n,d<10:=by
 induction n using Nat.strongRecOn with
 |ind n ih =>
  by_cases h:n=0
  ·subst h;rw[digs_zero];intro d hd;cases hd
  ·rw[digs_pos h];intro d hd;rcases List.mem_cons.1 hd with rfl|hd
   ·omega
   ·exact ih (n/10) (by omega) d hd
theorem cdZ (l:List UInt8) (c:UInt8):jt (l++[c])=10*jt l+(c.toNat-48):=by
 unfold jt;rw[List.foldl_append];rfl
theorem chI:jt []=0:=rfl
theorem UW (l m:List UInt8):jt (l++m)=10^m.length*jt l+jt m:=by
 have h:∀ (m:List UInt8) (a:Nat),m.foldl (fun a c=>10*a+(c.toNat-48)) a=10^m.length*a+m.foldl (fun a c=>10*a+(c.toNat-48)) 0:=by
  intro m
  induction m with
  |nil=>intro a;simp
  |cons c m ih =>
   intro a;simp only[List.foldl_cons,uI];rw[ih,ih (10*0+(c.toNat-48)),ji];grind
 unfold jt;rw[List.foldl_append,h]
theorem cnx (n:Nat):jt ((digs n).map Gg).reverse=n:=by
 induction n using Nat.strongRecOn with
 |ind n ih =>
  by_cases h:n=0
  ·subst h;rw[digs_zero];rfl
  ·rw[digs_pos h,jN,List.reverse_cons,cdZ,ih (n/10) (by omega),Jo (by omega)];omega
theorem cjf (n:Nat):jt (cV n)=n:=by
 unfold cV;split
 ·rename_i h;subst h;rfl
 ·exact cnx n
theorem chY {d:Nat}(h:d<10):kP (Gg d)=true:=by
 unfold kP;rw[Jo h];simp;omega
theorem cmL (n:Nat):∀ c∈cV n,kP c=true:=by
 unfold cV;split
 ·intro c hc;simp at hc;subst hc;decide
 ·intro c hc;rw[List.mem_reverse,List.mem_map] at hc;obtain⟨d,hd,rfl⟩:=hc;exact chY (Gk n d hd)
theorem digs_len {n j : Nat} (h : n < 10 ^ j) : (digs n).length ≤ j := by
  induction j generalizing n with
  | zero => have : n = 0 := by simpa using h
            subst this; rw [digs_zero]; simp
  | succ j ih =>
    by_cases h0 : n = 0
    · subst h0; rw [digs_zero]; simp
    · rw [digs_pos h0, uI]
      have := ih (n := n / 10) (by rw [Nat.div_lt_iff_lt_mul (by omega)]; rw [ji] at h; exact h)
      omega
theorem Wy (l:List UInt8) (h:∀ c∈l,kP c=true):jt l<10^l.length:=by
 induction l with
 |nil=>decide
 |cons c l ih =>
  have h1:=ih (fun x hx=>h x (by simp [hx]));have h2:=h c (by simp);unfold kP at h2;simp at h2;have h3:=UW [c] l;rw[show jt [c]=c.toNat-48 from by simp [jt]] at h3;rw[show c::l=[c]++l from rfl,h3,kC,kJ,je (10^[c].length)];have h4:10^l.length*(c.toNat-48+1)<=10^l.length*10^[c].length:=jr _ (by simp;omega);rw[cK] at h4;omega
def zg (r:Rat):List UInt8:=(if r.num<0 then [45] else [])++cV r.num.natAbs++(if r.den=1 then [] else 47::cV r.den)
def kE (s:List UInt8):Bool:=s.head? == some 45
def uy (s:List UInt8):List UInt8:=if kE s then s.tail else s
def uM (l:List UInt8):Bool:=!l.isEmpty&&l.all kP
def uf (s:List UInt8):List UInt8:=(uy s).takeWhile (· != 47)
def jL (s:List UInt8):List UInt8:=if ((uy s).dropWhile (· != 47)).isEmpty then [49] else ((uy s).dropWhile (· != 47)).tail
def Cs (neg:Bool) (n:Nat):Rat:=if neg then -(n:Rat) else (n:Rat)
def uw (s:List UInt8):Option Rat :=
 if uM (uf s)&&uM (jL s)&&jt (jL s) != 0 then some (Cs (kE s) (jt (uf s))*((jt (jL s):Nat):Rat)⁻¹) else none
def kq (s:List UInt8):Rat×Int :=
 if 4000<s.length then (0,5) else
 match uw s with
 |none=>(0,4)
 |some r=>if zg r=s then (r,0) else (0,4)
theorem col {s:List UInt8}(h:(kq s).2=0):zg (kq s).1=s:=by
 unfold kq at *;by_cases hl:4000<s.length
 ·rw[co hl] at h;cases h
 ·rw[cg hl] at h ⊢;cases hp:uw s with
  |none=>rw[hp] at h;cases h
  |some r =>
   rw[hp] at h;by_cases hq:zg r=s
   ·simp [hq]
   ·simp [hq] at h
theorem cmn {s:List UInt8}(h:(kq s).2≠0):(kq s).1=0:=by
 unfold kq at *;by_cases hl:4000<s.length
 ·rw[co hl]
 ·rw[cg hl] at h ⊢;cases hp:uw s with
  |none=>rfl
  |some r =>
   rw[hp] at h;by_cases hq:zg r=s
   ·simp [hq] at h
   ·simp [hq]
theorem cib (n:Nat):n<10^(cV n).length:=by
 have:=Wy (cV n) (cmL n)
 rwa [cjf] at this
theorem ckh (r:Rat) {L:Nat}(h:(zg r).length<=L) (h1:1<=L):r.num.natAbs<10^L/\r.den<10^L:=by
 have e:(zg r).length=(if r.num<0 then [45] else ([]:List UInt8)).length+(cV r.num.natAbs).length+(if r.den=1 then [] else 47::cV r.den).length:=by
  unfold zg;rw[kC,kC]
 refine⟨cE (cib _) (jW (by omega) (by omega)),?_⟩;by_cases hd:r.den=1
 ·rw[hd];exact cE (by decide:1<10^1) (jW (by omega) h1)
 ·rw[cg hd,uI] at e;exact cE (cib _) (jW (by omega) (by omega))
theorem cjB (s:List UInt8) {L:Nat}(h:s.length<=L) (h1:1<=L):(kq s).1.num.natAbs<10^L/\(kq s).1.den<10^L:=by
 by_cases hk:(kq s).2=0
 ·have:=col hk;exact ckh _ (by rw[this];exact h) h1
 ·rw[cmn hk];have:1<10^L:=cE (by decide:1<10^1) (jW (by omega) h1);exact⟨by simp;omega,by simp;omega⟩
end Go.Proofs.YtgdnkbajagfijaaGreatDoor.Lim
