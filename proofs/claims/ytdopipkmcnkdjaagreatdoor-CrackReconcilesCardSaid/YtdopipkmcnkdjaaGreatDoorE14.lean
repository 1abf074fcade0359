/- Part 14. -/
import Derived.Test.YtdopipkmcnkdjaaGreatDoorE1
set_option linter.all false

namespace Go.Proofs.YtdopipkmcnkdjaaGreatDoor.Lim
def digs (n:Nat):List Nat:=if n=0 then [] else n%10::digs (n/10)
 termination_by n
 decreasing_by omega
theorem digs_zero:digs 0=[]:=by rw[digs];simp
theorem digs_pos {n:Nat}(h:n≠0):digs n=n%10::digs (n/10):=by rw[digs,cg h]
def Gl (d:Nat):UInt8:=UInt8.ofNat (48+d)
def cS (n:Nat):List UInt8:=if n=0 then [48] else ((digs n).map Gl).reverse
def jB (l:List UInt8):Nat:=l.foldl (fun a c=>10*a+(c.toNat-48)) 0
def kT (c:UInt8):Bool:=48<=c.toNat&&c.toNat<=57
theorem Jw {d:Nat}(h:d<10):(Gl d).toNat=48+d:=by
 unfold Gl;rw[UInt8.toNat_ofNat'];omega
theorem Gv (n:Nat):∀ d∈digs n,d<10:=by
 induction n using Nat.strongRecOn with
 |ind n ih =>
  by_cases h:n=0
  ·subst h;rw[digs_zero];intro d hd;cases hd
  ·rw[digs_pos h];intro d hd;rcases List.mem_cons.1 hd with rfl|hd
   ·omega
   ·exact ih (n/10) (by omega) d hd
theorem ces (l:List UInt8) (c:UInt8):jB (l++[c])=10*jB l+(c.toNat-48):=by
 unfold jB;rw[List.foldl_append];rfl
theorem chK:jB []=0:=rfl
theorem Ux (l m:List UInt8):jB (l++m)=10^m.length*jB l+jB m:=by
 have h:∀ (m:List UInt8) (a:Nat),m.foldl (fun a c=>10*a+(c.toNat-48)) a=10^m.length*a+m.foldl (fun a c=>10*a+(c.toNat-48)) 0:=by
  intro m
  induction m with
  |nil=>intro a;simp
  |cons c m ih =>
   intro a;simp only[List.foldl_cons,uP];rw[ih,ih (10*0+(c.toNat-48)),ji];grind
 unfold jB;rw[List.foldl_append,h]
theorem cnx (n:Nat):jB ((digs n).map Gl).reverse=n:=by
 induction n using Nat.strongRecOn with
 |ind n ih =>
  by_cases h:n=0
  ·subst h;rw[digs_zero];rfl
  ·rw[digs_pos h,jR,List.reverse_cons,ces,ih (n/10) (by omega),Jw (by omega)];omega
theorem Yz (n:Nat):jB (cS n)=n:=by
 unfold cS;split
 ·rename_i h;subst h;rfl
 ·exact cnx n
theorem cem {m n:Nat}(h:cS m=cS n):m=n:=by rw[← Yz m,h,Yz]
theorem cgL {d:Nat}(h:d<10):kT (Gl d)=true:=by
 unfold kT;rw[Jw h];simp;omega
theorem WV (n:Nat):∀ c∈cS n,kT c=true:=by
 unfold cS;split
 ·intro c hc;simp at hc;subst hc;decide
 ·intro c hc;rw[List.mem_reverse,List.mem_map] at hc;obtain⟨d,hd,rfl⟩:=hc;exact cgL (Gv n d hd)
theorem cpf (n:Nat):cS n≠[]:=by
 unfold cS;split
 ·simp
 ·rename_i h;rw[digs_pos h];simp
theorem digs_len {n j : Nat} (h : n < 10 ^ j) : (digs n).length ≤ j := by
  induction j generalizing n with
  | zero => have : n = 0 := by simpa using h
            subst this; rw [digs_zero]; simp
  | succ j ih =>
    by_cases h0 : n = 0
    · subst h0; rw [digs_zero]; simp
    · rw [digs_pos h0, uP]
      have := ih (n := n / 10) (by rw [Nat.div_lt_iff_lt_mul (by omega)]; rw [ji] at h; exact h)
      omega
theorem Wr (l:List UInt8) (h:∀ c∈l,kT c=true):jB l<10^l.length:=by
 induction l with
 |nil=>decide
 |cons c l ih =>
  have h1:=ih (fun x hx=>h x (by simp [hx]));have h2:=h c (by simp);unfold kT at h2;simp at h2;have h3:=Ux [c] l;rw[show jB [c]=c.toNat-48 from by simp [jB]] at h3;rw[show c::l=[c]++l from rfl,h3,kI,kP,jf (10^[c].length)];have h4:10^l.length*(c.toNat-48+1)<=10^l.length*10^[c].length:=jz _ (by simp;omega);rw[cP] at h4;omega
def ul (r:Rat):List UInt8:=(if r.num<0 then [45] else [])++cS r.num.natAbs++(if r.den=1 then [] else 47::cS r.den)
def kK (s:List UInt8):Bool:=s.head? == some 45
def uz (s:List UInt8):List UInt8:=if kK s then s.tail else s
def uR (l:List UInt8):Bool:=!l.isEmpty&&l.all kT
def uj (s:List UInt8):List UInt8:=(uz s).takeWhile (· != 47)
def jM (s:List UInt8):List UInt8:=if ((uz s).dropWhile (· != 47)).isEmpty then [49] else ((uz s).dropWhile (· != 47)).tail
def CA (neg:Bool) (n:Nat):Rat:=if neg then -(n:Rat) else (n:Rat)
def uF (s:List UInt8):Option Rat :=
 if uR (uj s)&&uR (jM s)&&jB (jM s) != 0 then some (CA (kK s) (jB (uj s))*((jB (jM s):Nat):Rat)⁻¹) else none
def kG (s:List UInt8):Rat×Int :=
 if 4000<s.length then (0,5) else
 match uF s with
 |none=>(0,4)
 |some r=>if ul r=s then (r,0) else (0,4)
theorem cnN {s:List UInt8}(h:(kG s).2=0):ul (kG s).1=s:=by
 unfold kG at *;by_cases hl:4000<s.length
 ·rw[co hl] at h;cases h
 ·rw[cg hl] at h ⊢;cases hp:uF s with
  |none=>rw[hp] at h;cases h
  |some r =>
   rw[hp] at h;by_cases hq:ul r=s
   ·simp [hq]
   ·simp [hq] at h
theorem cmT {s:List UInt8}(h:(kG s).2≠0):(kG s).1=0:=by
 unfold kG at *;by_cases hl:4000<s.length
 ·rw[co hl]
 ·rw[cg hl] at h ⊢;cases hp:uF s with
  |none=>rfl
  |some r =>
   rw[hp] at h;by_cases hq:ul r=s
   ·simp [hq] at h
   ·simp [hq]
theorem cij (n:Nat):n<10^(cS n).length:=by
 have:=Wr (cS n) (WV n)
 rwa [Yz] at this
theorem cjq (r:Rat) {L:Nat}(h:(ul r).length<=L) (h1:1<=L):r.num.natAbs<10^L/\r.den<10^L:=by
 have e:(ul r).length=(if r.num<0 then [45] else ([]:List UInt8)).length+(cS r.num.natAbs).length+(if r.den=1 then [] else 47::cS r.den).length:=by
  unfold ul;rw[kI,kI]
 refine⟨cI (cij _) (jY (by omega) (by omega)),?_⟩;by_cases hd:r.den=1
 ·rw[hd];exact cI (by decide:1<10^1) (jY (by omega) h1)
 ·rw[cg hd,uP] at e;exact cI (cij _) (jY (by omega) (by omega))
theorem cjC (s:List UInt8) {L:Nat}(h:s.length<=L) (h1:1<=L):(kG s).1.num.natAbs<10^L/\(kG s).1.den<10^L:=by
 by_cases hk:(kG s).2=0
 ·have:=cnN hk;exact cjq _ (by rw[this];exact h) h1
 ·rw[cmT hk];have:1<10^L:=cI (by decide:1<10^1) (jY (by omega) h1);exact⟨by simp;omega,by simp;omega⟩
end Go.Proofs.YtdopipkmcnkdjaaGreatDoor.Lim
