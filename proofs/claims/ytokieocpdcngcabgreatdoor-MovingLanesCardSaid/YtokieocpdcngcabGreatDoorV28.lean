/- Part 28. -/
import Derived.Test.YtokieocpdcngcabGreatDoorV27
set_option linter.all false
open List (mem_cons)
open Nat (add_sub_cancel beq_refl eq_zero_or_pos le_refl lt_of_lt_of_le lt_or_ge lt_succ_self not_lt_zero pow_le_pow_right pow_succ zero_le)
noncomputable section

namespace Go.Proofs.YtokieocpdcngcabGreatDoor
open Go Go.RowKit Go.Proofs Lim
open Go Go.RowKit Go.Proofs Lim
open Go Go.RowKit Go.Proofs Lim
open Go Go.RowKit Go.Proofs Lim
theorem ym (r:Rat) (rs:List Rat):jz r rs<=r:=by
 induction rs generalizing r with
 |nil=>exact Rat.le_refl
 |cons x rs ih =>
  show jz (if x<r then x else r) rs<=r;refine Rat.le_trans (ih _) ?_;split
  ·rename_i h;exact Rat.le_of_lt h
  ·exact Rat.le_refl
theorem cbX {r:Rat}{rs:List Rat}{x:Rat}(h:x∈rs):jz r rs<=x:=by
 induction rs generalizing r with
 |nil=>cases h
 |cons y rs ih =>
  show jz (if y<r then y else r) rs<=x;rcases List.mem_cons.1 h with rfl|h
  ·refine Rat.le_trans (ym _ _) ?_;split
   ·exact Rat.le_refl
   ·rename_i h;exact Rat.not_lt.1 h
  ·exact ih h
theorem CA (r:Rat) (rs:List Rat):r<=cT r rs:=by
 induction rs generalizing r with
 |nil=>exact Rat.le_refl
 |cons x rs ih =>
  show r<=cT (if r<x then x else r) rs;refine Rat.le_trans ?_ (ih _);split
  ·rename_i h;exact Rat.le_of_lt h
  ·exact Rat.le_refl
theorem El {r:Rat}{rs:List Rat}{x:Rat}(h:x∈rs):x<=cT r rs:=by
 induction rs generalizing r with
 |nil=>cases h
 |cons y rs ih =>
  show x<=cT (if r<y then y else r) rs;rcases List.mem_cons.1 h with rfl|h
  ·refine Rat.le_trans ?_ (CA _ _);split
   ·exact Rat.le_refl
   ·rename_i h;exact Rat.not_lt.1 h
  ·exact ih h
def Btw (a b x:Rat):Prop:=(a<=x/\x<=b)\/(b<=x/\x<=a)
theorem Btw.right (a b:Rat):Btw a b b:=by
 rcases (Rat.le_total:a<=b\/b<=a) with h|h
 ·exact .inl ⟨h,Rat.le_refl⟩
 ·exact .inr ⟨Rat.le_refl,h⟩
namespace Pe
section
variable {xs ys F:List Rat}
theorem GB (i:Nat):(spn xs ys F (i+1)).1<=(spn xs ys F i).1/\(spn xs ys F i).2<=(spn xs ys F (i+1)).2/\
 (spn xs ys F (i+1)).1<=pre xs (i+1)*F.getD i default/\pre ys (i+1)*F.getD i default<=(spn xs ys F (i+1)).2:=by
 refine⟨ym _ _,?_,?_,?_⟩
 ·exact El (by simp)
 ·exact Rat.le_trans (cbX (x:=jz (pre xs (i+1)*F.getD i default) [pre ys (i+1)*F.getD i default]) (by simp)) (ym _ _)
 ·exact Rat.le_trans (El (List.mem_singleton.2 rfl)) (El (x:=cT (pre xs (i+1)*F.getD i default) [pre ys (i+1)*F.getD i default]) (by simp))
theorem ccw:∀ {n i:Nat},i<=n->(spn xs ys F n).1<=(spn xs ys F i).1/\(spn xs ys F i).2<=(spn xs ys F n).2
 |0,i,h=>by rw[Nat.le_zero.1 h];exact⟨Rat.le_refl,Rat.le_refl⟩
 |n+1,i,h=>by
  rcases Nat.le_or_eq_of_le_succ h with h1|rfl
  ·obtain⟨p,q⟩:=ccw (n:=n) h1;obtain⟨r,s,_⟩:=GB (xs:=xs) (ys:=ys) (F:=F) n;exact⟨Rat.le_trans r p,Rat.le_trans q s⟩
  ·exact⟨Rat.le_refl,Rat.le_refl⟩
theorem Uo {n:Nat}:(spn xs ys F n).1<=0/\0<=(spn xs ys F n).2:=ccw (i:=0) (zero_le _)
end
theorem Zz {b:Nat->Bool}{f g:Nat->Rat}:∀ {n:Nat},(∀ i,i<n->f i<=g i)->jb b f n<=jb b g n
 |0,_=>Rat.le_refl
 |n+1,h=>by
  have ih:=Zz (b:=b) (f:=f) (g:=g) (n:=n) (fun i hi=>h i (by omega));unfold jb;split
  ·exact Rat.le_trans ((Rat.add_le_add_right).2 ih) ((Rat.add_le_add_left).2 (h n (by omega)))
  ·exact ih
end Pe
namespace Pe
theorem swB_swB {b:Nat->Bool}{j:Nat}(h0:0<j) (i:Nat):swB (swB b j) j i=b i:=by
 obtain⟨m,rfl⟩:∃ m,j=m+1:=⟨j-1,by omega⟩;have e0:swB b (m+1) (m+1)=b m:=by unfold swB;rw[add_sub_cancel,yw (by omega),beq_refl]
 have e1:swB b (m+1) m=b (m+1):=by unfold swB;rw[add_sub_cancel,beq_refl]
 by_cases h1:i=m
 ·subst h1;show (match Nat.beq i (i+1-1) with|true=>swB b (i+1) (i+1)|false=>_)=_;rw[add_sub_cancel,beq_refl,e0]
 ·by_cases h2:i=m+1
  ·subst h2;show (match Nat.beq (m+1) (m+1-1) with|true=>_|false=>match Nat.beq (m+1) (m+1) with|true=>swB b (m+1) (m+1-1)|false=>_)=_;rw[add_sub_cancel,yw (by omega),beq_refl,e1]
  ·show (match Nat.beq i (m+1-1) with|true=>_|false=>match Nat.beq i (m+1) with|true=>_|false=>swB b (m+1) i)=_;rw[add_sub_cancel,yw h1,yw h2];show swB b (m+1) i=_;unfold swB;rw[add_sub_cancel,yw h1,yw h2]
section
variable {cv:Rat->Rat->Int}
theorem cgF:∀ {j:Nat}{xs:List Rat}{c:Nat->Bool},j<xs.length->∃ b,jb c (ge0 (bub cv j xs)) xs.length=jb b (ge0 xs) xs.length/\jo c xs.length=jo b xs.length
 |0,_,c,_=>⟨c,rfl,rfl⟩
 |j+1,xs,c,hj=>by
  unfold bub;split
  ·obtain⟨d,e3,e4⟩:=cgF (j:=j) (xs:=swp xs (j+1)) (c:=c) (by rw[CY];omega);rw[CY] at e3 e4;obtain⟨e1,e2⟩:=cgo (b:=swB d (j+1)) (xs:=xs) (j:=j+1) (Nat.succ_pos _) hj xs.length hj;obtain⟨f1,f2⟩:=yO (b:=swB (swB d (j+1)) (j+1)) (c:=d) (f:=ge0 (swp xs (j+1))) (g:=ge0 (swp xs (j+1))) (n:=xs.length) (fun i _=>⟨swB_swB (Nat.succ_pos _) i,rfl⟩);exact⟨swB d (j+1),by rw[e3,← f1,e1],by rw[e4,← f2,e2]⟩
  ·exact⟨c,rfl,rfl⟩
theorem cgi {xs:List Rat}{c:Nat->Bool}:∀ {m:Nat},m<=xs.length->∃ b,jb c (ge0 (srt cv xs m)) xs.length=jb b (ge0 xs) xs.length/\jo c xs.length=jo b xs.length
 |0,_=>⟨c,rfl,rfl⟩
 |m+1,h=>by
  obtain⟨d,e3,e4⟩:=cgF (cv:=cv) (j:=m) (xs:=srt cv xs m) (c:=c) (by rw[zK];omega);rw[zK] at e3 e4;obtain⟨b,e1,e2⟩:=cgi (xs:=xs) (c:=d) (m:=m) (by omega);exact⟨b,e3.trans e1,e4.trans e2⟩
theorem ccF {xs:List Rat}{m:Nat}:∀ {n:Nat},m<=n->jb (fun i=>decide (i<m)) (ge0 xs) n=pre xs m/\jo (fun i=>decide (i<m)) n=m
 |0,h=>by rw[Nat.le_zero.1 h];exact⟨rfl,rfl⟩
 |n+1,h=>by
  rcases Nat.le_or_eq_of_le_succ h with h1|rfl
  ·obtain⟨e1,e2⟩:=ccF (xs:=xs) (m:=m) (n:=n) h1;have hd:decide (n<m)=false:=decide_eq_false (by omega);unfold jb jo;simp only[hd,e1,e2];exact⟨trivial,trivial⟩
  ·have hd:decide (n<n+1)=true:=decide_eq_true (lt_succ_self n);obtain⟨e1,e2⟩:=ccF (xs:=xs) (m:=n) (n:=n) (le_refl _);obtain⟨f1,f2⟩:=yO (b:=fun i=>decide (i<n+1)) (c:=fun i=>decide (i<n)) (f:=ge0 xs) (g:=ge0 xs) (n:=n) (fun i hi=>⟨by rw[decide_eq_true (show i<n+1 by omega),decide_eq_true hi],rfl⟩);unfold jb jo;simp only[hd,f1,f2,e1,e2];exact⟨rfl,trivial⟩
theorem UI {xs:List Rat}{m:Nat}(h:m<=xs.length):∃ b,pre (srt cv xs xs.length) m=jb b (ge0 xs) xs.length/\jo b xs.length=m:=by
 obtain⟨e1,e2⟩:=ccF (xs:=srt cv xs xs.length) (m:=m) (n:=xs.length) h;obtain⟨b,f1,f2⟩:=cgi (cv:=cv) (xs:=xs) (c:=fun i=>decide (i<m)) (m:=xs.length) (le_refl _);exact⟨b,by rw[← e1,f1],by rw[← f2,e2]⟩
end
end Pe
namespace Pe
section
variable {xs ys F:List Rat}
theorem chq:∀ {i:Nat},(spn xs ys F i).1<=(spn xs ys F i).2:=fun {_}=>Rat.le_trans Uo.1 Uo.2
theorem cgu {n:Nat}(hF:∀ i,i<n->0<=F.getD i default) (hp:∀ i,i<=n->pre xs i<=pre ys i):∀ {i:Nat},i<=n->(spn xs ys F i).1=0\/∃ m,m<i/\(spn xs ys F i).1=pre xs (m+1)*F.getD m default
 |0,_=>.inl rfl
 |i+1,h=>by
  have ih:=cgu hF hp (i:=i) (by omega);have hle:pre xs (i+1)*F.getD i default<=pre ys (i+1)*F.getD i default:=Rat.mul_le_mul_of_nonneg_right (hp _ h) (hF i (by omega));have hnx:=GB (xs:=xs) (ys:=ys) (F:=F) i;have ho:=chq (xs:=xs) (ys:=ys) (F:=F) (i:=i);have keep:(spn xs ys F (i+1)).1=(spn xs ys F i).1->(spn xs ys F (i+1)).1=0\/∃ m,m<i+1/\(spn xs ys F (i+1)).1=pre xs (m+1)*F.getD m default:=fun e=>by
   rcases ih with e1|⟨m,hm,e1⟩
   ·exact .inl (e.trans e1)
   ·exact .inr ⟨m,by omega,e.trans e1⟩
  have prod:∀ {v:Rat},v=pre xs (i+1)*F.getD i default\/v=pre ys (i+1)*F.getD i default->(spn xs ys F (i+1)).1=v->(spn xs ys F (i+1)).1=0\/∃ m,m<i+1/\(spn xs ys F (i+1)).1=pre xs (m+1)*F.getD m default:=fun {v} hv e=>by
   refine .inr ⟨i,lt_succ_self i,Rat.le_antisymm hnx.2.2.1 ?_⟩;rcases hv with rfl|rfl
   ·rw[e];exact Rat.le_refl
   ·rw[e];exact hle
  have two:∀ {p q v:Rat},v=jz p [q]\/v=cT p [q]->v=p\/v=q:=fun {p q v} hv=>by
   rcases hv with e|e
   ·rcases Ex p [q] with h1|h1
    ·exact .inl (e.trans h1)
    ·exact .inr (e.trans (List.mem_singleton.1 h1))
   ·rcases CP p [q] with h1|h1
    ·exact .inl (e.trans h1)
    ·exact .inr (e.trans (List.mem_singleton.1 h1))
  rcases Ex (spn xs ys F i).1 [(spn xs ys F i).2,jz (pre xs (i+1)*F.getD i default) [pre ys (i+1)*F.getD i default],cT (pre xs (i+1)*F.getD i default) [pre ys (i+1)*F.getD i default]] with e|e
  ·exact keep e
  ·simp only[mem_cons,List.not_mem_nil,or_false] at e;rcases e with e|e|e
   ·exact keep (Rat.le_antisymm hnx.1 (by rw[show (spn xs ys F (i+1)).1=(spn xs ys F i).2 from e];exact ho))
   ·exact prod (two (.inl rfl)) e
   ·exact prod (two (.inr rfl)) e
theorem ceb {n:Nat}(hF:∀ i,i<n->0<=F.getD i default) (hp:∀ i,i<=n->pre xs i<=pre ys i):∀ {i:Nat},i<=n->(spn xs ys F i).2=0\/∃ m,m<i/\(spn xs ys F i).2=pre ys (m+1)*F.getD m default
 |0,_=>.inl rfl
 |i+1,h=>by
  have ih:=ceb hF hp (i:=i) (by omega);have hle:pre xs (i+1)*F.getD i default<=pre ys (i+1)*F.getD i default:=Rat.mul_le_mul_of_nonneg_right (hp _ h) (hF i (by omega));have hnx:=GB (xs:=xs) (ys:=ys) (F:=F) i;have ho:=chq (xs:=xs) (ys:=ys) (F:=F) (i:=i);have keep:(spn xs ys F (i+1)).2=(spn xs ys F i).2->(spn xs ys F (i+1)).2=0\/∃ m,m<i+1/\(spn xs ys F (i+1)).2=pre ys (m+1)*F.getD m default:=fun e=>by
   rcases ih with e1|⟨m,hm,e1⟩
   ·exact .inl (e.trans e1)
   ·exact .inr ⟨m,by omega,e.trans e1⟩
  have prod:∀ {v:Rat},v=pre xs (i+1)*F.getD i default\/v=pre ys (i+1)*F.getD i default->(spn xs ys F (i+1)).2=v->(spn xs ys F (i+1)).2=0\/∃ m,m<i+1/\(spn xs ys F (i+1)).2=pre ys (m+1)*F.getD m default:=fun {v} hv e=>by
   refine .inr ⟨i,lt_succ_self i,Rat.le_antisymm ?_ hnx.2.2.2⟩;rcases hv with rfl|rfl
   ·rw[e];exact hle
   ·rw[e];exact Rat.le_refl
  have two:∀ {p q v:Rat},v=jz p [q]\/v=cT p [q]->v=p\/v=q:=fun {p q v} hv=>by
   rcases hv with e|e
   ·rcases Ex p [q] with h1|h1
    ·exact .inl (e.trans h1)
    ·exact .inr (e.trans (List.mem_singleton.1 h1))
   ·rcases CP p [q] with h1|h1
    ·exact .inl (e.trans h1)
    ·exact .inr (e.trans (List.mem_singleton.1 h1))
  rcases CP (spn xs ys F i).1 [(spn xs ys F i).2,jz (pre xs (i+1)*F.getD i default) [pre ys (i+1)*F.getD i default],cT (pre xs (i+1)*F.getD i default) [pre ys (i+1)*F.getD i default]] with e|e
  ·exact keep (Rat.le_antisymm (by rw[show (spn xs ys F (i+1)).2=(spn xs ys F i).1 from e];exact ho) hnx.2.1)
  ·simp only[mem_cons,List.not_mem_nil,or_false] at e;rcases e with e|e|e
   ·exact keep e
   ·exact prod (two (.inl rfl)) e
   ·exact prod (two (.inr rfl)) e
end
theorem pre_le {X:List R2}{m:Nat}(h:m<=X.length):pre (lsX X) m<=pre (hsX X) m:=by
 obtain⟨b,e1,e2⟩:=UI (cv:=jn) (xs:=los X) (m:=m) (by rw[Ec];exact h);have h2:=cgE (xs:=his X) (b:=b);rw[Ec] at e1 e2;rw[Gp,e2] at h2;unfold lsX;rw[e1];refine Rat.le_trans (Zz fun i hi=>?_) h2;have q1:ge0 (los X) i=jz (X.getD i default).1 [(X.getD i default).2]:=Jd hi;have q2:ge0 (his X) i=cT (X.getD i default).1 [(X.getD i default).2]:=Jd hi;rw[q1,q2];exact Rat.le_trans (ym _ _) (CA _ _)
theorem cdN {X:List R2}{F:List Rat}(hF:∀ i,i<X.length->0<=F.getD i default) :
 (∀ b m,jo b X.length=m+1->(spn (lsX X) (hsX X) F X.length).1<=jb b (ge0 (los X)) X.length*F.getD m default)/\
 ((spn (lsX X) (hsX X) F X.length).1=0\/∃ b m,jo b X.length=m+1/\(spn (lsX X) (hsX X) F X.length).1=jb b (ge0 (los X)) X.length*F.getD m default):=by
 refine⟨fun b m hc=>?_,?_⟩
 ·have hcl:=KI (b:=b) (n:=X.length);have h1:=cjm (xs:=los X) (b:=b);rw[Ec,hc] at h1;have h2:=ccw (xs:=lsX X) (ys:=hsX X) (F:=F) (n:=X.length) (i:=m+1) (by omega);have h3:=GB (xs:=lsX X) (ys:=hsX X) (F:=F) m;exact Rat.le_trans h2.1 (Rat.le_trans h3.2.2.1 (Rat.mul_le_mul_of_nonneg_right h1 (hF m (by omega))))
 ·rcases cgu (xs:=lsX X) (ys:=hsX X) (F:=F) (n:=X.length) hF (fun i hi=>pre_le hi) (le_refl _) with e|⟨m,hm,e⟩
  ·exact .inl e
  ·obtain⟨b,e1,e2⟩:=UI (cv:=jn) (xs:=los X) (m:=m+1) (by rw[Ec];exact hm);rw[Ec] at e1 e2;exact .inr ⟨b,m,e2,by rw[e];unfold lsX;rw[e1]⟩
theorem ceH {X:List R2}{F:List Rat}(hF:∀ i,i<X.length->0<=F.getD i default) :
 (∀ b m,jo b X.length=m+1->jb b (ge0 (his X)) X.length*F.getD m default<=(spn (lsX X) (hsX X) F X.length).2)/\
 ((spn (lsX X) (hsX X) F X.length).2=0\/∃ b m,jo b X.length=m+1/\(spn (lsX X) (hsX X) F X.length).2=jb b (ge0 (his X)) X.length*F.getD m default):=by
 refine⟨fun b m hc=>?_,?_⟩
 ·have hcl:=KI (b:=b) (n:=X.length);have h1:=cgE (xs:=his X) (b:=b);rw[Gp,hc] at h1;have h2:=ccw (xs:=lsX X) (ys:=hsX X) (F:=F) (n:=X.length) (i:=m+1) (by omega);have h3:=GB (xs:=lsX X) (ys:=hsX X) (F:=F) m;exact Rat.le_trans (Rat.mul_le_mul_of_nonneg_right h1 (hF m (by omega))) (Rat.le_trans h3.2.2.2 h2.2)
 ·rcases ceb (xs:=lsX X) (ys:=hsX X) (F:=F) (n:=X.length) hF (fun i hi=>pre_le hi) (le_refl _) with e|⟨m,hm,e⟩
  ·exact .inl e
  ·obtain⟨b,e1,e2⟩:=UI (cv:=uG) (xs:=his X) (m:=m+1) (by rw[Gp];exact hm);rw[Gp] at e1 e2;exact .inr ⟨b,m,e2,by rw[e];unfold hsX;rw[e1]⟩
end Pe
namespace Pe
abbrev jw (t i:Nat):Bool:=decide ((Int.ofNat (t/2^i%2):Int)=1)
theorem EN (t i:Nat):jw t i=t.testBit i:=by
 rw[Nat.testBit_eq_decide_div_mod_eq];by_cases h:t/2^i%2=1
 ·rw[decide_eq_true h];exact decide_eq_true (by rw[h];rfl)
 ·rw[decide_eq_false h];exact decide_eq_false (fun e=>h (by have e:((t/2^i%2:Nat):Int)=1:=e;omega))
theorem set_of (b:Nat->Bool):∀ n,∃ t,t<2^n/\∀ i,i<n->jw t i=b i
 |0=>⟨0,by decide,fun i h=>absurd h (not_lt_zero _)⟩
 |n+1=>by
  obtain⟨t,ht,h⟩:=set_of b n;have hp:2^(n+1)=2^n+2^n:=by rw[pow_succ];omega
  cases hb:b n with
  |false =>
   refine⟨t,by omega,fun i hi=>?_⟩;rcases Nat.lt_succ_iff_lt_or_eq.1 hi with h1|rfl
   ·exact h i h1
   ·rw[hb,EN,Nat.testBit_lt_two_pow ht]
  |true =>
   refine⟨2^n+t,by omega,fun i hi=>?_⟩;rcases Nat.lt_succ_iff_lt_or_eq.1 hi with h1|rfl
   ·rw[EN,Nat.testBit_two_pow_add_gt h1,← EN];exact h i h1
   ·rw[hb,EN,Nat.testBit_two_pow_add_eq,Nat.testBit_lt_two_pow ht];rfl
theorem cdn {b:Nat->Bool}:∀ {n:Nat},jo b n=0->∀ i,i<n->b i=false
 |0,_,i,h=>absurd h (not_lt_zero _)
 |n+1,hc,i,h=>by
  unfold jo at hc;split at hc
  ·cases hc
  ·rename_i hb;rcases Nat.lt_succ_iff_lt_or_eq.1 h with h1|rfl
   ·exact cdn hc i h1
   ·exact hb
theorem cdW {b:Nat->Bool}:∀ {n:Nat},(∀ i,i<n->b i=false)->jo b n=0
 |0,_=>rfl
 |n+1,h=>by
  unfold jo;rw[h n (lt_succ_self n)];exact cdW fun i hi=>h i (by omega)
theorem ccJ {n t:Nat}(h0:1<=t) (h:t<2^n):1<=jo (jw t) n:=by
 rcases eq_zero_or_pos (jo (jw t) n) with hc|hc
 ·exfalso;have hb:=cdn hc;have:t=0:=Nat.eq_of_testBit_eq fun i=>by
   rw[Nat.zero_testBit];rcases lt_or_ge i n with hi|hi
   ·rw[← EN];exact hb i hi
   ·exact Nat.testBit_lt_two_pow (lt_of_lt_of_le h (pow_le_pow_right (by decide) hi))
  omega
 ·exact hc
abbrev mn4 (a b:Rat):Rat:=Sym.minQ (Sym.minQ (Sym.minQ a b) a) b
abbrev mx4 (a b:Rat):Rat:=Sym.maxQ (Sym.maxQ (Sym.maxQ a b) a) b
theorem mn_le {a b:Rat}(h:a<=b):Sym.minQ a b=a:=by unfold Sym.minQ;rw[if_pos h]
theorem mn_self (a:Rat):Sym.minQ a a=a:=mn_le Rat.le_refl
theorem mx_le {a b:Rat}(h:a<=b):Sym.maxQ a b=b:=by
 unfold Sym.maxQ;split
 ·rename_i h1;exact Rat.le_antisymm h h1
 ·rfl
theorem mx_ge {a b:Rat}(h:b<=a):Sym.maxQ a b=a:=by unfold Sym.maxQ;rw[if_pos h]
theorem mn4_le {a b:Rat}(h:a<=b):mn4 a b=a:=by unfold mn4;rw[mn_le h,mn_self,mn_le h]
theorem mx4_le {a b:Rat}(h:a<=b):mx4 a b=b:=by unfold mx4;rw[mx_le h,mx_ge h,mx_le Rat.le_refl]
section
variable {A B:Nat->Rat}{F:List Rat}{n:Nat}
abbrev fcS (F:List Rat) (n t:Nat):Rat:=F.getD (jo (jw t) n-1) default
def rlo (A B:Nat->Rat) (F:List Rat) (n:Nat):Nat->Rat
 |0=>0
 |k+1=>Sym.minQ (rlo A B F n k) (mn4 (fcS F n (k+1)*jb (jw (k+1)) A n) (fcS F n (k+1)*jb (jw (k+1)) B n))
def rhi (A B:Nat->Rat) (F:List Rat) (n:Nat):Nat->Rat
 |0=>0
 |k+1=>Sym.maxQ (rhi A B F n k) (mx4 (fcS F n (k+1)*jb (jw (k+1)) A n) (fcS F n (k+1)*jb (jw (k+1)) B n))
theorem ccR (b:Nat->Bool) (h:∀ i,i<n->A i<=B i):jb b A n<=jb b B n:=Zz h
theorem fac_nn (hF:∀ i,i<n->0<=F.getD i default) {t:Nat}(h0:1<=t) (h:t<2^n):0<=fcS F n t:=by
 have h1:=ccJ h0 h;have h2:=KI (b:=jw t) (n:=n);exact hF _ (by omega)
theorem rlo_is (hF:∀ i,i<n->0<=F.getD i default) (hAB:∀ i,i<n->A i<=B i):∀ {k:Nat},k<2^n->rlo A B F n k<=0/\(∀ t,1<=t->t<=k->rlo A B F n k<=fcS F n t*jb (jw t) A n)/\(rlo A B F n k=0\/∃ t,1<=t/\t<=k/\rlo A B F n k=fcS F n t*jb (jw t) A n)
 |0,_=>⟨Rat.le_refl,fun t h1 h2=>by omega,.inl rfl⟩
 |k+1,hk=>by
  obtain⟨h1,h2,h3⟩:=rlo_is hF hAB (k:=k) (by omega);have e:mn4 (fcS F n (k+1)*jb (jw (k+1)) A n) (fcS F n (k+1)*jb (jw (k+1)) B n)=fcS F n (k+1)*jb (jw (k+1)) A n:=mn4_le (Rat.mul_le_mul_of_nonneg_left (ccR _ hAB) (fac_nn hF (by omega) hk));have er:rlo A B F n (k+1)=Sym.minQ (rlo A B F n k) (fcS F n (k+1)*jb (jw (k+1)) A n):=by rw[rlo,e]
  rw[er];unfold Sym.minQ;split
  ·rename_i h;refine⟨h1,fun t ht1 ht2=>?_,h3.imp id fun⟨t,a,b,c⟩=>⟨t,a,by omega,c⟩⟩;rcases Nat.le_or_eq_of_le_succ ht2 with h4|rfl
   ·exact h2 t ht1 h4
   ·exact h
  ·rename_i h;have h:=Rat.le_of_lt (Rat.not_le.1 h);refine⟨Rat.le_trans h h1,fun t ht1 ht2=>?_,.inr ⟨k+1,by omega,le_refl _,rfl⟩⟩;rcases Nat.le_or_eq_of_le_succ ht2 with h4|rfl
   ·exact Rat.le_trans h (h2 t ht1 h4)
   ·exact Rat.le_refl
theorem rhi_is (hF:∀ i,i<n->0<=F.getD i default) (hAB:∀ i,i<n->A i<=B i):∀ {k:Nat},k<2^n->0<=rhi A B F n k/\(∀ t,1<=t->t<=k->fcS F n t*jb (jw t) B n<=rhi A B F n k)/\(rhi A B F n k=0\/∃ t,1<=t/\t<=k/\rhi A B F n k=fcS F n t*jb (jw t) B n)
 |0,_=>⟨Rat.le_refl,fun t h1 h2=>by omega,.inl rfl⟩
 |k+1,hk=>by
  obtain⟨h1,h2,h3⟩:=rhi_is hF hAB (k:=k) (by omega);have e:mx4 (fcS F n (k+1)*jb (jw (k+1)) A n) (fcS F n (k+1)*jb (jw (k+1)) B n)=fcS F n (k+1)*jb (jw (k+1)) B n:=mx4_le (Rat.mul_le_mul_of_nonneg_left (ccR _ hAB) (fac_nn hF (by omega) hk));have er:rhi A B F n (k+1)=Sym.maxQ (rhi A B F n k) (fcS F n (k+1)*jb (jw (k+1)) B n):=by rw[rhi,e]
  rw[er];unfold Sym.maxQ;split
  ·rename_i h;refine⟨h1,fun t ht1 ht2=>?_,h3.imp id fun⟨t,a,b,c⟩=>⟨t,a,by omega,c⟩⟩;rcases Nat.le_or_eq_of_le_succ ht2 with h4|rfl
   ·exact h2 t ht1 h4
   ·exact h
  ·rename_i h;have h:=Rat.le_of_lt (Rat.not_le.1 h);refine⟨Rat.le_trans h1 h,fun t ht1 ht2=>?_,.inr ⟨k+1,by omega,le_refl _,rfl⟩⟩;rcases Nat.le_or_eq_of_le_succ ht2 with h4|rfl
   ·exact Rat.le_trans (h2 t ht1 h4) h
   ·exact Rat.le_refl
end
theorem low_mn (a b:Rat):jz a [b]=Sym.minQ a b:=by
 show (if b<a then b else a)=_;unfold Sym.minQ;by_cases h:a<=b
 ·rw[if_pos h,if_neg (Rat.not_lt.2 h)]
 ·rw[if_neg h,if_pos (Rat.not_le.1 h)]
theorem high_mx (a b:Rat):cT a [b]=Sym.maxQ a b:=by
 show (if a<b then b else a)=_;unfold Sym.maxQ;by_cases h:b<=a
 ·rw[if_pos h,if_neg (Rat.not_lt.2 h)]
 ·rw[if_neg h,if_pos (Rat.not_le.1 h)]
abbrev btw (x:R2):R2:=(Sym.minQ x.1 x.2,Sym.maxQ x.1 x.2)
theorem cjn {X:List R2}{F:List Rat}{Y:List R2}(hY:∀ i,i<X.length->Y.getD i default=btw (X.getD i default)) (hF:∀ i,i<X.length->0<=F.getD i default) :
 rlo (fun i=>(Y.getD i default).1) (fun i=>(Y.getD i default).2) F X.length (2^X.length-1)=(spn (lsX X) (hsX X) F X.length).1/\rhi (fun i=>(Y.getD i default).1) (fun i=>(Y.getD i default).2) F X.length (2^X.length-1)=(spn (lsX X) (hsX X) F X.length).2:=by
 have hp:=Nat.two_pow_pos X.length;have hA:∀ i,i<X.length->(Y.getD i default).1=ge0 (los X) i:=fun i hi=>by rw[hY i hi,show ge0 (los X) i=jz (X.getD i default).1 [(X.getD i default).2] from Jd hi,low_mn]
 have hB:∀ i,i<X.length->(Y.getD i default).2=ge0 (his X) i:=fun i hi=>by rw[hY i hi,show ge0 (his X) i=cT (X.getD i default).1 [(X.getD i default).2] from Jd hi,high_mx]
 have hAB:∀ i,i<X.length->(Y.getD i default).1<=(Y.getD i default).2:=fun i hi=>by
  rw[hA i hi,hB i hi,show ge0 (los X) i=jz (X.getD i default).1 [(X.getD i default).2] from Jd hi,show ge0 (his X) i=cT (X.getD i default).1 [(X.getD i default).2] from Jd hi];exact Rat.le_trans (ym _ _) (CA _ _)
 have key:∀ t,1<=t->t<2^X.length->∃ m,jo (jw t) X.length=m+1/\fcS F X.length t=F.getD m default:=fun t h1 h2=>by
  have:=ccJ h1 h2;exact⟨jo (jw t) X.length-1,by omega,rfl⟩
 have back:∀ b m,jo b X.length=m+1->∃ t,1<=t/\t<=2^X.length-1/\fcS F X.length t=F.getD m default/\∀ f,jb (jw t) f X.length=jb b f X.length:=fun b m hc=>by
  obtain⟨t,ht,hb⟩:=set_of b X.length;have hs:∀ f,jb (jw t) f X.length=jb b f X.length:=fun f=>(yO fun i hi=>⟨hb i hi,rfl⟩).1;have hcn:jo (jw t) X.length=jo b X.length:=(yO (f:=fun _=>0) (g:=fun _=>0) fun i hi=>⟨hb i hi,rfl⟩).2;refine⟨t,?_,by omega,by show F.getD (jo (jw t) X.length-1) default=_;rw[hcn,hc];rfl,hs⟩;rcases eq_zero_or_pos t with rfl|h
  ·have:jo (jw 0) X.length=0:=cdW fun i _=>by rw[EN,Nat.zero_testBit]
   omega
  ·exact h
 have sA:∀ b,jb b (fun i=>(Y.getD i default).1) X.length=jb b (ge0 (los X)) X.length:=fun b=>(yO fun i hi=>⟨rfl,hA i hi⟩).1;have sB:∀ b,jb b (fun i=>(Y.getD i default).2) X.length=jb b (ge0 (his X)) X.length:=fun b=>(yO fun i hi=>⟨rfl,hB i hi⟩).1;constructor
 ·obtain⟨h1,h2,h3⟩:=rlo_is (A:=fun i=>(Y.getD i default).1) (B:=fun i=>(Y.getD i default).2) hF hAB (k:=2^X.length-1) (by omega);obtain⟨q1,q2⟩:=cdN hF;refine Rat.le_antisymm ?_ ?_
  ·rcases q2 with e|⟨b,m,hc,e⟩
   ·rw[e];exact h1
   ·obtain⟨t,a1,a2,a3,a4⟩:=back b m hc;have:=h2 t a1 a2;rw[a3,a4,sA] at this;rw[e,Rat.mul_comm];exact this
  ·rcases h3 with e|⟨t,a1,a2,e⟩
   ·rw[e];exact Uo.1
   ·obtain⟨m,b1,b2⟩:=key t a1 (by omega);rw[e,b2,sA,Rat.mul_comm];exact q1 _ m b1
 ·obtain⟨h1,h2,h3⟩:=rhi_is (A:=fun i=>(Y.getD i default).1) (B:=fun i=>(Y.getD i default).2) hF hAB (k:=2^X.length-1) (by omega);obtain⟨q1,q2⟩:=ceH hF;refine Rat.le_antisymm ?_ ?_
  ·rcases h3 with e|⟨t,a1,a2,e⟩
   ·rw[e];exact Uo.2
   ·obtain⟨m,b1,b2⟩:=key t a1 (by omega);rw[e,b2,sB,Rat.mul_comm];exact q1 _ m b1
  ·rcases q2 with e|⟨b,m,hc,e⟩
   ·rw[e];exact h1
   ·obtain⟨t,a1,a2,a3,a4⟩:=back b m hc;have:=h2 t a1 a2;rw[a3,a4,sB] at this;rw[e,Rat.mul_comm];exact this
end Pe
end Go.Proofs.YtokieocpdcngcabGreatDoor
