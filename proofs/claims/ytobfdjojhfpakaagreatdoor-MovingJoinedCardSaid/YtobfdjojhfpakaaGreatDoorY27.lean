/- Part 27. -/
import Derived.Test.YtobfdjojhfpakaaGreatDoorY26
set_option linter.all false
open Nat (zero_le)
noncomputable section

namespace Go.Proofs.YtobfdjojhfpakaaGreatDoor
open Go Go.RowKit Go.Proofs Lim
open Go Go.RowKit Go.Proofs Lim
theorem cn.grown {W W':World}{row:Option Nat}{v:Value}{n:Nat}(hg:W.grownBy W' row) (hR:∀ r,row=some r->NBox W r) (h:cn W v n):cn W' v n:=by
 obtain⟨xs,⟨⟨ao,c,rfl,h1,h2,hr⟩,ok,typ⟩,htr,hv⟩:=h;have key:∀ a:Addr,ao=some a->0<xs.length->W'.heap[a.block]?=W.heap[a.block]?:=by
  intro a ha hn;subst ha;obtain⟨cs',fr',hc⟩:=typ a _ _ rfl hn;refine hg.block a.block (Array.getElem?_eq_some_iff.1 hc).1 ?_;intro e;obtain⟨cs,t,fr,hb,ht,_⟩:=hR a.block e.symm;rw[hb] at hc;injection hc with hc
  injection hc with _ hc
  exact ht hc
 refine⟨xs,⟨⟨ao,c,rfl,h1,h2,fun hn=>?_⟩,ok,fun a n' c' e hn=>?_⟩,htr,hv⟩
 ·obtain⟨b,off,rfl,row'⟩:=hr hn;refine⟨b,off,rfl,fun i hi=>?_⟩;exact(World.cell?_of_block (w:=W) (a:=⟨b,off+i,none⟩) (key ⟨b,off,none⟩ rfl hn)).trans (row' i hi)
 ·injection e with e1 e2 e3
  subst e1 e2 e3;obtain⟨cs',fr',hc⟩:=typ a _ _ rfl hn;exact⟨cs',fr',(key a rfl hn).trans hc⟩
theorem IsQ.grown {W W':World}{row:Option Nat}{v:Value}{r:Rat}(hg:W.grownBy W' row) (hR:∀ r,row=some r->NBox W r) (h:IsQ W v r):IsQ W' v r:=by
 unfold IsQ at *;cases h with
 |low l hv hd hn hdB=>exact .low l hv hd hn hdB
 |wide b x y hv hx hy h1 h2 hB h0 hd =>
  have hb:W'.heap[b]?=W.heap[b]?:=by
   refine hg.block b (World.block_lt_of_cell? W _ hx) ?_;intro e;obtain⟨cs,t,fr,hb,_,hz⟩:=hR b e.symm;obtain⟨_,_,_,rfl,_⟩:=h1.form;rw[World.cell?,hb] at hx;obtain⟨s,e⟩:=hz _ hx;cases e
  exact .wide b x y hv ((World.cell?_of_block (w:=W) (a:=⟨b,0,none⟩) hb).trans hx) ((World.cell?_of_block (w:=W) (a:=⟨b,1,none⟩) hb).trans hy) (h1.grown hg hR) (h2.grown hg hR) ⟨hB.1,hB.2.to hb⟩ h0 hd
open Go Go.RowKit Go.Proofs Lim
open Go Go.RowKit Go.Proofs Lim
theorem uq (r:Rat) (rs:List Rat):jm r rs<=r:=by
 induction rs generalizing r with
 |nil=>exact Rat.le_refl
 |cons x rs ih =>
  show jm (if x<r then x else r) rs<=r;refine Rat.le_trans (ih _) ?_;split
  ·rename_i h;exact Rat.le_of_lt h
  ·exact Rat.le_refl
theorem cbA {r:Rat}{rs:List Rat}{x:Rat}(h:x∈rs):jm r rs<=x:=by
 induction rs generalizing r with
 |nil=>cases h
 |cons y rs ih =>
  show jm (if y<r then y else r) rs<=x;rcases List.mem_cons.1 h with rfl|h
  ·refine Rat.le_trans (uq _ _) ?_;split
   ·exact Rat.le_refl
   ·rename_i h;exact Rat.not_lt.1 h
  ·exact ih h
theorem Jb (r:Rat) (rs:List Rat):r<=cL r rs:=by
 induction rs generalizing r with
 |nil=>exact Rat.le_refl
 |cons x rs ih =>
  show r<=cL (if r<x then x else r) rs;refine Rat.le_trans ?_ (ih _);split
  ·rename_i h;exact Rat.le_of_lt h
  ·exact Rat.le_refl
theorem yq {r:Rat}{rs:List Rat}{x:Rat}(h:x∈rs):x<=cL r rs:=by
 induction rs generalizing r with
 |nil=>cases h
 |cons y rs ih =>
  show x<=cL (if r<y then y else r) rs;rcases List.mem_cons.1 h with rfl|h
  ·refine Rat.le_trans ?_ (Jb _ _);split
   ·exact Rat.le_refl
   ·rename_i h;exact Rat.not_lt.1 h
  ·exact ih h
def Btw (a b x:Rat):Prop:=(a<=x/\x<=b)\/(b<=x/\x<=a)
theorem Btw.right (a b:Rat):Btw a b b:=by
 rcases (Rat.le_total:a<=b\/b<=a) with h|h
 ·exact .inl ⟨h,Rat.le_refl⟩
 ·exact .inr ⟨Rat.le_refl,h⟩
namespace Pe
section
variable {xs ys F:List Rat}
theorem ccT (i:Nat):(spn xs ys F (i+1)).1<=(spn xs ys F i).1/\(spn xs ys F i).2<=(spn xs ys F (i+1)).2/\
 (spn xs ys F (i+1)).1<=pre xs (i+1)*F.getD i default/\pre ys (i+1)*F.getD i default<=(spn xs ys F (i+1)).2:=by
 refine⟨uq _ _,?_,?_,?_⟩
 ·exact yq (by simp)
 ·exact Rat.le_trans (cbA (x:=jm (pre xs (i+1)*F.getD i default) [pre ys (i+1)*F.getD i default]) (by simp)) (uq _ _)
 ·exact Rat.le_trans (yq (List.mem_singleton.2 rfl)) (yq (x:=cL (pre xs (i+1)*F.getD i default) [pre ys (i+1)*F.getD i default]) (by simp))
theorem cgd:∀ {n i:Nat},i<=n->(spn xs ys F n).1<=(spn xs ys F i).1/\(spn xs ys F i).2<=(spn xs ys F n).2
 |0,i,h=>by rw[Nat.le_zero.1 h];exact⟨Rat.le_refl,Rat.le_refl⟩
 |n+1,i,h=>by
  rcases Nat.le_or_eq_of_le_succ h with h1|rfl
  ·obtain⟨p,q⟩:=cgd (n:=n) h1;obtain⟨r,s,_⟩:=ccT (xs:=xs) (ys:=ys) (F:=F) n;exact⟨Rat.le_trans r p,Rat.le_trans q s⟩
  ·exact⟨Rat.le_refl,Rat.le_refl⟩
theorem KQ {n:Nat}:(spn xs ys F n).1<=0/\0<=(spn xs ys F n).2:=cgd (i:=0) (zero_le _)
theorem spn_in {n m:Nat}{s:Rat}(hm:m<n) (hF:0<=F.getD m default) (h1:pre xs (m+1)<=s) (h2:s<=pre ys (m+1)):(spn xs ys F n).1<=s*F.getD m default/\s*F.getD m default<=(spn xs ys F n).2:=by
 obtain⟨p,q⟩:=cgd (xs:=xs) (ys:=ys) (F:=F) (n:=n) (i:=m+1) hm;obtain⟨_,_,r,t⟩:=ccT (xs:=xs) (ys:=ys) (F:=F) m;exact⟨Rat.le_trans p (Rat.le_trans r (Rat.mul_le_mul_of_nonneg_right h1 hF)),Rat.le_trans (Rat.mul_le_mul_of_nonneg_right h2 hF) (Rat.le_trans t q)⟩
end
theorem Yp {b:Nat->Bool}{f g:Nat->Rat}:∀ {n:Nat},(∀ i,i<n->f i<=g i)->uk b f n<=uk b g n
 |0,_=>Rat.le_refl
 |n+1,h=>by
  have ih:=Yp (b:=b) (f:=f) (g:=g) (n:=n) (fun i hi=>h i (by omega));unfold uk;split
  ·exact Rat.le_trans ((Rat.add_le_add_right).2 ih) ((Rat.add_le_add_left).2 (h n (by omega)))
  ·exact ih
theorem cjY {X:List R2}{F:List Rat}{b:Nat->Bool}{x:Nat->Rat}{m:Nat}(hx:∀ i,i<X.length->ge0 (los X) i<=x i/\x i<=ge0 (his X) i) (hm:kZ b X.length=m+1) (hF:0<=F.getD m default) :
 (spn (lsX X) (hsX X) F X.length).1<=uk b x X.length*F.getD m default/\uk b x X.length*F.getD m default<=(spn (lsX X) (hsX X) F X.length).2:=by
 have h1:=ckv (xs:=los X) (b:=b);have h2:=hs_most (xs:=his X) (b:=b);rw[Yb,hm] at h1;rw[Yd,hm] at h2;have hc:=UI (b:=b) (n:=X.length);exact spn_in (by omega) hF (Rat.le_trans h1 (Yp fun i hi=>(hx i hi).1)) (Rat.le_trans (Yp fun i hi=>(hx i hi).2) h2)
end Pe
end Go.Proofs.YtobfdjojhfpakaaGreatDoor
