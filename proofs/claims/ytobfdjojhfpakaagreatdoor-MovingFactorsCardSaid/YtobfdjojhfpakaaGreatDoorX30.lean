/- Part 30. -/
import Derived.Test.YtobfdjojhfpakaaGreatDoorX28
import Derived.Test.YtobfdjojhfpakaaGreatDoorX29
set_option linter.all false
open Bool (and_eq_true eq_false_or_eq_true)
open Nat (add_zero eq_zero_or_pos le_refl not_lt_zero zero_le)
noncomputable section

namespace Go.Proofs.YtobfdjojhfpakaaGreatDoor
open Go Go.RowKit Go.Proofs Lim
namespace Pe
noncomputable def kMovingFactors3_:List Kp:=[.code (codeOf Tryz.f3)]
noncomputable def kMovingFactors3_n:List Kp:=next kMovingFactors3_
noncomputable def kMovingFactors3_nl:List Kp:=[.code (ub kMovingFactors3_n)]
noncomputable def kMovingFactors3_nt:List Kp:=kMovingFactors3_n.tail
section
variable {L:List T2}{a b v:Int}
theorem aR_is:∀ {n:Nat},(∃ j,j<n/\frm L j<=v)->aR L v n<n/\frm L (aR L v n)<=v/\∀ j,j<n->frm L j<=v->j<=aR L v n
 |0,h=>by obtain⟨j,h,_⟩:=h;omega
 |n+1,h=>by
  by_cases hn:frm L n<=v
  ·rw[aR_t hn];exact⟨by omega,hn,fun j hj _=>by omega⟩
  ·rw[aR_f hn];obtain⟨j,h1,h2⟩:=h;have hj:j<n:=by
    rcases Nat.lt_succ_iff_lt_or_eq.1 h1 with h|rfl
    ·exact h
    ·exact absurd h2 hn
   obtain⟨q1,q2,q3⟩:=aR_is (n:=n) ⟨j,hj,h2⟩;refine⟨by omega,q2,fun i hi h3=>?_⟩;rcases Nat.lt_succ_iff_lt_or_eq.1 hi with h|rfl
   ·exact q3 i h h3
   ·exact absurd h3 hn
theorem aR_at (hk:okI L=true) (h0:0<=v):aR L v L.length=atN L v:=by
 obtain⟨h1,h2,h3⟩:=Ge hk h0;obtain⟨q1,q2,q3⟩:=aR_is (L:=L) (v:=v) (n:=L.length) ⟨_,h1,h2⟩;have:=q3 _ h1 h2;have:=h3 _ q1 q2;omega
theorem mnF_is {f : Nat → Rat} : ∀ {n : Nat}, (∃ j, j ≤ n ∧ mnF f n = f j) ∧ ∀ j, j ≤ n → mnF f n ≤ f j
  | 0 => ⟨⟨0, le_refl _, rfl⟩, fun j hj => by rw [Nat.le_zero.1 hj]; exact Rat.le_refl⟩
  | n + 1 => by
    obtain ⟨⟨i, h1, h2⟩, h3⟩ := mnF_is (f := f) (n := n)
    rw [mnF, Sym.minQ]
    split
    · rename_i h
      refine ⟨⟨i, by omega, h2⟩, fun j hj => ?_⟩
      rcases Nat.le_or_eq_of_le_succ hj with h4 | rfl
      · exact h3 j h4
      · exact h
    · rename_i h
      refine ⟨⟨n + 1, le_refl _, rfl⟩, fun j hj => ?_⟩
      rcases Nat.le_or_eq_of_le_succ hj with h4 | rfl
      · have := h3 j h4; grind
      · exact Rat.le_refl
theorem mxF_is {f : Nat → Rat} : ∀ {n : Nat}, (∃ j, j ≤ n ∧ mxF f n = f j) ∧ ∀ j, j ≤ n → f j ≤ mxF f n
  | 0 => ⟨⟨0, le_refl _, rfl⟩, fun j hj => by rw [Nat.le_zero.1 hj]; exact Rat.le_refl⟩
  | n + 1 => by
    obtain ⟨⟨i, h1, h2⟩, h3⟩ := mxF_is (f := f) (n := n)
    rw [mxF, Sym.maxQ]
    split
    · rename_i h
      refine ⟨⟨i, by omega, h2⟩, fun j hj => ?_⟩
      rcases Nat.le_or_eq_of_le_succ hj with h4 | rfl
      · exact h3 j h4
      · exact h
    · rename_i h
      refine ⟨⟨n + 1, le_refl _, rfl⟩, fun j hj => ?_⟩
      rcases Nat.le_or_eq_of_le_succ hj with h4 | rfl
      · have := h3 j h4; grind
      · exact Rat.le_refl
theorem ccE (hk:okI L=true) (h0:0<=a) {j:Nat}(hj:j<=(b-a).toNat) (hab:a<=b):∃ k,k<fcN L a b/\fq L a j=(fcF L a k).2:=by
 have h1:=Cq hk h0 (u:=a+(j:Int)) (by omega);have h2:=Cq hk (v:=a+(j:Int)) (u:=b) (by omega) (by omega);refine⟨atN L (a+(j:Int))-atN L a,by show _<atN L b+1-atN L a;omega,?_⟩;show fac L (aR L (a+(j:Int)) L.length)=fac L (atN L a+(atN L (a+(j:Int))-atN L a));rw[aR_at hk (by omega),Nat.add_sub_cancel' h1]
theorem cbU (hk:okI L=true) (h0:0<=a) (hab:a<=b) {k:Nat}(h:k<fcN L a b):∃ j,j<=(b-a).toNat/\fq L a j=(fcF L a k).2:=by
 have h:k<atN L b+1-atN L a:=h;obtain⟨a1,a2,a3⟩:=Ge hk h0;obtain⟨b1,b2,b3⟩:=Ge hk (v:=b) (by omega);obtain⟨_,_,_,_,hup⟩:=Ka hk;rcases eq_zero_or_pos k with rfl|hpos
 ·refine⟨0,zero_le _,?_⟩;show fac L (aR L (a+((0:Nat):Int)) L.length)=fac L (atN L a+0);rw[show a+((0:Nat):Int)=a by omega,aR_at hk h0,add_zero]
 ·have hi:atN L a+k<=atN L b:=by omega
  have hlt:a<frm L (atN L a+k):=by
   rcases Int.lt_or_le a (frm L (atN L a+k)) with h1|h1
   ·exact h1
   ·have:=a3 _ (by omega) h1;omega
  have hle:frm L (atN L a+k)<=b:=by
   rcases Nat.lt_or_eq_of_le hi with h1|h1
   ·have:=caz hup h1 b1;omega
   ·rw[h1];exact b2
  refine⟨(frm L (atN L a+k)-a).toNat,by omega,?_⟩;show fac L (aR L (a+((frm L (atN L a+k)-a).toNat:Int)) L.length)=fac L (atN L a+k);rw[show a+((frm L (atN L a+k)-a).toNat:Int)=frm L (atN L a+k) by omega,aR_at hk (by omega)];obtain⟨c1,c2,c3⟩:=Ge hk (v:=frm L (atN L a+k)) (by omega);have h1:=c3 (atN L a+k) (by omega) (Int.le_refl _);rcases Nat.lt_or_eq_of_le h1 with h2|h2
  ·have:=caz hup h2 c1;omega
  ·rw[← h2]
theorem mn_eq (hk:okI L=true) (h0:0<=a) (hab:a<=b):mnQ L a b=mnF (fq L a) (b-a).toNat:=by
 have hm:=Cq hk h0 hab;obtain⟨h1,h2⟩:=cdZ (f:=fcF L a) (n:=fcN L a b) (by show 1<=atN L b+1-atN L a;omega);obtain⟨⟨j,h3,h4⟩,h5⟩:=mnF_is (f:=fq L a) (n:=(b-a).toNat);refine Rat.le_antisymm ?_ ?_
 ·obtain⟨k,h6,h7⟩:=ccE (b:=b) hk h0 h3 hab;rw[h4,h7];exact h2 k h6
 ·obtain⟨i,h6,h7⟩:=cbU hk h0 hab h1;have h8:=h5 i h6;rw[h7] at h8;exact h8
theorem mx_eq (hk:okI L=true) (h0:0<=a) (hab:a<=b):mxQ L a b=mxF (fq L a) (b-a).toNat:=by
 have hm:=Cq hk h0 hab;obtain⟨h1,h2⟩:=cdL (f:=fcF L a) (n:=fcN L a b) (by show 1<=atN L b+1-atN L a;omega);obtain⟨⟨j,h3,h4⟩,h5⟩:=mxF_is (f:=fq L a) (n:=(b-a).toNat);refine Rat.le_antisymm ?_ ?_
 ·obtain⟨i,h6,h7⟩:=cbU hk h0 hab h1;have h8:=h5 i h6;rw[h7] at h8;exact h8
 ·obtain⟨k,h6,h7⟩:=ccE (b:=b) hk h0 h3 hab;rw[h4,h7];exact h2 k h6
end
abbrev S2:=Int×Tx
abbrev fS (x:S2):List (Grp Dx):=[.lit (ii x.1),.lit (str x.2)]
abbrev ju (ts:List S2):List T2:=ts.map fun x=>(x.1,nq x.2)
abbrev pSt (row:Nat) (ts:List S2):Pat Dx:=.one (.cls (.ls (lst 0 row 2 ts fS)))
abbrev argF (row:Nat) (ts:List S2) (a b:Int):List (Pat Dx):=[pSt row ts,pI a,pI b]
abbrev lfI (row:Nat) (ts:List S2) (a b:Int) (i:Nat):St Dx:=⟨3,[(0,.val (.one (.sym 0 0))),(1,.val (.one (.lit (ii a)))),(2,.val (.one (.lit (ii b)))),(7,.val (.one (.fn 1))),(8,.val (.one (.fn 2))),(9,.val (.one (.lit (ii (i:Int)))))],[(0,.cls (.ls (lst 0 row 2 ts fS))),(1,.gl 35 5 i (fun j=>fI ((ts.getD j default).1,nq (ts.getD j default).2))),(2,.gl 42 4 i (fun j=>fJ ((ts.getD j default).1,nq (ts.getD j default).2)))],[]⟩
abbrev lfE (lo:Nat) (ts:List S2) (a b:Int):St Dx:=⟨2,[(1,.val (.one (.lit (ii a)))),(2,.val (.one (.lit (ii b)))),(7,.val (.one (.sym 0 0))),(8,.val (.one (.sym 1 0)))],[(0,.cls (.ls (lst lo 35 5 (ju ts) fI))),(1,.cls (.ls (lst lo 42 4 (ju ts) fJ)))],[]⟩
abbrev exFL (lo:Nat) (ts:List S2) (a b:Int) (c:Bool) (r s:Rat) (j:Nat) (e:Int):List (Nat×Con):=(11,CE [pT lo (ju ts),pI a,pI b] (.tup [pS r j s j,pI e]))::(12,CE [pU lo (ju ts)] (vr (.bool c)))::exN
abbrev exFR (lo:Nat) (ts:List S2) (a b:Int):List (Nat×Con):=(15,CE [pU lo (ju ts),pI a,pI b] (UX [pSR (mnF (fq (ju ts) a) (b-a).toNat) (mxF (fq (ju ts) a) (b-a).toNat)]))::exFL lo ts a b true (mnQ (ju ts) a b) (mxQ (ju ts) a b) 4 0
theorem lf0 {w:World}(row:Nat) (ts:List S2) (a b:Int):runR w ⟨[(3,14,true)],[],exN⟩ 3 115 Tryz.f3 kMovingFactors3_ (stA (argF row ts a b)) (rB true)=some (.ret,[decide ((ts.length:Int)>45)=true,([]:List (Pat Dx))=[],Value.bool true=Value.bool true]):=by kernel_rfl
theorem lf1 {w:World}(row:Nat) (ts:List S2) (a b:Int):run w ⟨[(3,14,false)],[],exN⟩ 3 115 kMovingFactors3_ (stA (argF row ts a b)) (lfI row ts a b 0)=some (.normal,[decide ((ts.length:Int)>45)=false,cE (W0 w) (.ls (lst 0 row 2 ts fS)) (.ls (lst 0 row 2 ts fS)),0=0,∀ (j:Nat),j<0->jw (W0 w) (fI ((ts.getD j default).1,nq (ts.getD j default).2)) [],0=0,∀ (j:Nat),j<0->jw (W0 w) (fJ ((ts.getD j default).1,nq (ts.getD j default).2)) [],ii a=Value.int IntKind.i64 a,ii b=Value.int IntKind.i64 b,ii (↑0:Int)=Value.int IntKind.i64 0]):=by kernel_rfl
theorem lf2 {w:World}(row:Nat) (ts:List S2) (a b:Int) (i:Nat):runR w ⟨[(3,21,true),(3,29,true)],[],exN⟩ 3 115 Tryz.f3 kMovingFactors3_nl (lfI row ts a b i) (rB true)=some (.ret,[decide ((i:Int)<(ts.length:Int))=true,i<ts.length,i<ts.length,decide (40<List.length (ts.getD i default).2)=true,([]:List (Pat Dx))=[],Value.bool true=Value.bool true]):=by kernel_rfl
theorem lf3 {w:World}(row:Nat) (ts:List S2) (a b:Int) (i:Nat):run w ⟨[(3,21,true),(3,29,false)],[],exN⟩ 3 115 kMovingFactors3_nl (lfI row ts a b i) (lfI row ts a b (i+1))=some (.normal,[decide ((i:Int)<(ts.length:Int))=true,i<ts.length,i<ts.length,decide (40<List.length (ts.getD i default).2)=false,i<ts.length,i<ts.length,i<ts.length,i<ts.length,List.length (ts.getD i default).2<=60,i+1<=1000000,i<ts.length,i<ts.length,i<ts.length,i<ts.length,List.length (ts.getD i default).2<=60,i+1<=1000000,um ((i:Int)+1),cE (W0 w) (.ls (lst 0 row 2 ts fS)) (.ls (lst 0 row 2 ts fS)),i+1=i+1,∀ (j:Nat),j<i+1->jw (W0 w) (fI ((ts.getD j default).1,nq (ts.getD j default).2)) (UR i (fun(j:Nat)=>fI ((ts.getD j default).1,nq (ts.getD j default).2)) (fun(x:Nat)=>[Grp.lit (ii (ts.getD i default).1),Grp.cls (Dx.q (jD (ts.getD i default).2).1 4)]) j),i+1=i+1,∀ (j:Nat),j<i+1->jw (W0 w) (fJ ((ts.getD j default).1,nq (ts.getD j default).2)) (UR i (fun(j:Nat)=>fJ ((ts.getD j default).1,nq (ts.getD j default).2)) (fun(x:Nat)=>[Grp.lit (ii (ts.getD i default).1),Grp.cls (Dx.rq (jD (ts.getD i default).2).1 4)]) j),ii a=ii a,ii b=ii b,ii (↑(i+1):Int)=Value.int IntKind.i64 ((i:Int)+1)]):=by kernel_rfl
theorem lf4 {w:World}(row:Nat) (ts:List S2) (a b:Int):run w ⟨[(3,21,false)],[],exN⟩ 3 115 kMovingFactors3_nl (lfI row ts a b ts.length) (lfE w.heap.size ts a b)=some (.exit 0,[decide ((ts.length:Int)<(ts.length:Int))=false,∀ (w_1:World) (v:Value),DIs w_1 (Dx.ls { lo:=w.1.size,ty:=35,z:=5,n:=ts.length,g:=fun(j:Nat)=>fI ((ts.getD j default).1,nq (ts.getD j default).2) }) [v]->DIs w_1 (Dx.ls (lst w.1.size 35 5 (ju ts) fI)) [v],∀ (w_1:World) (v:Value),DIs w_1 (Dx.ls { lo:=w.1.size,ty:=42,z:=4,n:=ts.length,g:=fun(j:Nat)=>fJ ((ts.getD j default).1,nq (ts.getD j default).2) }) [v]->DIs w_1 (Dx.ls (lst w.1.size 42 4 (ju ts) fJ)) [v],ii a=ii a,ii b=ii b]):=by kernel_rfl
theorem lf5 {w:World}(ts:List S2) (a b:Int):runR w ⟨[(13,6,true),(13,11,true)],[],exFL w.heap.size ts a b false 0 0 1 2⟩ 3 115 Tryz.f3 kMovingFactors3_nt (lfE w.heap.size ts a b) (rB true)=some (.ret,[[Pat.one (Grp.cls (Dx.ls (lst w.1.size 35 5 (ju ts) fI))),Pat.one (Grp.lit (ii a)),Pat.one (Grp.lit (ii b))]=[pT w.1.size (ju ts),pI a,pI b],[Pat.one (Grp.cls (Dx.ls (lst w.1.size 42 4 (ju ts) fJ)))]=[pU w.1.size (ju ts)],decide (jE 0=0)=true,decide (jE 0=0)=true,([]:List (Pat Dx))=[],Value.bool true=Value.bool true]):=by kernel_rfl
theorem lf6 {w:World}(ts:List S2) (a b:Int):runR w ⟨[(3,83,true),(13,6,true),(13,11,true)],[],exFL w.heap.size ts a b true 0 0 1 3⟩ 3 115 Tryz.f3 kMovingFactors3_nt (lfE w.heap.size ts a b) (rB true)=some (.ret,[[Pat.one (Grp.cls (Dx.ls (lst w.1.size 35 5 (ju ts) fI))),Pat.one (Grp.lit (ii a)),Pat.one (Grp.lit (ii b))]=[pT w.1.size (ju ts),pI a,pI b],[Pat.one (Grp.cls (Dx.ls (lst w.1.size 42 4 (ju ts) fJ)))]=[pU w.1.size (ju ts)],decide (a<0)=true,decide (jE 0=0)=true,decide (jE 0=0)=true,([]:List (Pat Dx))=[],Value.bool true=Value.bool true]):=by kernel_rfl
theorem lf7 {w:World}(ts:List S2) (a b:Int):runR w ⟨[(3,83,false),(3,87,true),(13,6,true),(13,11,true)],[],exFL w.heap.size ts a b true 0 0 1 3⟩ 3 115 Tryz.f3 kMovingFactors3_nt (lfE w.heap.size ts a b) (rB true)=some (.ret,[[Pat.one (Grp.cls (Dx.ls (lst w.1.size 35 5 (ju ts) fI))),Pat.one (Grp.lit (ii a)),Pat.one (Grp.lit (ii b))]=[pT w.1.size (ju ts),pI a,pI b],[Pat.one (Grp.cls (Dx.ls (lst w.1.size 42 4 (ju ts) fJ)))]=[pU w.1.size (ju ts)],decide (a<0)=false,decide (a>b)=true,decide (jE 0=0)=true,decide (jE 0=0)=true,([]:List (Pat Dx))=[],Value.bool true=Value.bool true]):=by kernel_rfl
theorem lf8 {w:World}(ts:List S2) (a b:Int):runR w ⟨[(3,83,false),(3,87,false),(3,91,true),(13,6,true),(13,11,true)],[],exFL w.heap.size ts a b true 0 0 1 3⟩ 3 115 Tryz.f3 kMovingFactors3_nt (lfE w.heap.size ts a b) (rB true)=some (.ret,[[Pat.one (Grp.cls (Dx.ls (lst w.1.size 35 5 (ju ts) fI))),Pat.one (Grp.lit (ii a)),Pat.one (Grp.lit (ii b))]=[pT w.1.size (ju ts),pI a,pI b],[Pat.one (Grp.cls (Dx.ls (lst w.1.size 42 4 (ju ts) fJ)))]=[pU w.1.size (ju ts)],decide (a<0)=false,decide (a>b)=false,decide (b>300)=true,decide (jE 0=0)=true,decide (jE 0=0)=true,([]:List (Pat Dx))=[],Value.bool true=Value.bool true]):=by kernel_rfl
theorem lf9 {w:World}(ts:List S2) (a b:Int):runR w ⟨[(3,83,false),(3,87,false),(3,91,false),(14,9,true),(14,15,true)],[],exFR w.heap.size ts a b⟩ 3 115 Tryz.f3 kMovingFactors3_nt (lfE w.heap.size ts a b) (rB true)=some (.ret,[[Pat.one (Grp.cls (Dx.ls (lst w.1.size 35 5 (ju ts) fI))),Pat.one (Grp.lit (ii a)),Pat.one (Grp.lit (ii b))]=[pT w.1.size (ju ts),pI a,pI b],[Pat.one (Grp.cls (Dx.ls (lst w.1.size 42 4 (ju ts) fJ)))]=[pU w.1.size (ju ts)],decide (a<0)=false,decide (a>b)=false,decide (b>300)=false,[Pat.one (Grp.cls (Dx.ls (lst w.1.size 42 4 (ju ts) fJ))),Pat.one (Grp.lit (ii a)),Pat.one (Grp.lit (ii b))]=[pU w.1.size (ju ts),pI a,pI b],decide (mnQ (ju ts) a b=mnF (fq (ju ts) a) (b-a).toNat)=true,4+4<=1000000,decide (mxQ (ju ts) a b=mxF (fq (ju ts) a) (b-a).toNat)=true,4+4<=1000000,([]:List (Pat Dx))=[],Value.bool true=Value.bool true]):=by kernel_rfl
theorem factors_ok (hN:jr) (row:Nat) (ts:List S2) (a b:Int):zy 3 (argF row ts a b) (fun _=>rB true):=by
 intro w vs hG hp;refine yC hG hN (ex:=exN) (cau hG) (fn:=Tryz.f3) Tryz.func3 (c:=codeOf Tryz.f3) (by kernel_rfl) (args:=argF row ts a b) (by kernel_rfl) hp (fun hR _ hA=>?_);have s0:decide (jE 0=0)=true:=by kernel_rfl
 rcases eq_false_or_eq_true (decide ((ts.length:Int)>45)) with q14|q14
 ·exact jp (lf0 row ts a b) (hR _ rfl) hA
 have p14:=of_decide_eq_false q14;have hlen:ts.length<=45:=by omega
 have hl2:(ju ts).length=ts.length:=List.length_map ..;refine jV (lf1 row ts a b) (hR _ rfl) hA (fun aT wT hT=>uT ?_);refine uW (fun i=>lfI row ts a b i) (fun i=>i<=ts.length) (fun i=>ts.length-i) (L:=kMovingFactors3_n) (ks:=kMovingFactors3_nt) (id:=0) (c:=ub kMovingFactors3_n) (by kernel_rfl) 0 (zero_le _) hT (fun i a2 w2 hi hA=>?_);rcases eq_false_or_eq_true (decide ((i:Int)<(ts.length:Int))) with q21|q21
 ·have p21:=of_decide_eq_true q21;rcases eq_false_or_eq_true (decide (40<(ts.getD i default).2.length)) with q29|q29
  ·exact jp (lf2 row ts a b i) (hR _ rfl) hA
  ·have p29:=of_decide_eq_false q29;exact jV (lf3 row ts a b i) (hR _ rfl) hA (fun aT wT hT=>ka (by kernel_rfl) ⟨i+1,by omega,hT,by omega⟩)
 have p21:=of_decide_eq_false q21;obtain rfl:i=ts.length:=by omega
 refine jV (lf4 row ts a b) (hR _ rfl) hA (fun aT wT hA=>kG _ (by kernel_rfl) ?_) (by (repeat' (first|exact trivial|apply And.intro))<;>first|exact cE.refl _ _|exact fun _ _=>jw.refl _ _|exact cR rfl|exact cQ _ _|exact cP _ _|(with_reducible assumption)|omega|with_reducible rfl|(simp only[cF];omega)|(intro j hj;exact absurd hj (not_lt_zero _))|exact s0|exact fun w' v h=>cfb (b:=true) (lo:=w.heap.size) (w0:=w) (xs:=ts) (f:=fun x=>fI (x.1,nq x.2)) (f':=fI) (h:=fun x=>(x.1,nq x.2)) (fun _=>rfl) w' [v] h|exact fun w' v h=>cfb (b:=true) (lo:=w.heap.size) (w0:=w) (xs:=ts) (f:=fun x=>fJ (x.1,nq x.2)) (f':=fJ) (h:=fun x=>(x.1,nq x.2)) (fun _=>rfl) w' [v] h|exact decide_eq_true rfl|exact decide_eq_true (by omega)|exact decide_eq_false (by omega)|rfl);have tb:jF (Cx true w.heap.size w) (.call 12) [pU w.heap.size (ju ts)] (vr (.bool (okI (ju ts)))):=(cgg hN w.heap.size (ju ts) (by omega)).val hG (le_refl _) (enters_of Tryz.func12 (by kernel_rfl) rfl);have hEf:Enters Tryz.prog 11:=enters_of Tryz.func11 (by kernel_rfl) rfl;rcases eq_false_or_eq_true (okI (ju ts)) with hk|hk
 rotate_left
 ·rw[hk] at tb;have hR5:=Yx hG hN (ji (kp ((Fac_bad hN w.heap.size (ju ts) a b (by omega) hk).ent hG (le_refl _) hEf (fun _ _=>⟨_,rfl,cE.refl _ _,cE.refl _ _,rfl,trivial⟩))) (ji (kp tb) (cau hG)));exact jp (lf5 ts a b) (hR5 _ rfl) hA (by (repeat' (first|exact trivial|apply And.intro))<;>first|exact cE.refl _ _|exact fun _ _=>jw.refl _ _|exact cR rfl|exact cQ _ _|exact cP _ _|(with_reducible assumption)|omega|with_reducible rfl|(simp only[cF];omega)|(intro j hj;exact absurd hj (not_lt_zero _))|exact s0|exact e1|exact e2|exact decide_eq_true rfl|exact decide_eq_true (by omega)|exact decide_eq_false (by omega)|rfl)
 rw[hk] at tb;rcases eq_false_or_eq_true (rngI a b) with hr|hr
 rotate_left
 ·have hR6:=Yx hG hN (ji (kp ((Fac_rng hN w.heap.size (ju ts) a b (by omega) hk hr).ent hG (le_refl _) hEf (fun _ _=>⟨_,rfl,cE.refl _ _,cE.refl _ _,rfl,trivial⟩))) (ji (kp tb) (cau hG)));have hr':a<0\/a>b\/b>300:=by
   unfold rngI at hr;simp only[Bool.and_eq_false_iff,decide_eq_false_iff_not] at hr;omega
  by_cases q1:a<0
  ·exact jp (lf6 ts a b) (hR6 _ rfl) hA (by (repeat' (first|exact trivial|apply And.intro))<;>first|exact cE.refl _ _|exact fun _ _=>jw.refl _ _|exact cR rfl|exact cQ _ _|exact cP _ _|(with_reducible assumption)|omega|with_reducible rfl|(simp only[cF];omega)|(intro j hj;exact absurd hj (not_lt_zero _))|exact s0|exact e1|exact e2|exact decide_eq_true rfl|exact decide_eq_true (by omega)|exact decide_eq_false (by omega)|rfl)
  ·by_cases q2:a>b
   ·exact jp (lf7 ts a b) (hR6 _ rfl) hA (by (repeat' (first|exact trivial|apply And.intro))<;>first|exact cE.refl _ _|exact fun _ _=>jw.refl _ _|exact cR rfl|exact cQ _ _|exact cP _ _|(with_reducible assumption)|omega|with_reducible rfl|(simp only[cF];omega)|(intro j hj;exact absurd hj (not_lt_zero _))|exact s0|exact e1|exact e2|exact decide_eq_true rfl|exact decide_eq_true (by omega)|exact decide_eq_false (by omega)|rfl)
   ·exact jp (lf8 ts a b) (hR6 _ rfl) hA (by (repeat' (first|exact trivial|apply And.intro))<;>first|exact cE.refl _ _|exact fun _ _=>jw.refl _ _|exact cR rfl|exact cQ _ _|exact cP _ _|(with_reducible assumption)|omega|with_reducible rfl|(simp only[cF];omega)|(intro j hj;exact absurd hj (not_lt_zero _))|exact s0|exact e1|exact e2|exact decide_eq_true rfl|exact decide_eq_true (by omega)|exact decide_eq_false (by omega)|rfl)
 have hr':0<=a/\a<=b/\b<=300:=by
  unfold rngI at hr;simp only[and_eq_true,decide_eq_true_eq] at hr;omega
 obtain⟨r1,r2,r3⟩:=hr';have hk1:=(Ka hk).1;have e1:=decide_eq_true (mn_eq hk r1 r2);have e2:=decide_eq_true (mx_eq hk r1 r2);have rf:jF (Cx true w.heap.size w) (.call 15) [pU w.heap.size (ju ts),pI a,pI b] (UX [pSR (mnF (fq (ju ts) a) (b-a).toNat) (mxF (fq (ju ts) a) (b-a).toNat)]):=(cbS hN w.heap.size (ju ts) a b (by omega) hk1 r1 r2 r3).ent hG (le_refl _) (enters_of Tryz.func15 (by kernel_rfl) rfl) (fun _ _=>⟨_,rfl,cE.refl _ _,cE.refl _ _,trivial⟩);have hR9:=Yx hG hN (ji (kp rf) (ji (kp ((Fac_ok hN w.heap.size (ju ts) a b hk r1 r2 r3).ent hG (le_refl _) hEf (fun _ _=>⟨_,rfl,cE.refl _ _,cE.refl _ _,rfl,trivial⟩))) (ji (kp tb) (cau hG))));exact jp (lf9 ts a b) (hR9 _ rfl) hA (by (repeat' (first|exact trivial|apply And.intro))<;>first|exact cE.refl _ _|exact fun _ _=>jw.refl _ _|exact cR rfl|exact cQ _ _|exact cP _ _|(with_reducible assumption)|omega|with_reducible rfl|(simp only[cF];omega)|(intro j hj;exact absurd hj (not_lt_zero _))|exact s0|exact e1|exact e2|exact decide_eq_true rfl|exact decide_eq_true (by omega)|exact decide_eq_false (by omega)|rfl)
end Pe
end Go.Proofs.YtobfdjojhfpakaaGreatDoor
