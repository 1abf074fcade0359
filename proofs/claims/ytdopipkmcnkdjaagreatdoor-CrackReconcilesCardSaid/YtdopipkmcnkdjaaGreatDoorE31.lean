/- Part 31. -/
import Derived.Test.YtdopipkmcnkdjaaGreatDoorE30
set_option linter.all false
noncomputable section

namespace Go.Proofs.YtdopipkmcnkdjaaGreatDoor
open Go Go.RowKit Go.Proofs Lim
namespace Pe
abbrev zx (t i:Nat):Bool:=decide ((Int.ofNat (t/2^i%2):Int)=1)
theorem UT (t i:Nat):zx t i=t.testBit i:=by
 rw[Nat.testBit_eq_decide_div_mod_eq];by_cases h:t/2^i%2=1
 ·rw[cF h];exact cF (by rw[h];rfl)
 ·rw[cK h];exact cK (fun e=>h (by have e:((t/2^i%2:Nat):Int)=1:=e;omega))
theorem set_of (b:Nat->Bool):∀ n,∃ t,t<2^n/\∀ i,i<n->zx t i=b i
 |0=>⟨0,by decide,fun i h=>absurd h (cH _)⟩
 |n+1=>by
  obtain⟨t,ht,h⟩:=set_of b n;have hp:2^(n+1)=2^n+2^n:=by rw[ji];omega
  cases hb:b n with
  |false =>
   refine⟨t,by omega,fun i hi=>?_⟩;rcases Nat.lt_succ_iff_lt_or_eq.1 hi with h1|rfl
   ·exact h i h1
   ·rw[hb,UT,Nat.testBit_lt_two_pow ht]
  |true =>
   refine⟨2^n+t,by omega,fun i hi=>?_⟩;rcases Nat.lt_succ_iff_lt_or_eq.1 hi with h1|rfl
   ·rw[UT,Nat.testBit_two_pow_add_gt h1,← UT];exact h i h1
   ·rw[hb,UT,Nat.testBit_two_pow_add_eq,Nat.testBit_lt_two_pow ht];rfl
def fl (p:Nat->Bool):Nat->List Nat
 |0=>[]
 |n+1=>match p n with
  |true=>fl p n++[n]
  |false=>fl p n
def zl (e:R2) (L:List R2) (p:Nat->Bool):Nat->R2
 |0=>e
 |n+1=>match p n with
  |true=>(mx (zl e L p n).1 (L.getD n default).1,mn (zl e L p n).2 (L.getD n default).2)
  |false=>zl e L p n
section
variable {e:R2}{L:List R2}{x y:Rat}{p q:Nat->Bool}
theorem fl_t {n:Nat}(h:p n=true):fl p (n+1)=fl p n++[n]:=by rw[fl,h]
theorem fl_f {n:Nat}(h:p n=false):fl p (n+1)=fl p n:=by rw[fl,h]
theorem zl_t {n:Nat}(h:p n=true):zl e L p (n+1)=(mx (zl e L p n).1 (L.getD n default).1,mn (zl e L p n).2 (L.getD n default).2):=by rw[zl,h]
theorem zl_f {n:Nat}(h:p n=false):zl e L p (n+1)=zl e L p n:=by rw[zl,h]
theorem fl_eq:∀ n,(∀ i,i<n->p i=q i)->fl p n=fl q n
 |0,_=>rfl
 |n+1,h=>by
  have h1:=fl_eq n (fun i hi=>h i (by omega));have h2:=h n (by omega);unfold fl;rw[h1,h2]
theorem clj:∀ n,(∀ i,i<n->p i=q i)->zl e L p n=zl e L q n
 |0,_=>rfl
 |n+1,h=>by
  have h1:=clj n (fun i hi=>h i (by omega));have h2:=h n (by omega);unfold zl;rw[h1,h2]
theorem fl_u:∀ n,fl (fun i=>kL (L.getD i default) x) n=uS L x n
 |0=>rfl
 |n+1=>by
  have h:=fl_u n;cases hb:kL (L.getD n default) x with
  |true=>rw[fl_t (p:=fun i=>kL (L.getD i default) x) hb,clJ hb,h]
  |false=>rw[fl_f (p:=fun i=>kL (L.getD i default) x) hb,u_no hb,h]
theorem zl_z:∀ n,zl e L (fun i=>kL (L.getD i default) x) n=zS e L x n
 |0=>rfl
 |n+1=>by
  have h:=zl_z n;cases hb:kL (L.getD n default) x with
  |true=>rw[zl_t (p:=fun i=>kL (L.getD i default) x) hb,z_yes hb,h]
  |false=>rw[zl_f (p:=fun i=>kL (L.getD i default) x) hb,z_no hb,h]
theorem ciz:∀ n,(fl p n).length<=n
 |0=>ju _
 |n+1=>by
  have:=ciz n;cases hb:p n with
  |true=>rw[fl_t hb];simp;exact this
  |false=>rw[fl_f hb];omega
theorem cjP:∀ n,(∀ i,i<n->p i=true->q i=true)->(fl p n).length<=(fl q n).length/\((fl p n).length=(fl q n).length->∀ i,i<n->q i=p i)
 |0,_=>⟨cb _,fun _ i hi=>absurd hi (cH _)⟩
 |n+1,h=>by
  obtain⟨h1,h2⟩:=cjP n (fun i hi=>h i (by omega));have h3:=h n (by omega);cases hp:p n with
  |true =>
   have hq:=h3 hp;rw[fl_t hp,fl_t hq];simp only[kI,Ud];refine⟨by omega,fun he i hi=>?_⟩;rcases Nat.lt_succ_iff_lt_or_eq.1 hi with h4|rfl
   ·exact h2 (by omega) i h4
   ·rw[hp,hq]
  |false =>
   rw[fl_f hp];cases hq:q n with
   |true =>
    rw[fl_t hq];simp only[kI,Ud];exact⟨by omega,fun he=>absurd he (by omega)⟩
   |false =>
    rw[fl_f hq];refine⟨h1,fun he i hi=>?_⟩;rcases Nat.lt_succ_iff_lt_or_eq.1 hi with h4|rfl
    ·exact h2 he i h4
    ·rw[hp,hq]
theorem mx_le1 {a c:Rat}:a<=mx a c/\c<=mx a c:=by unfold mx;split<;>grind
theorem mn_le1 {b d:Rat}:mn b d<=b/\mn b d<=d:=by unfold mn;split<;>grind
theorem zl_in:∀ n,e.1<=(zl e L p n).1/\(zl e L p n).2<=e.2/\∀ i,i<n->p i=true->(L.getD i default).1<=(zl e L p n).1/\(zl e L p n).2<=(L.getD i default).2
 |0=>⟨GF,GF,fun i hi=>absurd hi (cH _)⟩
 |n+1=>by
  obtain⟨h1,h2,h3⟩:=zl_in n;cases hb:p n with
  |true =>
   rw[zl_t hb];have a1:=mx_le1 (a:=(zl e L p n).1) (c:=(L.getD n default).1);have a2:=mn_le1 (b:=(zl e L p n).2) (d:=(L.getD n default).2);refine⟨zq h1 a1.1,zq a2.1 h2,fun i hi hx=>?_⟩;rcases Nat.lt_succ_iff_lt_or_eq.1 hi with h4|rfl
   ·exact⟨zq (h3 i h4 hx).1 a1.1,zq a2.1 (h3 i h4 hx).2⟩
   ·exact⟨a1.2,a2.2⟩
  |false =>
   rw[zl_f hb];refine⟨h1,h2,fun i hi hx=>?_⟩;rcases Nat.lt_succ_iff_lt_or_eq.1 hi with h4|rfl
   ·exact h3 i h4 hx
   ·rw[hb] at hx;cases hx
theorem clA:∀ n,(zl e L p n).2=e.2\/∃ i,i<n/\(zl e L p n).2=(L.getD i default).2
 |0=>.inl rfl
 |n+1=>by
  have h:=clA n;cases hb:p n with
  |true =>
   rw[zl_t hb];show mn _ _=_\/∃ i,_/\mn _ _=_;unfold mn;split
   ·exact .inr ⟨n,by omega,rfl⟩
   ·exact h.imp id (fun⟨i,h1,h2⟩=>⟨i,by omega,h2⟩)
  |false=>rw[zl_f hb];exact h.imp id (fun⟨i,h1,h2⟩=>⟨i,by omega,h2⟩)
theorem zl_bad {n:Nat}(h:(zl e L p n).2<(zl e L p n).1):∀ k,(zl e L p (n+k)).2<(zl e L p (n+k)).1
 |0=>h
 |k+1=>by
  have h1:=zl_bad h k;rw[← zO];cases hb:p (n+k) with
  |true =>
   rw[zl_t hb];have a1:=(mx_le1 (a:=(zl e L p (n+k)).1) (c:=(L.getD (n+k) default).1)).1;have a2:=(mn_le1 (b:=(zl e L p (n+k)).2) (d:=(L.getD (n+k) default).2)).1;show mn _ _<mx _ _;grind
  |false=>rw[zl_f hb];exact h1
theorem fl_at {n i:Nat}(hi:i<n) (h:p i=true):(fl p n).getD (fl p i).length default=i:=by
 have pre:∀ k m,∃ r,fl p (m+k)=fl p m++r:=by
  intro k m
  induction k with
  |zero=>exact⟨[],(ug _).symm⟩
  |succ k ih =>
   obtain⟨r,hr⟩:=ih;rw[← zO];cases hb:p (m+k) with
   |true=>exact⟨r++[m+k],by rw[fl_t hb,hr,uM]⟩
   |false=>exact⟨r,by rw[fl_f hb,hr]⟩
 obtain⟨r,hr⟩:=pre (n-(i+1)) (i+1);rw[show i+1+(n-(i+1))=n by omega,fl_t h,uM] at hr;rw[hr,yR,YL (cb _),WF];rfl
theorem Yw.dom (h:Yw e L L.length x) (hf:(zl e L p L.length).1<=(zl e L p L.length).2) :
 ((fl p L.length).length<nU L x\/((fl p L.length).length=nU L x/\(zl e L p L.length).2<=hU e L x))/\
 ((fl p L.length).length=nU L x->(zl e L p L.length).2=hU e L x->fl p L.length=uS L x L.length/\zl e L p L.length=zS e L x L.length):=by
 obtain⟨z1,z2,z3⟩:=zl_in (e:=e) (L:=L) (p:=p) L.length;have hy:kL e (zl e L p L.length).2=true:=Cq.2 ⟨zq z1 hf,z2⟩;have hm:∀ i,i<L.length->p i=true->kL (L.getD i default) (zl e L p L.length).2=true:=fun i hi hp=>Cq.2 ⟨zq (z3 i hi hp).1 hf,(z3 i hi hp).2⟩;have hc:=h.cand hy (clA L.length);have hs:=cjP (p:=p) (q:=fun i=>kL (L.getD i default) (zl e L p L.length).2) L.length hm;rw[fl_u] at hs;have hs:(fl p L.length).length<=nU L (zl e L p L.length).2/\((fl p L.length).length=nU L (zl e L p L.length).2->∀ i,i<L.length->kL (L.getD i default) (zl e L p L.length).2=p i):=hs;have hn:nU L (zl e L p L.length).2<=nU L x:=by rcases hc with h1|⟨h1,_⟩<;>omega
 have hag:(fl p L.length).length=nU L x->∀ i,i<L.length->kL (L.getD i default) (zl e L p L.length).2=p i:=fun he=>hs.2 (by have:=hs.1;omega);refine⟨?_,fun he hh=>?_⟩
 ·by_cases he:(fl p L.length).length=nU L x
  ·refine .inr ⟨he,?_⟩;have hz:zl e L p L.length=zS e L (zl e L p L.length).2 L.length:=by
    rw[← zl_z (x:=(zl e L p L.length).2) L.length];exact(clj L.length (hag he)).symm
   have h2:hU e L (zl e L p L.length).2=(zl e L p L.length).2:=(cQ Prod.snd hz).symm;rcases hc with h1|⟨_,h1⟩
   ·have:=hs.1;omega
   ·rw[h2] at h1;exact h1
  ·have:=hs.1;exact .inl (by omega)
 ·have hx:=Cq.1 (z_has (L:=L) (x:=x) h.has L.length (fun _ _ h=>h));obtain⟨w1,w2,w3⟩:=z_in (e:=e) (L:=L) (x:=x) L.length;have hs2:=cjP (p:=fun i=>kL (L.getD i default) x) (q:=fun i=>kL (L.getD i default) (zl e L p L.length).2) L.length (fun i hi h1=>by
   rw[hh];exact Cq.2 ⟨zq (Cq.1 h1).1 hx.2,(w3 i hi h1).2⟩)
  rw[fl_u,fl_u] at hs2;have hs2:nU L x<=nU L (zl e L p L.length).2/\(nU L x=nU L (zl e L p L.length).2->∀ i,i<L.length->kL (L.getD i default) (zl e L p L.length).2=kL (L.getD i default) x):=hs2;have hxy:=hs2.2 (by have h1:=hs2.1;have h2:=hs.1;omega);have hpx:∀ i,i<L.length->p i=kL (L.getD i default) x:=fun i hi=>(hag he i hi).symm.trans (hxy i hi);exact⟨(fl_eq L.length hpx).trans (fl_u _),(clj L.length hpx).trans (zl_z _)⟩
def cif (a b:List Nat):Nat->Nat->Bool
 |0,_=>decide ((a.length:Int)<(b.length:Int))
 |f+1,i=>match decide ((i:Int)<(a.length:Int))&&decide ((i:Int)<(b.length:Int)) with
  |true=>match decide ((a.getD i default:Int)≠(b.getD i default:Int)) with
   |true=>decide ((a.getD i default:Int)<(b.getD i default:Int))
   |false=>cif a b f (i+1)
  |false=>decide ((a.length:Int)<(b.length:Int))
theorem lessF_s (a b:List Nat) (f i:Nat):cif a b (f+1) i=(match decide ((i:Int)<(a.length:Int))&&decide ((i:Int)<(b.length:Int)) with
 |true=>match decide ((a.getD i default:Int)≠(b.getD i default:Int)) with
  |true=>decide ((a.getD i default:Int)<(b.getD i default:Int))
  |false=>cif a b f (i+1)
 |false=>decide ((a.length:Int)<(b.length:Int))):=rfl
abbrev JU (a b:List Nat):Bool:=cif a b (a.length+1) 0
abbrev sU (L:List R2) (t:Nat):List Nat:=fl (zx t) L.length
abbrev sZ (e:R2) (L:List R2) (t:Nat):R2:=zl e L (zx t) L.length
def btr (e:R2) (L:List R2) (t:Nat) (s:R2×List Nat):Bool :=
 decide ((sZ e L t).1<=(sZ e L t).2)&&!decide ((sU L t).length<s.2.length)&&(!decide ((sU L t).length=s.2.length)||decide (s.1.2<(sZ e L t).2)||(decide (s.1.2=(sZ e L t).2)&&JU (sU L t) s.2))
def uo (e:R2) (L:List R2):Nat->R2×List Nat
 |0=>(e,[])
 |t+1=>match btr e L (t+1) (uo e L t) with
  |true=>(sZ e L (t+1),sU L (t+1))
  |false=>uo e L t
section
variable {t:Nat}{s:R2×List Nat}
theorem btr_bad (h:(sZ e L t).2<(sZ e L t).1):btr e L t s=false:=by unfold btr;rw[cK (Rat.not_le.2 h)];rfl
theorem btr_lt (h:(sU L t).length<s.2.length):btr e L t s=false:=by unfold btr;rw[cF h];simp
theorem btr_gt (h0:(sZ e L t).1<=(sZ e L t).2) (h1:¬ (sU L t).length<s.2.length) (h:¬ (sU L t).length=s.2.length):btr e L t s=true:=by unfold btr;rw[cF h0,cK h1,cK h];rfl
theorem btr_hi (h0:(sZ e L t).1<=(sZ e L t).2) (h1:(sU L t).length=s.2.length) (h:s.1.2<(sZ e L t).2):btr e L t s=true:=by unfold btr;rw[cF h0,cK (by omega:¬ (sU L t).length<s.2.length),cF h];simp
theorem btr_lo (h1:(sU L t).length=s.2.length) (h:¬ s.1.2<(sZ e L t).2) (h2:¬ s.1.2=(sZ e L t).2):btr e L t s=false:=by unfold btr;rw[cF h1,cK h,cK h2];simp
theorem btr_eq (h0:(sZ e L t).1<=(sZ e L t).2) (h1:(sU L t).length=s.2.length) (h2:s.1.2=(sZ e L t).2):btr e L t s=JU (sU L t) s.2:=by
 unfold btr;rw[cF h0,cK (by omega:¬ (sU L t).length<s.2.length),cF h1,cF h2,cK (by rw[h2];exact Rat.lt_irrefl)];simp
end
theorem Wy {k:Nat}(h:btr e L (k+1) (uo e L k)=false):uo e L (k+1)=uo e L k:=by rw[uo,h]
theorem caH {k:Nat}(h:btr e L (k+1) (uo e L k)=true):uo e L (k+1)=(sZ e L (k+1),sU L (k+1)):=by rw[uo,h]
theorem setB_no {t i:Nat}(h:decide (Int.ofNat ((t/Nat.pow 2 i).mod 2)=0)=true):zx t i=false:=by
 have h:(((t/2^i)%2:Nat):Int)=0:=jh h;exact cK (fun h1=>by have h1:(((t/2^i)%2:Nat):Int)=1:=h1;omega)
theorem cob {t i:Nat}(h:decide (Int.ofNat ((t/Nat.pow 2 i).mod 2)=0)=false):zx t i=true:=by
 have h:¬ (((t/2^i)%2:Nat):Int)=0:=jn h;exact cF (show (((t/2^i)%2:Nat):Int)=1 by omega)
theorem clp {a c:Rat}:(c<=a->a=mx a c)/\(¬ c<=a->c=mx a c):=by unfold mx;split<;>grind
theorem ckH {b d:Rat}:(b<=d->b=mn b d)/\(¬ b<=d->d=mn b d):=by unfold mn;split<;>grind
structure RefI (e:R2) (L:List R2) (k:Nat) (s:R2×List Nat):Prop where
 of:∃ p,s.2=fl p L.length/\s.1=zl e L p L.length
 le:s.1.1<=s.1.2
 all:∀ t,t<=k->(sZ e L t).1<=(sZ e L t).2->(sU L t).length<s.2.length\/((sU L t).length=s.2.length/\(sZ e L t).2<=s.1.2)
theorem ckz:∀ {n:Nat},(∀ i,i<n->p i=false)->fl p n=[]/\zl e L p n=e
 |0,_=>⟨rfl,rfl⟩
 |n+1,h=>by
  have h1:=h n (Cu n);rw[fl_f h1,zl_f h1];exact ckz fun i hi=>h i (by omega)
theorem cgc (he:e.1<=e.2):∀ k,RefI e L k (uo e L k)
 |0=>by
  have h0:∀ i,i<L.length->zx 0 i=false:=fun i _=>by rw[UT,Nat.zero_testBit]
  obtain⟨a,b⟩:=ckz (e:=e) (L:=L) h0;refine⟨⟨zx 0,a.symm,b.symm⟩,he,fun t ht _=>?_⟩;obtain rfl:t=0:=by omega
  refine .inr ⟨cQ List.length a,?_⟩;show (zl e L (zx 0) L.length).2<=e.2;rw[b];exact GF
 |k+1=>by
  obtain⟨h1,h2,h3⟩:=cgc he k;unfold uo;split
  ·rename_i hb;unfold btr at hb;simp only[EL,Wj,Bool.not_eq_true',Ju,Zk] at hb;obtain⟨⟨b1,b2⟩,b3⟩:=hb;refine⟨⟨zx (k+1),rfl,rfl⟩,b1,fun t ht hf=>?_⟩;rcases Nat.le_or_eq_of_le_succ ht with h4|rfl
   ·rcases h3 t h4 hf with h5|⟨h5,h6⟩
    ·exact .inl (by show (sU L t).length<(sU L (k+1)).length;omega)
    ·by_cases h7:(sU L (k+1)).length=(uo e L k).2.length
     ·refine .inr ⟨by show (sU L t).length=(sU L (k+1)).length;omega,?_⟩;rcases b3 with(h8|h8)|⟨h8,_⟩
      ·exact absurd h7 h8
      ·exact zq h6 (Rat.le_of_lt h8)
      ·rw[← h8];exact h6
     ·exact .inl (by show (sU L t).length<(sU L (k+1)).length;omega)
   ·exact .inr ⟨rfl,GF⟩
  ·rename_i hb;refine⟨h1,h2,fun t ht hf=>?_⟩;rcases Nat.le_or_eq_of_le_succ ht with h4|rfl
   ·exact h3 t h4 hf
   ·unfold btr at hb;simp only[cF hf,YP,Bool.and_eq_false_iff,cgp,Bool.not_eq_false',Ju,Zk] at hb;rcases hb with hb|⟨⟨hb,hc⟩,_⟩
    ·exact .inl hb
    ·exact .inr ⟨hb,Rat.not_lt.1 hc⟩
theorem cnG (he:e.1<=e.2):uo e L (2^L.length-1)=(zS e L (kN e L L.length) L.length,uS L (kN e L L.length) L.length):=by
 have hB:=clz (L:=L) he L.length;generalize kN e L L.length=x at hB;obtain⟨⟨p,hp1,hp2⟩,h2,h3⟩:=cgc (L:=L) he (2^L.length-1);generalize uo e L (2^L.length-1)=s at *;obtain⟨t,ht,hb⟩:=set_of (fun i=>kL (L.getD i default) x) L.length;have e1:sU L t=uS L x L.length:=(fl_eq L.length hb).trans (fl_u _);have e2:sZ e L t=zS e L x L.length:=(clj L.length hb).trans (zl_z _);have h4:=h3 t (by omega) (by rw[e2];exact z_le hB.has L.length);rw[e1,e2] at h4;rw[hp2] at h2;obtain⟨d1,d2⟩:=hB.dom (p:=p) h2;rw[hp1,hp2] at h4;have h4:nU L x<(fl p L.length).length\/(nU L x=(fl p L.length).length/\hU e L x<=(zl e L p L.length).2):=h4;have k1:(fl p L.length).length=nU L x:=by
  rcases h4 with h4|⟨h4,_⟩<;>rcases d1 with d1|⟨d1,_⟩<;>omega
 have k2:(zl e L p L.length).2=hU e L x:=by
  refine Rat.le_antisymm ?_ ?_
  ·rcases d1 with d1|⟨_,d1⟩
   ·omega
   ·exact d1
  ·rcases h4 with h4|⟨_,h4⟩
   ·omega
   ·exact h4
 obtain⟨q1,q2⟩:=d2 k1 k2;exact Prod.ext (hp2.trans q2) (hp1.trans q1)
end
end Pe
namespace Pe.F
noncomputable def kless31_:List Kp:=[.code (codeOf Tryz.f31)]
noncomputable def kless31_n:List Kp:=next kless31_
noncomputable def kless31_nl:List Kp:=[.code (yE kless31_n)]
noncomputable def kless31_nt:List Kp:=kless31_n.tail
abbrev pLi (lo:Nat) (A:List Nat):Pat Dx:=.one (.cls (.ls (lst lo 3 1 A fn1)))
abbrev lsI (l0 l1:Nat) (A B:List Nat) (i:Nat):St Dx:=⟨2,[(0,.val (.one (.sym 0 0))),(1,.val (.one (.sym 1 0))),(5,.val (.one (.lit (ii (i:Int)))))],[(0,.cls (.ls (lst l0 3 1 A fn1))),(1,.cls (.ls (lst l1 3 1 B fn1)))],[]⟩
theorem lsa {w:World}(l0 l1:Nat) (A B:List Nat):run w ⟨[],[],[]⟩ 31 41 kless31_ (stA [pLi l0 A,pLi l1 B]) (lsI l0 l1 A B 0)=some (.normal,[sD w (.ls (lst l0 3 1 A fn1)),sD w (.ls (lst l1 3 1 B fn1)),ii (↑0:Int)=Value.int IntKind.i64 0]):=by kernel_rfl
theorem lsb {w:World}(l0 l1:Nat) (A B:List Nat) (i:Nat):run w ⟨[(31,9,true),(31,14,true),(31,26,false)],[],[]⟩ 31 41 kless31_nl (lsI l0 l1 A B i) (lsI l0 l1 A B (i+1))=some (.normal,[decide ((i:Int)<(A.length:Int))=true,decide ((i:Int)<(B.length:Int))=true,i<A.length,i<A.length,i<B.length,i<B.length,decide ((↑(A.getD i default):Int)≠(↑(B.getD i default):Int))=false,Gd ((i:Int)+1),sD w (.ls (lst l0 3 1 A fn1)),sD w (.ls (lst l1 3 1 B fn1)),ii (↑(i+1):Int)=Value.int IntKind.i64 ((i:Int)+1)]):=by kernel_rfl
theorem lsr1 {w:World}(l0 l1:Nat) (A B:List Nat) (i:Nat):runR w ⟨[(31,9,true),(31,14,true),(31,26,true),(31,35,true)],[],[]⟩ 31 41 Tryz.f31 kless31_nl (lsI l0 l1 A B i) (rB true)=some (.ret,[decide ((i:Int)<(A.length:Int))=true,decide ((i:Int)<(B.length:Int))=true,i<A.length,i<A.length,i<B.length,i<B.length,decide ((↑(A.getD i default):Int)≠(↑(B.getD i default):Int))=true,i<A.length,i<A.length,i<B.length,i<B.length,decide ((↑(A.getD i default):Int)<(↑(B.getD i default):Int))=true,eA (Value.bool true)]):=by kernel_rfl
theorem lsr2 {w:World}(l0 l1:Nat) (A B:List Nat) (i:Nat):runR w ⟨[(31,9,true),(31,14,true),(31,26,true),(31,35,false)],[],[]⟩ 31 41 Tryz.f31 kless31_nl (lsI l0 l1 A B i) (rB false)=some (.ret,[decide ((i:Int)<(A.length:Int))=true,decide ((i:Int)<(B.length:Int))=true,i<A.length,i<A.length,i<B.length,i<B.length,decide ((↑(A.getD i default):Int)≠(↑(B.getD i default):Int))=true,i<A.length,i<A.length,i<B.length,i<B.length,decide ((↑(A.getD i default):Int)<(↑(B.getD i default):Int))=false,eA (Value.bool false)]):=by kernel_rfl
theorem lsc1 {w:World}(l0 l1:Nat) (A B:List Nat) (i:Nat):run w ⟨[(31,9,false)],[],[]⟩ 31 41 kless31_nl (lsI l0 l1 A B i) (lsI l0 l1 A B i)=some (.exit 0,[decide ((i:Int)<(A.length:Int))=false,sD w (.ls (lst l0 3 1 A fn1)),sD w (.ls (lst l1 3 1 B fn1)),eA (ii (i:Int))]):=by kernel_rfl
theorem lsc2 {w:World}(l0 l1:Nat) (A B:List Nat) (i:Nat):run w ⟨[(31,9,true),(31,14,false)],[],[]⟩ 31 41 kless31_nl (lsI l0 l1 A B i) (lsI l0 l1 A B i)=some (.exit 0,[decide ((i:Int)<(A.length:Int))=true,decide ((i:Int)<(B.length:Int))=false,sD w (.ls (lst l0 3 1 A fn1)),sD w (.ls (lst l1 3 1 B fn1)),eA (ii (i:Int))]):=by kernel_rfl
theorem lsd1 {w:World}(l0 l1:Nat) (A B:List Nat) (i:Nat):runR w ⟨[(31,40,true)],[],[]⟩ 31 41 Tryz.f31 kless31_nt (lsI l0 l1 A B i) (rB true)=some (.ret,[decide ((A.length:Int)<(B.length:Int))=true,eA (Value.bool true)]):=by kernel_rfl
theorem lsd2 {w:World}(l0 l1:Nat) (A B:List Nat) (i:Nat):runR w ⟨[(31,40,false)],[],[]⟩ 31 41 Tryz.f31 kless31_nt (lsI l0 l1 A B i) (rB false)=some (.ret,[decide ((A.length:Int)<(B.length:Int))=false,eA (Value.bool false)]):=by kernel_rfl
theorem less_ok (hN:cU) (l0 l1:Nat) (A B:List Nat) (hA0:A.length<=100000):Says 31 [pLi l0 A,pLi l1 B] (fun _=>(rB (JU A B))):=by
 intro w vs hG hp;refine ym hG hN (ex:=[]) kg (fn:=Tryz.f31) Tryz.func31 (c:=codeOf Tryz.f31) (by kernel_rfl) (args:=[pLi l0 A,pLi l1 B]) (by kernel_rfl) hp (fun hR _ hA=>?_);have fin:∀ (i:Nat) aT wT,JU A B=decide ((A.length:Int)<(B.length:Int))->At (W0 w) 41 (lsI l0 l1 A B i) aT wT->after Fence.wide 0 Tryz.prog kless31_nt (Ret (W0 w) Tryz.f31 (Res (W0 w) (rB (JU A B)))) .normal aT wT:=by
  intro i aT wT he hA;rcases jA (decide ((A.length:Int)<(B.length:Int))) with q40|q40
  ·rw[he,q40];exact kj (lsd1 l0 l1 A B i) (hR _ rfl) hA
  ·rw[he,q40];exact kj (lsd2 l0 l1 A B i) (hR _ rfl) hA
 refine jT (lsa l0 l1 A B) (hR _ rfl) hA (fun a1 w1 hA=>yu ?_);refine Ct (fun i=>lsI l0 l1 A B i) (fun i=>i<=A.length/\JU A B=cif A B (A.length+1-i) i) (fun i=>A.length-i) (L:=kless31_n) (ks:=kless31_nt) (id:=0) (c:=yE kless31_n) (by kernel_rfl) 0 ⟨ju _,rfl⟩ hA (fun i a2 w2 hi hA=>?_);obtain⟨hi,he⟩:=hi;rw[show A.length+1-i=(A.length-i)+1 by omega] at he;have he:=he.trans (lessF_s A B (A.length-i) i);rcases jA (decide ((i:Int)<(A.length:Int))) with q9|q9
 ·have p9:=jh q9;rcases jA (decide ((i:Int)<(B.length:Int))) with q14|q14
  ·have p14:=jh q14;rw[q9,q14] at he;rcases jA (decide ((A.getD i default:Int)≠(B.getD i default:Int))) with q26|q26
   ·rw[q26] at he;rcases jA (decide ((A.getD i default:Int)<(B.getD i default:Int))) with q35|q35
    ·rw[show JU A B=decide ((A.getD i default:Int)<(B.getD i default:Int)) from he,q35];exact kj (lsr1 l0 l1 A B i) (hR _ rfl) hA
    ·rw[show JU A B=decide ((A.getD i default:Int)<(B.getD i default:Int)) from he,q35];exact kj (lsr2 l0 l1 A B i) (hR _ rfl) hA
   ·rw[q26] at he;exact jT (lsb l0 l1 A B i) (hR _ rfl) hA (fun a3 w3 hA=>jX (by kernel_rfl) ⟨i+1,⟨by omega,by rw[he,show A.length+1-(i+1)=A.length-i by omega];rfl⟩,hA,by omega⟩)
  ·rw[q9,q14] at he;exact jT (lsc2 l0 l1 A B i) (hR _ rfl) hA (fun a3 w3 hA=>kO _ (by kernel_rfl) (fin i _ _ he hA))
 ·rw[q9] at he;exact jT (lsc1 l0 l1 A B i) (hR _ rfl) hA (fun a3 w3 hA=>kO _ (by kernel_rfl) (fin i _ _ (by rw[he];rfl) hA))
theorem coc {b:Bool}{lo l0 l1:Nat}{w0:World}{A B:List Nat}(hN:cU) (hG:Gr w0) (hlo:lo<=w0.heap.size) (hA:A.length<=100000):jG (Cx b lo w0) (.call 31) [pLi l0 A,pLi l1 B] (vr (.bool (JU A B))) :=
 (less_ok hN l0 l1 A B hA).val hG hlo (cY Tryz.func31 (by kernel_rfl) rfl)
def conRC:Con:=r2 fun r j s k=>ck false (j+k<=10000) (vr (.int .i64 (jk r s)))
theorem cpk {lo:Nat}{w0:World}:∀ l r ob,conRC l=some (r,ob)->jE ob->jG (Cx false lo w0) (.call 30) l r:=by
 intro l res ob h ho;refine cfH h (cY Tryz.func30 (by kernel_rfl) rfl) (fun r j s k h w v1 v2 hb a1 z1 a2 z2=>?_);obtain⟨hk,rfl⟩:=Ug h ho;exact(Sym.rcmp_q v1 v2 r s (j+k) w a1 a2 (z1.le (by omega)) (z2.le (by omega)) (by omega)).mono fun _ _ h=>⟨_,h.1,h.2,Yf⟩
end Pe.F
end Go.Proofs.YtdopipkmcnkdjaaGreatDoor
