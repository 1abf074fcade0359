/- Part 32. -/
import Derived.Test.YtcgiaclelnmhbabGreatDoorE31
set_option linter.all false
noncomputable section

namespace Go.Proofs.YtcgiaclelnmhbabGreatDoor
open Go Go.RowKit Go.Proofs Lim
namespace Pe.F
noncomputable def kProves11_:List Kp:=[.code (codeOf Tryz.f11)]
noncomputable def kProves11_n:List Kp:=next kProves11_
noncomputable def kProves11_nl:List Kp:=[.code (jq kProves11_n)]
noncomputable def kProves11_nln:List Kp:=next kProves11_nl
noncomputable def kProves11_nlnn:List Kp:=next kProves11_nln
noncomputable def kProves11_nlnnl:List Kp:=[.code (jq kProves11_nlnn)]
noncomputable def kProves11_nlnnt:List Kp:=kProves11_nlnn.tail
noncomputable def kProves11_nlnnth:List Kp:=EQ 100 kProves11_nlnnt
noncomputable def kProves11_nt:List Kp:=kProves11_n.tail
noncomputable def kProves11_ntn:List Kp:=next kProves11_nt
noncomputable def kProves11_ntnl:List Kp:=[.code (jq kProves11_ntn)]
noncomputable def kProves11_ntnln:List Kp:=next kProves11_ntnl
noncomputable def kProves11_ntnlnn:List Kp:=next kProves11_ntnln
noncomputable def kProves11_ntnlnnl:List Kp:=[.code (jq kProves11_ntnlnn)]
noncomputable def kProves11_ntnlnnln:List Kp:=next kProves11_ntnlnnl
noncomputable def kProves11_ntnlnnlnn:List Kp:=next kProves11_ntnlnnln
noncomputable def kProves11_ntnlnnlnnl:List Kp:=[.code (jq kProves11_ntnlnnlnn)]
noncomputable def kProves11_ntnlnnlnnt:List Kp:=kProves11_ntnlnnlnn.tail
noncomputable def kProves11_ntnlnnlnnth:List Kp:=EQ 100 kProves11_ntnlnnlnnt
noncomputable def kProves11_ntnlnnlnnthn:List Kp:=next kProves11_ntnlnnlnnth
noncomputable def kProves11_ntnlnnt:List Kp:=kProves11_ntnlnn.tail
noncomputable def kProves11_ntnlnnth:List Kp:=EQ 100 kProves11_ntnlnnt
noncomputable def kProves11_ntnt:List Kp:=kProves11_ntn.tail
theorem df_no {B:List Int}{n:Int}{i:Nat}(hi:i<B.length) (h:CJ B n i=true):kW B n=false:=by unfold kW;rw[GW hi h];rfl
theorem df_yes {B:List Int}{n:Int}(h:∀ i,i<B.length->CJ B n i=false):kW B n=true:=by unfold kW;rw[yH h];rfl
theorem bd_low {B:List Int}{n:Int}{i:Nat}(h:B.getD i default<0):CJ B n i=true:=by
 unfold CJ;cases hf:frB 0 (B.getD i default) (n-1) with
 |false=>rfl
 |true=>have:=(yN.1 hf).1;omega
theorem bd_high {B:List Int}{n:Int}{i:Nat}(h:B.getD i default>=n):CJ B n i=true:=by
 unfold CJ;cases hf:frB 0 (B.getD i default) (n-1) with
 |false=>rfl
 |true=>have:=(yN.1 hf).2;omega
theorem bd_two {B:List Int}{n:Int}{i k:Nat}(hk:k<i) (h:B.getD k default=B.getD i default):CJ B n i=true:=by
 unfold CJ;rw[caO.2 ⟨k,hk,h⟩];cases frB 0 (B.getD i default) (n-1)<;>rfl
theorem bd_not {B:List Int}{n:Int}{i:Nat}(h1:¬ B.getD i default<0) (h2:¬ B.getD i default>=n) (h3:∀ k,k<i->B.getD k default≠B.getD i default):CJ B n i=false:=by
 unfold CJ;rw[yN.2 ⟨by omega,by omega⟩];cases hs:EV (zR B i [B.getD i default]) with
 |false=>rfl
 |true=>obtain⟨k,hk,h⟩:=caO.1 hs;exact absurd h (h3 k hk)
def sbB (T:List Tm) (J:List Jb) (B:List Int) (p t:Nat) (i:Nat):Bool:=kN T p t (J.getD (B.getD i default).toNat default).1 (J.getD (B.getD i default).toNat default).2
theorem chT {n:Nat}{f:Nat->Bool}:anyP (n+1) f=(anyP n f||f n):=by
 unfold anyP;rw[List.range_succ,List.any_append];simp
def Gi (T:List Tm) (J:List Jb) (B:List Int) (t:Nat):Nat->Int->Int
 |0,a=>a
 |p+1,a=>if anyP B.length (sbB T J B p t) then Gi T J B t p a+ku T p t else Gi T J B t p a
def Cc (T:List Tm) (J:List Jb) (B:List Int):Nat->Int
 |0=>0
 |t+1=>Gi T J B t (T.getD t default).2.length (Cc T J B t)
def zy (h:Nat->Int):Nat->Int
 |0=>0
 |n+1=>zy h n+h n
theorem cdw {h k:Nat->Int}:∀ n,zy (fun i=>h i+k i) n=zy h n+zy k n
 |0=>rfl
 |n+1=>by simp only[zy,cdw n];omega
theorem cak:∀ n,zy (fun _=>0) n=0
 |0=>rfl
 |n+1=>by simp only[zy,cak n];rfl
theorem cag {g:Nat->Nat->Int}:∀ n m,zy (fun p=>zy (g p) m) n=zy (fun t=>zy (fun p=>g p t) n) m
 |0,m=>(cak m).symm
 |n+1,m=>by
  simp only[zy];rw[cag n m,cdw]
def gZ (T:List Tm) (J:List Jb) (B:List Int) (p t:Nat):Int:=if anyP B.length (sbB T J B p t) then ku T p t else 0
theorem cfj {T:List Tm}{J:List Jb}{B:List Int}{t:Nat}{a:Int}:∀ n,Gi T J B t n a=a+zy (fun p=>gZ T J B p t) n
 |0=>by simp [Gi,zy]
 |n+1=>by
  have ih:=cfj (T:=T) (J:=J) (B:=B) (t:=t) (a:=a) n;have hg:gZ T J B n t=if anyP B.length (sbB T J B n t) then ku T n t else 0:=rfl
  simp only[Gi,zy];rw[ih,hg];split<;>omega
theorem cfH {T:List Tm}{J:List Jb}{B:List Int}(h:jY T=true):∀ n,n<=T.length->Cc T J B n=zy (fun t=>zy (fun p=>gZ T J B p t) (cal T)) n
 |0,_=>rfl
 |n+1,hn=>by
  simp only[Cc,zy];rw[cfj,cfH h n (by omega),((yL h).2.2 n (by omega)).1]
theorem cfW {T:List Tm}{J:List Jb}{B:List Int}{R:List Jb}(h:jY T=true) (hR:∀ p t,anyP R.length (suJ T (p:Nat) (t:Nat) R)=anyP B.length (sbB T J B p t)) {p:Nat}(hp:p<cal T) {a:Int}:∀ n,n<=T.length->GI T R p n a=a+zy (gZ T J B p) n
 |0,_=>by simp [GI,zy]
 |n+1,hn=>by
  have hs:=JU h (t:=n) (by omega) hp;have ih:=cfW (a:=a) h hR hp n (by omega);simp only[GI,Kf,zy,gZ,hR];rw[ih];split
  ·split<;>omega
  ·rename_i h0;have h1:¬ ku T p n>0:=fun h=>h0 (uk h);have h2:ku T p n=0:=by omega
   rw[h2];split<;>omega
theorem cfT {T:List Tm}{J:List Jb}{B:List Int}{R:List Jb}(h:jY T=true) (hR:∀ p t,anyP R.length (suJ T (p:Nat) (t:Nat) R)=anyP B.length (sbB T J B p t)):∀ n,n<=cal T->zq T R n=zy (fun p=>zy (gZ T J B p) T.length) n
 |0,_=>rfl
 |n+1,hn=>by
  simp only[zq,zy];rw[cfW h hR (by omega) T.length (cb _),cfT h hR n (by omega)]
theorem tot_eq {T:List Tm}{J:List Jb}{B:List Int}{R:List Jb}(h:jY T=true) (hR:∀ p t,anyP R.length (suJ T (p:Nat) (t:Nat) R)=anyP B.length (sbB T J B p t)):zq T R (cal T)=Cc T J B T.length:=by
 rw[cfT h hR _ (cb _),cfH h _ (cb _),cag]
theorem ceg {T:List Tm}{J:List Jb}{B:List Int}(h:jY T=true) {t:Nat}(ht:t<T.length) {a:Int}:∀ {n:Nat},n<=cal T->a<=Gi T J B t n a/\Gi T J B t n a<=a+20*n
 |0,_=>by simp [Gi]
 |n+1,hn=>by
  have ih:=ceg (J:=J) (B:=B) h ht (a:=a) (n:=n) (by omega);have hs:=JU h ht (p:=n) (by omega);unfold Gi;split<;>constructor<;>omega
theorem sum_le {T:List Tm}{J:List Jb}{B:List Int}(h:jY T=true):∀ {n:Nat},n<=T.length->0<=Cc T J B n/\Cc T J B n<=800*n
 |0,_=>by simp [Cc]
 |n+1,hn=>by
  have ih:=sum_le (J:=J) (B:=B) h (n:=n) (by omega);have hl:=((yL h).2.2 n (by omega)).1;have hr:=ceg (J:=J) (B:=B) h (t:=n) (by omega) (a:=Cc T J B n) (n:=(T.getD n default).2.length) (by omega);have:=(yL h).2.1;unfold Cc;constructor<;>omega
abbrev rdO (l0 l1:Nat×Nat) (l2:Nat×Bool) (l3:Nat×Nat) (J:List Jb) (T:List Tm) (B:List Int):Ws Dx:=[(0,.cls (.ls (lst l0.1 l0.2 2 J fJ))),(1,.cls (.ls (lst l1.1 l1.2 2 T (fTm l2)))),(2,.cls (.ls (lst l3.1 l3.2 1 B fz)))]
abbrev rdS:List (Nat×AV):=[(0,.val (.one (.sym 0 0))),(1,.val (.one (.sym 1 0))),(2,.val (.one (.sym 2 0)))]
abbrev sl1 (k:Nat) (n:Int):Nat×AV:=(k,.val (.one (.lit (ii n))))
abbrev rdI (l0 l1:Nat×Nat) (l2:Nat×Bool) (l3:Nat×Nat) (J:List Jb) (T:List Tm) (B:List Int) (i:Nat):St Dx:=⟨3,sl1 7 i::rdS,rdO l0 l1 l2 l3 J T B,[]⟩
abbrev rdN (l0 l1:Nat×Nat) (l2:Nat×Bool) (l3:Nat×Nat) (J:List Jb) (T:List Tm) (B:List Int) (i k:Nat):St Dx:=⟨3,sl1 7 i::sl1 8 k::rdS,rdO l0 l1 l2 l3 J T B,[]⟩
abbrev rdT (l0 l1:Nat×Nat) (l2:Nat×Bool) (l3:Nat×Nat) (J:List Jb) (T:List Tm) (B:List Int) (t:Nat) (s:Int):St Dx:=⟨3,sl1 9 s::sl1 10 t::rdS,rdO l0 l1 l2 l3 J T B,[]⟩
abbrev rdP (l0 l1:Nat×Nat) (l2:Nat×Bool) (l3:Nat×Nat) (J:List Jb) (T:List Tm) (B:List Int) (t p:Nat) (s:Int):St Dx:=⟨3,sl1 9 s::sl1 10 t::sl1 11 p::rdS,rdO l0 l1 l2 l3 J T B,[]⟩
abbrev rdQ (l0 l1:Nat×Nat) (l2:Nat×Bool) (l3:Nat×Nat) (J:List Jb) (T:List Tm) (B:List Int) (t p:Nat) (s:Int) (b:Bool) (i:Nat):St Dx:=⟨3,sl1 9 s::sl1 10 t::sl1 11 p::(12,.val (.one (.lit (.bool b))))::sl1 13 i::rdS,rdO l0 l1 l2 l3 J T B,[]⟩
theorem rda {w:World}(l0 l1:Nat×Nat) (l2:Nat×Bool) (l3:Nat×Nat) (J:List Jb) (T:List Tm) (B:List Int):run w ⟨[],[],kD l1 l2 T⟩ 11 100 kProves11_ (stA [pJs l0 J,pTs l1 l2 T,pNs l3 B]) (rdI l0 l1 l2 l3 J T B 0)=some (.normal,[sD w (.ls (lst l0.1 l0.2 2 J fJ)),sD w (.ls (lst l1.1 l1.2 2 T (fTm l2))),sD w (.ls (lst l3.1 l3.2 1 B fz)),ii (↑0:Int)=Value.int IntKind.i64 0]):=by kernel_rfl
theorem rdb {w:World}(l0 l1:Nat×Nat) (l2:Nat×Bool) (l3:Nat×Nat) (J:List Jb) (T:List Tm) (B:List Int) (i:Nat):run w ⟨[(11,17,true)],[],kD l1 l2 T⟩ 11 100 kProves11_nl (rdI l0 l1 l2 l3 J T B i) (rdI l0 l1 l2 l3 J T B i)=some (.normal,[decide ((i:Int)<(B.length:Int))=true,sD w (.ls (lst l0.1 l0.2 2 J fJ)),sD w (.ls (lst l1.1 l1.2 2 T (fTm l2))),sD w (.ls (lst l3.1 l3.2 1 B fz)),eA (ii (i:Int))]):=by kernel_rfl
theorem rdx {w:World}(l0 l1:Nat×Nat) (l2:Nat×Bool) (l3:Nat×Nat) (J:List Jb) (T:List Tm) (B:List Int) (i:Nat):run w ⟨[(11,17,false)],[],kD l1 l2 T⟩ 11 100 kProves11_nl (rdI l0 l1 l2 l3 J T B i) (rdI l0 l1 l2 l3 J T B i)=some (.exit 0,[decide ((i:Int)<(B.length:Int))=false,sD w (.ls (lst l0.1 l0.2 2 J fJ)),sD w (.ls (lst l1.1 l1.2 2 T (fTm l2))),sD w (.ls (lst l3.1 l3.2 1 B fz)),eA (ii (i:Int))]):=by kernel_rfl
theorem rdp {w:World}(l0 l1:Nat×Nat) (l2:Nat×Bool) (l3:Nat×Nat) (J:List Jb) (T:List Tm) (B:List Int) (i:Nat):runR w ⟨[(11,24,true)],[],kD l1 l2 T⟩ 11 100 Tryz.f11 kProves11_nln (rdI l0 l1 l2 l3 J T B i) (rB false)=some (.ret,[i<B.length,i<B.length,decide (B.getD i default<0)=true,eA (Value.bool false)]):=by kernel_rfl
theorem rdq {w:World}(l0 l1:Nat×Nat) (l2:Nat×Bool) (l3:Nat×Nat) (J:List Jb) (T:List Tm) (B:List Int) (i:Nat):runR w ⟨[(11,24,false),(11,32,true)],[],kD l1 l2 T⟩ 11 100 Tryz.f11 kProves11_nln (rdI l0 l1 l2 l3 J T B i) (rB false)=some (.ret,[i<B.length,i<B.length,decide (B.getD i default<0)=false,i<B.length,i<B.length,decide (B.getD i default>=(J.length:Int))=true,eA (Value.bool false)]):=by kernel_rfl
theorem rdc {w:World}(l0 l1:Nat×Nat) (l2:Nat×Bool) (l3:Nat×Nat) (J:List Jb) (T:List Tm) (B:List Int) (i:Nat):run w ⟨[(11,24,false),(11,32,false)],[],kD l1 l2 T⟩ 11 100 kProves11_nln (rdI l0 l1 l2 l3 J T B i) (rdN l0 l1 l2 l3 J T B i 0)=some (.normal,[i<B.length,i<B.length,decide (B.getD i default<0)=false,i<B.length,i<B.length,decide (B.getD i default>=(J.length:Int))=false,sD w (.ls (lst l0.1 l0.2 2 J fJ)),sD w (.ls (lst l1.1 l1.2 2 T (fTm l2))),sD w (.ls (lst l3.1 l3.2 1 B fz)),eA (ii (i:Int)),ii (↑0:Int)=Value.int IntKind.i64 0]):=by kernel_rfl
theorem rdn {w:World}(l0 l1:Nat×Nat) (l2:Nat×Bool) (l3:Nat×Nat) (J:List Jb) (T:List Tm) (B:List Int) (i k:Nat):run w ⟨[(11,36,true),(11,47,false)],[],kD l1 l2 T⟩ 11 100 kProves11_nlnnl (rdN l0 l1 l2 l3 J T B i k) (rdN l0 l1 l2 l3 J T B i (k+1))=some (.normal,[decide ((k:Int)<(i:Int))=true,k<B.length,k<B.length,i<B.length,i<B.length,decide (B.getD k default=B.getD i default)=false,ko ((k:Int)+1),sD w (.ls (lst l0.1 l0.2 2 J fJ)),sD w (.ls (lst l1.1 l1.2 2 T (fTm l2))),sD w (.ls (lst l3.1 l3.2 1 B fz)),eA (ii (i:Int)),ii (↑(k+1):Int)=Value.int IntKind.i64 ((k:Int)+1)]):=by kernel_rfl
theorem rdr {w:World}(l0 l1:Nat×Nat) (l2:Nat×Bool) (l3:Nat×Nat) (J:List Jb) (T:List Tm) (B:List Int) (i k:Nat):runR w ⟨[(11,36,true),(11,47,true)],[],kD l1 l2 T⟩ 11 100 Tryz.f11 kProves11_nlnnl (rdN l0 l1 l2 l3 J T B i k) (rB false)=some (.ret,[decide ((k:Int)<(i:Int))=true,k<B.length,k<B.length,i<B.length,i<B.length,decide (B.getD k default=B.getD i default)=true,eA (Value.bool false)]):=by kernel_rfl
theorem rdnx {w:World}(l0 l1:Nat×Nat) (l2:Nat×Bool) (l3:Nat×Nat) (J:List Jb) (T:List Tm) (B:List Int) (i k:Nat):run w ⟨[(11,36,false)],[],kD l1 l2 T⟩ 11 100 kProves11_nlnnl (rdN l0 l1 l2 l3 J T B i k) (rdN l0 l1 l2 l3 J T B i k)=some (.exit 2,[decide ((k:Int)<(i:Int))=false,sD w (.ls (lst l0.1 l0.2 2 J fJ)),sD w (.ls (lst l1.1 l1.2 2 T (fTm l2))),sD w (.ls (lst l3.1 l3.2 1 B fz)),eA (ii (i:Int)),eA (ii (k:Int))]):=by kernel_rfl
theorem rdi {w:World}(l0 l1:Nat×Nat) (l2:Nat×Bool) (l3:Nat×Nat) (J:List Jb) (T:List Tm) (B:List Int) (i k:Nat):run w ⟨[],[],kD l1 l2 T⟩ 11 100 kProves11_nlnnth (rdN l0 l1 l2 l3 J T B i k) (rdI l0 l1 l2 l3 J T B (i+1))=some (.normal,[ko ((i:Int)+1),sD w (.ls (lst l0.1 l0.2 2 J fJ)),sD w (.ls (lst l1.1 l1.2 2 T (fTm l2))),sD w (.ls (lst l3.1 l3.2 1 B fz)),ii (↑(i+1):Int)=Value.int IntKind.i64 ((i:Int)+1)]):=by kernel_rfl
theorem rde {w:World}(l0 l1:Nat×Nat) (l2:Nat×Bool) (l3:Nat×Nat) (J:List Jb) (T:List Tm) (B:List Int) (i:Nat):run w ⟨[],[],kD l1 l2 T⟩ 11 100 kProves11_nt (rdI l0 l1 l2 l3 J T B i) (rdT l0 l1 l2 l3 J T B 0 0)=some (.normal,[sD w (.ls (lst l0.1 l0.2 2 J fJ)),sD w (.ls (lst l1.1 l1.2 2 T (fTm l2))),sD w (.ls (lst l3.1 l3.2 1 B fz)),ii 0=Value.int IntKind.i64 0,ii (↑0:Int)=Value.int IntKind.i64 0]):=by kernel_rfl
theorem rea {w:World}(l0 l1:Nat×Nat) (l2:Nat×Bool) (l3:Nat×Nat) (J:List Jb) (T:List Tm) (B:List Int) (t:Nat) (s:Int):run w ⟨[(11,51,true)],[],kD l1 l2 T⟩ 11 100 kProves11_ntnl (rdT l0 l1 l2 l3 J T B t s) (rdT l0 l1 l2 l3 J T B t s)=some (.normal,[decide ((t:Int)<(T.length:Int))=true,sD w (.ls (lst l0.1 l0.2 2 J fJ)),sD w (.ls (lst l1.1 l1.2 2 T (fTm l2))),sD w (.ls (lst l3.1 l3.2 1 B fz)),ii s=ii s,eA (ii (t:Int))]):=by kernel_rfl
theorem rex {w:World}(l0 l1:Nat×Nat) (l2:Nat×Bool) (l3:Nat×Nat) (J:List Jb) (T:List Tm) (B:List Int) (t:Nat) (s:Int):run w ⟨[(11,51,false)],[],kD l1 l2 T⟩ 11 100 kProves11_ntnl (rdT l0 l1 l2 l3 J T B t s) (rdT l0 l1 l2 l3 J T B t s)=some (.exit 4,[decide ((t:Int)<(T.length:Int))=false,sD w (.ls (lst l0.1 l0.2 2 J fJ)),sD w (.ls (lst l1.1 l1.2 2 T (fTm l2))),sD w (.ls (lst l3.1 l3.2 1 B fz)),ii s=ii s,eA (ii (t:Int))]):=by kernel_rfl
theorem reb {w:World}(l0 l1:Nat×Nat) (l2:Nat×Bool) (l3:Nat×Nat) (J:List Jb) (T:List Tm) (B:List Int) (t:Nat) (s:Int):run w ⟨[],[],kD l1 l2 T⟩ 11 100 kProves11_ntnln (rdT l0 l1 l2 l3 J T B t s) (rdP l0 l1 l2 l3 J T B t 0 s)=some (.normal,[sD w (.ls (lst l0.1 l0.2 2 J fJ)),sD w (.ls (lst l1.1 l1.2 2 T (fTm l2))),sD w (.ls (lst l3.1 l3.2 1 B fz)),ii s=ii s,eA (ii (t:Int)),ii (↑0:Int)=Value.int IntKind.i64 0]):=by kernel_rfl
theorem rfa {w:World}(l0 l1:Nat×Nat) (l2:Nat×Bool) (l3:Nat×Nat) (J:List Jb) (T:List Tm) (B:List Int) (t p:Nat) (s:Int):run w ⟨[(11,61,true)],[],kD l1 l2 T⟩ 11 100 kProves11_ntnlnnl (rdP l0 l1 l2 l3 J T B t p s) (rdP l0 l1 l2 l3 J T B t p s)=some (.normal,[t<T.length,t<T.length,decide ((p:Int)<(↑(T.getD t default).2.length:Int))=true,sD w (.ls (lst l0.1 l0.2 2 J fJ)),sD w (.ls (lst l1.1 l1.2 2 T (fTm l2))),sD w (.ls (lst l3.1 l3.2 1 B fz)),ii s=ii s,eA (ii (t:Int)),eA (ii (p:Int))]):=by kernel_rfl
theorem rfx {w:World}(l0 l1:Nat×Nat) (l2:Nat×Bool) (l3:Nat×Nat) (J:List Jb) (T:List Tm) (B:List Int) (t p:Nat) (s:Int):run w ⟨[(11,61,false)],[],kD l1 l2 T⟩ 11 100 kProves11_ntnlnnl (rdP l0 l1 l2 l3 J T B t p s) (rdP l0 l1 l2 l3 J T B t p s)=some (.exit 6,[t<T.length,t<T.length,decide ((p:Int)<(↑(T.getD t default).2.length:Int))=false,sD w (.ls (lst l0.1 l0.2 2 J fJ)),sD w (.ls (lst l1.1 l1.2 2 T (fTm l2))),sD w (.ls (lst l3.1 l3.2 1 B fz)),ii s=ii s,eA (ii (t:Int)),eA (ii (p:Int))]):=by kernel_rfl
theorem rga {w:World}(l0 l1:Nat×Nat) (l2:Nat×Bool) (l3:Nat×Nat) (J:List Jb) (T:List Tm) (B:List Int) (t p:Nat) (s:Int):run w ⟨[],[],kD l1 l2 T⟩ 11 100 kProves11_ntnlnnln (rdP l0 l1 l2 l3 J T B t p s) (rdQ l0 l1 l2 l3 J T B t p s false 0)=some (.normal,[sD w (.ls (lst l0.1 l0.2 2 J fJ)),sD w (.ls (lst l1.1 l1.2 2 T (fTm l2))),sD w (.ls (lst l3.1 l3.2 1 B fz)),ii s=ii s,eA (ii (t:Int)),eA (ii (p:Int)),eA (Value.bool false),ii (↑0:Int)=Value.int IntKind.i64 0]):=by kernel_rfl
theorem rh1 {w:World}(l0 l1:Nat×Nat) (l2:Nat×Bool) (l3:Nat×Nat) (J:List Jb) (T:List Tm) (B:List Int) (t p:Nat) (s:Int) (i:Nat):run w ⟨[(11,67,true)],[],kD l1 l2 T⟩ 11 100 kProves11_ntnlnnlnnl (rdQ l0 l1 l2 l3 J T B t p s true i) (rdQ l0 l1 l2 l3 J T B t p s true (i+1))=some (.normal,[decide ((i:Int)<(B.length:Int))=true,ko ((i:Int)+1),sD w (.ls (lst l0.1 l0.2 2 J fJ)),sD w (.ls (lst l1.1 l1.2 2 T (fTm l2))),sD w (.ls (lst l3.1 l3.2 1 B fz)),ii s=ii s,eA (ii (t:Int)),eA (ii (p:Int)),eA (Value.bool true),ii (↑(i+1):Int)=Value.int IntKind.i64 ((i:Int)+1)]):=by kernel_rfl
theorem rh2 {w:World}(l0 l1:Nat×Nat) (l2:Nat×Bool) (l3:Nat×Nat) (J:List Jb) (T:List Tm) (B:List Int) (t p:Nat) (s:Int) (i:Nat):run w ⟨[(11,67,true),(11,83,true)],[(11,77)],kD l1 l2 T⟩ 11 100 kProves11_ntnlnnlnnl (rdQ l0 l1 l2 l3 J T B t p s false i) (rdQ l0 l1 l2 l3 J T B t p s true (i+1))=some (.normal,[decide ((i:Int)<(B.length:Int))=true,i<B.length,i<B.length,0<=B.getD i default,(B.getD i default).toNat<J.length,(B.getD i default).toNat<J.length,kN T (p:Int) (t:Int) (J.getD (B.getD i default).toNat default).1 (J.getD (B.getD i default).toNat default).2=true,Pat.one (Grp.cls (Dx.ls (lst l1.1 l1.2 2 T (fTm l2))))=pTs l1 l2 T,0<=(J.getD (B.getD i default).toNat default).1,(J.getD (B.getD i default).toNat default).1<=7,ko ((i:Int)+1),sD w (.ls (lst l0.1 l0.2 2 J fJ)),sD w (.ls (lst l1.1 l1.2 2 T (fTm l2))),sD w (.ls (lst l3.1 l3.2 1 B fz)),ii s=ii s,eA (ii (t:Int)),eA (ii (p:Int)),eA (Value.bool true),ii (↑(i+1):Int)=Value.int IntKind.i64 ((i:Int)+1)]):=by kernel_rfl
theorem rh3 {w:World}(l0 l1:Nat×Nat) (l2:Nat×Bool) (l3:Nat×Nat) (J:List Jb) (T:List Tm) (B:List Int) (t p:Nat) (s:Int) (i:Nat):run w ⟨[(11,67,true),(11,83,false)],[(11,77)],kD l1 l2 T⟩ 11 100 kProves11_ntnlnnlnnl (rdQ l0 l1 l2 l3 J T B t p s false i) (rdQ l0 l1 l2 l3 J T B t p s false (i+1))=some (.normal,[decide ((i:Int)<(B.length:Int))=true,i<B.length,i<B.length,0<=B.getD i default,(B.getD i default).toNat<J.length,(B.getD i default).toNat<J.length,kN T (p:Int) (t:Int) (J.getD (B.getD i default).toNat default).1 (J.getD (B.getD i default).toNat default).2=false,Pat.one (Grp.cls (Dx.ls (lst l1.1 l1.2 2 T (fTm l2))))=pTs l1 l2 T,0<=(J.getD (B.getD i default).toNat default).1,(J.getD (B.getD i default).toNat default).1<=7,ko ((i:Int)+1),sD w (.ls (lst l0.1 l0.2 2 J fJ)),sD w (.ls (lst l1.1 l1.2 2 T (fTm l2))),sD w (.ls (lst l3.1 l3.2 1 B fz)),ii s=ii s,eA (ii (t:Int)),eA (ii (p:Int)),eA (Value.bool false),ii (↑(i+1):Int)=Value.int IntKind.i64 ((i:Int)+1)]):=by kernel_rfl
theorem rhx {w:World}(l0 l1:Nat×Nat) (l2:Nat×Bool) (l3:Nat×Nat) (J:List Jb) (T:List Tm) (B:List Int) (t p:Nat) (s:Int) (b:Bool) (i:Nat):run w ⟨[(11,67,false)],[],kD l1 l2 T⟩ 11 100 kProves11_ntnlnnlnnl (rdQ l0 l1 l2 l3 J T B t p s b i) (rdQ l0 l1 l2 l3 J T B t p s b i)=some (.exit 8,[decide ((i:Int)<(B.length:Int))=false,sD w (.ls (lst l0.1 l0.2 2 J fJ)),sD w (.ls (lst l1.1 l1.2 2 T (fTm l2))),sD w (.ls (lst l3.1 l3.2 1 B fz)),ii s=ii s,eA (ii (t:Int)),eA (ii (p:Int)),eA (Value.bool b),eA (ii (i:Int))]):=by kernel_rfl
theorem rk1 {w:World}(l0 l1:Nat×Nat) (l2:Nat×Bool) (l3:Nat×Nat) (J:List Jb) (T:List Tm) (B:List Int) (t p:Nat) (s:Int) (i:Nat):run w ⟨[],[],kD l1 l2 T⟩ 11 100 kProves11_ntnlnnlnnth (rdQ l0 l1 l2 l3 J T B t p s true i) (rdP l0 l1 l2 l3 J T B t p (s+ku T p t))=some (.normal,[t<T.length,t<T.length,p<(T.getD t default).2.length,p<(T.getD t default).2.length,ko (s+(T.getD t default).2.getD p default),sD w (.ls (lst l0.1 l0.2 2 J fJ)),sD w (.ls (lst l1.1 l1.2 2 T (fTm l2))),sD w (.ls (lst l3.1 l3.2 1 B fz)),ii (s+ku T (p:Int) (t:Int))=Value.int IntKind.i64 (s+(T.getD t default).2.getD p default),eA (ii (t:Int)),eA (ii (p:Int))]):=by kernel_rfl
theorem rk2 {w:World}(l0 l1:Nat×Nat) (l2:Nat×Bool) (l3:Nat×Nat) (J:List Jb) (T:List Tm) (B:List Int) (t p:Nat) (s:Int) (i:Nat):run w ⟨[],[],kD l1 l2 T⟩ 11 100 kProves11_ntnlnnlnnth (rdQ l0 l1 l2 l3 J T B t p s false i) (rdP l0 l1 l2 l3 J T B t p s)=some (.normal,[sD w (.ls (lst l0.1 l0.2 2 J fJ)),sD w (.ls (lst l1.1 l1.2 2 T (fTm l2))),sD w (.ls (lst l3.1 l3.2 1 B fz)),ii s=ii s,eA (ii (t:Int)),eA (ii (p:Int))]):=by kernel_rfl
theorem rl {w:World}(l0 l1:Nat×Nat) (l2:Nat×Bool) (l3:Nat×Nat) (J:List Jb) (T:List Tm) (B:List Int) (t p:Nat) (s:Int):run w ⟨[],[],kD l1 l2 T⟩ 11 100 kProves11_ntnlnnlnnthn (rdP l0 l1 l2 l3 J T B t p s) (rdP l0 l1 l2 l3 J T B t (p+1) s)=some (.normal,[ko ((p:Int)+1),sD w (.ls (lst l0.1 l0.2 2 J fJ)),sD w (.ls (lst l1.1 l1.2 2 T (fTm l2))),sD w (.ls (lst l3.1 l3.2 1 B fz)),ii s=ii s,eA (ii (t:Int)),ii (↑(p+1):Int)=Value.int IntKind.i64 ((p:Int)+1)]):=by kernel_rfl
theorem rm {w:World}(l0 l1:Nat×Nat) (l2:Nat×Bool) (l3:Nat×Nat) (J:List Jb) (T:List Tm) (B:List Int) (t p:Nat) (s:Int):run w ⟨[],[],kD l1 l2 T⟩ 11 100 kProves11_ntnlnnth (rdP l0 l1 l2 l3 J T B t p s) (rdT l0 l1 l2 l3 J T B (t+1) s)=some (.normal,[ko ((t:Int)+1),sD w (.ls (lst l0.1 l0.2 2 J fJ)),sD w (.ls (lst l1.1 l1.2 2 T (fTm l2))),sD w (.ls (lst l3.1 l3.2 1 B fz)),ii s=ii s,ii (↑(t+1):Int)=Value.int IntKind.i64 ((t:Int)+1)]):=by kernel_rfl
theorem rnt {w:World}(l0 l1:Nat×Nat) (l2:Nat×Bool) (l3:Nat×Nat) (J:List Jb) (T:List Tm) (B:List Int) (t:Nat) (s:Int):runR w ⟨[(11,99,true)],[],kD l1 l2 T⟩ 11 100 Tryz.f11 kProves11_ntnt (rdT l0 l1 l2 l3 J T B t s) (rB true)=some (.ret,[decide ((B.length:Int)>s)=true,eA (Value.bool true)]):=by kernel_rfl
theorem rnf {w:World}(l0 l1:Nat×Nat) (l2:Nat×Bool) (l3:Nat×Nat) (J:List Jb) (T:List Tm) (B:List Int) (t:Nat) (s:Int):runR w ⟨[(11,99,false)],[],kD l1 l2 T⟩ 11 100 Tryz.f11 kProves11_ntnt (rdT l0 l1 l2 l3 J T B t s) (rB false)=some (.ret,[decide ((B.length:Int)>s)=false,eA (Value.bool false)]):=by kernel_rfl
def pvB (J:List Jb) (T:List Tm) (B:List Int):Bool:=kW B J.length&&decide ((B.length:Int)>Cc T J B T.length)
theorem rp_ok (hN:cU) (l0 l1:Nat×Nat) (l2:Nat×Bool) (l3:Nat×Nat) (J:List Jb) (T:List Tm) (B:List Int) (hl:J.length<=1000000) (hb:B.length<=1000000) (hJ:kq J=true) (hT:jY T=true) (hk:Sk8 T):uG 11 [pJs l0 J,pTs l1 l2 T,pNs l3 B] (fun _=>rB (pvB J T B)):=by
 intro w vs hG hp;refine kM hG hN (ex:=(kD l1 l2 T)) (cfP hN hG (cb _) hT hk) (fn:=Tryz.f11) Tryz.func11 (c:=codeOf Tryz.f11) (by kernel_rfl) (args:=[pJs l0 J,pTs l1 l2 T,pNs l3 B]) (by kernel_rfl) hp (fun hR _ hA=>?_);have hno:∀ i,i<B.length->CJ B J.length i=true->pvB J T B=false:=fun i hi h=>by unfold pvB;rw[df_no hi h];rfl
 refine cZ (rda l0 l1 l2 l3 J T B) (hR _ rfl) hA (fun a w1 hA=>jw ?_);refine kb (fun i=>rdI l0 l1 l2 l3 J T B i) (fun i=>i<=B.length/\∀ k,k<i->CJ B J.length k=false) (fun i=>B.length-i) (L:=kProves11_n) (ks:=kProves11_nt) (id:=0) (c:=jq kProves11_n) (by kernel_rfl) 0 ⟨cQ _,by omega⟩ hA (fun i a2 w2 hi hA=>?_);rcases cu (decide ((i:Int)<(B.length:Int))) with q17|q17
 ·have p17:=cH q17;have hi1:i<B.length:=by omega
  refine cZ (rdb l0 l1 l2 l3 J T B i) (hR _ rfl) hA (fun a3 w3 hA=>jw ?_);rcases cu (decide (B.getD i default<0)) with q24|q24
  ·rw[hno i hi1 (bd_low (cH q24))];exact cS (rdp l0 l1 l2 l3 J T B i) (hR _ rfl) hA (by (repeat' (first|exact trivial|apply And.intro))<;>first|exact cE.refl _ _|exact fun _ _=>cL.refl _ _|exact ce rfl|exact cg _ _|exact ci _ _|(with_reducible assumption)|omega|with_reducible rfl|(simp only[cc];omega)|(intro j hj;exact absurd hj (cj _))|exact q24|rfl)
  rcases cu (decide (B.getD i default>=(J.length:Int))) with q32|q32
  ·rw[hno i hi1 (bd_high (cH q32))];exact cS (rdq l0 l1 l2 l3 J T B i) (hR _ rfl) hA (by (repeat' (first|exact trivial|apply And.intro))<;>first|exact cE.refl _ _|exact fun _ _=>cL.refl _ _|exact ce rfl|exact cg _ _|exact ci _ _|(with_reducible assumption)|omega|with_reducible rfl|(simp only[cc];omega)|(intro j hj;exact absurd hj (cj _))|exact q24|exact q32|rfl)
  refine cZ (rdc l0 l1 l2 l3 J T B i) (hR _ rfl) hA (fun a3 w3 hA=>jw ?_) (by (repeat' (first|exact trivial|apply And.intro))<;>first|exact cE.refl _ _|exact fun _ _=>cL.refl _ _|exact ce rfl|exact cg _ _|exact ci _ _|(with_reducible assumption)|omega|with_reducible rfl|(simp only[cc];omega)|(intro j hj;exact absurd hj (cj _))|exact q24|exact q32|rfl);refine kb (fun k=>rdN l0 l1 l2 l3 J T B i k) (fun k=>k<=i/\∀ j,j<k->B.getD j default≠B.getD i default) (fun k=>i-k) (L:=kProves11_nlnn) (ks:=kProves11_nlnnt) (id:=2) (c:=jq kProves11_nlnn) (by kernel_rfl) 0 ⟨cQ _,by omega⟩ hA (fun k a4 w4 hk1 hA=>?_);rcases cu (decide ((k:Int)<(i:Int))) with q36|q36
  ·have p36:=cH q36;have hk2:k<i:=by omega
   have hk3:k<B.length:=by omega
   rcases cu (decide (B.getD k default=B.getD i default)) with q47|q47
   ·rw[hno i hi1 (bd_two hk2 (cH q47))];exact cS (rdr l0 l1 l2 l3 J T B i k) (hR _ rfl) hA (by (repeat' (first|exact trivial|apply And.intro))<;>first|exact cE.refl _ _|exact fun _ _=>cL.refl _ _|exact ce rfl|exact cg _ _|exact ci _ _|(with_reducible assumption)|omega|with_reducible rfl|(simp only[cc];omega)|(intro j hj;exact absurd hj (cj _))|exact q36|exact q47|rfl)
   ·refine cZ (rdn l0 l1 l2 l3 J T B i k) (hR _ rfl) hA (fun a5 w5 hA=>jc (by kernel_rfl) ⟨k+1,⟨hk2,fun j hj=>by rcases Nat.lt_succ_iff_lt_or_eq.1 hj with h|rfl;exact hk1.2 j h;exact cO q47⟩,hA,by omega⟩) (by (repeat' (first|exact trivial|apply And.intro))<;>first|exact cE.refl _ _|exact fun _ _=>cL.refl _ _|exact ce rfl|exact cg _ _|exact ci _ _|(with_reducible assumption)|omega|with_reducible rfl|(simp only[cc];omega)|(intro j hj;exact absurd hj (cj _))|exact q36|exact q47|rfl)
  ·have p36:=cO q36;refine cZ (rdnx l0 l1 l2 l3 J T B i k) (hR _ rfl) hA (fun a5 w5 hA=>jp _ (by kernel_rfl) ?_) (by (repeat' (first|exact trivial|apply And.intro))<;>first|exact cE.refl _ _|exact fun _ _=>cL.refl _ _|exact ce rfl|exact cg _ _|exact ci _ _|(with_reducible assumption)|omega|with_reducible rfl|(simp only[cc];omega)|(intro j hj;exact absurd hj (cj _))|exact q36|rfl);refine zr 100 (kProves11_nlnnt) ?_;refine cZ (rdi l0 l1 l2 l3 J T B i k) (hR _ rfl) hA (fun a6 w6 hA=>jc (by kernel_rfl) ⟨i+1,⟨hi1,fun j hj=>by rcases Nat.lt_succ_iff_lt_or_eq.1 hj with h|rfl;exact hi.2 j h;exact bd_not (cO q24) (cO q32) (fun m hm=>hk1.2 m (by omega))⟩,hA,by omega⟩)
 ·have p17:=cO q17;have hgood:∀ k,k<B.length->CJ B J.length k=false:=fun k hk=>hi.2 k (by omega);have hpv:pvB J T B=decide ((B.length:Int)>Cc T J B T.length):=by unfold pvB;rw[df_yes hgood];rfl
  have hin:∀ k,k<B.length->0<=B.getD k default/\(B.getD k default).toNat<J.length:=fun k hk=>by
   have:=hgood k hk;unfold CJ at this;simp only[cbq,Bool.not_eq_false',yN] at this;constructor<;>omega
  rw[hpv];refine cZ (rdx l0 l1 l2 l3 J T B i) (hR _ rfl) hA (fun a3 w3 hA=>jp _ (by kernel_rfl) ?_);refine cZ (rde l0 l1 l2 l3 J T B i) (hR _ rfl) hA (fun a3 w3 hA=>jw ?_);have hcal:=(yL hT).2.1;have hT8:=(yL hT).1;refine kb (fun t=>rdT l0 l1 l2 l3 J T B t (Cc T J B t)) (fun t=>t<=T.length) (fun t=>T.length-t) (L:=kProves11_ntn) (ks:=kProves11_ntnt) (id:=4) (c:=jq kProves11_ntn) (by kernel_rfl) 0 (cQ _) hA (fun t a4 w4 ht hA=>?_);rcases cu (decide ((t:Int)<(T.length:Int))) with q51|q51
  ·have p51:=cH q51;have ht1:t<T.length:=by omega
   have hlen:=((yL hT).2.2 t ht1).1;have hsm:=sum_le (J:=J) (B:=B) hT (n:=t) (by omega);refine cZ (rea l0 l1 l2 l3 J T B t _) (hR _ rfl) hA (fun a5 w5 hA=>jw ?_);refine cZ (reb l0 l1 l2 l3 J T B t _) (hR _ rfl) hA (fun a5 w5 hA=>jw ?_);refine kb (fun p=>rdP l0 l1 l2 l3 J T B t p (Gi T J B t p (Cc T J B t))) (fun p=>p<=(T.getD t default).2.length) (fun p=>(T.getD t default).2.length-p) (L:=kProves11_ntnlnn) (ks:=kProves11_ntnlnnt) (id:=6) (c:=jq kProves11_ntnlnn) (by kernel_rfl) 0 (cQ _) hA (fun p a6 w6 hp hA=>?_);rcases cu (decide ((p:Int)<((T.getD t default).2.length:Int))) with q61|q61
   ·have p61:=cH q61;have hp1:p<(T.getD t default).2.length:=by omega
    have hcl:=ceg (J:=J) (B:=B) hT ht1 (a:=Cc T J B t) (n:=p) (by omega);have hsl:=JU hT ht1 (p:=p) (by omega);have g3:ko (Gi T J B t p (Cc T J B t)+ku T p t):=by constructor<;>omega
    refine cZ (rfa l0 l1 l2 l3 J T B t p _) (hR _ rfl) hA (fun a7 w7 hA=>jw ?_) (by (repeat' (first|exact trivial|apply And.intro))<;>first|exact cE.refl _ _|exact fun _ _=>cL.refl _ _|exact ce rfl|exact cg _ _|exact ci _ _|(with_reducible assumption)|omega|with_reducible rfl|(simp only[cc];omega)|(intro j hj;exact absurd hj (cj _))|exact q61|rfl);refine cZ (rga l0 l1 l2 l3 J T B t p _) (hR _ rfl) hA (fun a7 w7 hA=>jw ?_);refine kb (fun i=>rdQ l0 l1 l2 l3 J T B t p (Gi T J B t p (Cc T J B t)) (anyP i (sbB T J B p t)) i) (fun i=>i<=B.length) (fun i=>B.length-i) (L:=kProves11_ntnlnnlnn) (ks:=kProves11_ntnlnnlnnt) (id:=8) (c:=jq kProves11_ntnlnnlnn) (by kernel_rfl) 0 (cQ _) hA (fun i a8 w8 hi2 hA=>?_);rcases cu (decide ((i:Int)<(B.length:Int))) with q67|q67
    ·have p67:=cH q67;have hi3:i<B.length:=by omega
     have hx:=hin i hi3;have hac:=(YI hJ).2 _ hx.2;have hs:=chT (n:=i) (f:=sbB T J B p t);rcases cu (anyP i (sbB T J B p t)) with qa|qa
     ·rw[qa] at hA hs;refine cZ (rh1 l0 l1 l2 l3 J T B t p _ i) (hR _ rfl) hA (fun a9 w9 hA=>jc (by kernel_rfl) ⟨i+1,hi3,?_,by omega⟩) (by (repeat' (first|exact trivial|apply And.intro))<;>first|exact cE.refl _ _|exact fun _ _=>cL.refl _ _|exact ce rfl|exact cg _ _|exact ci _ _|(with_reducible assumption)|omega|with_reducible rfl|(simp only[cc];omega)|(intro j hj;exact absurd hj (cj _))|exact q67|rfl);rw[show anyP (i+1) (sbB T J B p t)=true from hs];exact hA
     ·rw[qa] at hA hs;rcases cu (sbB T J B p t i) with q83|q83
      ·refine cZ (rh2 l0 l1 l2 l3 J T B t p _ i) (hR _ rfl) hA (fun a9 w9 hA=>jc (by kernel_rfl) ⟨i+1,hi3,?_,by omega⟩) (by (repeat' (first|exact trivial|apply And.intro))<;>first|exact cE.refl _ _|exact fun _ _=>cL.refl _ _|exact ce rfl|exact cg _ _|exact ci _ _|(with_reducible assumption)|omega|with_reducible rfl|(simp only[cc];omega)|(intro j hj;exact absurd hj (cj _))|exact q67|exact q83|exact hx.1|exact hx.2|exact hac.1|exact hac.2.1|rfl);rw[show anyP (i+1) (sbB T J B p t)=true by rw[hs,q83];rfl];exact hA
      ·refine cZ (rh3 l0 l1 l2 l3 J T B t p _ i) (hR _ rfl) hA (fun a9 w9 hA=>jc (by kernel_rfl) ⟨i+1,hi3,?_,by omega⟩) (by (repeat' (first|exact trivial|apply And.intro))<;>first|exact cE.refl _ _|exact fun _ _=>cL.refl _ _|exact ce rfl|exact cg _ _|exact ci _ _|(with_reducible assumption)|omega|with_reducible rfl|(simp only[cc];omega)|(intro j hj;exact absurd hj (cj _))|exact q67|exact q83|exact hx.1|exact hx.2|exact hac.1|exact hac.2.1|rfl);rw[show anyP (i+1) (sbB T J B p t)=false by rw[hs,q83];rfl];exact hA
    ·have p67:=cO q67;obtain rfl:i=B.length:=by omega
     refine cZ (rhx l0 l1 l2 l3 J T B t p _ _ B.length) (hR _ rfl) hA (fun a9 w9 hA=>jp _ (by kernel_rfl) ?_) (by (repeat' (first|exact trivial|apply And.intro))<;>first|exact cE.refl _ _|exact fun _ _=>cL.refl _ _|exact ce rfl|exact cg _ _|exact ci _ _|(with_reducible assumption)|omega|with_reducible rfl|(simp only[cc];omega)|(intro j hj;exact absurd hj (cj _))|exact q67|rfl);refine zr 100 (kProves11_ntnlnnlnnt) ?_;rcases cu (anyP B.length (sbB T J B p t)) with qa|qa
     ·rw[qa] at hA;refine cZ (rk1 l0 l1 l2 l3 J T B t p _ B.length) (hR _ rfl) hA (fun a9 w9 hA=>jw ?_) (by (repeat' (first|exact trivial|apply And.intro))<;>first|exact cE.refl _ _|exact fun _ _=>cL.refl _ _|exact ce rfl|exact cg _ _|exact ci _ _|(with_reducible assumption)|omega|with_reducible rfl|(simp only[cc];omega)|(intro j hj;exact absurd hj (cj _))|exact g3|exact g3.1|exact g3.2|rfl);refine cZ (rl l0 l1 l2 l3 J T B t p _) (hR _ rfl) hA (fun a9 w9 hA=>jc (by kernel_rfl) ⟨p+1,hp1,?_,by omega⟩);rw[show Gi T J B t (p+1) (Cc T J B t)=Gi T J B t p (Cc T J B t)+ku T p t from cq qa];exact hA
     ·rw[qa] at hA;refine cZ (rk2 l0 l1 l2 l3 J T B t p _ B.length) (hR _ rfl) hA (fun a9 w9 hA=>jw ?_);refine cZ (rl l0 l1 l2 l3 J T B t p _) (hR _ rfl) hA (fun a9 w9 hA=>jc (by kernel_rfl) ⟨p+1,hp1,?_,by omega⟩);rw[show Gi T J B t (p+1) (Cc T J B t)=Gi T J B t p (Cc T J B t) from cf (by rw[qa];exact YN)];exact hA
   ·have p61:=cO q61;obtain rfl:p=(T.getD t default).2.length:=by omega
    refine cZ (rfx l0 l1 l2 l3 J T B t _ _) (hR _ rfl) hA (fun a7 w7 hA=>jp _ (by kernel_rfl) ?_) (by (repeat' (first|exact trivial|apply And.intro))<;>first|exact cE.refl _ _|exact fun _ _=>cL.refl _ _|exact ce rfl|exact cg _ _|exact ci _ _|(with_reducible assumption)|omega|with_reducible rfl|(simp only[cc];omega)|(intro j hj;exact absurd hj (cj _))|exact q61|rfl);refine zr 100 (kProves11_ntnlnnt) ?_;refine cZ (rm l0 l1 l2 l3 J T B t _ _) (hR _ rfl) hA (fun a7 w7 hA=>jc (by kernel_rfl) ⟨t+1,ht1,hA,by omega⟩)
  ·have p51:=cO q51;obtain rfl:t=T.length:=by omega
   refine cZ (rex l0 l1 l2 l3 J T B T.length _) (hR _ rfl) hA (fun a5 w5 hA=>jp _ (by kernel_rfl) ?_);rcases cu (decide ((B.length:Int)>Cc T J B T.length)) with q99|q99
   ·rw[q99];exact cS (rnt l0 l1 l2 l3 J T B T.length _) (hR _ rfl) hA (by (repeat' (first|exact trivial|apply And.intro))<;>first|exact cE.refl _ _|exact fun _ _=>cL.refl _ _|exact ce rfl|exact cg _ _|exact ci _ _|(with_reducible assumption)|omega|with_reducible rfl|(simp only[cc];omega)|(intro j hj;exact absurd hj (cj _))|exact q99|rfl)
   ·rw[q99];exact cS (rnf l0 l1 l2 l3 J T B T.length _) (hR _ rfl) hA (by (repeat' (first|exact trivial|apply And.intro))<;>first|exact cE.refl _ _|exact fun _ _=>cL.refl _ _|exact ce rfl|exact cg _ _|exact ci _ _|(with_reducible assumption)|omega|with_reducible rfl|(simp only[cc];omega)|(intro j hj;exact absurd hj (cj _))|exact q99|rfl)
end Pe.F
end Go.Proofs.YtcgiaclelnmhbabGreatDoor
