/- Part 30. -/
import Derived.Test.YtokieocpdcngcabGreatDoorV29
set_option linter.all false
open Bool (eq_false_or_eq_true)
open List (length_map range_succ)
open Nat (eq_zero_or_pos le_refl not_lt_zero zero_le)
noncomputable section

namespace Go.Proofs.YtokieocpdcngcabGreatDoor
open Go Go.RowKit Go.Proofs Lim
namespace Pe
def cai:Nat->List Kp->List Kp
 |n+1,k::ks=>match k with
  |.code (.seq x y)=>cai n (.code x::.code y::ks)
  |k=>k::cai n ks
 |_,ks=>ks
def blkK:List Kp->List Kp
 |.code (.block id c)::ks=>.code c::.endB id::ks
 |ks=>ks
section
variable {F:Fence}{m:Nat}{P:Program}{Q:Exit->Act->World->Prop}
theorem cfe {k:Kp}{ks ks':List Kp}(h:∀ e a w,after F m P ks' Q e a w->after F m P ks Q e a w) {e:Exit}{a:Act}{w:World}(hq:after F m P (k::ks') Q e a w):after F m P (k::ks) Q e a w:=by
 cases k with
 |code c =>
  cases e with
  |normal=>exact wpIn_mono hq h
  |_=>exact h _ a w hq
 |endB id =>
  cases e with
  |exit j =>
   simp only[after,Exit.inBlock] at hq ⊢;split
   ·rename_i hj;rw[if_pos hj] at hq;exact h _ a w hq
   ·rename_i hj;rw[if_neg hj] at hq;exact h _ a w hq
  |_=>exact h _ a w hq
theorem JW:∀ (n:Nat) (ks:List Kp) {e:Exit}{a:Act}{w:World},after F m P (cai n ks) Q e a w->after F m P ks Q e a w
 |0,ks,e,a,w,h=>by cases ks<;>exact h
 |n+1,[],e,a,w,h=>h
 |n+1,k::ks,e,a,w,h=>by
  unfold cai at h;split at h
  ·rename_i x y;have ih:=JW n (.code x::.code y::ks) h;cases e with
   |normal=>exact wpIn_seq ih
   |_=>exact ih
  ·exact cfe (fun e a w h=>JW n ks h) h
theorem blk_is {ks:List Kp}{a:Act}{w:World}(h:after F m P (blkK ks) Q .normal a w):after F m P ks Q .normal a w:=by
 unfold blkK at h;split at h
 ·exact wpIn_block h
 ·exact h
theorem ceU:∀ (k:Nat) (ks:List Kp),after F m P ks Q=after F m P (ks.take k) (after F m P (ks.drop k) Q)
 |0,ks=>rfl
 |k+1,[]=>rfl
 |k+1,.code c::ks=>by
  show Exit.then (fun a w=>c.wpIn F m P (after F m P ks Q) a w) (after F m P ks Q)=Exit.then (fun a w=>c.wpIn F m P (after F m P (ks.take k) (after F m P (ks.drop k) Q)) a w) (after F m P (ks.take k) (after F m P (ks.drop k) Q));rw[← ceU k ks]
 |k+1,.endB id::ks=>by
  show Exit.inBlock id (after F m P ks Q)=Exit.inBlock id (after F m P (ks.take k) (after F m P (ks.drop k) Q));rw[← ceU k ks]
theorem cci (k:Nat) {ks:List Kp}{e:Exit}{a:Act}{w:World}(h:after F m P (ks.take k) (after F m P (ks.drop k) Q) e a w):after F m P ks Q e a w:=by
 rw[ceU k ks];exact h
end
end Pe
namespace Pe
noncomputable def kMovingLanes3_:List Kp:=[.code (codeOf Tryz.f3)]
noncomputable def kMovingLanes3_n:List Kp:=next kMovingLanes3_
noncomputable def kMovingLanes3_nl:List Kp:=[.code (kZ kMovingLanes3_n)]
noncomputable def kMovingLanes3_nt:List Kp:=kMovingLanes3_n.tail
noncomputable def kMovingLanes3_ntn:List Kp:=next kMovingLanes3_nt
noncomputable def kMovingLanes3_ntnl:List Kp:=[.code (kZ kMovingLanes3_ntn)]
noncomputable def kMovingLanes3_ntnls:List Kp:=cai 100 kMovingLanes3_ntnl
noncomputable def kMovingLanes3_ntnlsf2:List Kp:=kMovingLanes3_ntnls.take 2
noncomputable def kMovingLanes3_ntnlsd2:List Kp:=kMovingLanes3_ntnls.drop 2
noncomputable def kMovingLanes3_ntnlsd2b:List Kp:=blkK kMovingLanes3_ntnlsd2
noncomputable def kMovingLanes3_ntnlsd2bs:List Kp:=cai 100 kMovingLanes3_ntnlsd2b
noncomputable def kMovingLanes3_ntnlsd2bsf3:List Kp:=kMovingLanes3_ntnlsd2bs.take 3
noncomputable def kMovingLanes3_ntnlsd2bsd3:List Kp:=kMovingLanes3_ntnlsd2bs.drop 3
noncomputable def kMovingLanes3_ntnlsd2bsd3n:List Kp:=next kMovingLanes3_ntnlsd2bsd3
noncomputable def kMovingLanes3_ntnt:List Kp:=kMovingLanes3_ntn.tail
abbrev argM (r0 r1:Nat) (E:List E2) (T:List Tx):List (Pat Dx):=[.one (.cls (.ls (lst 0 r0 2 E fE))),.one (.cls (.ls (lst 0 r1 1 T fT)))]
abbrev nq2 (x:E2):R2:=(nq x.1,nq x.2)
abbrev nb2 (x:E2):R2:=btw (nq2 x)
abbrev XL (E:List E2):List R2:=E.map nq2
abbrev YL (E:List E2):List R2:=E.map nb2
abbrev FL (T:List Tx):List Rat:=T.map nq
abbrev ngT (T:List Tx) (i:Nat):Bool:=decide (kG (nq (T.getD i default))<0)
abbrev b0T (E:List E2) (T:List Tx):Bool:=decide ((E.length:Int)>8)||decide ((E.length:Int)≠(T.length:Int))
def bdT (E:List E2) (T:List Tx) (i:Nat):Bool:=b0T E T||anyP i (ngT T)
abbrev lmM (r0 r1:Nat) (E:List E2) (T:List Tx) (i:Nat):Ws Dx:=[(0,.cls (.ls (lst 0 r0 2 E fE))),(1,.cls (.ls (lst 0 r1 1 T fT))),(2,.gl 36 8 i (fun j=>fQ (nq2 (E.getD j default)))),(3,.gl 42 6 i (fun j=>fR (nb2 (E.getD j default))))]
abbrev lmA (r0 r1:Nat) (E:List E2) (T:List Tx) (i:Nat):St Dx:=⟨4,[(0,.val (.one (.sym 0 0))),(1,.val (.one (.sym 1 0))),(5,.val (.one (.fn 2))),(6,.val (.one (.fn 3))),(7,.val (.one (.lit (ii (i:Int)))))],lmM r0 r1 E T i,[]⟩
abbrev lmB (b:Bool) (r0 r1:Nat) (E:List E2) (T:List Tx) (i:Nat):St Dx:=⟨6,[(0,.val (.one (.sym 0 0))),(1,.val (.one (.sym 1 0))),(5,.val (.one (.fn 2))),(6,.val (.one (.fn 3))),(8,.val (.one (.fn 4))),(9,.val (.one (.fn 5))),(10,.val (.one (.lit (.bool b)))),(11,.val (.one (.lit (ii (i:Int)))))],lmM r0 r1 E T E.length++[(4,.gl 33 4 i (fun j=>f1 (nq (T.getD j default)))),(5,.gl 40 3 i (fun j=>g1 (nq (T.getD j default))))],[]⟩
abbrev lmD (b:Bool) (r0 r1:Nat) (E:List E2) (T:List Tx) (i:Nat):St Dx:=⟨6,[(0,.val (.one (.sym 0 0))),(1,.val (.one (.sym 1 0))),(5,.val (.one (.fn 2))),(6,.val (.one (.fn 3))),(8,.val (.one (.fn 4))),(9,.val (.one (.fn 5))),(10,.val (.one (.lit (.bool b)))),(11,.val (.one (.lit (ii (i:Int)))))],lmM r0 r1 E T E.length++[(4,.gl 33 4 (i+1) (fun j=>f1 (nq (T.getD j default)))),(5,.gl 40 3 (i+1) (fun j=>g1 (nq (T.getD j default))))],[]⟩
noncomputable abbrev lmE (b:Bool) (lo:Nat) (E:List E2) (T:List Tx):St Dx:=⟨4,[(5,.val (.one (.sym 0 0))),(6,.val (.one (.sym 1 0))),(8,.val (.one (.sym 2 0))),(9,.val (.one (.sym 3 0))),(10,.val (.one (.lit (.bool b))))],[(0,.cls (.ls (lst lo 36 8 (XL E) fQ))),(1,.cls (.ls (lst lo 42 6 (YL E) fR))),(2,.cls (.ls (lst lo 33 4 (FL T) f1))),(3,.cls (.ls (lst lo 40 3 (FL T) g1)))],[]⟩
noncomputable abbrev exLO (lo:Nat) (E:List E2) (T:List Tx) (a b:Rat) (k:Nat) (e:Int):List (Nat×Con):=(10,Cv [pLn lo (XL E),pFs lo (FL T)] (.tup [pS2 a k b k,pI e]))::exN
noncomputable abbrev exLP (lo:Nat) (E:List E2) (T:List Tx) (a b:Rat) (k:Nat) (c d:Rat):List (Nat×Con):=(13,Cv [pRS lo (YL E),pRF lo (FL T)] (rpOf [pS3 c 200 d 200]))::exLO lo E T a b k 0
theorem lm_a {w:World}(r0 r1:Nat) (E:List E2) (T:List Tx):runR w ⟨[(3,16,true)],[],exN⟩ 3 155 Tryz.f3 kMovingLanes3_ (stA (argM r0 r1 E T)) (rB true)=some (.ret,[decide ((E.length:Int)>10)=true,([]:List (Pat Dx))=[],eA (Value.bool true)]):=by kernel_rfl
theorem lm_b {w:World}(r0 r1:Nat) (E:List E2) (T:List Tx):runR w ⟨[(3,16,false),(3,20,true)],[],exN⟩ 3 155 Tryz.f3 kMovingLanes3_ (stA (argM r0 r1 E T)) (rB true)=some (.ret,[decide ((E.length:Int)>10)=false,decide ((T.length:Int)>10)=true,([]:List (Pat Dx))=[],eA (Value.bool true)]):=by kernel_rfl
theorem lm_c {w:World}(r0 r1:Nat) (E:List E2) (T:List Tx):run w ⟨[(3,16,false),(3,20,false)],[],exN⟩ 3 155 kMovingLanes3_ (stA (argM r0 r1 E T)) (lmA r0 r1 E T 0)=some (.normal,[decide ((E.length:Int)>10)=false,decide ((T.length:Int)>10)=false,sD w (.ls (lst 0 r0 2 E fE)),sD w (.ls (lst 0 r1 1 T fT)),0=0,∀ (j:Nat),j<0->cH (W0 w) (fQ (nq2 (E.getD j default))) [],0=0,∀ (j:Nat),j<0->cH (W0 w) (fR (nb2 (E.getD j default))) [],ii (↑0:Int)=Value.int IntKind.i64 0]):=by kernel_rfl
theorem la_x {w:World}(r0 r1:Nat) (E:List E2) (T:List Tx) (i:Nat):run w ⟨[(3,28,false)],[],exN⟩ 3 155 kMovingLanes3_nl (lmA r0 r1 E T i) (lmA r0 r1 E T i)=some (.exit 0,[decide ((i:Int)<(E.length:Int))=false,sD w (.ls (lst 0 r0 2 E fE)),sD w (.ls (lst 0 r1 1 T fT)),i=i,sG w i (fun j=>fQ (nq2 (E.getD j default))),i=i,sG w i (fun j=>fR (nb2 (E.getD j default))),eA (ii (i:Int))]):=by kernel_rfl
theorem la_p {w:World}(r0 r1:Nat) (E:List E2) (T:List Tx) (i:Nat):runR w ⟨[(3,28,true),(3,36,true)],[],exN⟩ 3 155 Tryz.f3 kMovingLanes3_nl (lmA r0 r1 E T i) (rB true)=some (.ret,[decide ((i:Int)<(E.length:Int))=true,i<E.length,i<E.length,decide (40<List.length (E.getD i default).1)=true,([]:List (Pat Dx))=[],eA (Value.bool true)]):=by kernel_rfl
theorem la_q {w:World}(r0 r1:Nat) (E:List E2) (T:List Tx) (i:Nat):runR w ⟨[(3,28,true),(3,36,false),(3,43,true)],[],exN⟩ 3 155 Tryz.f3 kMovingLanes3_nl (lmA r0 r1 E T i) (rB true)=some (.ret,[decide ((i:Int)<(E.length:Int))=true,i<E.length,i<E.length,decide (40<List.length (E.getD i default).1)=false,i<E.length,i<E.length,decide (40<List.length (E.getD i default).2)=true,([]:List (Pat Dx))=[],eA (Value.bool true)]):=by kernel_rfl
theorem la_n {w:World}(r0 r1:Nat) (E:List E2) (T:List Tx) (i:Nat):run w ⟨[(3,28,true),(3,36,false),(3,43,false)],[],exN⟩ 3 155 kMovingLanes3_nl (lmA r0 r1 E T i) (lmA r0 r1 E T (i+1))=some (.normal,[decide ((i:Int)<(E.length:Int))=true,i<E.length,i<E.length,decide (40<List.length (E.getD i default).1)=false,i<E.length,i<E.length,decide (40<List.length (E.getD i default).2)=false,i<E.length,i<E.length,List.length (E.getD i default).1<=60,i<E.length,i<E.length,List.length (E.getD i default).2<=60,i+1<=1000000,i<E.length,i<E.length,List.length (E.getD i default).1<=60,i<E.length,i<E.length,List.length (E.getD i default).2<=60,4<=5000/\4=4,4<=5000/\4=4,i+1<=1000000,ku ((i:Int)+1),sD w (.ls (lst 0 r0 2 E fE)),sD w (.ls (lst 0 r1 1 T fT)),i+1=i+1,sN w i (fun j=>fQ (nq2 (E.getD j default))) [Grp.cls (Dx.q (jr (E.getD i default).1).1 4),Grp.cls (Dx.q (jr (E.getD i default).2).1 4)],i+1=i+1,sN w i (fun j=>fR (nb2 (E.getD j default))) [Grp.cls (Dx.rq (Sym.minQ (jr (E.getD i default).1).1 (jr (E.getD i default).2).1) 4),Grp.cls (Dx.rq (Sym.maxQ (jr (E.getD i default).1).1 (jr (E.getD i default).2).1) 4)],ii (↑(i+1):Int)=Value.int IntKind.i64 ((i:Int)+1)]):=by kernel_rfl
theorem lb_1 {w:World}(r0 r1:Nat) (E:List E2) (T:List Tx):run w ⟨[(3,82,true)],[],exN⟩ 3 155 kMovingLanes3_nt (lmA r0 r1 E T E.length) (lmB true r0 r1 E T 0)=some (.normal,[decide ((E.length:Int)>8)=true,sD w (.ls (lst 0 r0 2 E fE)),sD w (.ls (lst 0 r1 1 T fT)),E.length=E.length,sG w E.length (fun j=>fQ (nq2 (E.getD j default))),E.length=E.length,sG w E.length (fun j=>fR (nb2 (E.getD j default))),0=0,∀ (j:Nat),j<0->cH (W0 w) (f1 (nq (T.getD j default))) [],0=0,∀ (j:Nat),j<0->cH (W0 w) (g1 (nq (T.getD j default))) [],eA (Value.bool true),ii (↑0:Int)=Value.int IntKind.i64 0]):=by kernel_rfl
theorem lb_2 {w:World}(r0 r1:Nat) (E:List E2) (T:List Tx):run w ⟨[(3,82,false),(3,88,true)],[],exN⟩ 3 155 kMovingLanes3_nt (lmA r0 r1 E T E.length) (lmB true r0 r1 E T 0)=some (.normal,[decide ((E.length:Int)>8)=false,decide ((E.length:Int)≠(T.length:Int))=true,sD w (.ls (lst 0 r0 2 E fE)),sD w (.ls (lst 0 r1 1 T fT)),E.length=E.length,sG w E.length (fun j=>fQ (nq2 (E.getD j default))),E.length=E.length,sG w E.length (fun j=>fR (nb2 (E.getD j default))),0=0,∀ (j:Nat),j<0->cH (W0 w) (f1 (nq (T.getD j default))) [],0=0,∀ (j:Nat),j<0->cH (W0 w) (g1 (nq (T.getD j default))) [],eA (Value.bool true),ii (↑0:Int)=Value.int IntKind.i64 0]):=by kernel_rfl
theorem lb_3 {w:World}(r0 r1:Nat) (E:List E2) (T:List Tx):run w ⟨[(3,82,false),(3,88,false)],[],exN⟩ 3 155 kMovingLanes3_nt (lmA r0 r1 E T E.length) (lmB false r0 r1 E T 0)=some (.normal,[decide ((E.length:Int)>8)=false,decide ((E.length:Int)≠(T.length:Int))=false,sD w (.ls (lst 0 r0 2 E fE)),sD w (.ls (lst 0 r1 1 T fT)),E.length=E.length,sG w E.length (fun j=>fQ (nq2 (E.getD j default))),E.length=E.length,sG w E.length (fun j=>fR (nb2 (E.getD j default))),0=0,∀ (j:Nat),j<0->cH (W0 w) (f1 (nq (T.getD j default))) [],0=0,∀ (j:Nat),j<0->cH (W0 w) (g1 (nq (T.getD j default))) [],eA (Value.bool false),ii (↑0:Int)=Value.int IntKind.i64 0]):=by kernel_rfl
theorem lbt_x {w:World}(r0 r1:Nat) (E:List E2) (T:List Tx) (i:Nat):run w ⟨[(3,93,false)],[],exN⟩ 3 155 kMovingLanes3_ntnl (lmB true r0 r1 E T i) (lmB true r0 r1 E T i)=some (.exit 2,[decide ((i:Int)<(T.length:Int))=false,sD w (.ls (lst 0 r0 2 E fE)),sD w (.ls (lst 0 r1 1 T fT)),E.length=E.length,sG w E.length (fun j=>fQ (nq2 (E.getD j default))),E.length=E.length,sG w E.length (fun j=>fR (nb2 (E.getD j default))),i=i,sG w i (fun j=>f1 (nq (T.getD j default))),i=i,sG w i (fun j=>g1 (nq (T.getD j default))),eA (Value.bool true),eA (ii (i:Int))]):=by kernel_rfl
theorem lbt_p {w:World}(r0 r1:Nat) (E:List E2) (T:List Tx) (i:Nat):runR w ⟨[(3,93,true),(3,100,true)],[],exN⟩ 3 155 Tryz.f3 kMovingLanes3_ntnl (lmB true r0 r1 E T i) (rB true)=some (.ret,[decide ((i:Int)<(T.length:Int))=true,i<T.length,i<T.length,decide (40<List.length (T.getD i default))=true,([]:List (Pat Dx))=[],eA (Value.bool true)]):=by kernel_rfl
theorem lbf_x {w:World}(r0 r1:Nat) (E:List E2) (T:List Tx) (i:Nat):run w ⟨[(3,93,false)],[],exN⟩ 3 155 kMovingLanes3_ntnl (lmB false r0 r1 E T i) (lmB false r0 r1 E T i)=some (.exit 2,[decide ((i:Int)<(T.length:Int))=false,sD w (.ls (lst 0 r0 2 E fE)),sD w (.ls (lst 0 r1 1 T fT)),E.length=E.length,sG w E.length (fun j=>fQ (nq2 (E.getD j default))),E.length=E.length,sG w E.length (fun j=>fR (nb2 (E.getD j default))),i=i,sG w i (fun j=>f1 (nq (T.getD j default))),i=i,sG w i (fun j=>g1 (nq (T.getD j default))),eA (Value.bool false),eA (ii (i:Int))]):=by kernel_rfl
theorem lbf_p {w:World}(r0 r1:Nat) (E:List E2) (T:List Tx) (i:Nat):runR w ⟨[(3,93,true),(3,100,true)],[],exN⟩ 3 155 Tryz.f3 kMovingLanes3_ntnl (lmB false r0 r1 E T i) (rB true)=some (.ret,[decide ((i:Int)<(T.length:Int))=true,i<T.length,i<T.length,decide (40<List.length (T.getD i default))=true,([]:List (Pat Dx))=[],eA (Value.bool true)]):=by kernel_rfl
theorem lbt_n {w:World}(r0 r1:Nat) (E:List E2) (T:List Tx) (i:Nat):run w ⟨[(3,93,true),(3,100,false)],[],exN⟩ 3 155 kMovingLanes3_ntnl (lmB true r0 r1 E T i) (lmB true r0 r1 E T (i+1))=some (.normal,[decide ((i:Int)<(T.length:Int))=true,i<T.length,i<T.length,decide (40<List.length (T.getD i default))=false,i<T.length,i<T.length,List.length (T.getD i default)<=60,i+1<=1000000,i<T.length,i<T.length,List.length (T.getD i default)<=60,i+1<=1000000,ku ((i:Int)+1),sD w (.ls (lst 0 r0 2 E fE)),sD w (.ls (lst 0 r1 1 T fT)),E.length=E.length,sG w E.length (fun j=>fQ (nq2 (E.getD j default))),E.length=E.length,sG w E.length (fun j=>fR (nb2 (E.getD j default))),i+1=i+1,sN w i (fun j=>f1 (nq (T.getD j default))) [Grp.cls (Dx.q (jr (T.getD i default)).1 4)],i+1=i+1,sN w i (fun j=>g1 (nq (T.getD j default))) [Grp.cls (Dx.rq (jr (T.getD i default)).1 4)],eA (Value.bool true),ii (↑(i+1):Int)=Value.int IntKind.i64 ((i:Int)+1)]):=by kernel_rfl
theorem lbg_1 {w:World}(r0 r1:Nat) (E:List E2) (T:List Tx) (i:Nat):run w ⟨[(3,93,true)],[],exN⟩ 3 155 kMovingLanes3_ntnlsf2 (lmB false r0 r1 E T i) (lmB false r0 r1 E T i)=some (.normal,[decide ((i:Int)<(T.length:Int))=true,sD w (.ls (lst 0 r0 2 E fE)),sD w (.ls (lst 0 r1 1 T fT)),E.length=E.length,sG w E.length (fun j=>fQ (nq2 (E.getD j default))),E.length=E.length,sG w E.length (fun j=>fR (nb2 (E.getD j default))),i=i,sG w i (fun j=>f1 (nq (T.getD j default))),i=i,sG w i (fun j=>g1 (nq (T.getD j default))),eA (Value.bool false),eA (ii (i:Int))]):=by kernel_rfl
theorem lbg_2 {w:World}(r0 r1:Nat) (E:List E2) (T:List Tx) (i:Nat):run w ⟨[(3,100,false)],[],exN⟩ 3 155 kMovingLanes3_ntnlsd2bsf3 (lmB false r0 r1 E T i) (lmD false r0 r1 E T i)=some (.normal,[i<T.length,i<T.length,decide (40<List.length (T.getD i default))=false,i<T.length,i<T.length,List.length (T.getD i default)<=60,i+1<=1000000,i<T.length,i<T.length,List.length (T.getD i default)<=60,i+1<=1000000,sD w (.ls (lst 0 r0 2 E fE)),sD w (.ls (lst 0 r1 1 T fT)),E.length=E.length,sG w E.length (fun j=>fQ (nq2 (E.getD j default))),E.length=E.length,sG w E.length (fun j=>fR (nb2 (E.getD j default))),i+1=i+1,sN w i (fun j=>f1 (nq (T.getD j default))) [Grp.cls (Dx.q (jr (T.getD i default)).1 4)],i+1=i+1,sN w i (fun j=>g1 (nq (T.getD j default))) [Grp.cls (Dx.rq (jr (T.getD i default)).1 4)],eA (Value.bool false),eA (ii (i:Int))]):=by kernel_rfl
theorem lbg_t {w:World}(r0 r1:Nat) (E:List E2) (T:List Tx) (i:Nat):run w ⟨[(3,125,true)],[],exN⟩ 3 155 kMovingLanes3_ntnlsd2bsd3 (lmD false r0 r1 E T i) (lmD true r0 r1 E T i)=some (.normal,[i<i+1,i<i+1,decide (kG (nq (T.getD i default))<0)=true,sD w (.ls (lst 0 r0 2 E fE)),sD w (.ls (lst 0 r1 1 T fT)),E.length=E.length,sG w E.length (fun j=>fQ (nq2 (E.getD j default))),E.length=E.length,sG w E.length (fun j=>fR (nb2 (E.getD j default))),i+1=i+1,sG w (i+1) (fun j=>f1 (nq (T.getD j default))),i+1=i+1,sG w (i+1) (fun j=>g1 (nq (T.getD j default))),eA (Value.bool true),eA (ii (i:Int))]):=by kernel_rfl
theorem lbh_t {w:World}(r0 r1:Nat) (E:List E2) (T:List Tx) (i:Nat):run w ⟨[],[],exN⟩ 3 155 kMovingLanes3_ntnlsd2bsd3n (lmD true r0 r1 E T i) (lmB true r0 r1 E T (i+1))=some (.normal,[ku ((i:Int)+1),sD w (.ls (lst 0 r0 2 E fE)),sD w (.ls (lst 0 r1 1 T fT)),E.length=E.length,sG w E.length (fun j=>fQ (nq2 (E.getD j default))),E.length=E.length,sG w E.length (fun j=>fR (nb2 (E.getD j default))),i+1=i+1,sG w (i+1) (fun j=>f1 (nq (T.getD j default))),i+1=i+1,sG w (i+1) (fun j=>g1 (nq (T.getD j default))),eA (Value.bool true),ii (↑(i+1):Int)=Value.int IntKind.i64 ((i:Int)+1)]):=by kernel_rfl
theorem lbg_f {w:World}(r0 r1:Nat) (E:List E2) (T:List Tx) (i:Nat):run w ⟨[(3,125,false)],[],exN⟩ 3 155 kMovingLanes3_ntnlsd2bsd3 (lmD false r0 r1 E T i) (lmD false r0 r1 E T i)=some (.normal,[i<i+1,i<i+1,decide (kG (nq (T.getD i default))<0)=false,sD w (.ls (lst 0 r0 2 E fE)),sD w (.ls (lst 0 r1 1 T fT)),E.length=E.length,sG w E.length (fun j=>fQ (nq2 (E.getD j default))),E.length=E.length,sG w E.length (fun j=>fR (nb2 (E.getD j default))),i+1=i+1,sG w (i+1) (fun j=>f1 (nq (T.getD j default))),i+1=i+1,sG w (i+1) (fun j=>g1 (nq (T.getD j default))),eA (Value.bool false),eA (ii (i:Int))]):=by kernel_rfl
theorem lbh_f {w:World}(r0 r1:Nat) (E:List E2) (T:List Tx) (i:Nat):run w ⟨[],[],exN⟩ 3 155 kMovingLanes3_ntnlsd2bsd3n (lmD false r0 r1 E T i) (lmB false r0 r1 E T (i+1))=some (.normal,[ku ((i:Int)+1),sD w (.ls (lst 0 r0 2 E fE)),sD w (.ls (lst 0 r1 1 T fT)),E.length=E.length,sG w E.length (fun j=>fQ (nq2 (E.getD j default))),E.length=E.length,sG w E.length (fun j=>fR (nb2 (E.getD j default))),i+1=i+1,sG w (i+1) (fun j=>f1 (nq (T.getD j default))),i+1=i+1,sG w (i+1) (fun j=>g1 (nq (T.getD j default))),eA (Value.bool false),ii (↑(i+1):Int)=Value.int IntKind.i64 ((i:Int)+1)]):=by kernel_rfl
theorem lc {w:World}(r0 r1:Nat) (E:List E2) (T:List Tx) (b:Bool):run w ⟨[],[],[]⟩ 3 155 [] (lmB b r0 r1 E T T.length) (lmE b w.heap.size E T)=some (.normal,[∀ (w_1:World) (v:Value),DIs w_1 (Dx.ls { lo:=w.1.size,ty:=36,z:=8,n:=E.length,g:=fun(j:Nat)=>fQ (nq2 (E.getD j default)) }) [v]->DIs w_1 (Dx.ls (lst w.1.size 36 8 (XL E) fQ)) [v],∀ (w_1:World) (v:Value),DIs w_1 (Dx.ls { lo:=w.1.size,ty:=42,z:=6,n:=E.length,g:=fun(j:Nat)=>fR (nb2 (E.getD j default)) }) [v]->DIs w_1 (Dx.ls (lst w.1.size 42 6 (YL E) fR)) [v],∀ (w_1:World) (v:Value),DIs w_1 (Dx.ls { lo:=w.1.size,ty:=33,z:=4,n:=T.length,g:=fun(j:Nat)=>f1 (nq (T.getD j default)) }) [v]->DIs w_1 (Dx.ls (lst w.1.size 33 4 (FL T) f1)) [v],∀ (w_1:World) (v:Value),DIs w_1 (Dx.ls { lo:=w.1.size,ty:=40,z:=3,n:=T.length,g:=fun(j:Nat)=>g1 (nq (T.getD j default)) }) [v]->DIs w_1 (Dx.ls (lst w.1.size 40 3 (FL T) g1)) [v],eA (Value.bool b)]):=by kernel_rfl
theorem ld_t {w:World}(E:List E2) (T:List Tx):runR w ⟨[(11,6,true),(11,11,true)],[],exLO w.heap.size E T 0 0 1 2⟩ 3 155 Tryz.f3 kMovingLanes3_ntnt (lmE true w.heap.size E T) (rB true)=some (.ret,[[Pat.one (Grp.cls (Dx.ls (lst w.1.size 36 8 (XL E) fQ))),Pat.one (Grp.cls (Dx.ls (lst w.1.size 33 4 (FL T) f1)))]=[pLn w.1.size (XL E),pFs w.1.size (FL T)],decide (kG 0=0)=true,decide (kG 0=0)=true,([]:List (Pat Dx))=[],eA (Value.bool true)]):=by kernel_rfl
theorem ld_f {w:World}(E:List E2) (T:List Tx) (a b:Rat) (k:Nat) (c d:Rat):runR w ⟨[(12,9,true),(12,15,true)],[],exLP w.heap.size E T a b k c d⟩ 3 155 Tryz.f3 kMovingLanes3_ntnt (lmE false w.heap.size E T) (rB true)=some (.ret,[[Pat.one (Grp.cls (Dx.ls (lst w.1.size 36 8 (XL E) fQ))),Pat.one (Grp.cls (Dx.ls (lst w.1.size 33 4 (FL T) f1)))]=[pLn w.1.size (XL E),pFs w.1.size (FL T)],[Pat.one (Grp.cls (Dx.ls (lst w.1.size 42 6 (YL E) fR))),Pat.one (Grp.cls (Dx.ls (lst w.1.size 40 3 (FL T) g1)))]=[pRS w.1.size (YL E),pRF w.1.size (FL T)],decide (a=c)=true,k+200<=1000000,decide (b=d)=true,k+200<=1000000,([]:List (Pat Dx))=[],eA (Value.bool true)]):=by kernel_rfl
theorem Zv {E:List E2}{T:List Tx}:bdT E T 0=b0T E T:=by unfold bdT;exact Bool.or_false _
theorem Yv {E:List E2}{T:List Tx}{i:Nat}:bdT E T (i+1)=(bdT E T i||ngT T i):=by
 unfold bdT anyP;rw[range_succ,List.any_append,List.any_cons,List.any_nil,Bool.or_false];exact(Bool.or_assoc _ _ _).symm
theorem bdT_ok {E:List E2}{T:List Tx}:WY (XL E) (FL T)=!bdT E T T.length:=by
 have hX:(XL E).length=E.length:=length_map ..;have hF:(FL T).length=T.length:=length_map ..;have h1:anyP (FL T).length (bdN (FL T))=anyP T.length (ngT T):=by
  rw[hF];unfold anyP;rw[Bool.eq_iff_iff,List.any_eq_true,List.any_eq_true];constructor<;>rintro⟨i,hi,h⟩<;>refine⟨i,hi,?_⟩<;>have e:(FL T).getD i default=nq (T.getD i default):=mapD (List.mem_range.1 hi)
  ·show decide (kG (nq (T.getD i default))<0)=true;rw[← e];exact h
  ·show decide (kG ((FL T).getD i default)<0)=true;rw[e];exact h
 unfold WY bdT b0T;rw[h1,hX,hF,Bool.not_or,Bool.not_or];refine congrArg (·&&_) (congrArg (_&&·) (congrArg (!·) ?_));rw[decide_eq_decide];constructor<;>intro h e<;>exact h e.symm
theorem ckB {E:List E2}{T:List Tx}(hT:T.length=E.length) (hb:WY (XL E) (FL T)=true):(spn (lsX (XL E)) (hsX (XL E)) (FL T) (XL E).length).1=rlo (lwE (YL E)) (hgE (YL E)) (FL T) (YL E).length (2^(YL E).length-1)/\(spn (lsX (XL E)) (hsX (XL E)) (FL T) (XL E).length).2=rhi (lwE (YL E)) (hgE (YL E)) (FL T) (YL E).length (2^(YL E).length-1):=by
 have hX:(XL E).length=E.length:=length_map ..;have hY:(YL E).length=E.length:=length_map ..;have hF:(FL T).length=T.length:=length_map ..;have q27:anyP (FL T).length (bdN (FL T))=false:=by revert hb;unfold WY;cases anyP (FL T).length (bdN (FL T))<;>simp
 have hn:∀ i,i<(XL E).length->0<=(FL T).getD i default:=fun i hi=>sign_nn (of_decide_eq_false (anyP_at q27 (i:=i) (by omega)));obtain⟨m1,m2⟩:=cjn (X:=XL E) (F:=FL T) (Y:=YL E) (fun i hi=>by rw[mapD (by omega),mapD (by omega)]) hn;have key:∀ n,n=(XL E).length->rlo (lwE (YL E)) (hgE (YL E)) (FL T) n (2^n-1)=(spn (lsX (XL E)) (hsX (XL E)) (FL T) (XL E).length).1/\rhi (lwE (YL E)) (hgE (YL E)) (FL T) n (2^n-1)=(spn (lsX (XL E)) (hsX (XL E)) (FL T) (XL E).length).2:=by rintro _ rfl;exact⟨m1,m2⟩
 obtain⟨k1,k2⟩:=key (YL E).length (by omega);exact⟨k1.symm,k2.symm⟩
theorem lanesLaw_ok (hN:ka) (r0 r1:Nat) (E:List E2) (T:List Tx):Ud 3 (argM r0 r1 E T) (fun _=>rB true):=by
 intro w vs hG hp;refine Kk hG hN (ex:=exN) (cbw hG) (fn:=Tryz.f3) Tryz.func3 (c:=codeOf Tryz.f3) (by kernel_rfl) (args:=argM r0 r1 E T) (by kernel_rfl) hp (fun hR _ hA=>?_);have s0:decide (kG 0=0)=true:=by kernel_rfl
 have hX:(XL E).length=E.length:=length_map ..;have hY:(YL E).length=E.length:=length_map ..;have hFl:(FL T).length=T.length:=length_map ..;rcases eq_false_or_eq_true (decide ((E.length:Int)>10)) with q16|q16
 ·exact yL (lm_a r0 r1 E T) (hR _ rfl) hA
 rcases eq_false_or_eq_true (decide ((T.length:Int)>10)) with q20|q20
 ·exact yL (lm_b r0 r1 E T) (hR _ rfl) hA
 have p16:=of_decide_eq_false q16;have p20:=of_decide_eq_false q20;have hE10:E.length<=10:=by omega
 have hT10:T.length<=10:=by omega
 refine jS (lm_c r0 r1 E T) (hR _ rfl) hA (fun aT wT hT=>kA ?_);clear p16 p20 hA;refine uU (fun i=>lmA r0 r1 E T i) (fun i=>i<=E.length) (fun i=>E.length-i) (L:=kMovingLanes3_n) (ks:=kMovingLanes3_nt) (id:=0) (c:=kZ kMovingLanes3_n) (by kernel_rfl) 0 (zero_le _) hT (fun i a2 w2 hi hA=>?_);rcases eq_false_or_eq_true (decide ((i:Int)<(E.length:Int))) with q28|q28
 ·have p28:=of_decide_eq_true q28;rcases eq_false_or_eq_true (decide (40<(E.getD i default).1.length)) with q36|q36
  ·exact yL (la_p r0 r1 E T i) (hR _ rfl) hA
  rcases eq_false_or_eq_true (decide (40<(E.getD i default).2.length)) with q43|q43
  ·exact yL (la_q r0 r1 E T i) (hR _ rfl) hA
  have p36:=of_decide_eq_false q36;have p43:=of_decide_eq_false q43;exact jS (la_n r0 r1 E T i) (hR _ rfl) hA (fun aT wT hT=>jm (by kernel_rfl) ⟨i+1,by omega,hT,by omega⟩)
 have p28:=of_decide_eq_false q28;obtain rfl:i=E.length:=by omega
 refine jS (la_x r0 r1 E T E.length) (hR _ rfl) hA (fun aT wT hT=>jR _ (by kernel_rfl) ?_);clear hA;have hR0:=Jc hG hN (jV (bb:=true) (lo:=w.heap.size) (w0:=w));have cv:∀ (b:Bool) {a w1 Q},At (W0 w) 155 (lmB b r0 r1 E T T.length) a w1->(∀ a' w',At (W0 w) 155 (lmE b w.heap.size E T) a' w'->after Fence.wide 0 (W0 w).P kMovingLanes3_ntnt Q .normal a' w')->after Fence.wide 0 (W0 w).P kMovingLanes3_ntnt Q .normal a w1:=fun b _ _ _ hT hQ=>re_o (lc r0 r1 E T b) (hR0 _ rfl) hT (by (repeat' (first|exact trivial|apply And.intro))<;>first|exact cD.refl _ _|exact fun _ _=>cH.refl _ _|exact jH rfl|exact jM _ _|exact jN _ _|(with_reducible assumption)|omega|with_reducible rfl|(simp only[jt];omega)|(intro j hj;exact absurd hj (not_lt_zero _))|exact fun w' v h=>Ef (b:=true) (lo:=w.heap.size) (w0:=w) (xs:=E) (f:=fun x=>fQ (nq2 x)) (f':=fQ) (h:=nq2) (fun _=>rfl) w' [v] h|exact fun w' v h=>Ef (b:=true) (lo:=w.heap.size) (w0:=w) (xs:=E) (f:=fun x=>fR (nb2 x)) (f':=fR) (h:=nb2) (fun _=>rfl) w' [v] h|exact fun w' v h=>Ef (b:=true) (lo:=w.heap.size) (w0:=w) (xs:=T) (f:=fun x=>f1 (nq x)) (f':=f1) (h:=nq) (fun _=>rfl) w' [v] h|exact fun w' v h=>Ef (b:=true) (lo:=w.heap.size) (w0:=w) (xs:=T) (f:=fun x=>g1 (nq x)) (f':=g1) (h:=nq) (fun _=>rfl) w' [v] h|rfl) hQ;have mid:∀ a w1,At (W0 w) 155 (lmB (bdT E T 0) r0 r1 E T 0) a w1->after Fence.wide 0 (W0 w).P kMovingLanes3_ntn (Ret (W0 w) Tryz.f3 (Res (W0 w) (rB true))) .normal a w1:=by
  intro a w1 hT;refine uU (fun i=>lmB (bdT E T i) r0 r1 E T i) (fun i=>i<=T.length) (fun i=>T.length-i) (L:=kMovingLanes3_ntn) (ks:=kMovingLanes3_ntnt) (id:=2) (c:=kZ kMovingLanes3_ntn) (by kernel_rfl) 0 (zero_le _) hT (fun i a2 w2 hi hA=>?_);have hA:At (W0 w) 155 (lmB (bdT E T i) r0 r1 E T i) a2 w2:=hA;rcases hb:bdT E T i with _|_
  ·rw[hb] at hA;rcases eq_false_or_eq_true (decide ((i:Int)<(T.length:Int))) with q93|q93
   ·have p93:=of_decide_eq_true q93;rcases eq_false_or_eq_true (decide (40<(T.getD i default).length)) with q100|q100
    ·exact yL (lbf_p r0 r1 E T i) (hR _ rfl) hA
    have p100:=of_decide_eq_false q100;rcases hn:ngT T i with _|_
    ·have e:bdT E T (i+1)=false:=by rw[Yv,hb,hn];rfl
     refine JW 100 kMovingLanes3_ntnl (cci 2 (ks:=kMovingLanes3_ntnls) ?_);refine jS (lbg_1 r0 r1 E T i) (hR _ rfl) hA (fun aT wT hT=>jm (by kernel_rfl) ?_);refine blk_is (JW 100 kMovingLanes3_ntnlsd2b (cci 3 (ks:=kMovingLanes3_ntnlsd2bs) ?_));refine jS (lbg_2 r0 r1 E T i) (hR _ rfl) hT (fun aT wT hT=>jm (by kernel_rfl) ?_);refine jS (ks:=kMovingLanes3_ntnlsd2bsd3) (lbg_f r0 r1 E T i) (hR _ rfl) hT (fun aT wT hT=>kA ?_);exact jS (lbh_f r0 r1 E T i) (hR _ rfl) hT (fun aT wT hT=>jm (by kernel_rfl) ⟨i+1,by omega,by rw[e];exact hT,by omega⟩)
    ·have e:bdT E T (i+1)=true:=by rw[Yv,hb,hn];rfl
     refine JW 100 kMovingLanes3_ntnl (cci 2 (ks:=kMovingLanes3_ntnls) ?_);refine jS (lbg_1 r0 r1 E T i) (hR _ rfl) hA (fun aT wT hT=>jm (by kernel_rfl) ?_);refine blk_is (JW 100 kMovingLanes3_ntnlsd2b (cci 3 (ks:=kMovingLanes3_ntnlsd2bs) ?_));refine jS (lbg_2 r0 r1 E T i) (hR _ rfl) hT (fun aT wT hT=>jm (by kernel_rfl) ?_);refine jS (ks:=kMovingLanes3_ntnlsd2bsd3) (lbg_t r0 r1 E T i) (hR _ rfl) hT (fun aT wT hT=>kA ?_);exact jS (lbh_t r0 r1 E T i) (hR _ rfl) hT (fun aT wT hT=>jm (by kernel_rfl) ⟨i+1,by omega,by rw[e];exact hT,by omega⟩)
   have p93:=of_decide_eq_false q93;obtain rfl:i=T.length:=by omega
   refine jS (lbf_x r0 r1 E T T.length) (hR _ rfl) hA (fun aT wT hT=>jR _ (by kernel_rfl) ?_);refine cv false hT (fun aT wT hT=>?_);have hok:WY (XL E) (FL T)=true:=by rw[bdT_ok,hb];rfl
   have hb0:b0T E T=false:=by
    unfold bdT at hb;exact(Bool.or_eq_false_iff.1 hb).1
   have h0:=Bool.or_eq_false_iff.1 hb0;have h1:=of_decide_eq_false h0.1;have h2:=of_decide_eq_false h0.2;have hE8:E.length<=8:=by omega
   have hTE:T.length=E.length:=by omega
   clear h1 h2;have hEn:Enters Tryz.prog 10:=enters_of Tryz.func10 (by kernel_rfl) rfl;have rl:cY (Cx true w.heap.size w) (.call 13) [pRS w.heap.size (YL E),pRF w.heap.size (FL T)] (rpOf [pS3 (rlo (lwE (YL E)) (hgE (YL E)) (FL T) (YL E).length (2^(YL E).length-1)) 200 (rhi (lwE (YL E)) (hgE (YL E)) (FL T) (YL E).length (2^(YL E).length-1)) 200]):=(cii hN w.heap.size w.heap.size (YL E) (FL T) (by omega) (by omega)).ent hG (le_refl _) (enters_of Tryz.func13 (by kernel_rfl) rfl) (fun _ _=>⟨_,rfl,cD.refl _ _,cD.refl _ _,trivial⟩);rcases eq_zero_or_pos E.length with hz|hz
   ·obtain rfl:E=[]:=List.eq_nil_of_length_eq_zero hz;obtain rfl:T=[]:=List.eq_nil_of_length_eq_zero hTE;have hm:=(cio hN w.heap.size w.heap.size).ent hG (le_refl _) hEn (fun _ _=>⟨_,rfl,cD.refl _ _,cD.refl _ _,rfl,trivial⟩);have hRf:=Jc hG hN (jG (zg rl) (jG (zg hm) (cbw hG)));have e0:decide ((0:Rat)=0)=true:=decide_eq_true rfl;exact yL (ld_f [] [] 0 0 1 _ _) (hRf _ rfl) hT
   ·have hm:=(cjx hN w.heap.size w.heap.size (XL E) (FL T) (by omega) hok).ent hG (le_refl _) hEn (fun _ _=>⟨_,rfl,cD.refl _ _,cD.refl _ _,rfl,trivial⟩);have hRf:=Jc hG hN (jG (zg rl) (jG (zg hm) (cbw hG)));obtain⟨m1,m2⟩:=ckB hTE hok;have e1:=decide_eq_true m1;have e2:=decide_eq_true m2;exact yL (ld_f E T _ _ (200*(XL E).length+1) _ _) (hRf _ rfl) hT
  ·rw[hb] at hA;rcases eq_false_or_eq_true (decide ((i:Int)<(T.length:Int))) with q93|q93
   ·have p93:=of_decide_eq_true q93;rcases eq_false_or_eq_true (decide (40<(T.getD i default).length)) with q100|q100
    ·exact yL (lbt_p r0 r1 E T i) (hR _ rfl) hA
    have p100:=of_decide_eq_false q100;have e:bdT E T (i+1)=true:=by rw[Yv,hb];rfl
    exact jS (lbt_n r0 r1 E T i) (hR _ rfl) hA (fun aT wT hT=>jm (by kernel_rfl) ⟨i+1,by omega,by rw[e];exact hT,by omega⟩)
   have p93:=of_decide_eq_false q93;obtain rfl:i=T.length:=by omega
   refine jS (lbt_x r0 r1 E T T.length) (hR _ rfl) hA (fun aT wT hT=>jR _ (by kernel_rfl) ?_);refine cv true hT (fun aT wT hT=>?_);have hok:WY (XL E) (FL T)=false:=by rw[bdT_ok,hb];rfl
   have hEn:Enters Tryz.prog 10:=enters_of Tryz.func10 (by kernel_rfl) rfl;have hm:=(ciD hN w.heap.size w.heap.size (XL E) (FL T) (by omega) hok).ent hG (le_refl _) hEn (fun _ _=>⟨_,rfl,cD.refl _ _,cD.refl _ _,rfl,trivial⟩);have hRt:=Jc hG hN (jG (zg hm) (cbw hG));exact yL (ld_t E T) (hRt _ rfl) hT
 rcases eq_false_or_eq_true (decide ((E.length:Int)>8)) with q82|q82
 ·have e:bdT E T 0=true:=by rw[Zv];unfold b0T;rw[q82];rfl
  exact jS (lb_1 r0 r1 E T) (hR _ rfl) hT (fun aT wT hT=>kA (mid _ _ (by rw[e];exact hT)))
 rcases eq_false_or_eq_true (decide ((E.length:Int)≠(T.length:Int))) with q88|q88
 ·have e:bdT E T 0=true:=by rw[Zv];unfold b0T;rw[q82,q88];rfl
  exact jS (lb_2 r0 r1 E T) (hR _ rfl) hT (fun aT wT hT=>kA (mid _ _ (by rw[e];exact hT)))
 ·have e:bdT E T 0=false:=by rw[Zv];unfold b0T;rw[q82,q88];rfl
  exact jS (lb_3 r0 r1 E T) (hR _ rfl) hT (fun aT wT hT=>kA (mid _ _ (by rw[e];exact hT)))
end Pe
end Go.Proofs.YtokieocpdcngcabGreatDoor
