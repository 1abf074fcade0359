/- Part 33. -/
import Derived.Test.YtdopipkmcnkdjaaGreatDoorE32
set_option linter.all false
noncomputable section

namespace Go.Proofs.YtdopipkmcnkdjaaGreatDoor
open Go Go.RowKit Go.Proofs Lim
namespace Pe
theorem cnt {P : Program} (h : P.funcs.toList.all (fun fn => !(fn.name == "runtime.NumGoroutine")) = true) : ∀ (f : Nat) (fn : Func), P.funcs[f]? = some fn → (fn.name == "runtime.NumGoroutine") = false := by
 intro f fn hf;have hm:fn∈P.funcs.toList:=by
  rw[Array.mem_toList_iff];exact Array.mem_of_getElem? hf
 have:=List.all_eq_true.1 h fn hm;simpa using this
theorem no_name : ∀ (f : Nat) (fn : Func), Tryz.prog.funcs[f]? = some fn → (fn.name == "runtime.NumGoroutine") = false := cnt (by kernel_rfl)
def isYes (o:Option (Out Dx)):Bool:=match o with
 |some ⟨.val (.one (.lit (.bool true))),_,_,[]⟩=>true
 |_=>false
theorem coO {o:Option (Out Dx)}(h:isYes o=true):∃ ws n1,o=some ⟨.val (.one (.lit (.bool true))),ws,n1,[]⟩:=by
 unfold isYes at h;split at h
 ·exact⟨_,_,rfl⟩
 ·cases h
theorem cmF:isYes (callF (Sx false 0) TX 300 40 (fun b=>find b ([]:Ws Dx)) 0 6 (uB []))=true:=by kernel_rfl
theorem cit {w:World}(hG:Gr w):Calls Tryz.prog 6 #[] w (Val w (.bool true)):=by
 obtain⟨ws,n1,h⟩:=coO cmF;refine(cmg (C:=Cx false 0 w) (ceD (ju _)) no_name (tx_ok hG) (ps:=[]) (xs:=[]) (ws:=[]) (n0:=0) rfl h trivial (vs:=[]) rfl).mono ?_;rintro en w' ⟨v,e,e',rfl,hl,hv⟩;refine⟨?_,hl.good.below⟩;rw[show v=.bool true from hv]
theorem cmz {lo:Nat}{w0:World}(hG:Gr w0):jG (Cx true lo w0) (.call 6) [] (vr (.bool true)):=by
 refine⟨cY Tryz.func6 (by kernel_rfl) rfl,fun w vs hb hvs=>?_⟩;obtain rfl:vs=[]:=hvs;exact(cit (hG.below hb hG.size)).mono fun _ _ h=>⟨_,h.1,h.2,Yf⟩
abbrev exN:List (Nat×Con):=[(6,CN [] (vr (.bool true)))]
theorem exN_ok {lo:Nat}{w0:World}(hG:Gr w0):zv true lo w0 exN:=jg (kV (cmz hG)) kg
end Pe
namespace Pe
noncomputable def ksameInts33_:List Kp:=[.code (codeOf Tryz.f33)]
noncomputable def ksameInts33_n:List Kp:=next ksameInts33_
noncomputable def ksameInts33_nl:List Kp:=[.code (yE ksameInts33_n)]
noncomputable def ksameInts33_nt:List Kp:=ksameInts33_n.tail
noncomputable def ksameSpan32_:List Kp:=[.code (codeOf Tryz.f32)]
noncomputable def kagreed11_:List Kp:=[.code (codeOf Tryz.f11)]
noncomputable def knothing9_:List Kp:=[.code (codeOf Tryz.f9)]
noncomputable def kspans4_:List Kp:=[.code (codeOf Tryz.f4)]
noncomputable def kspans4_n:List Kp:=next kspans4_
noncomputable def kspans4_nl:List Kp:=[.code (yE kspans4_n)]
noncomputable def kspans4_nt:List Kp:=kspans4_n.tail
noncomputable def kCrackReconciles3_:List Kp:=[.code (codeOf Tryz.f3)]
abbrev pE2 (ty:Nat) (F:List E2):Pat Dx:=.one (.cls (.ls (lst 0 ty 2 F fE)))
abbrev eq2 (x:E2):R2:=(nq x.1,nq x.2)
abbrev siI (l0 l1:Nat) (A:List Nat) (i:Nat):St Dx:=⟨2,[(0,.val (.one (.sym 0 0))),(1,.val (.one (.sym 1 0))),(5,.val (.one (.lit (ii (i:Int)))))],[(0,.cls (.ls (lst l0 3 1 A F.fn1))),(1,.cls (.ls (lst l1 3 1 A F.fn1)))],[]⟩
theorem sia {w:World}(l0 l1:Nat) (A:List Nat):run w ⟨[(33,10,false)],[],[]⟩ 33 26 ksameInts33_ (stA [F.pLi l0 A,F.pLi l1 A]) (siI l0 l1 A 0)=some (.normal,[decide ((A.length:Int)≠(A.length:Int))=false,sD w (.ls (lst l0 3 1 A F.fn1)),sD w (.ls (lst l1 3 1 A F.fn1)),ii (↑0:Int)=Value.int IntKind.i64 0]):=by kernel_rfl
theorem sib {w:World}(l0 l1:Nat) (A:List Nat) (i:Nat):run w ⟨[(33,14,true),(33,25,false)],[],[]⟩ 33 26 ksameInts33_nl (siI l0 l1 A i) (siI l0 l1 A (i+1))=some (.normal,[decide ((i:Int)<(A.length:Int))=true,i<A.length,i<A.length,i<A.length,i<A.length,decide ((↑(A.getD i default):Int)≠(↑(A.getD i default):Int))=false,Gd ((i:Int)+1),sD w (.ls (lst l0 3 1 A F.fn1)),sD w (.ls (lst l1 3 1 A F.fn1)),ii (↑(i+1):Int)=Value.int IntKind.i64 ((i:Int)+1)]):=by kernel_rfl
theorem sic {w:World}(l0 l1:Nat) (A:List Nat) (i:Nat):run w ⟨[(33,14,false)],[],[]⟩ 33 26 ksameInts33_nl (siI l0 l1 A i) (siI l0 l1 A i)=some (.exit 0,[decide ((i:Int)<(A.length:Int))=false,sD w (.ls (lst l0 3 1 A F.fn1)),sD w (.ls (lst l1 3 1 A F.fn1)),eA (ii (i:Int))]):=by kernel_rfl
theorem sid {w:World}(l0 l1:Nat) (A:List Nat) (i:Nat):runR w ⟨[],[],[]⟩ 33 26 Tryz.f33 ksameInts33_nt (siI l0 l1 A i) (rB true)=some (.ret,[eA (Value.bool true)]):=by kernel_rfl
theorem si_ok (hN:cU) (l0 l1:Nat) (A:List Nat) (hA0:A.length<=100000):Says 33 [F.pLi l0 A,F.pLi l1 A] (fun _=>(rB true)):=by
 intro w vs hG hp;refine ym hG hN (ex:=[]) kg (fn:=Tryz.f33) Tryz.func33 (c:=codeOf Tryz.f33) (by kernel_rfl) (args:=[F.pLi l0 A,F.pLi l1 A]) (by kernel_rfl) hp (fun hR _ hA=>?_);refine jT (sia l0 l1 A) (hR _ rfl) hA (fun a1 w1 hA=>yu ?_) (by (repeat' (first|exact trivial|apply And.intro))<;>first|exact jq.refl _ _|exact fun _ _=>jW.refl _ _|exact cD rfl|exact cL _ _|exact cM _ _|(with_reducible assumption)|omega|with_reducible rfl|(simp only[cC];omega)|(intro j hj;exact absurd hj (cH _))|exact cK (fun h=>h rfl)|rfl);refine Ct (fun i=>siI l0 l1 A i) (fun i=>i<=A.length) (fun i=>A.length-i) (L:=ksameInts33_n) (ks:=ksameInts33_nt) (id:=0) (c:=yE ksameInts33_n) (by kernel_rfl) 0 (ju _) hA (fun i a2 w2 hi hA=>?_);rcases jA (decide ((i:Int)<(A.length:Int))) with q14|q14
 ·have p14:=jh q14;exact jT (sib l0 l1 A i) (hR _ rfl) hA (fun a3 w3 hA=>jX (by kernel_rfl) ⟨i+1,by omega,hA,by omega⟩) (by (repeat' (first|exact trivial|apply And.intro))<;>first|exact jq.refl _ _|exact fun _ _=>jW.refl _ _|exact cD rfl|exact cL _ _|exact cM _ _|(with_reducible assumption)|omega|with_reducible rfl|(simp only[cC];omega)|(intro j hj;exact absurd hj (cH _))|exact cK (fun h=>h rfl)|rfl)
 ·exact jT (sic l0 l1 A i) (hR _ rfl) hA (fun a3 w3 hA=>kO _ (by kernel_rfl) (kj (sid l0 l1 A i) (hR _ rfl) hA))
theorem ssa {w:World}(a b:Rat):runR w ⟨[(32,9,true),(32,15,true)],[],[]⟩ 32 17 Tryz.f32 ksameSpan32_ (stA [pS a 4 b 4,pRS a b]) (rB true)=some (.ret,[decide (a=a)=true,4+4<=1000000,decide (b=b)=true,4+4<=1000000,eA (Value.bool true)]):=by kernel_rfl
theorem ss_ok (hN:cU) (a b:Rat):Says 32 [pS a 4 b 4,pRS a b] (fun _=>(rB true)):=by
 intro w vs hG hp;refine ym hG hN (ex:=[]) kg (fn:=Tryz.f32) Tryz.func32 (c:=codeOf Tryz.f32) (by kernel_rfl) (args:=[pS a 4 b 4,pRS a b]) (by kernel_rfl) hp (fun hR _ hA=>?_);exact kj (ssa a b) (hR _ rfl) hA
abbrev exAr (l0 l1:Nat) (a b:Rat) (U:List Nat):List (Nat×Con):=[(32,CN [pS a 4 b 4,pRS a b] (vr (.bool true))),(33,CN [F.pLi l0 U,F.pLi l1 U] (vr (.bool true)))]
theorem clr {lo l0 l1:Nat}{w0:World}{a b:Rat}{U:List Nat}(hN:cU) (hG:Gr w0) (hlo:lo<=w0.heap.size) (hU:U.length<=100000):zv true lo w0 (exAr l0 l1 a b U) :=
 jg (kV ((ss_ok hN a b).val hG hlo (cY Tryz.func32 (by kernel_rfl) rfl))) (jg (kV ((si_ok hN l0 l1 U hU).val hG hlo (cY Tryz.func33 (by kernel_rfl) rfl))) kg)
theorem ara1 {w:World}(l0 l1:Nat) (a b:Rat) (U:List Nat) (n:Nat):runR w ⟨[(11,25,true)],[],exAr l0 l1 a b U⟩ 11 28 Tryz.f11 kagreed11_ (stA [F.pAg l0 (a,b) U true,pRS a b,F.pLi l1 U,pI (n:Int)]) (rB true)=some (.ret,[[Pat.agg [Grp.cls (Dx.q a 4),Grp.cls (Dx.q b 4)],Pat.agg [Grp.cls (Dx.rq a 4),Grp.cls (Dx.rq b 4)]]=[pS a 4 b 4,pRS a b],[Pat.one (Grp.cls (Dx.ls (lst l0 3 1 U F.fn1))),Pat.one (Grp.cls (Dx.ls (lst l1 3 1 U F.fn1)))]=[F.pLi l0 U,F.pLi l1 U],decide ((U.length:Int)<(n:Int))=true,Value.bool true=Value.bool (decide (true=true))]):=by kernel_rfl
theorem ara2 {w:World}(l0 l1:Nat) (a b:Rat) (U:List Nat) (n:Nat):runR w ⟨[(11,25,false)],[],exAr l0 l1 a b U⟩ 11 28 Tryz.f11 kagreed11_ (stA [F.pAg l0 (a,b) U false,pRS a b,F.pLi l1 U,pI (n:Int)]) (rB true)=some (.ret,[[Pat.agg [Grp.cls (Dx.q a 4),Grp.cls (Dx.q b 4)],Pat.agg [Grp.cls (Dx.rq a 4),Grp.cls (Dx.rq b 4)]]=[pS a 4 b 4,pRS a b],[Pat.one (Grp.cls (Dx.ls (lst l0 3 1 U F.fn1))),Pat.one (Grp.cls (Dx.ls (lst l1 3 1 U F.fn1)))]=[F.pLi l0 U,F.pLi l1 U],decide ((U.length:Int)<(n:Int))=false,Value.bool true=Value.bool (decide (false=false))]):=by kernel_rfl
theorem ar1_ok (hN:cU) (l0 l1:Nat) (a b:Rat) (U:List Nat) (n:Nat) (hU:U.length<=100000) (hd:decide ((U.length:Int)<(n:Int))=true):Says 11 [F.pAg l0 (a,b) U true,pRS a b,F.pLi l1 U,pI (n:Int)] (fun _=>(rB true)):=by
 intro w vs hG hp;refine ym hG hN (ex:=(exAr l0 l1 a b U)) (clr hN hG (cb _) hU) (fn:=Tryz.f11) Tryz.func11 (c:=codeOf Tryz.f11) (by kernel_rfl) (args:=[F.pAg l0 (a,b) U true,pRS a b,F.pLi l1 U,pI (n:Int)]) (by kernel_rfl) hp (fun hR _ hA=>?_);exact kj (ara1 l0 l1 a b U n) (hR _ rfl) hA
theorem ar2_ok (hN:cU) (l0 l1:Nat) (a b:Rat) (U:List Nat) (n:Nat) (hU:U.length<=100000) (hd:decide ((U.length:Int)<(n:Int))=false):Says 11 [F.pAg l0 (a,b) U false,pRS a b,F.pLi l1 U,pI (n:Int)] (fun _=>(rB true)):=by
 intro w vs hG hp;refine ym hG hN (ex:=(exAr l0 l1 a b U)) (clr hN hG (cb _) hU) (fn:=Tryz.f11) Tryz.func11 (c:=codeOf Tryz.f11) (by kernel_rfl) (args:=[F.pAg l0 (a,b) U false,pRS a b,F.pLi l1 U,pI (n:Int)]) (by kernel_rfl) hp (fun hR _ hA=>?_);exact kj (ara2 l0 l1 a b U n) (hR _ rfl) hA
theorem ar_ent {lo l0 l1:Nat}{w0:World}{a b:Rat}{U:List Nat}{n:Nat}{d:Bool}(hN:cU) (hG:Gr w0) (hlo:lo<=w0.heap.size) (hU:U.length<=100000) (hd:decide ((U.length:Int)<(n:Int))=d):jG (Cx true lo w0) (.call 11) [F.pAg l0 (a,b) U d,pRS a b,F.pLi l1 U,pI (n:Int)] (vr (.bool true)):=by
 have hE:=cY Tryz.func11 (by kernel_rfl) rfl;cases d with
 |true=>exact(ar1_ok hN l0 l1 a b U n hU hd).val hG hlo hE
 |false=>exact(ar2_ok hN l0 l1 a b U n hU hd).val hG hlo hE
theorem noa {w:World}:runR w ⟨[],[],[]⟩ 9 17 Tryz.f9 knothing9_ (stA [F.pZA]) (rB true)=some (.ret,[Value.bool true=Value.bool !false]):=by kernel_rfl
theorem no_ok (hN:cU) (z:Nat):Says 9 [F.pZA] (fun _=>(rB true)):=by
 intro w vs hG hp;refine ym hG hN (ex:=[]) kg (fn:=Tryz.f9) Tryz.func9 (c:=codeOf Tryz.f9) (by kernel_rfl) (args:=[F.pZA]) (by kernel_rfl) hp (fun hR _ hA=>?_);exact kj noa (hR _ rfl) hA
def okN8 (n:Nat):Bool:=(decide ((n:Int)>8)&&decide ((n:Int)<=12))||decide ((n:Int)>15)
def lg2 (x:E2):Bool:=lgB [x.1,x.2]
def KZ (l:List E2):Bool:=!okN8 l.length&&!anyP l.length (fun i=>lg2 (l.getD i default))
theorem okFd_is {l:List E2}(h:KZ l=true):okN8 l.length=false/\∀ i,i<l.length->lg2 (l.getD i default)=false:=by
 unfold KZ at h;rw[EL,Bool.not_eq_true',Bool.not_eq_true'] at h;exact⟨h.1,fun i hi=>Zb h.2 hi⟩
theorem cpl {l:List E2}{i:Nat}(hi:i<l.length) (h:lg2 (l.getD i default)=true):KZ l=false:=by
 unfold KZ;rw[ZG (p:=fun i=>lg2 (l.getD i default)) hi h,Bool.not_true,Bool.and_false]
theorem coh {l:List E2}(h:okN8 l.length=false) (hb:∀ i,i<l.length->lg2 (l.getD i default)=false):KZ l=true:=by
 unfold KZ;rw[h,Ub hb];rfl
def fnB (G:List R2):Nat->Bool
 |0=>true
 |n+1=>match fnB G n with
  |true=>okSp (G.getD n default).1 (G.getD n default).2
  |false=>false
theorem fnB_is {G:List R2}:∀ n,fnB G n=!anyP n (F.badF G)
 |0=>rfl
 |n+1=>by
  have h:=fnB_is (G:=G) n;unfold fnB;cases hb:fnB G n with
  |true =>
   rw[hb] at h;have h0:anyP n (F.badF G)=false:=by cases hx:anyP n (F.badF G) with|true=>rw[hx] at h;cases h|false=>rfl
   cases hs:okSp (G.getD n default).1 (G.getD n default).2 with
   |true =>
    have:anyP (n+1) (F.badF G)=false:=Ub fun k hk=>by
     rcases Nat.lt_succ_iff_lt_or_eq.1 hk with h1|rfl
     ·exact Zb h0 h1
     ·unfold F.badF;rw[hs];rfl
    rw[this];rfl
   |false =>
    have:anyP (n+1) (F.badF G)=true:=ZG (Cu n) (by unfold F.badF;rw[hs];rfl);rw[this];rfl
  |false =>
   rw[hb] at h;have h0:anyP n (F.badF G)=true:=by cases hx:anyP n (F.badF G) with|true=>rfl|false=>rw[hx] at h;cases h
   have:anyP (n+1) (F.badF G)=true:=by
    cases hx:anyP (n+1) (F.badF G) with
    |true=>rfl
    |false=>rw[Ub (fun k hk=>Zb hx (by omega))] at h0;cases h0
   rw[this];rfl
noncomputable abbrev cSp (x:E2):Con:=CN [pEn x.1 x.2] (Cd [pS (nq x.1) 4 (nq x.2) 4,pRS (nq x.1) (nq x.2),.one (.lit (.bool (okSp (nq x.1) (nq x.2))))])
abbrev cbn:List (Nat×Con):=[(5,cki)]
noncomputable abbrev exL1 (x:E2):List (Nat×Con):=(7,cSp x)::cbn
theorem Zv {lo:Nat}{w0:World}(hN:cU) (hG:Gr w0) (hlo:lo<=w0.heap.size):zv true lo w0 cbn:=jg (chL hN hG hlo) kg
theorem clc {x:E2}(h:lg2 x=false):x.1.length<=60/\x.2.length<=60:=by
 have:=cgr h;exact⟨cA (this _ (by simp)) (by decide),cA (this _ (by simp)) (by decide)⟩
theorem exL1_ok {lo:Nat}{w0:World}{x:E2}(hN:cU) (hG:Gr w0) (hlo:lo<=w0.heap.size) (h:lg2 x=false):zv true lo w0 (exL1 x):=jg (kV (chl hN hG hlo (clc h).1 (clc h).2)) (Zv hN hG hlo)
abbrev pRl (lo:Nat) (G:List R2):Pat Dx:=.one (.cls (.ls (lst lo 42 6 G fR)))
abbrev spI (ty:Nat) (l:List E2) (fine:Bool) (i:Nat):St Dx:=⟨3,[(0,.val (.one (.sym 0 0))),(6,.val (.one (.fn 1))),(7,.val (.one (.fn 2))),(8,.val (.one (.lit (.bool fine)))),(9,.val (.one (.lit (ii (i:Int)))))],[(0,.cls (.ls (lst 0 ty 2 l fE))),(1,.gl 36 8 i (fun j=>fQ (eq2 (l.getD j default)))),(2,.gl 42 6 i (fun j=>fR (eq2 (l.getD j default))))],[]⟩
abbrev rN4:List (Pat Dx):=[.one (.lit (.slice none 0 0)),.one (.lit (.slice none 0 0)),.one (.lit (.bool false)),.one (.lit (.bool false))]
abbrev rF4 (lo:Nat) (l:List E2):List (Pat Dx):=[F.pSl lo (l.map eq2),pRl lo (l.map eq2),.one (.lit (.bool (fnB (l.map eq2) l.length))),.one (.lit (.bool true))]
theorem spa1 {w:World}(ty:Nat) (l:List E2):run w ⟨[(4,15,true),(4,19,false),(4,24,false)],[],cbn⟩ 4 70 kspans4_ (stA [pE2 ty l]) (spI ty l true 0)=some (.normal,[decide ((l.length:Int)>8)=true,decide ((l.length:Int)<=12)=false,decide ((l.length:Int)>15)=false,sD w (.ls (lst 0 ty 2 l fE)),0=0,∀ (j:Nat),j<0->jW (W0 w) (fQ (eq2 (l.getD j default))) [],0=0,∀ (j:Nat),j<0->jW (W0 w) (fR (eq2 (l.getD j default))) [],eA (Value.bool true),ii (↑0:Int)=Value.int IntKind.i64 0]):=by kernel_rfl
theorem spa2 {w:World}(ty:Nat) (l:List E2):run w ⟨[(4,15,false),(4,24,false)],[],cbn⟩ 4 70 kspans4_ (stA [pE2 ty l]) (spI ty l true 0)=some (.normal,[decide ((l.length:Int)>8)=false,decide ((l.length:Int)>15)=false,sD w (.ls (lst 0 ty 2 l fE)),0=0,∀ (j:Nat),j<0->jW (W0 w) (fQ (eq2 (l.getD j default))) [],0=0,∀ (j:Nat),j<0->jW (W0 w) (fR (eq2 (l.getD j default))) [],eA (Value.bool true),ii (↑0:Int)=Value.int IntKind.i64 0]):=by kernel_rfl
theorem spn1 {w:World}(ty:Nat) (l:List E2):runR w ⟨[(4,15,true),(4,19,true)],[],cbn⟩ 4 70 Tryz.f4 kspans4_ (stA [pE2 ty l]) rN4=some (.ret,[decide ((l.length:Int)>8)=true,decide ((l.length:Int)<=12)=true,eA (Value.slice none 0 0),eA (Value.slice none 0 0),eA (Value.bool false),eA (Value.bool false)]):=by kernel_rfl
theorem spn2 {w:World}(ty:Nat) (l:List E2):runR w ⟨[(4,15,true),(4,19,false),(4,24,true)],[],cbn⟩ 4 70 Tryz.f4 kspans4_ (stA [pE2 ty l]) rN4=some (.ret,[decide ((l.length:Int)>8)=true,decide ((l.length:Int)<=12)=false,decide ((l.length:Int)>15)=true,eA (Value.slice none 0 0),eA (Value.slice none 0 0),eA (Value.bool false),eA (Value.bool false)]):=by kernel_rfl
theorem spn3 {w:World}(ty:Nat) (l:List E2):runR w ⟨[(4,15,false),(4,24,true)],[],cbn⟩ 4 70 Tryz.f4 kspans4_ (stA [pE2 ty l]) rN4=some (.ret,[decide ((l.length:Int)>8)=false,decide ((l.length:Int)>15)=true,eA (Value.slice none 0 0),eA (Value.slice none 0 0),eA (Value.bool false),eA (Value.bool false)]):=by kernel_rfl
theorem spb1 {w:World}(ty:Nat) (l:List E2) (i:Nat):run w ⟨[(4,31,true),(4,45,false)],[(4,58),(4,62)],exL1 (l.getD i default)⟩ 4 70 kspans4_nl (spI ty l true i) (spI ty l (okSp (nq (l.getD i default).1) (nq (l.getD i default).2)) (i+1))=some (.normal,[decide ((i:Int)<(l.length:Int))=true,i<l.length,i<l.length,i<l.length,i<l.length,lgB [(l.getD i default).1,(l.getD i default).2]=false,2=[(l.getD i default).1,(l.getD i default).2].length,[(l.getD i default).1,(l.getD i default).2].length<=1000000,i<l.length,i<l.length,[Pat.agg [Grp.lit (str (l.getD i default).1),Grp.lit (str (l.getD i default).2)]]=[pEn (l.getD i default).1 (l.getD i default).2],i+1<=1000000,i+1<=1000000,Gd ((i:Int)+1),sD w (.ls (lst 0 ty 2 l fE)),i+1=i+1,sN w i (fun j=>fQ (eq2 (l.getD j default))) [Grp.cls (Dx.q (nq (l.getD i default).1) 4),Grp.cls (Dx.q (nq (l.getD i default).2) 4)],i+1=i+1,sN w i (fun j=>fR (eq2 (l.getD j default))) [Grp.cls (Dx.rq (nq (l.getD i default).1) 4),Grp.cls (Dx.rq (nq (l.getD i default).2) 4)],eA (Value.bool (okSp (nq (l.getD i default).1) (nq (l.getD i default).2))),ii (↑(i+1):Int)=Value.int IntKind.i64 ((i:Int)+1)]):=by kernel_rfl
theorem spb2 {w:World}(ty:Nat) (l:List E2) (i:Nat):run w ⟨[(4,31,true),(4,45,false)],[(4,58),(4,62)],exL1 (l.getD i default)⟩ 4 70 kspans4_nl (spI ty l false i) (spI ty l false (i+1))=some (.normal,[decide ((i:Int)<(l.length:Int))=true,i<l.length,i<l.length,i<l.length,i<l.length,lgB [(l.getD i default).1,(l.getD i default).2]=false,2=[(l.getD i default).1,(l.getD i default).2].length,[(l.getD i default).1,(l.getD i default).2].length<=1000000,i<l.length,i<l.length,[Pat.agg [Grp.lit (str (l.getD i default).1),Grp.lit (str (l.getD i default).2)]]=[pEn (l.getD i default).1 (l.getD i default).2],i+1<=1000000,i+1<=1000000,Gd ((i:Int)+1),sD w (.ls (lst 0 ty 2 l fE)),i+1=i+1,sN w i (fun j=>fQ (eq2 (l.getD j default))) [Grp.cls (Dx.q (nq (l.getD i default).1) 4),Grp.cls (Dx.q (nq (l.getD i default).2) 4)],i+1=i+1,sN w i (fun j=>fR (eq2 (l.getD j default))) [Grp.cls (Dx.rq (nq (l.getD i default).1) 4),Grp.cls (Dx.rq (nq (l.getD i default).2) 4)],eA (Value.bool false),ii (↑(i+1):Int)=Value.int IntKind.i64 ((i:Int)+1)]):=by kernel_rfl
theorem spbr {w:World}(ty:Nat) (l:List E2) (fine:Bool) (i:Nat):runR w ⟨[(4,31,true),(4,45,true)],[],cbn⟩ 4 70 Tryz.f4 kspans4_nl (spI ty l fine i) rN4=some (.ret,[decide ((i:Int)<(l.length:Int))=true,i<l.length,i<l.length,i<l.length,i<l.length,lgB [(l.getD i default).1,(l.getD i default).2]=true,2=[(l.getD i default).1,(l.getD i default).2].length,[(l.getD i default).1,(l.getD i default).2].length<=1000000,eA (Value.slice none 0 0),eA (Value.slice none 0 0),eA (Value.bool false),eA (Value.bool false)]):=by kernel_rfl
theorem spc {w:World}(ty:Nat) (l:List E2) (fine:Bool) (i:Nat):run w ⟨[(4,31,false)],[],cbn⟩ 4 70 kspans4_nl (spI ty l fine i) (spI ty l fine i)=some (.exit 0,[decide ((i:Int)<(l.length:Int))=false,sD w (.ls (lst 0 ty 2 l fE)),i=i,sG w i (fun j=>fQ (eq2 (l.getD j default))),i=i,sG w i (fun j=>fR (eq2 (l.getD j default))),eA (Value.bool fine),eA (ii (i:Int))]):=by kernel_rfl
theorem spd {w:World}(ty:Nat) (l:List E2):runR w ⟨[],[],cbn⟩ 4 70 Tryz.f4 kspans4_nt (spI ty l (fnB (l.map eq2) l.length) l.length) (rF4 w.heap.size l)=some (.ret,[jq (W0 w) (.ls (lst w.1.size 36 8 (List.map eq2 l) fQ)) (.ls { lo:=w.1.size,ty:=36,z:=8,n:=l.length,g:=fun(j:Nat)=>fQ (eq2 (l.getD j default)) }),jq (W0 w) (.ls (lst w.1.size 42 6 (List.map eq2 l) fR)) (.ls { lo:=w.1.size,ty:=42,z:=6,n:=l.length,g:=fun(j:Nat)=>fR (eq2 (l.getD j default)) }),eA (Value.bool (fnB (List.map eq2 l) l.length)),eA (Value.bool true),kE (W0 w) (.ls (lst w.1.size 36 8 (List.map eq2 l) fQ)),kE (W0 w) (.ls (lst w.1.size 42 6 (List.map eq2 l) fR))]):=by kernel_rfl
section
variable {w:World}{ty:Nat}{l:List E2}
theorem ckB (hN:cU) (hG:Gr w) {ps:List (Pat Dx)}(hbad:KZ l=false->ps=rN4) (hok:KZ l=true->ps=rF4 w.heap.size l) (hn:okN8 l.length=false) {a:Act}{w1:World}(hA:At (W0 w) 70 (spI ty l true 0) a w1) :
 after Fence.wide 0 Tryz.prog kspans4_n (Ret (W0 w) Tryz.f4 (Res (W0 w) ps)) .normal a w1:=by
 have hR:=Eb (w:=w) hG hN (Zv hN hG (cb _));have hle:l.length<=1000:=by
  unfold okN8 at hn;rw[cgp] at hn;have:=jn hn.2;omega
 refine Ct (fun i=>spI ty l (fnB (l.map eq2) i) i) (fun i=>i<=l.length/\∀ k,k<i->lg2 (l.getD k default)=false) (fun i=>l.length-i) (L:=kspans4_n) (ks:=kspans4_nt) (id:=0) (c:=yE kspans4_n) (by kernel_rfl) 0 ⟨ju _,by omega⟩ hA (fun i a2 w2 hi hA=>?_);rcases jA (decide ((i:Int)<(l.length:Int))) with q31|q31
 ·have p31:=jh q31;have hlt:i<l.length:=by omega
  rcases jA (lg2 (l.getD i default)) with q45|q45
  ·rw[hbad (cpl hlt q45)];exact kj (spbr ty l (fnB (l.map eq2) i) i) (hR _ rfl) hA (by (repeat' (first|exact trivial|apply And.intro))<;>first|exact jq.refl _ _|exact fun _ _=>jW.refl _ _|exact cD rfl|exact cL _ _|exact cM _ _|(with_reducible assumption)|omega|with_reducible rfl|(simp only[cC];omega)|(intro j hj;exact absurd hj (cH _))|exact q45|exact(show (2:Nat)<=1000000 by decide)|rfl)
  ·have hx:=Eb hG hN (exL1_ok (x:=l.getD i default) hN hG (cb _) q45);have hI:i+1<=l.length/\∀ k,k<i+1->lg2 (l.getD k default)=false:=⟨by omega,fun k hk=>by rcases Nat.lt_succ_iff_lt_or_eq.1 hk with h|rfl;exact hi.2 k h;exact q45⟩;have hg:(l.map eq2).getD i default=eq2 (l.getD i default):=mapD hlt;cases hb:fnB (l.map eq2) i with
   |true =>
    rw[hb] at hA;refine jT (spb1 ty l i) (hx _ rfl) hA (fun a3 w3 hA=>jX (by kernel_rfl) ⟨i+1,hI,?_,by omega⟩) (by (repeat' (first|exact trivial|apply And.intro))<;>first|exact jq.refl _ _|exact fun _ _=>jW.refl _ _|exact cD rfl|exact cL _ _|exact cM _ _|(with_reducible assumption)|omega|with_reducible rfl|(simp only[cC];omega)|(intro j hj;exact absurd hj (cH _))|exact q45|exact(show (2:Nat)<=1000000 by decide)|rfl);rw[fnB,hb,hg];exact hA
   |false =>
    rw[hb] at hA;refine jT (spb2 ty l i) (hx _ rfl) hA (fun a3 w3 hA=>jX (by kernel_rfl) ⟨i+1,hI,?_,by omega⟩) (by (repeat' (first|exact trivial|apply And.intro))<;>first|exact jq.refl _ _|exact fun _ _=>jW.refl _ _|exact cD rfl|exact cL _ _|exact cM _ _|(with_reducible assumption)|omega|with_reducible rfl|(simp only[cC];omega)|(intro j hj;exact absurd hj (cH _))|exact q45|exact(show (2:Nat)<=1000000 by decide)|rfl);rw[fnB,hb];exact hA
 ·have p31:=jn q31;obtain rfl:i=l.length:=by omega
  refine jT (spc ty l (fnB (l.map eq2) l.length) l.length) (hR _ rfl) hA (fun a3 w3 hA=>kO _ (by kernel_rfl) ?_);rw[hok (coh hn hi.2)];refine kj (spd ty l) (hR _ rfl) hA (ho:=⟨ckx (f:=fun x=>fQ (eq2 x)) (fun _=>rfl),ckx (f:=fun x=>fR (eq2 x)) (fun _=>rfl),rfl,rfl,Wu (cb _) ?_,Wu (cb _) ?_,trivial⟩)
  ·intro j hj d hd;simp [lst,zC] at hd;rcases hd with rfl|rfl<;>exact cL _ _
  ·intro j hj d hd;simp [lst,zC] at hd;rcases hd with rfl|rfl<;>exact cM _ _
theorem sp_all (hN:cU) (hG:Gr w) {ps:List (Pat Dx)}(hbad:KZ l=false->ps=rN4) (hok:KZ l=true->ps=rF4 w.heap.size l) {a:Act}{w1:World}(hA:At (W0 w) 70 (stA [pE2 ty l]) a w1) :
 after Fence.wide 0 Tryz.prog kspans4_ (Ret (W0 w) Tryz.f4 (Res (W0 w) ps)) .normal a w1:=by
 have hR:=Eb (w:=w) hG hN (Zv hN hG (cb _));have hno:okN8 l.length=true->KZ l=false:=fun h=>by unfold KZ;rw[h];rfl
 rcases jA (decide ((l.length:Int)>8)) with q15|q15
 ·rcases jA (decide ((l.length:Int)<=12)) with q19|q19
  ·rw[hbad (hno (by unfold okN8;rw[q15,q19];rfl))];exact kj (spn1 ty l) (hR _ rfl) hA
  ·rcases jA (decide ((l.length:Int)>15)) with q24|q24
   ·rw[hbad (hno (by unfold okN8;rw[q24,Bool.or_true]))];exact kj (spn2 ty l) (hR _ rfl) hA
   ·exact jT (spa1 ty l) (hR _ rfl) hA (fun a3 w3 hA=>yu (ckB hN hG hbad hok (by unfold okN8;rw[q15,q19,q24];rfl) hA))
 ·rcases jA (decide ((l.length:Int)>15)) with q24|q24
  ·rw[hbad (hno (by unfold okN8;rw[q24,Bool.or_true]))];exact kj (spn3 ty l) (hR _ rfl) hA
  ·exact jT (spa2 ty l) (hR _ rfl) hA (fun a3 w3 hA=>yu (ckB hN hG hbad hok (by unfold okN8;rw[q15,q24];rfl) hA))
end
theorem spT_ok (hN:cU) (ty:Nat) (l:List E2) (hl:KZ l=true):Says 4 [pE2 ty l] (fun lo=>rF4 lo l):=by
 intro w vs hG hp;refine ym hG hN (ex:=cbn) (Zv hN hG (cb _)) (fn:=Tryz.f4) Tryz.func4 (c:=codeOf Tryz.f4) (by kernel_rfl) (args:=[pE2 ty l]) (by kernel_rfl) hp (fun hR _ hA=>?_);exact sp_all hN hG (fun h=>by rw[hl] at h;cases h) (fun _=>rfl) hA
theorem spF_ok (hN:cU) (ty:Nat) (l:List E2) (hl:KZ l=false):Says 4 [pE2 ty l] (fun _=>rN4):=by
 intro w vs hG hp;refine ym hG hN (ex:=cbn) (Zv hN hG (cb _)) (fn:=Tryz.f4) Tryz.func4 (c:=codeOf Tryz.f4) (by kernel_rfl) (args:=[pE2 ty l]) (by kernel_rfl) hp (fun hR _ hA=>?_);exact sp_all hN hG (fun _=>rfl) (fun h=>by rw[hl] at h;cases h) hA
theorem spT_ent {lo ty:Nat}{w0:World}{l:List E2}{fine:Bool}(hN:cU) (hG:Gr w0) (hlo:lo<=w0.heap.size) (hl:KZ l=true) (hf:fnB (l.map eq2) l.length=fine):jG (Cx true lo w0) (.call 4) [pE2 ty l] (Cd [F.pSl lo (l.map eq2),pRl lo (l.map eq2),.one (.lit (.bool fine)),.one (.lit (.bool true))]):=by
 subst hf;exact(spT_ok hN ty l hl).ent hG hlo (cY Tryz.func4 (by kernel_rfl) rfl) (fun hi h=>⟨_,rfl,ccU (L:=lst lo _ 8 _ fQ) h,ccU (L:=lst lo _ 6 _ fR) h,rfl,rfl,trivial⟩)
theorem spF_ent {lo ty:Nat}{w0:World}{l:List E2}(hN:cU) (hG:Gr w0) (hlo:lo<=w0.heap.size) (hl:KZ l=false):jG (Cx true lo w0) (.call 4) [pE2 ty l] (Cd rN4) :=
 (spF_ok hN ty l hl).ent hG hlo (cY Tryz.func4 (by kernel_rfl) rfl) (fun _ _=>⟨_,rfl,rfl,rfl,rfl,rfl,trivial⟩)
noncomputable abbrev exV0:List (Nat×Con):=(5,cki)::exN
noncomputable abbrev exV1 (ty:Nat) (l:List E2):List (Nat×Con):=(4,CN [pE2 ty l] (Cd rN4))::exV0
noncomputable abbrev exV2 (lo ty:Nat) (l:List E2) (fine:Bool):List (Nat×Con):=(4,CN [pE2 ty l] (Cd [F.pSl lo (l.map eq2),pRl lo (l.map eq2),.one (.lit (.bool fine)),.one (.lit (.bool true))]))::exV0
noncomputable abbrev exV3 (lo ty:Nat) (l:List E2) (A B:Tx) (fine good:Bool) (er:Int):List (Nat×Con):=(7,CN [pEn A B] (Cd [pS (nq A) 4 (nq B) 4,pRS (nq A) (nq B),.one (.lit (.bool good))]))::(8,CN [pS (nq A) 4 (nq B) 4,F.pSl lo (l.map eq2)] (Cd [F.pZA,pI er]))::(9,CN [F.pZA] (vr (.bool true)))::exV2 lo ty l fine
noncomputable abbrev exV4 (lo ty:Nat) (l:List E2) (A B:Tx) (zl zh:Rat) (U:List Nat) (d:Bool):List (Nat×Con):=(7,CN [pEn A B] (Cd [pS (nq A) 4 (nq B) 4,pRS (nq A) (nq B),.one (.lit (.bool true))]))::(8,CN [pS (nq A) 4 (nq B) 4,F.pSl lo (l.map eq2)] (Cd [F.pAg lo (zl,zh) U d,pI 0]))::(10,CN [pRS (nq A) (nq B),pRl lo (l.map eq2)] (Cd [pRS zl zh,F.pLi lo U]))::(11,CN [F.pAg lo (zl,zh) U d,pRS zl zh,F.pLi lo U,pI ((l.map eq2).length:Int)] (vr (.bool true)))::exV2 lo ty l true
theorem crz1 {w:World}(ty:Nat) (l:List E2) (A B:Tx):runR w ⟨[],[],exV1 ty l⟩ 3 102 Tryz.f3 kCrackReconciles3_ (stA [pEn A B,pE2 ty l]) (rB true)=some (.ret,[[Pat.one (Grp.cls (Dx.ls (lst 0 ty 2 l fE)))]=[pE2 ty l],([]:List (Pat Dx))=[],eA (Value.bool true)]):=by kernel_rfl
theorem crz2 {w:World}(ty:Nat) (l:List E2) (A B:Tx) (fine:Bool):runR w ⟨[(3,31,true)],[],exV2 w.heap.size ty l fine⟩ 3 102 Tryz.f3 kCrackReconciles3_ (stA [pEn A B,pE2 ty l]) (rB true)=some (.ret,[[Pat.one (Grp.cls (Dx.ls (lst 0 ty 2 l fE)))]=[pE2 ty l],lgB [A,B]=true,2=[A,B].length,[A,B].length<=1000000,([]:List (Pat Dx))=[],eA (Value.bool true)]):=by kernel_rfl
theorem crz3 {w:World}(ty:Nat) (l:List E2) (A B:Tx) (fine:Bool):runR w ⟨[(3,31,false)],[],exV3 w.heap.size ty l A B fine false 2⟩ 3 102 Tryz.f3 kCrackReconciles3_ (stA [pEn A B,pE2 ty l]) (rB true)=some (.ret,[[Pat.one (Grp.cls (Dx.ls (lst 0 ty 2 l fE)))]=[pE2 ty l],lgB [A,B]=false,2=[A,B].length,[A,B].length<=1000000,[Pat.agg [Grp.lit (str A),Grp.lit (str B)]]=[pEn A B],[Pat.agg [Grp.cls (Dx.q (nq A) 4),Grp.cls (Dx.q (nq B) 4)],Pat.one (Grp.cls (Dx.ls (lst w.1.size 36 8 (List.map eq2 l) fQ)))]=[pS (nq A) 4 (nq B) 4,F.pSl w.1.size (List.map eq2 l)],[Pat.agg [Grp.lit (Value.bool false),Grp.lit (Value.int IntKind.u64 0),Grp.lit (Value.int IntKind.u64 0),Grp.lit (Value.pointer none),Grp.lit (Value.bool false),Grp.lit (Value.int IntKind.u64 0),Grp.lit (Value.int IntKind.u64 0),Grp.lit (Value.pointer none),Grp.lit (Value.slice none 0 0),Grp.lit (Value.bool false)]]=[F.pZA],([]:List (Pat Dx))=[],eA (Value.bool true)]):=by kernel_rfl
theorem crz4 {w:World}(ty:Nat) (l:List E2) (A B:Tx) (fine:Bool):runR w ⟨[(3,31,false),(3,61,true)],[],exV3 w.heap.size ty l A B fine true 5⟩ 3 102 Tryz.f3 kCrackReconciles3_ (stA [pEn A B,pE2 ty l]) (rB true)=some (.ret,[[Pat.one (Grp.cls (Dx.ls (lst 0 ty 2 l fE)))]=[pE2 ty l],lgB [A,B]=false,2=[A,B].length,[A,B].length<=1000000,[Pat.agg [Grp.lit (str A),Grp.lit (str B)]]=[pEn A B],[Pat.agg [Grp.cls (Dx.q (nq A) 4),Grp.cls (Dx.q (nq B) 4)],Pat.one (Grp.cls (Dx.ls (lst w.1.size 36 8 (List.map eq2 l) fQ)))]=[pS (nq A) 4 (nq B) 4,F.pSl w.1.size (List.map eq2 l)],decide ((↑(List.map eq2 l).length:Int)>12)=true,[Pat.agg [Grp.lit (Value.bool false),Grp.lit (Value.int IntKind.u64 0),Grp.lit (Value.int IntKind.u64 0),Grp.lit (Value.pointer none),Grp.lit (Value.bool false),Grp.lit (Value.int IntKind.u64 0),Grp.lit (Value.int IntKind.u64 0),Grp.lit (Value.pointer none),Grp.lit (Value.slice none 0 0),Grp.lit (Value.bool false)]]=[F.pZA],([]:List (Pat Dx))=[],eA (Value.bool true)]):=by kernel_rfl
theorem crz5 {w:World}(ty:Nat) (l:List E2) (A B:Tx):runR w ⟨[(3,31,false),(3,61,false)],[],exV3 w.heap.size ty l A B false true 2⟩ 3 102 Tryz.f3 kCrackReconciles3_ (stA [pEn A B,pE2 ty l]) (rB true)=some (.ret,[[Pat.one (Grp.cls (Dx.ls (lst 0 ty 2 l fE)))]=[pE2 ty l],lgB [A,B]=false,2=[A,B].length,[A,B].length<=1000000,[Pat.agg [Grp.lit (str A),Grp.lit (str B)]]=[pEn A B],[Pat.agg [Grp.cls (Dx.q (nq A) 4),Grp.cls (Dx.q (nq B) 4)],Pat.one (Grp.cls (Dx.ls (lst w.1.size 36 8 (List.map eq2 l) fQ)))]=[pS (nq A) 4 (nq B) 4,F.pSl w.1.size (List.map eq2 l)],decide ((↑(List.map eq2 l).length:Int)>12)=false,[Pat.agg [Grp.lit (Value.bool false),Grp.lit (Value.int IntKind.u64 0),Grp.lit (Value.int IntKind.u64 0),Grp.lit (Value.pointer none),Grp.lit (Value.bool false),Grp.lit (Value.int IntKind.u64 0),Grp.lit (Value.int IntKind.u64 0),Grp.lit (Value.pointer none),Grp.lit (Value.slice none 0 0),Grp.lit (Value.bool false)]]=[F.pZA],([]:List (Pat Dx))=[],eA (Value.bool true)]):=by kernel_rfl
theorem crz6 {w:World}(ty:Nat) (l:List E2) (A B:Tx) (zl zh:Rat) (U:List Nat) (d:Bool):runR w ⟨[(3,31,false),(3,61,false)],[],exV4 w.heap.size ty l A B zl zh U d⟩ 3 102 Tryz.f3 kCrackReconciles3_ (stA [pEn A B,pE2 ty l]) (rB true)=some (.ret,[[Pat.one (Grp.cls (Dx.ls (lst 0 ty 2 l fE)))]=[pE2 ty l],lgB [A,B]=false,2=[A,B].length,[A,B].length<=1000000,[Pat.agg [Grp.lit (str A),Grp.lit (str B)]]=[pEn A B],[Pat.agg [Grp.cls (Dx.q (nq A) 4),Grp.cls (Dx.q (nq B) 4)],Pat.one (Grp.cls (Dx.ls (lst w.1.size 36 8 (List.map eq2 l) fQ)))]=[pS (nq A) 4 (nq B) 4,F.pSl w.1.size (List.map eq2 l)],decide ((↑(List.map eq2 l).length:Int)>12)=false,[Pat.agg [Grp.cls (Dx.rq (nq A) 4),Grp.cls (Dx.rq (nq B) 4)],Pat.one (Grp.cls (Dx.ls (lst w.1.size 42 6 (List.map eq2 l) fR)))]=[pRS (nq A) (nq B),pRl w.1.size (List.map eq2 l)],[Pat.agg [Grp.cls (Dx.q zl 4),Grp.cls (Dx.q zh 4),Grp.cls (Dx.ls (lst w.1.size 3 1 U F.fn1)),Grp.lit (Value.bool d)],Pat.agg [Grp.cls (Dx.rq zl 4),Grp.cls (Dx.rq zh 4)],Pat.one (Grp.cls (Dx.ls (lst w.1.size 3 1 U F.fn1))),Pat.one (Grp.lit (goInt (↑(List.map eq2 l).length:Int)))]=[F.pAg w.1.size (zl,zh) U d,pRS zl zh,F.pLi w.1.size U,pI (↑(List.map eq2 l).length:Int)],([]:List (Pat Dx))=[],eA (Value.bool true)]):=by kernel_rfl
section
variable {lo ty:Nat}{w0:World}{l:List E2}{A B:Tx}
theorem clK (hN:cU) (hG:Gr w0) (hlo:lo<=w0.heap.size):zv true lo w0 exV0:=jg (chL hN hG hlo) (exN_ok hG)
theorem cgG {fine:Bool}(hN:cU) (hG:Gr w0) (hlo:lo<=w0.heap.size) (hl:KZ l=true) (hf:fnB (l.map eq2) l.length=fine):zv true lo w0 (exV2 lo ty l fine):=jg (kV (spT_ent hN hG hlo hl hf)) (clK hN hG hlo)
theorem clg {good:Bool}(hN:cU) (hG:Gr w0) (hlo:lo<=w0.heap.size) (hA:A.length<=60) (hB:B.length<=60) (hg:okSp (nq A) (nq B)=good):jG (Cx true lo w0) (.call 7) [pEn A B] (Cd [pS (nq A) 4 (nq B) 4,pRS (nq A) (nq B),.one (.lit (.bool good))]):=by
 subst hg;exact chl hN hG hlo hA hB
theorem cfy {fine good:Bool}{er:Int}(hN:cU) (hG:Gr w0) (hlo:lo<=w0.heap.size) (hl:KZ l=true) (hf:fnB (l.map eq2) l.length=fine) (hA:A.length<=60) (hB:B.length<=60) (hg:okSp (nq A) (nq B)=good) (hr:jG (Cx true lo w0) (.call 8) [pS (nq A) 4 (nq B) 4,F.pSl lo (l.map eq2)] (Cd [F.pZA,pI er])):zv true lo w0 (exV3 lo ty l A B fine good er) :=
 jg (kV (clg hN hG hlo hA hB hg)) (jg (kV hr) (jg (kV ((no_ok hN 0).val hG hlo (cY Tryz.func9 (by kernel_rfl) rfl))) (cgG hN hG hlo hl hf)))
end
theorem cr_ok (hN:cU) (ty:Nat) (A B:Tx) (l:List E2):Says 3 [pEn A B,pE2 ty l] (fun _=>rB true):=by
 intro w vs hG hp;refine ym hG hN (ex:=[]) kg (fn:=Tryz.f3) Tryz.func3 (c:=codeOf Tryz.f3) (by kernel_rfl) (args:=[pEn A B,pE2 ty l]) (by kernel_rfl) hp (fun hR _ hA=>?_);have hlo:=cb w.heap.size;rcases jA (KZ l) with hl|hl
 rotate_left
 ·exact kj (crz1 ty l A B) (Eb hG hN (jg (kV (spF_ent hN hG hlo hl)) (clK hN hG hlo)) _ rfl) hA
 have hle:l.length<=1000:=by
  have hn:=(okFd_is hl).1;unfold okN8 at hn;rw[cgp] at hn;have:=jn hn.2;omega
 have hml:(l.map eq2).length=l.length:=List.length_map _;rcases jA (lgB [A,B]) with h31|h31
 ·exact kj (crz2 ty l A B (fnB (l.map eq2) l.length)) (Eb hG hN (cgG hN hG hlo hl rfl) _ rfl) hA (by (repeat' (first|exact trivial|apply And.intro))<;>first|exact jq.refl _ _|exact fun _ _=>jW.refl _ _|exact cD rfl|exact cL _ _|exact cM _ _|(with_reducible assumption)|omega|with_reducible rfl|(simp only[cC];omega)|(intro j hj;exact absurd hj (cH _))|exact h31|exact(show (2:Nat)<=1000000 by decide)|rfl)
 have hA6:A.length<=60:=cA (cgr h31 _ (by simp)) (by decide);have hB6:B.length<=60:=cA (cgr h31 _ (by simp)) (by decide);rcases jA (okSp (nq A) (nq B)) with hg|hg
 rotate_left
 ·exact kj (crz3 ty l A B (fnB (l.map eq2) l.length)) (Eb hG hN (cfy hN hG hlo hl rfl hA6 hB6 hg (F.rec1_ent (e:=(nq A,nq B)) hN hG hlo (by omega) hg)) _ rfl) hA (by (repeat' (first|exact trivial|apply And.intro))<;>first|exact jq.refl _ _|exact fun _ _=>jW.refl _ _|exact cD rfl|exact cL _ _|exact cM _ _|(with_reducible assumption)|omega|with_reducible rfl|(simp only[cC];omega)|(intro j hj;exact absurd hj (cH _))|exact h31|exact(show (2:Nat)<=1000000 by decide)|rfl)
 rcases jA (decide (((l.map eq2).length:Int)>12)) with h61|h61
 ·have p61:=jh h61;exact kj (crz4 ty l A B (fnB (l.map eq2) l.length)) (Eb hG hN (cfy hN hG hlo hl rfl hA6 hB6 hg (F.rec3_ent (e:=(nq A,nq B)) hN hG hlo (by omega) hg (by omega))) _ rfl) hA (by (repeat' (first|exact trivial|apply And.intro))<;>first|exact jq.refl _ _|exact fun _ _=>jW.refl _ _|exact cD rfl|exact cL _ _|exact cM _ _|(with_reducible assumption)|omega|with_reducible rfl|(simp only[cC];omega)|(intro j hj;exact absurd hj (cH _))|exact h31|exact h61|exact(show (2:Nat)<=1000000 by decide)|rfl)
 have p61:=jn h61;have hfb:=fnB_is (G:=l.map eq2) l.length;cases hf:fnB (l.map eq2) l.length with
 |false =>
  rw[hf] at hfb;have hb:anyP (l.map eq2).length (F.badF (l.map eq2))=true:=by rw[hml];cases hx:anyP l.length (F.badF (l.map eq2)) with|true=>rfl|false=>rw[hx] at hfb;cases hfb
  exact kj (crz5 ty l A B) (Eb hG hN (cfy hN hG hlo hl hf hA6 hB6 hg (F.recE_ent (e:=(nq A,nq B)) hN hG hlo (by omega) (.inr hb))) _ rfl) hA (by (repeat' (first|exact trivial|apply And.intro))<;>first|exact jq.refl _ _|exact fun _ _=>jW.refl _ _|exact cD rfl|exact cL _ _|exact cM _ _|(with_reducible assumption)|omega|with_reducible rfl|(simp only[cC];omega)|(intro j hj;exact absurd hj (cH _))|exact h31|exact h61|exact(show (2:Nat)<=1000000 by decide)|rfl)
 |true =>
  rw[hf] at hfb;have hb:anyP (l.map eq2).length (F.badF (l.map eq2))=false:=by rw[hml];cases hx:anyP l.length (F.badF (l.map eq2)) with|false=>rfl|true=>rw[hx] at hfb;cases hfb
  have hab:=(cgD.1 hg).2;have hE:=F.rec_ent (b:=true) (lo:=w.heap.size) (l0:=w.heap.size) (w0:=w) (e:=(nq A,nq B)) (L:=l.map eq2) hN hG hlo (by omega) hg hb;have hE2:=F.G.rrec_ent (lo:=w.heap.size) (l0:=w.heap.size) (w0:=w) (e:=(nq A,nq B)) (L:=l.map eq2) hN hG hlo (by omega) hab;rw[cnG hab] at hE2;have hU:=u_len (L:=l.map eq2) (x:=kN (nq A,nq B) (l.map eq2) (l.map eq2).length) (l.map eq2).length;exact kj (crz6 ty l A B _ _ _ _) (Eb hG hN (jg (kV (clg hN hG hlo hA6 hB6 hg)) (jg (kV hE) (jg (kV hE2) (jg (kV (ar_ent hN hG hlo (by omega) rfl)) (cgG hN hG hlo hl hf))))) _ rfl) hA (by (repeat' (first|exact trivial|apply And.intro))<;>first|exact jq.refl _ _|exact fun _ _=>jW.refl _ _|exact cD rfl|exact cL _ _|exact cM _ _|(with_reducible assumption)|omega|with_reducible rfl|(simp only[cC];omega)|(intro j hj;exact absurd hj (cH _))|exact h31|exact h61|exact(show (2:Nat)<=1000000 by decide)|rfl)
end Pe
end Go.Proofs.YtdopipkmcnkdjaaGreatDoor
