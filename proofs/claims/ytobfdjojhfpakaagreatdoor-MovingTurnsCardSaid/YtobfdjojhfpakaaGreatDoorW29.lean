/- Part 29. -/
import Derived.Test.YtobfdjojhfpakaaGreatDoorW27
set_option linter.all false
open Bool (and_eq_true eq_false_or_eq_true)
open List (length_cons take_append_drop)
open Nat (le_refl le_trans not_lt_zero zero_le)
noncomputable section

namespace Go.Proofs.YtobfdjojhfpakaaGreatDoor
open Go Go.RowKit Go.Proofs Lim
namespace Pe
noncomputable def kisFrom88_:List Kp:=[.code (codeOf Tryz.f88)]
noncomputable def kisNegative57_:List Kp:=[.code (codeOf Tryz.f57)]
noncomputable def kCheckLine1118_:List Kp:=[.code (codeOf Tryz.f118)]
noncomputable def kCheckLine2119_:List Kp:=[.code (codeOf Tryz.f119)]
noncomputable def kvalue1136_:List Kp:=[.code (codeOf Tryz.f136)]
noncomputable def kCheckVehicle1121_:List Kp:=[.code (codeOf Tryz.f121)]
noncomputable def kgap90_:List Kp:=[.code (codeOf Tryz.f90)]
def US:Con
 |[.agg [.cls (.q r _)]]=>some (vr (.bool (decide (ji r<0))),[])
 |_=>none
def cbm:Con
 |[.one (.lit (.int .i64 a)),.one (.lit (.int .i64 n)),.one (.lit (.int .i64 b))]=>some (vr (.bool (decide (a<=n)&&decide (n<=b))),[])
 |_=>none
def Zb:Con
 |[.agg [.cls (.q _ _),.cls (.q s _)]]=>some (vr (.bool (decide (ji s=0))),[])
 |_=>none
def ceD:Con
 |[.agg [.cls (.q r j),.cls (.q _ _)],.agg [.cls (.q r' j'),.cls (.q _ _)]]=>some (vr (.bool (decide (kO r r'<0))),[j+j'<=10000])
 |_=>none
def cfj:Con
 |[.agg [.cls (.q r j),.cls (.q _ _)],.agg [.cls (.q x m)]]=>some (vr (.int .i64 (kO r x)),[j+m<=10000])
 |_=>none
def YI:Con
 |[.agg [.cls (.q r _),.cls (.q s _)]]=>some (vr (.bool (decide (ji r<0)||decide (ji s<0))),[])
 |_=>none
def cdW:Con
 |[.agg [.cls (.q _ _),.cls (.q s k)]]=>some (qr s k,[])
 |_=>none
noncomputable abbrev isfR (w:World) (a n b:Int) (o:List (Nat×Nat×Bool)):=runR w ⟨o,[],[]⟩ 88 15 Tryz.f88 kisFrom88_ (stA [pI a,pI n,pI b]) (rB (decide (a<=n)&&decide (n<=b)))
theorem isf0 {w:World}(a n b:Int):isfR w a n b [(88,9,true),(88,13,true)]=some (.ret,[decide (a<=n)=true,decide (n<=b)=true,Value.bool (decide (a<=n)&&decide (n<=b))=Value.bool true]):=by kernel_rfl
theorem isf1 {w:World}(a n b:Int):isfR w a n b [(88,9,true),(88,13,false)]=some (.ret,[decide (a<=n)=true,decide (n<=b)=false,Value.bool (decide (a<=n)&&decide (n<=b))=Value.bool false]):=by kernel_rfl
theorem isf2 {w:World}(a n b:Int):isfR w a n b [(88,9,false)]=some (.ret,[decide (a<=n)=false,Value.bool (decide (a<=n)&&decide (n<=b))=Value.bool false]):=by kernel_rfl
theorem cgF (hN:cF) (a n b:Int):kb 88 [pI a,pI n,pI b] (fun _=>rB (decide (a<=n)&&decide (n<=b))):=by
 intro w vs hG hp;refine jR hG hN (ex:=[]) jd (fn:=Tryz.f88) Tryz.func88 (c:=codeOf Tryz.f88) (by kernel_rfl) (args:=[pI a,pI n,pI b]) (by kernel_rfl) hp (fun hR _ hA=>?_);rcases eq_false_or_eq_true (decide (a<=n)) with q9|q9
 ·skip
  have p9:=of_decide_eq_true q9;rcases eq_false_or_eq_true (decide (n<=b)) with q13|q13
  ·skip
   have p13:=of_decide_eq_true q13;refine jk (isf0 a n b) (hR _ rfl) hA (by (repeat' (first|exact trivial|apply And.intro))<;>first|exact co.refl _ _|exact fun _ _=>cw.refl _ _|exact cI rfl|exact cu _ _|exact ct _ _|(with_reducible assumption)|omega|with_reducible rfl|(simp only[cA];omega)|(intro j hj;exact absurd hj (not_lt_zero _))|exact congrArg Value.bool (by rw[q9];first|rfl|(rw[q13];rfl))|rfl)
  ·skip
   have p13:=of_decide_eq_false q13;refine jk (isf1 a n b) (hR _ rfl) hA (by (repeat' (first|exact trivial|apply And.intro))<;>first|exact co.refl _ _|exact fun _ _=>cw.refl _ _|exact cI rfl|exact cu _ _|exact ct _ _|(with_reducible assumption)|omega|with_reducible rfl|(simp only[cA];omega)|(intro j hj;exact absurd hj (not_lt_zero _))|exact congrArg Value.bool (by rw[q9];first|rfl|(rw[q13];rfl))|rfl)
 ·skip
  have p9:=of_decide_eq_false q9;refine jk (isf2 a n b) (hR _ rfl) hA (by (repeat' (first|exact trivial|apply And.intro))<;>first|exact co.refl _ _|exact fun _ _=>cw.refl _ _|exact cI rfl|exact cu _ _|exact ct _ _|(with_reducible assumption)|omega|with_reducible rfl|(simp only[cA];omega)|(intro j hj;exact absurd hj (not_lt_zero _))|exact congrArg Value.bool (by rw[q9];first|rfl|(rw[q13];rfl))|rfl)
noncomputable abbrev negR (w:World) (r:Rat) (k:Nat) (o:List (Nat×Nat×Bool)):=runR w ⟨o,[],[]⟩ 57 6 Tryz.f57 kisNegative57_ (stA [pQ r k]) (rB (decide (ji r<0)))
theorem neg0 {w:World}(r:Rat) (k:Nat):negR w r k [(57,5,true)]=some (.ret,[decide (ji r<0)=true,Value.bool (decide (ji r<0))=Value.bool true]):=by kernel_rfl
theorem neg1 {w:World}(r:Rat) (k:Nat):negR w r k [(57,5,false)]=some (.ret,[decide (ji r<0)=false,Value.bool (decide (ji r<0))=Value.bool false]):=by kernel_rfl
theorem cfd (hN:cF) (r:Rat) (k:Nat):kb 57 [pQ r k] (fun _=>rB (decide (ji r<0))):=by
 intro w vs hG hp;refine jR hG hN (ex:=[]) jd (fn:=Tryz.f57) Tryz.func57 (c:=codeOf Tryz.f57) (by kernel_rfl) (args:=[pQ r k]) (by kernel_rfl) hp (fun hR _ hA=>?_);rcases eq_false_or_eq_true (decide (ji r<0)) with q5|q5
 ·skip
  have p5:=of_decide_eq_true q5
  first|have e0:=congrArg Value.bool q5|skip
  refine jk (neg0 r k) (hR _ rfl) hA
 ·skip
  have p5:=of_decide_eq_false q5
  first|have e0:=congrArg Value.bool q5|skip
  refine jk (neg1 r k) (hR _ rfl) hA
noncomputable abbrev levR (w:World) (r s:Rat) (j k:Nat) (o:List (Nat×Nat×Bool)):=runR w ⟨o,[],[]⟩ 118 7 Tryz.f118 kCheckLine1118_ (stA [pP r j s k]) (rB (decide (ji s=0)))
theorem lev0 {w:World}(r s:Rat) (j k:Nat):levR w r s j k [(118,6,true)]=some (.ret,[decide (ji s=0)=true,Value.bool (decide (ji s=0))=Value.bool true]):=by kernel_rfl
theorem lev1 {w:World}(r s:Rat) (j k:Nat):levR w r s j k [(118,6,false)]=some (.ret,[decide (ji s=0)=false,Value.bool (decide (ji s=0))=Value.bool false]):=by kernel_rfl
theorem ciM (hN:cF) (r s:Rat) (j k:Nat):kb 118 [pP r j s k] (fun _=>rB (decide (ji s=0))):=by
 intro w vs hG hp;refine jR hG hN (ex:=[]) jd (fn:=Tryz.f118) Tryz.func118 (c:=codeOf Tryz.f118) (by kernel_rfl) (args:=[pP r j s k]) (by kernel_rfl) hp (fun hR _ hA=>?_);rcases eq_false_or_eq_true (decide (ji s=0)) with q6|q6
 ·skip
  have p6:=of_decide_eq_true q6
  first|have e0:=congrArg Value.bool q6|skip
  refine jk (lev0 r s j k) (hR _ rfl) hA
 ·skip
  have p6:=of_decide_eq_false q6
  first|have e0:=congrArg Value.bool q6|skip
  refine jk (lev1 r s j k) (hR _ rfl) hA
noncomputable abbrev ascR (w:World) (r s r' s':Rat) (j k j' k':Nat)  (o:List (Nat×Nat×Bool)):=runR w ⟨o,[],[]⟩ 119 11 Tryz.f119 kCheckLine2119_ (stA [pP r j s k,pP r' j' s' k']) (rB (decide (kO r r'<0)))
theorem asc0 {w:World}(r s r' s':Rat) (j k j' k':Nat):ascR w r s r' s' j k j' k' [(119,10,true)]=some (.ret,[j+j'<=1000000,decide (kO r r'<0)=true,Value.bool (decide (kO r r'<0))=Value.bool true]):=by kernel_rfl
theorem asc1 {w:World}(r s r' s':Rat) (j k j' k':Nat):ascR w r s r' s' j k j' k' [(119,10,false)]=some (.ret,[j+j'<=1000000,decide (kO r r'<0)=false,Value.bool (decide (kO r r'<0))=Value.bool false]):=by kernel_rfl
theorem asc_ok (hN:cF) (r s r' s':Rat) (j k j' k':Nat) (hj:j+j'<=10000):kb 119 [pP r j s k,pP r' j' s' k'] (fun _=>rB (decide (kO r r'<0))):=by
 intro w vs hG hp;refine jR hG hN (ex:=[]) jd (fn:=Tryz.f119) Tryz.func119 (c:=codeOf Tryz.f119) (by kernel_rfl) (args:=[pP r j s k,pP r' j' s' k']) (by kernel_rfl) hp (fun hR _ hA=>?_);rcases eq_false_or_eq_true (decide (kO r r'<0)) with q10|q10
 ·skip
  have p10:=of_decide_eq_true q10
  first|have e0:=congrArg Value.bool q10|skip
  refine jk (asc0 r s r' s' j k j' k') (hR _ rfl) hA
 ·skip
  have p10:=of_decide_eq_false q10
  first|have e0:=congrArg Value.bool q10|skip
  refine jk (asc1 r s r' s' j k j' k') (hR _ rfl) hA
noncomputable abbrev keyR (w:World) (r s x:Rat) (j k m:Nat)  (o:List (Nat×Nat×Bool)):=runR w ⟨o,[],[]⟩ 136 9 Tryz.f136 kvalue1136_ (stA [pP r j s k,pQ x m]) (rI (kO r x))
theorem key0 {w:World}(r s x:Rat) (j k m:Nat):keyR w r s x j k m []=some (.ret,[j+m<=1000000,Value.int IntKind.i64 (kO r x)=Value.int IntKind.i64 (kO r x)]):=by kernel_rfl
theorem key_ok (hN:cF) (r s x:Rat) (j k m:Nat) (hj:j+m<=10000):kb 136 [pP r j s k,pQ x m] (fun _=>rI (kO r x)):=by
 intro w vs hG hp;refine jR hG hN (ex:=[]) jd (fn:=Tryz.f136) Tryz.func136 (c:=codeOf Tryz.f136) (by kernel_rfl) (args:=[pP r j s k,pQ x m]) (by kernel_rfl) hp (fun hR _ hA=>?_);refine jk (key0 r s x j k m) (hR _ rfl) hA
theorem caP {lo:Nat}{w0:World}(hN:cF) (hG:Gr w0) (hlo:lo<=w0.heap.size):∀ l r ob,US l=some (r,ob)->jr ob->jD (Cx true lo w0) (.call 57) l r:=by
 intro l r ob h ho;unfold US at h;split at h
 ·injection h with h;injection h with h1 h2;subst h1;subst h2
  exact(cfd hN _ _).val hG hlo (enters_of Tryz.func57 (by kernel_rfl) rfl)
 ·cases h
theorem exNeg {lo:Nat}{w0:World}(hN:cF) (hG:Gr w0) (hlo:lo<=w0.heap.size):Eg true lo w0 [(57,US)]:=jn (caP hN hG hlo) jd
noncomputable abbrev wroR (w:World) (r s:Rat) (j k:Nat) (o:List (Nat×Nat×Bool)):=runR w ⟨o,[],[(57,US)]⟩ 121 11 Tryz.f121 kCheckVehicle1121_ (stA [pP r j s k]) (rB (decide (ji r<0)||decide (ji s<0)))
theorem wro0 {w:World}(r s:Rat) (j k:Nat):wroR w r s j k [(121,5,true)]=some (.ret,[decide (ji r<0)=true,Value.bool (decide (ji r<0)||decide (ji s<0))=Value.bool true]):=by kernel_rfl
theorem wro1 {w:World}(r s:Rat) (j k:Nat):wroR w r s j k [(121,5,false),(121,9,true)]=some (.ret,[decide (ji r<0)=false,decide (ji s<0)=true,Value.bool (decide (ji r<0)||decide (ji s<0))=Value.bool true]):=by kernel_rfl
theorem wro2 {w:World}(r s:Rat) (j k:Nat):wroR w r s j k [(121,5,false),(121,9,false)]=some (.ret,[decide (ji r<0)=false,decide (ji s<0)=false,Value.bool (decide (ji r<0)||decide (ji s<0))=Value.bool false]):=by kernel_rfl
theorem ciR (hN:cF) (r s:Rat) (j k:Nat):kb 121 [pP r j s k] (fun _=>rB (decide (ji r<0)||decide (ji s<0))):=by
 intro w vs hG hp;refine jR hG hN (ex:=[(57,US)]) (exNeg hN hG (le_refl _)) (fn:=Tryz.f121) Tryz.func121 (c:=codeOf Tryz.f121) (by kernel_rfl) (args:=[pP r j s k]) (by kernel_rfl) hp (fun hR _ hA=>?_);rcases eq_false_or_eq_true (decide (ji r<0)) with q5|q5
 ·skip
  have p5:=of_decide_eq_true q5;refine jk (wro0 r s j k) (hR _ rfl) hA (by (repeat' (first|exact trivial|apply And.intro))<;>first|exact co.refl _ _|exact fun _ _=>cw.refl _ _|exact cI rfl|exact cu _ _|exact ct _ _|(with_reducible assumption)|omega|with_reducible rfl|(simp only[cA];omega)|(intro j hj;exact absurd hj (not_lt_zero _))|exact congrArg Value.bool (by rw[q5];first|rfl|(rw[q9];rfl))|rfl)
 ·skip
  have p5:=of_decide_eq_false q5;rcases eq_false_or_eq_true (decide (ji s<0)) with q9|q9
  ·skip
   have p9:=of_decide_eq_true q9;refine jk (wro1 r s j k) (hR _ rfl) hA (by (repeat' (first|exact trivial|apply And.intro))<;>first|exact co.refl _ _|exact fun _ _=>cw.refl _ _|exact cI rfl|exact cu _ _|exact ct _ _|(with_reducible assumption)|omega|with_reducible rfl|(simp only[cA];omega)|(intro j hj;exact absurd hj (not_lt_zero _))|exact congrArg Value.bool (by rw[q5];first|rfl|(rw[q9];rfl))|rfl)
  ·skip
   have p9:=of_decide_eq_false q9;refine jk (wro2 r s j k) (hR _ rfl) hA (by (repeat' (first|exact trivial|apply And.intro))<;>first|exact co.refl _ _|exact fun _ _=>cw.refl _ _|exact cI rfl|exact cu _ _|exact ct _ _|(with_reducible assumption)|omega|with_reducible rfl|(simp only[cA];omega)|(intro j hj;exact absurd hj (not_lt_zero _))|exact congrArg Value.bool (by rw[q5];first|rfl|(rw[q9];rfl))|rfl)
noncomputable abbrev gapR (w:World) (r s:Rat) (j k:Nat) (o:List (Nat×Nat×Bool)):=runR w ⟨o,[],[]⟩ 90 5 Tryz.f90 kgap90_ (stA [pP r j s k]) [pQ s k]
theorem gap0 {w:World}(r s:Rat) (j k:Nat):gapR w r s j k []=some (.ret,[co (W0 w) (.q s k) (.q s k),ju (W0 w) (.q s k)]):=by kernel_rfl
theorem gap_ok (hN:cF) (r s:Rat) (j k:Nat):kb 90 [pP r j s k] (fun _=>[pQ s k]):=by
 intro w vs hG hp;refine jR hG hN (ex:=[]) jd (fn:=Tryz.f90) Tryz.func90 (c:=codeOf Tryz.f90) (by kernel_rfl) (args:=[pP r j s k]) (by kernel_rfl) hp (fun hR _ hA=>?_);refine jk (gap0 r s j k) (hR _ rfl) hA
theorem cee {lo:Nat}{w0:World}(hN:cF) (hG:Gr w0) (hlo:lo<=w0.heap.size):∀ l r ob,cbm l=some (r,ob)->jr ob->jD (Cx true lo w0) (.call 88) l r:=by
 intro l r ob h ho;unfold cbm at h;split at h
 ·injection h with h;injection h with h1 h2;subst h1;subst h2
  exact(cgF hN _ _ _).val hG hlo (enters_of Tryz.func88 (by kernel_rfl) rfl)
 ·cases h
theorem ccm {lo:Nat}{w0:World}(hN:cF) (hG:Gr w0) (hlo:lo<=w0.heap.size):∀ l r ob,Zb l=some (r,ob)->jr ob->jD (Cx true lo w0) (.call 118) l r:=by
 intro l r ob h ho;unfold Zb at h;split at h
 ·injection h with h;injection h with h1 h2;subst h1;subst h2
  exact(ciM hN _ _ _ _).val hG hlo (enters_of Tryz.func118 (by kernel_rfl) rfl)
 ·cases h
theorem cgI {lo:Nat}{w0:World}(hN:cF) (hG:Gr w0) (hlo:lo<=w0.heap.size):∀ l r ob,ceD l=some (r,ob)->jr ob->jD (Cx true lo w0) (.call 119) l r:=by
 intro l r ob h ho;unfold ceD at h;split at h
 ·injection h with h;injection h with h1 h2;subst h1;subst h2
  exact(asc_ok hN _ _ _ _ _ _ _ _ ho.1).val hG hlo (enters_of Tryz.func119 (by kernel_rfl) rfl)
 ·cases h
theorem chs {lo:Nat}{w0:World}(hN:cF) (hG:Gr w0) (hlo:lo<=w0.heap.size):∀ l r ob,cfj l=some (r,ob)->jr ob->jD (Cx true lo w0) (.call 136) l r:=by
 intro l r ob h ho;unfold cfj at h;split at h
 ·injection h with h;injection h with h1 h2;subst h1;subst h2
  exact(key_ok hN _ _ _ _ _ _ ho.1).val hG hlo (enters_of Tryz.func136 (by kernel_rfl) rfl)
 ·cases h
theorem cdt {lo:Nat}{w0:World}(hN:cF) (hG:Gr w0) (hlo:lo<=w0.heap.size):∀ l r ob,YI l=some (r,ob)->jr ob->jD (Cx true lo w0) (.call 121) l r:=by
 intro l r ob h ho;unfold YI at h;split at h
 ·injection h with h;injection h with h1 h2;subst h1;subst h2
  exact(ciR hN _ _ _ _).val hG hlo (enters_of Tryz.func121 (by kernel_rfl) rfl)
 ·cases h
theorem chv {lo:Nat}{w0:World}(hN:cF) (hG:Gr w0) (hlo:lo<=w0.heap.size):∀ l r ob,cdW l=some (r,ob)->jr ob->jD (Cx true lo w0) (.call 90) l r:=by
 intro l r ob h ho;unfold cdW at h;split at h
 ·injection h with h;injection h with h1 h2;subst h1;subst h2
  exact(gap_ok hN _ _ _ _).num hG hlo (enters_of Tryz.func90 (by kernel_rfl) rfl)
 ·cases h
def exM:List (Nat×Con):=[(88,cbm),(57,US),(118,Zb),(119,ceD),(136,cfj),(121,YI),(90,cdW)]
theorem Kc {lo:Nat}{w0:World}(hN:cF) (hG:Gr w0) (hlo:lo<=w0.heap.size):Eg true lo w0 exM:=jn (cee hN hG hlo) (jn (caP hN hG hlo) (jn (ccm hN hG hlo) (jn (cgI hN hG hlo) (jn (chs hN hG hlo) (jn (cdt hN hG hlo) (jn (chv hN hG hlo) jd))))))
end Pe
namespace Pe
noncomputable def kPoint120_:List Kp:=[.code (codeOf Tryz.f120)]
noncomputable def kPoint120_n:List Kp:=next kPoint120_
noncomputable def kPoint120_nl:List Kp:=[.code (ug kPoint120_n)]
noncomputable def kPoint120_nt:List Kp:=kPoint120_n.tail
abbrev up (L:List R2) (i:Nat):Bool:=decide (kO (L.getD i default).1 (L.getD (i+1) default).1<0)
def asc (L:List R2):Bool:=(List.range (L.length-1)).all (up L)
theorem cak {L:List R2}{i:Nat}(hi:i+1<L.length) (h:up L i=false):Value.bool (asc L)=Value.bool false:=by
 refine congrArg Value.bool (Bool.eq_false_iff.2 fun ha=>?_);have:=List.all_eq_true.1 ha i (List.mem_range.2 (by omega));rw[h] at this;cases this
theorem ccX {L:List R2}(h:∀ i,i<L.length-1->up L i=true):asc L=true:=List.all_eq_true.2 fun i hi=>h i (List.mem_range.1 hi)
abbrev eaI (lo ty:Nat) (L:List R2) (i:Nat):St Dx:=⟨1,[(0,.val (.one (.sym 0 0))),(1,.val (.one (.lit (.func (.func 119) #[] #[])))),(8,.val (.one (.lit (ii ((L.length:Int)-1))))),(9,.val (.one (.lit (ii (i:Int)))))],[(0,.cls (.ls (lst lo ty 8 L fQ)))],[]⟩
theorem eaa {w:World}(lo:Nat) (L:List R2):run w ⟨[],[],exM⟩ 120 25 kPoint120_ (stA [pL lo 90 L,pF 119]) (eaI lo 90 L 0)=some (.normal,[cn ((L.length:Int)-1),co (W0 w) (.ls (lst lo 90 8 L fQ)) (.ls (lst lo 90 8 L fQ)),Value.func (Fn.func 119) #[] #[]=Value.func (Fn.func 119) #[] #[],ii ((L.length:Int)-1)=Value.int IntKind.i64 ((L.length:Int)-1),ii (↑0:Int)=Value.int IntKind.i64 0]):=by kernel_rfl
theorem eae {w:World}(lo:Nat) (L:List R2) (i:Nat):runR w ⟨[],[],exM⟩ 120 25 Tryz.f120 kPoint120_nt (eaI lo 90 L i) (rB (asc L))=some (.ret,[Value.bool (asc L)=Value.bool true]):=by kernel_rfl
noncomputable abbrev eabTe0 (w:World) (l0:Nat) (L:List R2) (i:Nat) (o:List (Nat×Nat×Bool)):=run w ⟨o,[],exM⟩ 120 25 kPoint120_nl (eaI l0 90 L i) (eaI l0 90 L i)
noncomputable abbrev eabR (w:World) (l0:Nat) (L:List R2) (i:Nat) (o:List (Nat×Nat×Bool)):=runR w ⟨o,[],exM⟩ 120 25 Tryz.f120 kPoint120_nl (eaI l0 90 L i) (rB (asc L))
noncomputable abbrev eabTnal (w:World) (l0:Nat) (L:List R2) (i:Nat) (o:List (Nat×Nat×Bool)):=run w ⟨o,[],exM⟩ 120 25 kPoint120_nl (eaI l0 90 L i) (eaI l0 90 L (i+1))
theorem eab0 {w:World}(l0:Nat) (L:List R2) (i:Nat):eabTnal w l0 L i [(120,10,true),(120,22,true)]=some (.normal,[decide ((i:Int)<(L.length:Int)-1)=true,i<L.length,i<L.length,cn ((i:Int)+1),i+1<L.length,i+1<L.length,decide (kO (L.getD i default).1 (L.getD (i+1) default).1<0)=true,4+4<=10000,cn ((i:Int)+1),co (W0 w) (.ls (lst l0 90 8 L fQ)) (.ls (lst l0 90 8 L fQ)),Value.func (Fn.func 119) #[] #[]=Value.func (Fn.func 119) #[] #[],ii ((L.length:Int)-1)=ii ((L.length:Int)-1),ii (↑(i+1):Int)=Value.int IntKind.i64 ((i:Int)+1)]):=by kernel_rfl
theorem eab1 {w:World}(l0:Nat) (L:List R2) (i:Nat):eabR w l0 L i [(120,10,true),(120,22,false)]=some (.ret,[decide ((i:Int)<(L.length:Int)-1)=true,i<L.length,i<L.length,cn ((i:Int)+1),i+1<L.length,i+1<L.length,decide (kO (L.getD i default).1 (L.getD (i+1) default).1<0)=false,4+4<=10000,Value.bool (asc L)=Value.bool false]):=by kernel_rfl
theorem eab2 {w:World}(l0:Nat) (L:List R2) (i:Nat):eabTe0 w l0 L i [(120,10,false)]=some (.exit 0,[decide ((i:Int)<(L.length:Int)-1)=false,co (W0 w) (.ls (lst l0 90 8 L fQ)) (.ls (lst l0 90 8 L fQ)),Value.func (Fn.func 119) #[] #[]=Value.func (Fn.func 119) #[] #[],ii ((L.length:Int)-1)=ii ((L.length:Int)-1),ii (i:Int)=ii (i:Int)]):=by kernel_rfl
theorem each_ok (hN:cF) (l0:Nat) (L:List R2) (hl:L.length<=1000000):kb 120 [pL l0 90 L,pF 119] (fun _=>rB (asc L)):=by
 intro w vs hG hp;refine jR hG hN (ex:=exM) (Kc hN hG (le_refl _)) (fn:=Tryz.f120) Tryz.func120 (c:=codeOf Tryz.f120) (by kernel_rfl) (args:=[pL l0 90 L,pF 119]) (by kernel_rfl) hp (fun hR _ hA=>?_);refine kp (eaa l0 L) (hR _ rfl) hA (fun a w1 hA=>ki ?_);refine yw (fun i=>eaI l0 90 L i) (fun i=>i<=L.length-1/\∀ k,k<i->up L k=true) (fun i=>L.length-i) (L:=kPoint120_n) (ks:=kPoint120_nt) (id:=0) (c:=ug kPoint120_n) (by kernel_rfl) 0 ⟨zero_le _,by omega⟩ hA (fun i a2 w2 hi hA=>?_);rcases eq_false_or_eq_true (decide ((i:Int)<(L.length:Int)-1)) with q10|q10
 ·skip
  have p10:=of_decide_eq_true q10;rcases eq_false_or_eq_true (up L i) with q22|q22
  ·skip
   refine kp (eab0 l0 L i) (hR _ rfl) hA (fun aT wT hT=>?_);exact uz (by kernel_rfl) ⟨i+1,⟨by omega,fun k hk=>by rcases Nat.lt_succ_iff_lt_or_eq.1 hk with h|rfl;exact hi.2 k h;exact q22⟩,hT,by omega⟩
  ·skip
   have e0:=cak (by omega) q22;refine jk (eab1 l0 L i) (hR _ rfl) hA
 ·skip
  have p10:=of_decide_eq_false q10;refine kp (eab2 l0 L i) (hR _ rfl) hA (fun aT wT hT=>?_);refine kT _ (by kernel_rfl) ?_;refine GD (hR ⟨[],[],exM⟩ rfl) (.inl rfl) (fun _=>rfl) (fn:=Tryz.f120) (eae l0 L i) ?_ hT (fun _ _ h=>h);exact⟨congrArg Value.bool (ccX fun k hk=>hi.2 k (by omega)),trivial⟩
def conEach (args:List (Pat Dx)) (L:List R2):Con:=zl args (vr (.bool (asc L)))
theorem cii {lo l0:Nat}{w0:World}{L:List R2}(hN:cF) (hG:Gr w0) (hlo:lo<=w0.heap.size) (hl:L.length<=1000000):jD (Cx true lo w0) (.call 120) [pL l0 90 L,pF 119] (vr (.bool (asc L))) :=
 (each_ok hN l0 L hl).val hG hlo (enters_of Tryz.func120 (by kernel_rfl) rfl)
end Pe
namespace Pe
noncomputable def kCheckLine65_:List Kp:=[.code (codeOf Tryz.f65)]
noncomputable def kAxle170_:List Kp:=[.code (codeOf Tryz.f170)]
noncomputable def kAxle170_n:List Kp:=next kAxle170_
noncomputable def kAxle170_nl:List Kp:=[.code (ug kAxle170_n)]
noncomputable def kAxle122_:List Kp:=[.code (codeOf Tryz.f122)]
noncomputable def kCheckVehicle69_:List Kp:=[.code (codeOf Tryz.f69)]
noncomputable def kAxle170_nt:List Kp:=kAxle170_n.tail
abbrev szI (a n b:Int):Bool:=decide (a<=n)&&decide (n<=b)
abbrev lev (L:List R2) (i:Nat):Bool:=decide (ji (L.getD i default).2=0)
section
variable {a b c d:Bool}
theorem a4_t (h:a=true) (i:b=true) (j:c=true) (k:d=true):(a&&b&&c&&d)=true:=by rw[h,i,j,k];rfl
theorem a4_1 (h:a=false):(a&&b&&c&&d)=false:=by rw[h];rfl
theorem a4_2 (h:b=false):(a&&b&&c&&d)=false:=by rw[h,Bool.and_false];rfl
theorem a4_3 (h:c=false):(a&&b&&c&&d)=false:=by rw[h,Bool.and_false];rfl
theorem a4_4 (h:d=false):(a&&b&&c&&d)=false:=by rw[h,Bool.and_false]
theorem a3_t (h:a=true) (i:b=true) (j:c=true):(a&&b&&c)=true:=by rw[h,i,j];rfl
theorem a3_1 (h:a=false):(a&&b&&c)=false:=by rw[h];rfl
theorem a3_2 (h:b=false):(a&&b&&c)=false:=by rw[h,Bool.and_false];rfl
theorem a3_3 (h:c=false):(a&&b&&c)=false:=by rw[h,Bool.and_false]
end
def okL (L:List R2):Bool:=szI 2 L.length 60&&lev L 0&&lev L (L.length-1)&&asc L
abbrev er (b:Bool):Int:=match b with
 |true=>0
 |false=>2
theorem KA {a b:Bool}(h:a=b):Value.int .i64 (er a)=Value.int .i64 (er b):=by rw[h]
abbrev exL (l0:Nat) (L:List R2):List (Nat×Con):=(120,conEach [pL l0 90 L,pF 119] L)::exM
theorem exL_ok {lo l0:Nat}{w0:World}{L:List R2}(hN:cF) (hG:Gr w0) (hlo:lo<=w0.heap.size) (hl:L.length<=1000000):Eg true lo w0 (exL l0 L):=jn (kB (cii hN hG hlo hl)) (Kc hN hG hlo)
noncomputable abbrev chlR (w:World) (l0:Nat) (L:List R2)  (o:List (Nat×Nat×Bool)):=runR w ⟨o,[],(exL l0 L)⟩ 65 34 Tryz.f65 kCheckLine65_ (stA [pL l0 90 L]) (rI (er (okL L)))
theorem chl0 {w:World}(l0:Nat) (L:List R2):chlR w l0 L [(65,7,true),(65,14,true),(65,25,true),(65,31,true),(65,22,true)]=some (.ret,[(decide (2<=(L.length:Int))&&decide ((L.length:Int)<=60))=true,0<L.length,0<L.length,decide (ji (L.getD 0 default).2=0)=true,1<=L.length,L.length<=1000000000,L.length-1<L.length,L.length-1<L.length,decide (ji (L.getD (L.length-1) default).2=0)=true,asc L=true,[Pat.one (Grp.cls (Dx.ls (lst l0 90 8 L fQ))),Pat.one (Grp.lit (Value.func (Fn.func 119) #[] #[]))]=[pL l0 90 L,pF 119],Value.int IntKind.i64 (er (okL L))=Value.int IntKind.i64 0]):=by kernel_rfl
theorem chl1 {w:World}(l0:Nat) (L:List R2):chlR w l0 L [(65,7,true),(65,14,true),(65,25,true),(65,31,false),(65,22,true)]=some (.ret,[(decide (2<=(L.length:Int))&&decide ((L.length:Int)<=60))=true,0<L.length,0<L.length,decide (ji (L.getD 0 default).2=0)=true,1<=L.length,L.length<=1000000000,L.length-1<L.length,L.length-1<L.length,decide (ji (L.getD (L.length-1) default).2=0)=true,asc L=false,[Pat.one (Grp.cls (Dx.ls (lst l0 90 8 L fQ))),Pat.one (Grp.lit (Value.func (Fn.func 119) #[] #[]))]=[pL l0 90 L,pF 119],Value.int IntKind.i64 (er (okL L))=Value.int IntKind.i64 2]):=by kernel_rfl
theorem chl2 {w:World}(l0:Nat) (L:List R2):chlR w l0 L [(65,7,true),(65,14,true),(65,25,false),(65,22,true)]=some (.ret,[(decide (2<=(L.length:Int))&&decide ((L.length:Int)<=60))=true,0<L.length,0<L.length,decide (ji (L.getD 0 default).2=0)=true,1<=L.length,L.length<=1000000000,L.length-1<L.length,L.length-1<L.length,decide (ji (L.getD (L.length-1) default).2=0)=false,Value.int IntKind.i64 (er (okL L))=Value.int IntKind.i64 2]):=by kernel_rfl
theorem chl3 {w:World}(l0:Nat) (L:List R2):chlR w l0 L [(65,7,true),(65,14,false),(65,22,true)]=some (.ret,[(decide (2<=(L.length:Int))&&decide ((L.length:Int)<=60))=true,0<L.length,0<L.length,decide (ji (L.getD 0 default).2=0)=false,Value.int IntKind.i64 (er (okL L))=Value.int IntKind.i64 2]):=by kernel_rfl
theorem chl4 {w:World}(l0:Nat) (L:List R2):chlR w l0 L [(65,7,false),(65,22,true)]=some (.ret,[(decide (2<=(L.length:Int))&&decide ((L.length:Int)<=60))=false,Value.int IntKind.i64 (er (okL L))=Value.int IntKind.i64 2]):=by kernel_rfl
theorem cbk (hN:cF) (l0:Nat) (L:List R2) (hl:L.length<=1000000):kb 65 [pL l0 90 L] (fun _=>rI (er (okL L))):=by
 intro w vs hG hp;refine jR hG hN (ex:=(exL l0 L)) (exL_ok hN hG (le_refl _) hl) (fn:=Tryz.f65) Tryz.func65 (c:=codeOf Tryz.f65) (by kernel_rfl) (args:=[pL l0 90 L]) (by kernel_rfl) hp (fun hR _ hA=>?_);rcases eq_false_or_eq_true (szI 2 L.length 60) with q7|q7
 ·skip
  have b7:2<=L.length/\L.length<=60:=by simp only[szI,and_eq_true,decide_eq_true_eq] at q7;omega
  rcases eq_false_or_eq_true (lev L 0) with q14|q14
  ·skip
   rcases eq_false_or_eq_true (lev L (L.length-1)) with q25|q25
   ·skip
    rcases eq_false_or_eq_true (asc L) with q31|q31
    ·skip
     have e0:=KA (a:=okL L) (b:=true) (a4_t q7 q14 q25 q31);refine jk (chl0 l0 L) (hR _ rfl) hA
    ·skip
     have e0:=KA (a:=okL L) (b:=false) (a4_4 q31);refine jk (chl1 l0 L) (hR _ rfl) hA
   ·skip
    have e0:=KA (a:=okL L) (b:=false) (a4_3 q25);refine jk (chl2 l0 L) (hR _ rfl) hA
  ·skip
   have e0:=KA (a:=okL L) (b:=false) (a4_2 q14);refine jk (chl3 l0 L) (hR _ rfl) hA
 ·skip
  have e0:=KA (a:=okL L) (b:=false) (a4_1 q7);refine jk (chl4 l0 L) (hR _ rfl) hA
abbrev bad (L:List R2) (i:Nat):Bool:=decide (ji (L.getD i default).1<0)||decide (ji (L.getD i default).2<0)
def anyBad (L:List R2):Bool:=(List.range L.length).any (bad L)
theorem cin {L:List R2}{i:Nat}(hi:i<L.length) (h:bad L i=true):anyBad L=true:=List.any_eq_true.2 ⟨i,List.mem_range.2 hi,h⟩
theorem che {L:List R2}(h:∀ i,i<L.length->bad L i=false):anyBad L=false:=List.any_eq_false.2 fun i hi=>by rw[h i (List.mem_range.1 hi)];exact Bool.false_ne_true
def ixB (L:List R2):Int:=match (List.range L.length).find? (bad L) with
 |some i=>(i:Int)
 |none=>-1
theorem ix_some {L:List R2}{i:Nat}(hi:i<L.length) (h:bad L i=true) (hb:∀ k,k<i->bad L k=false):ixB L=(i:Int):=by
 have:(List.range L.length).find? (bad L)=some i:=by
  rw[List.find?_range_eq_some];exact⟨h,List.mem_range.2 hi,fun j hj=>by simp [hb j hj]⟩
 unfold ixB;rw[this]
theorem ix_none {L:List R2}(h:∀ i,i<L.length->bad L i=false):ixB L=-1:=by
 have:(List.range L.length).find? (bad L)=none:=by
  rw[List.find?_eq_none];intro i hi;rw[h i (List.mem_range.1 hi)];exact Bool.false_ne_true
 unfold ixB;rw[this]
theorem ix_ge (L:List R2):decide (ixB L>=0)=anyBad L:=by
 unfold ixB anyBad;split
 ·rename_i i h;have h1:=List.find?_some h;have h2:=List.mem_of_find?_eq_some h;rw[List.any_eq_true.2 ⟨i,h2,h1⟩];exact decide_eq_true (by omega)
 ·rename_i h;rw[List.find?_eq_none] at h;rw[List.any_eq_false.2 h];rfl
abbrev ixI (lo ty:Nat) (L:List R2) (i:Nat):St Dx:=⟨1,[(0,.val (.one (.sym 0 0))),(1,.val (.one (.lit (.func (.func 121) #[] #[])))),(7,.val (.one (.lit (ii (L.length:Int))))),(8,.val (.one (.lit (ii (i:Int)))))],[(0,.cls (.ls (lst lo ty 8 L fQ)))],[]⟩
theorem ixa {w:World}(lo:Nat) (L:List R2):run w ⟨[],[],exM⟩ 170 19 kAxle170_ (stA [pL lo 95 L,pF 121]) (ixI lo 95 L 0)=some (.normal,[co (W0 w) (.ls (lst lo 95 8 L fQ)) (.ls (lst lo 95 8 L fQ)),Value.func (Fn.func 121) #[] #[]=Value.func (Fn.func 121) #[] #[],ii (L.length:Int)=goInt (L.length:Int),ii (↑0:Int)=Value.int IntKind.i64 0]):=by kernel_rfl
theorem ixe {w:World}(lo:Nat) (L:List R2) (i:Nat):runR w ⟨[],[],exM⟩ 170 19 Tryz.f170 kAxle170_nt (ixI lo 95 L i) (rI (ixB L))=some (.ret,[Value.int IntKind.i64 (ixB L)=Value.int IntKind.i64 (-1)]):=by kernel_rfl
noncomputable abbrev ixbTe0 (w:World) (l0:Nat) (L:List R2) (i:Nat) (o:List (Nat×Nat×Bool)):=run w ⟨o,[],exM⟩ 170 19 kAxle170_nl (ixI l0 95 L i) (ixI l0 95 L i)
noncomputable abbrev ixbTnal (w:World) (l0:Nat) (L:List R2) (i:Nat) (o:List (Nat×Nat×Bool)):=run w ⟨o,[],exM⟩ 170 19 kAxle170_nl (ixI l0 95 L i) (ixI l0 95 L (i+1))
noncomputable abbrev ixbR (w:World) (l0:Nat) (L:List R2) (i:Nat) (o:List (Nat×Nat×Bool)):=runR w ⟨o,[],exM⟩ 170 19 Tryz.f170 kAxle170_nl (ixI l0 95 L i) (rI (ixB L))
theorem ixb0 {w:World}(l0:Nat) (L:List R2) (i:Nat):ixbR w l0 L i [(170,9,true),(170,16,true)]=some (.ret,[decide ((i:Int)<(L.length:Int))=true,i<L.length,i<L.length,(decide (ji (L.getD i default).1<0)||decide (ji (L.getD i default).2<0))=true,Value.int IntKind.i64 (ixB L)=ii (i:Int)]):=by kernel_rfl
theorem ixb1 {w:World}(l0:Nat) (L:List R2) (i:Nat):ixbTnal w l0 L i [(170,9,true),(170,16,false)]=some (.normal,[decide ((i:Int)<(L.length:Int))=true,i<L.length,i<L.length,(decide (ji (L.getD i default).1<0)||decide (ji (L.getD i default).2<0))=false,cn ((i:Int)+1),co (W0 w) (.ls (lst l0 95 8 L fQ)) (.ls (lst l0 95 8 L fQ)),Value.func (Fn.func 121) #[] #[]=Value.func (Fn.func 121) #[] #[],ii (L.length:Int)=ii (L.length:Int),ii (↑(i+1):Int)=Value.int IntKind.i64 ((i:Int)+1)]):=by kernel_rfl
theorem ixb2 {w:World}(l0:Nat) (L:List R2) (i:Nat):ixbTe0 w l0 L i [(170,9,false)]=some (.exit 0,[decide ((i:Int)<(L.length:Int))=false,co (W0 w) (.ls (lst l0 95 8 L fQ)) (.ls (lst l0 95 8 L fQ)),Value.func (Fn.func 121) #[] #[]=Value.func (Fn.func 121) #[] #[],ii (L.length:Int)=ii (L.length:Int),ii (i:Int)=ii (i:Int)]):=by kernel_rfl
theorem cij (hN:cF) (l0:Nat) (L:List R2) (hl:L.length<=1000000):kb 170 [pL l0 95 L,pF 121] (fun _=>rI (ixB L)):=by
 intro w vs hG hp;refine jR hG hN (ex:=exM) (Kc hN hG (le_refl _)) (fn:=Tryz.f170) Tryz.func170 (c:=codeOf Tryz.f170) (by kernel_rfl) (args:=[pL l0 95 L,pF 121]) (by kernel_rfl) hp (fun hR _ hA=>?_);refine kp (ixa l0 L) (hR _ rfl) hA (fun a w1 hA=>ki ?_);refine yw (fun i=>ixI l0 95 L i) (fun i=>i<=L.length/\∀ k,k<i->bad L k=false) (fun i=>L.length-i) (L:=kAxle170_n) (ks:=kAxle170_nt) (id:=0) (c:=ug kAxle170_n) (by kernel_rfl) 0 ⟨zero_le _,by omega⟩ hA (fun i a2 w2 hi hA=>?_);rcases eq_false_or_eq_true (decide ((i:Int)<(L.length:Int))) with q9|q9
 ·skip
  have p9:=of_decide_eq_true q9;rcases eq_false_or_eq_true (bad L i) with q16|q16
  ·skip
   have e0:=congrArg (Value.int .i64) (ix_some (by omega) q16 hi.2);refine jk (ixb0 l0 L i) (hR _ rfl) hA
  ·skip
   refine kp (ixb1 l0 L i) (hR _ rfl) hA (fun aT wT hT=>?_);exact uz (by kernel_rfl) ⟨i+1,⟨by omega,fun k hk=>by rcases Nat.lt_succ_iff_lt_or_eq.1 hk with h|rfl;exact hi.2 k h;exact q16⟩,hT,by omega⟩
 ·skip
  have p9:=of_decide_eq_false q9;refine kp (ixb2 l0 L i) (hR _ rfl) hA (fun aT wT hT=>?_);refine kT _ (by kernel_rfl) ?_;refine GD (hR ⟨[],[],exM⟩ rfl) (.inl rfl) (fun _=>rfl) (fn:=Tryz.f170) (ixe l0 L i) ?_ hT (fun _ _ h=>h);exact⟨congrArg (Value.int .i64) (ix_none fun k hk=>hi.2 k (by omega)),trivial⟩
theorem chj {lo l0:Nat}{w0:World}{L:List R2}(hN:cF) (hG:Gr w0) (hlo:lo<=w0.heap.size) (hl:L.length<=1000000):jD (Cx true lo w0) (.call 170) [pL l0 95 L,pF 121] (vr (.int .i64 (ixB L))) :=
 (cij hN l0 L hl).val hG hlo (enters_of Tryz.func170 (by kernel_rfl) rfl)
def okV (L:List R2):Bool:=szI 1 L.length 20&&!anyBad L&&lev L (L.length-1)
abbrev exV (l0:Nat) (L:List R2):List (Nat×Con):=(170,zl [pL l0 95 L,pF 121] (vr (.int .i64 (ixB L))))::exM
theorem exV_ok {lo l0:Nat}{w0:World}{L:List R2}(hN:cF) (hG:Gr w0) (hlo:lo<=w0.heap.size) (hl:L.length<=1000000):Eg true lo w0 (exV l0 L):=jn (kB (chj hN hG hlo hl)) (Kc hN hG hlo)
noncomputable abbrev cofR (w:World) (l0:Nat) (L:List R2)  (o:List (Nat×Nat×Bool)):=runR w ⟨o,[],(exV l0 L)⟩ 122 9 Tryz.f122 kAxle122_ (stA [pL l0 95 L,pF 121]) (rB (anyBad L))
theorem cof0 {w:World}(l0:Nat) (L:List R2):cofR w l0 L [(122,8,true)]=some (.ret,[[Pat.one (Grp.cls (Dx.ls (lst l0 95 8 L fQ))),Pat.one (Grp.lit (Value.func (Fn.func 121) #[] #[]))]=[pL l0 95 L,pF 121],decide (ixB L>=0)=true,Value.bool (anyBad L)=Value.bool true]):=by kernel_rfl
theorem cof1 {w:World}(l0:Nat) (L:List R2):cofR w l0 L [(122,8,false)]=some (.ret,[[Pat.one (Grp.cls (Dx.ls (lst l0 95 8 L fQ))),Pat.one (Grp.lit (Value.func (Fn.func 121) #[] #[]))]=[pL l0 95 L,pF 121],decide (ixB L>=0)=false,Value.bool (anyBad L)=Value.bool false]):=by kernel_rfl
theorem cda (hN:cF) (l0:Nat) (L:List R2) (hl:L.length<=1000000):kb 122 [pL l0 95 L,pF 121] (fun _=>rB (anyBad L)):=by
 intro w vs hG hp;refine jR hG hN (ex:=(exV l0 L)) (exV_ok hN hG (le_refl _) hl) (fn:=Tryz.f122) Tryz.func122 (c:=codeOf Tryz.f122) (by kernel_rfl) (args:=[pL l0 95 L,pF 121]) (by kernel_rfl) hp (fun hR _ hA=>?_);rcases eq_false_or_eq_true (decide (ixB L>=0)) with q8|q8
 ·skip
  have p8:=of_decide_eq_true q8
  first|have e0:=congrArg Value.bool ((ix_ge L).symm.trans q8)|skip
  refine jk (cof0 l0 L) (hR _ rfl) hA
 ·skip
  have p8:=of_decide_eq_false q8
  first|have e0:=congrArg Value.bool ((ix_ge L).symm.trans q8)|skip
  refine jk (cof1 l0 L) (hR _ rfl) hA
theorem cbP {lo l0:Nat}{w0:World}{L:List R2}(hN:cF) (hG:Gr w0) (hlo:lo<=w0.heap.size) (hl:L.length<=1000000):jD (Cx true lo w0) (.call 122) [pL l0 95 L,pF 121] (vr (.bool (anyBad L))) :=
 (cda hN l0 L hl).val hG hlo (enters_of Tryz.func122 (by kernel_rfl) rfl)
abbrev exW (l0:Nat) (L:List R2):List (Nat×Con):=(122,zl [pL l0 95 L,pF 121] (vr (.bool (anyBad L))))::exM
theorem exW_ok {lo l0:Nat}{w0:World}{L:List R2}(hN:cF) (hG:Gr w0) (hlo:lo<=w0.heap.size) (hl:L.length<=1000000):Eg true lo w0 (exW l0 L):=jn (kB (cbP hN hG hlo hl)) (Kc hN hG hlo)
noncomputable abbrev chvR (w:World) (l0:Nat) (L:List R2)  (o:List (Nat×Nat×Bool)):=runR w ⟨o,[],(exW l0 L)⟩ 69 24 Tryz.f69 kCheckVehicle69_ (stA [pL l0 95 L]) (rI (er (okV L)))
theorem chv0 {w:World}(l0:Nat) (L:List R2):chvR w l0 L [(69,6,true),(69,11,true),(69,17,true)]=some (.ret,[(decide (1<=(L.length:Int))&&decide ((L.length:Int)<=20))=true,anyBad L=true,[Pat.one (Grp.cls (Dx.ls (lst l0 95 8 L fQ))),Pat.one (Grp.lit (Value.func (Fn.func 121) #[] #[]))]=[pL l0 95 L,pF 121],Value.int IntKind.i64 (er (okV L))=Value.int IntKind.i64 2]):=by kernel_rfl
theorem chv1 {w:World}(l0:Nat) (L:List R2):chvR w l0 L [(69,6,true),(69,11,false),(69,22,true),(69,17,true)]=some (.ret,[(decide (1<=(L.length:Int))&&decide ((L.length:Int)<=20))=true,anyBad L=false,[Pat.one (Grp.cls (Dx.ls (lst l0 95 8 L fQ))),Pat.one (Grp.lit (Value.func (Fn.func 121) #[] #[]))]=[pL l0 95 L,pF 121],1<=L.length,L.length<=1000000000,L.length-1<L.length,L.length-1<L.length,decide (ji (L.getD (L.length-1) default).2≠0)=true,Value.int IntKind.i64 (er (okV L))=Value.int IntKind.i64 2]):=by kernel_rfl
theorem chv2 {w:World}(l0:Nat) (L:List R2):chvR w l0 L [(69,6,true),(69,11,false),(69,22,false),(69,17,true)]=some (.ret,[(decide (1<=(L.length:Int))&&decide ((L.length:Int)<=20))=true,anyBad L=false,[Pat.one (Grp.cls (Dx.ls (lst l0 95 8 L fQ))),Pat.one (Grp.lit (Value.func (Fn.func 121) #[] #[]))]=[pL l0 95 L,pF 121],1<=L.length,L.length<=1000000000,L.length-1<L.length,L.length-1<L.length,decide (ji (L.getD (L.length-1) default).2≠0)=false,Value.int IntKind.i64 (er (okV L))=Value.int IntKind.i64 0]):=by kernel_rfl
theorem chv3 {w:World}(l0:Nat) (L:List R2):chvR w l0 L [(69,6,false),(69,17,true)]=some (.ret,[(decide (1<=(L.length:Int))&&decide ((L.length:Int)<=20))=false,Value.int IntKind.i64 (er (okV L))=Value.int IntKind.i64 2]):=by kernel_rfl
theorem WA (hN:cF) (l0:Nat) (L:List R2) (hl:L.length<=1000000):kb 69 [pL l0 95 L] (fun _=>rI (er (okV L))):=by
 intro w vs hG hp;refine jR hG hN (ex:=(exW l0 L)) (exW_ok hN hG (le_refl _) hl) (fn:=Tryz.f69) Tryz.func69 (c:=codeOf Tryz.f69) (by kernel_rfl) (args:=[pL l0 95 L]) (by kernel_rfl) hp (fun hR _ hA=>?_);rcases eq_false_or_eq_true (szI 1 L.length 20) with q6|q6
 ·skip
  have b6:1<=L.length/\L.length<=20:=by simp only[szI,and_eq_true,decide_eq_true_eq] at q6;omega
  rcases eq_false_or_eq_true (anyBad L) with q11|q11
  ·skip
   have e0:=KA (a:=okV L) (b:=false) (a3_2 (by rw[q11];rfl));refine jk (chv0 l0 L) (hR _ rfl) hA
  ·skip
   rcases eq_false_or_eq_true (decide (ji (L.getD (L.length-1) default).2≠0)) with q22|q22
   ·skip
    have p22:=of_decide_eq_true q22;have e0:=KA (a:=okV L) (b:=false) (a3_3 (by simpa using q22));refine jk (chv1 l0 L) (hR _ rfl) hA
   ·skip
    have p22:=of_decide_eq_false q22;have e0:=KA (a:=okV L) (b:=true) (a3_t q6 (by rw[q11];rfl) (by simpa using q22));refine jk (chv2 l0 L) (hR _ rfl) hA
 ·skip
  have e0:=KA (a:=okV L) (b:=false) (a3_1 q6);refine jk (chv3 l0 L) (hR _ rfl) hA
abbrev vrI (i:Int):cY Dx:=vr (.int .i64 i)
theorem Zw {lo l0:Nat}{w0:World}{L:List R2}(hN:cF) (hG:Gr w0) (hlo:lo<=w0.heap.size) (hl:L.length<=1000000):jD (Cx true lo w0) (.call 65) [pL l0 90 L] (vrI (er (okL L))) :=
 (cbk hN l0 L hl).val hG hlo (enters_of Tryz.func65 (by kernel_rfl) rfl)
theorem Um {lo l0:Nat}{w0:World}{L:List R2}(hN:cF) (hG:Gr w0) (hlo:lo<=w0.heap.size) (hl:L.length<=1000000):jD (Cx true lo w0) (.call 69) [pL l0 95 L] (vrI (er (okV L))) :=
 (WA hN l0 L hl).val hG hlo (enters_of Tryz.func69 (by kernel_rfl) rfl)
end Pe
namespace Pe
def jB (L:List R2):List R2:=(L.map fun p=>(-p.1,p.2)).reverse
def jV (L:List R2):List R2:=(List.range L.length).map fun i=>((L.getD (L.length-1-i) default).1,if i+1<L.length then (L.getD (L.length-2-i) default).2 else 0)
theorem jS {b:Bool}{lo:Nat}{w0:World}{L L':Lt Dx}(h1:L'.lo<=L.lo) (h2:L'.ty=L.ty) (h3:L'.z=L.z) (h4:L'.n=L.n) (h5:∀ j,j<L.n->cw (Cx b lo w0) (L'.g j) (L.g j)):co (Cx b lo w0) (.ls L') (.ls L):=by
 intro w l hl;have hl:DIs w (.ls L) l:=hl;show DIs w (.ls L') l;obtain⟨lo',ty',z',n',g'⟩:=L';obtain⟨lo1,ty1,z1,n1,g1⟩:=L;simp only at h1 h2 h3 h4 h5;subst h2;subst h3;subst h4;cases hl with
 |nil h=>exact .nil h
 |ls k o c arr pre vs rest q2 q3 q4 q5 q6 q7 q8 q9=>exact .ls k o c arr pre vs rest q2 q3 q4 q5 q6 (le_trans h1 q7) q8 (fun j hj=>cdC (h5 j hj w _ (Kn (b:=b) (lo:=lo) (w0:=w0) (q9 j hj))))
theorem GV {b:Bool}{lo:Nat}{w0:World}{d e d' e':Dx}(h:co (Cx b lo w0) d d') (k:co (Cx b lo w0) e e') (h1:d'.n=d.n) (h2:e'.n=e.n):cw (Cx b lo w0) [.cls d,.cls e] [.cls d',.cls e']:=fun w vs hv=>by
 obtain⟨q1,q2,q3⟩:=hv;have q1:DIs w d' (vs.take d'.n):=q1;have q2:DIs w e' ((vs.drop d'.n).take e'.n):=q2;have q3:(vs.drop d'.n).drop e'.n=[]:=q3;rw[h1] at q1 q2 q3;rw[h2] at q2 q3;exact⟨h w _ q1,k w _ q2,q3⟩
theorem Ct {b:Bool}{lo:Nat}{w0:World}{r s:Rat}{k:Nat}(h:s=0) (hk:1<=k):cw (Cx b lo w0) [.cls (.q r 4),.cls (.q s k)] [.cls (.q r 4),.lit (.bool false),.lit (.int .u64 0),.lit (.int .u64 0),.lit (.pointer none)]:=fun w vs hv=>⟨hv.1,Ju h hk w _ hv.2⟩
abbrev gQ (lo ty n:Nat) (L:List R2):Dx:=.ls ⟨lo,ty,8,n,fun j=>fQ (L.getD j default)⟩
abbrev gR (lo ty n:Nat) (L:List R2):Dx:=.ls ⟨lo,ty,6,n,fun j=>fR (L.getD j default)⟩
theorem cjP {w:World}{ty n:Nat}{L:List R2}:ju (W0 w) (gQ w.1.size ty n L):=jA (le_refl _) (fun j hj d hd=>by simp [jI] at hd;rcases hd with rfl|rfl<;>exact cu _ _)
theorem cjO {w:World}{ty n:Nat}{L:List R2}:ju (W0 w) (gR w.1.size ty n L):=jA (le_refl _) (fun j hj d hd=>by simp [jI] at hd;rcases hd with rfl|rfl<;>exact ct _ _)
theorem cjR:∀ {l m:List Prop},jr l->jr m->jr (l++m)
 |[],_,_,k=>k
 |_::_,_,h,k=>⟨h.1,cjR h.2 k⟩
theorem cjQ {w w1:World}{o:Opt}{f nt:Nat}{st:St Dx}{a:Act}{fn:Func}{ps:List (Pat Dx)}{ob ob2:List Prop}(h:runA w o f nt fn st ps=some (.ret,ob++ob2)) (hR:Gg (W0 w) (TY o)) (hA:At (W0 w) nt st a w1) (h2:jr ob2) (ho:jr ob:=by (repeat' (first|exact trivial|apply And.intro))<;>first|rfl|omega|(simp only[cA];omega)):after Fence.wide 0 (W0 w).P [.code (codeOf fn)] (Ret (W0 w) fn (Res (W0 w) ps)) .normal a w1:=all_is hR h (cjR ho h2) hA
abbrev GO (l0:Nat) (L:List R2) (b:Bool):List (Nat×Con):=(65,zl [pL l0 90 L] (vrI (er b)))::exM
abbrev pLn (lo ty n:Nat) (L:List R2):Pat Dx:=.one (.cls (.ls ⟨lo,ty,8,n,fun j=>fQ (L.getD j default)⟩))
theorem CQ {lo l0:Nat}{w0:World}{L:List R2}{b:Bool}(hN:cF) (hG:Gr w0) (hlo:lo<=w0.heap.size) (hl:L.length<=1000000) (hb:okL L=b):Eg true lo w0 (GO l0 L b):=by
 subst hb;exact jn (kB (Zw hN hG hlo hl)) (Kc hN hG hlo)
abbrev UV (l0:Nat) (L:List R2) (b:Bool):List (Nat×Con):=(69,zl [pL l0 95 L] (vrI (er b)))::exM
theorem Jy {lo l0:Nat}{w0:World}{L:List R2}{b:Bool}(hN:cF) (hG:Gr w0) (hlo:lo<=w0.heap.size) (hl:L.length<=1000000) (hb:okV L=b):Eg true lo w0 (UV l0 L b):=by
 subst hb;exact jn (kB (Um hN hG hlo hl)) (Kc hN hG hlo)
theorem ccv {b:Bool}{lo:Nat}{w0:World}{L:Lt Dx}(h:L.n=0):cw (Cx b lo w0) [.cls (.ls L)] [.lit (.slice none 0 0)]:=fun w vs hv=>by
 obtain⟨h1,h2⟩:=hv;have h1:vs.take 1=[.slice none 0 0]:=h1;have h2:vs.drop 1=[]:=h2;have h3:=take_append_drop 1 vs;rw[h1,h2] at h3;subst h3;exact⟨.nil h,rfl⟩
theorem mirf {w:World}(l0:Nat) (L:List R2):runA w ⟨[],[],GO l0 L false⟩ 23 33 Tryz.f23 (stA [pL l0 90 L]) [pL w.heap.size 90 [],pI 2]=some (.ret,[[Pat.one (Grp.cls (Dx.ls (lst l0 90 8 L fQ)))]=[pL l0 90 L],cw (W0 w) [.cls (.ls (lst w.1.size 90 8 [] fQ))] [.lit (Value.slice none 0 0)],Value.int IntKind.i64 2=Value.int IntKind.i64 (er false),ju (W0 w) (.ls (lst w.1.size 90 8 [] fQ))]):=by kernel_rfl
theorem mir_f (hN:cF) (l0:Nat) (L:List R2) (hl:L.length<=1000000) (hb:okL L=false):kb 23 [pL l0 90 L] (fun lo=>[pL lo 90 [],pI 2]):=by
 intro w vs hG hp;refine jR hG hN (ex:=(GO l0 L false)) (CQ hN hG (le_refl _) hl hb) (fn:=Tryz.f23) Tryz.func23 (c:=codeOf Tryz.f23) (by kernel_rfl) (args:=[pL l0 90 L]) (by kernel_rfl) hp (fun hR _ hA=>?_);exact all_o (mirf l0 L) (hR _ rfl) hA (by (repeat' (first|exact trivial|apply And.intro))<;>first|exact co.refl _ _|exact fun _ _=>cw.refl _ _|exact cI rfl|exact cu _ _|exact ct _ _|(with_reducible assumption)|omega|with_reducible rfl|(simp only[cA];omega)|(intro j hj;exact absurd hj (not_lt_zero _))|exact ccv rfl|exact jA (le_refl _) (fun j hj=>absurd hj (not_lt_zero _))|rfl)
theorem mir2 {w:World}(l0:Nat) (a b:R2):runA w ⟨[(66,4,false)],[],GO l0 [a,b] true⟩ 23 33 Tryz.f23 (stA [pLn l0 90 2 [a,b]]) [pLn w.heap.size 90 2 (jB [a,b]),pI 0]=some (.ret,[[pL l0 90 [a,b]]=[pL l0 90 [a,b]],false=false,0<2,2<=1000000,cn (1),1<2,1<2,0<2,0<2,0<2,0<2,1<2,1<2,cn (1),cn (0),0<2,0<2,0<2,0<2,cn (1),1<2,1<2,1<2,1<2,cn (2)]++[co (W0 w) (gQ w.1.size 90 2 (jB [a,b])) (.ls { lo:=w.1.size,ty:=90,z:=8,n:=2,g:=jc (jc (jc (jc (jE 0 (fun _=>[]) fun(j:Nat)=>fQ ([a,b].getD j default)) 0 (fQ b)) (1) (fQ a)) 0 [.cls (.q (-b.1) 4),.cls (.q b.2 4)]) (1) [.cls (.q (-a.1) 4),.cls (.q a.2 4)] }),ii 0=ii 0,ju (W0 w) (gQ w.1.size 90 2 (jB [a,b]))]):=by kernel_rfl
theorem mir2_ok (hN:cF) (l0:Nat) (a b:R2) (hb:okL [a,b]=true):kb 23 [pL l0 90 [a,b]] (fun lo=>[pL lo 90 (jB [a,b]),pI 0]):=by
 intro w vs hG hp;refine jR hG hN (ex:=(GO l0 [a,b] true)) (CQ hN hG (le_refl _) (show 2<=1000000 by omega) hb) (fn:=Tryz.f23) Tryz.func23 (c:=codeOf Tryz.f23) (by kernel_rfl) (args:=[pL l0 90 [a,b]]) (by kernel_rfl) hp (fun hR _ hA=>?_);exact cjQ (mir2 l0 a b) (hR _ rfl) hA ⟨jS (le_refl _) rfl rfl rfl (fun j hj=>by have hj:j<2:=hj;match j,hj with|0,_=>exact cw.refl _ _|1,_=>exact cw.refl _ _),rfl,cjP,trivial⟩
theorem mir3 {w:World}(l0:Nat) (a b c:R2):runA w ⟨[(66,4,false)],[],GO l0 [a,b,c] true⟩ 23 33 Tryz.f23 (stA [pLn l0 90 3 [a,b,c]]) [pLn w.heap.size 90 3 (jB [a,b,c]),pI 0]=some (.ret,[[pL l0 90 [a,b,c]]=[pL l0 90 [a,b,c]],false=false,0<3,3<=1000000,cn (2),2<3,2<3,0<3,0<3,0<3,0<3,2<3,2<3,cn (1),cn (1),0<3,0<3,0<3,0<3,cn (1),1<3,1<3,1<3,1<3,cn (2),2<3,2<3,2<3,2<3,cn (3)]++[co (W0 w) (gQ w.1.size 90 3 (jB [a,b,c])) (.ls { lo:=w.1.size,ty:=90,z:=8,n:=3,g:=jc (jc (jc (jc (jc (jE 0 (fun _=>[]) fun(j:Nat)=>fQ ([a,b,c].getD j default)) 0 (fQ c)) (2) (fQ a)) 0 [.cls (.q (-c.1) 4),.cls (.q c.2 4)]) (1) [.cls (.q (-b.1) 4),.cls (.q b.2 4)]) (2) [.cls (.q (-a.1) 4),.cls (.q a.2 4)] }),ii 0=ii 0,ju (W0 w) (gQ w.1.size 90 3 (jB [a,b,c]))]):=by kernel_rfl
theorem mir3_ok (hN:cF) (l0:Nat) (a b c:R2) (hb:okL [a,b,c]=true):kb 23 [pL l0 90 [a,b,c]] (fun lo=>[pL lo 90 (jB [a,b,c]),pI 0]):=by
 intro w vs hG hp;refine jR hG hN (ex:=(GO l0 [a,b,c] true)) (CQ hN hG (le_refl _) (show 3<=1000000 by omega) hb) (fn:=Tryz.f23) Tryz.func23 (c:=codeOf Tryz.f23) (by kernel_rfl) (args:=[pL l0 90 [a,b,c]]) (by kernel_rfl) hp (fun hR _ hA=>?_);exact cjQ (mir3 l0 a b c) (hR _ rfl) hA ⟨jS (le_refl _) rfl rfl rfl (fun j hj=>by have hj:j<3:=hj;match j,hj with|0,_=>exact cw.refl _ _|1,_=>exact cw.refl _ _|2,_=>exact cw.refl _ _),rfl,cjP,trivial⟩
theorem mir4 {w:World}(l0:Nat) (a b c d:R2):runA w ⟨[(66,4,false)],[],GO l0 [a,b,c,d] true⟩ 23 33 Tryz.f23 (stA [pLn l0 90 4 [a,b,c,d]]) [pLn w.heap.size 90 4 (jB [a,b,c,d]),pI 0]=some (.ret,[[pL l0 90 [a,b,c,d]]=[pL l0 90 [a,b,c,d]],false=false,0<4,4<=1000000,cn (3),3<4,3<4,0<4,0<4,0<4,0<4,3<4,3<4,cn (1),cn (2),2<4,2<4,1<4,1<4,1<4,1<4,2<4,2<4,cn (2),cn (1),0<4,0<4,0<4,0<4,cn (1),1<4,1<4,1<4,1<4,cn (2),2<4,2<4,2<4,2<4,cn (3),3<4,3<4,3<4,3<4,cn (4)]++[co (W0 w) (gQ w.1.size 90 4 (jB [a,b,c,d])) (.ls { lo:=w.1.size,ty:=90,z:=8,n:=4,g:=jc (jc (jc (jc (jc (jc (jc (jc (jE 0 (fun _=>[]) fun(j:Nat)=>fQ ([a,b,c,d].getD j default)) 0 (fQ d)) (3) (fQ a)) (1) (fQ c)) (2) (fQ b)) 0 [.cls (.q (-d.1) 4),.cls (.q d.2 4)]) (1) [.cls (.q (-c.1) 4),.cls (.q c.2 4)]) (2) [.cls (.q (-b.1) 4),.cls (.q b.2 4)]) (3) [.cls (.q (-a.1) 4),.cls (.q a.2 4)] }),ii 0=ii 0,ju (W0 w) (gQ w.1.size 90 4 (jB [a,b,c,d]))]):=by kernel_rfl
theorem mir4_ok (hN:cF) (l0:Nat) (a b c d:R2) (hb:okL [a,b,c,d]=true):kb 23 [pL l0 90 [a,b,c,d]] (fun lo=>[pL lo 90 (jB [a,b,c,d]),pI 0]):=by
 intro w vs hG hp;refine jR hG hN (ex:=(GO l0 [a,b,c,d] true)) (CQ hN hG (le_refl _) (show 4<=1000000 by omega) hb) (fn:=Tryz.f23) Tryz.func23 (c:=codeOf Tryz.f23) (by kernel_rfl) (args:=[pL l0 90 [a,b,c,d]]) (by kernel_rfl) hp (fun hR _ hA=>?_);exact cjQ (mir4 l0 a b c d) (hR _ rfl) hA ⟨jS (le_refl _) rfl rfl rfl (fun j hj=>by have hj:j<4:=hj;match j,hj with|0,_=>exact cw.refl _ _|1,_=>exact cw.refl _ _|2,_=>exact cw.refl _ _|3,_=>exact cw.refl _ _),rfl,cjP,trivial⟩
theorem mir5 {w:World}(l0:Nat) (a b c d e:R2):runA w ⟨[(66,4,false)],[],GO l0 [a,b,c,d,e] true⟩ 23 33 Tryz.f23 (stA [pLn l0 90 5 [a,b,c,d,e]]) [pLn w.heap.size 90 5 (jB [a,b,c,d,e]),pI 0]=some (.ret,[[pL l0 90 [a,b,c,d,e]]=[pL l0 90 [a,b,c,d,e]],false=false,0<5,5<=1000000,cn (4),4<5,4<5,0<5,0<5,0<5,0<5,4<5,4<5,cn (1),cn (3),3<5,3<5,1<5,1<5,1<5,1<5,3<5,3<5,cn (2),cn (2),0<5,0<5,0<5,0<5,cn (1),1<5,1<5,1<5,1<5,cn (2),2<5,2<5,2<5,2<5,cn (3),3<5,3<5,3<5,3<5,cn (4),4<5,4<5,4<5,4<5,cn (5)]++[co (W0 w) (gQ w.1.size 90 5 (jB [a,b,c,d,e])) (.ls { lo:=w.1.size,ty:=90,z:=8,n:=5,g:=jc (jc (jc (jc (jc (jc (jc (jc (jc (jE 0 (fun _=>[]) fun(j:Nat)=>fQ ([a,b,c,d,e].getD j default)) 0 (fQ e)) (4) (fQ a)) (1) (fQ d)) (3) (fQ b)) 0 [.cls (.q (-e.1) 4),.cls (.q e.2 4)]) (1) [.cls (.q (-d.1) 4),.cls (.q d.2 4)]) (2) [.cls (.q (-c.1) 4),.cls (.q c.2 4)]) (3) [.cls (.q (-b.1) 4),.cls (.q b.2 4)]) (4) [.cls (.q (-a.1) 4),.cls (.q a.2 4)] }),ii 0=ii 0,ju (W0 w) (gQ w.1.size 90 5 (jB [a,b,c,d,e]))]):=by kernel_rfl
theorem mir5_ok (hN:cF) (l0:Nat) (a b c d e:R2) (hb:okL [a,b,c,d,e]=true):kb 23 [pL l0 90 [a,b,c,d,e]] (fun lo=>[pL lo 90 (jB [a,b,c,d,e]),pI 0]):=by
 intro w vs hG hp;refine jR hG hN (ex:=(GO l0 [a,b,c,d,e] true)) (CQ hN hG (le_refl _) (show 5<=1000000 by omega) hb) (fn:=Tryz.f23) Tryz.func23 (c:=codeOf Tryz.f23) (by kernel_rfl) (args:=[pL l0 90 [a,b,c,d,e]]) (by kernel_rfl) hp (fun hR _ hA=>?_);exact cjQ (mir5 l0 a b c d e) (hR _ rfl) hA ⟨jS (le_refl _) rfl rfl rfl (fun j hj=>by have hj:j<5:=hj;match j,hj with|0,_=>exact cw.refl _ _|1,_=>exact cw.refl _ _|2,_=>exact cw.refl _ _|3,_=>exact cw.refl _ _|4,_=>exact cw.refl _ _),rfl,cjP,trivial⟩
theorem mir6 {w:World}(l0:Nat) (a b c d e f:R2):runA w ⟨[(66,4,false)],[],GO l0 [a,b,c,d,e,f] true⟩ 23 33 Tryz.f23 (stA [pLn l0 90 6 [a,b,c,d,e,f]]) [pLn w.heap.size 90 6 (jB [a,b,c,d,e,f]),pI 0]=some (.ret,[[pL l0 90 [a,b,c,d,e,f]]=[pL l0 90 [a,b,c,d,e,f]],false=false,0<6,6<=1000000,cn (5),5<6,5<6,0<6,0<6,0<6,0<6,5<6,5<6,cn (1),cn (4),4<6,4<6,1<6,1<6,1<6,1<6,4<6,4<6,cn (2),cn (3),3<6,3<6,2<6,2<6,2<6,2<6,3<6,3<6,cn (3),cn (2),0<6,0<6,0<6,0<6,cn (1),1<6,1<6,1<6,1<6,cn (2),2<6,2<6,2<6,2<6,cn (3),3<6,3<6,3<6,3<6,cn (4),4<6,4<6,4<6,4<6,cn (5),5<6,5<6,5<6,5<6,cn (6)]++[co (W0 w) (gQ w.1.size 90 6 (jB [a,b,c,d,e,f])) (.ls { lo:=w.1.size,ty:=90,z:=8,n:=6,g:=jc (jc (jc (jc (jc (jc (jc (jc (jc (jc (jc (jc (jE 0 (fun _=>[]) fun(j:Nat)=>fQ ([a,b,c,d,e,f].getD j default)) 0 (fQ f)) (5) (fQ a)) (1) (fQ e)) (4) (fQ b)) (2) (fQ d)) (3) (fQ c)) 0 [.cls (.q (-f.1) 4),.cls (.q f.2 4)]) (1) [.cls (.q (-e.1) 4),.cls (.q e.2 4)]) (2) [.cls (.q (-d.1) 4),.cls (.q d.2 4)]) (3) [.cls (.q (-c.1) 4),.cls (.q c.2 4)]) (4) [.cls (.q (-b.1) 4),.cls (.q b.2 4)]) (5) [.cls (.q (-a.1) 4),.cls (.q a.2 4)] }),ii 0=ii 0,ju (W0 w) (gQ w.1.size 90 6 (jB [a,b,c,d,e,f]))]):=by kernel_rfl
theorem mir6_ok (hN:cF) (l0:Nat) (a b c d e f:R2) (hb:okL [a,b,c,d,e,f]=true):kb 23 [pL l0 90 [a,b,c,d,e,f]] (fun lo=>[pL lo 90 (jB [a,b,c,d,e,f]),pI 0]):=by
 intro w vs hG hp;refine jR hG hN (ex:=(GO l0 [a,b,c,d,e,f] true)) (CQ hN hG (le_refl _) (show 6<=1000000 by omega) hb) (fn:=Tryz.f23) Tryz.func23 (c:=codeOf Tryz.f23) (by kernel_rfl) (args:=[pL l0 90 [a,b,c,d,e,f]]) (by kernel_rfl) hp (fun hR _ hA=>?_);exact cjQ (mir6 l0 a b c d e f) (hR _ rfl) hA ⟨jS (le_refl _) rfl rfl rfl (fun j hj=>by have hj:j<6:=hj;match j,hj with|0,_=>exact cw.refl _ _|1,_=>exact cw.refl _ _|2,_=>exact cw.refl _ _|3,_=>exact cw.refl _ _|4,_=>exact cw.refl _ _|5,_=>exact cw.refl _ _),rfl,cjP,trivial⟩
theorem mir7 {w:World}(l0:Nat) (a b c d e f g:R2):runA w ⟨[(66,4,false)],[],GO l0 [a,b,c,d,e,f,g] true⟩ 23 33 Tryz.f23 (stA [pLn l0 90 7 [a,b,c,d,e,f,g]]) [pLn w.heap.size 90 7 (jB [a,b,c,d,e,f,g]),pI 0]=some (.ret,[[pL l0 90 [a,b,c,d,e,f,g]]=[pL l0 90 [a,b,c,d,e,f,g]],false=false,0<7,7<=1000000,cn (6),6<7,6<7,0<7,0<7,0<7,0<7,6<7,6<7,cn (1),cn (5),5<7,5<7,1<7,1<7,1<7,1<7,5<7,5<7,cn (2),cn (4),4<7,4<7,2<7,2<7,2<7,2<7,4<7,4<7,cn (3),cn (3),0<7,0<7,0<7,0<7,cn (1),1<7,1<7,1<7,1<7,cn (2),2<7,2<7,2<7,2<7,cn (3),3<7,3<7,3<7,3<7,cn (4),4<7,4<7,4<7,4<7,cn (5),5<7,5<7,5<7,5<7,cn (6),6<7,6<7,6<7,6<7,cn (7)]++[co (W0 w) (gQ w.1.size 90 7 (jB [a,b,c,d,e,f,g])) (.ls { lo:=w.1.size,ty:=90,z:=8,n:=7,g:=jc (jc (jc (jc (jc (jc (jc (jc (jc (jc (jc (jc (jc (jE 0 (fun _=>[]) fun(j:Nat)=>fQ ([a,b,c,d,e,f,g].getD j default)) 0 (fQ g)) (6) (fQ a)) (1) (fQ f)) (5) (fQ b)) (2) (fQ e)) (4) (fQ c)) 0 [.cls (.q (-g.1) 4),.cls (.q g.2 4)]) (1) [.cls (.q (-f.1) 4),.cls (.q f.2 4)]) (2) [.cls (.q (-e.1) 4),.cls (.q e.2 4)]) (3) [.cls (.q (-d.1) 4),.cls (.q d.2 4)]) (4) [.cls (.q (-c.1) 4),.cls (.q c.2 4)]) (5) [.cls (.q (-b.1) 4),.cls (.q b.2 4)]) (6) [.cls (.q (-a.1) 4),.cls (.q a.2 4)] }),ii 0=ii 0,ju (W0 w) (gQ w.1.size 90 7 (jB [a,b,c,d,e,f,g]))]):=by kernel_rfl
theorem mir7_ok (hN:cF) (l0:Nat) (a b c d e f g:R2) (hb:okL [a,b,c,d,e,f,g]=true):kb 23 [pL l0 90 [a,b,c,d,e,f,g]] (fun lo=>[pL lo 90 (jB [a,b,c,d,e,f,g]),pI 0]):=by
 intro w vs hG hp;refine jR hG hN (ex:=(GO l0 [a,b,c,d,e,f,g] true)) (CQ hN hG (le_refl _) (show 7<=1000000 by omega) hb) (fn:=Tryz.f23) Tryz.func23 (c:=codeOf Tryz.f23) (by kernel_rfl) (args:=[pL l0 90 [a,b,c,d,e,f,g]]) (by kernel_rfl) hp (fun hR _ hA=>?_);exact cjQ (mir7 l0 a b c d e f g) (hR _ rfl) hA ⟨jS (le_refl _) rfl rfl rfl (fun j hj=>by have hj:j<7:=hj;match j,hj with|0,_=>exact cw.refl _ _|1,_=>exact cw.refl _ _|2,_=>exact cw.refl _ _|3,_=>exact cw.refl _ _|4,_=>exact cw.refl _ _|5,_=>exact cw.refl _ _|6,_=>exact cw.refl _ _),rfl,cjP,trivial⟩
theorem mir8 {w:World}(l0:Nat) (a b c d e f g h:R2):runA w ⟨[(66,4,false)],[],GO l0 [a,b,c,d,e,f,g,h] true⟩ 23 33 Tryz.f23 (stA [pLn l0 90 8 [a,b,c,d,e,f,g,h]]) [pLn w.heap.size 90 8 (jB [a,b,c,d,e,f,g,h]),pI 0]=some (.ret,[[pL l0 90 [a,b,c,d,e,f,g,h]]=[pL l0 90 [a,b,c,d,e,f,g,h]],false=false,0<8,8<=1000000,cn (7),7<8,7<8,0<8,0<8,0<8,0<8,7<8,7<8,cn (1),cn (6),6<8,6<8,1<8,1<8,1<8,1<8,6<8,6<8,cn (2),cn (5),5<8,5<8,2<8,2<8,2<8,2<8,5<8,5<8,cn (3),cn (4),4<8,4<8,3<8,3<8,3<8,3<8,4<8,4<8,cn (4),cn (3),0<8,0<8,0<8,0<8,cn (1),1<8,1<8,1<8,1<8,cn (2),2<8,2<8,2<8,2<8,cn (3),3<8,3<8,3<8,3<8,cn (4),4<8,4<8,4<8,4<8,cn (5),5<8,5<8,5<8,5<8,cn (6),6<8,6<8,6<8,6<8,cn (7),7<8,7<8,7<8,7<8,cn (8)]++[co (W0 w) (gQ w.1.size 90 8 (jB [a,b,c,d,e,f,g,h])) (.ls { lo:=w.1.size,ty:=90,z:=8,n:=8,g:=jc (jc (jc (jc (jc (jc (jc (jc (jc (jc (jc (jc (jc (jc (jc (jc (jE 0 (fun _=>[]) fun(j:Nat)=>fQ ([a,b,c,d,e,f,g,h].getD j default)) 0 (fQ h)) (7) (fQ a)) (1) (fQ g)) (6) (fQ b)) (2) (fQ f)) (5) (fQ c)) (3) (fQ e)) (4) (fQ d)) 0 [.cls (.q (-h.1) 4),.cls (.q h.2 4)]) (1) [.cls (.q (-g.1) 4),.cls (.q g.2 4)]) (2) [.cls (.q (-f.1) 4),.cls (.q f.2 4)]) (3) [.cls (.q (-e.1) 4),.cls (.q e.2 4)]) (4) [.cls (.q (-d.1) 4),.cls (.q d.2 4)]) (5) [.cls (.q (-c.1) 4),.cls (.q c.2 4)]) (6) [.cls (.q (-b.1) 4),.cls (.q b.2 4)]) (7) [.cls (.q (-a.1) 4),.cls (.q a.2 4)] }),ii 0=ii 0,ju (W0 w) (gQ w.1.size 90 8 (jB [a,b,c,d,e,f,g,h]))]):=by kernel_rfl
theorem mir8_ok (hN:cF) (l0:Nat) (a b c d e f g h:R2) (hb:okL [a,b,c,d,e,f,g,h]=true):kb 23 [pL l0 90 [a,b,c,d,e,f,g,h]] (fun lo=>[pL lo 90 (jB [a,b,c,d,e,f,g,h]),pI 0]):=by
 intro w vs hG hp;refine jR hG hN (ex:=(GO l0 [a,b,c,d,e,f,g,h] true)) (CQ hN hG (le_refl _) (show 8<=1000000 by omega) hb) (fn:=Tryz.f23) Tryz.func23 (c:=codeOf Tryz.f23) (by kernel_rfl) (args:=[pL l0 90 [a,b,c,d,e,f,g,h]]) (by kernel_rfl) hp (fun hR _ hA=>?_);exact cjQ (mir8 l0 a b c d e f g h) (hR _ rfl) hA ⟨jS (le_refl _) rfl rfl rfl (fun j hj=>by have hj:j<8:=hj;match j,hj with|0,_=>exact cw.refl _ _|1,_=>exact cw.refl _ _|2,_=>exact cw.refl _ _|3,_=>exact cw.refl _ _|4,_=>exact cw.refl _ _|5,_=>exact cw.refl _ _|6,_=>exact cw.refl _ _|7,_=>exact cw.refl _ _),rfl,cjP,trivial⟩
theorem trnf {w:World}(l0:Nat) (L:List R2):runA w ⟨[],[],UV l0 L false⟩ 24 41 Tryz.f24 (stA [pL l0 95 L]) [pL w.heap.size 95 [],pI 2]=some (.ret,[[Pat.one (Grp.cls (Dx.ls (lst l0 95 8 L fQ)))]=[pL l0 95 L],cw (W0 w) [.cls (.ls (lst w.1.size 95 8 [] fQ))] [.lit (Value.slice none 0 0)],Value.int IntKind.i64 2=Value.int IntKind.i64 (er false),ju (W0 w) (.ls (lst w.1.size 95 8 [] fQ))]):=by kernel_rfl
theorem trn_f (hN:cF) (l0:Nat) (L:List R2) (hl:L.length<=1000000) (hb:okV L=false):kb 24 [pL l0 95 L] (fun lo=>[pL lo 95 [],pI 2]):=by
 intro w vs hG hp;refine jR hG hN (ex:=(UV l0 L false)) (Jy hN hG (le_refl _) hl hb) (fn:=Tryz.f24) Tryz.func24 (c:=codeOf Tryz.f24) (by kernel_rfl) (args:=[pL l0 95 L]) (by kernel_rfl) hp (fun hR _ hA=>?_);exact all_o (trnf l0 L) (hR _ rfl) hA (by (repeat' (first|exact trivial|apply And.intro))<;>first|exact co.refl _ _|exact fun _ _=>cw.refl _ _|exact cI rfl|exact cu _ _|exact ct _ _|(with_reducible assumption)|omega|with_reducible rfl|(simp only[cA];omega)|(intro j hj;exact absurd hj (not_lt_zero _))|exact ccv rfl|exact jA (le_refl _) (fun j hj=>absurd hj (not_lt_zero _))|rfl)
theorem trn1 {w:World}(l0:Nat) (a:R2):runA w ⟨[(70,4,false)],[],UV l0 [a] true⟩ 24 41 Tryz.f24 (stA [pLn l0 95 1 [a]]) [pLn w.heap.size 95 1 (jV [a]),pI 0]=some (.ret,[[pL l0 95 [a]]=[pL l0 95 [a]],false=false,0<1,1<=1000000,cn (0),cn (0),0<1,0<1]++[co (W0 w) (gQ w.1.size 95 1 (jV [a])) (.ls { lo:=w.1.size,ty:=95,z:=8,n:=1,g:=jc (jE 0 (fun _=>[]) fun(j:Nat)=>fQ ([a].getD j default)) (0) ([.cls (.q a.1 4)].append ([.lit (Value.bool false),.lit (Value.int IntKind.u64 0),.lit (Value.int IntKind.u64 0),.lit (Value.pointer none)].append [])) }),ii 0=ii 0,ju (W0 w) (gQ w.1.size 95 1 (jV [a]))]):=by kernel_rfl
theorem trn1_ok (hN:cF) (l0:Nat) (a:R2) (hb:okV [a]=true):kb 24 [pL l0 95 [a]] (fun lo=>[pL lo 95 (jV [a]),pI 0]):=by
 intro w vs hG hp;refine jR hG hN (ex:=(UV l0 [a] true)) (Jy hN hG (le_refl _) (show 1<=1000000 by omega) hb) (fn:=Tryz.f24) Tryz.func24 (c:=codeOf Tryz.f24) (by kernel_rfl) (args:=[pL l0 95 [a]]) (by kernel_rfl) hp (fun hR _ hA=>?_);exact cjQ (trn1 l0 a) (hR _ rfl) hA ⟨jS (le_refl _) rfl rfl rfl (fun j hj=>by have hj:j<1:=hj;match j,hj with|0,_=>exact Ct rfl (by omega)),rfl,cjP,trivial⟩
theorem trn2 {w:World}(l0:Nat) (a b:R2):runA w ⟨[(70,4,false)],[],UV l0 [a,b] true⟩ 24 41 Tryz.f24 (stA [pLn l0 95 2 [a,b]]) [pLn w.heap.size 95 2 (jV [a,b]),pI 0]=some (.ret,[[pL l0 95 [a,b]]=[pL l0 95 [a,b]],false=false,0<2,2<=1000000,cn (1),1<2,1<2,0<2,0<2,0<2,0<2,1<2,1<2,cn (1),cn (0),cn (1),cn (1),1<2,1<2,0<2,0<2,cn (1),1<2,1<2]++[co (W0 w) (gQ w.1.size 95 2 (jV [a,b])) (.ls { lo:=w.1.size,ty:=95,z:=8,n:=2,g:=jc (jc (jc (jc (jE 0 (fun _=>[]) fun(j:Nat)=>fQ ([a,b].getD j default)) 0 (fQ b)) (1) (fQ a)) 0 ([.cls (.q b.1 4)].append ([.cls (.q a.2 4)].append []))) (1) ([.cls (.q a.1 4)].append ([.lit (Value.bool false),.lit (Value.int IntKind.u64 0),.lit (Value.int IntKind.u64 0),.lit (Value.pointer none)].append [])) }),ii 0=ii 0,ju (W0 w) (gQ w.1.size 95 2 (jV [a,b]))]):=by kernel_rfl
theorem trn2_ok (hN:cF) (l0:Nat) (a b:R2) (hb:okV [a,b]=true):kb 24 [pL l0 95 [a,b]] (fun lo=>[pL lo 95 (jV [a,b]),pI 0]):=by
 intro w vs hG hp;refine jR hG hN (ex:=(UV l0 [a,b] true)) (Jy hN hG (le_refl _) (show 2<=1000000 by omega) hb) (fn:=Tryz.f24) Tryz.func24 (c:=codeOf Tryz.f24) (by kernel_rfl) (args:=[pL l0 95 [a,b]]) (by kernel_rfl) hp (fun hR _ hA=>?_);exact cjQ (trn2 l0 a b) (hR _ rfl) hA ⟨jS (le_refl _) rfl rfl rfl (fun j hj=>by have hj:j<2:=hj;match j,hj with|0,_=>exact cw.refl _ _|1,_=>exact Ct rfl (by omega)),rfl,cjP,trivial⟩
theorem trn3 {w:World}(l0:Nat) (a b c:R2):runA w ⟨[(70,4,false)],[],UV l0 [a,b,c] true⟩ 24 41 Tryz.f24 (stA [pLn l0 95 3 [a,b,c]]) [pLn w.heap.size 95 3 (jV [a,b,c]),pI 0]=some (.ret,[[pL l0 95 [a,b,c]]=[pL l0 95 [a,b,c]],false=false,0<3,3<=1000000,cn (2),2<3,2<3,0<3,0<3,0<3,0<3,2<3,2<3,cn (1),cn (1),cn (2),cn (1),1<3,1<3,0<3,0<3,cn (1),cn (2),2<3,2<3,1<3,1<3,cn (2),2<3,2<3]++[co (W0 w) (gQ w.1.size 95 3 (jV [a,b,c])) (.ls { lo:=w.1.size,ty:=95,z:=8,n:=3,g:=jc (jc (jc (jc (jc (jE 0 (fun _=>[]) fun(j:Nat)=>fQ ([a,b,c].getD j default)) 0 (fQ c)) (2) (fQ a)) 0 ([.cls (.q c.1 4)].append ([.cls (.q b.2 4)].append []))) (1) ([.cls (.q b.1 4)].append ([.cls (.q a.2 4)].append []))) (2) ([.cls (.q a.1 4)].append ([.lit (Value.bool false),.lit (Value.int IntKind.u64 0),.lit (Value.int IntKind.u64 0),.lit (Value.pointer none)].append [])) }),ii 0=ii 0,ju (W0 w) (gQ w.1.size 95 3 (jV [a,b,c]))]):=by kernel_rfl
theorem trn3_ok (hN:cF) (l0:Nat) (a b c:R2) (hb:okV [a,b,c]=true):kb 24 [pL l0 95 [a,b,c]] (fun lo=>[pL lo 95 (jV [a,b,c]),pI 0]):=by
 intro w vs hG hp;refine jR hG hN (ex:=(UV l0 [a,b,c] true)) (Jy hN hG (le_refl _) (show 3<=1000000 by omega) hb) (fn:=Tryz.f24) Tryz.func24 (c:=codeOf Tryz.f24) (by kernel_rfl) (args:=[pL l0 95 [a,b,c]]) (by kernel_rfl) hp (fun hR _ hA=>?_);exact cjQ (trn3 l0 a b c) (hR _ rfl) hA ⟨jS (le_refl _) rfl rfl rfl (fun j hj=>by have hj:j<3:=hj;match j,hj with|0,_=>exact cw.refl _ _|1,_=>exact cw.refl _ _|2,_=>exact Ct rfl (by omega)),rfl,cjP,trivial⟩
theorem trn4 {w:World}(l0:Nat) (a b c d:R2):runA w ⟨[(70,4,false)],[],UV l0 [a,b,c,d] true⟩ 24 41 Tryz.f24 (stA [pLn l0 95 4 [a,b,c,d]]) [pLn w.heap.size 95 4 (jV [a,b,c,d]),pI 0]=some (.ret,[[pL l0 95 [a,b,c,d]]=[pL l0 95 [a,b,c,d]],false=false,0<4,4<=1000000,cn (3),3<4,3<4,0<4,0<4,0<4,0<4,3<4,3<4,cn (1),cn (2),2<4,2<4,1<4,1<4,1<4,1<4,2<4,2<4,cn (2),cn (1),cn (3),cn (1),1<4,1<4,0<4,0<4,cn (1),cn (2),2<4,2<4,1<4,1<4,cn (2),cn (3),3<4,3<4,2<4,2<4,cn (3),3<4,3<4]++[co (W0 w) (gQ w.1.size 95 4 (jV [a,b,c,d])) (.ls { lo:=w.1.size,ty:=95,z:=8,n:=4,g:=jc (jc (jc (jc (jc (jc (jc (jc (jE 0 (fun _=>[]) fun(j:Nat)=>fQ ([a,b,c,d].getD j default)) 0 (fQ d)) (3) (fQ a)) (1) (fQ c)) (2) (fQ b)) 0 ([.cls (.q d.1 4)].append ([.cls (.q c.2 4)].append []))) (1) ([.cls (.q c.1 4)].append ([.cls (.q b.2 4)].append []))) (2) ([.cls (.q b.1 4)].append ([.cls (.q a.2 4)].append []))) (3) ([.cls (.q a.1 4)].append ([.lit (Value.bool false),.lit (Value.int IntKind.u64 0),.lit (Value.int IntKind.u64 0),.lit (Value.pointer none)].append [])) }),ii 0=ii 0,ju (W0 w) (gQ w.1.size 95 4 (jV [a,b,c,d]))]):=by kernel_rfl
theorem trn4_ok (hN:cF) (l0:Nat) (a b c d:R2) (hb:okV [a,b,c,d]=true):kb 24 [pL l0 95 [a,b,c,d]] (fun lo=>[pL lo 95 (jV [a,b,c,d]),pI 0]):=by
 intro w vs hG hp;refine jR hG hN (ex:=(UV l0 [a,b,c,d] true)) (Jy hN hG (le_refl _) (show 4<=1000000 by omega) hb) (fn:=Tryz.f24) Tryz.func24 (c:=codeOf Tryz.f24) (by kernel_rfl) (args:=[pL l0 95 [a,b,c,d]]) (by kernel_rfl) hp (fun hR _ hA=>?_);exact cjQ (trn4 l0 a b c d) (hR _ rfl) hA ⟨jS (le_refl _) rfl rfl rfl (fun j hj=>by have hj:j<4:=hj;match j,hj with|0,_=>exact cw.refl _ _|1,_=>exact cw.refl _ _|2,_=>exact cw.refl _ _|3,_=>exact Ct rfl (by omega)),rfl,cjP,trivial⟩
theorem trn5 {w:World}(l0:Nat) (a b c d e:R2):runA w ⟨[(70,4,false)],[],UV l0 [a,b,c,d,e] true⟩ 24 41 Tryz.f24 (stA [pLn l0 95 5 [a,b,c,d,e]]) [pLn w.heap.size 95 5 (jV [a,b,c,d,e]),pI 0]=some (.ret,[[pL l0 95 [a,b,c,d,e]]=[pL l0 95 [a,b,c,d,e]],false=false,0<5,5<=1000000,cn (4),4<5,4<5,0<5,0<5,0<5,0<5,4<5,4<5,cn (1),cn (3),3<5,3<5,1<5,1<5,1<5,1<5,3<5,3<5,cn (2),cn (2),cn (4),cn (1),1<5,1<5,0<5,0<5,cn (1),cn (2),2<5,2<5,1<5,1<5,cn (2),cn (3),3<5,3<5,2<5,2<5,cn (3),cn (4),4<5,4<5,3<5,3<5,cn (4),4<5,4<5]++[co (W0 w) (gQ w.1.size 95 5 (jV [a,b,c,d,e])) (.ls { lo:=w.1.size,ty:=95,z:=8,n:=5,g:=jc (jc (jc (jc (jc (jc (jc (jc (jc (jE 0 (fun _=>[]) fun(j:Nat)=>fQ ([a,b,c,d,e].getD j default)) 0 (fQ e)) (4) (fQ a)) (1) (fQ d)) (3) (fQ b)) 0 ([.cls (.q e.1 4)].append ([.cls (.q d.2 4)].append []))) (1) ([.cls (.q d.1 4)].append ([.cls (.q c.2 4)].append []))) (2) ([.cls (.q c.1 4)].append ([.cls (.q b.2 4)].append []))) (3) ([.cls (.q b.1 4)].append ([.cls (.q a.2 4)].append []))) (4) ([.cls (.q a.1 4)].append ([.lit (Value.bool false),.lit (Value.int IntKind.u64 0),.lit (Value.int IntKind.u64 0),.lit (Value.pointer none)].append [])) }),ii 0=ii 0,ju (W0 w) (gQ w.1.size 95 5 (jV [a,b,c,d,e]))]):=by kernel_rfl
theorem trn5_ok (hN:cF) (l0:Nat) (a b c d e:R2) (hb:okV [a,b,c,d,e]=true):kb 24 [pL l0 95 [a,b,c,d,e]] (fun lo=>[pL lo 95 (jV [a,b,c,d,e]),pI 0]):=by
 intro w vs hG hp;refine jR hG hN (ex:=(UV l0 [a,b,c,d,e] true)) (Jy hN hG (le_refl _) (show 5<=1000000 by omega) hb) (fn:=Tryz.f24) Tryz.func24 (c:=codeOf Tryz.f24) (by kernel_rfl) (args:=[pL l0 95 [a,b,c,d,e]]) (by kernel_rfl) hp (fun hR _ hA=>?_);exact cjQ (trn5 l0 a b c d e) (hR _ rfl) hA ⟨jS (le_refl _) rfl rfl rfl (fun j hj=>by have hj:j<5:=hj;match j,hj with|0,_=>exact cw.refl _ _|1,_=>exact cw.refl _ _|2,_=>exact cw.refl _ _|3,_=>exact cw.refl _ _|4,_=>exact Ct rfl (by omega)),rfl,cjP,trivial⟩
def zq (b:Bool) (L:List R2):List R2:=match b with
 |true=>jB L
 |false=>[]
def ul (b:Bool) (L:List R2):List R2:=match b with
 |true=>jV L
 |false=>[]
theorem ciQ (hN:cF) (l0:Nat) (L:List R2) (b:Bool) (hl:L.length<=8) (hb:okL L=b):kb 23 [pL l0 90 L] (fun lo=>[pL lo 90 (zq b L),pI (er b)]):=by
 subst hb;cases hb:okL L with
 |false=>exact mir_f hN l0 L (by omega) hb
 |true =>
  match L,hl,hb with
  |[],_,hb=>simp [okL,szI] at hb
  |[a],_,hb=>simp [okL,szI] at hb
  |[a,b],_,hb=>exact mir2_ok hN l0 a b hb
  |[a,b,c],_,hb=>exact mir3_ok hN l0 a b c hb
  |[a,b,c,d],_,hb=>exact mir4_ok hN l0 a b c d hb
  |[a,b,c,d,e],_,hb=>exact mir5_ok hN l0 a b c d e hb
  |[a,b,c,d,e,f],_,hb=>exact mir6_ok hN l0 a b c d e f hb
  |[a,b,c,d,e,f,g],_,hb=>exact mir7_ok hN l0 a b c d e f g hb
  |[a,b,c,d,e,f,g,h],_,hb=>exact mir8_ok hN l0 a b c d e f g h hb
  |a::b::c::d::e::f::g::h::i::_,hl,_=>simp only[length_cons] at hl;omega
theorem cja (hN:cF) (l0:Nat) (L:List R2) (b:Bool) (hl:L.length<=5) (hb:okV L=b):kb 24 [pL l0 95 L] (fun lo=>[pL lo 95 (ul b L),pI (er b)]):=by
 subst hb;cases hb:okV L with
 |false=>exact trn_f hN l0 L (by omega) hb
 |true =>
  match L,hl,hb with
  |[],_,hb=>simp [okV,szI] at hb
  |[a],_,hb=>exact trn1_ok hN l0 a hb
  |[a,b],_,hb=>exact trn2_ok hN l0 a b hb
  |[a,b,c],_,hb=>exact trn3_ok hN l0 a b c hb
  |[a,b,c,d],_,hb=>exact trn4_ok hN l0 a b c d hb
  |[a,b,c,d,e],_,hb=>exact trn5_ok hN l0 a b c d e hb
  |a::b::c::d::e::f::_,hl,_=>simp only[length_cons] at hl;omega
end Pe
namespace Pe
abbrev pMn (lo ty n:Nat) (L:List R2):Pat Dx:=.one (.cls (.ls ⟨lo,ty,6,n,fun j=>fR (L.getD j default)⟩))
theorem rmi2 {w:World}(l0:Nat) (a b:R2):runA w ⟨[],[],[]⟩ 27 29 Tryz.f27 (stA [pMn l0 92 2 [a,b]]) [pMn w.heap.size 92 2 (jB [a,b])]=some (.ret,[cn (1),1<2,1<2,1<2,1<2,1<=1000000,cn (0),0<2,0<2,0<2,0<2,2<=1000000,cn (-1)]++[co (W0 w) (gR w.1.size 92 2 (jB [a,b])) (.ls { lo:=w.1.size,ty:=92,z:=6,n:=2,g:=jE (1) (jE 0 (fun _=>[]) fun _=>[.cls (.rq (-b.1) 4),.cls (.rq b.2 4)]) fun _=>[.cls (.rq (-a.1) 4),.cls (.rq a.2 4)] }),ju (W0 w) (gR w.1.size 92 2 (jB [a,b]))]):=by kernel_rfl
theorem rmi2_ok (hN:cF) (l0:Nat) (a b:R2):kb 27 [pM l0 92 [a,b]] (fun lo=>[pM lo 92 (jB [a,b])]):=by
 intro w vs hG hp;refine jR hG hN (ex:=[]) jd (fn:=Tryz.f27) Tryz.func27 (c:=codeOf Tryz.f27) (by kernel_rfl) (args:=[pM l0 92 [a,b]]) (by kernel_rfl) hp (fun hR _ hA=>?_);exact cjQ (rmi2 l0 a b) (hR _ rfl) hA ⟨jS (le_refl _) rfl rfl rfl (fun j hj=>by have hj:j<2:=hj;match j,hj with|0,_=>exact cw.refl _ _|1,_=>exact cw.refl _ _),cjO,trivial⟩
theorem rmi3 {w:World}(l0:Nat) (a b c:R2):runA w ⟨[],[],[]⟩ 27 29 Tryz.f27 (stA [pMn l0 92 3 [a,b,c]]) [pMn w.heap.size 92 3 (jB [a,b,c])]=some (.ret,[cn (2),2<3,2<3,2<3,2<3,1<=1000000,cn (1),1<3,1<3,1<3,1<3,2<=1000000,cn (0),0<3,0<3,0<3,0<3,3<=1000000,cn (-1)]++[co (W0 w) (gR w.1.size 92 3 (jB [a,b,c])) (.ls { lo:=w.1.size,ty:=92,z:=6,n:=3,g:=jE (2) (jE (1) (jE 0 (fun _=>[]) fun _=>[.cls (.rq (-c.1) 4),.cls (.rq c.2 4)]) fun _=>[.cls (.rq (-b.1) 4),.cls (.rq b.2 4)]) fun _=>[.cls (.rq (-a.1) 4),.cls (.rq a.2 4)] }),ju (W0 w) (gR w.1.size 92 3 (jB [a,b,c]))]):=by kernel_rfl
theorem rmi3_ok (hN:cF) (l0:Nat) (a b c:R2):kb 27 [pM l0 92 [a,b,c]] (fun lo=>[pM lo 92 (jB [a,b,c])]):=by
 intro w vs hG hp;refine jR hG hN (ex:=[]) jd (fn:=Tryz.f27) Tryz.func27 (c:=codeOf Tryz.f27) (by kernel_rfl) (args:=[pM l0 92 [a,b,c]]) (by kernel_rfl) hp (fun hR _ hA=>?_);exact cjQ (rmi3 l0 a b c) (hR _ rfl) hA ⟨jS (le_refl _) rfl rfl rfl (fun j hj=>by have hj:j<3:=hj;match j,hj with|0,_=>exact cw.refl _ _|1,_=>exact cw.refl _ _|2,_=>exact cw.refl _ _),cjO,trivial⟩
theorem rmi4 {w:World}(l0:Nat) (a b c d:R2):runA w ⟨[],[],[]⟩ 27 29 Tryz.f27 (stA [pMn l0 92 4 [a,b,c,d]]) [pMn w.heap.size 92 4 (jB [a,b,c,d])]=some (.ret,[cn (3),3<4,3<4,3<4,3<4,1<=1000000,cn (2),2<4,2<4,2<4,2<4,2<=1000000,cn (1),1<4,1<4,1<4,1<4,3<=1000000,cn (0),0<4,0<4,0<4,0<4,4<=1000000,cn (-1)]++[co (W0 w) (gR w.1.size 92 4 (jB [a,b,c,d])) (.ls { lo:=w.1.size,ty:=92,z:=6,n:=4,g:=jE (3) (jE (2) (jE (1) (jE 0 (fun _=>[]) fun _=>[.cls (.rq (-d.1) 4),.cls (.rq d.2 4)]) fun _=>[.cls (.rq (-c.1) 4),.cls (.rq c.2 4)]) fun _=>[.cls (.rq (-b.1) 4),.cls (.rq b.2 4)]) fun _=>[.cls (.rq (-a.1) 4),.cls (.rq a.2 4)] }),ju (W0 w) (gR w.1.size 92 4 (jB [a,b,c,d]))]):=by kernel_rfl
theorem rmi4_ok (hN:cF) (l0:Nat) (a b c d:R2):kb 27 [pM l0 92 [a,b,c,d]] (fun lo=>[pM lo 92 (jB [a,b,c,d])]):=by
 intro w vs hG hp;refine jR hG hN (ex:=[]) jd (fn:=Tryz.f27) Tryz.func27 (c:=codeOf Tryz.f27) (by kernel_rfl) (args:=[pM l0 92 [a,b,c,d]]) (by kernel_rfl) hp (fun hR _ hA=>?_);exact cjQ (rmi4 l0 a b c d) (hR _ rfl) hA ⟨jS (le_refl _) rfl rfl rfl (fun j hj=>by have hj:j<4:=hj;match j,hj with|0,_=>exact cw.refl _ _|1,_=>exact cw.refl _ _|2,_=>exact cw.refl _ _|3,_=>exact cw.refl _ _),cjO,trivial⟩
theorem rmi5 {w:World}(l0:Nat) (a b c d e:R2):runA w ⟨[],[],[]⟩ 27 29 Tryz.f27 (stA [pMn l0 92 5 [a,b,c,d,e]]) [pMn w.heap.size 92 5 (jB [a,b,c,d,e])]=some (.ret,[cn (4),4<5,4<5,4<5,4<5,1<=1000000,cn (3),3<5,3<5,3<5,3<5,2<=1000000,cn (2),2<5,2<5,2<5,2<5,3<=1000000,cn (1),1<5,1<5,1<5,1<5,4<=1000000,cn (0),0<5,0<5,0<5,0<5,5<=1000000,cn (-1)]++[co (W0 w) (gR w.1.size 92 5 (jB [a,b,c,d,e])) (.ls { lo:=w.1.size,ty:=92,z:=6,n:=5,g:=jE (4) (jE (3) (jE (2) (jE (1) (jE 0 (fun _=>[]) fun _=>[.cls (.rq (-e.1) 4),.cls (.rq e.2 4)]) fun _=>[.cls (.rq (-d.1) 4),.cls (.rq d.2 4)]) fun _=>[.cls (.rq (-c.1) 4),.cls (.rq c.2 4)]) fun _=>[.cls (.rq (-b.1) 4),.cls (.rq b.2 4)]) fun _=>[.cls (.rq (-a.1) 4),.cls (.rq a.2 4)] }),ju (W0 w) (gR w.1.size 92 5 (jB [a,b,c,d,e]))]):=by kernel_rfl
theorem rmi5_ok (hN:cF) (l0:Nat) (a b c d e:R2):kb 27 [pM l0 92 [a,b,c,d,e]] (fun lo=>[pM lo 92 (jB [a,b,c,d,e])]):=by
 intro w vs hG hp;refine jR hG hN (ex:=[]) jd (fn:=Tryz.f27) Tryz.func27 (c:=codeOf Tryz.f27) (by kernel_rfl) (args:=[pM l0 92 [a,b,c,d,e]]) (by kernel_rfl) hp (fun hR _ hA=>?_);exact cjQ (rmi5 l0 a b c d e) (hR _ rfl) hA ⟨jS (le_refl _) rfl rfl rfl (fun j hj=>by have hj:j<5:=hj;match j,hj with|0,_=>exact cw.refl _ _|1,_=>exact cw.refl _ _|2,_=>exact cw.refl _ _|3,_=>exact cw.refl _ _|4,_=>exact cw.refl _ _),cjO,trivial⟩
theorem rmi6 {w:World}(l0:Nat) (a b c d e f:R2):runA w ⟨[],[],[]⟩ 27 29 Tryz.f27 (stA [pMn l0 92 6 [a,b,c,d,e,f]]) [pMn w.heap.size 92 6 (jB [a,b,c,d,e,f])]=some (.ret,[cn (5),5<6,5<6,5<6,5<6,1<=1000000,cn (4),4<6,4<6,4<6,4<6,2<=1000000,cn (3),3<6,3<6,3<6,3<6,3<=1000000,cn (2),2<6,2<6,2<6,2<6,4<=1000000,cn (1),1<6,1<6,1<6,1<6,5<=1000000,cn (0),0<6,0<6,0<6,0<6,6<=1000000,cn (-1)]++[co (W0 w) (gR w.1.size 92 6 (jB [a,b,c,d,e,f])) (.ls { lo:=w.1.size,ty:=92,z:=6,n:=6,g:=jE (5) (jE (4) (jE (3) (jE (2) (jE (1) (jE 0 (fun _=>[]) fun _=>[.cls (.rq (-f.1) 4),.cls (.rq f.2 4)]) fun _=>[.cls (.rq (-e.1) 4),.cls (.rq e.2 4)]) fun _=>[.cls (.rq (-d.1) 4),.cls (.rq d.2 4)]) fun _=>[.cls (.rq (-c.1) 4),.cls (.rq c.2 4)]) fun _=>[.cls (.rq (-b.1) 4),.cls (.rq b.2 4)]) fun _=>[.cls (.rq (-a.1) 4),.cls (.rq a.2 4)] }),ju (W0 w) (gR w.1.size 92 6 (jB [a,b,c,d,e,f]))]):=by kernel_rfl
theorem rmi6_ok (hN:cF) (l0:Nat) (a b c d e f:R2):kb 27 [pM l0 92 [a,b,c,d,e,f]] (fun lo=>[pM lo 92 (jB [a,b,c,d,e,f])]):=by
 intro w vs hG hp;refine jR hG hN (ex:=[]) jd (fn:=Tryz.f27) Tryz.func27 (c:=codeOf Tryz.f27) (by kernel_rfl) (args:=[pM l0 92 [a,b,c,d,e,f]]) (by kernel_rfl) hp (fun hR _ hA=>?_);exact cjQ (rmi6 l0 a b c d e f) (hR _ rfl) hA ⟨jS (le_refl _) rfl rfl rfl (fun j hj=>by have hj:j<6:=hj;match j,hj with|0,_=>exact cw.refl _ _|1,_=>exact cw.refl _ _|2,_=>exact cw.refl _ _|3,_=>exact cw.refl _ _|4,_=>exact cw.refl _ _|5,_=>exact cw.refl _ _),cjO,trivial⟩
theorem rmi7 {w:World}(l0:Nat) (a b c d e f g:R2):runA w ⟨[],[],[]⟩ 27 29 Tryz.f27 (stA [pMn l0 92 7 [a,b,c,d,e,f,g]]) [pMn w.heap.size 92 7 (jB [a,b,c,d,e,f,g])]=some (.ret,[cn (6),6<7,6<7,6<7,6<7,1<=1000000,cn (5),5<7,5<7,5<7,5<7,2<=1000000,cn (4),4<7,4<7,4<7,4<7,3<=1000000,cn (3),3<7,3<7,3<7,3<7,4<=1000000,cn (2),2<7,2<7,2<7,2<7,5<=1000000,cn (1),1<7,1<7,1<7,1<7,6<=1000000,cn (0),0<7,0<7,0<7,0<7,7<=1000000,cn (-1)]++[co (W0 w) (gR w.1.size 92 7 (jB [a,b,c,d,e,f,g])) (.ls { lo:=w.1.size,ty:=92,z:=6,n:=7,g:=jE (6) (jE (5) (jE (4) (jE (3) (jE (2) (jE (1) (jE 0 (fun _=>[]) fun _=>[.cls (.rq (-g.1) 4),.cls (.rq g.2 4)]) fun _=>[.cls (.rq (-f.1) 4),.cls (.rq f.2 4)]) fun _=>[.cls (.rq (-e.1) 4),.cls (.rq e.2 4)]) fun _=>[.cls (.rq (-d.1) 4),.cls (.rq d.2 4)]) fun _=>[.cls (.rq (-c.1) 4),.cls (.rq c.2 4)]) fun _=>[.cls (.rq (-b.1) 4),.cls (.rq b.2 4)]) fun _=>[.cls (.rq (-a.1) 4),.cls (.rq a.2 4)] }),ju (W0 w) (gR w.1.size 92 7 (jB [a,b,c,d,e,f,g]))]):=by kernel_rfl
theorem rmi7_ok (hN:cF) (l0:Nat) (a b c d e f g:R2):kb 27 [pM l0 92 [a,b,c,d,e,f,g]] (fun lo=>[pM lo 92 (jB [a,b,c,d,e,f,g])]):=by
 intro w vs hG hp;refine jR hG hN (ex:=[]) jd (fn:=Tryz.f27) Tryz.func27 (c:=codeOf Tryz.f27) (by kernel_rfl) (args:=[pM l0 92 [a,b,c,d,e,f,g]]) (by kernel_rfl) hp (fun hR _ hA=>?_);exact cjQ (rmi7 l0 a b c d e f g) (hR _ rfl) hA ⟨jS (le_refl _) rfl rfl rfl (fun j hj=>by have hj:j<7:=hj;match j,hj with|0,_=>exact cw.refl _ _|1,_=>exact cw.refl _ _|2,_=>exact cw.refl _ _|3,_=>exact cw.refl _ _|4,_=>exact cw.refl _ _|5,_=>exact cw.refl _ _|6,_=>exact cw.refl _ _),cjO,trivial⟩
theorem rmi8 {w:World}(l0:Nat) (a b c d e f g h:R2):runA w ⟨[],[],[]⟩ 27 29 Tryz.f27 (stA [pMn l0 92 8 [a,b,c,d,e,f,g,h]]) [pMn w.heap.size 92 8 (jB [a,b,c,d,e,f,g,h])]=some (.ret,[cn (7),7<8,7<8,7<8,7<8,1<=1000000,cn (6),6<8,6<8,6<8,6<8,2<=1000000,cn (5),5<8,5<8,5<8,5<8,3<=1000000,cn (4),4<8,4<8,4<8,4<8,4<=1000000,cn (3),3<8,3<8,3<8,3<8,5<=1000000,cn (2),2<8,2<8,2<8,2<8,6<=1000000,cn (1),1<8,1<8,1<8,1<8,7<=1000000,cn (0),0<8,0<8,0<8,0<8,8<=1000000,cn (-1)]++[co (W0 w) (gR w.1.size 92 8 (jB [a,b,c,d,e,f,g,h])) (.ls { lo:=w.1.size,ty:=92,z:=6,n:=8,g:=jE (7) (jE (6) (jE (5) (jE (4) (jE (3) (jE (2) (jE (1) (jE 0 (fun _=>[]) fun _=>[.cls (.rq (-h.1) 4),.cls (.rq h.2 4)]) fun _=>[.cls (.rq (-g.1) 4),.cls (.rq g.2 4)]) fun _=>[.cls (.rq (-f.1) 4),.cls (.rq f.2 4)]) fun _=>[.cls (.rq (-e.1) 4),.cls (.rq e.2 4)]) fun _=>[.cls (.rq (-d.1) 4),.cls (.rq d.2 4)]) fun _=>[.cls (.rq (-c.1) 4),.cls (.rq c.2 4)]) fun _=>[.cls (.rq (-b.1) 4),.cls (.rq b.2 4)]) fun _=>[.cls (.rq (-a.1) 4),.cls (.rq a.2 4)] }),ju (W0 w) (gR w.1.size 92 8 (jB [a,b,c,d,e,f,g,h]))]):=by kernel_rfl
theorem rmi8_ok (hN:cF) (l0:Nat) (a b c d e f g h:R2):kb 27 [pM l0 92 [a,b,c,d,e,f,g,h]] (fun lo=>[pM lo 92 (jB [a,b,c,d,e,f,g,h])]):=by
 intro w vs hG hp;refine jR hG hN (ex:=[]) jd (fn:=Tryz.f27) Tryz.func27 (c:=codeOf Tryz.f27) (by kernel_rfl) (args:=[pM l0 92 [a,b,c,d,e,f,g,h]]) (by kernel_rfl) hp (fun hR _ hA=>?_);exact cjQ (rmi8 l0 a b c d e f g h) (hR _ rfl) hA ⟨jS (le_refl _) rfl rfl rfl (fun j hj=>by have hj:j<8:=hj;match j,hj with|0,_=>exact cw.refl _ _|1,_=>exact cw.refl _ _|2,_=>exact cw.refl _ _|3,_=>exact cw.refl _ _|4,_=>exact cw.refl _ _|5,_=>exact cw.refl _ _|6,_=>exact cw.refl _ _|7,_=>exact cw.refl _ _),cjO,trivial⟩
theorem rtu1 {w:World}(l0:Nat) (a:R2):runA w ⟨[],[],[]⟩ 29 34 Tryz.f29 (stA [pMn l0 97 1 [a]]) [pMn w.heap.size 97 1 (jV [a])]=some (.ret,[cn (0),cn 0,0<1,0<1,1<=1000000,cn (-1)]++[co (W0 w) (gR w.1.size 97 1 (jV [a])) (.ls { lo:=w.1.size,ty:=97,z:=6,n:=1,g:=jE 0 (fun _=>[]) fun _=>[.cls (.rq a.1 4),.cls (.rq (↑0:Rat) 1)] }),ju (W0 w) (gR w.1.size 97 1 (jV [a]))]):=by kernel_rfl
theorem rtu1_ok (hN:cF) (l0:Nat) (a:R2):kb 29 [pM l0 97 [a]] (fun lo=>[pM lo 97 (jV [a])]):=by
 intro w vs hG hp;refine jR hG hN (ex:=[]) jd (fn:=Tryz.f29) Tryz.func29 (c:=codeOf Tryz.f29) (by kernel_rfl) (args:=[pM l0 97 [a]]) (by kernel_rfl) hp (fun hR _ hA=>?_);exact cjQ (rtu1 l0 a) (hR _ rfl) hA ⟨jS (le_refl _) rfl rfl rfl (fun j hj=>by have hj:j<1:=hj;match j,hj with|0,_=>exact GV (co.refl _ _) (Wk rfl (by omega)) rfl rfl),cjO,trivial⟩
theorem rtu2 {w:World}(l0:Nat) (a b:R2):runA w ⟨[],[],[]⟩ 29 34 Tryz.f29 (stA [pMn l0 97 2 [a,b]]) [pMn w.heap.size 97 2 (jV [a,b])]=some (.ret,[cn (1),cn 0,cn (0),0<2,0<2,1<2,1<2,1<=1000000,cn (0),cn 0,0<2,0<2,2<=1000000,cn (-1)]++[co (W0 w) (gR w.1.size 97 2 (jV [a,b])) (.ls { lo:=w.1.size,ty:=97,z:=6,n:=2,g:=jE (1) (jE 0 (fun _=>[]) fun _=>[.cls (.rq b.1 4),.cls (.rq a.2 4)]) fun _=>[.cls (.rq a.1 4),.cls (.rq (↑0:Rat) 1)] }),ju (W0 w) (gR w.1.size 97 2 (jV [a,b]))]):=by kernel_rfl
theorem rtu2_ok (hN:cF) (l0:Nat) (a b:R2):kb 29 [pM l0 97 [a,b]] (fun lo=>[pM lo 97 (jV [a,b])]):=by
 intro w vs hG hp;refine jR hG hN (ex:=[]) jd (fn:=Tryz.f29) Tryz.func29 (c:=codeOf Tryz.f29) (by kernel_rfl) (args:=[pM l0 97 [a,b]]) (by kernel_rfl) hp (fun hR _ hA=>?_);exact cjQ (rtu2 l0 a b) (hR _ rfl) hA ⟨jS (le_refl _) rfl rfl rfl (fun j hj=>by have hj:j<2:=hj;match j,hj with|0,_=>exact cw.refl _ _|1,_=>exact GV (co.refl _ _) (Wk rfl (by omega)) rfl rfl),cjO,trivial⟩
theorem rtu3 {w:World}(l0:Nat) (a b c:R2):runA w ⟨[],[],[]⟩ 29 34 Tryz.f29 (stA [pMn l0 97 3 [a,b,c]]) [pMn w.heap.size 97 3 (jV [a,b,c])]=some (.ret,[cn (2),cn 0,cn (1),1<3,1<3,2<3,2<3,1<=1000000,cn (1),cn 0,cn (0),0<3,0<3,1<3,1<3,2<=1000000,cn (0),cn 0,0<3,0<3,3<=1000000,cn (-1)]++[co (W0 w) (gR w.1.size 97 3 (jV [a,b,c])) (.ls { lo:=w.1.size,ty:=97,z:=6,n:=3,g:=jE (2) (jE (1) (jE 0 (fun _=>[]) fun _=>[.cls (.rq c.1 4),.cls (.rq b.2 4)]) fun _=>[.cls (.rq b.1 4),.cls (.rq a.2 4)]) fun _=>[.cls (.rq a.1 4),.cls (.rq (↑0:Rat) 1)] }),ju (W0 w) (gR w.1.size 97 3 (jV [a,b,c]))]):=by kernel_rfl
theorem rtu3_ok (hN:cF) (l0:Nat) (a b c:R2):kb 29 [pM l0 97 [a,b,c]] (fun lo=>[pM lo 97 (jV [a,b,c])]):=by
 intro w vs hG hp;refine jR hG hN (ex:=[]) jd (fn:=Tryz.f29) Tryz.func29 (c:=codeOf Tryz.f29) (by kernel_rfl) (args:=[pM l0 97 [a,b,c]]) (by kernel_rfl) hp (fun hR _ hA=>?_);exact cjQ (rtu3 l0 a b c) (hR _ rfl) hA ⟨jS (le_refl _) rfl rfl rfl (fun j hj=>by have hj:j<3:=hj;match j,hj with|0,_=>exact cw.refl _ _|1,_=>exact cw.refl _ _|2,_=>exact GV (co.refl _ _) (Wk rfl (by omega)) rfl rfl),cjO,trivial⟩
theorem rtu4 {w:World}(l0:Nat) (a b c d:R2):runA w ⟨[],[],[]⟩ 29 34 Tryz.f29 (stA [pMn l0 97 4 [a,b,c,d]]) [pMn w.heap.size 97 4 (jV [a,b,c,d])]=some (.ret,[cn (3),cn 0,cn (2),2<4,2<4,3<4,3<4,1<=1000000,cn (2),cn 0,cn (1),1<4,1<4,2<4,2<4,2<=1000000,cn (1),cn 0,cn (0),0<4,0<4,1<4,1<4,3<=1000000,cn (0),cn 0,0<4,0<4,4<=1000000,cn (-1)]++[co (W0 w) (gR w.1.size 97 4 (jV [a,b,c,d])) (.ls { lo:=w.1.size,ty:=97,z:=6,n:=4,g:=jE (3) (jE (2) (jE (1) (jE 0 (fun _=>[]) fun _=>[.cls (.rq d.1 4),.cls (.rq c.2 4)]) fun _=>[.cls (.rq c.1 4),.cls (.rq b.2 4)]) fun _=>[.cls (.rq b.1 4),.cls (.rq a.2 4)]) fun _=>[.cls (.rq a.1 4),.cls (.rq (↑0:Rat) 1)] }),ju (W0 w) (gR w.1.size 97 4 (jV [a,b,c,d]))]):=by kernel_rfl
theorem rtu4_ok (hN:cF) (l0:Nat) (a b c d:R2):kb 29 [pM l0 97 [a,b,c,d]] (fun lo=>[pM lo 97 (jV [a,b,c,d])]):=by
 intro w vs hG hp;refine jR hG hN (ex:=[]) jd (fn:=Tryz.f29) Tryz.func29 (c:=codeOf Tryz.f29) (by kernel_rfl) (args:=[pM l0 97 [a,b,c,d]]) (by kernel_rfl) hp (fun hR _ hA=>?_);exact cjQ (rtu4 l0 a b c d) (hR _ rfl) hA ⟨jS (le_refl _) rfl rfl rfl (fun j hj=>by have hj:j<4:=hj;match j,hj with|0,_=>exact cw.refl _ _|1,_=>exact cw.refl _ _|2,_=>exact cw.refl _ _|3,_=>exact GV (co.refl _ _) (Wk rfl (by omega)) rfl rfl),cjO,trivial⟩
theorem rtu5 {w:World}(l0:Nat) (a b c d e:R2):runA w ⟨[],[],[]⟩ 29 34 Tryz.f29 (stA [pMn l0 97 5 [a,b,c,d,e]]) [pMn w.heap.size 97 5 (jV [a,b,c,d,e])]=some (.ret,[cn (4),cn 0,cn (3),3<5,3<5,4<5,4<5,1<=1000000,cn (3),cn 0,cn (2),2<5,2<5,3<5,3<5,2<=1000000,cn (2),cn 0,cn (1),1<5,1<5,2<5,2<5,3<=1000000,cn (1),cn 0,cn (0),0<5,0<5,1<5,1<5,4<=1000000,cn (0),cn 0,0<5,0<5,5<=1000000,cn (-1)]++[co (W0 w) (gR w.1.size 97 5 (jV [a,b,c,d,e])) (.ls { lo:=w.1.size,ty:=97,z:=6,n:=5,g:=jE (4) (jE (3) (jE (2) (jE (1) (jE 0 (fun _=>[]) fun _=>[.cls (.rq e.1 4),.cls (.rq d.2 4)]) fun _=>[.cls (.rq d.1 4),.cls (.rq c.2 4)]) fun _=>[.cls (.rq c.1 4),.cls (.rq b.2 4)]) fun _=>[.cls (.rq b.1 4),.cls (.rq a.2 4)]) fun _=>[.cls (.rq a.1 4),.cls (.rq (↑0:Rat) 1)] }),ju (W0 w) (gR w.1.size 97 5 (jV [a,b,c,d,e]))]):=by kernel_rfl
theorem rtu5_ok (hN:cF) (l0:Nat) (a b c d e:R2):kb 29 [pM l0 97 [a,b,c,d,e]] (fun lo=>[pM lo 97 (jV [a,b,c,d,e])]):=by
 intro w vs hG hp;refine jR hG hN (ex:=[]) jd (fn:=Tryz.f29) Tryz.func29 (c:=codeOf Tryz.f29) (by kernel_rfl) (args:=[pM l0 97 [a,b,c,d,e]]) (by kernel_rfl) hp (fun hR _ hA=>?_);exact cjQ (rtu5 l0 a b c d e) (hR _ rfl) hA ⟨jS (le_refl _) rfl rfl rfl (fun j hj=>by have hj:j<5:=hj;match j,hj with|0,_=>exact cw.refl _ _|1,_=>exact cw.refl _ _|2,_=>exact cw.refl _ _|3,_=>exact cw.refl _ _|4,_=>exact GV (co.refl _ _) (Wk rfl (by omega)) rfl rfl),cjO,trivial⟩
theorem civ (hN:cF) (l0:Nat) (L:List R2) (hl:L.length<=8) (hb:okL L=true):kb 27 [pM l0 92 L] (fun lo=>[pM lo 92 (jB L)]):=by
 match L,hl,hb with
 |[],_,hb=>simp [okL,szI] at hb
 |[a],_,hb=>simp [okL,szI] at hb
 |[a,b],_,hb=>exact rmi2_ok hN l0 a b
 |[a,b,c],_,hb=>exact rmi3_ok hN l0 a b c
 |[a,b,c,d],_,hb=>exact rmi4_ok hN l0 a b c d
 |[a,b,c,d,e],_,hb=>exact rmi5_ok hN l0 a b c d e
 |[a,b,c,d,e,f],_,hb=>exact rmi6_ok hN l0 a b c d e f
 |[a,b,c,d,e,f,g],_,hb=>exact rmi7_ok hN l0 a b c d e f g
 |[a,b,c,d,e,f,g,h],_,hb=>exact rmi8_ok hN l0 a b c d e f g h
 |a::b::c::d::e::f::g::h::i::_,hl,_=>simp only[length_cons] at hl;omega
theorem cih (hN:cF) (l0:Nat) (L:List R2) (hl:L.length<=5) (hb:okV L=true):kb 29 [pM l0 97 L] (fun lo=>[pM lo 97 (jV L)]):=by
 match L,hl,hb with
 |[],_,hb=>simp [okV,szI] at hb
 |[a],_,hb=>exact rtu1_ok hN l0 a
 |[a,b],_,hb=>exact rtu2_ok hN l0 a b
 |[a,b,c],_,hb=>exact rtu3_ok hN l0 a b c
 |[a,b,c,d],_,hb=>exact rtu4_ok hN l0 a b c d
 |[a,b,c,d,e],_,hb=>exact rtu5_ok hN l0 a b c d e
 |a::b::c::d::e::f::_,hl,_=>simp only[length_cons] at hl;omega
end Pe
namespace Pe
abbrev xAt (L:List R2) (i:Nat):Rat:=(L.getD i default).1
abbrev yAt (L:List R2) (i:Nat):Rat:=(L.getD i default).2
def pos (L:List R2) (x:Rat):Nat:=L.findIdx fun p=>decide (¬ kO p.1 x<0)
theorem kb.two {lo:Nat}{w0:World}{f:Nat}{args:List (Pat Dx)}{v v':Value}(h:kb f args (fun _=>[.one (.lit v),.one (.lit v')])) (hG:Gr w0) (hlo:lo<=w0.heap.size) (hE:Enters Tryz.prog f):jD (Cx true lo w0) (.call f) args (.tup [.one (.lit v),.one (.lit v')]) :=
 h.ent hG hlo hE (fun _ _=>⟨_,rfl,rfl,rfl,trivial⟩)
section
variable {L:List R2}{x:Rat}{i j:Nat}{A:Nat->Nat->Prop}
end
end Pe
namespace Pe
noncomputable def kLine25_:List Kp:=[.code (codeOf Tryz.f25)]
noncomputable def kLine25_n:List Kp:=next kLine25_
noncomputable def kLine25_nt:List Kp:=kLine25_n.tail
noncomputable def kLine25_nl:List Kp:=[.code (ug kLine25_n)]
noncomputable def kVehicle26_:List Kp:=[.code (codeOf Tryz.f26)]
noncomputable def kVehicle26_n:List Kp:=next kVehicle26_
noncomputable def kVehicle26_nt:List Kp:=kVehicle26_n.tail
noncomputable def kVehicle26_nl:List Kp:=[.code (ug kVehicle26_n)]
theorem cha {r:Rat}:ji r=0↔r=0:=by
 unfold ji;rw[← Rat.num_eq_zero];by_cases h:r.num=0
 ·rw[if_pos h];exact⟨fun _=>h,fun _=>rfl⟩
 ·rw[if_neg h];split
  ·exact⟨fun x=>absurd x (by decide),fun x=>absurd x h⟩
  ·exact⟨fun x=>absurd x (by decide),fun x=>absurd x h⟩
theorem ceL (L:List R2) (i:Nat):lev L i=decide (yAt L i=0):=by
 unfold lev;exact decide_eq_decide.2 cha
theorem Zi {L:List R2}(h:asc L=true):okL L=(decide ((L.length:Int)>=2)&&decide ((L.length:Int)<=60)&&decide (yAt L 0=0)&&decide (yAt L (L.length-1)=0)):=by
 unfold okL;rw[h,ceL,ceL,Bool.and_true]
theorem okl_no {L:List R2}{i:Nat}(hi:i+1<L.length) (h:up L i=false):okL L=false:=by
 have h1:asc L=false:=by
  have:=cak hi h;injection this
 unfold okL;rw[h1,Bool.and_false]
theorem up_ge {L:List R2}{i:Nat}{b:Bool}(h:decide (kO (xAt L i) (xAt L (i+1))>=0)=b):up L i=!b:=by
 subst h;unfold up;by_cases h1:kO (xAt L i) (xAt L (i+1))<0
 ·rw[decide_eq_true h1,decide_eq_false (by omega)];rfl
 ·rw[decide_eq_false h1,decide_eq_true (by omega)];rfl
abbrev rlI (lo ty:Nat) (L:List R2) (i:Nat):St Dx:=⟨1,[(0,.val (.one (.sym 0 0))),(3,.val (.one (.lit (ii ((i+1:Nat):Int)))))],[(0,.cls (.ls (lst lo ty 6 L fR)))],[]⟩
theorem rla {w:World}(l0:Nat) (L:List R2):run w ⟨[],[],[]⟩ 25 48 kLine25_ (stA [pM l0 92 L]) (rlI l0 92 L 0)=some (.normal,[co (W0 w) (.ls (lst l0 92 6 L fR)) (.ls (lst l0 92 6 L fR)),ii (↑(0+1):Int)=Value.int IntKind.i64 1]):=by kernel_rfl
noncomputable abbrev rleR (w:World) (l0:Nat) (L:List R2) (i:Nat) (o:List (Nat×Nat×Bool)):=runR w ⟨o,[],[]⟩ 25 48 Tryz.f25 kLine25_nt (rlI l0 92 L i) (rB (okL L))
theorem rle0 {w:World}(l0:Nat) (L:List R2) (i:Nat):rleR w l0 L i [(25,25,true),(25,29,true),(25,36,true),(25,46,true),(25,42,true)]=some (.ret,[decide ((L.length:Int)>=2)=true,decide ((L.length:Int)<=60)=true,0<L.length,0<L.length,decide ((L.getD 0 default).2=0)=true,1<=L.length,L.length<=1000000000,L.length-1<L.length,L.length-1<L.length,decide ((L.getD (L.length-1) default).2=0)=true,Value.bool (okL L)=Value.bool true]):=by kernel_rfl
theorem rle1 {w:World}(l0:Nat) (L:List R2) (i:Nat):rleR w l0 L i [(25,25,true),(25,29,true),(25,36,true),(25,46,false),(25,42,true)]=some (.ret,[decide ((L.length:Int)>=2)=true,decide ((L.length:Int)<=60)=true,0<L.length,0<L.length,decide ((L.getD 0 default).2=0)=true,1<=L.length,L.length<=1000000000,L.length-1<L.length,L.length-1<L.length,decide ((L.getD (L.length-1) default).2=0)=false,Value.bool (okL L)=Value.bool false]):=by kernel_rfl
theorem rle2 {w:World}(l0:Nat) (L:List R2) (i:Nat):rleR w l0 L i [(25,25,true),(25,29,true),(25,36,false),(25,42,true)]=some (.ret,[decide ((L.length:Int)>=2)=true,decide ((L.length:Int)<=60)=true,0<L.length,0<L.length,decide ((L.getD 0 default).2=0)=false,Value.bool (okL L)=Value.bool false]):=by kernel_rfl
theorem rle3 {w:World}(l0:Nat) (L:List R2) (i:Nat):rleR w l0 L i [(25,25,true),(25,29,false),(25,42,true)]=some (.ret,[decide ((L.length:Int)>=2)=true,decide ((L.length:Int)<=60)=false,Value.bool (okL L)=Value.bool false]):=by kernel_rfl
theorem rle4 {w:World}(l0:Nat) (L:List R2) (i:Nat):rleR w l0 L i [(25,25,false),(25,42,true)]=some (.ret,[decide ((L.length:Int)>=2)=false,Value.bool (okL L)=Value.bool false]):=by kernel_rfl
noncomputable abbrev rlbTe0 (w:World) (l0:Nat) (L:List R2) (i:Nat) (o:List (Nat×Nat×Bool)):=run w ⟨o,[],[]⟩ 25 48 kLine25_nl (rlI l0 92 L i) (rlI l0 92 L i)
noncomputable abbrev rlbTnal (w:World) (l0:Nat) (L:List R2) (i:Nat) (o:List (Nat×Nat×Bool)):=run w ⟨o,[],[]⟩ 25 48 kLine25_nl (rlI l0 92 L i) (rlI l0 92 L (i+1))
noncomputable abbrev rlbR (w:World) (l0:Nat) (L:List R2) (i:Nat) (o:List (Nat×Nat×Bool)):=runR w ⟨o,[],[]⟩ 25 48 Tryz.f25 kLine25_nl (rlI l0 92 L i) (rB (okL L))
theorem rlb0 {w:World}(l0:Nat) (L:List R2) (i:Nat):rlbR w l0 L i [(25,7,true),(25,22,true),(25,12,true)]=some (.ret,[decide ((↑(i+1):Int)<(L.length:Int))=true,1<=i+1,i+1<=1000000000,i+1-1<L.length,i+1-1<L.length,i+1<L.length,i+1<L.length,4+4<=10000,decide (kO (L.getD (i+1-1) default).1 (L.getD (i+1) default).1>=0)=true,Value.bool (okL L)=Value.bool false]):=by kernel_rfl
theorem rlb1 {w:World}(l0:Nat) (L:List R2) (i:Nat):rlbTnal w l0 L i [(25,7,true),(25,22,false),(25,12,true)]=some (.normal,[decide ((↑(i+1):Int)<(L.length:Int))=true,1<=i+1,i+1<=1000000000,i+1-1<L.length,i+1-1<L.length,i+1<L.length,i+1<L.length,4+4<=10000,decide (kO (L.getD (i+1-1) default).1 (L.getD (i+1) default).1>=0)=false,cn ((↑(i+1):Int)+1),co (W0 w) (.ls (lst l0 92 6 L fR)) (.ls (lst l0 92 6 L fR)),ii (↑(i+1+1):Int)=Value.int IntKind.i64 ((↑(i+1):Int)+1)]):=by kernel_rfl
theorem rlb2 {w:World}(l0:Nat) (L:List R2) (i:Nat):rlbTe0 w l0 L i [(25,7,false),(25,12,true)]=some (.exit 0,[decide ((↑(i+1):Int)<(L.length:Int))=false,co (W0 w) (.ls (lst l0 92 6 L fR)) (.ls (lst l0 92 6 L fR)),ii (↑(i+1):Int)=ii (↑(i+1):Int)]):=by kernel_rfl
theorem cjb (hN:cF) (l0:Nat) (L:List R2) (hl:L.length<=1000000):kb 25 [pM l0 92 L] (fun _=>rB (okL L)):=by
 intro w vs hG hp;refine jR hG hN (ex:=[]) jd (fn:=Tryz.f25) Tryz.func25 (c:=codeOf Tryz.f25) (by kernel_rfl) (args:=[pM l0 92 L]) (by kernel_rfl) hp (fun hR _ hA=>?_);refine kp (rla l0 L) (hR _ rfl) hA (fun a w1 hA=>ki ?_);refine yw (fun i=>rlI l0 92 L i) (fun i=>i<=L.length/\∀ k,k<i->up L k=true) (fun i=>L.length-i) (L:=kLine25_n) (ks:=kLine25_nt) (id:=0) (c:=ug kLine25_n) (by kernel_rfl) 0 ⟨zero_le _,by omega⟩ hA (fun i a2 w2 hi hA=>?_);have rest:∀ a w1,At (W0 w) 48 (rlI l0 92 L i) a w1->asc L=true->after Fence.wide 0 Tryz.prog kLine25_nt (Ret (W0 w) Tryz.f25 (Res (W0 w) (rB (okL L)))) .normal a w1:=by
  intro a w1 hA hs;rcases eq_false_or_eq_true (decide ((L.length:Int)>=2)) with q25|q25
  ·skip
   have p25:=of_decide_eq_true q25;rcases eq_false_or_eq_true (decide ((L.length:Int)<=60)) with q29|q29
   ·skip
    have p29:=of_decide_eq_true q29;rcases eq_false_or_eq_true (decide (yAt L 0=0)) with q36|q36
    ·skip
     have p36:=of_decide_eq_true q36;rcases eq_false_or_eq_true (decide (yAt L (L.length-1)=0)) with q46|q46
     ·skip
      have p46:=of_decide_eq_true q46;refine jk (rle0 l0 L i) (hR _ rfl) hA (by (repeat' (first|exact trivial|apply And.intro))<;>first|exact co.refl _ _|exact fun _ _=>cw.refl _ _|exact cI rfl|exact cu _ _|exact ct _ _|(with_reducible assumption)|omega|with_reducible rfl|(simp only[cA];omega)|(intro j hj;exact absurd hj (not_lt_zero _))|(refine congrArg Value.bool ((Zi hs).trans ?_);rw[q25];first|rfl|(rw[q29];first|rfl|(rw[q36];first|rfl|(rw[q46];rfl))))|rfl)
     ·skip
      have p46:=of_decide_eq_false q46;refine jk (rle1 l0 L i) (hR _ rfl) hA (by (repeat' (first|exact trivial|apply And.intro))<;>first|exact co.refl _ _|exact fun _ _=>cw.refl _ _|exact cI rfl|exact cu _ _|exact ct _ _|(with_reducible assumption)|omega|with_reducible rfl|(simp only[cA];omega)|(intro j hj;exact absurd hj (not_lt_zero _))|(refine congrArg Value.bool ((Zi hs).trans ?_);rw[q25];first|rfl|(rw[q29];first|rfl|(rw[q36];first|rfl|(rw[q46];rfl))))|rfl)
    ·skip
     have p36:=of_decide_eq_false q36;refine jk (rle2 l0 L i) (hR _ rfl) hA (by (repeat' (first|exact trivial|apply And.intro))<;>first|exact co.refl _ _|exact fun _ _=>cw.refl _ _|exact cI rfl|exact cu _ _|exact ct _ _|(with_reducible assumption)|omega|with_reducible rfl|(simp only[cA];omega)|(intro j hj;exact absurd hj (not_lt_zero _))|(refine congrArg Value.bool ((Zi hs).trans ?_);rw[q25];first|rfl|(rw[q29];first|rfl|(rw[q36];first|rfl|(rw[q46];rfl))))|rfl)
   ·skip
    have p29:=of_decide_eq_false q29;refine jk (rle3 l0 L i) (hR _ rfl) hA (by (repeat' (first|exact trivial|apply And.intro))<;>first|exact co.refl _ _|exact fun _ _=>cw.refl _ _|exact cI rfl|exact cu _ _|exact ct _ _|(with_reducible assumption)|omega|with_reducible rfl|(simp only[cA];omega)|(intro j hj;exact absurd hj (not_lt_zero _))|(refine congrArg Value.bool ((Zi hs).trans ?_);rw[q25];first|rfl|(rw[q29];first|rfl|(rw[q36];first|rfl|(rw[q46];rfl))))|rfl)
  ·skip
   have p25:=of_decide_eq_false q25;refine jk (rle4 l0 L i) (hR _ rfl) hA (by (repeat' (first|exact trivial|apply And.intro))<;>first|exact co.refl _ _|exact fun _ _=>cw.refl _ _|exact cI rfl|exact cu _ _|exact ct _ _|(with_reducible assumption)|omega|with_reducible rfl|(simp only[cA];omega)|(intro j hj;exact absurd hj (not_lt_zero _))|(refine congrArg Value.bool ((Zi hs).trans ?_);rw[q25];first|rfl|(rw[q29];first|rfl|(rw[q36];first|rfl|(rw[q46];rfl))))|rfl)
 rcases eq_false_or_eq_true (decide (((i+1:Nat):Int)<(L.length:Int))) with q7|q7
 ·skip
  have p7:=of_decide_eq_true q7;rcases eq_false_or_eq_true (decide (kO (xAt L i) (xAt L (i+1))>=0)) with q22|q22
  ·skip
   have p22:=of_decide_eq_true q22;have e0:=congrArg Value.bool (okl_no (i:=i) (by omega) (up_ge q22));refine jk (rlb0 l0 L i) (hR _ rfl) hA
  ·skip
   have p22:=of_decide_eq_false q22;refine kp (rlb1 l0 L i) (hR _ rfl) hA (fun aT wT hT=>?_);exact uz (by kernel_rfl) ⟨i+1,⟨by omega,fun k hk=>by rcases Nat.lt_succ_iff_lt_or_eq.1 hk with h|rfl;exact hi.2 k h;exact up_ge q22⟩,hT,by omega⟩
 ·skip
  have p7:=of_decide_eq_false q7;refine kp (rlb2 l0 L i) (hR _ rfl) hA (fun aT wT hT=>?_);refine kT _ (by kernel_rfl) ?_;exact rest _ _ hT (ccX fun k hk=>hi.2 k (by omega))
theorem cbJ {L:List R2}(h:anyBad L=false):okV L=(decide ((L.length:Int)>=1)&&decide ((L.length:Int)<=20)&&decide (yAt L (L.length-1)=0)):=by
 unfold okV;rw[h,ceL,Bool.not_false,Bool.and_true]
theorem okv_no {L:List R2}{i:Nat}(hi:i<L.length) (h:bad L i=true):okV L=false:=by
 unfold okV;rw[cin hi h,Bool.not_true,Bool.and_false];rfl
theorem bad_1 {L:List R2}{i:Nat}(h:decide (ji (xAt L i)<0)=true):bad L i=true:=by unfold bad;rw[h];rfl
theorem bad_2 {L:List R2}{i:Nat}(h:decide (ji (yAt L i)<0)=true):bad L i=true:=by unfold bad;rw[h,Bool.or_true]
theorem bad_0 {L:List R2}{i:Nat}(h:decide (ji (xAt L i)<0)=false) (h':decide (ji (yAt L i)<0)=false):bad L i=false:=by unfold bad;rw[h,h'];rfl
abbrev rvI (lo ty:Nat) (L:List R2) (i:Nat):St Dx:=⟨1,[(0,.val (.one (.sym 0 0))),(3,.val (.one (.lit (ii (i:Int)))))],[(0,.cls (.ls (lst lo ty 6 L fR)))],[]⟩
theorem rva {w:World}(l0:Nat) (L:List R2):run w ⟨[],[],[]⟩ 26 44 kVehicle26_ (stA [pM l0 97 L]) (rvI l0 97 L 0)=some (.normal,[co (W0 w) (.ls (lst l0 97 6 L fR)) (.ls (lst l0 97 6 L fR)),ii (↑0:Int)=Value.int IntKind.i64 0]):=by kernel_rfl
noncomputable abbrev rveR (w:World) (l0:Nat) (L:List R2) (i:Nat) (o:List (Nat×Nat×Bool)):=runR w ⟨o,[],[]⟩ 26 44 Tryz.f26 kVehicle26_nt (rvI l0 97 L i) (rB (okV L))
theorem rve0 {w:World}(l0:Nat) (L:List R2) (i:Nat):rveR w l0 L i [(26,28,true),(26,32,true),(26,42,true),(26,38,true)]=some (.ret,[decide ((L.length:Int)>=1)=true,decide ((L.length:Int)<=20)=true,1<=L.length,L.length<=1000000000,L.length-1<L.length,L.length-1<L.length,decide ((L.getD (L.length-1) default).2=0)=true,Value.bool (okV L)=Value.bool true]):=by kernel_rfl
theorem rve1 {w:World}(l0:Nat) (L:List R2) (i:Nat):rveR w l0 L i [(26,28,true),(26,32,true),(26,42,false),(26,38,true)]=some (.ret,[decide ((L.length:Int)>=1)=true,decide ((L.length:Int)<=20)=true,1<=L.length,L.length<=1000000000,L.length-1<L.length,L.length-1<L.length,decide ((L.getD (L.length-1) default).2=0)=false,Value.bool (okV L)=Value.bool false]):=by kernel_rfl
theorem rve2 {w:World}(l0:Nat) (L:List R2) (i:Nat):rveR w l0 L i [(26,28,true),(26,32,false),(26,38,true)]=some (.ret,[decide ((L.length:Int)>=1)=true,decide ((L.length:Int)<=20)=false,Value.bool (okV L)=Value.bool false]):=by kernel_rfl
theorem rve3 {w:World}(l0:Nat) (L:List R2) (i:Nat):rveR w l0 L i [(26,28,false),(26,38,true)]=some (.ret,[decide ((L.length:Int)>=1)=false,Value.bool (okV L)=Value.bool false]):=by kernel_rfl
noncomputable abbrev rvbTe0 (w:World) (l0:Nat) (L:List R2) (i:Nat) (o:List (Nat×Nat×Bool)):=run w ⟨o,[],[]⟩ 26 44 kVehicle26_nl (rvI l0 97 L i) (rvI l0 97 L i)
noncomputable abbrev rvbTnal (w:World) (l0:Nat) (L:List R2) (i:Nat) (o:List (Nat×Nat×Bool)):=run w ⟨o,[],[]⟩ 26 44 kVehicle26_nl (rvI l0 97 L i) (rvI l0 97 L (i+1))
noncomputable abbrev rvbR (w:World) (l0:Nat) (L:List R2) (i:Nat) (o:List (Nat×Nat×Bool)):=runR w ⟨o,[],[]⟩ 26 44 Tryz.f26 kVehicle26_nl (rvI l0 97 L i) (rB (okV L))
theorem rvb0 {w:World}(l0:Nat) (L:List R2) (i:Nat):rvbR w l0 L i [(26,7,true),(26,16,true)]=some (.ret,[decide ((i:Int)<(L.length:Int))=true,i<L.length,i<L.length,decide (ji (L.getD i default).1<0)=true,Value.bool (okV L)=Value.bool false]):=by kernel_rfl
theorem rvb1 {w:World}(l0:Nat) (L:List R2) (i:Nat):rvbR w l0 L i [(26,7,true),(26,16,false),(26,24,true)]=some (.ret,[decide ((i:Int)<(L.length:Int))=true,i<L.length,i<L.length,decide (ji (L.getD i default).1<0)=false,i<L.length,i<L.length,decide (ji (L.getD i default).2<0)=true,Value.bool (okV L)=Value.bool false]):=by kernel_rfl
theorem rvb2 {w:World}(l0:Nat) (L:List R2) (i:Nat):rvbTnal w l0 L i [(26,7,true),(26,16,false),(26,24,false)]=some (.normal,[decide ((i:Int)<(L.length:Int))=true,i<L.length,i<L.length,decide (ji (L.getD i default).1<0)=false,i<L.length,i<L.length,decide (ji (L.getD i default).2<0)=false,cn ((i:Int)+1),co (W0 w) (.ls (lst l0 97 6 L fR)) (.ls (lst l0 97 6 L fR)),ii (↑(i+1):Int)=Value.int IntKind.i64 ((i:Int)+1)]):=by kernel_rfl
theorem rvb3 {w:World}(l0:Nat) (L:List R2) (i:Nat):rvbTe0 w l0 L i [(26,7,false)]=some (.exit 0,[decide ((i:Int)<(L.length:Int))=false,co (W0 w) (.ls (lst l0 97 6 L fR)) (.ls (lst l0 97 6 L fR)),ii (i:Int)=ii (i:Int)]):=by kernel_rfl
theorem cdG (hN:cF) (l0:Nat) (L:List R2) (hl:L.length<=1000000):kb 26 [pM l0 97 L] (fun _=>rB (okV L)):=by
 intro w vs hG hp;refine jR hG hN (ex:=[]) jd (fn:=Tryz.f26) Tryz.func26 (c:=codeOf Tryz.f26) (by kernel_rfl) (args:=[pM l0 97 L]) (by kernel_rfl) hp (fun hR _ hA=>?_);refine kp (rva l0 L) (hR _ rfl) hA (fun a w1 hA=>ki ?_);refine yw (fun i=>rvI l0 97 L i) (fun i=>i<=L.length/\∀ k,k<i->bad L k=false) (fun i=>L.length-i) (L:=kVehicle26_n) (ks:=kVehicle26_nt) (id:=0) (c:=ug kVehicle26_n) (by kernel_rfl) 0 ⟨zero_le _,by omega⟩ hA (fun i a2 w2 hi hA=>?_);have rest:∀ a w1,At (W0 w) 44 (rvI l0 97 L i) a w1->anyBad L=false->after Fence.wide 0 Tryz.prog kVehicle26_nt (Ret (W0 w) Tryz.f26 (Res (W0 w) (rB (okV L)))) .normal a w1:=by
  intro a w1 hA hs;rcases eq_false_or_eq_true (decide ((L.length:Int)>=1)) with q28|q28
  ·skip
   have p28:=of_decide_eq_true q28;rcases eq_false_or_eq_true (decide ((L.length:Int)<=20)) with q32|q32
   ·skip
    have p32:=of_decide_eq_true q32;rcases eq_false_or_eq_true (decide (yAt L (L.length-1)=0)) with q42|q42
    ·skip
     have p42:=of_decide_eq_true q42;refine jk (rve0 l0 L i) (hR _ rfl) hA (by (repeat' (first|exact trivial|apply And.intro))<;>first|exact co.refl _ _|exact fun _ _=>cw.refl _ _|exact cI rfl|exact cu _ _|exact ct _ _|(with_reducible assumption)|omega|with_reducible rfl|(simp only[cA];omega)|(intro j hj;exact absurd hj (not_lt_zero _))|(refine congrArg Value.bool ((cbJ hs).trans ?_);rw[q28];first|rfl|(rw[q32];first|rfl|(rw[q42];rfl)))|rfl)
    ·skip
     have p42:=of_decide_eq_false q42;refine jk (rve1 l0 L i) (hR _ rfl) hA (by (repeat' (first|exact trivial|apply And.intro))<;>first|exact co.refl _ _|exact fun _ _=>cw.refl _ _|exact cI rfl|exact cu _ _|exact ct _ _|(with_reducible assumption)|omega|with_reducible rfl|(simp only[cA];omega)|(intro j hj;exact absurd hj (not_lt_zero _))|(refine congrArg Value.bool ((cbJ hs).trans ?_);rw[q28];first|rfl|(rw[q32];first|rfl|(rw[q42];rfl)))|rfl)
   ·skip
    have p32:=of_decide_eq_false q32;refine jk (rve2 l0 L i) (hR _ rfl) hA (by (repeat' (first|exact trivial|apply And.intro))<;>first|exact co.refl _ _|exact fun _ _=>cw.refl _ _|exact cI rfl|exact cu _ _|exact ct _ _|(with_reducible assumption)|omega|with_reducible rfl|(simp only[cA];omega)|(intro j hj;exact absurd hj (not_lt_zero _))|(refine congrArg Value.bool ((cbJ hs).trans ?_);rw[q28];first|rfl|(rw[q32];first|rfl|(rw[q42];rfl)))|rfl)
  ·skip
   have p28:=of_decide_eq_false q28;refine jk (rve3 l0 L i) (hR _ rfl) hA (by (repeat' (first|exact trivial|apply And.intro))<;>first|exact co.refl _ _|exact fun _ _=>cw.refl _ _|exact cI rfl|exact cu _ _|exact ct _ _|(with_reducible assumption)|omega|with_reducible rfl|(simp only[cA];omega)|(intro j hj;exact absurd hj (not_lt_zero _))|(refine congrArg Value.bool ((cbJ hs).trans ?_);rw[q28];first|rfl|(rw[q32];first|rfl|(rw[q42];rfl)))|rfl)
 rcases eq_false_or_eq_true (decide ((i:Int)<(L.length:Int))) with q7|q7
 ·skip
  have p7:=of_decide_eq_true q7;rcases eq_false_or_eq_true (decide (ji (xAt L i)<0)) with q16|q16
  ·skip
   have p16:=of_decide_eq_true q16;have e0:=congrArg Value.bool (okv_no (i:=i) (by omega) (bad_1 q16));refine jk (rvb0 l0 L i) (hR _ rfl) hA
  ·skip
   have p16:=of_decide_eq_false q16;rcases eq_false_or_eq_true (decide (ji (yAt L i)<0)) with q24|q24
   ·skip
    have p24:=of_decide_eq_true q24;have e0:=congrArg Value.bool (okv_no (i:=i) (by omega) (bad_2 q24));refine jk (rvb1 l0 L i) (hR _ rfl) hA
   ·skip
    have p24:=of_decide_eq_false q24;refine kp (rvb2 l0 L i) (hR _ rfl) hA (fun aT wT hT=>?_);exact uz (by kernel_rfl) ⟨i+1,⟨by omega,fun k hk=>by rcases Nat.lt_succ_iff_lt_or_eq.1 hk with h|rfl;exact hi.2 k h;exact bad_0 q16 q24⟩,hT,by omega⟩
 ·skip
  have p7:=of_decide_eq_false q7;refine kp (rvb3 l0 L i) (hR _ rfl) hA (fun aT wT hT=>?_);refine kT _ (by kernel_rfl) ?_;exact rest _ _ hT (Bool.eq_false_iff.2 fun h=>by rw[che fun k hk=>hi.2 k (by omega)] at h;cases h)
end Pe
end Go.Proofs.YtobfdjojhfpakaaGreatDoor
