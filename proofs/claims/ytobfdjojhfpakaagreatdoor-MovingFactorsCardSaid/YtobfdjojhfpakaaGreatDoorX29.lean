/- Part 29. -/
import Derived.Test.YtobfdjojhfpakaaGreatDoorX27
set_option linter.all false
open Bool (and_eq_true eq_false_or_eq_true)
open Nat (eq_zero_or_pos le_refl lt_or_ge not_lt_zero zero_le)
open Option (getD_some)
noncomputable section

namespace Go.Proofs.YtobfdjojhfpakaaGreatDoor
open Go Go.RowKit Go.Proofs Lim
namespace Pe
noncomputable def kisFrom88_:List Kp:=[.code (codeOf Tryz.f88)]
noncomputable def kisNegative57_:List Kp:=[.code (codeOf Tryz.f57)]
def Yg:Con
 |[.agg [.cls (.q r _)]]=>some (vr (.bool (decide (jE r<0))),[])
 |_=>none
def caB:Con
 |[.one (.lit (.int .i64 a)),.one (.lit (.int .i64 n)),.one (.lit (.int .i64 b))]=>some (vr (.bool (decide (a<=n)&&decide (n<=b))),[])
 |_=>none
noncomputable abbrev isfR (w:World) (a n b:Int) (o:List (Nat×Nat×Bool)):=runR w ⟨o,[],[]⟩ 88 15 Tryz.f88 kisFrom88_ (stA [pI a,pI n,pI b]) (rB (decide (a<=n)&&decide (n<=b)))
theorem isf0 {w:World}(a n b:Int):isfR w a n b [(88,9,true),(88,13,true)]=some (.ret,[decide (a<=n)=true,decide (n<=b)=true,Value.bool (decide (a<=n)&&decide (n<=b))=Value.bool true]):=by kernel_rfl
theorem isf1 {w:World}(a n b:Int):isfR w a n b [(88,9,true),(88,13,false)]=some (.ret,[decide (a<=n)=true,decide (n<=b)=false,Value.bool (decide (a<=n)&&decide (n<=b))=Value.bool false]):=by kernel_rfl
theorem isf2 {w:World}(a n b:Int):isfR w a n b [(88,9,false)]=some (.ret,[decide (a<=n)=false,Value.bool (decide (a<=n)&&decide (n<=b))=Value.bool false]):=by kernel_rfl
theorem cgS (hN:jr) (a n b:Int):zy 88 [pI a,pI n,pI b] (fun _=>rB (decide (a<=n)&&decide (n<=b))):=by
 intro w vs hG hp;refine yC hG hN (ex:=[]) kA (fn:=Tryz.f88) Tryz.func88 (c:=codeOf Tryz.f88) (by kernel_rfl) (args:=[pI a,pI n,pI b]) (by kernel_rfl) hp (fun hR _ hA=>?_);rcases eq_false_or_eq_true (decide (a<=n)) with q9|q9
 ·skip
  have p9:=of_decide_eq_true q9;rcases eq_false_or_eq_true (decide (n<=b)) with q13|q13
  ·skip
   have p13:=of_decide_eq_true q13;refine jp (isf0 a n b) (hR _ rfl) hA (by (repeat' (first|exact trivial|apply And.intro))<;>first|exact cE.refl _ _|exact fun _ _=>jw.refl _ _|exact cR rfl|exact cQ _ _|exact cP _ _|(with_reducible assumption)|omega|with_reducible rfl|(simp only[cF];omega)|(intro j hj;exact absurd hj (not_lt_zero _))|exact congrArg Value.bool (by rw[q9];first|rfl|(rw[q13];rfl))|rfl)
  ·skip
   have p13:=of_decide_eq_false q13;refine jp (isf1 a n b) (hR _ rfl) hA (by (repeat' (first|exact trivial|apply And.intro))<;>first|exact cE.refl _ _|exact fun _ _=>jw.refl _ _|exact cR rfl|exact cQ _ _|exact cP _ _|(with_reducible assumption)|omega|with_reducible rfl|(simp only[cF];omega)|(intro j hj;exact absurd hj (not_lt_zero _))|exact congrArg Value.bool (by rw[q9];first|rfl|(rw[q13];rfl))|rfl)
 ·skip
  have p9:=of_decide_eq_false q9;refine jp (isf2 a n b) (hR _ rfl) hA (by (repeat' (first|exact trivial|apply And.intro))<;>first|exact cE.refl _ _|exact fun _ _=>jw.refl _ _|exact cR rfl|exact cQ _ _|exact cP _ _|(with_reducible assumption)|omega|with_reducible rfl|(simp only[cF];omega)|(intro j hj;exact absurd hj (not_lt_zero _))|exact congrArg Value.bool (by rw[q9];first|rfl|(rw[q13];rfl))|rfl)
noncomputable abbrev negR (w:World) (r:Rat) (k:Nat) (o:List (Nat×Nat×Bool)):=runR w ⟨o,[],[]⟩ 57 6 Tryz.f57 kisNegative57_ (stA [pQ r k]) (rB (decide (jE r<0)))
theorem neg0 {w:World}(r:Rat) (k:Nat):negR w r k [(57,5,true)]=some (.ret,[decide (jE r<0)=true,Value.bool (decide (jE r<0))=Value.bool true]):=by kernel_rfl
theorem neg1 {w:World}(r:Rat) (k:Nat):negR w r k [(57,5,false)]=some (.ret,[decide (jE r<0)=false,Value.bool (decide (jE r<0))=Value.bool false]):=by kernel_rfl
theorem cdX (hN:jr) (r:Rat) (k:Nat):zy 57 [pQ r k] (fun _=>rB (decide (jE r<0))):=by
 intro w vs hG hp;refine yC hG hN (ex:=[]) kA (fn:=Tryz.f57) Tryz.func57 (c:=codeOf Tryz.f57) (by kernel_rfl) (args:=[pQ r k]) (by kernel_rfl) hp (fun hR _ hA=>?_);rcases eq_false_or_eq_true (decide (jE r<0)) with q5|q5
 ·skip
  have p5:=of_decide_eq_true q5
  first|have e0:=congrArg Value.bool q5|skip
  refine jp (neg0 r k) (hR _ rfl) hA
 ·skip
  have p5:=of_decide_eq_false q5
  first|have e0:=congrArg Value.bool q5|skip
  refine jp (neg1 r k) (hR _ rfl) hA
theorem cfZ {lo:Nat}{w0:World}(hN:jr) (hG:Gr w0) (hlo:lo<=w0.heap.size):∀ l r ob,Yg l=some (r,ob)->jk ob->jF (Cx true lo w0) (.call 57) l r:=by
 intro l r ob h ho;unfold Yg at h;split at h
 ·injection h with h;injection h with h1 h2;subst h1;subst h2
  exact(cdX hN _ _).val hG hlo (enters_of Tryz.func57 (by kernel_rfl) rfl)
 ·cases h
theorem exNeg {lo:Nat}{w0:World}(hN:jr) (hG:Gr w0) (hlo:lo<=w0.heap.size):EN true lo w0 [(57,Yg)]:=ji (cfZ hN hG hlo) kA
theorem cdx {lo:Nat}{w0:World}(hN:jr) (hG:Gr w0) (hlo:lo<=w0.heap.size):∀ l r ob,caB l=some (r,ob)->jk ob->jF (Cx true lo w0) (.call 88) l r:=by
 intro l r ob h ho;unfold caB at h;split at h
 ·injection h with h;injection h with h1 h2;subst h1;subst h2
  exact(cgS hN _ _ _).val hG hlo (enters_of Tryz.func88 (by kernel_rfl) rfl)
 ·cases h
end Pe
namespace Pe
abbrev up (L:List R2) (i:Nat):Bool:=decide (jU (L.getD i default).1 (L.getD (i+1) default).1<0)
def asc (L:List R2):Bool:=(List.range (L.length-1)).all (up L)
end Pe
namespace Pe
abbrev szI (a n b:Int):Bool:=decide (a<=n)&&decide (n<=b)
abbrev lev (L:List R2) (i:Nat):Bool:=decide (jE (L.getD i default).2=0)
section
variable {a b c d:Bool}
theorem a4_t (h:a=true) (i:b=true) (j:c=true) (k:d=true):(a&&b&&c&&d)=true:=by rw[h,i,j,k];rfl
theorem a4_1 (h:a=false):(a&&b&&c&&d)=false:=by rw[h];rfl
theorem a4_2 (h:b=false):(a&&b&&c&&d)=false:=by rw[h,Bool.and_false];rfl
theorem a4_3 (h:c=false):(a&&b&&c&&d)=false:=by rw[h,Bool.and_false];rfl
theorem a4_4 (h:d=false):(a&&b&&c&&d)=false:=by rw[h,Bool.and_false]
end
def okL (L:List R2):Bool:=szI 2 L.length 60&&lev L 0&&lev L (L.length-1)&&asc L
abbrev er (b:Bool):Int:=match b with
 |true=>0
 |false=>2
theorem ccI {a b:Bool}(h:a=b):Value.int .i64 (er a)=Value.int .i64 (er b):=by rw[h]
abbrev bad (L:List R2) (i:Nat):Bool:=decide (jE (L.getD i default).1<0)||decide (jE (L.getD i default).2<0)
abbrev vrI (i:Int):cT Dx:=vr (.int .i64 i)
end Pe
namespace Pe
noncomputable def kcheckImpacts1103_:List Kp:=[.code (codeOf Tryz.f103)]
noncomputable def kcheckImpacts2104_:List Kp:=[.code (codeOf Tryz.f104)]
noncomputable def kFactors148_:List Kp:=[.code (codeOf Tryz.f48)]
noncomputable def kImpact108_:List Kp:=[.code (codeOf Tryz.f108)]
noncomputable def kImpact108_n:List Kp:=next kImpact108_
noncomputable def kImpact108_nl:List Kp:=[.code (ub kImpact108_n)]
noncomputable def kImpact105_:List Kp:=[.code (codeOf Tryz.f105)]
noncomputable def kImpact106_:List Kp:=[.code (codeOf Tryz.f106)]
noncomputable def kImpact106_n:List Kp:=next kImpact106_
noncomputable def kImpact106_nl:List Kp:=[.code (ub kImpact106_n)]
noncomputable def kcheckImpacts45_:List Kp:=[.code (codeOf Tryz.f45)]
noncomputable def kat47_:List Kp:=[.code (codeOf Tryz.f47)]
noncomputable def kImpact50_:List Kp:=[.code (codeOf Tryz.f50)]
noncomputable def kImpact50_n:List Kp:=next kImpact50_
noncomputable def kImpact50_nl:List Kp:=[.code (ub kImpact50_n)]
noncomputable def kImpact51_:List Kp:=[.code (codeOf Tryz.f51)]
noncomputable def kImpact51_n:List Kp:=next kImpact51_
noncomputable def kImpact51_nl:List Kp:=[.code (ub kImpact51_n)]
noncomputable def kImpact108_nt:List Kp:=kImpact108_n.tail
noncomputable def kImpact106_nt:List Kp:=kImpact106_n.tail
noncomputable def kImpact50_nt:List Kp:=kImpact50_n.tail
noncomputable def kImpact51_nt:List Kp:=kImpact51_n.tail
abbrev T2:=Int×Rat
abbrev fI (x:T2):List (Grp Dx):=[.lit (ii x.1),.cls (.q x.2 4)]
abbrev pT (lo:Nat) (L:List T2):Pat Dx:=.one (.cls (.ls (lst lo 35 5 L fI)))
abbrev pTf (lo n:Nat) (f:Nat->T2):Pat Dx:=.one (.cls (.ls ⟨lo,35,5,n,fun j=>fI (f j)⟩))
abbrev pE (x:Int) (r:Rat) (j:Nat):Pat Dx:=.agg [.lit (ii x),.cls (.q r j)]
abbrev frm (L:List T2) (i:Nat):Int:=(L.getD i default).1
abbrev fac (L:List T2) (i:Nat):Rat:=(L.getD i default).2
def ixP (n:Nat) (p:Nat->Bool):Int:=match (List.range n).find? p with
 |some i=>(i:Int)
 |none=>-1
def anyP (n:Nat) (p:Nat->Bool):Bool:=(List.range n).any p
section
variable {n:Nat}{p:Nat->Bool}
theorem cbV {i:Nat}(hi:i<n) (h:p i=true) (hb:∀ k,k<i->p k=false):ixP n p=(i:Int):=by
 have:(List.range n).find? p=some i:=by
  rw[List.find?_range_eq_some];exact⟨h,List.mem_range.2 hi,fun j hj=>by simp [hb j hj]⟩
 unfold ixP;rw[this]
theorem cbW (h:∀ i,i<n->p i=false):ixP n p=-1:=by
 have:(List.range n).find? p=none:=by
  rw[List.find?_eq_none];intro i hi;rw[h i (List.mem_range.1 hi)];exact Bool.false_ne_true
 unfold ixP;rw[this]
theorem ixP_ge:decide (ixP n p>=0)=anyP n p:=by
 unfold ixP anyP;split
 ·rename_i i h;have h1:=List.find?_some h;have h2:=List.mem_of_find?_eq_some h;rw[List.any_eq_true.2 ⟨i,h2,h1⟩];exact decide_eq_true (by omega)
 ·rename_i h;rw[List.find?_eq_none] at h;rw[List.any_eq_false.2 h];rfl
theorem cgA {i:Nat}(hi:i<n) (h:p i=true):anyP n p=true:=List.any_eq_true.2 ⟨i,List.mem_range.2 hi,h⟩
theorem cdc (h:∀ i,i<n->p i=false):anyP n p=false:=List.any_eq_false.2 fun i hi=>by rw[h i (List.mem_range.1 hi)];exact Bool.false_ne_true
end
abbrev bdI (L:List T2) (i:Nat):Bool:=decide (frm L i>300)||decide (jE (fac L i)<0)
abbrev upI (L:List T2) (i:Nat):Bool:=decide (frm L i<frm L (i+1))
def Jv (L:List T2):Bool:=(List.range (L.length-1)).all (upI L)
def okI (L:List T2):Bool:=szI 1 L.length 40&&decide (frm L 0=0)&&!anyP L.length (bdI L)&&Jv L
def conWI:Con
 |[.agg [.lit (.int .i64 x),.cls (.q r _)]]=>some (vr (.bool (decide (x>300)||decide (jE r<0))),[])
 |_=>none
def conAI:Con
 |[.agg [.lit (.int .i64 x),.cls (.q _ _)],.agg [.lit (.int .i64 y),.cls (.q _ _)]]=>some (vr (.bool (decide (x<y))),[])
 |_=>none
def conBF:Con
 |[.agg [.lit (.int .i64 _),.cls (.q r j)],.agg [.lit (.int .i64 _),.cls (.q s k)]]=>some (vr (.int .i64 (jU r s)),[j+k<=10000])
 |_=>none
noncomputable abbrev wriR (w:World) (x:Int) (r:Rat) (k:Nat) (o:List (Nat×Nat×Bool)):=runR w ⟨o,[],[(57,Yg)]⟩ 103 11 Tryz.f103 kcheckImpacts1103_ (stA [pE x r k]) (rB (decide (x>300)||decide (jE r<0)))
theorem wri0 {w:World}(x:Int) (r:Rat) (k:Nat):wriR w x r k [(103,5,true)]=some (.ret,[decide (x>300)=true,Value.bool (decide (x>300)||decide (jE r<0))=Value.bool true]):=by kernel_rfl
theorem wri1 {w:World}(x:Int) (r:Rat) (k:Nat):wriR w x r k [(103,5,false),(103,9,true)]=some (.ret,[decide (x>300)=false,decide (jE r<0)=true,Value.bool (decide (x>300)||decide (jE r<0))=Value.bool true]):=by kernel_rfl
theorem wri2 {w:World}(x:Int) (r:Rat) (k:Nat):wriR w x r k [(103,5,false),(103,9,false)]=some (.ret,[decide (x>300)=false,decide (jE r<0)=false,Value.bool (decide (x>300)||decide (jE r<0))=Value.bool false]):=by kernel_rfl
theorem cfM (hN:jr) (x:Int) (r:Rat) (k:Nat):zy 103 [pE x r k] (fun _=>rB (decide (x>300)||decide (jE r<0))):=by
 intro w vs hG hp;refine yC hG hN (ex:=[(57,Yg)]) (exNeg hN hG (le_refl _)) (fn:=Tryz.f103) Tryz.func103 (c:=codeOf Tryz.f103) (by kernel_rfl) (args:=[pE x r k]) (by kernel_rfl) hp (fun hR _ hA=>?_);rcases eq_false_or_eq_true (decide (x>300)) with q5|q5
 ·skip
  have p5:=of_decide_eq_true q5;refine jp (wri0 x r k) (hR _ rfl) hA (by (repeat' (first|exact trivial|apply And.intro))<;>first|exact cE.refl _ _|exact fun _ _=>jw.refl _ _|exact cR rfl|exact cQ _ _|exact cP _ _|(with_reducible assumption)|omega|with_reducible rfl|(simp only[cF];omega)|(intro j hj;exact absurd hj (not_lt_zero _))|exact congrArg Value.bool (by rw[q5];first|rfl|(rw[q9];rfl))|rfl)
 ·skip
  have p5:=of_decide_eq_false q5;rcases eq_false_or_eq_true (decide (jE r<0)) with q9|q9
  ·skip
   have p9:=of_decide_eq_true q9;refine jp (wri1 x r k) (hR _ rfl) hA (by (repeat' (first|exact trivial|apply And.intro))<;>first|exact cE.refl _ _|exact fun _ _=>jw.refl _ _|exact cR rfl|exact cQ _ _|exact cP _ _|(with_reducible assumption)|omega|with_reducible rfl|(simp only[cF];omega)|(intro j hj;exact absurd hj (not_lt_zero _))|exact congrArg Value.bool (by rw[q5];first|rfl|(rw[q9];rfl))|rfl)
  ·skip
   have p9:=of_decide_eq_false q9;refine jp (wri2 x r k) (hR _ rfl) hA (by (repeat' (first|exact trivial|apply And.intro))<;>first|exact cE.refl _ _|exact fun _ _=>jw.refl _ _|exact cR rfl|exact cQ _ _|exact cP _ _|(with_reducible assumption)|omega|with_reducible rfl|(simp only[cF];omega)|(intro j hj;exact absurd hj (not_lt_zero _))|exact congrArg Value.bool (by rw[q5];first|rfl|(rw[q9];rfl))|rfl)
noncomputable abbrev asiR (w:World) (x y:Int) (r s:Rat) (j k:Nat) (o:List (Nat×Nat×Bool)):=runR w ⟨o,[],[]⟩ 104 10 Tryz.f104 kcheckImpacts2104_ (stA [pE x r j,pE y s k]) (rB (decide (x<y)))
theorem asi0 {w:World}(x y:Int) (r s:Rat) (j k:Nat):asiR w x y r s j k [(104,9,true)]=some (.ret,[decide (x<y)=true,Value.bool (decide (x<y))=Value.bool true]):=by kernel_rfl
theorem asi1 {w:World}(x y:Int) (r s:Rat) (j k:Nat):asiR w x y r s j k [(104,9,false)]=some (.ret,[decide (x<y)=false,Value.bool (decide (x<y))=Value.bool false]):=by kernel_rfl
theorem ascI_ok (hN:jr) (x y:Int) (r s:Rat) (j k:Nat):zy 104 [pE x r j,pE y s k] (fun _=>rB (decide (x<y))):=by
 intro w vs hG hp;refine yC hG hN (ex:=[]) kA (fn:=Tryz.f104) Tryz.func104 (c:=codeOf Tryz.f104) (by kernel_rfl) (args:=[pE x r j,pE y s k]) (by kernel_rfl) hp (fun hR _ hA=>?_);rcases eq_false_or_eq_true (decide (x<y)) with q9|q9
 ·skip
  have p9:=of_decide_eq_true q9
  first|have e0:=congrArg Value.bool q9|skip
  refine jp (asi0 x y r s j k) (hR _ rfl) hA
 ·skip
  have p9:=of_decide_eq_false q9
  first|have e0:=congrArg Value.bool q9|skip
  refine jp (asi1 x y r s j k) (hR _ rfl) hA
noncomputable abbrev byfR (w:World) (x y:Int) (r s:Rat) (j k:Nat)  (o:List (Nat×Nat×Bool)):=runR w ⟨o,[],[]⟩ 48 10 Tryz.f48 kFactors148_ (stA [pE x r j,pE y s k]) (rI (jU r s))
theorem byf0 {w:World}(x y:Int) (r s:Rat) (j k:Nat):byfR w x y r s j k []=some (.ret,[j+k<=1000000,Value.int IntKind.i64 (jU r s)=Value.int IntKind.i64 (jU r s)]):=by kernel_rfl
theorem byF_ok (hN:jr) (x y:Int) (r s:Rat) (j k:Nat) (hj:j+k<=10000):zy 48 [pE x r j,pE y s k] (fun _=>rI (jU r s)):=by
 intro w vs hG hp;refine yC hG hN (ex:=[]) kA (fn:=Tryz.f48) Tryz.func48 (c:=codeOf Tryz.f48) (by kernel_rfl) (args:=[pE x r j,pE y s k]) (by kernel_rfl) hp (fun hR _ hA=>?_);refine jp (byf0 x y r s j k) (hR _ rfl) hA
theorem cii {lo:Nat}{w0:World}(hN:jr) (hG:Gr w0) (hlo:lo<=w0.heap.size):∀ l r ob,conWI l=some (r,ob)->jk ob->jF (Cx true lo w0) (.call 103) l r:=by
 intro l r ob h ho;unfold conWI at h;split at h
 ·injection h with h;injection h with h1 h2;subst h1;subst h2
  exact(cfM hN _ _ _).val hG hlo (enters_of Tryz.func103 (by kernel_rfl) rfl)
 ·cases h
theorem cig {lo:Nat}{w0:World}(hN:jr) (hG:Gr w0) (hlo:lo<=w0.heap.size):∀ l r ob,conAI l=some (r,ob)->jk ob->jF (Cx true lo w0) (.call 104) l r:=by
 intro l r ob h ho;unfold conAI at h;split at h
 ·injection h with h;injection h with h1 h2;subst h1;subst h2
  exact(ascI_ok hN _ _ _ _ _ _).val hG hlo (enters_of Tryz.func104 (by kernel_rfl) rfl)
 ·cases h
theorem chw {lo:Nat}{w0:World}(hN:jr) (hG:Gr w0) (hlo:lo<=w0.heap.size):∀ l r ob,conBF l=some (r,ob)->jk ob->jF (Cx true lo w0) (.call 48) l r:=by
 intro l r ob h ho;unfold conBF at h;split at h
 ·injection h with h;injection h with h1 h2;subst h1;subst h2
  exact(byF_ok hN _ _ _ _ _ _ ho.1).val hG hlo (enters_of Tryz.func48 (by kernel_rfl) rfl)
 ·cases h
def exI:List (Nat×Con):=[(88,caB),(103,conWI),(104,conAI),(48,conBF)]
theorem YC {lo:Nat}{w0:World}(hN:jr) (hG:Gr w0) (hlo:lo<=w0.heap.size):EN true lo w0 exI:=ji (cdx hN hG hlo) (ji (cii hN hG hlo) (ji (cig hN hG hlo) (ji (chw hN hG hlo) kA)))
abbrev iwI (lo:Nat) (L:List T2) (i:Nat):St Dx:=⟨1,[(0,.val (.one (.sym 0 0))),(1,.val (.one (.lit (.func (.func 103) #[] #[])))),(7,.val (.one (.lit (ii (L.length:Int))))),(8,.val (.one (.lit (ii (i:Int)))))],[(0,.cls (.ls (lst lo 35 5 L fI)))],[]⟩
theorem iwa {w:World}(lo:Nat) (L:List T2):run w ⟨[],[],exI⟩ 108 19 kImpact108_ (stA [pT lo L,pF 103]) (iwI lo L 0)=some (.normal,[cE (W0 w) (.ls (lst lo 35 5 L fI)) (.ls (lst lo 35 5 L fI)),Value.func (Fn.func 103) #[] #[]=Value.func (Fn.func 103) #[] #[],ii (L.length:Int)=goInt (L.length:Int),ii (↑0:Int)=Value.int IntKind.i64 0]):=by kernel_rfl
theorem iwe {w:World}(lo:Nat) (L:List T2) (i:Nat):runR w ⟨[],[],exI⟩ 108 19 Tryz.f108 kImpact108_nt (iwI lo L i) (rI (ixP L.length (bdI L)))=some (.ret,[Value.int IntKind.i64 (ixP L.length (bdI L))=Value.int IntKind.i64 (-1)]):=by kernel_rfl
noncomputable abbrev iwbTe0 (w:World) (l0:Nat) (L:List T2) (i:Nat) (o:List (Nat×Nat×Bool)):=run w ⟨o,[],exI⟩ 108 19 kImpact108_nl (iwI l0 L i) (iwI l0 L i)
noncomputable abbrev iwbTnal (w:World) (l0:Nat) (L:List T2) (i:Nat) (o:List (Nat×Nat×Bool)):=run w ⟨o,[],exI⟩ 108 19 kImpact108_nl (iwI l0 L i) (iwI l0 L (i+1))
noncomputable abbrev iwbR (w:World) (l0:Nat) (L:List T2) (i:Nat) (o:List (Nat×Nat×Bool)):=runR w ⟨o,[],exI⟩ 108 19 Tryz.f108 kImpact108_nl (iwI l0 L i) (rI (ixP L.length (bdI L)))
theorem iwb0 {w:World}(l0:Nat) (L:List T2) (i:Nat):iwbR w l0 L i [(108,9,true),(108,16,true)]=some (.ret,[decide ((i:Int)<(L.length:Int))=true,i<L.length,i<L.length,(decide ((L.getD i default).1>300)||decide (jE (L.getD i default).2<0))=true,Value.int IntKind.i64 (ixP L.length (bdI L))=ii (i:Int)]):=by kernel_rfl
theorem iwb1 {w:World}(l0:Nat) (L:List T2) (i:Nat):iwbTnal w l0 L i [(108,9,true),(108,16,false)]=some (.normal,[decide ((i:Int)<(L.length:Int))=true,i<L.length,i<L.length,(decide ((L.getD i default).1>300)||decide (jE (L.getD i default).2<0))=false,um ((i:Int)+1),cE (W0 w) (.ls (lst l0 35 5 L fI)) (.ls (lst l0 35 5 L fI)),Value.func (Fn.func 103) #[] #[]=Value.func (Fn.func 103) #[] #[],ii (L.length:Int)=ii (L.length:Int),ii (↑(i+1):Int)=Value.int IntKind.i64 ((i:Int)+1)]):=by kernel_rfl
theorem iwb2 {w:World}(l0:Nat) (L:List T2) (i:Nat):iwbTe0 w l0 L i [(108,9,false)]=some (.exit 0,[decide ((i:Int)<(L.length:Int))=false,cE (W0 w) (.ls (lst l0 35 5 L fI)) (.ls (lst l0 35 5 L fI)),Value.func (Fn.func 103) #[] #[]=Value.func (Fn.func 103) #[] #[],ii (L.length:Int)=ii (L.length:Int),ii (i:Int)=ii (i:Int)]):=by kernel_rfl
theorem ixW_ok (hN:jr) (l0:Nat) (L:List T2) (hl:L.length<=1000000):zy 108 [pT l0 L,pF 103] (fun _=>rI (ixP L.length (bdI L))):=by
 intro w vs hG hp;refine yC hG hN (ex:=exI) (YC hN hG (le_refl _)) (fn:=Tryz.f108) Tryz.func108 (c:=codeOf Tryz.f108) (by kernel_rfl) (args:=[pT l0 L,pF 103]) (by kernel_rfl) hp (fun hR _ hA=>?_);refine jV (iwa l0 L) (hR _ rfl) hA (fun a w1 hA=>uT ?_);refine uW (fun i=>iwI l0 L i) (fun i=>i<=L.length/\∀ k,k<i->bdI L k=false) (fun i=>L.length-i) (L:=kImpact108_n) (ks:=kImpact108_nt) (id:=0) (c:=ub kImpact108_n) (by kernel_rfl) 0 ⟨zero_le _,by omega⟩ hA (fun i a2 w2 hi hA=>?_);rcases eq_false_or_eq_true (decide ((i:Int)<(L.length:Int))) with q9|q9
 ·skip
  have p9:=of_decide_eq_true q9;rcases eq_false_or_eq_true (bdI L i) with q16|q16
  ·skip
   have e0:=congrArg (Value.int .i64) (cbV (n:=L.length) (p:=bdI L) (i:=i) (by omega) q16 hi.2);refine jp (iwb0 l0 L i) (hR _ rfl) hA
  ·skip
   refine jV (iwb1 l0 L i) (hR _ rfl) hA (fun aT wT hT=>?_);exact ka (by kernel_rfl) ⟨i+1,⟨by omega,fun k hk=>by rcases Nat.lt_succ_iff_lt_or_eq.1 hk with h|rfl;exact hi.2 k h;exact q16⟩,hT,by omega⟩
 ·skip
  have p9:=of_decide_eq_false q9;refine jV (iwb2 l0 L i) (hR _ rfl) hA (fun aT wT hT=>?_);refine kG _ (by kernel_rfl) ?_;refine ced (hR ⟨[],[],exI⟩ rfl) (.inl rfl) (fun _=>rfl) (fn:=Tryz.f108) (iwe l0 L i) ?_ hT (fun _ _ h=>h);exact⟨congrArg (Value.int .i64) (cbW fun k hk=>hi.2 k (by omega)),trivial⟩
abbrev exJ (l0:Nat) (L:List T2):List (Nat×Con):=[(108,CE [pT l0 L,pF 103] (vr (.int .i64 (ixP L.length (bdI L)))))]
theorem exJ_ok {lo l0:Nat}{w0:World}{L:List T2}(hN:jr) (hG:Gr w0) (hlo:lo<=w0.heap.size) (hl:L.length<=1000000):EN true lo w0 (exJ l0 L):=ji (kp ((ixW_ok hN l0 L hl).val hG hlo (enters_of Tryz.func108 (by kernel_rfl) rfl))) kA
noncomputable abbrev coiR (w:World) (l0:Nat) (L:List T2)  (o:List (Nat×Nat×Bool)):=runR w ⟨o,[],(exJ l0 L)⟩ 105 9 Tryz.f105 kImpact105_ (stA [pT l0 L,pF 103]) (rB (anyP L.length (bdI L)))
theorem coi0 {w:World}(l0:Nat) (L:List T2):coiR w l0 L [(105,8,true)]=some (.ret,[[Pat.one (Grp.cls (Dx.ls (lst l0 35 5 L fI))),Pat.one (Grp.lit (Value.func (Fn.func 103) #[] #[]))]=[pT l0 L,pF 103],decide (ixP L.length (bdI L)>=0)=true,Value.bool (anyP L.length (bdI L))=Value.bool true]):=by kernel_rfl
theorem coi1 {w:World}(l0:Nat) (L:List T2):coiR w l0 L [(105,8,false)]=some (.ret,[[Pat.one (Grp.cls (Dx.ls (lst l0 35 5 L fI))),Pat.one (Grp.lit (Value.func (Fn.func 103) #[] #[]))]=[pT l0 L,pF 103],decide (ixP L.length (bdI L)>=0)=false,Value.bool (anyP L.length (bdI L))=Value.bool false]):=by kernel_rfl
theorem chW (hN:jr) (l0:Nat) (L:List T2) (hl:L.length<=1000000):zy 105 [pT l0 L,pF 103] (fun _=>rB (anyP L.length (bdI L))):=by
 intro w vs hG hp;refine yC hG hN (ex:=(exJ l0 L)) (exJ_ok hN hG (le_refl _) hl) (fn:=Tryz.f105) Tryz.func105 (c:=codeOf Tryz.f105) (by kernel_rfl) (args:=[pT l0 L,pF 103]) (by kernel_rfl) hp (fun hR _ hA=>?_);rcases eq_false_or_eq_true (decide (ixP L.length (bdI L)>=0)) with q8|q8
 ·skip
  have p8:=of_decide_eq_true q8
  first|have e0:=congrArg Value.bool (ixP_ge.symm.trans q8)|skip
  refine jp (coi0 l0 L) (hR _ rfl) hA
 ·skip
  have p8:=of_decide_eq_false q8
  first|have e0:=congrArg Value.bool (ixP_ge.symm.trans q8)|skip
  refine jp (coi1 l0 L) (hR _ rfl) hA
theorem WO {L:List T2}{i:Nat}(hi:i+1<L.length) (h:upI L i=false):Jv L=false:=Bool.eq_false_iff.2 fun ha=>by
 have:=List.all_eq_true.1 ha i (List.mem_range.2 (by omega));rw[h] at this;cases this
theorem Zv {L:List T2}(h:∀ i,i<L.length-1->upI L i=true):Jv L=true:=List.all_eq_true.2 fun i hi=>h i (List.mem_range.1 hi)
abbrev etI (lo:Nat) (L:List T2) (i:Nat):St Dx:=⟨1,[(0,.val (.one (.sym 0 0))),(1,.val (.one (.lit (.func (.func 104) #[] #[])))),(8,.val (.one (.lit (ii ((L.length:Int)-1))))),(9,.val (.one (.lit (ii (i:Int)))))],[(0,.cls (.ls (lst lo 35 5 L fI)))],[]⟩
theorem eta {w:World}(lo:Nat) (L:List T2):run w ⟨[],[],exI⟩ 106 25 kImpact106_ (stA [pT lo L,pF 104]) (etI lo L 0)=some (.normal,[um ((L.length:Int)-1),cE (W0 w) (.ls (lst lo 35 5 L fI)) (.ls (lst lo 35 5 L fI)),Value.func (Fn.func 104) #[] #[]=Value.func (Fn.func 104) #[] #[],ii ((L.length:Int)-1)=Value.int IntKind.i64 ((L.length:Int)-1),ii (↑0:Int)=Value.int IntKind.i64 0]):=by kernel_rfl
theorem ete {w:World}(lo:Nat) (L:List T2) (i:Nat):runR w ⟨[],[],exI⟩ 106 25 Tryz.f106 kImpact106_nt (etI lo L i) (rB (Jv L))=some (.ret,[Value.bool (Jv L)=Value.bool true]):=by kernel_rfl
noncomputable abbrev etbTe0 (w:World) (l0:Nat) (L:List T2) (i:Nat) (o:List (Nat×Nat×Bool)):=run w ⟨o,[],exI⟩ 106 25 kImpact106_nl (etI l0 L i) (etI l0 L i)
noncomputable abbrev etbR (w:World) (l0:Nat) (L:List T2) (i:Nat) (o:List (Nat×Nat×Bool)):=runR w ⟨o,[],exI⟩ 106 25 Tryz.f106 kImpact106_nl (etI l0 L i) (rB (Jv L))
noncomputable abbrev etbTnal (w:World) (l0:Nat) (L:List T2) (i:Nat) (o:List (Nat×Nat×Bool)):=run w ⟨o,[],exI⟩ 106 25 kImpact106_nl (etI l0 L i) (etI l0 L (i+1))
theorem etb0 {w:World}(l0:Nat) (L:List T2) (i:Nat):etbTnal w l0 L i [(106,10,true),(106,22,true)]=some (.normal,[decide ((i:Int)<(L.length:Int)-1)=true,i<L.length,i<L.length,um ((i:Int)+1),i+1<L.length,i+1<L.length,decide ((L.getD i default).1<(L.getD (i+1) default).1)=true,um ((i:Int)+1),cE (W0 w) (.ls (lst l0 35 5 L fI)) (.ls (lst l0 35 5 L fI)),Value.func (Fn.func 104) #[] #[]=Value.func (Fn.func 104) #[] #[],ii ((L.length:Int)-1)=ii ((L.length:Int)-1),ii (↑(i+1):Int)=Value.int IntKind.i64 ((i:Int)+1)]):=by kernel_rfl
theorem etb1 {w:World}(l0:Nat) (L:List T2) (i:Nat):etbR w l0 L i [(106,10,true),(106,22,false)]=some (.ret,[decide ((i:Int)<(L.length:Int)-1)=true,i<L.length,i<L.length,um ((i:Int)+1),i+1<L.length,i+1<L.length,decide ((L.getD i default).1<(L.getD (i+1) default).1)=false,Value.bool (Jv L)=Value.bool false]):=by kernel_rfl
theorem etb2 {w:World}(l0:Nat) (L:List T2) (i:Nat):etbTe0 w l0 L i [(106,10,false)]=some (.exit 0,[decide ((i:Int)<(L.length:Int)-1)=false,cE (W0 w) (.ls (lst l0 35 5 L fI)) (.ls (lst l0 35 5 L fI)),Value.func (Fn.func 104) #[] #[]=Value.func (Fn.func 104) #[] #[],ii ((L.length:Int)-1)=ii ((L.length:Int)-1),ii (i:Int)=ii (i:Int)]):=by kernel_rfl
theorem chM (hN:jr) (l0:Nat) (L:List T2) (hl:L.length<=1000000):zy 106 [pT l0 L,pF 104] (fun _=>rB (Jv L)):=by
 intro w vs hG hp;refine yC hG hN (ex:=exI) (YC hN hG (le_refl _)) (fn:=Tryz.f106) Tryz.func106 (c:=codeOf Tryz.f106) (by kernel_rfl) (args:=[pT l0 L,pF 104]) (by kernel_rfl) hp (fun hR _ hA=>?_);refine jV (eta l0 L) (hR _ rfl) hA (fun a w1 hA=>uT ?_);refine uW (fun i=>etI l0 L i) (fun i=>i<=L.length-1/\∀ k,k<i->upI L k=true) (fun i=>L.length-i) (L:=kImpact106_n) (ks:=kImpact106_nt) (id:=0) (c:=ub kImpact106_n) (by kernel_rfl) 0 ⟨zero_le _,by omega⟩ hA (fun i a2 w2 hi hA=>?_);rcases eq_false_or_eq_true (decide ((i:Int)<(L.length:Int)-1)) with q10|q10
 ·skip
  have p10:=of_decide_eq_true q10;rcases eq_false_or_eq_true (upI L i) with q22|q22
  ·skip
   refine jV (etb0 l0 L i) (hR _ rfl) hA (fun aT wT hT=>?_);exact ka (by kernel_rfl) ⟨i+1,⟨by omega,fun k hk=>by rcases Nat.lt_succ_iff_lt_or_eq.1 hk with h|rfl;exact hi.2 k h;exact q22⟩,hT,by omega⟩
  ·skip
   have e0:=congrArg Value.bool (WO (by omega) q22);refine jp (etb1 l0 L i) (hR _ rfl) hA
 ·skip
  have p10:=of_decide_eq_false q10;refine jV (etb2 l0 L i) (hR _ rfl) hA (fun aT wT hT=>?_);refine kG _ (by kernel_rfl) ?_;refine ced (hR ⟨[],[],exI⟩ rfl) (.inl rfl) (fun _=>rfl) (fn:=Tryz.f106) (ete l0 L i) ?_ hT (fun _ _ h=>h);exact⟨congrArg Value.bool (Zv fun k hk=>hi.2 k (by omega)),trivial⟩
abbrev exC (l0:Nat) (L:List T2):List (Nat×Con):=(105,CE [pT l0 L,pF 103] (vr (.bool (anyP L.length (bdI L)))))::(106,CE [pT l0 L,pF 104] (vr (.bool (Jv L))))::exI
theorem exC_ok {lo l0:Nat}{w0:World}{L:List T2}(hN:jr) (hG:Gr w0) (hlo:lo<=w0.heap.size) (hl:L.length<=1000000):EN true lo w0 (exC l0 L) :=
 ji (kp ((chW hN l0 L hl).val hG hlo (enters_of Tryz.func105 (by kernel_rfl) rfl))) (ji (kp ((chM hN l0 L hl).val hG hlo (enters_of Tryz.func106 (by kernel_rfl) rfl))) (YC hN hG hlo))
noncomputable abbrev chiR (w:World) (l0:Nat) (L:List T2)  (o:List (Nat×Nat×Bool)):=runR w ⟨o,[],(exC l0 L)⟩ 45 27 Tryz.f45 kcheckImpacts45_ (stA [pT l0 L]) (rI (er (okI L)))
theorem chi0 {w:World}(l0:Nat) (L:List T2):chiR w l0 L [(45,7,true),(45,14,true)]=some (.ret,[(decide (1<=(L.length:Int))&&decide ((L.length:Int)<=40))=true,0<L.length,0<L.length,decide ((L.getD 0 default).1≠0)=true,Value.int IntKind.i64 (er (okI L))=Value.int IntKind.i64 2]):=by kernel_rfl
theorem chi1 {w:World}(l0:Nat) (L:List T2):chiR w l0 L [(45,7,true),(45,14,false),(45,19,true)]=some (.ret,[(decide (1<=(L.length:Int))&&decide ((L.length:Int)<=40))=true,0<L.length,0<L.length,decide ((L.getD 0 default).1≠0)=false,anyP L.length (bdI L)=true,[Pat.one (Grp.cls (Dx.ls (lst l0 35 5 L fI))),Pat.one (Grp.lit (Value.func (Fn.func 103) #[] #[]))]=[pT l0 L,pF 103],Value.int IntKind.i64 (er (okI L))=Value.int IntKind.i64 2]):=by kernel_rfl
theorem chi2 {w:World}(l0:Nat) (L:List T2):chiR w l0 L [(45,7,true),(45,14,false),(45,19,false),(45,24,true)]=some (.ret,[(decide (1<=(L.length:Int))&&decide ((L.length:Int)<=40))=true,0<L.length,0<L.length,decide ((L.getD 0 default).1≠0)=false,anyP L.length (bdI L)=false,[Pat.one (Grp.cls (Dx.ls (lst l0 35 5 L fI))),Pat.one (Grp.lit (Value.func (Fn.func 103) #[] #[]))]=[pT l0 L,pF 103],Jv L=true,[Pat.one (Grp.cls (Dx.ls (lst l0 35 5 L fI))),Pat.one (Grp.lit (Value.func (Fn.func 104) #[] #[]))]=[pT l0 L,pF 104],Value.int IntKind.i64 (er (okI L))=Value.int IntKind.i64 0]):=by kernel_rfl
theorem chi3 {w:World}(l0:Nat) (L:List T2):chiR w l0 L [(45,7,true),(45,14,false),(45,19,false),(45,24,false)]=some (.ret,[(decide (1<=(L.length:Int))&&decide ((L.length:Int)<=40))=true,0<L.length,0<L.length,decide ((L.getD 0 default).1≠0)=false,anyP L.length (bdI L)=false,[Pat.one (Grp.cls (Dx.ls (lst l0 35 5 L fI))),Pat.one (Grp.lit (Value.func (Fn.func 103) #[] #[]))]=[pT l0 L,pF 103],Jv L=false,[Pat.one (Grp.cls (Dx.ls (lst l0 35 5 L fI))),Pat.one (Grp.lit (Value.func (Fn.func 104) #[] #[]))]=[pT l0 L,pF 104],Value.int IntKind.i64 (er (okI L))=Value.int IntKind.i64 2]):=by kernel_rfl
theorem chi4 {w:World}(l0:Nat) (L:List T2):chiR w l0 L [(45,7,false)]=some (.ret,[(decide (1<=(L.length:Int))&&decide ((L.length:Int)<=40))=false,Value.int IntKind.i64 (er (okI L))=Value.int IntKind.i64 2]):=by kernel_rfl
theorem cgE (hN:jr) (l0:Nat) (L:List T2) (hl:L.length<=1000000):zy 45 [pT l0 L] (fun _=>rI (er (okI L))):=by
 intro w vs hG hp;refine yC hG hN (ex:=(exC l0 L)) (exC_ok hN hG (le_refl _) hl) (fn:=Tryz.f45) Tryz.func45 (c:=codeOf Tryz.f45) (by kernel_rfl) (args:=[pT l0 L]) (by kernel_rfl) hp (fun hR _ hA=>?_);rcases eq_false_or_eq_true (szI 1 L.length 40) with q7|q7
 ·skip
  have b7:1<=L.length/\L.length<=40:=by simp only[szI,and_eq_true,decide_eq_true_eq] at q7;omega
  rcases eq_false_or_eq_true (decide (frm L 0≠0)) with q14|q14
  ·skip
   have p14:=of_decide_eq_true q14;have e0:=ccI (a:=okI L) (b:=false) (a4_2 (decide_eq_false p14));refine jp (chi0 l0 L) (hR _ rfl) hA
  ·skip
   have p14:=of_decide_eq_false q14;rcases eq_false_or_eq_true (anyP L.length (bdI L)) with q19|q19
   ·skip
    have e0:=ccI (a:=okI L) (b:=false) (a4_3 (by rw[q19];rfl));refine jp (chi1 l0 L) (hR _ rfl) hA
   ·skip
    rcases eq_false_or_eq_true (Jv L) with q24|q24
    ·skip
     have e0:=ccI (a:=okI L) (b:=true) (a4_t q7 (decide_eq_true (Decidable.not_not.1 p14)) (by rw[q19];rfl) q24);refine jp (chi2 l0 L) (hR _ rfl) hA
    ·skip
     have e0:=ccI (a:=okI L) (b:=false) (a4_4 q24);refine jp (chi3 l0 L) (hR _ rfl) hA
 ·skip
  have e0:=ccI (a:=okI L) (b:=false) (a4_1 q7);refine jp (chi4 l0 L) (hR _ rfl) hA
abbrev lat (L:List T2) (v:Int) (i:Nat):Bool:=decide (frm L i>v)
def atN (L:List T2) (v:Int):Nat:=match (List.range L.length).find? (lat L v) with
 |some i=>i-1
 |none=>L.length-1
theorem at_some {L:List T2}{v:Int}(h0:frm L 0<=v) (h:ixP L.length (lat L v)>=0):Value.int .i64 (atN L v:Nat)=Value.int .i64 (ixP L.length (lat L v)-1):=by
 unfold ixP at h ⊢;unfold atN;split at h
 ·rename_i i hi;have h1:lat L v i=true:=List.find?_some hi;have h2:i≠0:=by
   rintro rfl;have:=of_decide_eq_true h1;omega
  refine congrArg _ ?_;show ((i-1:Nat):Int)=(i:Int)-1;omega
 ·omega
theorem at_none {L:List T2}{v:Int}(h1:1<=L.length) (h:¬ ixP L.length (lat L v)>=0):Value.int .i64 (atN L v:Nat)=Value.int .i64 ((L.length:Int)-1):=by
 unfold ixP at h;unfold atN;split at h
 ·omega
 ·rename_i hi;refine congrArg _ ?_;show ((L.length-1:Nat):Int)=(L.length:Int)-1;omega
theorem ixP_le {n:Nat}{p:Nat->Bool}:ixP n p<=n/\-1<=ixP n p:=by
 unfold ixP;split
 ·rename_i i h;have:=List.mem_range.1 (List.mem_of_find?_eq_some h);omega
 ·omega
abbrev pCap (v:Int):Pat Dx:=.cap 107 3 1 [.lit (ii v)]
abbrev ilI (lo:Nat) (L:List T2) (v:Int) (i:Nat):St Dx:=⟨4,[(0,.val (.one (.sym 0 0))),(1,.val (.one (.fn 3))),(7,.val (.one (.lit (ii (L.length:Int))))),(8,.val (.one (.lit (ii (i:Int)))))],[(3,.clo 107 [] [.one (.fn 2)]),(2,.cp 1 0 1 0),(1,.cls (.ls ⟨0,3,1,1,fun _=>[.lit (ii v)]⟩)),(0,.cls (.ls (lst lo 35 5 L fI)))],[]⟩
abbrev ilS (lo:Nat) (L:List T2) (v:Int):St Dx:=⟨4,[(0,.val (.one (.sym 0 0))),(1,.val (.one (.fn 3)))],[(3,.clo 107 [] [.one (.fn 2)]),(2,.cp 1 0 1 0),(1,.cls (.ls ⟨0,3,1,1,fun _=>[.lit (ii v)]⟩)),(0,.cls (.ls (lst lo 35 5 L fI)))],[]⟩
theorem ila {w:World}(lo:Nat) (L:List T2) (v:Int):run w ⟨[],[],[]⟩ 108 19 kImpact108_ (ilS lo L v) (ilI lo L v 0)=some (.normal,[0=0,0=0,cE (W0 w) (.ls { lo:=0,ty:=3,z:=1,n:=1,g:=fun(x:Nat)=>[.lit (ii v)] }) (.ls { lo:=0,ty:=3,z:=1,n:=1,g:=fun(x:Nat)=>[.lit (ii v)] }),cE (W0 w) (.ls (lst lo 35 5 L fI)) (.ls (lst lo 35 5 L fI)),ii (L.length:Int)=goInt (L.length:Int),ii (↑0:Int)=Value.int IntKind.i64 0]):=by kernel_rfl
theorem ilb {w:World}(lo:Nat) (L:List T2) (v:Int) (i:Nat):run w ⟨[(108,9,true),(107,7,false)],[],[]⟩ 108 19 kImpact108_nl (ilI lo L v i) (ilI lo L v (i+1))=some (.normal,[decide ((i:Int)<(L.length:Int))=true,i<L.length,i<L.length,0<1,decide ((L.getD i default).1>v)=false,um ((i:Int)+1),0=0,0=0,cE (W0 w) (.ls { lo:=0,ty:=3,z:=1,n:=1,g:=fun(x:Nat)=>[.lit (ii v)] }) (.ls { lo:=0,ty:=3,z:=1,n:=1,g:=fun(x:Nat)=>[.lit (ii v)] }),cE (W0 w) (.ls (lst lo 35 5 L fI)) (.ls (lst lo 35 5 L fI)),ii (L.length:Int)=ii (L.length:Int),ii (↑(i+1):Int)=Value.int IntKind.i64 ((i:Int)+1)]):=by kernel_rfl
theorem ilc {w:World}(lo:Nat) (L:List T2) (v:Int) (i:Nat):runR w ⟨[(108,9,true),(107,7,true)],[],[]⟩ 108 19 Tryz.f108 kImpact108_nl (ilI lo L v i) (rI (ixP L.length (lat L v)))=some (.ret,[decide ((i:Int)<(L.length:Int))=true,i<L.length,i<L.length,0<1,decide ((L.getD i default).1>v)=true,Value.int IntKind.i64 (ixP L.length (lat L v))=ii (i:Int)]):=by kernel_rfl
theorem ild {w:World}(lo:Nat) (L:List T2) (v:Int) (i:Nat):run w ⟨[(108,9,false)],[],[]⟩ 108 19 kImpact108_nl (ilI lo L v i) (ilI lo L v i)=some (.exit 0,[decide ((i:Int)<(L.length:Int))=false,0=0,0=0,cE (W0 w) (.ls { lo:=0,ty:=3,z:=1,n:=1,g:=fun(x:Nat)=>[.lit (ii v)] }) (.ls { lo:=0,ty:=3,z:=1,n:=1,g:=fun(x:Nat)=>[.lit (ii v)] }),cE (W0 w) (.ls (lst lo 35 5 L fI)) (.ls (lst lo 35 5 L fI)),ii (L.length:Int)=ii (L.length:Int),ii (i:Int)=ii (i:Int)]):=by kernel_rfl
theorem ile {w:World}(lo:Nat) (L:List T2) (v:Int) (i:Nat):runR w ⟨[],[],[]⟩ 108 19 Tryz.f108 kImpact108_nt (ilI lo L v i) (rI (ixP L.length (lat L v)))=some (.ret,[Value.int IntKind.i64 (ixP L.length (lat L v))=Value.int IntKind.i64 (-1)]):=by kernel_rfl
theorem ixL_ok (hN:jr) (l0:Nat) (L:List T2) (v:Int) (hl:L.length<=1000000):zy 108 [pT l0 L,pCap v] (fun _=>rI (ixP L.length (lat L v))):=by
 intro w vs hG hp;refine fn_cap hG hN (ex:=[]) kA (fn:=Tryz.f108) Tryz.func108 (c:=codeOf Tryz.f108) (by kernel_rfl) (args:=[pT l0 L]) (n0:=1) rfl (by kernel_rfl) hp (fun hR a hA=>?_);have hA:At (W0 w) 19 (ilS l0 L v) a w:=hA;refine jV (ila l0 L v) (hR _ rfl) hA (fun a w1 hA=>uT ?_);refine uW (fun i=>ilI l0 L v i) (fun i=>i<=L.length/\∀ k,k<i->lat L v k=false) (fun i=>L.length-i) (L:=kImpact108_n) (ks:=kImpact108_nt) (id:=0) (c:=ub kImpact108_n) (by kernel_rfl) 0 ⟨zero_le _,by omega⟩ hA (fun i a2 w2 hi hA=>?_);rcases eq_false_or_eq_true (decide ((i:Int)<(L.length:Int))) with q9|q9
 ·have p9:=of_decide_eq_true q9;rcases eq_false_or_eq_true (lat L v i) with q16|q16
  ·have e0:=congrArg (Value.int .i64) (cbV (n:=L.length) (p:=lat L v) (i:=i) (by omega) q16 hi.2);exact jp (ilc l0 L v i) (hR _ rfl) hA
  ·refine jV (ilb l0 L v i) (hR _ rfl) hA (fun aT wT hT=>ka (by kernel_rfl) ⟨i+1,⟨by omega,fun k hk=>by rcases Nat.lt_succ_iff_lt_or_eq.1 hk with h|rfl;exact hi.2 k h;exact q16⟩,hT,by omega⟩)
 ·have p9:=of_decide_eq_false q9;refine jV (ild l0 L v i) (hR _ rfl) hA (fun aT wT hT=>kG _ (by kernel_rfl) ?_);have e0:=congrArg (Value.int .i64) (cbW (n:=L.length) (p:=lat L v) fun k hk=>hi.2 k (by omega));exact jp (ile l0 L v i) (hR _ rfl) hT
abbrev exAt (l0:Nat) (L:List T2) (v:Int):List (Nat×Con):=[(108,CE [pT l0 L,pCap v] (vr (.int .i64 (ixP L.length (lat L v)))))]
theorem exAt_ok {lo l0:Nat}{w0:World}{L:List T2}{v:Int}(hN:jr) (hG:Gr w0) (hlo:lo<=w0.heap.size) (hl:L.length<=1000000):EN true lo w0 (exAt l0 L v):=ji (kp ((ixL_ok hN l0 L v hl).val hG hlo (enters_of Tryz.func108 (by kernel_rfl) rfl))) kA
noncomputable abbrev attR (w:World) (l0:Nat) (L:List T2) (v:Int)    (o:List (Nat×Nat×Bool)):=runR w ⟨o,[],(exAt l0 L v)⟩ 47 18 Tryz.f47 kat47_ (stA [pT l0 L,pI v]) (rI (atN L v:Nat))
theorem att0 {w:World}(l0:Nat) (L:List T2) (v:Int):attR w l0 L v [(47,12,true)]=some (.ret,[[Pat.one (Grp.cls (Dx.ls (lst l0 35 5 L fI))),Pat.cap 107 3 (A1.one (AC.lit (Value.int IntKind.i64 v))).cells.length [Grp.lit (Value.int IntKind.i64 v)]]=[pT l0 L,pCap v],decide (ixP L.length (lat L v)>=0)=true,um (ixP L.length (lat L v)-1),Value.int IntKind.i64 (↑(atN L v):Int)=Value.int IntKind.i64 (ixP L.length (lat L v)-1)]):=by kernel_rfl
theorem att1 {w:World}(l0:Nat) (L:List T2) (v:Int):attR w l0 L v [(47,12,false)]=some (.ret,[[Pat.one (Grp.cls (Dx.ls (lst l0 35 5 L fI))),Pat.cap 107 3 (A1.one (AC.lit (Value.int IntKind.i64 v))).cells.length [Grp.lit (Value.int IntKind.i64 v)]]=[pT l0 L,pCap v],decide (ixP L.length (lat L v)>=0)=false,um ((L.length:Int)-1),Value.int IntKind.i64 (↑(atN L v):Int)=Value.int IntKind.i64 ((L.length:Int)-1)]):=by kernel_rfl
theorem at_ok (hN:jr) (l0:Nat) (L:List T2) (v:Int) (hl:L.length<=1000000) (h1:1<=L.length) (h0:frm L 0<=v):zy 47 [pT l0 L,pI v] (fun _=>rI (atN L v:Nat)):=by
 intro w vs hG hp;refine yC hG hN (ex:=(exAt l0 L v)) (exAt_ok hN hG (le_refl _) hl) (fn:=Tryz.f47) Tryz.func47 (c:=codeOf Tryz.f47) (by kernel_rfl) (args:=[pT l0 L,pI v]) (by kernel_rfl) hp (fun hR _ hA=>?_);have hx:=ixP_le (n:=L.length) (p:=lat L v);rcases eq_false_or_eq_true (decide (ixP L.length (lat L v)>=0)) with q12|q12
 ·skip
  have p12:=of_decide_eq_true q12;have e0:=at_some h0 p12;refine jp (att0 l0 L v) (hR _ rfl) hA
 ·skip
  have p12:=of_decide_eq_false q12;have e0:=at_none h1 p12;refine jp (att1 l0 L v) (hR _ rfl) hA
def mnI (f:Nat->T2):Nat->Nat
 |0=>0
 |i+1=>if i=0 then 0 else if jU (f i).2 (f (mnI f i)).2<0 then i else mnI f i
theorem mnI_t {f:Nat->T2}{i:Nat}(hi:1<=i) (h:jU (f i).2 (f (mnI f i)).2<0):mnI f (i+1)=i:=by
 rw[mnI,if_neg (by omega),if_pos h]
theorem mnI_f {f:Nat->T2}{i:Nat}(hi:1<=i) (h:¬ jU (f i).2 (f (mnI f i)).2<0):mnI f (i+1)=mnI f i:=by
 rw[mnI,if_neg (by omega),if_neg h]
abbrev mnS (lo n:Nat) (f:Nat->T2) (i:Nat):St Dx:=⟨4,[(0,.val (.one (.sym 0 0))),(1,.val (.one (.lit (.func (.func 48) #[] #[])))),(4,.val (.one (.ptr 1 0))),(5,.val (.one (.ptr 2 0))),(6,.val (.one (.lit (ii (i:Int)))))],[(0,.cls (.ls ⟨lo,35,5,n,fun j=>fI (f j)⟩)),(1,.blk 35 [.lit (ii 0),.lit (.bool false),.lit (.int .u64 0),.lit (.int .u64 0),.lit (.pointer none)] none),(2,.blk 35 [.lit (ii (f (mnI f i)).1),.sym 3 0,.sym 3 1,.sym 3 2,.sym 3 3] none),(3,.cls (.q (f (mnI f i)).2 4))],[]⟩
theorem mna {w:World}(lo n:Nat) (f:Nat->T2):run w ⟨[(50,9,false)],[],exI⟩ 50 33 kImpact50_ (stA [pTf lo n f,pF 48]) (mnS lo n f 1)=some (.normal,[decide ((n:Int)<1)=false,0<n,0<n,cE (W0 w) (.ls { lo:=lo,ty:=35,z:=5,n:=n,g:=fun(j:Nat)=>fI (f j) }) (.ls { lo:=lo,ty:=35,z:=5,n:=n,g:=fun(j:Nat)=>fI (f j) }),ii 0=Value.int IntKind.i64 0,Value.bool false=Value.bool false,Value.int IntKind.u64 0=Value.int IntKind.u64 0,Value.int IntKind.u64 0=Value.int IntKind.u64 0,Value.pointer none=Value.pointer none,ii (f (mnI f 1)).1=ii (f 0).1,cE (W0 w) (.q (f (mnI f 1)).2 4) (.q (f 0).2 4),Value.func (Fn.func 48) #[] #[]=Value.func (Fn.func 48) #[] #[],0=0,0=0,ii (↑1:Int)=Value.int IntKind.i64 1]):=by kernel_rfl
theorem mne {w:World}(lo n:Nat) (f:Nat->T2) (i:Nat):runR w ⟨[],[],exI⟩ 50 33 Tryz.f50 kImpact50_nt (mnS lo n f i) [pE (f (mnI f i)).1 (f (mnI f i)).2 4]=some (.ret,[ii (f (mnI f i)).1=ii (f (mnI f i)).1,cE (W0 w) (.q (f (mnI f i)).2 4) (.q (f (mnI f i)).2 4),jG (W0 w) (.q (f (mnI f i)).2 4)]):=by kernel_rfl
noncomputable abbrev mnbTe0 (w:World) (l0 n:Nat) (f:Nat->T2) (i:Nat) (o:List (Nat×Nat×Bool)):=run w ⟨o,[],exI⟩ 50 33 kImpact50_nl (mnS l0 n f i) (mnS l0 n f i)
noncomputable abbrev mnbTnal (w:World) (l0 n:Nat) (f:Nat->T2) (i:Nat) (o:List (Nat×Nat×Bool)):=run w ⟨o,[],exI⟩ 50 33 kImpact50_nl (mnS l0 n f i) (mnS l0 n f (i+1))
theorem mnb0 {w:World}(l0 n:Nat) (f:Nat->T2) (i:Nat):mnbTnal w l0 n f i [(50,17,true),(50,27,true)]=some (.normal,[decide ((i:Int)<(n:Int))=true,i<n,i<n,4+4<=10000,decide (jU (f i).2 (f (mnI f i)).2<0)=true,i<n,i<n,um ((i:Int)+1),cE (W0 w) (.ls { lo:=l0,ty:=35,z:=5,n:=n,g:=fun(j:Nat)=>fI (f j) }) (.ls { lo:=l0,ty:=35,z:=5,n:=n,g:=fun(j:Nat)=>fI (f j) }),ii 0=ii 0,Value.bool false=Value.bool false,Value.int IntKind.u64 0=Value.int IntKind.u64 0,Value.int IntKind.u64 0=Value.int IntKind.u64 0,Value.pointer none=Value.pointer none,ii (f (mnI f (i+1))).1=ii (f i).1,cE (W0 w) (.q (f (mnI f (i+1))).2 4) (.q (f i).2 4),Value.func (Fn.func 48) #[] #[]=Value.func (Fn.func 48) #[] #[],0=0,0=0,ii (↑(i+1):Int)=Value.int IntKind.i64 ((i:Int)+1)]):=by kernel_rfl
theorem mnb1 {w:World}(l0 n:Nat) (f:Nat->T2) (i:Nat):mnbTnal w l0 n f i [(50,17,true),(50,27,false)]=some (.normal,[decide ((i:Int)<(n:Int))=true,i<n,i<n,4+4<=10000,decide (jU (f i).2 (f (mnI f i)).2<0)=false,um ((i:Int)+1),cE (W0 w) (.ls { lo:=l0,ty:=35,z:=5,n:=n,g:=fun(j:Nat)=>fI (f j) }) (.ls { lo:=l0,ty:=35,z:=5,n:=n,g:=fun(j:Nat)=>fI (f j) }),ii 0=ii 0,Value.bool false=Value.bool false,Value.int IntKind.u64 0=Value.int IntKind.u64 0,Value.int IntKind.u64 0=Value.int IntKind.u64 0,Value.pointer none=Value.pointer none,ii (f (mnI f (i+1))).1=ii (f (mnI f i)).1,cE (W0 w) (.q (f (mnI f (i+1))).2 4) (.q (f (mnI f i)).2 4),Value.func (Fn.func 48) #[] #[]=Value.func (Fn.func 48) #[] #[],0=0,0=0,ii (↑(i+1):Int)=Value.int IntKind.i64 ((i:Int)+1)]):=by kernel_rfl
theorem mnb2 {w:World}(l0 n:Nat) (f:Nat->T2) (i:Nat):mnbTe0 w l0 n f i [(50,17,false)]=some (.exit 0,[decide ((i:Int)<(n:Int))=false,cE (W0 w) (.ls { lo:=l0,ty:=35,z:=5,n:=n,g:=fun(j:Nat)=>fI (f j) }) (.ls { lo:=l0,ty:=35,z:=5,n:=n,g:=fun(j:Nat)=>fI (f j) }),ii 0=ii 0,Value.bool false=Value.bool false,Value.int IntKind.u64 0=Value.int IntKind.u64 0,Value.int IntKind.u64 0=Value.int IntKind.u64 0,Value.pointer none=Value.pointer none,ii (f (mnI f i)).1=ii (f (mnI f i)).1,cE (W0 w) (.q (f (mnI f i)).2 4) (.q (f (mnI f i)).2 4),Value.func (Fn.func 48) #[] #[]=Value.func (Fn.func 48) #[] #[],0=0,0=0,ii (i:Int)=ii (i:Int)]):=by kernel_rfl
theorem mn_ok (hN:jr) (l0 n:Nat) (f:Nat->T2) (hl:n<=1000000) (h1:1<=n):zy 50 [pTf l0 n f,pF 48] (fun _=>[pE (f (mnI f n)).1 (f (mnI f n)).2 4]):=by
 intro w vs hG hp;refine yC hG hN (ex:=exI) (YC hN hG (le_refl _)) (fn:=Tryz.f50) Tryz.func50 (c:=codeOf Tryz.f50) (by kernel_rfl) (args:=[pTf l0 n f,pF 48]) (by kernel_rfl) hp (fun hR _ hA=>?_);refine jV (mna l0 n f) (hR _ rfl) hA (fun a w1 hA=>uT ?_) (by (repeat' (first|exact trivial|apply And.intro))<;>first|exact cE.refl _ _|exact fun _ _=>jw.refl _ _|exact cR rfl|exact cQ _ _|exact cP _ _|(with_reducible assumption)|omega|with_reducible rfl|(simp only[cF];omega)|(intro j hj;exact absurd hj (not_lt_zero _))|exact decide_eq_false (by omega)|rfl);refine uW (fun i=>mnS l0 n f i) (fun i=>1<=i/\i<=n) (fun i=>n-i) (L:=kImpact50_n) (ks:=kImpact50_nt) (id:=0) (c:=ub kImpact50_n) (by kernel_rfl) 1 ⟨le_refl _,h1⟩ hA (fun i a2 w2 hi hA=>?_);rcases eq_false_or_eq_true (decide ((i:Int)<(n:Int))) with q17|q17
 ·skip
  have p17:=of_decide_eq_true q17;rcases eq_false_or_eq_true (decide (jU (f i).2 (f (mnI f i)).2<0)) with q27|q27
  ·skip
   have p27:=of_decide_eq_true q27;have e1:=mnI_t hi.1 p27;refine jV (mnb0 l0 n f i) (hR _ rfl) hA (fun aT wT hT=>?_) (by (repeat' (first|exact trivial|apply And.intro))<;>first|exact cE.refl _ _|exact fun _ _=>jw.refl _ _|exact cR rfl|exact cQ _ _|exact cP _ _|(with_reducible assumption)|omega|with_reducible rfl|(simp only[cF];omega)|(intro j hj;exact absurd hj (not_lt_zero _))|exact congrArg (fun k=>Value.int .i64 (f k).1) e1|exact EK (congrArg (fun k=>(f k).2) e1).symm (le_refl _)|rfl);exact ka (by kernel_rfl) ⟨i+1,⟨by omega,by omega⟩,hT,by omega⟩
  ·skip
   have p27:=of_decide_eq_false q27;have e1:=mnI_f hi.1 p27;refine jV (mnb1 l0 n f i) (hR _ rfl) hA (fun aT wT hT=>?_) (by (repeat' (first|exact trivial|apply And.intro))<;>first|exact cE.refl _ _|exact fun _ _=>jw.refl _ _|exact cR rfl|exact cQ _ _|exact cP _ _|(with_reducible assumption)|omega|with_reducible rfl|(simp only[cF];omega)|(intro j hj;exact absurd hj (not_lt_zero _))|exact congrArg (fun k=>Value.int .i64 (f k).1) e1|exact EK (congrArg (fun k=>(f k).2) e1).symm (le_refl _)|rfl);exact ka (by kernel_rfl) ⟨i+1,⟨by omega,by omega⟩,hT,by omega⟩
 ·skip
  have p17:=of_decide_eq_false q17;refine jV (mnb2 l0 n f i) (hR _ rfl) hA (fun aT wT hT=>?_) (by (repeat' (first|exact trivial|apply And.intro))<;>first|exact cE.refl _ _|exact fun _ _=>jw.refl _ _|exact cR rfl|exact cQ _ _|exact cP _ _|(with_reducible assumption)|omega|with_reducible rfl|(simp only[cF];omega)|(intro j hj;exact absurd hj (not_lt_zero _))|exact congrArg (fun k=>Value.int .i64 (f k).1) e1|exact EK (congrArg (fun k=>(f k).2) e1).symm (le_refl _)|rfl);refine kG _ (by kernel_rfl) ?_;obtain rfl:i=n:=by omega
  exact jp (mne l0 i f i) (hR _ rfl) hT
theorem mn_ent {lo l0 n:Nat}{w0:World}{f:Nat->T2}(hN:jr) (hG:Gr w0) (hlo:lo<=w0.heap.size) (hl:n<=1000000) (h1:1<=n):jF (Cx true lo w0) (.call 50) [pTf l0 n f,pF 48] (UX [pE (f (mnI f n)).1 (f (mnI f n)).2 4]) :=
 (mn_ok hN l0 n f hl h1).ent hG hlo (enters_of Tryz.func50 (by kernel_rfl) rfl) (fun _ _=>⟨_,rfl,rfl,cE.refl _ _,trivial⟩)
def mxI (f:Nat->T2):Nat->Nat
 |0=>0
 |i+1=>if i=0 then 0 else if jU (f i).2 (f (mxI f i)).2>0 then i else mxI f i
theorem mxI_t {f:Nat->T2}{i:Nat}(hi:1<=i) (h:jU (f i).2 (f (mxI f i)).2>0):mxI f (i+1)=i:=by
 rw[mxI,if_neg (by omega),if_pos h]
theorem mxI_f {f:Nat->T2}{i:Nat}(hi:1<=i) (h:¬ jU (f i).2 (f (mxI f i)).2>0):mxI f (i+1)=mxI f i:=by
 rw[mxI,if_neg (by omega),if_neg h]
abbrev mxS (lo n:Nat) (f:Nat->T2) (i:Nat):St Dx:=⟨4,[(0,.val (.one (.sym 0 0))),(1,.val (.one (.lit (.func (.func 48) #[] #[])))),(4,.val (.one (.ptr 1 0))),(5,.val (.one (.ptr 2 0))),(6,.val (.one (.lit (ii (i:Int)))))],[(0,.cls (.ls ⟨lo,35,5,n,fun j=>fI (f j)⟩)),(1,.blk 35 [.lit (ii 0),.lit (.bool false),.lit (.int .u64 0),.lit (.int .u64 0),.lit (.pointer none)] none),(2,.blk 35 [.lit (ii (f (mxI f i)).1),.sym 3 0,.sym 3 1,.sym 3 2,.sym 3 3] none),(3,.cls (.q (f (mxI f i)).2 4))],[]⟩
theorem mxa {w:World}(lo n:Nat) (f:Nat->T2):run w ⟨[(51,9,false)],[],exI⟩ 51 33 kImpact51_ (stA [pTf lo n f,pF 48]) (mxS lo n f 1)=some (.normal,[decide ((n:Int)<1)=false,0<n,0<n,cE (W0 w) (.ls { lo:=lo,ty:=35,z:=5,n:=n,g:=fun(j:Nat)=>fI (f j) }) (.ls { lo:=lo,ty:=35,z:=5,n:=n,g:=fun(j:Nat)=>fI (f j) }),ii 0=Value.int IntKind.i64 0,Value.bool false=Value.bool false,Value.int IntKind.u64 0=Value.int IntKind.u64 0,Value.int IntKind.u64 0=Value.int IntKind.u64 0,Value.pointer none=Value.pointer none,ii (f (mxI f 1)).1=ii (f 0).1,cE (W0 w) (.q (f (mxI f 1)).2 4) (.q (f 0).2 4),Value.func (Fn.func 48) #[] #[]=Value.func (Fn.func 48) #[] #[],0=0,0=0,ii (↑1:Int)=Value.int IntKind.i64 1]):=by kernel_rfl
theorem mxe {w:World}(lo n:Nat) (f:Nat->T2) (i:Nat):runR w ⟨[],[],exI⟩ 51 33 Tryz.f51 kImpact51_nt (mxS lo n f i) [pE (f (mxI f i)).1 (f (mxI f i)).2 4]=some (.ret,[ii (f (mxI f i)).1=ii (f (mxI f i)).1,cE (W0 w) (.q (f (mxI f i)).2 4) (.q (f (mxI f i)).2 4),jG (W0 w) (.q (f (mxI f i)).2 4)]):=by kernel_rfl
noncomputable abbrev mxbTe0 (w:World) (l0 n:Nat) (f:Nat->T2) (i:Nat) (o:List (Nat×Nat×Bool)):=run w ⟨o,[],exI⟩ 51 33 kImpact51_nl (mxS l0 n f i) (mxS l0 n f i)
noncomputable abbrev mxbTnal (w:World) (l0 n:Nat) (f:Nat->T2) (i:Nat) (o:List (Nat×Nat×Bool)):=run w ⟨o,[],exI⟩ 51 33 kImpact51_nl (mxS l0 n f i) (mxS l0 n f (i+1))
theorem mxb0 {w:World}(l0 n:Nat) (f:Nat->T2) (i:Nat):mxbTnal w l0 n f i [(51,17,true),(51,27,true)]=some (.normal,[decide ((i:Int)<(n:Int))=true,i<n,i<n,4+4<=10000,decide (jU (f i).2 (f (mxI f i)).2>0)=true,i<n,i<n,um ((i:Int)+1),cE (W0 w) (.ls { lo:=l0,ty:=35,z:=5,n:=n,g:=fun(j:Nat)=>fI (f j) }) (.ls { lo:=l0,ty:=35,z:=5,n:=n,g:=fun(j:Nat)=>fI (f j) }),ii 0=ii 0,Value.bool false=Value.bool false,Value.int IntKind.u64 0=Value.int IntKind.u64 0,Value.int IntKind.u64 0=Value.int IntKind.u64 0,Value.pointer none=Value.pointer none,ii (f (mxI f (i+1))).1=ii (f i).1,cE (W0 w) (.q (f (mxI f (i+1))).2 4) (.q (f i).2 4),Value.func (Fn.func 48) #[] #[]=Value.func (Fn.func 48) #[] #[],0=0,0=0,ii (↑(i+1):Int)=Value.int IntKind.i64 ((i:Int)+1)]):=by kernel_rfl
theorem mxb1 {w:World}(l0 n:Nat) (f:Nat->T2) (i:Nat):mxbTnal w l0 n f i [(51,17,true),(51,27,false)]=some (.normal,[decide ((i:Int)<(n:Int))=true,i<n,i<n,4+4<=10000,decide (jU (f i).2 (f (mxI f i)).2>0)=false,um ((i:Int)+1),cE (W0 w) (.ls { lo:=l0,ty:=35,z:=5,n:=n,g:=fun(j:Nat)=>fI (f j) }) (.ls { lo:=l0,ty:=35,z:=5,n:=n,g:=fun(j:Nat)=>fI (f j) }),ii 0=ii 0,Value.bool false=Value.bool false,Value.int IntKind.u64 0=Value.int IntKind.u64 0,Value.int IntKind.u64 0=Value.int IntKind.u64 0,Value.pointer none=Value.pointer none,ii (f (mxI f (i+1))).1=ii (f (mxI f i)).1,cE (W0 w) (.q (f (mxI f (i+1))).2 4) (.q (f (mxI f i)).2 4),Value.func (Fn.func 48) #[] #[]=Value.func (Fn.func 48) #[] #[],0=0,0=0,ii (↑(i+1):Int)=Value.int IntKind.i64 ((i:Int)+1)]):=by kernel_rfl
theorem mxb2 {w:World}(l0 n:Nat) (f:Nat->T2) (i:Nat):mxbTe0 w l0 n f i [(51,17,false)]=some (.exit 0,[decide ((i:Int)<(n:Int))=false,cE (W0 w) (.ls { lo:=l0,ty:=35,z:=5,n:=n,g:=fun(j:Nat)=>fI (f j) }) (.ls { lo:=l0,ty:=35,z:=5,n:=n,g:=fun(j:Nat)=>fI (f j) }),ii 0=ii 0,Value.bool false=Value.bool false,Value.int IntKind.u64 0=Value.int IntKind.u64 0,Value.int IntKind.u64 0=Value.int IntKind.u64 0,Value.pointer none=Value.pointer none,ii (f (mxI f i)).1=ii (f (mxI f i)).1,cE (W0 w) (.q (f (mxI f i)).2 4) (.q (f (mxI f i)).2 4),Value.func (Fn.func 48) #[] #[]=Value.func (Fn.func 48) #[] #[],0=0,0=0,ii (i:Int)=ii (i:Int)]):=by kernel_rfl
theorem mx_ok (hN:jr) (l0 n:Nat) (f:Nat->T2) (hl:n<=1000000) (h1:1<=n):zy 51 [pTf l0 n f,pF 48] (fun _=>[pE (f (mxI f n)).1 (f (mxI f n)).2 4]):=by
 intro w vs hG hp;refine yC hG hN (ex:=exI) (YC hN hG (le_refl _)) (fn:=Tryz.f51) Tryz.func51 (c:=codeOf Tryz.f51) (by kernel_rfl) (args:=[pTf l0 n f,pF 48]) (by kernel_rfl) hp (fun hR _ hA=>?_);refine jV (mxa l0 n f) (hR _ rfl) hA (fun a w1 hA=>uT ?_) (by (repeat' (first|exact trivial|apply And.intro))<;>first|exact cE.refl _ _|exact fun _ _=>jw.refl _ _|exact cR rfl|exact cQ _ _|exact cP _ _|(with_reducible assumption)|omega|with_reducible rfl|(simp only[cF];omega)|(intro j hj;exact absurd hj (not_lt_zero _))|exact decide_eq_false (by omega)|rfl);refine uW (fun i=>mxS l0 n f i) (fun i=>1<=i/\i<=n) (fun i=>n-i) (L:=kImpact51_n) (ks:=kImpact51_nt) (id:=0) (c:=ub kImpact51_n) (by kernel_rfl) 1 ⟨le_refl _,h1⟩ hA (fun i a2 w2 hi hA=>?_);rcases eq_false_or_eq_true (decide ((i:Int)<(n:Int))) with q17|q17
 ·skip
  have p17:=of_decide_eq_true q17;rcases eq_false_or_eq_true (decide (jU (f i).2 (f (mxI f i)).2>0)) with q27|q27
  ·skip
   have p27:=of_decide_eq_true q27;have e1:=mxI_t hi.1 p27;refine jV (mxb0 l0 n f i) (hR _ rfl) hA (fun aT wT hT=>?_) (by (repeat' (first|exact trivial|apply And.intro))<;>first|exact cE.refl _ _|exact fun _ _=>jw.refl _ _|exact cR rfl|exact cQ _ _|exact cP _ _|(with_reducible assumption)|omega|with_reducible rfl|(simp only[cF];omega)|(intro j hj;exact absurd hj (not_lt_zero _))|exact congrArg (fun k=>Value.int .i64 (f k).1) e1|exact EK (congrArg (fun k=>(f k).2) e1).symm (le_refl _)|rfl);exact ka (by kernel_rfl) ⟨i+1,⟨by omega,by omega⟩,hT,by omega⟩
  ·skip
   have p27:=of_decide_eq_false q27;have e1:=mxI_f hi.1 p27;refine jV (mxb1 l0 n f i) (hR _ rfl) hA (fun aT wT hT=>?_) (by (repeat' (first|exact trivial|apply And.intro))<;>first|exact cE.refl _ _|exact fun _ _=>jw.refl _ _|exact cR rfl|exact cQ _ _|exact cP _ _|(with_reducible assumption)|omega|with_reducible rfl|(simp only[cF];omega)|(intro j hj;exact absurd hj (not_lt_zero _))|exact congrArg (fun k=>Value.int .i64 (f k).1) e1|exact EK (congrArg (fun k=>(f k).2) e1).symm (le_refl _)|rfl);exact ka (by kernel_rfl) ⟨i+1,⟨by omega,by omega⟩,hT,by omega⟩
 ·skip
  have p17:=of_decide_eq_false q17;refine jV (mxb2 l0 n f i) (hR _ rfl) hA (fun aT wT hT=>?_) (by (repeat' (first|exact trivial|apply And.intro))<;>first|exact cE.refl _ _|exact fun _ _=>jw.refl _ _|exact cR rfl|exact cQ _ _|exact cP _ _|(with_reducible assumption)|omega|with_reducible rfl|(simp only[cF];omega)|(intro j hj;exact absurd hj (not_lt_zero _))|exact congrArg (fun k=>Value.int .i64 (f k).1) e1|exact EK (congrArg (fun k=>(f k).2) e1).symm (le_refl _)|rfl);refine kG _ (by kernel_rfl) ?_;obtain rfl:i=n:=by omega
  exact jp (mxe l0 i f i) (hR _ rfl) hT
theorem mx_ent {lo l0 n:Nat}{w0:World}{f:Nat->T2}(hN:jr) (hG:Gr w0) (hlo:lo<=w0.heap.size) (hl:n<=1000000) (h1:1<=n):jF (Cx true lo w0) (.call 51) [pTf l0 n f,pF 48] (UX [pE (f (mxI f n)).1 (f (mxI f n)).2 4]) :=
 (mx_ok hN l0 n f hl h1).ent hG hlo (enters_of Tryz.func51 (by kernel_rfl) rfl) (fun _ _=>⟨_,rfl,rfl,cE.refl _ _,trivial⟩)
end Pe
namespace Pe
theorem cdi {r s:Rat}:jU r s<0↔r<s:=by
 unfold jU;by_cases h:r<s
 ·rw[if_pos h];exact⟨fun _=>h,fun _=>by decide⟩
 ·rw[if_neg h];by_cases h2:s<r
  ·rw[if_pos h2];exact⟨fun x=>absurd x (by decide),fun x=>absurd x h⟩
  ·rw[if_neg h2];exact⟨fun x=>absurd x (by decide),fun x=>absurd x h⟩
def pos (L:List R2) (x:Rat):Nat:=L.findIdx fun p=>decide (¬ jU p.1 x<0)
theorem zy.two {lo:Nat}{w0:World}{f:Nat}{args:List (Pat Dx)}{v v':Value}(h:zy f args (fun _=>[.one (.lit v),.one (.lit v')])) (hG:Gr w0) (hlo:lo<=w0.heap.size) (hE:Enters Tryz.prog f):jF (Cx true lo w0) (.call f) args (.tup [.one (.lit v),.one (.lit v')]) :=
 h.ent hG hlo hE (fun _ _=>⟨_,rfl,rfl,rfl,trivial⟩)
section
variable {L:List R2}{x:Rat}{i j:Nat}{A:Nat->Nat->Prop}
end
end Pe
namespace Pe
noncomputable def kFactors11_:List Kp:=[.code (codeOf Tryz.f11)]
abbrev pS (r:Rat) (j:Nat) (s:Rat) (k:Nat):Pat Dx:=.agg [.cls (.q r j),.cls (.q s k)]
theorem EB {b:Bool}{lo:Nat}{w0:World}{r s:Rat}(h1:r=0) (h2:s=0):jw (Cx b lo w0) [.cls (.q r 1),.cls (.q s 1)] [.lit (.bool false),.lit (.int .u64 0),.lit (.int .u64 0),.lit (.pointer none),.lit (.bool false),.lit (.int .u64 0),.lit (.int .u64 0),.lit (.pointer none)]:=by
 intro w vs hv;subst h1;subst h2;obtain⟨xs,ys,rfl,h3,h4⟩:=Wm (b:=b) (lo:=lo) (w0:=w0) (gs':=[.lit (.bool false),.lit (.int .u64 0),.lit (.int .u64 0),.lit (.pointer none)]) (r:=0) (k:=1) rfl hv;obtain⟨xs',ys',rfl,h5,h6⟩:=Wm (b:=b) (lo:=lo) (w0:=w0) (gs':=[]) (r:=0) (k:=1) rfl h4;rw[show ys'=[] from h6];exact WU (.cls h3 (.cls h5 .nil))
def rngI (a b:Int):Bool:=decide (0<=a)&&decide (a<=b)&&decide (b<=300)
abbrev exF0 (l0:Nat) (L:List T2) (c:Bool):List (Nat×Con):=[(45,CE [pT l0 L] (vrI (er c)))]
theorem cas {lo l0:Nat}{w0:World}{L:List T2}{c:Bool}(hN:jr) (hG:Gr w0) (hlo:lo<=w0.heap.size) (hl:L.length<=1000000) (hc:okI L=c):EN true lo w0 (exF0 l0 L c):=by
 subst hc;exact ji (kp ((cgE hN l0 L hl).val hG hlo (enters_of Tryz.func45 (by kernel_rfl) rfl))) kA
noncomputable abbrev fabR (w:World) (l0:Nat) (L:List T2) (a b:Int)   (o:List (Nat×Nat×Bool)):=runR w ⟨o,[],(exF0 l0 L false)⟩ 11 51 Tryz.f11 kFactors11_ (stA [pT l0 L,pI a,pI b]) [pS 0 1 0 1,pI 2]
theorem fab0 {w:World}(l0:Nat) (L:List T2) (a b:Int):fabR w l0 L a b [(11,13,true),(11,17,true),(11,21,true)]=some (.ret,[decide (0<=a)=true,decide (a<=b)=true,decide (b<=300)=true,[Pat.one (Grp.cls (Dx.ls (lst l0 35 5 L fI)))]=[pT l0 L],jw (W0 w) [.cls (.q 0 1),.cls (.q 0 1)] [.lit (Value.bool false),.lit (Value.int IntKind.u64 0),.lit (Value.int IntKind.u64 0),.lit (Value.pointer none),.lit (Value.bool false),.lit (Value.int IntKind.u64 0),.lit (Value.int IntKind.u64 0),.lit (Value.pointer none)],Value.int IntKind.i64 2=Value.int IntKind.i64 (er false),jG (W0 w) (.q 0 1),jG (W0 w) (.q 0 1)]):=by kernel_rfl
theorem fab1 {w:World}(l0:Nat) (L:List T2) (a b:Int):fabR w l0 L a b [(11,13,true),(11,17,true),(11,21,false)]=some (.ret,[decide (0<=a)=true,decide (a<=b)=true,decide (b<=300)=false,[Pat.one (Grp.cls (Dx.ls (lst l0 35 5 L fI)))]=[pT l0 L],jw (W0 w) [.cls (.q 0 1),.cls (.q 0 1)] [.lit (Value.bool false),.lit (Value.int IntKind.u64 0),.lit (Value.int IntKind.u64 0),.lit (Value.pointer none),.lit (Value.bool false),.lit (Value.int IntKind.u64 0),.lit (Value.int IntKind.u64 0),.lit (Value.pointer none)],Value.int IntKind.i64 2=Value.int IntKind.i64 (er false),jG (W0 w) (.q 0 1),jG (W0 w) (.q 0 1)]):=by kernel_rfl
theorem fab2 {w:World}(l0:Nat) (L:List T2) (a b:Int):fabR w l0 L a b [(11,13,true),(11,17,false)]=some (.ret,[decide (0<=a)=true,decide (a<=b)=false,[Pat.one (Grp.cls (Dx.ls (lst l0 35 5 L fI)))]=[pT l0 L],jw (W0 w) [.cls (.q 0 1),.cls (.q 0 1)] [.lit (Value.bool false),.lit (Value.int IntKind.u64 0),.lit (Value.int IntKind.u64 0),.lit (Value.pointer none),.lit (Value.bool false),.lit (Value.int IntKind.u64 0),.lit (Value.int IntKind.u64 0),.lit (Value.pointer none)],Value.int IntKind.i64 2=Value.int IntKind.i64 (er false),jG (W0 w) (.q 0 1),jG (W0 w) (.q 0 1)]):=by kernel_rfl
theorem fab3 {w:World}(l0:Nat) (L:List T2) (a b:Int):fabR w l0 L a b [(11,13,false)]=some (.ret,[decide (0<=a)=false,[Pat.one (Grp.cls (Dx.ls (lst l0 35 5 L fI)))]=[pT l0 L],jw (W0 w) [.cls (.q 0 1),.cls (.q 0 1)] [.lit (Value.bool false),.lit (Value.int IntKind.u64 0),.lit (Value.int IntKind.u64 0),.lit (Value.pointer none),.lit (Value.bool false),.lit (Value.int IntKind.u64 0),.lit (Value.int IntKind.u64 0),.lit (Value.pointer none)],Value.int IntKind.i64 2=Value.int IntKind.i64 (er false),jG (W0 w) (.q 0 1),jG (W0 w) (.q 0 1)]):=by kernel_rfl
theorem Fac_bad (hN:jr) (l0:Nat) (L:List T2) (a b:Int) (hl:L.length<=1000000) (hb:okI L=false):zy 11 [pT l0 L,pI a,pI b] (fun _=>[pS 0 1 0 1,pI 2]):=by
 intro w vs hG hp;refine yC hG hN (ex:=(exF0 l0 L false)) (cas hN hG (le_refl _) hl hb) (fn:=Tryz.f11) Tryz.func11 (c:=codeOf Tryz.f11) (by kernel_rfl) (args:=[pT l0 L,pI a,pI b]) (by kernel_rfl) hp (fun hR _ hA=>?_);rcases eq_false_or_eq_true (decide (0<=a)) with q13|q13
 ·skip
  have p13:=of_decide_eq_true q13;rcases eq_false_or_eq_true (decide (a<=b)) with q17|q17
  ·skip
   have p17:=of_decide_eq_true q17;rcases eq_false_or_eq_true (decide (b<=300)) with q21|q21
   ·skip
    have p21:=of_decide_eq_true q21;refine jp (fab0 l0 L a b) (hR _ rfl) hA (by (repeat' (first|exact trivial|apply And.intro))<;>first|exact cE.refl _ _|exact fun _ _=>jw.refl _ _|exact cR rfl|exact cQ _ _|exact cP _ _|(with_reducible assumption)|omega|with_reducible rfl|(simp only[cF];omega)|(intro j hj;exact absurd hj (not_lt_zero _))|exact EB rfl rfl|rfl)
   ·skip
    have p21:=of_decide_eq_false q21;refine jp (fab1 l0 L a b) (hR _ rfl) hA (by (repeat' (first|exact trivial|apply And.intro))<;>first|exact cE.refl _ _|exact fun _ _=>jw.refl _ _|exact cR rfl|exact cQ _ _|exact cP _ _|(with_reducible assumption)|omega|with_reducible rfl|(simp only[cF];omega)|(intro j hj;exact absurd hj (not_lt_zero _))|exact EB rfl rfl|rfl)
  ·skip
   have p17:=of_decide_eq_false q17;refine jp (fab2 l0 L a b) (hR _ rfl) hA (by (repeat' (first|exact trivial|apply And.intro))<;>first|exact cE.refl _ _|exact fun _ _=>jw.refl _ _|exact cR rfl|exact cQ _ _|exact cP _ _|(with_reducible assumption)|omega|with_reducible rfl|(simp only[cF];omega)|(intro j hj;exact absurd hj (not_lt_zero _))|exact EB rfl rfl|rfl)
 ·skip
  have p13:=of_decide_eq_false q13;refine jp (fab3 l0 L a b) (hR _ rfl) hA (by (repeat' (first|exact trivial|apply And.intro))<;>first|exact cE.refl _ _|exact fun _ _=>jw.refl _ _|exact cR rfl|exact cQ _ _|exact cP _ _|(with_reducible assumption)|omega|with_reducible rfl|(simp only[cF];omega)|(intro j hj;exact absurd hj (not_lt_zero _))|exact EB rfl rfl|rfl)
theorem fr1 {w:World}(l0:Nat) (L:List T2) (a b:Int):runR w ⟨[(11,13,false)],[],exF0 l0 L true⟩ 11 51 Tryz.f11 kFactors11_ (stA [pT l0 L,pI a,pI b]) [pS 0 1 0 1,pI 3]=some (.ret,[decide (0<=a)=false,[Pat.one (Grp.cls (Dx.ls (lst l0 35 5 L fI)))]=[pT l0 L],um (0+1),jw (W0 w) [.cls (.q 0 1),.cls (.q 0 1)] [.lit (Value.bool false),.lit (Value.int IntKind.u64 0),.lit (Value.int IntKind.u64 0),.lit (Value.pointer none),.lit (Value.bool false),.lit (Value.int IntKind.u64 0),.lit (Value.int IntKind.u64 0),.lit (Value.pointer none)],Value.int IntKind.i64 3=Value.int IntKind.i64 3,jG (W0 w) (.q 0 1),jG (W0 w) (.q 0 1)]):=by kernel_rfl
theorem fr2 {w:World}(l0:Nat) (L:List T2) (a b:Int):runR w ⟨[(11,13,true),(11,17,false)],[],exF0 l0 L true⟩ 11 51 Tryz.f11 kFactors11_ (stA [pT l0 L,pI a,pI b]) [pS 0 1 0 1,pI 3]=some (.ret,[decide (0<=a)=true,decide (a<=b)=false,[Pat.one (Grp.cls (Dx.ls (lst l0 35 5 L fI)))]=[pT l0 L],um (0+1),jw (W0 w) [.cls (.q 0 1),.cls (.q 0 1)] [.lit (Value.bool false),.lit (Value.int IntKind.u64 0),.lit (Value.int IntKind.u64 0),.lit (Value.pointer none),.lit (Value.bool false),.lit (Value.int IntKind.u64 0),.lit (Value.int IntKind.u64 0),.lit (Value.pointer none)],Value.int IntKind.i64 3=Value.int IntKind.i64 3,jG (W0 w) (.q 0 1),jG (W0 w) (.q 0 1)]):=by kernel_rfl
theorem fr3 {w:World}(l0:Nat) (L:List T2) (a b:Int):runR w ⟨[(11,13,true),(11,17,true),(11,21,false)],[],exF0 l0 L true⟩ 11 51 Tryz.f11 kFactors11_ (stA [pT l0 L,pI a,pI b]) [pS 0 1 0 1,pI 3]=some (.ret,[decide (0<=a)=true,decide (a<=b)=true,decide (b<=300)=false,[Pat.one (Grp.cls (Dx.ls (lst l0 35 5 L fI)))]=[pT l0 L],um (0+1),jw (W0 w) [.cls (.q 0 1),.cls (.q 0 1)] [.lit (Value.bool false),.lit (Value.int IntKind.u64 0),.lit (Value.int IntKind.u64 0),.lit (Value.pointer none),.lit (Value.bool false),.lit (Value.int IntKind.u64 0),.lit (Value.int IntKind.u64 0),.lit (Value.pointer none)],Value.int IntKind.i64 3=Value.int IntKind.i64 3,jG (W0 w) (.q 0 1),jG (W0 w) (.q 0 1)]):=by kernel_rfl
theorem Fac_rng (hN:jr) (l0:Nat) (L:List T2) (a b:Int) (hl:L.length<=1000000) (hb:okI L=true) (hr:rngI a b=false):zy 11 [pT l0 L,pI a,pI b] (fun _=>[pS 0 1 0 1,pI 3]):=by
 intro w vs hG hp;refine yC hG hN (ex:=(exF0 l0 L true)) (cas hN hG (le_refl _) hl hb) (fn:=Tryz.f11) Tryz.func11 (c:=codeOf Tryz.f11) (by kernel_rfl) (args:=[pT l0 L,pI a,pI b]) (by kernel_rfl) hp (fun hR _ hA=>?_);unfold rngI at hr;rcases eq_false_or_eq_true (decide (0<=a)) with q1|q1
 ·rcases eq_false_or_eq_true (decide (a<=b)) with q2|q2
  ·rcases eq_false_or_eq_true (decide (b<=300)) with q3|q3
   ·rw[q1,q2,q3] at hr;cases hr
   ·exact jp (fr3 l0 L a b) (hR _ rfl) hA (by (repeat' (first|exact trivial|apply And.intro))<;>first|exact cE.refl _ _|exact fun _ _=>jw.refl _ _|exact cR rfl|exact cQ _ _|exact cP _ _|(with_reducible assumption)|omega|with_reducible rfl|(simp only[cF];omega)|(intro j hj;exact absurd hj (not_lt_zero _))|exact EB rfl rfl|rfl)
  ·exact jp (fr2 l0 L a b) (hR _ rfl) hA (by (repeat' (first|exact trivial|apply And.intro))<;>first|exact cE.refl _ _|exact fun _ _=>jw.refl _ _|exact cR rfl|exact cQ _ _|exact cP _ _|(with_reducible assumption)|omega|with_reducible rfl|(simp only[cF];omega)|(intro j hj;exact absurd hj (not_lt_zero _))|exact EB rfl rfl|rfl)
 ·exact jp (fr1 l0 L a b) (hR _ rfl) hA (by (repeat' (first|exact trivial|apply And.intro))<;>first|exact cE.refl _ _|exact fun _ _=>jw.refl _ _|exact cR rfl|exact cQ _ _|exact cP _ _|(with_reducible assumption)|omega|with_reducible rfl|(simp only[cF];omega)|(intro j hj;exact absurd hj (not_lt_zero _))|exact EB rfl rfl|rfl)
theorem Ka {L:List T2}(h:okI L=true):1<=L.length/\L.length<=40/\frm L 0=0/\(∀ i,i<L.length->bdI L i=false)/\∀ i,i+1<L.length->frm L i<frm L (i+1):=by
 unfold okI szI anyP Jv at h;simp only[and_eq_true,decide_eq_true_eq,Bool.not_eq_true',List.any_eq_false,List.all_eq_true,List.mem_range] at h;obtain⟨⟨⟨⟨h1,h2⟩,h3⟩,h4⟩,h5⟩:=h;refine⟨by omega,by omega,h3,fun i hi=>?_,fun i hi=>?_⟩
 ·have:=h4 i hi;cases hb:bdI L i with
  |false=>rfl
  |true=>rw[hb] at this;exact absurd rfl this
 ·exact h5 i (by omega)
theorem caz {L:List T2}(h:∀ i,i+1<L.length->frm L i<frm L (i+1)) {i:Nat}:∀ {j:Nat},i<j->j<L.length->frm L i<frm L j
 |0,h1,_=>absurd h1 (not_lt_zero _)
 |j+1,h1,h2=>by
  have h3:=h j h2;rcases Nat.lt_succ_iff_lt_or_eq.1 h1 with h4|rfl
  ·have:=caz h h4 (by omega);omega
  ·exact h3
theorem Ge {L:List T2}{v:Int}(hk:okI L=true) (h0:0<=v):atN L v<L.length/\frm L (atN L v)<=v/\∀ j,j<L.length->frm L j<=v->j<=atN L v:=by
 obtain⟨h1,h2,h3,h4,h5⟩:=Ka hk;unfold atN;split
 ·rename_i i hi;rw[List.find?_range_eq_some] at hi;obtain⟨h6,h7,h8⟩:=hi;have h7:=List.mem_range.1 h7;have h6:=of_decide_eq_true h6;have hi0:i≠0:=by rintro rfl;omega
  refine⟨by omega,?_,fun j hj hv=>?_⟩
  ·have:=h8 (i-1) (by omega);simp only[lat,Bool.not_eq_true',decide_eq_false_iff_not] at this;omega
  ·rcases lt_or_ge j i with h9|h9
   ·omega
   ·rcases Nat.lt_or_eq_of_le h9 with h9|rfl
    ·have:=caz h5 h9 hj;omega
    ·omega
 ·rename_i hi;rw[List.find?_eq_none] at hi;have:=hi (L.length-1) (List.mem_range.2 (by omega));simp only[lat,decide_eq_true_eq] at this;exact⟨by omega,by omega,fun j hj _=>by omega⟩
theorem Cq {L:List T2}{v u:Int}(hk:okI L=true) (h0:0<=v) (h:v<=u):atN L v<=atN L u:=by
 obtain⟨h1,h2,_⟩:=Ge hk h0;exact(Ge hk (v:=u) (by omega)).2.2 _ h1 (by omega)
theorem cdZ {f : Nat → T2} : ∀ {n : Nat}, 1 ≤ n → mnI f n < n ∧ ∀ j, j < n → (f (mnI f n)).2 ≤ (f j).2
  | 0, h => absurd h (by omega)
  | n + 1, _ => by
    rcases eq_zero_or_pos n with rfl | hn
    · exact ⟨by simp [mnI], fun j hj => by obtain rfl : j = 0 := by omega
                                           exact Rat.le_refl⟩
    · obtain ⟨h1, h2⟩ := cdZ (f := f) hn
      by_cases h : jU (f n).2 (f (mnI f n)).2 < 0
      · rw [mnI_t hn h]
        have h3 := cdi.1 h
        refine ⟨by omega, fun j hj => ?_⟩
        rcases Nat.lt_succ_iff_lt_or_eq.1 hj with h4 | rfl
        · have := h2 j h4; grind
        · exact Rat.le_refl
      · rw [mnI_f hn h]
        have h3 : ¬ (f n).2 < (f (mnI f n)).2 := fun x => h (cdi.2 x)
        refine ⟨by omega, fun j hj => ?_⟩
        rcases Nat.lt_succ_iff_lt_or_eq.1 hj with h4 | rfl
        · exact h2 j h4
        · grind
theorem cdj {r s:Rat}:jU r s>0↔s<r:=by
 unfold jU;by_cases h:r<s
 ·rw[if_pos h];exact⟨fun x=>absurd x (by decide),fun x=>absurd x (by grind)⟩
 ·rw[if_neg h];by_cases h2:s<r
  ·rw[if_pos h2];exact⟨fun _=>h2,fun _=>by decide⟩
  ·rw[if_neg h2];exact⟨fun x=>absurd x (by decide),fun x=>absurd x h2⟩
theorem cdL {f : Nat → T2} : ∀ {n : Nat}, 1 ≤ n → mxI f n < n ∧ ∀ j, j < n → (f j).2 ≤ (f (mxI f n)).2
  | 0, h => absurd h (by omega)
  | n + 1, _ => by
    rcases eq_zero_or_pos n with rfl | hn
    · exact ⟨by simp [mxI], fun j hj => by obtain rfl : j = 0 := by omega
                                           exact Rat.le_refl⟩
    · obtain ⟨h1, h2⟩ := cdL (f := f) hn
      by_cases h : jU (f n).2 (f (mxI f n)).2 > 0
      · rw [mxI_t hn h]
        have h3 := cdj.1 h
        refine ⟨by omega, fun j hj => ?_⟩
        rcases Nat.lt_succ_iff_lt_or_eq.1 hj with h4 | rfl
        · have := h2 j h4; grind
        · exact Rat.le_refl
      · rw [mxI_f hn h]
        have h3 : ¬ (f (mxI f n)).2 < (f n).2 := fun x => h (cdj.2 x)
        refine ⟨by omega, fun j hj => ?_⟩
        rcases Nat.lt_succ_iff_lt_or_eq.1 hj with h4 | rfl
        · exact h2 j h4
        · grind
abbrev fcF (L:List T2) (a:Int) (j:Nat):T2:=L.getD (atN L a+j) default
abbrev fcN (L:List T2) (a b:Int):Nat:=atN L b+1-atN L a
def mnQ (L:List T2) (a b:Int):Rat:=(fcF L a (mnI (fcF L a) (fcN L a b))).2
def mxQ (L:List T2) (a b:Int):Rat:=(fcF L a (mxI (fcF L a) (fcN L a b))).2
def conAtT (l0:Nat) (L:List T2):Con
 |[p,.one (.lit (.int .i64 v))]=>some (vr (.int .i64 (atN L v:Nat)),[p=pT l0 L,0<=v])
 |_=>none
abbrev exF1 (l0:Nat) (L:List T2) (a b:Int):List (Nat×Con):=(47,conAtT l0 L)::(50,CE [pTf l0 (fcN L a b) (fcF L a),pF 48] (UX [pE (fcF L a (mnI (fcF L a) (fcN L a b))).1 (fcF L a (mnI (fcF L a) (fcN L a b))).2 4]))::(51,CE [pTf l0 (fcN L a b) (fcF L a),pF 48] (UX [pE (fcF L a (mxI (fcF L a) (fcN L a b))).1 (fcF L a (mxI (fcF L a) (fcN L a b))).2 4]))::exF0 l0 L true
theorem exF1_ok {lo l0:Nat}{w0:World}{L:List T2}{a b:Int}(hN:jr) (hG:Gr w0) (hlo:lo<=w0.heap.size) (hk:okI L=true) (h0:0<=a) (hab:a<=b):EN true lo w0 (exF1 l0 L a b):=by
 obtain⟨h1,h2,h3,_⟩:=Ka hk;have hm:=Cq hk h0 hab;have hb:=(Ge hk (v:=b) (by omega)).1;have e1:1<=fcN L a b/\fcN L a b<=1000000:=by show 1<=atN L b+1-atN L a/\atN L b+1-atN L a<=1000000;omega
 refine ji (fun l r ob h ho=>?_) (ji (kp (mn_ent hN hG hlo e1.2 e1.1)) (ji (kp (mx_ent hN hG hlo e1.2 e1.1)) (cas hN hG hlo (by omega) hk)));unfold conAtT at h;split at h
 ·rename_i v;injection h with h;injection h with h1' h2';subst h1';subst h2'
  rw[show _=pT l0 L from ho.1];have hv:0<=v:=ho.2.1;exact(at_ok hN l0 L v (by omega) h1 (by omega)).val hG hlo (enters_of Tryz.func47 (by kernel_rfl) rfl)
 ·cases h
theorem fo1 {w:World}(l0:Nat) (L:List T2) (a b:Int):runR w ⟨[(11,13,true),(11,17,true),(11,21,true),(76,21,false),(76,28,true)],[],exF1 l0 L a b⟩ 11 51 Tryz.f11 kFactors11_ (stA [pT l0 L,pI a,pI b]) [pS (mnQ L a b) 4 (mxQ L a b) 4,pI 0]=some (.ret,[decide (0<=a)=true,decide (a<=b)=true,decide (b<=300)=true,[Pat.one (Grp.cls (Dx.ls (lst l0 35 5 L fI)))]=[pT l0 L],um (0+1),um (0+1+1),Pat.one (Grp.cls (Dx.ls (lst l0 35 5 L fI)))=pT l0 L,0<=a,Pat.one (Grp.cls (Dx.ls (lst l0 35 5 L fI)))=pT l0 L,0<=b,um ((↑(atN L b):Int)+1),(some (atN L a)).getD 0<(some (atN L b+1)).getD L.length,(some (atN L b+1)).getD L.length<=L.length,[Pat.one (Grp.cls (Dx.ls { lo:=l0,ty:=35,z:=5,n:=(some (atN L b+1)).getD L.length-(some (atN L a)).getD 0,g:=fun(j:Nat)=>fI (L.getD ((some (atN L a)).getD 0+j) default) })),Pat.one (Grp.lit (Value.func (Fn.func 48) #[] #[]))]=[pTf l0 (fcN L a b) (fcF L a),pF 48],[Pat.one (Grp.cls (Dx.ls { lo:=l0,ty:=35,z:=5,n:=(some (atN L b+1)).getD L.length-(some (atN L a)).getD 0,g:=fun(j:Nat)=>fI (L.getD ((some (atN L a)).getD 0+j) default) })),Pat.one (Grp.lit (Value.func (Fn.func 48) #[] #[]))]=[pTf l0 (fcN L a b) (fcF L a),pF 48],4+4<=1000000,decide (jU (fcF L a (mxI (fcF L a) (fcN L a b))).2 (fcF L a (mnI (fcF L a) (fcN L a b))).2<0)=false,4+4<=1000000,decide (jU (fcF L a (mxI (fcF L a) (fcN L a b))).2 (fcF L a (mnI (fcF L a) (fcN L a b))).2>0)=true,um (0+1),cE (W0 w) (.q (mnQ L a b) 4) (.q (fcF L a (mnI (fcF L a) (fcN L a b))).2 4),cE (W0 w) (.q (mxQ L a b) 4) (.q (fcF L a (mxI (fcF L a) (fcN L a b))).2 4),Value.int IntKind.i64 0=Value.int IntKind.i64 0,jG (W0 w) (.q (mnQ L a b) 4),jG (W0 w) (.q (mxQ L a b) 4)]):=by kernel_rfl
theorem fo2 {w:World}(l0:Nat) (L:List T2) (a b:Int):runR w ⟨[(11,13,true),(11,17,true),(11,21,true),(76,21,false),(76,28,false)],[],exF1 l0 L a b⟩ 11 51 Tryz.f11 kFactors11_ (stA [pT l0 L,pI a,pI b]) [pS (mnQ L a b) 4 (mxQ L a b) 4,pI 0]=some (.ret,[decide (0<=a)=true,decide (a<=b)=true,decide (b<=300)=true,[Pat.one (Grp.cls (Dx.ls (lst l0 35 5 L fI)))]=[pT l0 L],um (0+1),um (0+1+1),Pat.one (Grp.cls (Dx.ls (lst l0 35 5 L fI)))=pT l0 L,0<=a,Pat.one (Grp.cls (Dx.ls (lst l0 35 5 L fI)))=pT l0 L,0<=b,um ((↑(atN L b):Int)+1),(some (atN L a)).getD 0<(some (atN L b+1)).getD L.length,(some (atN L b+1)).getD L.length<=L.length,[Pat.one (Grp.cls (Dx.ls { lo:=l0,ty:=35,z:=5,n:=(some (atN L b+1)).getD L.length-(some (atN L a)).getD 0,g:=fun(j:Nat)=>fI (L.getD ((some (atN L a)).getD 0+j) default) })),Pat.one (Grp.lit (Value.func (Fn.func 48) #[] #[]))]=[pTf l0 (fcN L a b) (fcF L a),pF 48],[Pat.one (Grp.cls (Dx.ls { lo:=l0,ty:=35,z:=5,n:=(some (atN L b+1)).getD L.length-(some (atN L a)).getD 0,g:=fun(j:Nat)=>fI (L.getD ((some (atN L a)).getD 0+j) default) })),Pat.one (Grp.lit (Value.func (Fn.func 48) #[] #[]))]=[pTf l0 (fcN L a b) (fcF L a),pF 48],4+4<=1000000,decide (jU (fcF L a (mxI (fcF L a) (fcN L a b))).2 (fcF L a (mnI (fcF L a) (fcN L a b))).2<0)=false,4+4<=1000000,decide (jU (fcF L a (mxI (fcF L a) (fcN L a b))).2 (fcF L a (mnI (fcF L a) (fcN L a b))).2>0)=false,um (0+1),cE (W0 w) (.q (mnQ L a b) 4) (.q (fcF L a (mnI (fcF L a) (fcN L a b))).2 4),cE (W0 w) (.q (mxQ L a b) 4) (.q (fcF L a (mnI (fcF L a) (fcN L a b))).2 4),Value.int IntKind.i64 0=Value.int IntKind.i64 0,jG (W0 w) (.q (mnQ L a b) 4),jG (W0 w) (.q (mxQ L a b) 4)]):=by kernel_rfl
theorem ciy {L:List T2}{a b:Int}(hk:okI L=true) (h0:0<=a) (hab:a<=b):mnQ L a b<=mxQ L a b:=by
 have hm:=Cq hk h0 hab;have e1:1<=fcN L a b:=by show 1<=atN L b+1-atN L a;omega
 obtain⟨h1,h2⟩:=cdZ (f:=fcF L a) (n:=fcN L a b) e1;exact h2 _ (cdL (f:=fcF L a) (n:=fcN L a b) e1).1
theorem Fac_ok (hN:jr) (l0:Nat) (L:List T2) (a b:Int) (hb:okI L=true) (h0:0<=a) (hab:a<=b) (hb3:b<=300):zy 11 [pT l0 L,pI a,pI b] (fun _=>[pS (mnQ L a b) 4 (mxQ L a b) 4,pI 0]):=by
 intro w vs hG hp;refine yC hG hN (ex:=(exF1 l0 L a b)) (exF1_ok hN hG (le_refl _) hb h0 hab) (fn:=Tryz.f11) Tryz.func11 (c:=codeOf Tryz.f11) (by kernel_rfl) (args:=[pT l0 L,pI a,pI b]) (by kernel_rfl) hp (fun hR _ hA=>?_);obtain⟨h1,h2,h3,_⟩:=Ka hb;have hm:=Cq hb h0 hab;have hB:=(Ge hb (v:=b) (by omega)).1;have hle:=ciy hb h0 hab;have hb0:0<=b:=by omega
 have z1:decide (jU (mxQ L a b) (mnQ L a b)<0)=false:=decide_eq_false fun h=>by have:=cdi.1 h;grind
 rcases eq_false_or_eq_true (decide (jU (mxQ L a b) (mnQ L a b)>0)) with z2|z2
 ·exact jp (fo1 l0 L a b) (hR _ rfl) hA (by (repeat' (first|exact trivial|apply And.intro))<;>first|exact cE.refl _ _|exact fun _ _=>jw.refl _ _|exact cR rfl|exact cQ _ _|exact cP _ _|(with_reducible assumption)|omega|with_reducible rfl|(simp only[cF];omega)|(intro j hj;exact absurd hj (not_lt_zero _))|exact decide_eq_true h0|exact decide_eq_true hab|exact decide_eq_true hb3|exact EK rfl (by omega)|(simp only[getD_some];omega)|exact z1|exact z2|rfl)
 ·have e:mnQ L a b=mxQ L a b:=by
   have h:=of_decide_eq_false z2;have h:¬ mnQ L a b<mxQ L a b:=fun x=>h (cdj.2 x);grind
  exact jp (fo2 l0 L a b) (hR _ rfl) hA (by (repeat' (first|exact trivial|apply And.intro))<;>first|exact cE.refl _ _|exact fun _ _=>jw.refl _ _|exact cR rfl|exact cQ _ _|exact cP _ _|(with_reducible assumption)|omega|with_reducible rfl|(simp only[cF];omega)|(intro j hj;exact absurd hj (not_lt_zero _))|exact decide_eq_true h0|exact decide_eq_true hab|exact decide_eq_true hb3|exact EK rfl (by omega)|(simp only[getD_some];omega)|exact z1|exact z2|exact EK e (le_refl _)|rfl)
end Pe
namespace Pe
noncomputable def kTable12_:List Kp:=[.code (codeOf Tryz.f12)]
noncomputable def kTable12_n:List Kp:=next kTable12_
noncomputable def kTable12_nt:List Kp:=kTable12_n.tail
noncomputable def kTable12_nl:List Kp:=[.code (ub kTable12_n)]
noncomputable def kEnds53_:List Kp:=[.code (codeOf Tryz.f53)]
noncomputable def kEnds53_n:List Kp:=next kEnds53_
noncomputable def kEnds53_nl:List Kp:=[.code (ub kEnds53_n)]
noncomputable def kFactors15_:List Kp:=[.code (codeOf Tryz.f15)]
noncomputable def kFactors15_n:List Kp:=next kFactors15_
noncomputable def kFactors15_nl:List Kp:=[.code (ub kFactors15_n)]
noncomputable def kFactors15_nln:List Kp:=next kFactors15_nl
noncomputable def kFactors15_nlnn:List Kp:=next kFactors15_nln
noncomputable def kFactors15_nlnnl:List Kp:=[.code (ub kFactors15_nlnn)]
noncomputable def kEnds53_nt:List Kp:=kEnds53_n.tail
noncomputable def kFactors15_nlnnt:List Kp:=kFactors15_nlnn.tail
noncomputable def kFactors15_nlnntn:List Kp:=next kFactors15_nlnnt
noncomputable def kFactors15_nt:List Kp:=kFactors15_n.tail
abbrev fJ (x:T2):List (Grp Dx):=[.lit (ii x.1),.cls (.rq x.2 4)]
abbrev pU (lo:Nat) (L:List T2):Pat Dx:=.one (.cls (.ls (lst lo 42 4 L fJ)))
theorem cbi {L:List T2}(h1:anyP L.length (bdI L)=false) (h2:Jv L=true):okI L=(decide ((L.length:Int)>=1)&&decide ((L.length:Int)<=40)&&decide (frm L 0=0)):=by
 unfold okI;rw[h1,h2,Bool.not_false,Bool.and_true,Bool.and_true]
theorem cez {L:List T2}{i:Nat}(hi:i<L.length) (h:bdI L i=true):okI L=false:=by
 unfold okI;rw[cgA hi h,Bool.not_true,Bool.and_false,Bool.false_and]
theorem okI_asc {L:List T2}{i:Nat}(hi:i<L.length) (h0:0<i) (h:decide (frm L (i-1)>=frm L i)=true):okI L=false:=by
 have h1:=of_decide_eq_true h;have:Jv L=false:=WO (i:=i-1) (by omega) (decide_eq_false (by rw[Nat.sub_add_cancel h0];omega));unfold okI;rw[this,Bool.and_false]
theorem bdI_1 {L:List T2}{i:Nat}(h:decide (frm L i>300)=true):bdI L i=true:=by unfold bdI;rw[h];rfl
theorem bdI_2 {L:List T2}{i:Nat}(h:decide (jE (fac L i)<0)=true):bdI L i=true:=by unfold bdI;rw[h,Bool.or_true]
theorem bdI_0 {L:List T2}{i:Nat}(h:decide (frm L i>300)=false) (h':decide (jE (fac L i)<0)=false):bdI L i=false:=by unfold bdI;rw[h,h'];rfl
abbrev rtI (lo:Nat) (L:List T2) (i:Nat):St Dx:=⟨1,[(0,.val (.one (.sym 0 0))),(3,.val (.one (.lit (ii (i:Int)))))],[(0,.cls (.ls (lst lo 42 4 L fJ)))],[]⟩
theorem rta {w:World}(l0:Nat) (L:List T2):run w ⟨[],[],[]⟩ 12 58 kTable12_ (stA [pU l0 L]) (rtI l0 L 0)=some (.normal,[cE (W0 w) (.ls (lst l0 42 4 L fJ)) (.ls (lst l0 42 4 L fJ)),ii (↑0:Int)=Value.int IntKind.i64 0]):=by kernel_rfl
noncomputable abbrev rtzR (w:World) (l0:Nat) (L:List T2) (i:Nat) (o:List (Nat×Nat×Bool)):=runR w ⟨o,[],[]⟩ 12 58 Tryz.f12 kTable12_nt (rtI l0 L i) (rB (okI L))
theorem rtz0 {w:World}(l0:Nat) (L:List T2) (i:Nat):rtzR w l0 L i [(12,45,true),(12,49,true),(12,56,true)]=some (.ret,[decide ((L.length:Int)>=1)=true,decide ((L.length:Int)<=40)=true,0<L.length,0<L.length,decide ((L.getD 0 default).1=0)=true,Value.bool (okI L)=Value.bool true]):=by kernel_rfl
theorem rtz1 {w:World}(l0:Nat) (L:List T2) (i:Nat):rtzR w l0 L i [(12,45,true),(12,49,true),(12,56,false)]=some (.ret,[decide ((L.length:Int)>=1)=true,decide ((L.length:Int)<=40)=true,0<L.length,0<L.length,decide ((L.getD 0 default).1=0)=false,Value.bool (okI L)=Value.bool false]):=by kernel_rfl
theorem rtz2 {w:World}(l0:Nat) (L:List T2) (i:Nat):rtzR w l0 L i [(12,45,true),(12,49,false)]=some (.ret,[decide ((L.length:Int)>=1)=true,decide ((L.length:Int)<=40)=false,Value.bool (okI L)=Value.bool false]):=by kernel_rfl
theorem rtz3 {w:World}(l0:Nat) (L:List T2) (i:Nat):rtzR w l0 L i [(12,45,false)]=some (.ret,[decide ((L.length:Int)>=1)=false,Value.bool (okI L)=Value.bool false]):=by kernel_rfl
noncomputable abbrev rtbTe0 (w:World) (l0:Nat) (L:List T2) (i:Nat) (o:List (Nat×Nat×Bool)):=run w ⟨o,[],[]⟩ 12 58 kTable12_nl (rtI l0 L i) (rtI l0 L i)
noncomputable abbrev rtbTnal (w:World) (l0:Nat) (L:List T2) (i:Nat) (o:List (Nat×Nat×Bool)):=run w ⟨o,[],[]⟩ 12 58 kTable12_nl (rtI l0 L i) (rtI l0 L (i+1))
noncomputable abbrev rtbR (w:World) (l0:Nat) (L:List T2) (i:Nat) (o:List (Nat×Nat×Bool)):=runR w ⟨o,[],[]⟩ 12 58 Tryz.f12 kTable12_nl (rtI l0 L i) (rB (okI L))
theorem rtb0 {w:World}(l0:Nat) (L:List T2) (i:Nat):rtbR w l0 L i [(12,7,true),(12,15,true),(12,31,true)]=some (.ret,[decide ((i:Int)<(L.length:Int))=true,i<L.length,i<L.length,decide ((L.getD i default).1>300)=true,Value.bool (okI L)=Value.bool false]):=by kernel_rfl
theorem rtb1 {w:World}(l0:Nat) (L:List T2) (i:Nat):rtbR w l0 L i [(12,7,true),(12,15,false),(12,23,true),(12,31,true)]=some (.ret,[decide ((i:Int)<(L.length:Int))=true,i<L.length,i<L.length,decide ((L.getD i default).1>300)=false,i<L.length,i<L.length,decide (jE (L.getD i default).2<0)=true,Value.bool (okI L)=Value.bool false]):=by kernel_rfl
theorem rtb2 {w:World}(l0:Nat) (L:List T2) (i:Nat):rtbR w l0 L i [(12,7,true),(12,15,false),(12,23,false),(12,27,true),(12,40,true),(12,31,true)]=some (.ret,[decide ((i:Int)<(L.length:Int))=true,i<L.length,i<L.length,decide ((L.getD i default).1>300)=false,i<L.length,i<L.length,decide (jE (L.getD i default).2<0)=false,decide ((i:Int)>0)=true,1<=i,i<=1000000000,i-1<L.length,i-1<L.length,i<L.length,i<L.length,decide ((L.getD (i-1) default).1>=(L.getD i default).1)=true,Value.bool (okI L)=Value.bool false]):=by kernel_rfl
theorem rtb3 {w:World}(l0:Nat) (L:List T2) (i:Nat):rtbTnal w l0 L i [(12,7,true),(12,15,false),(12,23,false),(12,27,true),(12,40,false),(12,31,true)]=some (.normal,[decide ((i:Int)<(L.length:Int))=true,i<L.length,i<L.length,decide ((L.getD i default).1>300)=false,i<L.length,i<L.length,decide (jE (L.getD i default).2<0)=false,decide ((i:Int)>0)=true,1<=i,i<=1000000000,i-1<L.length,i-1<L.length,i<L.length,i<L.length,decide ((L.getD (i-1) default).1>=(L.getD i default).1)=false,um ((i:Int)+1),cE (W0 w) (.ls (lst l0 42 4 L fJ)) (.ls (lst l0 42 4 L fJ)),ii (↑(i+1):Int)=Value.int IntKind.i64 ((i:Int)+1)]):=by kernel_rfl
theorem rtb4 {w:World}(l0:Nat) (L:List T2) (i:Nat):rtbTnal w l0 L i [(12,7,true),(12,15,false),(12,23,false),(12,27,false),(12,31,true)]=some (.normal,[decide ((i:Int)<(L.length:Int))=true,i<L.length,i<L.length,decide ((L.getD i default).1>300)=false,i<L.length,i<L.length,decide (jE (L.getD i default).2<0)=false,decide ((i:Int)>0)=false,um ((i:Int)+1),cE (W0 w) (.ls (lst l0 42 4 L fJ)) (.ls (lst l0 42 4 L fJ)),ii (↑(i+1):Int)=Value.int IntKind.i64 ((i:Int)+1)]):=by kernel_rfl
theorem rtb5 {w:World}(l0:Nat) (L:List T2) (i:Nat):rtbTe0 w l0 L i [(12,7,false),(12,31,true)]=some (.exit 0,[decide ((i:Int)<(L.length:Int))=false,cE (W0 w) (.ls (lst l0 42 4 L fJ)) (.ls (lst l0 42 4 L fJ)),ii (i:Int)=ii (i:Int)]):=by kernel_rfl
theorem cgg (hN:jr) (l0:Nat) (L:List T2) (hl:L.length<=1000000):zy 12 [pU l0 L] (fun _=>rB (okI L)):=by
 intro w vs hG hp;refine yC hG hN (ex:=[]) kA (fn:=Tryz.f12) Tryz.func12 (c:=codeOf Tryz.f12) (by kernel_rfl) (args:=[pU l0 L]) (by kernel_rfl) hp (fun hR _ hA=>?_);refine jV (rta l0 L) (hR _ rfl) hA (fun a w1 hA=>uT ?_);refine uW (fun i=>rtI l0 L i) (fun i=>i<=L.length/\(∀ k,k<i->bdI L k=false)/\∀ k,k<i->0<k->frm L (k-1)<frm L k) (fun i=>L.length-i) (L:=kTable12_n) (ks:=kTable12_nt) (id:=0) (c:=ub kTable12_n) (by kernel_rfl) 0 ⟨zero_le _,by omega,by omega⟩ hA (fun i a2 w2 hi hA=>?_);have rest:∀ a w1,At (W0 w) 58 (rtI l0 L i) a w1->anyP L.length (bdI L)=false->Jv L=true->after Fence.wide 0 Tryz.prog kTable12_nt (Ret (W0 w) Tryz.f12 (Res (W0 w) (rB (okI L)))) .normal a w1:=by
  intro a w1 hA hs hs';rcases eq_false_or_eq_true (decide ((L.length:Int)>=1)) with q45|q45
  ·skip
   have p45:=of_decide_eq_true q45;rcases eq_false_or_eq_true (decide ((L.length:Int)<=40)) with q49|q49
   ·skip
    have p49:=of_decide_eq_true q49;rcases eq_false_or_eq_true (decide (frm L 0=0)) with q56|q56
    ·skip
     have p56:=of_decide_eq_true q56;refine jp (rtz0 l0 L i) (hR _ rfl) hA (by (repeat' (first|exact trivial|apply And.intro))<;>first|exact cE.refl _ _|exact fun _ _=>jw.refl _ _|exact cR rfl|exact cQ _ _|exact cP _ _|(with_reducible assumption)|omega|with_reducible rfl|(simp only[cF];omega)|(intro j hj;exact absurd hj (not_lt_zero _))|(refine congrArg Value.bool ((cbi hs hs').trans ?_);rw[q45];first|rfl|(rw[q49];first|rfl|(rw[q56];rfl)))|rfl)
    ·skip
     have p56:=of_decide_eq_false q56;refine jp (rtz1 l0 L i) (hR _ rfl) hA (by (repeat' (first|exact trivial|apply And.intro))<;>first|exact cE.refl _ _|exact fun _ _=>jw.refl _ _|exact cR rfl|exact cQ _ _|exact cP _ _|(with_reducible assumption)|omega|with_reducible rfl|(simp only[cF];omega)|(intro j hj;exact absurd hj (not_lt_zero _))|(refine congrArg Value.bool ((cbi hs hs').trans ?_);rw[q45];first|rfl|(rw[q49];first|rfl|(rw[q56];rfl)))|rfl)
   ·skip
    have p49:=of_decide_eq_false q49;refine jp (rtz2 l0 L i) (hR _ rfl) hA (by (repeat' (first|exact trivial|apply And.intro))<;>first|exact cE.refl _ _|exact fun _ _=>jw.refl _ _|exact cR rfl|exact cQ _ _|exact cP _ _|(with_reducible assumption)|omega|with_reducible rfl|(simp only[cF];omega)|(intro j hj;exact absurd hj (not_lt_zero _))|(refine congrArg Value.bool ((cbi hs hs').trans ?_);rw[q45];first|rfl|(rw[q49];first|rfl|(rw[q56];rfl)))|rfl)
  ·skip
   have p45:=of_decide_eq_false q45;refine jp (rtz3 l0 L i) (hR _ rfl) hA (by (repeat' (first|exact trivial|apply And.intro))<;>first|exact cE.refl _ _|exact fun _ _=>jw.refl _ _|exact cR rfl|exact cQ _ _|exact cP _ _|(with_reducible assumption)|omega|with_reducible rfl|(simp only[cF];omega)|(intro j hj;exact absurd hj (not_lt_zero _))|(refine congrArg Value.bool ((cbi hs hs').trans ?_);rw[q45];first|rfl|(rw[q49];first|rfl|(rw[q56];rfl)))|rfl)
 rcases eq_false_or_eq_true (decide ((i:Int)<(L.length:Int))) with q7|q7
 ·skip
  have p7:=of_decide_eq_true q7;rcases eq_false_or_eq_true (decide (frm L i>300)) with q15|q15
  ·skip
   have p15:=of_decide_eq_true q15;have e0:=congrArg Value.bool (cez (i:=i) (by omega) (bdI_1 q15));refine jp (rtb0 l0 L i) (hR _ rfl) hA
  ·skip
   have p15:=of_decide_eq_false q15;rcases eq_false_or_eq_true (decide (jE (fac L i)<0)) with q23|q23
   ·skip
    have p23:=of_decide_eq_true q23;have e0:=congrArg Value.bool (cez (i:=i) (by omega) (bdI_2 q23));refine jp (rtb1 l0 L i) (hR _ rfl) hA
   ·skip
    have p23:=of_decide_eq_false q23;rcases eq_false_or_eq_true (decide ((i:Int)>0)) with q27|q27
    ·skip
     have p27:=of_decide_eq_true q27;rcases eq_false_or_eq_true (decide (frm L (i-1)>=frm L i)) with q40|q40
     ·skip
      have p40:=of_decide_eq_true q40;have e0:=congrArg Value.bool (okI_asc (i:=i) (by omega) (by omega) q40);refine jp (rtb2 l0 L i) (hR _ rfl) hA
     ·skip
      have p40:=of_decide_eq_false q40;refine jV (rtb3 l0 L i) (hR _ rfl) hA (fun aT wT hT=>?_);exact ka (by kernel_rfl) ⟨i+1,⟨by omega,fun k hk=>by rcases Nat.lt_succ_iff_lt_or_eq.1 hk with h|rfl;exact hi.2.1 k h;exact bdI_0 q15 q23,fun k hk h0=>by rcases Nat.lt_succ_iff_lt_or_eq.1 hk with h|rfl;exact hi.2.2 k h h0;first|omega|exact Int.not_le.1 p40⟩,hT,by omega⟩
    ·skip
     have p27:=of_decide_eq_false q27;refine jV (rtb4 l0 L i) (hR _ rfl) hA (fun aT wT hT=>?_);exact ka (by kernel_rfl) ⟨i+1,⟨by omega,fun k hk=>by rcases Nat.lt_succ_iff_lt_or_eq.1 hk with h|rfl;exact hi.2.1 k h;exact bdI_0 q15 q23,fun k hk h0=>by rcases Nat.lt_succ_iff_lt_or_eq.1 hk with h|rfl;exact hi.2.2 k h h0;first|omega|exact Int.not_le.1 p40⟩,hT,by omega⟩
 ·skip
  have p7:=of_decide_eq_false q7;refine jV (rtb5 l0 L i) (hR _ rfl) hA (fun aT wT hT=>?_);refine kG _ (by kernel_rfl) ?_;exact rest _ _ hT (cdc fun k hk=>hi.2.1 k (by omega)) (Zv fun k hk=>decide_eq_true (hi.2.2 (k+1) (by omega) (by omega)))
def mnF (f:Nat->Rat):Nat->Rat
 |0=>f 0
 |k+1=>Sym.minQ (mnF f k) (f (k+1))
def mxF (f:Nat->Rat):Nat->Rat
 |0=>f 0
 |k+1=>Sym.maxQ (mxF f k) (f (k+1))
abbrev LR (lo n:Nat) (f:Nat->Rat):Lt Dx:=⟨lo,39,3,n,fun j=>[.cls (.rq (f j) 4)]⟩
abbrev pRf (lo n:Nat) (f:Nat->Rat):Pat Dx:=.one (.cls (.ls (LR lo n f)))
abbrev pSR (r s:Rat):Pat Dx:=.agg [.cls (.rq r 4),.cls (.rq s 4)]
abbrev zR:List AC:=[.lit (.bool false),.lit (.slice none 0 0),.lit (.slice none 0 0),.lit (.bool false),.lit (.slice none 0 0),.lit (.slice none 0 0)]
abbrev reS (lo n:Nat) (f:Nat->Rat) (k:Nat):St Dx:=⟨5,[(0,.val (.one (.sym 0 0))),(2,.val (.one (.ptr 1 0))),(3,.val (.one (.ptr 2 0))),(4,.val (.one (.lit (ii ((k+1:Nat):Int)))))],[(0,.cls (.ls (LR lo n f))),(1,.blk 52 zR none),(2,.blk 52 [.sym 3 0,.sym 3 1,.sym 3 2,.sym 4 0,.sym 4 1,.sym 4 2] none),(3,.cls (.rq (mnF f k) 4)),(4,.cls (.rq (mxF f k) 4))],[]⟩
theorem ren {w:World}(l0 n:Nat) (f:Nat->Rat):run w ⟨[],[],[]⟩ 53 34 kEnds53_ (stA [pRf l0 n f]) (reS l0 n f 0)=some (.normal,[0<n,0<n,0<n,0<n,cE (W0 w) (.ls (LR l0 n f)) (.ls (LR l0 n f)),Value.bool false=Value.bool false,Value.slice none 0 0=Value.slice none 0 0,Value.slice none 0 0=Value.slice none 0 0,Value.bool false=Value.bool false,Value.slice none 0 0=Value.slice none 0 0,Value.slice none 0 0=Value.slice none 0 0,cE (W0 w) (.rq (mnF f 0) 4) (.rq (f 0) 4),cE (W0 w) (.rq (mxF f 0) 4) (.rq (f 0) 4),0=0,0=0,ii (↑(0+1):Int)=Value.int IntKind.i64 1]):=by kernel_rfl
theorem reo {w:World}(l0 n:Nat) (f:Nat->Rat) (k:Nat):runR w ⟨[],[],[]⟩ 53 34 Tryz.f53 kEnds53_nt (reS l0 n f k) [pSR (mnF f k) (mxF f k)]=some (.ret,[cE (W0 w) (.rq (mnF f k) 4) (.rq (mnF f k) 4),cE (W0 w) (.rq (mxF f k) 4) (.rq (mxF f k) 4),jG (W0 w) (.rq (mnF f k) 4),jG (W0 w) (.rq (mxF f k) 4)]):=by kernel_rfl
noncomputable abbrev rezTe0 (w:World) (l0 n:Nat) (f:Nat->Rat) (k:Nat) (o:List (Nat×Nat×Bool)):=run w ⟨o,[],[]⟩ 53 34 kEnds53_nl (reS l0 n f k) (reS l0 n f k)
noncomputable abbrev rezTnal (w:World) (l0 n:Nat) (f:Nat->Rat) (k:Nat) (o:List (Nat×Nat×Bool)):=run w ⟨o,[],[]⟩ 53 34 kEnds53_nl (reS l0 n f k) (reS l0 n f (k+1))
theorem rez0 {w:World}(l0 n:Nat) (f:Nat->Rat) (k:Nat):rezTnal w l0 n f k [(53,15,true)]=some (.normal,[decide ((↑(k+1):Int)<(n:Int))=true,k+1<n,k+1<n,4<=5000/\4=4,k+1<n,k+1<n,4<=5000/\4=4,um ((↑(k+1):Int)+1),cE (W0 w) (.ls (LR l0 n f)) (.ls (LR l0 n f)),Value.bool false=Value.bool false,Value.slice none 0 0=Value.slice none 0 0,Value.slice none 0 0=Value.slice none 0 0,Value.bool false=Value.bool false,Value.slice none 0 0=Value.slice none 0 0,Value.slice none 0 0=Value.slice none 0 0,cE (W0 w) (.rq (mnF f (k+1)) 4) (.rq (Sym.minQ (mnF f k) (f (k+1))) 4),cE (W0 w) (.rq (mxF f (k+1)) 4) (.rq (Sym.maxQ (mxF f k) (f (k+1))) 4),0=0,0=0,ii (↑(k+1+1):Int)=Value.int IntKind.i64 ((↑(k+1):Int)+1)]):=by kernel_rfl
theorem rez1 {w:World}(l0 n:Nat) (f:Nat->Rat) (k:Nat):rezTe0 w l0 n f k [(53,15,false)]=some (.exit 0,[decide ((↑(k+1):Int)<(n:Int))=false,cE (W0 w) (.ls (LR l0 n f)) (.ls (LR l0 n f)),Value.bool false=Value.bool false,Value.slice none 0 0=Value.slice none 0 0,Value.slice none 0 0=Value.slice none 0 0,Value.bool false=Value.bool false,Value.slice none 0 0=Value.slice none 0 0,Value.slice none 0 0=Value.slice none 0 0,cE (W0 w) (.rq (mnF f k) 4) (.rq (mnF f k) 4),cE (W0 w) (.rq (mxF f k) 4) (.rq (mxF f k) 4),0=0,0=0,ii (↑(k+1):Int)=ii (↑(k+1):Int)]):=by kernel_rfl
theorem cib (hN:jr) (l0 n:Nat) (f:Nat->Rat) (hl:n<=1000000) (h1:1<=n):zy 53 [pRf l0 n f] (fun _=>[pSR (mnF f (n-1)) (mxF f (n-1))]):=by
 intro w vs hG hp;refine yC hG hN (ex:=[]) kA (fn:=Tryz.f53) Tryz.func53 (c:=codeOf Tryz.f53) (by kernel_rfl) (args:=[pRf l0 n f]) (by kernel_rfl) hp (fun hR _ hA=>?_);refine jV (ren l0 n f) (hR _ rfl) hA (fun a w1 hA=>uT ?_);refine uW (fun k=>reS l0 n f k) (fun k=>k<n) (fun k=>n-k) (L:=kEnds53_n) (ks:=kEnds53_nt) (id:=0) (c:=ub kEnds53_n) (by kernel_rfl) 0 (by omega) hA (fun k a2 w2 hk hA=>?_);rcases eq_false_or_eq_true (decide (((k+1:Nat):Int)<(n:Int))) with q15|q15
 ·skip
  have p15:=of_decide_eq_true q15;refine jV (rez0 l0 n f k) (hR _ rfl) hA (fun aT wT hT=>?_);exact ka (by kernel_rfl) ⟨k+1,by omega,hT,by omega⟩
 ·skip
  have p15:=of_decide_eq_false q15;refine jV (rez1 l0 n f k) (hR _ rfl) hA (fun aT wT hT=>?_);refine kG _ (by kernel_rfl) ?_;obtain rfl:k=n-1:=by omega
  exact jp (reo l0 n f (n-1)) (hR _ rfl) hT
def aR (L:List T2) (v:Int):Nat->Nat
 |0=>0
 |i+1=>if frm L i<=v then i else aR L v i
theorem aR_t {L:List T2}{v:Int}{i:Nat}(h:frm L i<=v):aR L v (i+1)=i:=if_pos h
theorem aR_f {L:List T2}{v:Int}{i:Nat}(h:¬ frm L i<=v):aR L v (i+1)=aR L v i:=if_neg h
theorem aR_lt (L:List T2) (v:Int):∀ i,aR L v i<=i-1
 |0=>le_refl _
 |i+1=>by
  have:=aR_lt L v i;by_cases h:frm L i<=v
  ·rw[aR_t h];exact le_refl _
  ·rw[aR_f h];omega
abbrev fq (L:List T2) (a:Int) (j:Nat):Rat:=fac L (aR L (a+j) L.length)
abbrev roS (lo:Nat) (L:List T2) (a b:Int) (n:Nat) (k:Nat):List (Nat×AV):=[(0,.val (.one (.sym 0 0))),(2,.val (.one (.lit (ii b)))),(6,.val (.one (.ptr 2 0))),(7,.val (.one (.fn 1))),(8,.val (.one (.lit (ii (a+(k:Int))))))]
abbrev roM (lo:Nat) (L:List T2) (a:Int) (n:Nat):Ws Dx:=[(0,.cls (.ls (lst lo 42 4 L fJ))),(1,.gl 39 3 n (fun j=>[.cls (.rq (fq L a j) 4)])),(2,.blk 52 zR none)]
abbrev roI (lo:Nat) (L:List T2) (a b:Int) (n k:Nat):St Dx:=⟨3,roS lo L a b n k,roM lo L a n,[]⟩
abbrev riI (lo:Nat) (L:List T2) (a b:Int) (k i:Nat):St Dx:=⟨3,roS lo L a b k k++[(9,.val (.one (.lit (ii ((aR L (a+(k:Int)) i:Nat):Int))))),(10,.val (.one (.lit (ii (i:Int)))))],roM lo L a k,[]⟩
theorem roa {w:World}(l0:Nat) (L:List T2) (a b:Int):run w ⟨[],[],[]⟩ 15 42 kFactors15_ (stA [pU l0 L,pI a,pI b]) (roI l0 L a b 0 0)=some (.normal,[cE (W0 w) (.ls (lst l0 42 4 L fJ)) (.ls (lst l0 42 4 L fJ)),0=0,∀ (j:Nat),j<0->jw (W0 w) [Grp.cls (Dx.rq (fq L a j) 4)] [],Value.bool false=Value.bool false,Value.slice none 0 0=Value.slice none 0 0,Value.slice none 0 0=Value.slice none 0 0,Value.bool false=Value.bool false,Value.slice none 0 0=Value.slice none 0 0,Value.slice none 0 0=Value.slice none 0 0,ii b=Value.int IntKind.i64 b,0=0,ii (a+(↑0:Int))=Value.int IntKind.i64 a]):=by kernel_rfl
theorem rob1 {w:World}(l0:Nat) (L:List T2) (a b:Int) (k:Nat):run w ⟨[(15,15,true)],[],[]⟩ 15 42 kFactors15_nl (roI l0 L a b k k) (roI l0 L a b k k)=some (.normal,[decide (a+(k:Int)<=b)=true,cE (W0 w) (.ls (lst l0 42 4 L fJ)) (.ls (lst l0 42 4 L fJ)),k=k,∀ (j:Nat),j<k->jw (W0 w) [Grp.cls (Dx.rq (fq L a j) 4)] [Grp.cls (Dx.rq (fq L a j) 4)],Value.bool false=Value.bool false,Value.slice none 0 0=Value.slice none 0 0,Value.slice none 0 0=Value.slice none 0 0,Value.bool false=Value.bool false,Value.slice none 0 0=Value.slice none 0 0,Value.slice none 0 0=Value.slice none 0 0,ii b=ii b,0=0,ii (a+(k:Int))=ii (a+(k:Int))]):=by kernel_rfl
theorem rob2 {w:World}(l0:Nat) (L:List T2) (a b:Int) (k:Nat):run w ⟨[(15,15,false)],[],[]⟩ 15 42 kFactors15_nl (roI l0 L a b k k) (roI l0 L a b k k)=some (.exit 0,[decide (a+(k:Int)<=b)=false,cE (W0 w) (.ls (lst l0 42 4 L fJ)) (.ls (lst l0 42 4 L fJ)),k=k,∀ (j:Nat),j<k->jw (W0 w) [Grp.cls (Dx.rq (fq L a j) 4)] [Grp.cls (Dx.rq (fq L a j) 4)],Value.bool false=Value.bool false,Value.slice none 0 0=Value.slice none 0 0,Value.slice none 0 0=Value.slice none 0 0,Value.bool false=Value.bool false,Value.slice none 0 0=Value.slice none 0 0,Value.slice none 0 0=Value.slice none 0 0,ii b=ii b,0=0,ii (a+(k:Int))=ii (a+(k:Int))]):=by kernel_rfl
theorem roc {w:World}(l0:Nat) (L:List T2) (a b:Int) (k:Nat):run w ⟨[],[],[]⟩ 15 42 kFactors15_nln (roI l0 L a b k k) (riI l0 L a b k 0)=some (.normal,[cE (W0 w) (.ls (lst l0 42 4 L fJ)) (.ls (lst l0 42 4 L fJ)),k=k,∀ (j:Nat),j<k->jw (W0 w) [Grp.cls (Dx.rq (fq L a j) 4)] [Grp.cls (Dx.rq (fq L a j) 4)],Value.bool false=Value.bool false,Value.slice none 0 0=Value.slice none 0 0,Value.slice none 0 0=Value.slice none 0 0,Value.bool false=Value.bool false,Value.slice none 0 0=Value.slice none 0 0,Value.slice none 0 0=Value.slice none 0 0,ii b=ii b,0=0,ii (a+(k:Int))=ii (a+(k:Int)),ii (↑(aR L (a+(k:Int)) 0):Int)=Value.int IntKind.i64 0,ii (↑0:Int)=Value.int IntKind.i64 0]):=by kernel_rfl
theorem rod {w:World}(l0:Nat) (L:List T2) (a b:Int) (k:Nat):run w ⟨[],[],[]⟩ 15 42 kFactors15_nlnnt (riI l0 L a b k L.length) (roI l0 L a b (k+1) k)=some (.normal,[aR L (a+(k:Int)) L.length<L.length,aR L (a+(k:Int)) L.length<L.length,k+1<=1000000,cE (W0 w) (.ls (lst l0 42 4 L fJ)) (.ls (lst l0 42 4 L fJ)),k+1=k+1,∀ (j:Nat),j<k+1->jw (W0 w) [Grp.cls (Dx.rq (fq L a j) 4)] (UR k (fun(j:Nat)=>[Grp.cls (Dx.rq (fq L a j) 4)]) (fun(x:Nat)=>[Grp.cls (Dx.rq (L.getD (aR L (a+(k:Int)) L.length) default).2 4)]) j),Value.bool false=Value.bool false,Value.slice none 0 0=Value.slice none 0 0,Value.slice none 0 0=Value.slice none 0 0,Value.bool false=Value.bool false,Value.slice none 0 0=Value.slice none 0 0,Value.slice none 0 0=Value.slice none 0 0,ii b=ii b,0=0,ii (a+(k:Int))=ii (a+(k:Int))]):=by kernel_rfl
theorem roe {w:World}(l0:Nat) (L:List T2) (a b:Int) (k:Nat):run w ⟨[],[],[]⟩ 15 42 kFactors15_nlnntn (roI l0 L a b (k+1) k) (roI l0 L a b (k+1) (k+1))=some (.normal,[um (a+(k:Int)+1),cE (W0 w) (.ls (lst l0 42 4 L fJ)) (.ls (lst l0 42 4 L fJ)),k+1=k+1,∀ (j:Nat),j<k+1->jw (W0 w) [Grp.cls (Dx.rq (fq L a j) 4)] [Grp.cls (Dx.rq (fq L a j) 4)],Value.bool false=Value.bool false,Value.slice none 0 0=Value.slice none 0 0,Value.slice none 0 0=Value.slice none 0 0,Value.bool false=Value.bool false,Value.slice none 0 0=Value.slice none 0 0,Value.slice none 0 0=Value.slice none 0 0,ii b=ii b,0=0,ii (a+(↑(k+1):Int))=Value.int IntKind.i64 (a+(k:Int)+1)]):=by kernel_rfl
abbrev exRE (lo n:Nat) (f:Nat->Rat):List (Nat×Con):=[(53,CE [pRf lo n f] (UX [pSR (mnF f (n-1)) (mxF f (n-1))]))]
theorem exRE_ok {lo n:Nat}{w0:World}{f:Nat->Rat}(hN:jr) (hG:Gr w0) (hlo:lo<=w0.heap.size) (hl:n<=1000000) (h1:1<=n):EN true lo w0 (exRE lo n f) :=
 ji (kp ((cib hN lo n f hl h1).ent hG hlo (enters_of Tryz.func53 (by kernel_rfl) rfl) (fun _ _=>⟨_,rfl,cE.refl _ _,cE.refl _ _,trivial⟩))) kA
theorem rof {w:World}(l0:Nat) (L:List T2) (a b:Int) (k:Nat):runR w ⟨[],[],exRE w.heap.size k (fq L a)⟩ 15 42 Tryz.f15 kFactors15_nt (roI l0 L a b k k) [pSR (mnF (fq L a) (k-1)) (mxF (fq L a) (k-1))]=some (.ret,[[Pat.one (Grp.cls (Dx.ls { lo:=w.1.size,ty:=39,z:=3,n:=k,g:=fun(j:Nat)=>[Grp.cls (Dx.rq (fq L a j) 4)] }))]=[pRf w.1.size k (fq L a)],cE (W0 w) (.rq (mnF (fq L a) (k-1)) 4) (.rq (mnF (fq L a) (k-1)) 4),cE (W0 w) (.rq (mxF (fq L a) (k-1)) 4) (.rq (mxF (fq L a) (k-1)) 4),jG (W0 w) (.rq (mnF (fq L a) (k-1)) 4),jG (W0 w) (.rq (mxF (fq L a) (k-1)) 4)]):=by kernel_rfl
noncomputable abbrev rogTe2 (w:World) (l0:Nat) (L:List T2) (a b:Int) (k i:Nat) (o:List (Nat×Nat×Bool)):=run w ⟨o,[],[]⟩ 15 42 kFactors15_nlnnl (riI l0 L a b k i) (riI l0 L a b k i)
noncomputable abbrev rogTnal (w:World) (l0:Nat) (L:List T2) (a b:Int) (k i:Nat) (o:List (Nat×Nat×Bool)):=run w ⟨o,[],[]⟩ 15 42 kFactors15_nlnnl (riI l0 L a b k i) (riI l0 L a b k (i+1))
theorem rog0 {w:World}(l0:Nat) (L:List T2) (a b:Int) (k i:Nat):rogTnal w l0 L a b k i [(15,21,true),(15,30,true)]=some (.normal,[decide ((i:Int)<(L.length:Int))=true,i<L.length,i<L.length,decide ((L.getD i default).1<=a+(k:Int))=true,um ((i:Int)+1),cE (W0 w) (.ls (lst l0 42 4 L fJ)) (.ls (lst l0 42 4 L fJ)),k=k,∀ (j:Nat),j<k->jw (W0 w) [Grp.cls (Dx.rq (fq L a j) 4)] [Grp.cls (Dx.rq (fq L a j) 4)],Value.bool false=Value.bool false,Value.slice none 0 0=Value.slice none 0 0,Value.slice none 0 0=Value.slice none 0 0,Value.bool false=Value.bool false,Value.slice none 0 0=Value.slice none 0 0,Value.slice none 0 0=Value.slice none 0 0,ii b=ii b,0=0,ii (a+(k:Int))=ii (a+(k:Int)),ii (↑(aR L (a+(k:Int)) (i+1)):Int)=ii (i:Int),ii (↑(i+1):Int)=Value.int IntKind.i64 ((i:Int)+1)]):=by kernel_rfl
theorem rog1 {w:World}(l0:Nat) (L:List T2) (a b:Int) (k i:Nat):rogTnal w l0 L a b k i [(15,21,true),(15,30,false)]=some (.normal,[decide ((i:Int)<(L.length:Int))=true,i<L.length,i<L.length,decide ((L.getD i default).1<=a+(k:Int))=false,um ((i:Int)+1),cE (W0 w) (.ls (lst l0 42 4 L fJ)) (.ls (lst l0 42 4 L fJ)),k=k,∀ (j:Nat),j<k->jw (W0 w) [Grp.cls (Dx.rq (fq L a j) 4)] [Grp.cls (Dx.rq (fq L a j) 4)],Value.bool false=Value.bool false,Value.slice none 0 0=Value.slice none 0 0,Value.slice none 0 0=Value.slice none 0 0,Value.bool false=Value.bool false,Value.slice none 0 0=Value.slice none 0 0,Value.slice none 0 0=Value.slice none 0 0,ii b=ii b,0=0,ii (a+(k:Int))=ii (a+(k:Int)),ii (↑(aR L (a+(k:Int)) (i+1)):Int)=ii (↑(aR L (a+(k:Int)) i):Int),ii (↑(i+1):Int)=Value.int IntKind.i64 ((i:Int)+1)]):=by kernel_rfl
theorem rog2 {w:World}(l0:Nat) (L:List T2) (a b:Int) (k i:Nat):rogTe2 w l0 L a b k i [(15,21,false)]=some (.exit 2,[decide ((i:Int)<(L.length:Int))=false,cE (W0 w) (.ls (lst l0 42 4 L fJ)) (.ls (lst l0 42 4 L fJ)),k=k,∀ (j:Nat),j<k->jw (W0 w) [Grp.cls (Dx.rq (fq L a j) 4)] [Grp.cls (Dx.rq (fq L a j) 4)],Value.bool false=Value.bool false,Value.slice none 0 0=Value.slice none 0 0,Value.slice none 0 0=Value.slice none 0 0,Value.bool false=Value.bool false,Value.slice none 0 0=Value.slice none 0 0,Value.slice none 0 0=Value.slice none 0 0,ii b=ii b,0=0,ii (a+(k:Int))=ii (a+(k:Int)),ii (↑(aR L (a+(k:Int)) i):Int)=ii (↑(aR L (a+(k:Int)) i):Int),ii (i:Int)=ii (i:Int)]):=by kernel_rfl
theorem cbS (hN:jr) (l0:Nat) (L:List T2) (a b:Int) (hl:L.length<=1000000) (h1:1<=L.length) (h0:0<=a) (hab:a<=b) (hb3:b<=300):zy 15 [pU l0 L,pI a,pI b] (fun _=>[pSR (mnF (fq L a) (b-a).toNat) (mxF (fq L a) (b-a).toNat)]):=by
 intro w vs hG hp;refine yC hG hN (ex:=[]) kA (fn:=Tryz.f15) Tryz.func15 (c:=codeOf Tryz.f15) (by kernel_rfl) (args:=[pU l0 L,pI a,pI b]) (by kernel_rfl) hp (fun hR _ hA=>?_);refine jV (roa l0 L a b) (hR _ rfl) hA (fun _ w1 hA=>uT ?_) (by (repeat' (first|exact trivial|apply And.intro))<;>first|exact cE.refl _ _|exact fun _ _=>jw.refl _ _|exact cR rfl|exact cQ _ _|exact cP _ _|(with_reducible assumption)|omega|with_reducible rfl|(simp only[cF];omega)|(intro j hj;exact absurd hj (not_lt_zero _))|(intro j hj;exact absurd hj (not_lt_zero _))|exact congrArg (Value.int .i64) (Int.add_zero a)|rfl);refine uW (fun k=>roI l0 L a b k k) (fun k=>a+(k:Int)<=b+1) (fun k=>(b+1-a).toNat-k) (L:=kFactors15_n) (ks:=kFactors15_nt) (id:=0) (c:=ub kFactors15_n) (by kernel_rfl) 0 (by omega) hA (fun k a2 w2 hk hA=>?_);rcases eq_false_or_eq_true (decide (a+(k:Int)<=b)) with q15|q15
 ·have p15:=of_decide_eq_true q15;refine jV (rob1 l0 L a b k) (hR _ rfl) hA (fun aT wT hT=>uT ?_);refine jV (roc l0 L a b k) (hR _ rfl) hT (fun aT wT hT=>uT ?_);refine uW (fun i=>riI l0 L a b k i) (fun i=>i<=L.length) (fun i=>L.length-i) (L:=kFactors15_nlnn) (ks:=kFactors15_nlnnt) (id:=2) (c:=ub kFactors15_nlnn) (by kernel_rfl) 0 (zero_le _) hT (fun i a3 w3 hi hA=>?_);have hal:=aR_lt L (a+(k:Int)) i;rcases eq_false_or_eq_true (decide ((i:Int)<(L.length:Int))) with q21|q21
  ·skip
   have p21:=of_decide_eq_true q21;rcases eq_false_or_eq_true (decide (frm L i<=a+(k:Int))) with q30|q30
   ·skip
    have p30:=of_decide_eq_true q30;have e1:=aR_t p30;refine jV (rog0 l0 L a b k i) (hR _ rfl) hA (fun aT wT hT=>?_) (by (repeat' (first|exact trivial|apply And.intro))<;>first|exact cE.refl _ _|exact fun _ _=>jw.refl _ _|exact cR rfl|exact cQ _ _|exact cP _ _|(with_reducible assumption)|omega|with_reducible rfl|(simp only[cF];omega)|(intro j hj;exact absurd hj (not_lt_zero _))|exact congrArg (fun n:Nat=>Value.int .i64 (n:Int)) e1|rfl);exact ka (by kernel_rfl) ⟨i+1,by omega,hT,by omega⟩
   ·skip
    have p30:=of_decide_eq_false q30;have e1:=aR_f p30;refine jV (rog1 l0 L a b k i) (hR _ rfl) hA (fun aT wT hT=>?_) (by (repeat' (first|exact trivial|apply And.intro))<;>first|exact cE.refl _ _|exact fun _ _=>jw.refl _ _|exact cR rfl|exact cQ _ _|exact cP _ _|(with_reducible assumption)|omega|with_reducible rfl|(simp only[cF];omega)|(intro j hj;exact absurd hj (not_lt_zero _))|exact congrArg (fun n:Nat=>Value.int .i64 (n:Int)) e1|rfl);exact ka (by kernel_rfl) ⟨i+1,by omega,hT,by omega⟩
  ·skip
   have p21:=of_decide_eq_false q21;refine jV (rog2 l0 L a b k i) (hR _ rfl) hA (fun aT wT hT=>?_) (by (repeat' (first|exact trivial|apply And.intro))<;>first|exact cE.refl _ _|exact fun _ _=>jw.refl _ _|exact cR rfl|exact cQ _ _|exact cP _ _|(with_reducible assumption)|omega|with_reducible rfl|(simp only[cF];omega)|(intro j hj;exact absurd hj (not_lt_zero _))|exact congrArg (fun n:Nat=>Value.int .i64 (n:Int)) e1|rfl);refine kG _ (by kernel_rfl) ?_;obtain rfl:i=L.length:=by omega
   refine jV (rod l0 L a b k) (hR _ rfl) hT (fun aT wT hT=>uT ?_);refine jV (roe l0 L a b k) (hR _ rfl) hT (fun aT wT hT=>ka (by kernel_rfl) ⟨k+1,by omega,hT,by omega⟩) (by (repeat' (first|exact trivial|apply And.intro))<;>first|exact cE.refl _ _|exact fun _ _=>jw.refl _ _|exact cR rfl|exact cQ _ _|exact cP _ _|(with_reducible assumption)|omega|with_reducible rfl|(simp only[cF];omega)|(intro j hj;exact absurd hj (not_lt_zero _))|exact congrArg (Value.int .i64) (show a+((k+1:Nat):Int)=a+(k:Int)+1 by omega)|rfl)
 ·have p15:=of_decide_eq_false q15;refine jV (rob2 l0 L a b k) (hR _ rfl) hA (fun aT wT hT=>kG _ (by kernel_rfl) ?_);have hk1:k=(b-a).toNat+1:=by omega
  have hRe:=(fun(o:Opt) (ho:o.ex=exRE w.heap.size k (fq L a))=>cbm (le_refl _) hG hN (by rw[ho];exact exRE_ok hN hG (le_refl _) (by omega) (by omega)):∀ o:Opt,o.ex=exRE w.heap.size k (fq L a)->Ck (W0 w) (TY o));have hk2:(b-a).toNat=k-1:=by omega
  rw[hk2];exact jp (rof l0 L a b k) (hRe _ rfl) hT
end Pe
end Go.Proofs.YtobfdjojhfpakaaGreatDoor
