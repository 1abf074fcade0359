/- Part 30. -/
import Derived.Test.YtokieocpdcngcaaGreatDoorZ29
set_option linter.all false
open Bool (eq_false_or_eq_true)
open List (mem_cons)
open Nat (le_refl)
noncomputable section

namespace Go.Proofs.YtokieocpdcngcaaGreatDoor
open Go Go.RowKit Go.Proofs Lim
namespace Pe
noncomputable def kquotient69_:List Kp:=[.code (codeOf Tryz.f69)]
noncomputable def ktimes104_:List Kp:=[.code (codeOf Tryz.f104)]
noncomputable def kcompare105_:List Kp:=[.code (codeOf Tryz.f105)]
section
variable {bb:Bool}{lo:Nat}{w0:World}{f:Nat}{args:List (Pat Dx)}
theorem any_q {r:Rat}{k:Nat}(hG:Gr w0) (hE:Enters Tryz.prog f) (h:kX f args (fun _=>[pQ r k])):cZ (Cx bb lo w0) (.call f) args (qr r k):=by
 refine⟨hE,fun w vs hb hvs=>?_⟩;refine(h w vs (hG.below hb hG.size) (GN hvs)).2.mono ?_;rintro en w' ⟨v,rfl,h1,h2⟩;obtain⟨hq,hz⟩:=Js (p:=pQ r k) rfl (h2 (fun _=>False) (fun _ h=>h.elim) w' (le_refl _) (fun _ _ _=>rfl));exact⟨v,rfl,h1,rob_q hq hz⟩
theorem any_v {x:Value}(hG:Gr w0) (hE:Enters Tryz.prog f) (h:kX f args (fun _=>[.one (.lit x)])):cZ (Cx bb lo w0) (.call f) args (vr x):=by
 refine⟨hE,fun w vs hb hvs=>?_⟩;refine(h w vs (hG.below hb hG.size) (GN hvs)).2.mono ?_;rintro en w' ⟨v,rfl,h1,h2⟩;have h3:[v]=[x]:=h2 (fun _=>False) (fun _ h=>h.elim) w' (le_refl _) (fun _ _ _=>rfl);injection h3 with h3 _
 subst h3;exact⟨_,rfl,h1,EW⟩
theorem any_s {r s:Rat}{j k:Nat}(hG:Gr w0) (hE:Enters Tryz.prog f) (h:kX f args (fun _=>[pP r j s k])):cZ (Cx bb lo w0) (.call f) args (sr r j s k):=by
 refine⟨hE,fun w vs hb hvs=>?_⟩;refine(h w vs (hG.below hb hG.size) (GN hvs)).2.mono ?_;rintro en w' ⟨v,rfl,h1,h2⟩;obtain⟨hq,hz,hz'⟩:=UN (p:=pP r j s k) rfl (h2 (fun _=>False) (fun _ h=>h.elim) w' (le_refl _) (fun _ _ _=>rfl));exact⟨v,rfl,h1,rob_s hq hz hz'⟩
end
noncomputable abbrev quoR (w:World) (r s:Rat) (j k:Nat)   (o:List (Nat×Nat×Bool)):=runR w ⟨o,[],[]⟩ 69 14 Tryz.f69 kquotient69_ (stA [pQ r j,pQ s k]) [pQ (r/s) (j+k)]
theorem quo0 {w:World}(r s:Rat) (j k:Nat):quoR w r s j k []=some (.ret,[s.1≠0/\j+k<=1000000,sD w (.q (r/s) (j+k)),ky (W0 w) (.q (r/s) (j+k))]):=by kernel_rfl
theorem quo_ok (hN:cP) (r s:Rat) (j k:Nat) (h0:s.num≠0) (hk:j+k<=1000000):kX 69 [pQ r j,pQ s k] (fun _=>[pQ (r/s) (j+k)]):=by
 intro w vs hG hp;refine yk hG hN (ex:=[]) cR (fn:=Tryz.f69) Tryz.func69 (c:=codeOf Tryz.f69) (by kernel_rfl) (args:=[pQ r j,pQ s k]) (by kernel_rfl) hp (fun hR _ hA=>?_);refine jE (quo0 r s j k) (hR _ rfl) hA (by (repeat' (first|exact trivial|apply And.intro))<;>first|exact yS.refl _ _|exact fun _ _=>Cc.refl _ _|exact JY rfl|exact zD _ _|exact zx _ _|(with_reducible assumption)|omega|with_reducible rfl|(simp only[Wh];omega)|(intro j hj;exact absurd hj (Nat.not_lt_zero _))|exact⟨h0,hk⟩|rfl)
def cmpA (a b c d:Rat):Int:=if uu a c≠0 then uu a c else uu b d
noncomputable abbrev amtR (w:World) (a b x:Rat) (i j k:Nat)   (o:List (Nat×Nat×Bool)):=runR w ⟨o,[],[]⟩ 104 14 Tryz.f104 ktimes104_ (stA [pP a i b j,pQ x k]) [pP (a*x) (i+k) (b*x) (j+k)]
theorem amt0 {w:World}(a b x:Rat) (i j k:Nat):amtR w a b x i j k []=some (.ret,[i+k<=1000000,j+k<=1000000,sD w (.q (a*x) (i+k)),sD w (.q (b*x) (j+k)),ky (W0 w) (.q (a*x) (i+k)),ky (W0 w) (.q (b*x) (j+k))]):=by kernel_rfl
theorem amt_ok (hN:cP) (a b x:Rat) (i j k:Nat) (h1:i+k<=1000000) (h2:j+k<=1000000):kX 104 [pP a i b j,pQ x k] (fun _=>[pP (a*x) (i+k) (b*x) (j+k)]):=by
 intro w vs hG hp;refine yk hG hN (ex:=[]) cR (fn:=Tryz.f104) Tryz.func104 (c:=codeOf Tryz.f104) (by kernel_rfl) (args:=[pP a i b j,pQ x k]) (by kernel_rfl) hp (fun hR _ hA=>?_);refine jE (amt0 a b x i j k) (hR _ rfl) hA
noncomputable abbrev cmaR (w:World) (a b c d:Rat) (i j k l:Nat)   (o:List (Nat×Nat×Bool)):=runR w ⟨o,[],[]⟩ 105 19 Tryz.f105 kcompare105_ (stA [pP a i b j,pP c k d l]) (rI (cmpA a b c d))
theorem cma0 {w:World}(a b c d:Rat) (i j k l:Nat):cmaR w a b c d i j k l [(105,12,true)]=some (.ret,[i+k<=1000000,decide (uu a c≠0)=true,Value.int IntKind.i64 (cmpA a b c d)=Value.int IntKind.i64 (uu a c)]):=by kernel_rfl
theorem cma1 {w:World}(a b c d:Rat) (i j k l:Nat):cmaR w a b c d i j k l [(105,12,false)]=some (.ret,[i+k<=1000000,decide (uu a c≠0)=false,j+l<=1000000,Value.int IntKind.i64 (cmpA a b c d)=Value.int IntKind.i64 (uu b d)]):=by kernel_rfl
theorem cma_ok (hN:cP) (a b c d:Rat) (i j k l:Nat) (h1:i+k<=1000000) (h2:j+l<=1000000):kX 105 [pP a i b j,pP c k d l] (fun _=>rI (cmpA a b c d)):=by
 intro w vs hG hp;refine yk hG hN (ex:=[]) cR (fn:=Tryz.f105) Tryz.func105 (c:=codeOf Tryz.f105) (by kernel_rfl) (args:=[pP a i b j,pP c k d l]) (by kernel_rfl) hp (fun hR _ hA=>?_);rcases eq_false_or_eq_true (decide (uu a c≠0)) with q12|q12
 ·skip
  have p12:=of_decide_eq_true q12;have e0:=congrArg (Value.int .i64) (show cmpA a b c d=uu a c from if_pos p12);refine jE (cma0 a b c d i j k l) (hR _ rfl) hA
 ·skip
  have p12:=of_decide_eq_false q12;have e0:=congrArg (Value.int .i64) (show cmpA a b c d=uu b d from if_neg p12);refine jE (cma1 a b c d i j k l) (hR _ rfl) hA
def conQuo:Con:=q2 fun r j s k=>ck true (s.num≠0/\j+k<=1000000) (qr (r/s) (j+k))
def conAmt:Con:=sq fun a i b j x k=>ck true (i+k<=1000000/\j+k<=1000000) (sr (a*x) (i+k) (b*x) (j+k))
def conCma:Con:=s2 fun a i b j c k d l=>ck true (i+k<=1000000/\j+l<=1000000) (vr (.int .i64 (cmpA a b c d)))
def tabZ:List (Nat×Con):=[(69,conQuo),(104,conAmt),(105,conCma)]
def TZ:FuncId->Tab Dx:=fun _ _ h=>match h with
 |.call f=>match find f tabZ with
  |some F=>some F
  |none=>find f (tabX true)
 |.bs _ 0=>some (fun _=>none)
 |_=>none
theorem norm2 {r s:Rat}{j k:Nat}{p p':Pat Dx}(h:qOf p=some (r,j)) (h':qOf p'=some (s,k)) {C:Ctx Dx}{lo:Nat}{bb:Bool}{w0 w:World}(hC:C=Cx bb lo w0) {vs:List Value}(hv:cD C w [p,p'] vs):cD C w [pQ r j,pQ s k] vs:=by
 subst hC;obtain⟨v1,_,rfl,h1,v2,_,rfl,h2,rfl⟩:=hv;obtain⟨a1,z1⟩:=Js h h1;obtain⟨a2,z2⟩:=Js h' h2;exact⟨v1,_,rfl,Yj a1 z1,v2,_,rfl,Yj a2 z2,rfl⟩
theorem Ye {C:Ctx Dx}{f:Nat}{args args':List (Pat Dx)}{res:cK Dx}(h:∀ w vs,cD C w args vs->cD C w args' vs) (k:cZ C (.call f) args' res):cZ C (.call f) args res:=⟨k.1,fun w vs hb hv=>k.2 w vs hb (h w vs hv)⟩
section
variable {bb:Bool}{lo:Nat}{w0:World}
theorem tabZ_ok (hN:cP) (hG:Gr w0) {f:Nat}{F:Con}{args:List (Pat Dx)}{res:cK Dx}{ob:List Prop}(hF:find f tabZ=some F) (hres:F args=some (res,ob)) (ho:jc ob):cZ (Cx bb lo w0) (.call f) args res:=by
 have hm:=jG hF;simp only[tabZ,mem_cons,Prod.mk.injEq,List.not_mem_nil,or_false] at hm;rcases hm with⟨rfl,rfl⟩|⟨rfl,rfl⟩|⟨rfl,rfl⟩
 ·unfold conQuo q2 at hres;split at hres
  ·split at hres
   ·rename_i r j s k h1 h2;obtain⟨⟨g1,g2⟩,rfl⟩:=zd hres ho;exact Ye (fun w vs hv=>norm2 h1 h2 rfl hv) (any_q hG (enters_of Tryz.func69 (by kernel_rfl) rfl) (quo_ok hN r s j k g1 g2))
   ·cases hres
  ·cases hres
 ·unfold conAmt sq at hres;split at hres
  ·split at hres
   ·rename_i a i b j x k h1 h2;obtain⟨⟨g1,g2⟩,rfl⟩:=zd hres ho;refine Ye (args':=[pP a i b j,pQ x k]) (fun w vs hv=>?_) (any_s hG (enters_of Tryz.func104 (by kernel_rfl) rfl) (amt_ok hN a b x i j k g1 g2));obtain⟨v1,_,rfl,p1,v2,_,rfl,p2,rfl⟩:=hv;obtain⟨a1,z1,z2⟩:=UN h1 p1;obtain⟨a2,z3⟩:=Js h2 p2;exact⟨v1,_,rfl,ceG a1 z1 z2,v2,_,rfl,Yj a2 z3,rfl⟩
   ·cases hres
  ·cases hres
 ·unfold conCma s2 at hres;split at hres
  ·split at hres
   ·rename_i a i b j c k d l h1 h2;obtain⟨⟨g1,g2⟩,rfl⟩:=zd hres ho;refine Ye (args':=[pP a i b j,pP c k d l]) (fun w vs hv=>?_) (any_v hG (enters_of Tryz.func105 (by kernel_rfl) rfl) (cma_ok hN a b c d i j k l g1 g2));obtain⟨v1,_,rfl,p1,v2,_,rfl,p2,rfl⟩:=hv;obtain⟨a1,z1,z2⟩:=UN h1 p1;obtain⟨a2,z3,z4⟩:=UN h2 p2;exact⟨v1,_,rfl,ceG a1 z1 z2,v2,_,rfl,ceG a2 z3 z4,rfl⟩
   ·cases hres
  ·cases hres
theorem tz_ok (hN:cP) (hG:Gr w0) (g:FuncId):(TZ g).Ok (Cx bb lo w0):=by
 intro n hd F args res ob hF hres ho;unfold TZ at hF;split at hF
 ·split at hF
  ·rename_i h1;injection hF with hF;subst hF
   exact tabZ_ok hN hG h1 hres ho
  ·exact ceH hG hF hres ho
 ·injection hF with hF;subst hF
  cases hres
 ·cases hF
end
end Pe
end Go.Proofs.YtokieocpdcngcaaGreatDoor
