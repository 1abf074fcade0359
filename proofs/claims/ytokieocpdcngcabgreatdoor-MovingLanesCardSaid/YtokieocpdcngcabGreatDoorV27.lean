/- Part 27. -/
import Derived.Test.YtokieocpdcngcabGreatDoorV26
set_option linter.all false
open Bool (eq_false_or_eq_true)
open Nat (add_sub_cancel beq_refl eq_of_beq_eq_true le_of_ble_eq_true le_refl le_trans lt_or_ge not_lt_zero zero_le)
noncomputable section

namespace Go.Proofs.YtokieocpdcngcabGreatDoor
open Go Go.RowKit Go.Proofs
namespace Pe
variable {D:Type}
inductive Kp where
 |code (c:Code)
 |endB (id:Nat)
section
variable (F:Fence) (m:Nat) (P:Program)
def after:List Kp->(Exit->Act->World->Prop)->Exit->Act->World->Prop
 |[],Q=>Q
 |.code c::ks,Q=>Exit.then (fun a w=>c.wpIn F m P (after ks Q) a w) (after ks Q)
 |.endB id::ks,Q=>Exit.inBlock id (after ks Q)
end
def Cm:Code->Bool
 |.loop _=>true
 |.seq x y=>match Cm x with
  |true=>true
  |false=>Cm y
 |.block _ c=>Cm c
 |.cond _ c d=>match Cm c with
  |true=>true
  |false=>Cm d
 |_=>false
def isLoop:Code->Bool
 |.loop _=>true
 |_=>false
def ki:Nat->List Kp->List Code×List Kp
 |n+1,.code (.seq x y)::ks=>ki n (.code x::.code y::ks)
 |n+1,.code c::ks=>match Cm c with
  |true=>([],.code c::ks)
  |false=>match ki n ks with
   |(l,r)=>(c::l,r)
 |_,ks=>([],ks)
def Yt (ks:List Kp):List Code:=(ki 1000 ks).1
def Yx (ks:List Kp):List Kp:=(ki 1000 ks).2
def cbc:Nat->List Kp->List Kp
 |n+1,.endB _::ks=>cbc n ks
 |n+1,.code (.block id c)::ks=>match isLoop c with
  |true=>.code (.block id c)::ks
  |false=>match Cm c with
   |true=>cbc n (.code c::.endB id::ks)
   |false=>.code (.block id c)::ks
 |_,ks=>ks
def next (ks:List Kp):List Kp:=cbc 100 (Yx ks)
def kZ:List Kp->Code
 |.code (.block _ (.loop c))::_=>c
 |_=>.skip
def popK (j:Nat):List Kp->List Kp
 |.endB id::ks=>match Nat.beq j id with
  |true=>ks
  |false=>popK j ks
 |_::ks=>popK j ks
 |[]=>[]
def YI (j:Nat):List Kp->Bool
 |.endB id::ks=>match Nat.beq j id with
  |true=>true
  |false=>YI j ks
 |_::ks=>YI j ks
 |[]=>false
def zR (S:Stat D) (TT:FuncId->Tab D) (CF YF:cq D) (nt:Nat) (base:cB D) (fid:FuncId) (inR:Bool) (n:Nat):List Code->St D->Ran D
 |[],st=>some (.normal,st,[])
 |c::l,st=>match kQ S TT CF YF nt base fid inR n c st with
  |some (.normal,st',ob)=>match zR S TT CF YF nt base fid inR n l st' with
   |some (x,st2,ob2)=>some (x,st2,ob++ob2)
   |none=>none
  |r=>r
def cgy (C:Ctx D) (TT:FuncId->Tab D) (CF YF:cq D) (nt:Nat) (fid:FuncId) (inR:Bool) (n:Nat) (l:List Code) (st st':St D):Option (Xt×List Prop) :=
 match zR C.toStat TT CF YF nt (fun b=>find b st.m) fid inR n l ⟨st.nb,st.sl,[],st.ms⟩ with
 |some (x,s1,ob)=>match fitTo C (st.join s1) st' with
  |some ob2=>some (x,ob++ob2)
  |none=>none
 |none=>none
section
variable {F:Fence}{m:Nat}{C:Ctx D}{TT:FuncId->Tab D}{CF YF:cq D}{nt:Nat}{fid:FuncId}{inR:Bool}{Q:Exit->Act->World->Prop}{a:Act}{w:World}{st st':St D}
theorem Wg:∀ (ks:List Kp) {a:Act}{w:World},Q .ret a w->after F m C.P ks Q .ret a w
 |[],_,_,h=>h
 |.code _::ks,_,_,h=>Wg ks h
 |.endB _::ks,_,_,h=>Wg ks h
theorem jR {j:Nat}:∀ (ks:List Kp) {a:Act}{w:World},YI j ks=false->Q (.exit j) a w->after F m C.P ks Q (.exit j) a w
 |[],_,_,_,hq=>hq
 |.code _::ks,_,_,h,hq=>jR ks (by simpa [YI] using h) hq
 |.endB id::ks,_,_,h,hq=>by
  simp only[YI] at h;simp only[after,Exit.inBlock];split at h
  ·cases h
  ·rename_i hj;rw[if_neg (fun e=>by subst e;simp at hj)];exact jR ks h hq
theorem ccL (hW:Wd F) (hR:inR=false->F=Fence.wide) (hC:C.Ok) (hT:∀ f,(TT f).Ok C) (hF:CF.Ok C) (hFm:CF.Mono) (hY:uQ C YF) (hYm:YF.Mono) {e0:Env}{w0:World}{n0:Nat}{base:cB D}(hb:cP C e0 w0 base) {B:Nat}(hfree:kt n0 B e0) {n:Nat} :
 ∀ (k:Nat) (ks:List Kp) (st:St D) (x:Xt) (st':St D) (ob:List Prop),zR C.toStat TT CF YF nt base fid inR n (ki k ks).1 st=some (x,st',ob)->cU ob->st'.nb<=B->
 ∀ a w,Sat C nt e0 w0 n0 st a w->(∀ a' w',Sat C nt e0 w0 n0 st' a' w'->after F m C.P (ki k ks).2 Q x.to a' w')->after F m C.P ks Q .normal a w:=by
 have stop:∀ (ks:List Kp) (st:St D) (x:Xt) (st':St D) (ob:List Prop),zR C.toStat TT CF YF nt base fid inR n [] st=some (x,st',ob)->∀ a w,Sat C nt e0 w0 n0 st a w->(∀ a' w',Sat C nt e0 w0 n0 st' a' w'->after F m C.P ks Q x.to a' w')->after F m C.P ks Q .normal a w:=by
  intro ks st x st' ob h a w hs hQ;simp only[zR,Option.some.injEq,Prod.mk.injEq] at h;obtain⟨rfl,rfl,rfl⟩:=h;exact hQ a w hs
 have one:∀ (k:Nat) (c:Code) (ks:List Kp) (ih:∀ (st:St D) (x:Xt) (st':St D) (ob:List Prop),zR C.toStat TT CF YF nt base fid inR n (ki k ks).1 st=some (x,st',ob)->cU ob->st'.nb<=B->
  ∀ a w,Sat C nt e0 w0 n0 st a w->(∀ a' w',Sat C nt e0 w0 n0 st' a' w'->after F m C.P (ki k ks).2 Q x.to a' w')->after F m C.P ks Q .normal a w) (out:∀ (x:Xt) a w,x≠.normal->after F m C.P (ki k ks).2 Q x.to a w->after F m C.P ks Q x.to a w)
  (hle:∀ st x st' ob,zR C.toStat TT CF YF nt base fid inR n (ki k ks).1 st=some (x,st',ob)->st.nb<=st'.nb)
  (st:St D) (x:Xt) (st':St D) (ob:List Prop),zR C.toStat TT CF YF nt base fid inR n (c::(ki k ks).1) st=some (x,st',ob)->cU ob->st'.nb<=B->
  ∀ a w,Sat C nt e0 w0 n0 st a w->(∀ a' w',Sat C nt e0 w0 n0 st' a' w'->after F m C.P (ki k ks).2 Q x.to a' w')->c.wpIn F m C.P (after F m C.P ks Q) a w:=by
  intro k c ks ih out hle st x st' ob h ho hB a w hs hQ;simp only[zR] at h;split at h
  ·rename_i st1 ob1 h1;split at h
   ·rename_i x2 st2 ob2 h2;injection h with h;simp only[Prod.mk.injEq] at h
    obtain⟨rfl,rfl,rfl⟩:=h;obtain⟨o1,o2⟩:=ho.append;refine wpIn_mono (jE hW hR hC hT hF hFm hY hYm hb hfree n c st _ st1 ob1 h1 o1 (le_trans (hle _ _ _ _ h2) hB) a w hs) ?_;rintro e a' w' ⟨rfl,hs'⟩;exact ih st1 x2 st2 ob2 h2 o2 hB a' w' hs' hQ
   ·cases h
  ·rename_i hne;refine wpIn_mono (jE hW hR hC hT hF hFm hY hYm hb hfree n c st _ _ _ h ho hB a w hs) ?_;rintro e a' w' ⟨rfl,hs'⟩;exact out x a' w' (fun hx=>by subst hx;exact hne _ _ h) (hQ a' w' hs')
 have outs:∀ (k:Nat) (ks:List Kp) (x:Xt) a w,x≠.normal->after F m C.P (ki k ks).2 Q x.to a w->after F m C.P ks Q x.to a w:=by
  intro k
  induction k with
  |zero=>intro ks x a w _ h;cases ks<;>exact h
  |succ k ih =>
   intro ks x a w hx h
   match ks with
   |[]=>exact h
   |.endB id::ks=>exact h
   |.code c::ks =>
    have pass:∀ (c:Code) (ks:List Kp),after F m C.P ks Q x.to a w->after F m C.P (.code c::ks) Q x.to a w:=by
     intro c ks h;cases x with
     |normal=>exact absurd rfl hx
     |exit j=>exact h
     |ret=>exact h
    have gen:∀ c:Code,(∀ x y,c≠.seq x y)->after F m C.P (ki (k+1) (.code c::ks)).2 Q x.to a w->after F m C.P (.code c::ks) Q x.to a w:=by
     intro c hc h;have hg:ki (k+1) (.code c::ks)=(match Cm c with
      |true=>([],.code c::ks)
      |false=>match ki k ks with
       |(l,r)=>(c::l,r)):=by
      cases c<;>first|rfl|exact absurd rfl (hc _ _)
     rw[hg] at h;split at h
     ·exact h
     ·exact pass c ks (ih ks x a w hx h)
    cases c with
    |seq y z =>
     have:=ih (.code y::.code z::ks) x a w hx h;cases x with
     |normal=>exact absurd rfl hx
     |exit j=>exact this
     |ret=>exact this
    |_=>exact gen _ (by simp) h
 have les:∀ (l:List Code) (st:St D) (x:Xt) (st':St D) (ob:List Prop),zR C.toStat TT CF YF nt base fid inR n l st=some (x,st',ob)->st.nb<=st'.nb:=by
  intro l
  induction l with
  |nil=>intro st x st' ob h;simp only[zR,Option.some.injEq,Prod.mk.injEq] at h;rw[h.2.1];exact le_refl _
  |cons c l ih =>
   intro st x st' ob h;simp only[zR] at h;split at h
   ·rename_i st1 ob1 h1;split at h
    ·rename_i x2 st2 ob2 h2;injection h with h;simp only[Prod.mk.injEq] at h
     obtain⟨rfl,rfl,rfl⟩:=h;exact le_trans (kd hFm hYm _ _ _ _ _ _ h1) (ih _ _ _ _ h2)
    ·cases h
   ·exact kd hFm hYm _ _ _ _ _ _ h
 intro k
 induction k with
 |zero=>intro ks st x st' ob h ho hB a w hs hQ;cases ks<;>exact stop _ st x st' ob h a w hs hQ
 |succ k ih =>
  intro ks st x st' ob h ho hB a w hs hQ
  match ks with
  |[]=>exact stop _ st x st' ob h a w hs hQ
  |.endB id::ks=>exact stop _ st x st' ob h a w hs hQ
  |.code c::ks =>
   have gen:∀ c:Code,(∀ x y,c≠.seq x y)->zR C.toStat TT CF YF nt base fid inR n (ki (k+1) (.code c::ks)).1 st=some (x,st',ob)->(∀ a' w',Sat C nt e0 w0 n0 st' a' w'->after F m C.P (ki (k+1) (.code c::ks)).2 Q x.to a' w')->after F m C.P (.code c::ks) Q .normal a w:=by
    intro c hc h hQ;have hg:ki (k+1) (.code c::ks)=(match Cm c with
     |true=>([],.code c::ks)
     |false=>match ki k ks with
      |(l,r)=>(c::l,r)):=by
     cases c<;>first|rfl|exact absurd rfl (hc _ _)
    rw[hg] at h hQ;split at h
    ·rename_i hl;rw[hl] at hQ;exact stop _ st x st' ob h a w hs hQ
    ·rename_i hl;rw[hl] at hQ;exact one k c ks (ih ks) (outs k ks) (les _) st x st' ob h ho hB a w hs hQ
   cases c with
   |seq y z =>
    show (Code.seq y z).wpIn F m C.P (after F m C.P ks Q) a w;apply wpIn_seq;exact ih (.code y::.code z::ks) st x st' ob h ho hB a w hs hQ
   |_=>exact gen _ (by simp) h hQ
theorem cca (hR:uF C TT) (hW:Wd F) (hI:inR=false->F=Fence.wide) {g d n:Nat}{ks:List Kp}{x:Xt}{ob:List Prop}(h:cgy C TT (uv C.toStat TT g d).1 (uv C.toStat TT g d).2 nt fid inR n (Yt ks) st st'=some (x,ob)) (ho:cU ob)
 (hA:At C nt st a w) (hQ:∀ a' w',At C nt st' a' w'->after F m C.P (Yx ks) Q x.to a' w'):after F m C.P ks Q .normal a w:=by
 unfold cgy at h;split at h
 rotate_left
 ·cases h
 rename_i x1 s1 ob1 he;split at h
 rotate_left
 ·cases h
 rename_i ob2 hf;injection h with h;simp only[Prod.mk.injEq] at h;obtain⟨rfl,rfl⟩:=h
 obtain⟨o1,o2⟩:=ho.append;obtain⟨⟨e,hg,hM,hV,hfr,hmk⟩,hsz⟩:=hA;have hFm:=(jD (S:=C.toStat) (TT:=TT) (g:=g) d).1;have hYm:=(jD (S:=C.toStat) (TT:=TT) (g:=g) d).2;have hle:(⟨st.nb,st.sl,[],st.ms⟩:St D).nb<=s1.nb:=execL_le he;have hle:st.nb<=s1.nb:=hle;refine ccL hW hI hR.ok hR.tab (uM hR.ok hR.name hR.tab d).1 hFm (uM hR.ok hR.name hR.tab d).2 hYm hM (B:=s1.nb) (fun b h1 _=>hfr b h1) 1000 ks _ x1 s1 ob1 he o1 (le_refl _) a w ⟨⟨e,ky.refl hg _,hV,hmk⟩,hsz⟩ ?_;rintro a' w' ⟨⟨e',hL,hV',hmk'⟩,hsz'⟩;refine hQ a' w' (cdV hR.ok hf o2 ⟨⟨e',hL.good,fun b o ho=>?_,hV',fun b hb=>?_,hmk'⟩,hsz'⟩)
 ·exact kH hM hL b o (by rw[UD];exact ho)
 ·obtain⟨q1,q2,q3⟩:=hfr b (le_trans hle hb);have hb:s1.nb<=b:=hb;refine⟨?_,?_,?_⟩
  ·cases hx:e'.ρ b with
   |none=>rfl
   |some y =>
    rcases hL.new.ρ b y hx with h|h
    ·rw[q1] at h;cases h
    ·omega
  ·cases hx:e'.ν b with
   |none=>rfl
   |some y =>
    rcases hL.new.ν b y hx with h|h
    ·rw[q2] at h;cases h
    ·omega
  ·cases hx:e'.φ b with
   |none=>rfl
   |some y =>
    rcases hL.new.φ b y hx with h|h
    ·rw[q3] at h;cases h
    ·omega
where
 execL_le {l:List Code} {base:cB D} {n d g:Nat} {st st':St D} {x:Xt} {ob:List Prop} (h:zR C.toStat TT (uv C.toStat TT g d).1 (uv C.toStat TT g d).2 nt base fid inR n l st=some (x,st',ob)):st.nb<=st'.nb:=by
  induction l generalizing st st' x ob with
  |nil=>simp only[zR,Option.some.injEq,Prod.mk.injEq] at h;rw[h.2.1];exact le_refl _
  |cons c l ih =>
   simp only[zR] at h;split at h
   ·rename_i st1 ob1 h1;split at h
    ·rename_i x2 st2 ob2 h2;injection h with h;simp only[Prod.mk.injEq] at h
     obtain⟨rfl,rfl,rfl⟩:=h;exact le_trans (kd (jD d).1 (jD d).2 _ _ _ _ _ _ h1) (ih h2)
    ·cases h
   ·exact kd (jD d).1 (jD d).2 _ _ _ _ _ _ h
theorem Ga:∀ (n:Nat) (ks:List Kp) {a:Act}{w:World},after F m C.P (cbc n ks) Q .normal a w->after F m C.P ks Q .normal a w
 |0,ks,a,w,h=>by cases ks<;>exact h
 |n+1,[],a,w,h=>h
 |n+1,.endB id::ks,a,w,h=>Ga n ks h
 |n+1,.code c::ks,a,w,h=>by
  cases c with
  |block id c =>
   unfold cbc at h;split at h
   ·exact h
   ·split at h
    ·exact wpIn_block (Ga n (.code c::.endB id::ks) h)
    ·exact h
  |_=>exact h
theorem kA {ks:List Kp}(h:after F m C.P (next ks) Q .normal a w):after F m C.P (Yx ks) Q .normal a w:=Ga _ _ h
theorem uU {Θ:Type}(I:Θ->St D) (J:Θ->Prop) (μ:Θ->Nat) {id:Nat}{c:Code}{L ks:List Kp}(hL:L=.code (.block id (.loop c))::ks) (θ0:Θ) (h0:J θ0) (hA:At C nt (I θ0) a w)
 (hr:∀ θ a w,J θ->At C nt (I θ) a w->after F m C.P [.code c] (Exit.then (fun a' w'=>∃ θ',J θ'/\At C nt (I θ') a' w'/\μ θ'<μ θ) (Exit.inBlock id (after F m C.P ks Q))) .normal a w):after F m C.P L Q .normal a w:=by
 subst hL;exact loop_at I J μ θ0 h0 hA hr
end
def ceO (C:Ctx D) (TT:FuncId->Tab D) (CF YF:cq D) (nt:Nat) (fid:FuncId) (inR:Bool) (n:Nat) (l:List Code) (rs:List ResultVar) (st:St D) (ps:List (Pat D)):Option (Xt×List Prop) :=
 match zR C.toStat TT CF YF nt (fun b=>find b st.m) fid inR n l ⟨st.nb,st.sl,[],st.ms⟩ with
 |some (.ret,s1,ob)=>match cgT C rs (st.join s1) ps with
  |some ob2=>some (.ret,ob++ob2)
  |none=>none
 |_=>none
section
variable {F:Fence}{m:Nat}{C:Ctx D}{TT:FuncId->Tab D}{CF YF:cq D}{nt:Nat}{fid:FuncId}{inR:Bool}{Q:Exit->Act->World->Prop}{a:Act}{w:World}{st st':St D}
theorem ret_is (hR:uF C TT) (hW:Wd F) (hI:inR=false->F=Fence.wide) {g d n:Nat}{ks:List Kp}{fn:Func}{ps:List (Pat D)}{ob:List Prop}(h:ceO C TT (uv C.toStat TT g d).1 (uv C.toStat TT g d).2 nt fid inR n (Yt ks) fn.results.toList st ps=some (.ret,ob)) (ho:cU ob)
 (hA:At C nt st a w) (hQ:∀ a' w',Ret C fn (Res C ps) .ret a' w'->Q .ret a' w'):after F m C.P ks Q .normal a w:=by
 unfold ceO at h;split at h
 rotate_left
 ·cases h
 rename_i s1 ob1 he;split at h
 rotate_left
 ·cases h
 rename_i ob2 hf;injection h with h;simp only[Prod.mk.injEq] at h;obtain⟨_,rfl⟩:=h
 obtain⟨o1,o2⟩:=ho.append;obtain⟨⟨e,hg,hM,hV,hfr,hmk⟩,hsz⟩:=hA;have hFm:=(jD (S:=C.toStat) (TT:=TT) (g:=g) d).1;have hYm:=(jD (S:=C.toStat) (TT:=TT) (g:=g) d).2;have hle:(⟨st.nb,st.sl,[],st.ms⟩:St D).nb<=s1.nb:=cca.execL_le he;have hle:st.nb<=s1.nb:=hle;refine ccL hW hI hR.ok hR.tab (uM hR.ok hR.name hR.tab d).1 hFm (uM hR.ok hR.name hR.tab d).2 hYm hM (B:=s1.nb) (fun b h1 _=>hfr b h1) 1000 ks _ .ret s1 ob1 he o1 (le_refl _) a w ⟨⟨e,ky.refl hg _,hV,hmk⟩,hsz⟩ ?_;rintro a' w' ⟨⟨e',hL,hV',hmk'⟩,hsz'⟩;refine Wg _ (hQ a' w' (ret_at hR.ok hf o2 (nt:=nt) ⟨⟨e',hL.good,fun b o ho=>?_,hV',fun b hb=>?_,hmk'⟩,hsz'⟩ (.inl rfl)))
 ·exact kH hM hL b o (by rw[UD];exact ho)
 ·obtain⟨q1,q2,q3⟩:=hfr b (le_trans hle hb);have hb:s1.nb<=b:=hb;refine⟨?_,?_,?_⟩
  ·cases hx:e'.ρ b with
   |none=>rfl
   |some y =>
    rcases hL.new.ρ b y hx with h|h
    ·rw[q1] at h;cases h
    ·omega
  ·cases hx:e'.ν b with
   |none=>rfl
   |some y =>
    rcases hL.new.ν b y hx with h|h
    ·rw[q2] at h;cases h
    ·omega
  ·cases hx:e'.φ b with
   |none=>rfl
   |some y =>
    rcases hL.new.φ b y hx with h|h
    ·rw[q3] at h;cases h
    ·omega
def ceX (C:Ctx D) (TT:FuncId->Tab D) (CF YF:cq D) (nt:Nat) (fid:FuncId) (n:Nat) (c:Code) (rs:List ResultVar) (st:St D) (ps:List (Pat D)):Option (Xt×List Prop) :=
 match kQ C.toStat TT CF YF nt (fun b=>find b st.m) fid false n c ⟨st.nb,st.sl,[],st.ms⟩ with
 |some (.ret,s1,ob)=>match cgT C rs (st.join s1) ps with
  |some ob2=>some (.ret,ob++ob2)
  |none=>none
 |_=>none
theorem all_is (hR:uF C TT) {g d n:Nat}{c:Code}{fn:Func}{ps:List (Pat D)}{ob:List Prop}(h:ceX C TT (uv C.toStat TT g d).1 (uv C.toStat TT g d).2 nt fid n c fn.results.toList st ps=some (.ret,ob)) (ho:cU ob)
 (hA:At C nt st a w):c.wpIn Fence.wide m C.P (Ret C fn (Res C ps)) a w:=by
 unfold ceX at h;split at h
 rotate_left
 ·cases h
 rename_i s1 ob1 he;split at h
 rotate_left
 ·cases h
 rename_i ob2 hf;injection h with h;simp only[Prod.mk.injEq] at h;obtain⟨_,rfl⟩:=h
 obtain⟨o1,o2⟩:=ho.append;exact jl (.inl rfl) (fun _=>rfl) hR.ok hR.tab (uM hR.ok hR.name hR.tab d).1 (jD d).1 (uM hR.ok hR.name hR.tab d).2 (jD d).2 he o1 hA (fun a' w' hA'=>ret_at hR.ok hf o2 hA' (.inl rfl))
end
end Pe
open Go Go.RowKit Go.Proofs Lim
namespace Pe
section
variable {b b':Bool}{lo lo':Nat}{w0 w0' w:World}
theorem Uq:∀ {gs:List (Grp Dx)}{vs:List Value},cr (Cx b lo w0) w gs vs->cr (Cx b' lo' w0') w gs vs
 |[],_,h=>h
 |.lit _::_,_,h=>⟨h.1,Uq h.2⟩
 |.cls _::_,_,h=>⟨h.1,Uq h.2⟩
theorem ls_cx {L:Lt Dx}{v:Value}(h:WT (Cx b lo w0) w L v):WT (Cx b' lo' w0') w L v:=by
 rcases h with h|⟨k,o,c,arr,pre,vs,rest,q1,q2,q3,q4,q5,q6,q7,q8,q9⟩
 ·exact .inl h
 ·exact .inr ⟨k,o,c,arr,pre,vs,rest,q1,q2,q3,q4,q5,q6,q7,q8,fun j hj=>Uq (q9 j hj)⟩
theorem pat_cx {p:Pat Dx}{v:Value}(h:p.is (Cx b lo w0) w v):p.is (Cx b' lo' w0') w v:=by
 cases p with
 |one g=>cases g<;>exact h
 |agg gs=>obtain⟨vs,h1,h2⟩:=h;exact⟨vs,Uq h1,h2⟩
 |slc t n gs=>obtain⟨k,o,c,arr,pre,vs,rest,h1,h2,h3,h4,h5⟩:=h;exact⟨k,o,c,arr,pre,vs,rest,h1,h2,h3,h4,Uq h5⟩
 |cap f ty z gs=>obtain⟨k,o,c,h1,h2⟩:=h;exact⟨k,o,c,ls_cx h1,h2⟩
theorem cbD:∀ {ps:List (Pat Dx)}{vs:List Value},cK (Cx b lo w0) w ps vs->cK (Cx b' lo' w0') w ps vs
 |[],_,h=>h
 |_::_,_,⟨v,ws,h1,h2,h3⟩=>⟨v,ws,h1,pat_cx h2,cbD h3⟩
theorem rpat_cx {p:cL Dx}{v:Value}(h:p.is (Cx b lo w0) w v):p.is (Cx b' lo' w0') w v:=by
 cases p with
 |val p=>exact pat_cx h
 |tup ps=>obtain⟨vs,h1,h2⟩:=h;exact⟨vs,cbD h1,h2⟩
theorem rob_cx {w1 w2:World}{p:cL Dx}{v:Value}(h:Ky (Cx b lo w0) w1 w2 p v):Ky (Cx b lo' w0') w1 w2 p v:=fun S hS w'' hs hk=>rpat_cx (h S hS w'' hs hk)
theorem Wp {w':World}(hk:∀ k,k<w.heap.size->w'.heap[k]?=w.heap[k]?):∀ {gs:List (Grp Dx)}{vs:List Value},cr (Cx b lo w0) w gs vs->cr (Cx b lo w0) w' gs vs
 |[],_,h=>h
 |.lit _::_,_,h=>⟨h.1,Wp hk h.2⟩
 |.cls _::_,_,h=>⟨DIs.grow hk h.1,Wp hk h.2⟩
theorem cjC {w':World}(hk:∀ k,k<w.heap.size->w'.heap[k]?=w.heap[k]?) {p:Pat Dx}{v:Value}(hn:noSlc p=true) (h:p.is (Cx b lo w0) w v):p.is (Cx b lo w0) w' v:=by
 cases p with
 |one g =>
  cases g with
  |lit x=>exact h
  |cls d=>exact DIs.grow hk h
 |agg gs=>obtain⟨vs,h1,h2⟩:=h;exact⟨vs,Wp hk h1,h2⟩
 |slc t n gs=>cases hn
 |cap f ty z gs=>cases hn
theorem caE {w':World}(hk:∀ k,k<w.heap.size->w'.heap[k]?=w.heap[k]?):∀ {ps:List (Pat Dx)}{vs:List Value},GI ps=true->cK (Cx b lo w0) w ps vs->cK (Cx b lo w0) w' ps vs
 |[],_,_,h=>h
 |p::ps,_,hn,⟨v,ws,h1,h2,h3⟩=>by
  unfold GI at hn;split at hn
  ·rename_i h0;exact⟨v,ws,h1,cjC hk h0 h2,caE hk hn h3⟩
  ·cases hn
theorem UE:∀ {ps:List (Pat Dx)}{csz:Dx->Nat}{s:Nat}{r:List A1×Ws Dx×Nat},zC csz s ps=some r->GI ps=true
 |[],_,_,_,_=>rfl
 |p::ps,csz,s,r,h=>by
  have:=Gt h p (by simp);simp only[zC] at h;split at h
  ·split at h
   ·rename_i h2;unfold GI;cases p with
    |slc t n gs=>cases this
    |cap f ty z gs=>cases this
    |one g=>exact UE h2
    |agg gs=>exact UE h2
   ·cases h
  ·cases h
end
noncomputable abbrev W0 (w:World):Ctx Dx:=Cx true w.heap.size w
theorem fn_ok {w : World} (hG : Gr w) (hN : ∀ (f : Nat) (fn : Func), Tryz.prog.funcs[f]? = some fn → (fn.name == "runtime.NumGoroutine") = false) {ex : List (Nat × Con)} (hE : Ej true w.heap.size w ex) {f : FuncId} {fn : Func} {c : Code} (hfn : Tryz.prog.funcs[f]? = some fn) (hbody : fn.body = some c) {args : List (Pat Dx)} {xs : List A1} {ws : Ws Dx} {n0 : Nat} (hm : zC Dx.n 0 args = some (xs, ws, n0)) (hlen : Nat.ble (kz xs).length fn.ntmps = true)
 {vs:List Value} (hp:cK (W0 w) w args vs) {ps:List (Pat Dx)} (hwp:(∀ o:Opt,o.ex=ex->uF (W0 w) (TY o))->∀ a,At (W0 w) fn.ntmps ⟨n0,zB 0 (kz xs),ws,[]⟩ a w->after Fence.wide 0 Tryz.prog [.code c] (Ret (W0 w) fn (Res (W0 w) ps)) .normal a w) :
 Enters Tryz.prog f/\Calls Tryz.prog f vs.toArray w (fun en w'=>∃ v,en=.returned v/\Res (W0 w) ps v w'):=by
 have hR:∀ o:Opt,o.ex=ex->uF (W0 w) (TY o):=fun o ho=>cbN (le_refl _) hG hN (by rw[ho];exact hE);have hR0:=hR ⟨[],[],ex⟩ rfl;refine zQ (C:=W0 w) hR0 hfn hbody hm hlen ?_ (fun a hA=>hwp hR a hA);exact cbQ hR0.ok (W:=fun w'=>kR env0 w w') w (kR.refl _ _) (Gt hm) (fun w' hk=>caE (fun k hk'=>hk.block k hk' (fun b=>by simp)) (UE hm) hp)
theorem jm {F:Fence}{m:Nat}{P:Program}{Q:Exit->Act->World->Prop}{ks:List Kp}{a:Act}{w:World}(h:ks=[]) (hq:Q .normal a w):after F m P ks Q .normal a w:=by
 subst h;exact hq
theorem ent_fn {lo:Nat}{w0:World}(hG:Gr w0) (hlo:lo<=w0.heap.size) {f:FuncId}{args:List (Pat Dx)}(ps:Nat->List (Pat Dx)) (hsub:∀ hi,lo<=hi->∃ ob,yY (Cx true lo w0) (ps lo) (ps hi)=some ob/\cU ob)
 (h:∀ w vs,Gr w->cK (W0 w) w args vs->Enters Tryz.prog f/\Calls Tryz.prog f vs.toArray w (fun en w'=>∃ v,en=.returned v/\Res (W0 w) (ps w.heap.size) v w')) (hE:Enters Tryz.prog f):cY (Cx true lo w0) (.call f) args (rpOf (ps lo)):=by
 refine⟨hE,fun w vs hb hvs=>?_⟩;refine(h w vs (hG.below hb hG.size) (cbD hvs)).2.mono ?_;rintro en w' ⟨v,rfl,h1,h2⟩;refine⟨v,rfl,h1,?_⟩;obtain⟨ob,h3,h4⟩:=hsub w.heap.size (le_trans hlo hb.size);intro S hS w'' hs hk;have h5:=rob_cx (lo':=lo) (w0':=w0) h2 S hS w'' hs hk;have hC:=cx_ok (b:=true) hlo;revert h3 h5;generalize ps lo=a;generalize ps w.heap.size=c;intro h3 h5;unfold rpOf at h5 ⊢;split at h5
 ·rename_i p
  match a,h3 with
  |[q],h3 =>
   have:=CC hC h3 h4 (vs:=[v]) ⟨v,[],rfl,h5,rfl⟩;obtain⟨x,y,e1,e2,e3⟩:=this;injection e1 with e1 _
   subst e1;exact e2
  |[],h3=>simp [yY] at h3
  |_::q::r,h3 =>
   obtain⟨x,y,q1,q2,_⟩:=kO h3;simp [yY] at q2
 ·rename_i hne
  match a,h3 with
  |[q],h3 =>
   exfalso
   match c,h3,hne with
   |[],h3,_=>simp [yY] at h3
   |[p],_,hne=>exact hne p rfl
   |_::_::_,h3,_ =>
    obtain⟨x,y,q1,q2,_⟩:=kO h3;simp [yY] at q2
  |[],h3=>obtain⟨us,q1,q2⟩:=h5;exact⟨us,CC hC h3 h4 q1,q2⟩
  |q1::q2::r,h3=>obtain⟨us,p1,p2⟩:=h5;exact⟨us,CC hC h3 h4 p1,p2⟩
def Cv (args:List (Pat Dx)) (res:cL Dx):Con:=fun l=>some (res,[l=args])
theorem zg {bb:Bool}{lo:Nat}{w0:World}{f:Nat}{args:List (Pat Dx)}{res:cL Dx}(h:cY (Cx bb lo w0) (.call f) args res):∀ l r ob,Cv args res l=some (r,ob)->cU ob->cY (Cx bb lo w0) (.call f) l r:=by
 intro l r ob hl ho;unfold Cv at hl;injection hl with hl;injection hl with h1 h2;subst h1;subst h2
 rw[show l=args from ho.1];exact h
def lst {α:Type}[Inhabited α] (lo ty z:Nat) (xs:List α) (f:α->List (Grp Dx)):Lt Dx:=⟨lo,ty,z,xs.length,fun j=>f (xs.getD j default)⟩
section
variable {C:Ctx Dx}{b:Bool}{lo:Nat}{w0:World}
theorem jH {n:Nat}{g:Nat->List (Grp Dx)}{x:List (Grp Dx)}(h:x=g n):∀ j,j<n+1->cH C (g j) (GP n g (fun _=>x) j):=by
 intro j hj w vs hv;unfold GP at hv;split at hv
 ·exact hv
 ·rename_i hn;have:j=n:=by
   rcases lt_or_ge j n with h1|h1
   ·rw[show Nat.blt j n=true from Nat.ble_eq_true_of_le h1] at hn;cases hn
   ·omega
  rw[h,← this] at hv;exact hv
theorem cac {r s:Rat}{j k:Nat}(h:s=r) (hk:k<=j):cD (Cx b lo w0) (.q r j) (.q s k):=by
 intro w l hl;have hl:DIs w (.q s k) l:=hl;subst h;cases hl with
 |q h1 h2 h3=>exact .q h1 h2 (h3.le hk)
theorem Ed {r s:Rat}{j k:Nat}(h:s=r) (hk:k<=j):cD (Cx b lo w0) (.rq r j) (.rq s k):=by
 intro w l hl;have hl:DIs w (.rq s k) l:=hl;subst h;cases hl with
 |rq h1 h2 h3=>exact .rq h1 h2 (h3.le hk)
theorem EH {r:Rat}{k:Nat}(h:r=0) (hk:1<=k):cH (Cx b lo w0) [.cls (.q r k)] [.lit (.bool false),.lit (.int .u64 0),.lit (.int .u64 0),.lit (.pointer none)]:=by
 intro w vs hv;subst h;obtain⟨xs,ys,rfl,h1,h2⟩:=JK (b:=b) (lo:=lo) (w0:=w0) (gs':=[]) (r:=0) (k:=1) rfl hv;rw[show ys=[] from h2];exact YZ (.cls (cac (b:=b) (lo:=lo) (w0:=w0) (r:=0) (j:=k) rfl hk w xs h1) .nil)
end
end Pe
namespace Pe
abbrev Tx:=List UInt8
abbrev nq (l:Tx):Rat:=(jr l).1
noncomputable abbrev codeOf (fn:Func):Code:=fn.body.getD .skip
abbrev ii (n:Int):Value:=.int .i64 n
abbrev P3:=Tx×Tx×Tx
abbrev f3 (x:P3):List (Grp Dx):=[.lit (str x.1),.lit (str x.2.1),.lit (str x.2.2)]
noncomputable abbrev run (w:World) (o:Opt) (f nt:Nat) (ks:List Kp) (st st':St Dx):Option (Xt×List Prop):=cgy (W0 w) (TY o) (uv (Sx true w.heap.size) (TY o) 300 30).1 (uv (Sx true w.heap.size) (TY o) 300 30).2 nt f false 300 (Yt ks) st st'
noncomputable abbrev runR (w:World) (o:Opt) (f nt:Nat) (fn:Func) (ks:List Kp) (st:St Dx) (ps:List (Pat Dx)):Option (Xt×List Prop):=ceO (W0 w) (TY o) (uv (Sx true w.heap.size) (TY o) 300 30).1 (uv (Sx true w.heap.size) (TY o) 300 30).2 nt f false 300 (Yt ks) fn.results.toList st ps
abbrev ka : Prop := ∀ (f : Nat) (fn : Func), Tryz.prog.funcs[f]? = some fn → (fn.name == "runtime.NumGoroutine") = false
end Pe
namespace Pe
def stA (args:List (Pat Dx)):St Dx:=match zC Dx.n 0 args with
 |some (xs,ws,n0)=>⟨n0,zB 0 (kz xs),ws,[]⟩
 |none=>⟨0,[],[],[]⟩
def lenA (args:List (Pat Dx)) (n:Nat):Bool:=match zC Dx.n 0 args with
 |some (xs,_,_)=>Nat.ble (kz xs).length n
 |none=>false
theorem Kk {w:World}(hG:Gr w) (hN:ka) {ex:List (Nat×Con)}(hE:Ej true w.heap.size w ex) {f:FuncId}{fn:Func}{c:Code}(hfn:Tryz.prog.funcs[f]?=some fn) (hbody:fn.body=some c) {args:List (Pat Dx)}(hm:lenA args fn.ntmps=true)
 {vs:List Value} (hp:cK (W0 w) w args vs) {ps:List (Pat Dx)} (hwp:(∀ o:Opt,o.ex=ex->uF (W0 w) (TY o))->∀ a,At (W0 w) fn.ntmps (stA args) a w->after Fence.wide 0 Tryz.prog [.code c] (Ret (W0 w) fn (Res (W0 w) ps)) .normal a w) :
 Enters Tryz.prog f/\Calls Tryz.prog f vs.toArray w (fun en w'=>∃ v,en=.returned v/\Res (W0 w) ps v w'):=by
 unfold lenA at hm;split at hm
 ·rename_i xs ws n0 h0;refine fn_ok hG hN hE hfn hbody h0 hm hp (fun hR a hA=>hwp hR a ?_);unfold stA;rw[h0];exact hA
 ·cases hm
abbrev Ud (f:Nat) (args:List (Pat Dx)) (ps:Nat->List (Pat Dx)):Prop:=∀ w vs,Gr w->cK (W0 w) w args vs->Enters Tryz.prog f/\Calls Tryz.prog f vs.toArray w (fun en w'=>∃ v,en=.returned v/\Res (W0 w) (ps w.heap.size) v w')
section
variable {lo:Nat}{w0:World}{f:Nat}{args:List (Pat Dx)}
theorem Ud.ent {ps:Nat->List (Pat Dx)}(h:Ud f args ps) (hG:Gr w0) (hlo:lo<=w0.heap.size) (hE:Enters Tryz.prog f) (hsub:∀ hi,lo<=hi->∃ ob,yY (Cx true lo w0) (ps lo) (ps hi)=some ob/\cU ob):cY (Cx true lo w0) (.call f) args (rpOf (ps lo)):=ent_fn hG hlo ps hsub h hE
theorem Ud.val {v:Value}(h:Ud f args (fun _=>[.one (.lit v)])) (hG:Gr w0) (hlo:lo<=w0.heap.size) (hE:Enters Tryz.prog f):cY (Cx true lo w0) (.call f) args (vr v) :=
 h.ent hG hlo hE (fun _ _=>⟨_,rfl,rfl,trivial⟩)
end
abbrev R2:=Rat×Rat
abbrev fQ (x:R2):List (Grp Dx):=[.cls (.q x.1 4),.cls (.q x.2 4)]
abbrev fR (x:R2):List (Grp Dx):=[.cls (.rq x.1 4),.cls (.rq x.2 4)]
abbrev pQ (r:Rat) (k:Nat):Pat Dx:=.agg [.cls (.q r k)]
abbrev pI (i:Int):Pat Dx:=.one (.lit (.int .i64 i))
abbrev pF (f:Nat):Pat Dx:=.one (.lit (.func (.func f) #[] #[]))
abbrev rB (b:Bool):List (Pat Dx):=[.one (.lit (.bool b))]
abbrev rI (i:Int):List (Pat Dx):=[.one (.lit (.int .i64 i))]
abbrev sD (w:World) (d:Dx):Prop:=cD (W0 w) d d
abbrev sG (w:World) (n:Nat) (g:Nat->List (Grp Dx)):Prop:=∀ j,j<n->cH (W0 w) (g j) (g j)
abbrev sN (w:World) (n:Nat) (g:Nat->List (Grp Dx)) (x:List (Grp Dx)):Prop:=∀ j,j<n+1->cH (W0 w) (g j) (GP n g (fun _=>x) j)
abbrev eA {α:Type}(a:α):Prop:=a=a
abbrev zV:List Prop:=[Value.bool false=Value.bool false,Value.int .u64 0=Value.int .u64 0,Value.int .u64 0=Value.int .u64 0,Value.pointer none=Value.pointer none]
theorem jt (n:Nat):Int.ofNat n=(n:Int):=rfl
theorem Ue {b:Bool}{lo:Nat}{w0:World}{r s:Rat}(h1:r=0) (h2:s=0):cH (Cx b lo w0) [.cls (.q r 1),.cls (.q s 1)] [.lit (.bool false),.lit (.int .u64 0),.lit (.int .u64 0),.lit (.pointer none),.lit (.bool false),.lit (.int .u64 0),.lit (.int .u64 0),.lit (.pointer none)]:=by
 intro w vs hv;subst h1;subst h2;obtain⟨xs,ys,rfl,h3,h4⟩:=JK (b:=b) (lo:=lo) (w0:=w0) (gs':=[.lit (.bool false),.lit (.int .u64 0),.lit (.int .u64 0),.lit (.pointer none)]) (r:=0) (k:=1) rfl hv;obtain⟨xs',ys',rfl,h5,h6⟩:=JK (b:=b) (lo:=lo) (w0:=w0) (gs':=[]) (r:=0) (k:=1) rfl h4;rw[show ys'=[] from h6];exact YZ (.cls h3 (.cls h5 .nil))
section
variable {w w1:World}{o:Opt}{f nt:Nat}{ks:List Kp}{st st':St Dx}{x:Xt}{ob:List Prop}{a:Act}{Q:Exit->Act->World->Prop}
theorem jS (h:run w o f nt ks st st'=some (x,ob)) (hR:uF (W0 w) (TY o)) (hA:At (W0 w) nt st a w1) (hQ:∀ a' w',At (W0 w) nt st' a' w'->after Fence.wide 0 (W0 w).P (Yx ks) Q x.to a' w') (ho:cU ob:=by (repeat' (first|exact trivial|apply And.intro))<;>first|exact cD.refl _ _|exact fun _ _=>cH.refl _ _|exact jH rfl|exact jH (by assumption)|exact jM _ _|exact jN _ _|(with_reducible assumption)|omega|with_reducible rfl|(simp only[jt];omega)|(intro j hj;exact absurd hj (not_lt_zero _))|exact cac rfl (by omega)|exact Ed rfl (by omega)|exact cac (by assumption) (by omega)|exact Ed (by assumption) (by omega)|exact EH rfl (by omega)|exact Ue rfl rfl|exact decide_eq_true rfl|exact decide_eq_true (by omega)|assumption|rfl):after Fence.wide 0 (W0 w).P ks Q .normal a w1:=cca hR (.inl rfl) (fun _=>rfl) h ho hA hQ
noncomputable abbrev runA (w:World) (o:Opt) (f nt:Nat) (fn:Func) (st:St Dx) (ps:List (Pat Dx)):Option (Xt×List Prop):=ceX (W0 w) (TY o) (uv (Sx true w.heap.size) (TY o) 300 30).1 (uv (Sx true w.heap.size) (TY o) 300 30).2 nt f 300 (codeOf fn) fn.results.toList st ps
theorem Es {fn:Func}{ps:List (Pat Dx)}(h:runA w o f nt fn st ps=some (.ret,ob)) (hR:uF (W0 w) (TY o)) (hA:At (W0 w) nt st a w1) (ho:cU ob:=by (repeat' (first|exact trivial|apply And.intro))<;>first|exact cD.refl _ _|exact fun _ _=>cH.refl _ _|exact jH rfl|exact jH (by assumption)|exact jM _ _|exact jN _ _|(with_reducible assumption)|omega|with_reducible rfl|(simp only[jt];omega)|(intro j hj;exact absurd hj (not_lt_zero _))|exact cac rfl (by omega)|exact Ed rfl (by omega)|exact cac (by assumption) (by omega)|exact Ed (by assumption) (by omega)|exact EH rfl (by omega)|exact Ue rfl rfl|exact decide_eq_true rfl|exact decide_eq_true (by omega)|assumption|rfl):after Fence.wide 0 (W0 w).P [.code (codeOf fn)] (Ret (W0 w) fn (Res (W0 w) ps)) .normal a w1:=all_is hR h ho hA
theorem yL {fn:Func}{ps:List (Pat Dx)}(h:runR w o f nt fn ks st ps=some (.ret,ob)) (hR:uF (W0 w) (TY o)) (hA:At (W0 w) nt st a w1) (ho:cU ob:=by (repeat' (first|exact trivial|apply And.intro))<;>first|exact cD.refl _ _|exact fun _ _=>cH.refl _ _|exact jH rfl|exact jH (by assumption)|exact jM _ _|exact jN _ _|(with_reducible assumption)|omega|with_reducible rfl|(simp only[jt];omega)|(intro j hj;exact absurd hj (not_lt_zero _))|exact cac rfl (by omega)|exact Ed rfl (by omega)|exact cac (by assumption) (by omega)|exact Ed (by assumption) (by omega)|exact EH rfl (by omega)|exact Ue rfl rfl|exact decide_eq_true rfl|exact decide_eq_true (by omega)|assumption|rfl) (hQ:∀ a' w',Ret (W0 w) fn (Res (W0 w) ps) .ret a' w'->Q .ret a' w':=by exact fun _ _ h=>h):after Fence.wide 0 (W0 w).P ks Q .normal a w1:=ret_is hR (.inl rfl) (fun _=>rfl) h ho hA hQ
end
theorem sub_ext {C:Ctx Dx}{b:Bool}{lo:Nat}{w0:World}(hC:C=Cx b lo w0) {L L':Lt Dx}(h1:L'.lo<=L.lo) (h2:L'.ty=L.ty) (h3:L'.z=L.z) (h4:L'.n=L.n) (h5:∀ j,j<L.n->L'.g j=L.g j):cD C (.ls L') (.ls L):=by
 subst hC;intro w l hl;have hl:DIs w (.ls L) l:=hl;show DIs w (.ls L') l;obtain⟨lo',ty',z',n',g'⟩:=L';obtain⟨lo1,ty1,z1,n1,g1⟩:=L;simp only at h1 h2 h3 h4 h5;subst h2;subst h3;subst h4;cases hl with
 |nil h=>exact .nil h
 |ls k o c arr pre vs rest q2 q3 q4 q5 q6 q7 q8 q9=>exact .ls k o c arr pre vs rest q2 q3 q4 q5 q6 (le_trans h1 q7) q8 (fun j hj=>by rw[show (Lt.mk lo' ty' z' n' g').g j=g1 j from h5 j hj];exact q9 j hj)
theorem Ef {b:Bool}{lo:Nat}{w0:World}{α β:Type}[Inhabited α] [Inhabited β] {a ty z:Nat}{xs:List α}{h:α->β}{f:α->List (Grp Dx)}{f':β->List (Grp Dx)}(hf:∀ x,f' (h x)=f x):cD (Cx b lo w0) (.ls (lst a ty z (xs.map h) f')) (.ls (lst a ty z xs f)):=by
 refine sub_ext rfl (le_refl _) rfl rfl (by simp [lst]) (fun j hj=>?_);have hj:j<xs.length:=hj;show f' ((xs.map h).getD j default)=f (xs.getD j default);rw[← hf,List.getD_eq_getElem?_getD,List.getD_eq_getElem?_getD,List.getElem?_map,List.getElem?_eq_getElem hj];rfl
end Pe
namespace Pe
noncomputable def kisNegative27_:List Kp:=[.code (codeOf Tryz.f27)]
def ccg:Con
 |[.agg [.cls (.q r _)]]=>some (vr (.bool (decide (kG r<0))),[])
 |_=>none
noncomputable abbrev negR (w:World) (r:Rat) (k:Nat) (o:List (Nat×Nat×Bool)):=runR w ⟨o,[],[]⟩ 27 6 Tryz.f27 kisNegative27_ (stA [pQ r k]) (rB (decide (kG r<0)))
theorem neg0 {w:World}(r:Rat) (k:Nat):negR w r k [(27,5,true)]=some (.ret,[decide (kG r<0)=true,Value.bool (decide (kG r<0))=Value.bool true]):=by kernel_rfl
theorem neg1 {w:World}(r:Rat) (k:Nat):negR w r k [(27,5,false)]=some (.ret,[decide (kG r<0)=false,Value.bool (decide (kG r<0))=Value.bool false]):=by kernel_rfl
theorem cfy (hN:ka) (r:Rat) (k:Nat):Ud 27 [pQ r k] (fun _=>rB (decide (kG r<0))):=by
 intro w vs hG hp;refine Kk hG hN (ex:=[]) jV (fn:=Tryz.f27) Tryz.func27 (c:=codeOf Tryz.f27) (by kernel_rfl) (args:=[pQ r k]) (by kernel_rfl) hp (fun hR _ hA=>?_);rcases eq_false_or_eq_true (decide (kG r<0)) with q5|q5
 ·skip
  have p5:=of_decide_eq_true q5
  first|have e0:=congrArg Value.bool q5|skip
  refine yL (neg0 r k) (hR _ rfl) hA
 ·skip
  have p5:=of_decide_eq_false q5
  first|have e0:=congrArg Value.bool q5|skip
  refine yL (neg1 r k) (hR _ rfl) hA
theorem chM {lo:Nat}{w0:World}(hN:ka) (hG:Gr w0) (hlo:lo<=w0.heap.size):∀ l r ob,ccg l=some (r,ob)->cU ob->cY (Cx true lo w0) (.call 27) l r:=by
 intro l r ob h ho;unfold ccg at h;split at h
 ·injection h with h;injection h with h1 h2;subst h1;subst h2
  exact(cfy hN _ _).val hG hlo (enters_of Tryz.func27 (by kernel_rfl) rfl)
 ·cases h
theorem exNeg {lo:Nat}{w0:World}(hN:ka) (hG:Gr w0) (hlo:lo<=w0.heap.size):Ej true lo w0 [(27,ccg)]:=jG (chM hN hG hlo) jV
def ixP (n:Nat) (p:Nat->Bool):Int:=match (List.range n).find? p with
 |some i=>(i:Int)
 |none=>-1
def anyP (n:Nat) (p:Nat->Bool):Bool:=(List.range n).any p
section
variable {n:Nat}{p:Nat->Bool}
theorem ckp {i:Nat}(hi:i<n) (h:p i=true) (hb:∀ k,k<i->p k=false):ixP n p=(i:Int):=by
 have:(List.range n).find? p=some i:=by
  rw[List.find?_range_eq_some];exact⟨h,List.mem_range.2 hi,fun j hj=>by simp [hb j hj]⟩
 unfold ixP;rw[this]
theorem cko (h:∀ i,i<n->p i=false):ixP n p=-1:=by
 have:(List.range n).find? p=none:=by
  rw[List.find?_eq_none];intro i hi;rw[h i (List.mem_range.1 hi)];exact Bool.false_ne_true
 unfold ixP;rw[this]
theorem ixP_ge:decide (ixP n p>=0)=anyP n p:=by
 unfold ixP anyP;split
 ·rename_i i h;have h1:=List.find?_some h;have h2:=List.mem_of_find?_eq_some h;rw[List.any_eq_true.2 ⟨i,h2,h1⟩];exact decide_eq_true (by omega)
 ·rename_i h;rw[List.find?_eq_none] at h;rw[List.any_eq_false.2 h];rfl
end
abbrev E2:=Tx×Tx
abbrev fE (x:E2):List (Grp Dx):=[.lit (str x.1),.lit (str x.2)]
abbrev fT (t:Tx):List (Grp Dx):=[.lit (str t)]
theorem re_o {w w1:World}{o:Opt}{f nt:Nat}{ks:List Kp}{st st':St Dx}{x:Xt}{ob:List Prop}{a:Act}{Q:Exit->Act->World->Prop}(h:run w o f nt [] st st'=some (x,ob)) (hR:uF (W0 w) (TY o)) (hA:At (W0 w) nt st a w1) (ho:cU ob) (hQ:∀ a' w',At (W0 w) nt st' a' w'->after Fence.wide 0 (W0 w).P ks Q .normal a' w'):after Fence.wide 0 (W0 w).P ks Q .normal a w1 :=
 cca (m:=0) (ks:=[]) (Q:=fun _ a w'=>after Fence.wide 0 (W0 w).P ks Q .normal a w') hR (.inl rfl) (fun _=>rfl) h ho hA hQ
theorem mapD {α β:Type}[Inhabited α] [Inhabited β] {xs:List α}{f:α->β}{i:Nat}(h:i<xs.length):(xs.map f).getD i default=f (xs.getD i default):=by
 rw[List.getD_eq_getElem?_getD,List.getElem?_map,List.getD_eq_getElem?_getD,List.getElem?_eq_getElem h];rfl
theorem anyP_at {n:Nat}{p:Nat->Bool}(h:anyP n p=false) {i:Nat}(hi:i<n):p i=false:=by
 unfold anyP at h;exact Bool.eq_false_iff.2 (List.any_eq_false.1 h i (List.mem_range.2 hi))
theorem sign_nn {r:Rat}(h:¬ kG r<0):0<=r:=by
 rw[sign_eq] at h;split at h
 ·exact absurd (by decide) h
 ·rename_i h1;exact Rat.not_lt.1 h1
end Pe
namespace Pe
abbrev Fr:=World×Nat×Value
noncomputable abbrev Wm (w:World) (fr:Fr):Ctx Dx:={ W0 w with fr:=some (fr.1,fr.2.1,0,fr.2.2) }
noncomputable abbrev runM (w:World) (fr:Fr) (o:Opt) (f nt:Nat) (ks:List Kp) (st st':St Dx):Option (Xt×List Prop):=cgy (Wm w fr) (TY o) (uv (Sx true w.heap.size) (TY o) 300 30).1 (uv (Sx true w.heap.size) (TY o) 300 30).2 nt f false 300 (Yt ks) st st'
def numG:List (Grp Dx)->Bool
 |[]=>true
 |.lit _::l=>numG l
 |.cls (.q _ _)::l=>numG l
 |.cls (.rq _ _)::l=>numG l
 |_=>false
theorem JR {C:Ctx Dx}(hC:C.E=fun d w l=>DIs w d l) {w w':World}(hk:Um true w w'):∀ {gs:List (Grp Dx)}{vs:List Value},numG gs=true->cr C w gs vs->cr C w' gs vs
 |[],_,_,h=>h
 |.lit _::_,_,hn,h=>⟨h.1,JR hC hk hn h.2⟩
 |.cls (.q r k)::_,_,hn,h=>by
  refine⟨?_,JR hC hk hn h.2⟩;have h1:C.E (.q r k) w _:=h.1;show C.E (.q r k) w' _;rw[hC] at h1 ⊢;cases h1 with
  |q q1 q2 q3=>exact .q q1 (isqK q2 hk) q3
 |.cls (.rq r k)::_,_,hn,h=>by
  refine⟨?_,JR hC hk hn h.2⟩;have h1:C.E (.rq r k) w _:=h.1;show C.E (.rq r k) w' _;rw[hC] at h1 ⊢;cases h1 with
  |rq q1 q2 q3=>exact .rq q1 (rqK q2 hk) q3
 |.cls (.ls _)::_,_,hn,_=>by cases hn
theorem KW:∀ {ls ls':List Value},(jC ls:List (Pat Dx))=jC ls'->ls=ls'
 |[],[],_=>rfl
 |[],_::_,h=>by cases h
 |_::_,[],h=>by cases h
 |v::ls,v'::ls',h=>by
  injection h with h1 h2
  injection h1 with h1;injection h1 with h1
  rw[h1,KW h2]
def stM (ty z n:Nat) (g:Nat->List (Grp Dx)) (ls:List Value):St Dx:=⟨1,zB 0 (.val (.one (.fn 0))::ls.map fun v=>.val (.one (.lit v))),[(0,.gl ty z n g)],[]⟩
theorem UQ {w:World}(hG:Gr w) (hN:ka) {ex:List (Nat×Con)}(hE:Ej true w.heap.size w ex) {f:FuncId}{fn:Func}{c:Code}(hfn:Tryz.prog.funcs[f]?=some fn) (hbody:fn.body=some c) (hres:fn.results=#[]) {ty z n lo:Nat}{g g':Nat->List (Grp Dx)}{ls:List Value}(hlen:Nat.ble (ls.length+1) fn.ntmps=true) (hq:∀ j,j<n->numG (g' j)=true)
 (hwp:∀ (fr:Fr),(∀ o:Opt,o.ex=ex->uF (Wm w fr) (TY o))->∀ (Q:Exit->Act->World->Prop),(∀ (x:Exit) (st:St Dx) (a:Act) (w':World),(x=.ret\/x=.normal)->find 0 st.m=some (.gl ty z n g')->st.ms=[]->At (Wm w fr) fn.ntmps st a w'->Q x a w')->∀ a w1,At (Wm w fr) fn.ntmps (stM ty z n g ls) a w1->after Fence.wide 0 Tryz.prog [.code c] Q .normal a w1) :
 cY (W0 w) (.mem f) (.one (.cls (.ls ⟨w.heap.size,ty,z,n,g⟩))::jC ls) (.val (.one (.cls (.ls ⟨lo,ty,z,n,g'⟩)))):=by
 refine⟨enters_of hfn (hN f fn hfn) hbody,?_⟩;intro L L' d' ls' hargs hres' hun hn w1 k cp arr us rest hb hk h1 hT h2 h3 h4 h5 _ h6 h7;injection hargs with ha hb'
 injection ha with ha;injection ha with ha
 have ha:Dx.ls ⟨w.heap.size,ty,z,n,g⟩=Dx.ls L:=ha;injection ha with ha
 subst ha;obtain rfl:=KW hb';injection hres' with hr;injection hr with hr;injection hr with hr;subst hr
 have hun:some (Lt.mk lo ty z n g')=some L':=hun;injection hun with hun;subst hun
 let v0:Value:=.slice (some ⟨k,0,none⟩) n cp
 have hR:∀ o:Opt,o.ex=ex->uF (Wm w (w1,k,v0)) (TY o):=fun o ho=>run_fr (cbN (le_refl _) hG hN (by rw[ho];exact hE));refine(cix (C:=Wm w (w1,k,v0)) (hR ⟨[],[],ex⟩ rfl) hfn hbody (le_of_ble_eq_true hlen) (L:=⟨w.heap.size,ty,z,n,g⟩) rfl hb hk h1 hT h2 h3 h4 h5 h6 (fun j hj w' hs hkp=>Eh.2 (h7 j hj w' hs hkp)) (R:=MemRet (Wm w (w1,k,v0)) w1 k n z ty cp g') (fun a hA=>?_)).mono ?_
 ·exact hwp (w1,k,v0) hR _ (fun x st a w' hx hgl hms hA=>ret_mem hres hgl hms rfl hA hx) a w1 hA
 ·rintro en w' ⟨v,rfl,rfl,q1,q2,q3,arr',us',rest',q4,q5,q6,q7,q8,q9⟩;refine⟨rfl,q1,q2,q3,arr',us',rest',q4,q5,q6,q7,q8,fun j hj S hS w'' hs hkp=>?_⟩;exact Eh.1 (JR (C:=Wm w (w1,k,v0)) rfl (Ut (b:=true) (C:=Wm w (w1,k,v0)) (w:=w') (w':=w') (S:=S) rfl (fun i hi=>by obtain⟨o,p1,p2⟩:=hS i hi;exact⟨(Array.getElem?_eq_some_iff.1 p1).1,o,p1,p2⟩) hkp) (hq j hj) (q9 j hj))
section
variable {w w1:World}{o:Opt}{f nt:Nat}{ks:List Kp}{st st':St Dx}{x:Xt}{ob:List Prop}{a:Act}{Q:Exit->Act->World->Prop}
theorem uu {fr:Fr}(h:runM w fr o f nt ks st st'=some (x,ob)) (hR:uF (Wm w fr) (TY o)) (hA:At (Wm w fr) nt st a w1) (hQ:∀ a' w',At (Wm w fr) nt st' a' w'->after Fence.wide 0 (Wm w fr).P (Yx ks) Q x.to a' w') (ho:cU ob:=by (repeat' (first|exact trivial|apply And.intro))<;>first|exact cD.refl _ _|exact fun _ _=>cH.refl _ _|exact jH rfl|exact jM _ _|exact jN _ _|(with_reducible assumption)|omega|with_reducible rfl|(simp only[jt];omega)|(intro j hj;exact absurd hj (not_lt_zero _))|exact cac rfl (by omega)|exact Ed rfl (by omega)|exact EH rfl (by omega)|exact decide_eq_true rfl|exact decide_eq_true (by omega)|assumption|rfl):after Fence.wide 0 (Wm w fr).P ks Q .normal a w1:=cca hR (.inl rfl) (fun _=>rfl) h ho hA hQ
noncomputable abbrev segM (w:World) (fr:Fr) (o:Opt) (f nt:Nat) (c:Code) (st st':St Dx):Option (Xt×List Prop):=segTo (Wm w fr) (TY o) (uv (Sx true w.heap.size) (TY o) 300 30).1 (uv (Sx true w.heap.size) (TY o) 300 30).2 nt f false 300 c st st'
theorem cbB {fr:Fr}{c:Code}(h:segM w fr o f nt c st st'=some (x,ob)) (hR:uF (Wm w fr) (TY o)) (hA:At (Wm w fr) nt st a w1) (hQ:∀ a' w',At (Wm w fr) nt st' a' w'->Q x.to a' w') (ho:cU ob:=by (repeat' (first|exact trivial|apply And.intro))<;>first|exact cD.refl _ _|exact fun _ _=>cH.refl _ _|exact jH rfl|exact jM _ _|exact jN _ _|(with_reducible assumption)|omega|with_reducible rfl|(simp only[jt];omega)|(intro j hj;exact absurd hj (not_lt_zero _))|exact cac rfl (by omega)|exact Ed rfl (by omega)|exact EH rfl (by omega)|exact decide_eq_true rfl|exact decide_eq_true (by omega)|assumption|rfl):after Fence.wide 0 (Wm w fr).P [.code c] Q .normal a w1:=ckk hR (.inl rfl) (fun _=>rfl) h ho hA hQ
theorem Co {bb:Bool}{lo:Nat}{w0:World}{f:Nat}{args:List (Pat Dx)}{res:cL Dx}(h:cY (Cx bb lo w0) (.mem f) args res):∀ l r ob,Cv args res l=some (r,ob)->cU ob->cY (Cx bb lo w0) (.mem f) l r:=by
 intro l r ob hl ho;unfold Cv at hl;injection hl with hl;injection hl with h1 h2;subst h1;subst h2
 rw[show l=args from ho.1];exact h
end
end Pe
namespace Pe
noncomputable def kQ114_:List Kp:=[.code (codeOf Tryz.f114)]
noncomputable def kQ114_n:List Kp:=next kQ114_
noncomputable def kQ114_nl:List Kp:=[.code (kZ kQ114_n)]
noncomputable def kQ114_nln:List Kp:=next kQ114_nl
noncomputable def kQ114_nlnn:List Kp:=next kQ114_nln
noncomputable def kQ114_nlnnl:List Kp:=[.code (kZ kQ114_nlnn)]
noncomputable def kLanes130_:List Kp:=[.code (codeOf Tryz.f30)]
noncomputable def kQ114_nlnnt:List Kp:=kQ114_nlnn.tail
noncomputable def kQ114_nlnnth:List Kp:=cbc 100 kQ114_nlnnt
noncomputable def kQ114_nt:List Kp:=kQ114_n.tail
abbrev fq4 (k:Nat) (xs:List Rat) (j:Nat):List (Grp Dx):=[.cls (.q (xs.getD j 0) k)]
abbrev vF (cf:Nat):Value:=.func (.func cf) #[] #[]
def swp (xs:List Rat) (j:Nat):List Rat:=(xs.set j (xs.getD (j-1) 0)).set (j-1) (xs.getD j 0)
theorem CY {xs:List Rat}{j:Nat}:(swp xs j).length=xs.length:=by simp [swp]
theorem Gb {xs:List Rat}{j i:Nat}(h0:0<j) (hj:j<xs.length):(swp xs j).getD i 0=match Nat.beq i (j-1) with
 |true=>xs.getD j 0
 |false=>match Nat.beq i j with
  |true=>xs.getD (j-1) 0
  |false=>xs.getD i 0:=by
 rw[swp,List.getD_eq_getElem?_getD,List.getElem?_set,List.getElem?_set];split
 ·rename_i h;subst h;rw[beq_refl,if_pos (by simp;omega)];rfl
 ·rename_i h;rw[show Nat.beq i (j-1)=false from Bool.eq_false_iff.2 fun e=>h (eq_of_beq_eq_true e).symm];split
  ·rename_i h1;subst h1;rw[beq_refl];rfl
  ·rename_i h1;rw[show Nat.beq i j=false from Bool.eq_false_iff.2 fun e=>h1 (eq_of_beq_eq_true e).symm];show xs[i]?.getD 0=xs.getD i 0;rw[List.getD_eq_getElem?_getD]
theorem Ke {C:Ctx Dx}{k:Nat}{xs:List Rat}{j:Nat}(h0:0<j) (hj:j<xs.length) (i:Nat):cH C (fq4 k (swp xs j) i) (Zc (Zc (fq4 k xs) j [.cls (.q (xs.getD (j-1) 0) k)]) (j-1) [.cls (.q (xs.getD j 0) k)] i):=by
 have:Zc (Zc (fq4 k xs) j [Grp.cls (Dx.q (xs.getD (j-1) 0) k)]) (j-1) [Grp.cls (Dx.q (xs.getD j 0) k)] i=fq4 k (swp xs j) i:=by
  show _=[Grp.cls (Dx.q ((swp xs j).getD i 0) k)];rw[Gb h0 hj];unfold Zc;cases Nat.beq i (j-1)<;>cases Nat.beq i j<;>rfl
 rw[this];exact cH.refl _ _
def bub (cv:Rat->Rat->Int):Nat->List Rat->List Rat
 |0,xs=>xs
 |j+1,xs=>match decide (cv (xs.getD (j+1) 0) (xs.getD j 0)<0) with
  |true=>bub cv j (swp xs (j+1))
  |false=>xs
def srt (cv:Rat->Rat->Int) (xs:List Rat):Nat->List Rat
 |0=>xs
 |m+1=>bub cv m (srt cv xs m)
section
variable {cv:Rat->Rat->Int}
theorem cgK:∀ {j:Nat}{xs:List Rat},(bub cv j xs).length=xs.length
 |0,_=>rfl
 |j+1,xs=>by
  unfold bub;split
  ·rw[cgK,CY]
  ·rfl
theorem zK {xs:List Rat}:∀ {m:Nat},(srt cv xs m).length=xs.length
 |0=>rfl
 |m+1=>by rw[srt,cgK,zK]
theorem cgf {j:Nat}{xs:List Rat}(h0:0<j) (h:decide (cv (xs.getD j 0) (xs.getD (j-1) 0)<0)=true):bub cv j xs=bub cv (j-1) (swp xs j):=by
 obtain⟨m,rfl⟩:∃ m,j=m+1:=⟨j-1,by omega⟩;rw[add_sub_cancel] at h ⊢;rw[bub,h]
theorem bub_no {j:Nat}{xs:List Rat}(h:decide (cv (xs.getD j 0) (xs.getD (j-1) 0)<0)=false):bub cv j xs=xs:=by
 cases j with
 |zero=>rfl
 |succ m =>
  rw[add_sub_cancel] at h;rw[bub,h]
theorem cdQ {j:Nat}{xs:List Rat}(h:j=0):bub cv j xs=xs:=by subst h;rfl
end
abbrev isO (cf k n:Nat) (xs:List Rat) (i:Nat):St Dx:=⟨1,[(0,.val (.one (.fn 0))),(1,.val (.one (.lit (ii 0)))),(2,.val (.one (.lit (ii (n:Int))))),(3,.val (.one (.lit (vF cf)))),(8,.val (.one (.lit (ii (i:Int)))))],[(0,.gl 33 4 n (fq4 k xs))],[]⟩
abbrev isJ (cf k n:Nat) (xs:List Rat) (i j:Nat):St Dx:=⟨1,[(0,.val (.one (.fn 0))),(1,.val (.one (.lit (ii 0)))),(2,.val (.one (.lit (ii (n:Int))))),(3,.val (.one (.lit (vF cf)))),(8,.val (.one (.lit (ii (i:Int))))),(9,.val (.one (.lit (ii (j:Int)))))],[(0,.gl 33 4 n (fq4 k xs))],[]⟩
def blN (i:Nat):Int:=if i<=1 then 1 else if i<=3 then 2 else if i<=7 then 3 else 4
abbrev uN (i:Nat):Pat Dx:=.one (.lit (.int .u64 (Int.ofNat i)))
theorem bl1 {w:World}:runA w ⟨[],[],[]⟩ 71 8 Tryz.f71 (stA [uN 1]) (rI (blN 1))=some (.ret,[ku 1,ii (blN 1)=ii 1]):=by kernel_rfl
theorem bl2 {w:World}:runA w ⟨[],[],[]⟩ 71 8 Tryz.f71 (stA [uN 2]) (rI (blN 2))=some (.ret,[ku 2,ii (blN 2)=ii 2]):=by kernel_rfl
theorem bl3 {w:World}:runA w ⟨[],[],[]⟩ 71 8 Tryz.f71 (stA [uN 3]) (rI (blN 3))=some (.ret,[ku 2,ii (blN 3)=ii 2]):=by kernel_rfl
theorem bl4 {w:World}:runA w ⟨[],[],[]⟩ 71 8 Tryz.f71 (stA [uN 4]) (rI (blN 4))=some (.ret,[ku 3,ii (blN 4)=ii 3]):=by kernel_rfl
theorem bl5 {w:World}:runA w ⟨[],[],[]⟩ 71 8 Tryz.f71 (stA [uN 5]) (rI (blN 5))=some (.ret,[ku 3,ii (blN 5)=ii 3]):=by kernel_rfl
theorem bl6 {w:World}:runA w ⟨[],[],[]⟩ 71 8 Tryz.f71 (stA [uN 6]) (rI (blN 6))=some (.ret,[ku 3,ii (blN 6)=ii 3]):=by kernel_rfl
theorem bl7 {w:World}:runA w ⟨[],[],[]⟩ 71 8 Tryz.f71 (stA [uN 7]) (rI (blN 7))=some (.ret,[ku 3,ii (blN 7)=ii 3]):=by kernel_rfl
theorem bl8 {w:World}:runA w ⟨[],[],[]⟩ 71 8 Tryz.f71 (stA [uN 8]) (rI (blN 8))=some (.ret,[ku 4,ii (blN 8)=ii 4]):=by kernel_rfl
theorem bl9 {w:World}:runA w ⟨[],[],[]⟩ 71 8 Tryz.f71 (stA [uN 9]) (rI (blN 9))=some (.ret,[ku 4,ii (blN 9)=ii 4]):=by kernel_rfl
theorem bl10 {w:World}:runA w ⟨[],[],[]⟩ 71 8 Tryz.f71 (stA [uN 10]) (rI (blN 10))=some (.ret,[ku 4,ii (blN 10)=ii 4]):=by kernel_rfl
theorem bl11 {w:World}:runA w ⟨[],[],[]⟩ 71 8 Tryz.f71 (stA [uN 11]) (rI (blN 11))=some (.ret,[ku 4,ii (blN 11)=ii 4]):=by kernel_rfl
theorem bl12 {w:World}:runA w ⟨[],[],[]⟩ 71 8 Tryz.f71 (stA [uN 12]) (rI (blN 12))=some (.ret,[ku 4,ii (blN 12)=ii 4]):=by kernel_rfl
theorem bl_says (hN:ka):∀ i,1<=i->i<=12->Ud 71 [uN i] (fun _=>rI (blN i)):=by
 intro i h1 h2 w vs hG hp;refine Kk hG hN (ex:=[]) jV (fn:=Tryz.f71) Tryz.func71 (c:=codeOf Tryz.f71) (by kernel_rfl) (args:=[uN i]) (by rfl) hp (fun hR _ hA=>?_)
 match i,h1,h2 with
 |1,_,_=>exact Es bl1 (hR _ rfl) hA
 |2,_,_=>exact Es bl2 (hR _ rfl) hA
 |3,_,_=>exact Es bl3 (hR _ rfl) hA
 |4,_,_=>exact Es bl4 (hR _ rfl) hA
 |5,_,_=>exact Es bl5 (hR _ rfl) hA
 |6,_,_=>exact Es bl6 (hR _ rfl) hA
 |7,_,_=>exact Es bl7 (hR _ rfl) hA
 |8,_,_=>exact Es bl8 (hR _ rfl) hA
 |9,_,_=>exact Es bl9 (hR _ rfl) hA
 |10,_,_=>exact Es bl10 (hR _ rfl) hA
 |11,_,_=>exact Es bl11 (hR _ rfl) hA
 |12,_,_=>exact Es bl12 (hR _ rfl) hA
 |i+13,_,h=>omega
def cgD:Con
 |[.one (.lit (.int .u64 (.ofNat i)))]=>some (vr (ii (blN i)),[1<=i,i<=12])
 |_=>none
theorem cdI {lo:Nat}{w0:World}(hN:ka) (hG:Gr w0) (hlo:lo<=w0.heap.size):∀ l r ob,cgD l=some (r,ob)->cU ob->cY (Cx true lo w0) (.call 71) l r:=by
 intro l r ob h ho;unfold cgD at h;split at h
 ·injection h with h;injection h with h1 h2;subst h1;subst h2
  exact(bl_says hN _ ho.1 ho.2.1).val hG hlo (enters_of Tryz.func71 (by kernel_rfl) rfl)
 ·cases h
abbrev sAEX:List (Nat×Con):=[]
theorem sAa {w:World}(fr:Fr) (k n:Nat) (xs:List Rat):runM w fr ⟨[],[],sAEX⟩ 114 53 kQ114_ (stM 33 4 n (fq4 k xs) [ii 0,ii (n:Int),vF 29]) (isO 29 k n xs 1)=some (.normal,[ku (0+1),n=n,∀ (j:Nat),j<n->cH (Wm w fr) (fq4 k xs j) (fq4 k xs j),ii 0=ii 0,eA (ii (n:Int)),vF 29=vF 29,ii (↑1:Int)=Value.int IntKind.i64 (0+1)]):=by kernel_rfl
theorem sAb {w:World}(fr:Fr) (k n:Nat) (xs:List Rat) (i:Nat):runM w fr ⟨[(114,14,true)],[],sAEX⟩ 114 53 kQ114_nl (isO 29 k n xs i) (isO 29 k n xs i)=some (.normal,[decide ((i:Int)<(n:Int))=true,n=n,∀ (j:Nat),j<n->cH (Wm w fr) (fq4 k xs j) (fq4 k xs j),ii 0=ii 0,eA (ii (n:Int)),vF 29=vF 29,eA (ii (i:Int))]):=by kernel_rfl
theorem sAc {w:World}(fr:Fr) (k n:Nat) (xs:List Rat) (i:Nat):runM w fr ⟨[(114,14,false)],[],sAEX⟩ 114 53 kQ114_nl (isO 29 k n xs i) (isO 29 k n xs i)=some (.exit 0,[decide ((i:Int)<(n:Int))=false,n=n,∀ (j:Nat),j<n->cH (Wm w fr) (fq4 k xs j) (fq4 k xs j),ii 0=ii 0,eA (ii (n:Int)),vF 29=vF 29,eA (ii (i:Int))]):=by kernel_rfl
theorem sAd {w:World}(fr:Fr) (k n:Nat) (xs:List Rat) (i:Nat):runM w fr ⟨[],[],sAEX⟩ 114 53 kQ114_nln (isO 29 k n xs i) (isJ 29 k n xs i i)=some (.normal,[n=n,∀ (j:Nat),j<n->cH (Wm w fr) (fq4 k xs j) (fq4 k xs j),ii 0=ii 0,eA (ii (n:Int)),vF 29=vF 29,eA (ii (i:Int)),eA (ii (i:Int))]):=by kernel_rfl
theorem sAz {w:World}(fr:Fr) (k n:Nat) (xs:List Rat) (i j:Nat):runM w fr ⟨[],[],sAEX⟩ 114 53 kQ114_nlnnth (isJ 29 k n xs i j) (isO 29 k n xs (i+1))=some (.normal,[ku ((i:Int)+1),n=n,∀ (j:Nat),j<n->cH (Wm w fr) (fq4 k xs j) (fq4 k xs j),ii 0=ii 0,eA (ii (n:Int)),vF 29=vF 29,ii (↑(i+1):Int)=Value.int IntKind.i64 ((i:Int)+1)]):=by kernel_rfl
noncomputable abbrev sAxTe2 (w:World) (fr:Fr) (k n:Nat) (ys:List Rat) (i j:Nat) (o:List (Nat×Nat×Bool)):=runM w fr ⟨o,[],sAEX⟩ 114 53 kQ114_nlnnl (isJ 29 k n ys i j) (isJ 29 k n ys i j)
noncomputable abbrev sAxTnal (w:World) (fr:Fr) (k n:Nat) (ys:List Rat) (i j:Nat) (o:List (Nat×Nat×Bool)):=runM w fr ⟨o,[],sAEX⟩ 114 53 kQ114_nlnnl (isJ 29 k n ys i j) (isJ 29 k n (swp ys j) i (j-1))
theorem sAx0 {w:World}(fr:Fr) (k n:Nat) (ys:List Rat) (i j:Nat):sAxTnal w fr k n ys i j [(114,20,true),(114,33,true),(114,29,true),(114,36,true),(114,41,true),(114,44,true)]=some (.normal,[decide ((j:Int)>0)=true,j<n,j<n,1<=j,j<=1000000000,j-1<n,j-1<n,k+k<=1000000,decide (jn (ys.getD j 0) (ys.getD (j-1) 0)<0)=true,1<=j,j<=1000000000,1<=j,j<=1000000000,j-1<n,j-1<n,j<n,j<n,j<n,j<n,j-1<n,j-1<n,1<=j,j<=1000000000,n=n,∀ (j_1:Nat),j_1<n->cH (Wm w fr) (fq4 k (swp ys j) j_1) (Zc (Zc (fq4 k ys) j ([].append ([Grp.cls (Dx.q (ys.getD (j-1) 0) k)].append []))) (j-1) ([].append ([Grp.cls (Dx.q (ys.getD j 0) k)].append [])) j_1),ii 0=ii 0,eA (ii (n:Int)),vF 29=vF 29,eA (ii (i:Int)),ii (↑(j-1):Int)=Value.int IntKind.i64 (Int.ofNat (j-1))]):=by kernel_rfl
theorem sAx1 {w:World}(fr:Fr) (k n:Nat) (ys:List Rat) (i j:Nat):sAxTe2 w fr k n ys i j [(114,20,true),(114,33,false),(114,29,true),(114,36,true),(114,41,true),(114,44,true)]=some (.exit 2,[decide ((j:Int)>0)=true,j<n,j<n,1<=j,j<=1000000000,j-1<n,j-1<n,k+k<=1000000,decide (jn (ys.getD j 0) (ys.getD (j-1) 0)<0)=false,n=n,∀ (j:Nat),j<n->cH (Wm w fr) (fq4 k ys j) (fq4 k ys j),ii 0=ii 0,eA (ii (n:Int)),vF 29=vF 29,eA (ii (i:Int)),eA (ii (j:Int))]):=by kernel_rfl
theorem sAx2 {w:World}(fr:Fr) (k n:Nat) (ys:List Rat) (i j:Nat):sAxTe2 w fr k n ys i j [(114,20,false),(114,29,true),(114,36,true),(114,41,true),(114,44,true)]=some (.exit 2,[decide ((j:Int)>0)=false,n=n,∀ (j:Nat),j<n->cH (Wm w fr) (fq4 k ys j) (fq4 k ys j),ii 0=ii 0,eA (ii (n:Int)),vF 29=vF 29,eA (ii (i:Int)),eA (ii (j:Int))]):=by kernel_rfl
theorem sA_ins (hN:ka) {w:World}(hG:Gr w) (lo k:Nat) (xs:List Rat) (hk:k<=1000) (h1:1<=xs.length) (h2:xs.length<=1000):cY (W0 w) (.mem 114) (.one (.cls (.ls ⟨w.heap.size,33,4,xs.length,fq4 k xs⟩))::jC [ii 0,ii (xs.length:Int),vF 29]) (.val (.one (.cls (.ls ⟨lo,33,4,xs.length,fq4 k (srt jn xs xs.length)⟩)))):=by
 refine UQ hG hN (ex:=sAEX) jV (fn:=Tryz.f114) Tryz.func114 (c:=codeOf Tryz.f114) (by kernel_rfl) (by kernel_rfl) (by kernel_rfl) (fun _ _=>rfl) (fun fr hR Q hQ a w1 hA=>?_);refine uu (sAa fr k xs.length xs) (hR _ rfl) hA (fun aT wT hT=>kA ?_);refine uU (fun i=>isO 29 k xs.length (srt jn xs i) i) (fun i=>1<=i/\i<=xs.length) (fun i=>xs.length-i) (L:=kQ114_n) (ks:=kQ114_nt) (id:=0) (c:=kZ kQ114_n) (by kernel_rfl) 1 ⟨le_refl _,h1⟩ hT (fun i a2 w2 hi hA=>?_);obtain⟨hi1,hi2⟩:=hi;rcases eq_false_or_eq_true (decide ((i:Int)<(xs.length:Int))) with q14|q14
 ·have p14:=of_decide_eq_true q14;refine uu (sAb fr k xs.length (srt jn xs i) i) (hR _ rfl) hA (fun aT wT hT=>kA ?_);refine uu (sAd fr k xs.length (srt jn xs i) i) (hR _ rfl) hT (fun aT wT hT=>kA ?_);refine uU (fun(θ:List Rat×Nat)=>isJ 29 k xs.length θ.1 i θ.2) (fun θ=>θ.2<=i/\θ.1.length=xs.length/\bub jn θ.2 θ.1=srt jn xs (i+1)) (fun θ=>θ.2) (L:=kQ114_nlnn) (ks:=kQ114_nlnnt) (id:=2) (c:=kZ kQ114_nlnn) (by kernel_rfl) (srt jn xs i,i) ⟨le_refl _,zK,rfl⟩ hT (fun θ a3 w3 hj hA=>?_);obtain⟨ys,j⟩:=θ;obtain⟨hj1,hj2,hj3⟩:=hj;have hj1:j<=i:=hj1;have hj2:ys.length=xs.length:=hj2;have hj3:bub jn j ys=srt jn xs (i+1):=hj3;rcases eq_false_or_eq_true (decide ((j:Int)>0)) with q20|q20
  ·skip
   have p20:=of_decide_eq_true q20;rcases eq_false_or_eq_true (decide (jn (ys.getD j 0) (ys.getD (j-1) 0)<0)) with q33|q33
   ·skip
    have p33:=of_decide_eq_true q33;have e1:=cgf (cv:=jn) (xs:=ys) (show 0<j by omega) q33;refine uu (sAx0 fr k xs.length ys i j) (hR _ rfl) hA (fun aT wT hT=>?_) (by (repeat' (first|exact trivial|apply And.intro))<;>first|exact cD.refl _ _|exact fun _ _=>cH.refl _ _|exact jH rfl|exact jM _ _|exact jN _ _|(with_reducible assumption)|omega|with_reducible rfl|(simp only[jt];omega)|(intro j hj;exact absurd hj (not_lt_zero _))|exact fun i' _=>Ke (by omega) (by omega) i'|rfl);exact jm (by kernel_rfl) ⟨(swp ys j,j-1),⟨by show j-1<=i;omega,by rw[← hj2];exact CY,by rw[← hj3,e1]⟩,hT,by show j-1<j;omega⟩
   ·skip
    have p33:=of_decide_eq_false q33;have e1:=bub_no (cv:=jn) (xs:=ys) q33;refine uu (sAx1 fr k xs.length ys i j) (hR _ rfl) hA (fun aT wT hT=>?_) (by (repeat' (first|exact trivial|apply And.intro))<;>first|exact cD.refl _ _|exact fun _ _=>cH.refl _ _|exact jH rfl|exact jM _ _|exact jN _ _|(with_reducible assumption)|omega|with_reducible rfl|(simp only[jt];omega)|(intro j hj;exact absurd hj (not_lt_zero _))|exact fun i' _=>Ke (by omega) (by omega) i'|rfl);refine jR _ (by kernel_rfl) (Ga 100 _ ?_);refine uu (sAz fr k xs.length ys i j) (hR _ rfl) hT (fun aT wT hT=>?_);rw[e1] at hj3;rw[hj3] at hT;exact jm (by kernel_rfl) ⟨i+1,⟨by omega,by omega⟩,hT,by omega⟩
  ·skip
   have p20:=of_decide_eq_false q20;have e1:=cdQ (cv:=jn) (xs:=ys) (show j=0 by omega);refine uu (sAx2 fr k xs.length ys i j) (hR _ rfl) hA (fun aT wT hT=>?_) (by (repeat' (first|exact trivial|apply And.intro))<;>first|exact cD.refl _ _|exact fun _ _=>cH.refl _ _|exact jH rfl|exact jM _ _|exact jN _ _|(with_reducible assumption)|omega|with_reducible rfl|(simp only[jt];omega)|(intro j hj;exact absurd hj (not_lt_zero _))|exact fun i' _=>Ke (by omega) (by omega) i'|rfl);refine jR _ (by kernel_rfl) (Ga 100 _ ?_);refine uu (sAz fr k xs.length ys i j) (hR _ rfl) hT (fun aT wT hT=>?_);rw[e1] at hj3;rw[hj3] at hT;exact jm (by kernel_rfl) ⟨i+1,⟨by omega,by omega⟩,hT,by omega⟩
 ·refine uu (sAc fr k xs.length (srt jn xs i) i) (hR _ rfl) hA (fun aT wT hT=>?_);refine jR _ (by kernel_rfl) ?_;have p14:=of_decide_eq_false q14;obtain rfl:i=xs.length:=by omega
  exact jm (by kernel_rfl) (hQ .normal _ _ _ (.inr rfl) rfl rfl hT)
abbrev sAPX (lo k:Nat) (xs:List Rat):List (Nat×Con):=[(1000000+114,Cv (.one (.cls (.ls ⟨lo,33,4,xs.length,fq4 k xs⟩))::jC [ii 0,ii (xs.length:Int),vF 29]) (.val (.one (.cls (.ls ⟨lo,33,4,xs.length,fq4 k (srt jn xs xs.length)⟩)))))]
abbrev sASX (lo k:Nat) (xs:List Rat):List (Nat×Con):=[(1000000+70,Cv (.one (.cls (.ls ⟨lo,33,4,xs.length,fq4 k xs⟩))::jC [ii 0,ii (xs.length:Int),ii (blN xs.length),vF 29]) (.val (.one (.cls (.ls ⟨lo,33,4,xs.length,fq4 k (srt jn xs xs.length)⟩))))),(71,cgD)]
abbrev sAE (k:Nat) (xs:List Rat):St Dx:=⟨1,[(0,.val (.one (.fn 0)))],[(0,.gl 33 4 xs.length (fq4 k (srt jn xs xs.length)))],[]⟩
theorem sAp {w:World}(fr:Fr) (k:Nat) (xs:List Rat) (l:Int):segM w fr ⟨[(70,25,true)],[],sAPX w.heap.size k xs⟩ 70 148 (codeOf Tryz.f70) (stM 33 4 xs.length (fq4 k xs) [ii 0,ii (xs.length:Int),ii l,vF 29]) (sAE k xs)=some (.ret,[ku ((xs.length:Int)-0),decide ((xs.length:Int)-0<=12)=true,0<xs.length,xs.length=xs.length,eA (Pat.one (Grp.cls (Dx.ls { lo:=w.1.size,ty:=33,z:=4,n:=xs.length,g:=fq4 k xs }))::jC [ii 0,ii (xs.length:Int),vF 29]),xs.length=xs.length,∀ (j:Nat),j<xs.length->cH (Wm w fr) (fq4 k (srt jn xs xs.length) j) (fq4 k (srt jn xs xs.length) j)]):=by kernel_rfl
theorem sAs {w:World}(fr:Fr) (k:Nat) (xs:List Rat):segM w fr ⟨[],[],sASX w.heap.size k xs⟩ 28 14 (codeOf Tryz.f28) (stM 33 4 xs.length (fq4 k xs) [vF 29]) (sAE k xs)=some (.normal,[xs.length<=4000000000,1<=xs.length,xs.length<=12,0<xs.length,xs.length=xs.length,Pat.one (Grp.cls (Dx.ls { lo:=w.1.size,ty:=33,z:=4,n:=xs.length,g:=fq4 k xs }))::jC [Value.int IntKind.i64 0,goInt (xs.length:Int),ii (blN xs.length),vF 29]=Pat.one (Grp.cls (Dx.ls { lo:=w.1.size,ty:=33,z:=4,n:=xs.length,g:=fq4 k xs }))::jC [ii 0,ii (xs.length:Int),ii (blN xs.length),vF 29],xs.length=xs.length,∀ (j:Nat),j<xs.length->cH (Wm w fr) (fq4 k (srt jn xs xs.length) j) (fq4 k (srt jn xs xs.length) j)]):=by kernel_rfl
theorem sA_pdq (hN:ka) {w:World}(hG:Gr w) (lo k:Nat) (xs:List Rat) (l:Int) (hk:k<=1000) (h1:1<=xs.length) (h2:xs.length<=12):cY (W0 w) (.mem 70) (.one (.cls (.ls ⟨w.heap.size,33,4,xs.length,fq4 k xs⟩))::jC [ii 0,ii (xs.length:Int),ii l,vF 29]) (.val (.one (.cls (.ls ⟨lo,33,4,xs.length,fq4 k (srt jn xs xs.length)⟩)))):=by
 refine UQ hG hN (ex:=sAPX w.heap.size k xs) (Jw (Co (sA_ins hN hG _ k xs hk h1 (by omega))) jV) (fn:=Tryz.f70) Tryz.func70 (c:=codeOf Tryz.f70) (by kernel_rfl) (by kernel_rfl) (by kernel_rfl) (fun _ _=>rfl) (fun fr hR Q hQ a w1 hA=>?_);exact cbB (sAp fr k xs l) (hR _ rfl) hA (fun aT wT hT=>hQ .ret _ _ _ (.inl rfl) rfl rfl hT)
theorem sA_sort (hN:ka) {w:World}(hG:Gr w) (lo k:Nat) (xs:List Rat) (hk:k<=1000) (h1:1<=xs.length) (h2:xs.length<=12):cY (W0 w) (.mem 28) (.one (.cls (.ls ⟨w.heap.size,33,4,xs.length,fq4 k xs⟩))::jC [vF 29]) (.val (.one (.cls (.ls ⟨lo,33,4,xs.length,fq4 k (srt jn xs xs.length)⟩)))):=by
 refine UQ hG hN (ex:=sASX w.heap.size k xs) (Jw (Co (sA_pdq hN hG _ k xs _ hk h1 h2)) (jG (cdI hN hG (le_refl _)) jV)) (fn:=Tryz.f28) Tryz.func28 (c:=codeOf Tryz.f28) (by kernel_rfl) (by kernel_rfl) (by kernel_rfl) (fun _ _=>rfl) (fun fr hR Q hQ a w1 hA=>?_);exact cbB (sAs fr k xs) (hR _ rfl) hA (fun aT wT hT=>hQ .normal _ _ _ (.inr rfl) rfl rfl hT)
def uG (r s:Rat):Int:=jn s r
def ceN:Con
 |[.agg [.cls (.q r j)],.agg [.cls (.q s k)]]=>some (vr (.int .i64 (uG r s)),[j+k<=10000])
 |_=>none
noncomputable abbrev revR (w:World) (r s:Rat) (j k:Nat)  (o:List (Nat×Nat×Bool)):=runR w ⟨o,[],[]⟩ 30 8 Tryz.f30 kLanes130_ (stA [pQ r j,pQ s k]) (rI (uG r s))
theorem rev0 {w:World}(r s:Rat) (j k:Nat):revR w r s j k []=some (.ret,[k+j<=1000000,Value.int IntKind.i64 (uG r s)=Value.int IntKind.i64 (jn s r)]):=by kernel_rfl
theorem rev_ok (hN:ka) (r s:Rat) (j k:Nat) (hj:j+k<=10000):Ud 30 [pQ r j,pQ s k] (fun _=>rI (uG r s)):=by
 intro w vs hG hp;refine Kk hG hN (ex:=[]) jV (fn:=Tryz.f30) Tryz.func30 (c:=codeOf Tryz.f30) (by kernel_rfl) (args:=[pQ r j,pQ s k]) (by kernel_rfl) hp (fun hR _ hA=>?_);refine yL (rev0 r s j k) (hR _ rfl) hA
theorem ciX {lo:Nat}{w0:World}(hN:ka) (hG:Gr w0) (hlo:lo<=w0.heap.size):∀ l r ob,ceN l=some (r,ob)->cU ob->cY (Cx true lo w0) (.call 30) l r:=by
 intro l r ob h ho;unfold ceN at h;split at h
 ·injection h with h;injection h with h1 h2;subst h1;subst h2
  exact(rev_ok hN _ _ _ _ ho.1).val hG hlo (enters_of Tryz.func30 (by kernel_rfl) rfl)
 ·cases h
abbrev sBEX:List (Nat×Con):=[(30,ceN)]
theorem sBa {w:World}(fr:Fr) (k n:Nat) (xs:List Rat):runM w fr ⟨[],[],sBEX⟩ 114 53 kQ114_ (stM 33 4 n (fq4 k xs) [ii 0,ii (n:Int),vF 30]) (isO 30 k n xs 1)=some (.normal,[ku (0+1),n=n,∀ (j:Nat),j<n->cH (Wm w fr) (fq4 k xs j) (fq4 k xs j),ii 0=ii 0,eA (ii (n:Int)),vF 30=vF 30,ii (↑1:Int)=Value.int IntKind.i64 (0+1)]):=by kernel_rfl
theorem sBb {w:World}(fr:Fr) (k n:Nat) (xs:List Rat) (i:Nat):runM w fr ⟨[(114,14,true)],[],sBEX⟩ 114 53 kQ114_nl (isO 30 k n xs i) (isO 30 k n xs i)=some (.normal,[decide ((i:Int)<(n:Int))=true,n=n,∀ (j:Nat),j<n->cH (Wm w fr) (fq4 k xs j) (fq4 k xs j),ii 0=ii 0,eA (ii (n:Int)),vF 30=vF 30,eA (ii (i:Int))]):=by kernel_rfl
theorem sBc {w:World}(fr:Fr) (k n:Nat) (xs:List Rat) (i:Nat):runM w fr ⟨[(114,14,false)],[],sBEX⟩ 114 53 kQ114_nl (isO 30 k n xs i) (isO 30 k n xs i)=some (.exit 0,[decide ((i:Int)<(n:Int))=false,n=n,∀ (j:Nat),j<n->cH (Wm w fr) (fq4 k xs j) (fq4 k xs j),ii 0=ii 0,eA (ii (n:Int)),vF 30=vF 30,eA (ii (i:Int))]):=by kernel_rfl
theorem sBd {w:World}(fr:Fr) (k n:Nat) (xs:List Rat) (i:Nat):runM w fr ⟨[],[],sBEX⟩ 114 53 kQ114_nln (isO 30 k n xs i) (isJ 30 k n xs i i)=some (.normal,[n=n,∀ (j:Nat),j<n->cH (Wm w fr) (fq4 k xs j) (fq4 k xs j),ii 0=ii 0,eA (ii (n:Int)),vF 30=vF 30,eA (ii (i:Int)),eA (ii (i:Int))]):=by kernel_rfl
theorem sBz {w:World}(fr:Fr) (k n:Nat) (xs:List Rat) (i j:Nat):runM w fr ⟨[],[],sBEX⟩ 114 53 kQ114_nlnnth (isJ 30 k n xs i j) (isO 30 k n xs (i+1))=some (.normal,[ku ((i:Int)+1),n=n,∀ (j:Nat),j<n->cH (Wm w fr) (fq4 k xs j) (fq4 k xs j),ii 0=ii 0,eA (ii (n:Int)),vF 30=vF 30,ii (↑(i+1):Int)=Value.int IntKind.i64 ((i:Int)+1)]):=by kernel_rfl
noncomputable abbrev sBxTe2 (w:World) (fr:Fr) (k n:Nat) (ys:List Rat) (i j:Nat) (o:List (Nat×Nat×Bool)):=runM w fr ⟨o,[],sBEX⟩ 114 53 kQ114_nlnnl (isJ 30 k n ys i j) (isJ 30 k n ys i j)
noncomputable abbrev sBxTnal (w:World) (fr:Fr) (k n:Nat) (ys:List Rat) (i j:Nat) (o:List (Nat×Nat×Bool)):=runM w fr ⟨o,[],sBEX⟩ 114 53 kQ114_nlnnl (isJ 30 k n ys i j) (isJ 30 k n (swp ys j) i (j-1))
theorem sBx0 {w:World}(fr:Fr) (k n:Nat) (ys:List Rat) (i j:Nat):sBxTnal w fr k n ys i j [(114,20,true),(114,33,true),(114,29,true),(114,36,true),(114,41,true),(114,44,true)]=some (.normal,[decide ((j:Int)>0)=true,j<n,j<n,1<=j,j<=1000000000,j-1<n,j-1<n,k+k<=10000,decide (uG (ys.getD j 0) (ys.getD (j-1) 0)<0)=true,1<=j,j<=1000000000,1<=j,j<=1000000000,j-1<n,j-1<n,j<n,j<n,j<n,j<n,j-1<n,j-1<n,1<=j,j<=1000000000,n=n,∀ (j_1:Nat),j_1<n->cH (Wm w fr) (fq4 k (swp ys j) j_1) (Zc (Zc (fq4 k ys) j ([].append ([Grp.cls (Dx.q (ys.getD (j-1) 0) k)].append []))) (j-1) ([].append ([Grp.cls (Dx.q (ys.getD j 0) k)].append [])) j_1),ii 0=ii 0,eA (ii (n:Int)),vF 30=vF 30,eA (ii (i:Int)),ii (↑(j-1):Int)=Value.int IntKind.i64 (Int.ofNat (j-1))]):=by kernel_rfl
theorem sBx1 {w:World}(fr:Fr) (k n:Nat) (ys:List Rat) (i j:Nat):sBxTe2 w fr k n ys i j [(114,20,true),(114,33,false),(114,29,true),(114,36,true),(114,41,true),(114,44,true)]=some (.exit 2,[decide ((j:Int)>0)=true,j<n,j<n,1<=j,j<=1000000000,j-1<n,j-1<n,k+k<=10000,decide (uG (ys.getD j 0) (ys.getD (j-1) 0)<0)=false,n=n,∀ (j:Nat),j<n->cH (Wm w fr) (fq4 k ys j) (fq4 k ys j),ii 0=ii 0,eA (ii (n:Int)),vF 30=vF 30,eA (ii (i:Int)),eA (ii (j:Int))]):=by kernel_rfl
theorem sBx2 {w:World}(fr:Fr) (k n:Nat) (ys:List Rat) (i j:Nat):sBxTe2 w fr k n ys i j [(114,20,false),(114,29,true),(114,36,true),(114,41,true),(114,44,true)]=some (.exit 2,[decide ((j:Int)>0)=false,n=n,∀ (j:Nat),j<n->cH (Wm w fr) (fq4 k ys j) (fq4 k ys j),ii 0=ii 0,eA (ii (n:Int)),vF 30=vF 30,eA (ii (i:Int)),eA (ii (j:Int))]):=by kernel_rfl
theorem sB_ins (hN:ka) {w:World}(hG:Gr w) (lo k:Nat) (xs:List Rat) (hk:k<=1000) (h1:1<=xs.length) (h2:xs.length<=1000):cY (W0 w) (.mem 114) (.one (.cls (.ls ⟨w.heap.size,33,4,xs.length,fq4 k xs⟩))::jC [ii 0,ii (xs.length:Int),vF 30]) (.val (.one (.cls (.ls ⟨lo,33,4,xs.length,fq4 k (srt uG xs xs.length)⟩)))):=by
 refine UQ hG hN (ex:=sBEX) (jG (ciX hN hG (le_refl _)) jV) (fn:=Tryz.f114) Tryz.func114 (c:=codeOf Tryz.f114) (by kernel_rfl) (by kernel_rfl) (by kernel_rfl) (fun _ _=>rfl) (fun fr hR Q hQ a w1 hA=>?_);refine uu (sBa fr k xs.length xs) (hR _ rfl) hA (fun aT wT hT=>kA ?_);refine uU (fun i=>isO 30 k xs.length (srt uG xs i) i) (fun i=>1<=i/\i<=xs.length) (fun i=>xs.length-i) (L:=kQ114_n) (ks:=kQ114_nt) (id:=0) (c:=kZ kQ114_n) (by kernel_rfl) 1 ⟨le_refl _,h1⟩ hT (fun i a2 w2 hi hA=>?_);obtain⟨hi1,hi2⟩:=hi;rcases eq_false_or_eq_true (decide ((i:Int)<(xs.length:Int))) with q14|q14
 ·have p14:=of_decide_eq_true q14;refine uu (sBb fr k xs.length (srt uG xs i) i) (hR _ rfl) hA (fun aT wT hT=>kA ?_);refine uu (sBd fr k xs.length (srt uG xs i) i) (hR _ rfl) hT (fun aT wT hT=>kA ?_);refine uU (fun(θ:List Rat×Nat)=>isJ 30 k xs.length θ.1 i θ.2) (fun θ=>θ.2<=i/\θ.1.length=xs.length/\bub uG θ.2 θ.1=srt uG xs (i+1)) (fun θ=>θ.2) (L:=kQ114_nlnn) (ks:=kQ114_nlnnt) (id:=2) (c:=kZ kQ114_nlnn) (by kernel_rfl) (srt uG xs i,i) ⟨le_refl _,zK,rfl⟩ hT (fun θ a3 w3 hj hA=>?_);obtain⟨ys,j⟩:=θ;obtain⟨hj1,hj2,hj3⟩:=hj;have hj1:j<=i:=hj1;have hj2:ys.length=xs.length:=hj2;have hj3:bub uG j ys=srt uG xs (i+1):=hj3;rcases eq_false_or_eq_true (decide ((j:Int)>0)) with q20|q20
  ·skip
   have p20:=of_decide_eq_true q20;rcases eq_false_or_eq_true (decide (uG (ys.getD j 0) (ys.getD (j-1) 0)<0)) with q33|q33
   ·skip
    have p33:=of_decide_eq_true q33;have e1:=cgf (cv:=uG) (xs:=ys) (show 0<j by omega) q33;refine uu (sBx0 fr k xs.length ys i j) (hR _ rfl) hA (fun aT wT hT=>?_) (by (repeat' (first|exact trivial|apply And.intro))<;>first|exact cD.refl _ _|exact fun _ _=>cH.refl _ _|exact jH rfl|exact jM _ _|exact jN _ _|(with_reducible assumption)|omega|with_reducible rfl|(simp only[jt];omega)|(intro j hj;exact absurd hj (not_lt_zero _))|exact fun i' _=>Ke (by omega) (by omega) i'|rfl);exact jm (by kernel_rfl) ⟨(swp ys j,j-1),⟨by show j-1<=i;omega,by rw[← hj2];exact CY,by rw[← hj3,e1]⟩,hT,by show j-1<j;omega⟩
   ·skip
    have p33:=of_decide_eq_false q33;have e1:=bub_no (cv:=uG) (xs:=ys) q33;refine uu (sBx1 fr k xs.length ys i j) (hR _ rfl) hA (fun aT wT hT=>?_) (by (repeat' (first|exact trivial|apply And.intro))<;>first|exact cD.refl _ _|exact fun _ _=>cH.refl _ _|exact jH rfl|exact jM _ _|exact jN _ _|(with_reducible assumption)|omega|with_reducible rfl|(simp only[jt];omega)|(intro j hj;exact absurd hj (not_lt_zero _))|exact fun i' _=>Ke (by omega) (by omega) i'|rfl);refine jR _ (by kernel_rfl) (Ga 100 _ ?_);refine uu (sBz fr k xs.length ys i j) (hR _ rfl) hT (fun aT wT hT=>?_);rw[e1] at hj3;rw[hj3] at hT;exact jm (by kernel_rfl) ⟨i+1,⟨by omega,by omega⟩,hT,by omega⟩
  ·skip
   have p20:=of_decide_eq_false q20;have e1:=cdQ (cv:=uG) (xs:=ys) (show j=0 by omega);refine uu (sBx2 fr k xs.length ys i j) (hR _ rfl) hA (fun aT wT hT=>?_) (by (repeat' (first|exact trivial|apply And.intro))<;>first|exact cD.refl _ _|exact fun _ _=>cH.refl _ _|exact jH rfl|exact jM _ _|exact jN _ _|(with_reducible assumption)|omega|with_reducible rfl|(simp only[jt];omega)|(intro j hj;exact absurd hj (not_lt_zero _))|exact fun i' _=>Ke (by omega) (by omega) i'|rfl);refine jR _ (by kernel_rfl) (Ga 100 _ ?_);refine uu (sBz fr k xs.length ys i j) (hR _ rfl) hT (fun aT wT hT=>?_);rw[e1] at hj3;rw[hj3] at hT;exact jm (by kernel_rfl) ⟨i+1,⟨by omega,by omega⟩,hT,by omega⟩
 ·refine uu (sBc fr k xs.length (srt uG xs i) i) (hR _ rfl) hA (fun aT wT hT=>?_);refine jR _ (by kernel_rfl) ?_;have p14:=of_decide_eq_false q14;obtain rfl:i=xs.length:=by omega
  exact jm (by kernel_rfl) (hQ .normal _ _ _ (.inr rfl) rfl rfl hT)
abbrev sBPX (lo k:Nat) (xs:List Rat):List (Nat×Con):=[(1000000+114,Cv (.one (.cls (.ls ⟨lo,33,4,xs.length,fq4 k xs⟩))::jC [ii 0,ii (xs.length:Int),vF 30]) (.val (.one (.cls (.ls ⟨lo,33,4,xs.length,fq4 k (srt uG xs xs.length)⟩)))))]
abbrev sBSX (lo k:Nat) (xs:List Rat):List (Nat×Con):=[(1000000+70,Cv (.one (.cls (.ls ⟨lo,33,4,xs.length,fq4 k xs⟩))::jC [ii 0,ii (xs.length:Int),ii (blN xs.length),vF 30]) (.val (.one (.cls (.ls ⟨lo,33,4,xs.length,fq4 k (srt uG xs xs.length)⟩))))),(71,cgD)]
abbrev sBE (k:Nat) (xs:List Rat):St Dx:=⟨1,[(0,.val (.one (.fn 0)))],[(0,.gl 33 4 xs.length (fq4 k (srt uG xs xs.length)))],[]⟩
theorem sBp {w:World}(fr:Fr) (k:Nat) (xs:List Rat) (l:Int):segM w fr ⟨[(70,25,true)],[],sBPX w.heap.size k xs⟩ 70 148 (codeOf Tryz.f70) (stM 33 4 xs.length (fq4 k xs) [ii 0,ii (xs.length:Int),ii l,vF 30]) (sBE k xs)=some (.ret,[ku ((xs.length:Int)-0),decide ((xs.length:Int)-0<=12)=true,0<xs.length,xs.length=xs.length,eA (Pat.one (Grp.cls (Dx.ls { lo:=w.1.size,ty:=33,z:=4,n:=xs.length,g:=fq4 k xs }))::jC [ii 0,ii (xs.length:Int),vF 30]),xs.length=xs.length,∀ (j:Nat),j<xs.length->cH (Wm w fr) (fq4 k (srt uG xs xs.length) j) (fq4 k (srt uG xs xs.length) j)]):=by kernel_rfl
theorem sBs {w:World}(fr:Fr) (k:Nat) (xs:List Rat):segM w fr ⟨[],[],sBSX w.heap.size k xs⟩ 28 14 (codeOf Tryz.f28) (stM 33 4 xs.length (fq4 k xs) [vF 30]) (sBE k xs)=some (.normal,[xs.length<=4000000000,1<=xs.length,xs.length<=12,0<xs.length,xs.length=xs.length,Pat.one (Grp.cls (Dx.ls { lo:=w.1.size,ty:=33,z:=4,n:=xs.length,g:=fq4 k xs }))::jC [Value.int IntKind.i64 0,goInt (xs.length:Int),ii (blN xs.length),vF 30]=Pat.one (Grp.cls (Dx.ls { lo:=w.1.size,ty:=33,z:=4,n:=xs.length,g:=fq4 k xs }))::jC [ii 0,ii (xs.length:Int),ii (blN xs.length),vF 30],xs.length=xs.length,∀ (j:Nat),j<xs.length->cH (Wm w fr) (fq4 k (srt uG xs xs.length) j) (fq4 k (srt uG xs xs.length) j)]):=by kernel_rfl
theorem sB_pdq (hN:ka) {w:World}(hG:Gr w) (lo k:Nat) (xs:List Rat) (l:Int) (hk:k<=1000) (h1:1<=xs.length) (h2:xs.length<=12):cY (W0 w) (.mem 70) (.one (.cls (.ls ⟨w.heap.size,33,4,xs.length,fq4 k xs⟩))::jC [ii 0,ii (xs.length:Int),ii l,vF 30]) (.val (.one (.cls (.ls ⟨lo,33,4,xs.length,fq4 k (srt uG xs xs.length)⟩)))):=by
 refine UQ hG hN (ex:=sBPX w.heap.size k xs) (Jw (Co (sB_ins hN hG _ k xs hk h1 (by omega))) jV) (fn:=Tryz.f70) Tryz.func70 (c:=codeOf Tryz.f70) (by kernel_rfl) (by kernel_rfl) (by kernel_rfl) (fun _ _=>rfl) (fun fr hR Q hQ a w1 hA=>?_);exact cbB (sBp fr k xs l) (hR _ rfl) hA (fun aT wT hT=>hQ .ret _ _ _ (.inl rfl) rfl rfl hT)
theorem sB_sort (hN:ka) {w:World}(hG:Gr w) (lo k:Nat) (xs:List Rat) (hk:k<=1000) (h1:1<=xs.length) (h2:xs.length<=12):cY (W0 w) (.mem 28) (.one (.cls (.ls ⟨w.heap.size,33,4,xs.length,fq4 k xs⟩))::jC [vF 30]) (.val (.one (.cls (.ls ⟨lo,33,4,xs.length,fq4 k (srt uG xs xs.length)⟩)))):=by
 refine UQ hG hN (ex:=sBSX w.heap.size k xs) (Jw (Co (sB_pdq hN hG _ k xs _ hk h1 h2)) (jG (cdI hN hG (le_refl _)) jV)) (fn:=Tryz.f28) Tryz.func28 (c:=codeOf Tryz.f28) (by kernel_rfl) (by kernel_rfl) (by kernel_rfl) (fun _ _=>rfl) (fun fr hR Q hQ a w1 hA=>?_);exact cbB (sBs fr k xs) (hR _ rfl) hA (fun aT wT hT=>hQ .normal _ _ _ (.inr rfl) rfl rfl hT)
end Pe
namespace Pe
noncomputable def kQ69_:List Kp:=[.code (codeOf Tryz.f69)]
noncomputable def kQ69_n:List Kp:=next kQ69_
noncomputable def kQ69_nl:List Kp:=[.code (kZ kQ69_n)]
noncomputable def kQ26_:List Kp:=[.code (codeOf Tryz.f26)]
noncomputable def kLanes10_:List Kp:=[.code (codeOf Tryz.f10)]
noncomputable def kQ69_nt:List Kp:=kQ69_n.tail
noncomputable def kLanes10_n:List Kp:=next kLanes10_
noncomputable def kLanes10_nl:List Kp:=[.code (kZ kLanes10_n)]
noncomputable def kLanes10_nt:List Kp:=kLanes10_n.tail
noncomputable def kLanes10_ntn:List Kp:=next kLanes10_nt
noncomputable def kLanes10_ntnl:List Kp:=[.code (kZ kLanes10_ntn)]
noncomputable def kLanes10_ntnt:List Kp:=kLanes10_ntn.tail
noncomputable def conBt:Con:=q2 fun r j s k=>ck false (k<=j/\j<=1000000) (sr (jz r [s]) j (cT r [s]) j)
noncomputable def conHu:Con:=s2 fun a i b j c k d l=>ck false (j<=i/\l<=k/\i+k<=1000000) (sr (jz a [b,c,d]) (i+k) (cT a [b,c,d]) (i+k))
theorem chw {r:Rat}{rs:List Rat}{k:Nat}(h:Siz r k) (hs:∀ x∈rs,Siz x k):Siz (jz r rs) k:=by
 rcases Ex r rs with e|e
 ·rw[e];exact h
 ·exact hs _ e
theorem cer {r:Rat}{rs:List Rat}{k:Nat}(h:Siz r k) (hs:∀ x∈rs,Siz x k):Siz (cT r rs) k:=by
 rcases CP r rs with e|e
 ·rw[e];exact h
 ·exact hs _ e
theorem cdJ {lo:Nat}{w0:World}:∀ l r ob,conBt l=some (r,ob)->cU ob->cY (Cx true lo w0) (.call 21) l r:=by
 intro l res ob h ho;refine UY h (enters_of Tryz.func21 (by kernel_rfl) rfl) (fun r j s k h w v1 v2 hb a1 z1 a2 z2=>?_);obtain⟨hk,rfl⟩:=uW h ho;have y1:Siz r j:=z1;have y2:∀ x∈[s],Siz x j:=by intro x hx;simp at hx;subst hx;exact z2.le (by omega)
 exact(cdH v1 v2 r s j w a1 a2 y1 (z2.le (by omega)) (by omega)).mono fun _ _ h=>res_s (chw y1 y2) (cer y1 y2) h
theorem cdh {lo:Nat}{w0:World}:∀ l r ob,conHu l=some (r,ob)->cU ob->cY (Cx true lo w0) (.call 32) l r:=by
 intro l res ob h ho;refine ent_s2 h (enters_of Tryz.func32 (by kernel_rfl) rfl) (fun a i b j c k d l h w v1 v2 hb a1 z1 z2 a2 z3 z4=>?_);obtain⟨hk,rfl⟩:=uW h ho;have y1:Siz a (i+k):=z1.le (by omega);have y2:∀ x∈[b,c,d],Siz x (i+k):=by intro x hx;simp at hx;rcases hx with rfl|rfl|rfl;exact z2.le (by omega);exact z3.le (by omega);exact z4.le (by omega)
 exact(ckJ v1 v2 a b c d (i+k) w a1 a2 y1 (z2.le (by omega)) (z3.le (by omega)) (z4.le (by omega)) (by omega)).mono fun _ _ h=>res_s (chw y1 y2) (cer y1 y2) h
abbrev f1 (r:Rat):List (Grp Dx):=[.cls (.q r 4)]
abbrev pFs (lo:Nat) (F:List Rat):Pat Dx:=.one (.cls (.ls (lst lo 33 4 F f1)))
abbrev pLn (lo:Nat) (X:List R2):Pat Dx:=.one (.cls (.ls (lst lo 36 8 X fQ)))
abbrev bdN (F:List Rat) (i:Nat):Bool:=decide (kG (F.getD i default)<0)
def exNg:List (Nat×Con):=[(27,ccg)]
abbrev inI (lo:Nat) (L:List Rat) (i:Nat):St Dx:=⟨1,[(0,.val (.one (.sym 0 0))),(1,.val (.one (.lit (.func (.func 27) #[] #[])))),(7,.val (.one (.lit (ii (L.length:Int))))),(8,.val (.one (.lit (ii (i:Int)))))],[(0,.cls (.ls (lst lo 33 4 L f1)))],[]⟩
theorem ina {w:World}(lo:Nat) (L:List Rat):run w ⟨[],[],exNg⟩ 69 19 kQ69_ (stA [pFs lo L,pF 27]) (inI lo L 0)=some (.normal,[sD w (.ls (lst lo 33 4 L f1)),eA (Value.func (Fn.func 27) #[] #[]),ii (L.length:Int)=goInt (L.length:Int),ii (↑0:Int)=Value.int IntKind.i64 0]):=by kernel_rfl
theorem ine {w:World}(lo:Nat) (L:List Rat) (i:Nat):runR w ⟨[],[],exNg⟩ 69 19 Tryz.f69 kQ69_nt (inI lo L i) (rI (ixP L.length (bdN L)))=some (.ret,[Value.int IntKind.i64 (ixP L.length (bdN L))=Value.int IntKind.i64 (-1)]):=by kernel_rfl
noncomputable abbrev inbTe0 (w:World) (l0:Nat) (L:List Rat) (i:Nat) (o:List (Nat×Nat×Bool)):=run w ⟨o,[],exNg⟩ 69 19 kQ69_nl (inI l0 L i) (inI l0 L i)
noncomputable abbrev inbTnal (w:World) (l0:Nat) (L:List Rat) (i:Nat) (o:List (Nat×Nat×Bool)):=run w ⟨o,[],exNg⟩ 69 19 kQ69_nl (inI l0 L i) (inI l0 L (i+1))
noncomputable abbrev inbR (w:World) (l0:Nat) (L:List Rat) (i:Nat) (o:List (Nat×Nat×Bool)):=runR w ⟨o,[],exNg⟩ 69 19 Tryz.f69 kQ69_nl (inI l0 L i) (rI (ixP L.length (bdN L)))
theorem inb0 {w:World}(l0:Nat) (L:List Rat) (i:Nat):inbR w l0 L i [(69,9,true),(69,16,true)]=some (.ret,[decide ((i:Int)<(L.length:Int))=true,i<L.length,i<L.length,decide (kG (L.getD i default)<0)=true,Value.int IntKind.i64 (ixP L.length (bdN L))=ii (i:Int)]):=by kernel_rfl
theorem inb1 {w:World}(l0:Nat) (L:List Rat) (i:Nat):inbTnal w l0 L i [(69,9,true),(69,16,false)]=some (.normal,[decide ((i:Int)<(L.length:Int))=true,i<L.length,i<L.length,decide (kG (L.getD i default)<0)=false,ku ((i:Int)+1),sD w (.ls (lst l0 33 4 L f1)),eA (Value.func (Fn.func 27) #[] #[]),eA (ii (L.length:Int)),ii (↑(i+1):Int)=Value.int IntKind.i64 ((i:Int)+1)]):=by kernel_rfl
theorem inb2 {w:World}(l0:Nat) (L:List Rat) (i:Nat):inbTe0 w l0 L i [(69,9,false)]=some (.exit 0,[decide ((i:Int)<(L.length:Int))=false,sD w (.ls (lst l0 33 4 L f1)),eA (Value.func (Fn.func 27) #[] #[]),eA (ii (L.length:Int)),eA (ii (i:Int))]):=by kernel_rfl
theorem ixN_ok (hN:ka) (l0:Nat) (L:List Rat) (hl:L.length<=1000000):Ud 69 [pFs l0 L,pF 27] (fun _=>rI (ixP L.length (bdN L))):=by
 intro w vs hG hp;refine Kk hG hN (ex:=exNg) (exNeg hN hG (le_refl _)) (fn:=Tryz.f69) Tryz.func69 (c:=codeOf Tryz.f69) (by kernel_rfl) (args:=[pFs l0 L,pF 27]) (by kernel_rfl) hp (fun hR _ hA=>?_);refine jS (ina l0 L) (hR _ rfl) hA (fun a w1 hA=>kA ?_);refine uU (fun i=>inI l0 L i) (fun i=>i<=L.length/\∀ k,k<i->bdN L k=false) (fun i=>L.length-i) (L:=kQ69_n) (ks:=kQ69_nt) (id:=0) (c:=kZ kQ69_n) (by kernel_rfl) 0 ⟨zero_le _,by omega⟩ hA (fun i a2 w2 hi hA=>?_);rcases eq_false_or_eq_true (decide ((i:Int)<(L.length:Int))) with q9|q9
 ·skip
  have p9:=of_decide_eq_true q9;rcases eq_false_or_eq_true (bdN L i) with q16|q16
  ·skip
   have e0:=congrArg (Value.int .i64) (ckp (n:=L.length) (p:=bdN L) (i:=i) (by omega) q16 hi.2);refine yL (inb0 l0 L i) (hR _ rfl) hA
  ·skip
   refine jS (inb1 l0 L i) (hR _ rfl) hA (fun aT wT hT=>?_);exact jm (by kernel_rfl) ⟨i+1,⟨by omega,fun k hk=>by rcases Nat.lt_succ_iff_lt_or_eq.1 hk with h|rfl;exact hi.2 k h;exact q16⟩,hT,by omega⟩
 ·skip
  have p9:=of_decide_eq_false q9;refine jS (inb2 l0 L i) (hR _ rfl) hA (fun aT wT hT=>?_);refine jR _ (by kernel_rfl) ?_;refine ret_is (hR ⟨[],[],exNg⟩ rfl) (.inl rfl) (fun _=>rfl) (fn:=Tryz.f69) (ine l0 L i) ?_ hT (fun _ _ h=>h);exact⟨congrArg (Value.int .i64) (cko fun k hk=>hi.2 k (by omega)),trivial⟩
abbrev exJN (l0:Nat) (L:List Rat):List (Nat×Con):=[(69,Cv [pFs l0 L,pF 27] (vr (.int .i64 (ixP L.length (bdN L)))))]
theorem exJN_ok {lo l0:Nat}{w0:World}{L:List Rat}(hN:ka) (hG:Gr w0) (hlo:lo<=w0.heap.size) (hl:L.length<=1000000):Ej true lo w0 (exJN l0 L):=jG (zg ((ixN_ok hN l0 L hl).val hG hlo (enters_of Tryz.func69 (by kernel_rfl) rfl))) jV
noncomputable abbrev cniR (w:World) (l0:Nat) (L:List Rat)  (o:List (Nat×Nat×Bool)):=runR w ⟨o,[],(exJN l0 L)⟩ 26 9 Tryz.f26 kQ26_ (stA [pFs l0 L,pF 27]) (rB (anyP L.length (bdN L)))
theorem cni0 {w:World}(l0:Nat) (L:List Rat):cniR w l0 L [(26,8,true)]=some (.ret,[[Pat.one (Grp.cls (Dx.ls (lst l0 33 4 L f1))),Pat.one (Grp.lit (Value.func (Fn.func 27) #[] #[]))]=[pFs l0 L,pF 27],decide (ixP L.length (bdN L)>=0)=true,Value.bool (anyP L.length (bdN L))=Value.bool true]):=by kernel_rfl
theorem cni1 {w:World}(l0:Nat) (L:List Rat):cniR w l0 L [(26,8,false)]=some (.ret,[[Pat.one (Grp.cls (Dx.ls (lst l0 33 4 L f1))),Pat.one (Grp.lit (Value.func (Fn.func 27) #[] #[]))]=[pFs l0 L,pF 27],decide (ixP L.length (bdN L)>=0)=false,Value.bool (anyP L.length (bdN L))=Value.bool false]):=by kernel_rfl
theorem cdO (hN:ka) (l0:Nat) (L:List Rat) (hl:L.length<=1000000):Ud 26 [pFs l0 L,pF 27] (fun _=>rB (anyP L.length (bdN L))):=by
 intro w vs hG hp;refine Kk hG hN (ex:=(exJN l0 L)) (exJN_ok hN hG (le_refl _) hl) (fn:=Tryz.f26) Tryz.func26 (c:=codeOf Tryz.f26) (by kernel_rfl) (args:=[pFs l0 L,pF 27]) (by kernel_rfl) hp (fun hR _ hA=>?_);rcases eq_false_or_eq_true (decide (ixP L.length (bdN L)>=0)) with q8|q8
 ·skip
  have p8:=of_decide_eq_true q8
  first|have e0:=congrArg Value.bool (ixP_ge.symm.trans q8)|skip
  refine yL (cni0 l0 L) (hR _ rfl) hA
 ·skip
  have p8:=of_decide_eq_false q8
  first|have e0:=congrArg Value.bool (ixP_ge.symm.trans q8)|skip
  refine yL (cni1 l0 L) (hR _ rfl) hA
abbrev pS2 (r:Rat) (j:Nat) (s:Rat) (k:Nat):Pat Dx:=.agg [.cls (.q r j),.cls (.q s k)]
noncomputable def los (X:List R2):List Rat:=X.map fun x=>jz x.1 [x.2]
noncomputable def his (X:List R2):List Rat:=X.map fun x=>cT x.1 [x.2]
theorem Ec {X:List R2}:(los X).length=X.length:=by simp [los]
theorem Gp {X:List R2}:(his X).length=X.length:=by simp [his]
theorem Jd {X:List R2}{f:R2->Rat}{i:Nat}(h:i<X.length):(X.map f).getD i 0=f (X.getD i default):=by
 rw[List.getD_eq_getElem?_getD,List.getElem?_map,List.getD_eq_getElem?_getD,List.getElem?_eq_getElem h];rfl
theorem los_at {X:List R2}{i:Nat}(h:i<X.length) {k:Nat}:[Grp.cls (Dx.q (jz (X.getD i default).1 [(X.getD i default).2]) k)]=fq4 k (los X) i:=by
 show _=[Grp.cls (Dx.q ((los X).getD i 0) k)];rw[los,Jd h]
theorem his_at {X:List R2}{i:Nat}(h:i<X.length) {k:Nat}:[Grp.cls (Dx.q (cT (X.getD i default).1 [(X.getD i default).2]) k)]=fq4 k (his X) i:=by
 show _=[Grp.cls (Dx.q ((his X).getD i 0) k)];rw[his,Jd h]
noncomputable def lsX (X:List R2):List Rat:=srt jn (los X) X.length
noncomputable def hsX (X:List R2):List Rat:=srt uG (his X) X.length
def pre (xs:List Rat):Nat->Rat
 |0=>0
 |i+1=>pre xs i+xs.getD i 0
noncomputable def spn (xs ys F:List Rat):Nat->Rat×Rat
 |0=>(0,0)
 |i+1=>(jz (spn xs ys F i).1 [(spn xs ys F i).2,jz (pre xs (i+1)*F.getD i default) [pre ys (i+1)*F.getD i default],cT (pre xs (i+1)*F.getD i default) [pre ys (i+1)*F.getD i default]],
  cT (spn xs ys F i).1 [(spn xs ys F i).2,jz (pre xs (i+1)*F.getD i default) [pre ys (i+1)*F.getD i default],cT (pre xs (i+1)*F.getD i default) [pre ys (i+1)*F.getD i default]])
abbrev z4:List AC:=[.lit (.bool false),.lit (.int .u64 0),.lit (.int .u64 0),.lit (.pointer none)]
abbrev z8:List AC:=[.lit (.bool false),.lit (.int .u64 0),.lit (.int .u64 0),.lit (.pointer none),.lit (.bool false),.lit (.int .u64 0),.lit (.int .u64 0),.lit (.pointer none)]
noncomputable abbrev laM (l0 l1:Nat) (X:List R2) (F:List Rat) (n:Nat):Ws Dx:=[(0,.cls (.ls (lst l0 36 8 X fQ))),(1,.cls (.ls (lst l1 33 4 F f1))),(2,.blk 36 z8 none),(3,.gl 33 4 n (fq4 4 (los X))),(4,.gl 33 4 n (fq4 4 (his X)))]
noncomputable abbrev laI (l0 l1:Nat) (X:List R2) (F:List Rat) (i:Nat):St Dx:=⟨5,[(0,.val (.one (.sym 0 0))),(1,.val (.one (.sym 1 0))),(4,.val (.one (.ptr 2 0))),(6,.val (.one (.fn 3))),(7,.val (.one (.fn 4))),(30,.val (.one (.sym 0 0))),(31,.val (.one (.lit (ii (X.length:Int))))),(32,.val (.one (.lit (ii (i:Int)))))],laM l0 l1 X F i,[]⟩
abbrev lbS (n i:Nat):List (Nat×AV):=[(1,.val (.one (.sym 0 0))),(4,.val (.one (.ptr 1 0))),(6,.val (.one (.fn 2))),(7,.val (.one (.fn 3))),(10,.val (.one (.ptr 4 0))),(11,.val (.one (.ptr 5 0))),(12,.val (.one (.ptr 6 0))),(56,.val (.one (.sym 0 0))),(57,.val (.one (.lit (ii (n:Int))))),(58,.val (.one (.lit (ii (i:Int)))))]
noncomputable abbrev lbM (l1:Nat) (xs ys F:List Rat) (n:Nat):Ws Dx:=[(0,.cls (.ls (lst l1 33 4 F f1))),(1,.blk 36 z8 none),(2,.gl 33 4 n (fq4 4 xs)),(3,.gl 33 4 n (fq4 4 ys))]
noncomputable abbrev lb0 (l1:Nat) (xs ys F:List Rat) (n:Nat):St Dx:=⟨7,lbS F.length 0,lbM l1 xs ys F n++[(4,.blk 36 z8 none),(5,.blk 33 z4 none),(6,.blk 33 z4 none)],[]⟩
noncomputable abbrev lb1 (l1:Nat) (xs ys F:List Rat) (n i:Nat):St Dx:=⟨11,lbS F.length i,lbM l1 xs ys F n++[(4,.blk 36 [.sym 7 0,.sym 7 1,.sym 7 2,.sym 7 3,.sym 8 0,.sym 8 1,.sym 8 2,.sym 8 3] none),(5,.blk 33 [.sym 9 0,.sym 9 1,.sym 9 2,.sym 9 3] none),(6,.blk 33 [.sym 10 0,.sym 10 1,.sym 10 2,.sym 10 3] none),(7,.cls (.q (spn xs ys F i).1 (200*i+1))),(8,.cls (.q (spn xs ys F i).2 (200*i+1))),(9,.cls (.q (pre xs i) (10*i+1))),(10,.cls (.q (pre ys i) (10*i+1)))],[]⟩
noncomputable abbrev exB:List (Nat×Con):=[(21,conBt),(32,conHu)]
theorem exB_ok {lo:Nat}{w0:World}:Ej true lo w0 exB:=jG cdJ (jG cdh jV)
def cfm (cf:Nat) (A B:Con):Con:=fun l=>match l with
 |[_,.one (.lit (.func (.func c) _ _))]=>match Nat.beq c cf with
  |true=>A l
  |false=>B l
 |_=>none
theorem ciQ {C:Ctx Dx}{hd:Hd}{cf:Nat}{A B:Con}(hA:∀ l r ob,A l=some (r,ob)->cU ob->cY C hd l r) (hB:∀ l r ob,B l=some (r,ob)->cU ob->cY C hd l r):∀ l r ob,cfm cf A B l=some (r,ob)->cU ob->cY C hd l r:=by
 intro l r ob h ho;unfold cfm at h;split at h
 ·split at h
  ·exact hA _ _ _ h ho
  ·exact hB _ _ _ h ho
 ·cases h
noncomputable abbrev exSo (lo:Nat) (X:List R2):List (Nat×Con):=[(1000000+28,cfm 29 (Cv (.one (.cls (.ls ⟨lo,33,4,X.length,fq4 4 (los X)⟩))::jC [vF 29]) (.val (.one (.cls (.ls ⟨lo,33,4,X.length,fq4 4 (lsX X)⟩))))) (Cv (.one (.cls (.ls ⟨lo,33,4,X.length,fq4 4 (his X)⟩))::jC [vF 30]) (.val (.one (.cls (.ls ⟨lo,33,4,X.length,fq4 4 (hsX X)⟩))))))]
theorem cgB (hN:ka) {w:World}(hG:Gr w) {X:List R2}(h1:1<=X.length) (h2:X.length<=8):Ej true w.heap.size w (exSo w.heap.size X):=by
 refine Jw (ciQ (Co ?_) (Co ?_)) jV
 ·have h:=sA_sort hN hG w.heap.size 4 (los X) (by omega) (by rw[Ec];omega) (by rw[Ec];omega);rw[Ec] at h;exact h
 ·have h:=sB_sort hN hG w.heap.size 4 (his X) (by omega) (by rw[Gp];omega) (by rw[Gp];omega);rw[Gp] at h;exact h
noncomputable abbrev exLn (l1:Nat) (X:List R2) (F:List Rat):List (Nat×Con):=(26,Cv [pFs l1 F,pF 27] (vr (.bool (anyP F.length (bdN F)))))::exB
theorem UO {w:World}{ex:List (Nat×Con)}(hG:Gr w) (hN:ka) (hE:Ej true w.heap.size w ex):∀ o:Opt,o.ex=ex->uF (W0 w) (TY o):=fun _ ho=>cbN (le_refl _) hG hN (by rw[ho];exact hE)
theorem lan1 {w:World}(l0 l1:Nat) (X:List R2) (F:List Rat):run w ⟨[(10,17,false),(10,23,false),(10,27,false)],[],exLn l1 X F⟩ 10 86 kLanes10_ (stA [pLn l0 X,pFs l1 F]) (laI l0 l1 X F 0)=some (.normal,[decide ((X.length:Int)>8)=false,decide ((F.length:Int)≠(X.length:Int))=false,anyP F.length (bdN F)=false,[Pat.one (Grp.cls (Dx.ls (lst l1 33 4 F f1))),Pat.one (Grp.lit (Value.func (Fn.func 27) #[] #[]))]=[pFs l1 F,pF 27],sD w (.ls (lst l0 36 8 X fQ)),sD w (.ls (lst l1 33 4 F f1))]++(zV++(zV++[0=0,0=0,0=0,ii (X.length:Int)=goInt (X.length:Int),ii (↑0:Int)=Value.int IntKind.i64 0]))):=by kernel_rfl
theorem lan2 {w:World}(l0 l1:Nat) (X:List R2) (F:List Rat) (i:Nat):run w ⟨[(10,33,true)],[],exLn l1 X F⟩ 10 86 kLanes10_nl (laI l0 l1 X F i) (laI l0 l1 X F (i+1))=some (.normal,[decide ((i:Int)<(X.length:Int))=true,i<X.length,i<X.length,4<=4/\4<=1000000,i+1<=1000000,i+1<=1000000,ku ((i:Int)+1),sD w (.ls (lst l0 36 8 X fQ)),sD w (.ls (lst l1 33 4 F f1))]++(zV++(zV++[i+1=i+1,sN w i (fq4 4 (los X)) [Grp.cls (Dx.q (jz (X.getD i default).1 [(X.getD i default).2]) 4)],i+1=i+1,sN w i (fq4 4 (his X)) [Grp.cls (Dx.q (cT (X.getD i default).1 [(X.getD i default).2]) 4)],0=0,eA (ii (X.length:Int)),ii (↑(i+1):Int)=Value.int IntKind.i64 ((i:Int)+1)]))):=by kernel_rfl
theorem lan3 {w:World}(l0 l1:Nat) (X:List R2) (F:List Rat) (i:Nat):run w ⟨[(10,33,false)],[],exLn l1 X F⟩ 10 86 kLanes10_nl (laI l0 l1 X F i) (laI l0 l1 X F i)=some (.exit 0,[decide ((i:Int)<(X.length:Int))=false,sD w (.ls (lst l0 36 8 X fQ)),sD w (.ls (lst l1 33 4 F f1))]++(zV++(zV++[i=i,sG w i (fq4 4 (los X)),i=i,sG w i (fq4 4 (his X)),0=0,eA (ii (X.length:Int)),eA (ii (i:Int))]))):=by kernel_rfl
theorem lan4 {w:World}(l0 l1:Nat) (X:List R2) (F:List Rat):run w ⟨[],[],exSo w.heap.size X⟩ 10 86 kLanes10_nt (laI l0 l1 X F X.length) (lb0 l1 (lsX X) (hsX X) F X.length)=some (.normal,[0<X.length,X.length=X.length,Pat.one (Grp.cls (Dx.ls { lo:=w.1.size,ty:=33,z:=4,n:=X.length,g:=fq4 4 (los X) }))::jC [Value.func (Fn.func 29) #[] #[]]=Pat.one (Grp.cls (Dx.ls { lo:=w.1.size,ty:=33,z:=4,n:=X.length,g:=fq4 4 (los X) }))::jC [vF 29],0<X.length,X.length=X.length,Pat.one (Grp.cls (Dx.ls { lo:=w.1.size,ty:=33,z:=4,n:=X.length,g:=fq4 4 (his X) }))::jC [Value.func (Fn.func 30) #[] #[]]=Pat.one (Grp.cls (Dx.ls { lo:=w.1.size,ty:=33,z:=4,n:=X.length,g:=fq4 4 (his X) }))::jC [vF 30],sD w (.ls (lst l1 33 4 F f1))]++(zV++(zV++([X.length=X.length,sG w X.length (fq4 4 (lsX X)),X.length=X.length,sG w X.length (fq4 4 (hsX X))]++(zV++(zV++(zV++(zV++[0=0,0=0,0=0,0=0,ii (F.length:Int)=goInt (F.length:Int),ii (↑0:Int)=Value.int IntKind.i64 0])))))))):=by kernel_rfl
theorem lan5 {w:World}(l1:Nat) (xs ys F:List Rat) (n:Nat):run w ⟨[(10,59,true)],[],exB⟩ 10 86 kLanes10_ntnl (lb0 l1 xs ys F n) (lb1 l1 xs ys F n 1)=some (.normal,[decide ((↑0:Int)<(F.length:Int))=true,0<F.length,0<F.length,0<n,0<n,1+4+1<=1000000,0<n,0<n,1+4+1<=1000000,1+4+1+4<=1000000,1+4+1+4<=1000000,1+4+1+4<=1+4+1+4/\1+4+1+4<=1000000,1<=1/\1+4+1+4<=1+4+1+4/\1+(1+4+1+4)<=1000000,ku ((↑0:Int)+1),sD w (.ls (lst l1 33 4 F f1))]++(zV++(zV++[n=n,sG w n (fq4 4 xs),n=n,sG w n (fq4 4 ys),cD (W0 w) (.q (jz 0 [0,jz (pre xs (0+1)*F.getD 0 default) [pre ys (0+1)*F.getD 0 default],cT (pre xs (0+1)*F.getD 0 default) [pre ys (0+1)*F.getD 0 default]]) (200*1+1)) (.q (jz 0 [0,jz ((0+xs.getD 0 0)*F.getD 0 default) [(0+ys.getD 0 0)*F.getD 0 default],cT ((0+xs.getD 0 0)*F.getD 0 default) [(0+ys.getD 0 0)*F.getD 0 default]]) (1+(1+4+1+4))),cD (W0 w) (.q (cT 0 [0,jz (pre xs (0+1)*F.getD 0 default) [pre ys (0+1)*F.getD 0 default],cT (pre xs (0+1)*F.getD 0 default) [pre ys (0+1)*F.getD 0 default]]) (200*1+1)) (.q (cT 0 [0,jz ((0+xs.getD 0 0)*F.getD 0 default) [(0+ys.getD 0 0)*F.getD 0 default],cT ((0+xs.getD 0 0)*F.getD 0 default) [(0+ys.getD 0 0)*F.getD 0 default]]) (1+(1+4+1+4))),cD (W0 w) (.q (pre xs 1) (10*1+1)) (.q (0+xs.getD 0 0) (1+4+1)),cD (W0 w) (.q (pre ys 1) (10*1+1)) (.q (0+ys.getD 0 0) (1+4+1)),0=0,0=0,0=0,0=0,eA (ii (F.length:Int)),ii (↑1:Int)=Value.int IntKind.i64 ((↑0:Int)+1)]))):=by kernel_rfl
theorem lan6 {w:World}(l1:Nat) (xs ys F:List Rat) (n i:Nat):run w ⟨[(10,59,true)],[],exB⟩ 10 86 kLanes10_ntnl (lb1 l1 xs ys F n i) (lb1 l1 xs ys F n (i+1))=some (.normal,[decide ((i:Int)<(F.length:Int))=true,i<F.length,i<F.length,i<n,i<n,10*i+1+4+1<=1000000,i<n,i<n,10*i+1+4+1<=1000000,10*i+1+4+1+4<=1000000,10*i+1+4+1+4<=1000000,10*i+1+4+1+4<=10*i+1+4+1+4/\10*i+1+4+1+4<=1000000,200*i+1<=200*i+1/\10*i+1+4+1+4<=10*i+1+4+1+4/\200*i+1+(10*i+1+4+1+4)<=1000000,ku ((i:Int)+1),sD w (.ls (lst l1 33 4 F f1))]++(zV++(zV++[n=n,sG w n (fq4 4 xs),n=n,sG w n (fq4 4 ys),cD (W0 w) (.q (jz (spn xs ys F i).1 [(spn xs ys F i).2,jz (pre xs (i+1)*F.getD i default) [pre ys (i+1)*F.getD i default],cT (pre xs (i+1)*F.getD i default) [pre ys (i+1)*F.getD i default]]) (200*(i+1)+1)) (.q (jz (spn xs ys F i).1 [(spn xs ys F i).2,jz ((pre xs i+xs.getD i 0)*F.getD i default) [(pre ys i+ys.getD i 0)*F.getD i default],cT ((pre xs i+xs.getD i 0)*F.getD i default) [(pre ys i+ys.getD i 0)*F.getD i default]]) (200*i+1+(10*i+1+4+1+4))),cD (W0 w) (.q (cT (spn xs ys F i).1 [(spn xs ys F i).2,jz (pre xs (i+1)*F.getD i default) [pre ys (i+1)*F.getD i default],cT (pre xs (i+1)*F.getD i default) [pre ys (i+1)*F.getD i default]]) (200*(i+1)+1)) (.q (cT (spn xs ys F i).1 [(spn xs ys F i).2,jz ((pre xs i+xs.getD i 0)*F.getD i default) [(pre ys i+ys.getD i 0)*F.getD i default],cT ((pre xs i+xs.getD i 0)*F.getD i default) [(pre ys i+ys.getD i 0)*F.getD i default]]) (200*i+1+(10*i+1+4+1+4))),cD (W0 w) (.q (pre xs (i+1)) (10*(i+1)+1)) (.q (pre xs i+xs.getD i 0) (10*i+1+4+1)),cD (W0 w) (.q (pre ys (i+1)) (10*(i+1)+1)) (.q (pre ys i+ys.getD i 0) (10*i+1+4+1)),0=0,0=0,0=0,0=0,eA (ii (F.length:Int)),ii (↑(i+1):Int)=Value.int IntKind.i64 ((i:Int)+1)]))):=by kernel_rfl
theorem lan7 {w:World}(l1:Nat) (xs ys F:List Rat) (n i:Nat):run w ⟨[(10,59,false)],[],exB⟩ 10 86 kLanes10_ntnl (lb1 l1 xs ys F n i) (lb1 l1 xs ys F n i)=some (.exit 2,[decide ((i:Int)<(F.length:Int))=false,sD w (.ls (lst l1 33 4 F f1))]++(zV++(zV++[n=n,sG w n (fq4 4 xs),n=n,sG w n (fq4 4 ys),sD w (.q (spn xs ys F i).1 (200*i+1)),sD w (.q (spn xs ys F i).2 (200*i+1)),sD w (.q (pre xs i) (10*i+1)),sD w (.q (pre ys i) (10*i+1)),0=0,0=0,0=0,0=0,eA (ii (F.length:Int)),eA (ii (i:Int))]))):=by kernel_rfl
theorem lan8 {w:World}(l1:Nat) (xs ys F:List Rat) (n i:Nat):runR w ⟨[],[],exB⟩ 10 86 Tryz.f10 kLanes10_ntnt (lb1 l1 xs ys F n i) [pS2 (spn xs ys F i).1 (200*i+1) (spn xs ys F i).2 (200*i+1),pI 0]=some (.ret,[sD w (.q (spn xs ys F i).1 (200*i+1)),sD w (.q (spn xs ys F i).2 (200*i+1)),eA (Value.int IntKind.i64 0),uw (W0 w) (.q (spn xs ys F i).1 (200*i+1)),uw (W0 w) (.q (spn xs ys F i).2 (200*i+1))]):=by kernel_rfl
theorem lanz {w:World}(l0 l1:Nat):runA w ⟨[],[],[]⟩ 10 86 Tryz.f10 (stA [pLn l0 [],pFs l1 []]) [pS2 0 1 0 1,pI 0]=some (.ret,[0<=4000000000,ku 0,ku 0,ku 1,0<=4000000000,ku 0,ku 0,ku 1,cH (W0 w) [.cls (.q 0 1),.cls (.q 0 1)] [.lit (.bool false),.lit (.int .u64 0),.lit (.int .u64 0),.lit (.pointer none),.lit (.bool false),.lit (.int .u64 0),.lit (.int .u64 0),.lit (.pointer none)],ii 0=ii 0,uw (W0 w) (.q 0 1),uw (W0 w) (.q 0 1)]):=by kernel_rfl
def WY (X:List R2) (F:List Rat):Bool:=!decide ((X.length:Int)>8)&&!decide ((F.length:Int)≠(X.length:Int))&&!anyP F.length (bdN F)
theorem chl {lo l1:Nat}{w0:World}{X:List R2}{F:List Rat}(hN:ka) (hG:Gr w0) (hlo:lo<=w0.heap.size) (hl:F.length<=1000000):Ej true lo w0 (exLn l1 X F) :=
 jG (zg ((cdO hN l1 F hl).val hG hlo (enters_of Tryz.func26 (by kernel_rfl) rfl))) exB_ok
noncomputable abbrev labTnal (w:World) (l0 l1:Nat) (X:List R2) (F:List Rat)   (o:List (Nat×Nat×Bool)):=run w ⟨o,[],(exLn l1 X F)⟩ 10 86 kLanes10_ (stA [pLn l0 X,pFs l1 F]) (laI l0 l1 X F 0)
noncomputable abbrev labR (w:World) (l0 l1:Nat) (X:List R2) (F:List Rat)   (o:List (Nat×Nat×Bool)):=runR w ⟨o,[],(exLn l1 X F)⟩ 10 86 Tryz.f10 kLanes10_ (stA [pLn l0 X,pFs l1 F]) [pS2 0 1 0 1,pI 2]
theorem lab0 {w:World}(l0 l1:Nat) (X:List R2) (F:List Rat):labR w l0 l1 X F [(10,17,true)]=some (.ret,[decide ((X.length:Int)>8)=true,cH (W0 w) [.cls (.q 0 1),.cls (.q 0 1)] [.lit (Value.bool false),.lit (Value.int IntKind.u64 0),.lit (Value.int IntKind.u64 0),.lit (Value.pointer none),.lit (Value.bool false),.lit (Value.int IntKind.u64 0),.lit (Value.int IntKind.u64 0),.lit (Value.pointer none)],eA (Value.int IntKind.i64 2),uw (W0 w) (.q 0 1),uw (W0 w) (.q 0 1)]):=by kernel_rfl
theorem lab1 {w:World}(l0 l1:Nat) (X:List R2) (F:List Rat):labR w l0 l1 X F [(10,17,false),(10,23,true)]=some (.ret,[decide ((X.length:Int)>8)=false,decide ((F.length:Int)≠(X.length:Int))=true,cH (W0 w) [.cls (.q 0 1),.cls (.q 0 1)] [.lit (Value.bool false),.lit (Value.int IntKind.u64 0),.lit (Value.int IntKind.u64 0),.lit (Value.pointer none),.lit (Value.bool false),.lit (Value.int IntKind.u64 0),.lit (Value.int IntKind.u64 0),.lit (Value.pointer none)],eA (Value.int IntKind.i64 2),uw (W0 w) (.q 0 1),uw (W0 w) (.q 0 1)]):=by kernel_rfl
theorem lab2 {w:World}(l0 l1:Nat) (X:List R2) (F:List Rat):labR w l0 l1 X F [(10,17,false),(10,23,false),(10,27,true)]=some (.ret,[decide ((X.length:Int)>8)=false,decide ((F.length:Int)≠(X.length:Int))=false,anyP F.length (bdN F)=true,[Pat.one (Grp.cls (Dx.ls (lst l1 33 4 F f1))),Pat.one (Grp.lit (Value.func (Fn.func 27) #[] #[]))]=[pFs l1 F,pF 27],cH (W0 w) [.cls (.q 0 1),.cls (.q 0 1)] [.lit (Value.bool false),.lit (Value.int IntKind.u64 0),.lit (Value.int IntKind.u64 0),.lit (Value.pointer none),.lit (Value.bool false),.lit (Value.int IntKind.u64 0),.lit (Value.int IntKind.u64 0),.lit (Value.pointer none)],eA (Value.int IntKind.i64 2),uw (W0 w) (.q 0 1),uw (W0 w) (.q 0 1)]):=by kernel_rfl
theorem lab3 {w:World}(l0 l1:Nat) (X:List R2) (F:List Rat):labTnal w l0 l1 X F [(10,17,false),(10,23,false),(10,27,false)]=some (.normal,[decide ((X.length:Int)>8)=false,decide ((F.length:Int)≠(X.length:Int))=false,anyP F.length (bdN F)=false,[Pat.one (Grp.cls (Dx.ls (lst l1 33 4 F f1))),Pat.one (Grp.lit (Value.func (Fn.func 27) #[] #[]))]=[pFs l1 F,pF 27],sD w (.ls (lst l0 36 8 X fQ)),sD w (.ls (lst l1 33 4 F f1))]++(zV++(zV++[0=0,0=0,0=0,ii (X.length:Int)=goInt (X.length:Int),ii (↑0:Int)=Value.int IntKind.i64 0]))):=by kernel_rfl
theorem ciD (hN:ka) (l0 l1:Nat) (X:List R2) (F:List Rat) (hl:F.length<=1000000) (hb:WY X F=false):Ud 10 [pLn l0 X,pFs l1 F] (fun _=>[pS2 0 1 0 1,pI 2]):=by
 intro w vs hG hp;refine Kk hG hN (ex:=(exLn l1 X F)) (chl hN hG (le_refl _) hl) (fn:=Tryz.f10) Tryz.func10 (c:=codeOf Tryz.f10) (by kernel_rfl) (args:=[pLn l0 X,pFs l1 F]) (by kernel_rfl) hp (fun hR _ hA=>?_);rcases eq_false_or_eq_true (decide ((X.length:Int)>8)) with q17|q17
 ·skip
  have p17:=of_decide_eq_true q17;refine yL (lab0 l0 l1 X F) (hR _ rfl) hA
 ·skip
  have p17:=of_decide_eq_false q17;rcases eq_false_or_eq_true (decide ((F.length:Int)≠(X.length:Int))) with q23|q23
  ·skip
   have p23:=of_decide_eq_true q23;refine yL (lab1 l0 l1 X F) (hR _ rfl) hA
  ·skip
   have p23:=of_decide_eq_false q23;rcases eq_false_or_eq_true (anyP F.length (bdN F)) with q27|q27
   ·skip
    refine yL (lab2 l0 l1 X F) (hR _ rfl) hA
   ·skip
    refine jS (lab3 l0 l1 X F) (hR _ rfl) hA (fun aT wT hT=>?_);rw[WY,q17,q23,q27] at hb;cases hb
theorem cio (hN:ka) (l0 l1:Nat):Ud 10 [pLn l0 [],pFs l1 []] (fun _=>[pS2 0 1 0 1,pI 0]):=by
 intro w vs hG hp;refine Kk hG hN (ex:=[]) jV (fn:=Tryz.f10) Tryz.func10 (c:=codeOf Tryz.f10) (by kernel_rfl) (args:=[pLn l0 [],pFs l1 []]) (by rfl) hp (fun hR _ hA=>?_);exact Es (lanz l0 l1) (hR _ rfl) hA 
theorem cjx (hN:ka) (l0 l1:Nat) (X:List R2) (F:List Rat) (hX:1<=X.length) (hb:WY X F=true):Ud 10 [pLn l0 X,pFs l1 F] (fun _=>[pS2 (spn (lsX X) (hsX X) F X.length).1 (200*X.length+1) (spn (lsX X) (hsX X) F X.length).2 (200*X.length+1),pI 0]):=by
 intro w vs hG hp;have q17:decide ((X.length:Int)>8)=false:=by revert hb;unfold WY;cases decide ((X.length:Int)>8)<;>simp
 have q23:decide ((F.length:Int)≠(X.length:Int))=false:=by revert hb;unfold WY;cases decide ((F.length:Int)≠(X.length:Int))<;>simp
 have q27:anyP F.length (bdN F)=false:=by revert hb;unfold WY;cases anyP F.length (bdN F)<;>simp
 have p17:=of_decide_eq_false q17;have p23:=of_decide_eq_false q23;have h8:X.length<=8:=by omega
 have hF:F.length=X.length:=by omega
 clear p17 p23;refine Kk hG hN (ex:=exLn l1 X F++exSo w.heap.size X) ?_ (fn:=Tryz.f10) Tryz.func10 (c:=codeOf Tryz.f10) (by kernel_rfl) (args:=[pLn l0 X,pFs l1 F]) (by kernel_rfl) hp (fun _ _ hA=>?_)
 ·exact jG (zg ((cdO hN l1 F (by omega)).val hG (le_refl _) (enters_of Tryz.func26 (by kernel_rfl) rfl))) (jG cdJ (jG cdh (cgB hN hG hX h8)))
 have hR1:=UO hG hN (chl (X:=X) (F:=F) (l1:=l1) hN hG (le_refl _) (by omega));have hR2:=UO hG hN (cgB hN hG hX h8);have hR3:=UO hG hN (exB_ok (lo:=w.heap.size) (w0:=w));refine jS (lan1 l0 l1 X F) (hR1 _ rfl) hA (fun aT wT hT=>kA ?_);refine uU (fun i=>laI l0 l1 X F i) (fun i=>i<=X.length) (fun i=>X.length-i) (L:=kLanes10_n) (ks:=kLanes10_nt) (id:=0) (c:=kZ kLanes10_n) (by kernel_rfl) 0 (zero_le _) hT (fun i a2 w2 hi hA=>?_);rcases eq_false_or_eq_true (decide ((i:Int)<(X.length:Int))) with q33|q33
 ·have p33:=of_decide_eq_true q33;have hi':i<X.length:=by omega
  have e1:=los_at (k:=4) hi';have e2:=his_at (k:=4) hi';refine jS (lan2 l0 l1 X F i) (hR1 _ rfl) hA (fun aT wT hT=>jm (by kernel_rfl) ⟨i+1,by omega,hT,by omega⟩)
 ·have p33:=of_decide_eq_false q33;refine jS (lan3 l0 l1 X F i) (hR1 _ rfl) hA (fun aT wT hT=>?_);refine jR _ (by kernel_rfl) ?_;obtain rfl:i=X.length:=by omega
  refine jS (lan4 l0 l1 X F) (hR2 _ rfl) hT (fun aT wT hT=>kA ?_);refine uU (fun i=>match i with|0=>lb0 l1 (lsX X) (hsX X) F X.length|i+1=>lb1 l1 (lsX X) (hsX X) F X.length (i+1)) (fun i=>i<=X.length) (fun i=>X.length-i) (L:=kLanes10_ntn) (ks:=kLanes10_ntnt) (id:=2) (c:=kZ kLanes10_ntn) (by kernel_rfl) 0 (zero_le _) hT (fun i a3 w3 hi hA=>?_);cases i with
  |zero =>
   have q59:decide (((0:Nat):Int)<(F.length:Int))=true:=decide_eq_true (by omega);refine jS (lan5 l1 (lsX X) (hsX X) F X.length) (hR3 _ rfl) hA (fun aT wT hT=>jm (by kernel_rfl) ⟨1,by omega,hT,by omega⟩)
  |succ i =>
   have hA:At (W0 w) 86 (lb1 l1 (lsX X) (hsX X) F X.length (i+1)) a3 w3:=hA;rcases eq_false_or_eq_true (decide (((i+1:Nat):Int)<(F.length:Int))) with q59|q59
   ·have p59:=of_decide_eq_true q59;refine jS (lan6 l1 (lsX X) (hsX X) F X.length (i+1)) (hR3 _ rfl) hA (fun aT wT hT=>jm (by kernel_rfl) ⟨i+2,by omega,hT,by omega⟩)
   ·have p59:=of_decide_eq_false q59;refine jS (lan7 l1 (lsX X) (hsX X) F X.length (i+1)) (hR3 _ rfl) hA (fun aT wT hT=>?_);refine jR _ (by kernel_rfl) ?_;obtain hn:i+1=X.length:=by omega
    rw[hn] at hT;refine yL (lan8 l1 (lsX X) (hsX X) F X.length X.length) (hR3 _ rfl) hT
end Pe
namespace Pe
def jb (b:Nat->Bool) (f:Nat->Rat):Nat->Rat
 |0=>0
 |i+1=>match b i with
  |true=>jb b f i+f i
  |false=>jb b f i
def jo (b:Nat->Bool):Nat->Nat
 |0=>0
 |i+1=>match b i with
  |true=>jo b i+1
  |false=>jo b i
abbrev ge0 (xs:List Rat) (i:Nat):Rat:=xs.getD i 0
def swB (b:Nat->Bool) (j:Nat) (i:Nat):Bool:=match Nat.beq i (j-1) with
 |true=>b j
 |false=>match Nat.beq i j with
  |true=>b (j-1)
  |false=>b i
section
variable {b:Nat->Bool}{f g:Nat->Rat}
theorem KI:∀ {n:Nat},jo b n<=n
 |0=>le_refl _
 |n+1=>by
  have:=KI (n:=n);unfold jo;split<;>omega
theorem yO {c:Nat->Bool}:∀ {n:Nat},(∀ i,i<n->b i=c i/\f i=g i)->jb b f n=jb c g n/\jo b n=jo c n
 |0,_=>⟨rfl,rfl⟩
 |n+1,h=>by
  obtain⟨h1,h2⟩:=yO (n:=n) (fun i hi=>h i (by omega));obtain⟨h3,h4⟩:=h n (by omega);unfold jb jo;rw[h3,h4,h1,h2];exact⟨rfl,rfl⟩
theorem yw {i j:Nat}(h:i≠j):Nat.beq i j=false:=Bool.eq_false_iff.2 fun e=>h (eq_of_beq_eq_true e)
theorem cgo {xs:List Rat}{j:Nat}(h0:0<j) (hj:j<xs.length):∀ n,j<n->jb (swB b j) (ge0 (swp xs j)) n=jb b (ge0 xs) n/\jo (swB b j) n=jo b n:=by
 obtain⟨m,rfl⟩:∃ m,j=m+1:=⟨j-1,by omega⟩;have hb0:swB b (m+1) m=b (m+1):=by unfold swB;rw[add_sub_cancel,beq_refl]
 have hb1:swB b (m+1) (m+1)=b m:=by unfold swB;rw[add_sub_cancel,yw (by omega),beq_refl]
 have hx0:ge0 (swp xs (m+1)) m=ge0 xs (m+1):=by
  show (swp xs (m+1)).getD m 0=_;rw[Gb h0 hj,add_sub_cancel,beq_refl]
 have hx1:ge0 (swp xs (m+1)) (m+1)=ge0 xs m:=by
  show (swp xs (m+1)).getD (m+1) 0=_;rw[Gb h0 hj,add_sub_cancel,yw (by omega),beq_refl]
 have ho:∀ i,i≠m->i≠m+1->swB b (m+1) i=b i/\ge0 (swp xs (m+1)) i=ge0 xs i:=by
  intro i h1 h2;refine⟨?_,?_⟩
  ·unfold swB;rw[add_sub_cancel,yw h1,yw h2]
  ·show (swp xs (m+1)).getD i 0=_;rw[Gb h0 hj,add_sub_cancel,yw h1,yw h2]
 intro n hn
 induction n with
 |zero=>omega
 |succ n ih =>
  by_cases hnm:n=m+1
  ·subst hnm;obtain⟨e1,e2⟩:=yO (b:=swB b (m+1)) (c:=b) (f:=ge0 (swp xs (m+1))) (g:=ge0 xs) (n:=m) (fun i hi=>ho i (by omega) (by omega));simp only[jb,jo,hb0,hb1,hx0,hx1,e1,e2];cases b m<;>cases b (m+1)<;>first|exact⟨rfl,rfl⟩|exact⟨by rw[Rat.add_assoc,Rat.add_comm (ge0 xs (m+1)),← Rat.add_assoc],rfl⟩
  ·obtain⟨e1,e2⟩:=ih (by omega);obtain⟨e3,e4⟩:=ho n (by omega) hnm;simp only[jb,jo,e1,e2,e3,e4];exact⟨trivial,trivial⟩
variable {cv:Rat->Rat->Int}
theorem chg:∀ {j:Nat}{xs:List Rat}{b:Nat->Bool},j<xs.length->∃ c,jb c (ge0 (bub cv j xs)) xs.length=jb b (ge0 xs) xs.length/\jo c xs.length=jo b xs.length
 |0,_,b,_=>⟨b,rfl,rfl⟩
 |j+1,xs,b,hj=>by
  unfold bub;split
  ·obtain⟨e1,e2⟩:=cgo (b:=b) (xs:=xs) (j:=j+1) (Nat.succ_pos _) hj xs.length hj;obtain⟨c,e3,e4⟩:=chg (j:=j) (xs:=swp xs (j+1)) (b:=swB b (j+1)) (by rw[CY];omega);rw[CY] at e3 e4;exact⟨c,e3.trans e1,e4.trans e2⟩
  ·exact⟨b,rfl,rfl⟩
theorem cbz {xs:List Rat}{b:Nat->Bool}:∀ {m:Nat},m<=xs.length->∃ c,jb c (ge0 (srt cv xs m)) xs.length=jb b (ge0 xs) xs.length/\jo c xs.length=jo b xs.length
 |0,_=>⟨b,rfl,rfl⟩
 |m+1,h=>by
  obtain⟨c,e1,e2⟩:=cbz (xs:=xs) (b:=b) (m:=m) (by omega);obtain⟨d,e3,e4⟩:=chg (cv:=cv) (j:=m) (xs:=srt cv xs m) (b:=c) (by rw[zK];omega);rw[zK] at e3 e4;exact⟨d,e3.trans e1,e4.trans e2⟩
variable {R:Rat->Rat->Prop}
theorem chi (hy:∀ r s,cv r s<0->R r s) (hn:∀ r s,¬ cv r s<0->R s r) (ht:∀ r s t,R r s->R s t->R r t):∀ {j m:Nat}{xs:List Rat},j<=m->m<xs.length->
 (∀ a c,a<c->c<=m->a≠j->c≠j->R (ge0 xs a) (ge0 xs c))->(∀ c,j<c->c<=m->R (ge0 xs j) (ge0 xs c))->∀ a c,a<c->c<=m->R (ge0 (bub cv j xs) a) (ge0 (bub cv j xs) c)
 |0,m,xs,_,_,h1,h2,a,c,hac,hc=>by
  show R (ge0 xs a) (ge0 xs c);cases a with
  |zero=>exact h2 c hac hc
  |succ a=>exact h1 _ _ hac hc (by omega) (by omega)
 |j+1,m,xs,hj,hm,h1,h2,a,c,hac,hc=>by
  unfold bub;split
  ·rename_i hlt;have hlt:=of_decide_eq_true hlt;have hj':j+1<xs.length:=by omega
   have h0':0<j+1:=Nat.succ_pos j;have g0:ge0 (swp xs (j+1)) j=ge0 xs (j+1):=by
    show (swp xs (j+1)).getD j 0=_;rw[Gb h0' hj',add_sub_cancel,beq_refl]
   have g1:ge0 (swp xs (j+1)) (j+1)=ge0 xs j:=by
    show (swp xs (j+1)).getD (j+1) 0=_;rw[Gb h0' hj',add_sub_cancel,yw (by omega),beq_refl]
   have go:∀ i,i≠j->i≠j+1->ge0 (swp xs (j+1)) i=ge0 xs i:=by
    intro i p q;show (swp xs (j+1)).getD i 0=_;rw[Gb h0' hj',add_sub_cancel,yw p,yw q]
   refine chi hy hn ht (j:=j) (m:=m) (xs:=swp xs (j+1)) (by omega) (by rw[CY];exact hm) ?_ ?_ a c hac hc
   ·intro a c hac hc ha hcj;by_cases q1:a=j+1
    ·subst q1;rw[g1,go c hcj (by omega)];exact h1 j c (by omega) hc (by omega) (by omega)
    ·rw[go a ha q1];by_cases q2:c=j+1
     ·subst q2;rw[g1];exact h1 a j (by omega) (by omega) q1 (by omega)
     ·rw[go c hcj q2];exact h1 a c hac hc q1 q2
   ·intro c hjc hc;rw[g0];by_cases q2:c=j+1
    ·subst q2;rw[g1];exact hy _ _ hlt
    ·rw[go c (by omega) q2];exact h2 c (by omega) hc
  ·rename_i hlt;have hlt:=of_decide_eq_false hlt;have hs:R (ge0 xs j) (ge0 xs (j+1)):=hn _ _ hlt;by_cases q1:a=j+1
   ·subst q1;exact h2 c hac hc
   ·by_cases q2:c=j+1
    ·subst q2;by_cases q3:a=j
     ·subst q3;exact hs
     ·exact ht _ _ _ (h1 a j (by omega) (by omega) q1 (by omega)) hs
    ·exact h1 a c hac hc q1 q2
theorem cbL (hy:∀ r s,cv r s<0->R r s) (hn:∀ r s,¬ cv r s<0->R s r) (ht:∀ r s t,R r s->R s t->R r t) {xs:List Rat}:∀ {m:Nat},m<=xs.length->∀ a c,a<c->c<m->R (ge0 (srt cv xs m) a) (ge0 (srt cv xs m) c)
 |0,_,_,_,_,h=>by omega
 |m+1,h,a,c,hac,hc=>by
  refine chi hy hn ht (j:=m) (m:=m) (xs:=srt cv xs m) (le_refl _) (by rw[zK];omega) (fun a c h1 h2 h3 h4=>?_) (fun c h1 h2=>by omega) a c hac (by omega);exact cbL hy hn ht (m:=m) (by omega) a c h1 (by omega)
end
theorem Eg:(∀ r s,jn r s<0->r<=s)/\(∀ r s,¬ jn r s<0->s<=r) :=
 ⟨fun _ _ h=>Rat.le_of_lt (cmp_lt.1 h),fun _ _ h=>Rat.not_lt.1 fun h'=>h (cmp_lt.2 h')⟩
theorem cas {xs:List Rat}(hs:∀ a c,a<c->c<xs.length->ge0 xs a<=ge0 xs c) {b:Nat->Bool}:∀ {i:Nat},i<=xs.length->pre xs (jo b i)<=jb b (ge0 xs) i
 |0,_=>Rat.le_refl
 |i+1,h=>by
  have ih:=cas hs (b:=b) (i:=i) (by omega);have hc:=KI (b:=b) (n:=i);unfold jb jo;split
  ·show pre xs (jo b i)+ge0 xs (jo b i)<=_;refine Rat.le_trans ((Rat.add_le_add_right).2 ih) ((Rat.add_le_add_left).2 ?_);rcases Nat.lt_or_eq_of_le hc with q|q
   ·exact hs _ _ q (by omega)
   ·rw[q];exact Rat.le_refl
  ·exact ih
theorem cef {xs:List Rat}(hs:∀ a c,a<c->c<xs.length->ge0 xs c<=ge0 xs a) {b:Nat->Bool}:∀ {i:Nat},i<=xs.length->jb b (ge0 xs) i<=pre xs (jo b i)
 |0,_=>Rat.le_refl
 |i+1,h=>by
  have ih:=cef hs (b:=b) (i:=i) (by omega);have hc:=KI (b:=b) (n:=i);unfold jb jo;split
  ·show _<=pre xs (jo b i)+ge0 xs (jo b i);refine Rat.le_trans ((Rat.add_le_add_right).2 ih) ((Rat.add_le_add_left).2 ?_);rcases Nat.lt_or_eq_of_le hc with q|q
   ·exact hs _ _ q (by omega)
   ·rw[q];exact Rat.le_refl
  ·exact ih
theorem cjm {xs:List Rat}{b:Nat->Bool}:pre (srt jn xs xs.length) (jo b xs.length)<=jb b (ge0 xs) xs.length:=by
 obtain⟨c,e1,e2⟩:=cbz (cv:=jn) (xs:=xs) (b:=b) (le_refl _);rw[← e1,← e2];have hl:(srt jn xs xs.length).length=xs.length:=zK;have:=cas (xs:=srt jn xs xs.length) (b:=c) (i:=xs.length) (fun a c h1 h2=>cbL (R:=(·<=·)) Eg.1 Eg.2 (fun _ _ _=>Rat.le_trans) (le_refl _) a c h1 (by omega)) (by omega);exact this
theorem cgE {xs:List Rat}{b:Nat->Bool}:jb b (ge0 xs) xs.length<=pre (srt uG xs xs.length) (jo b xs.length):=by
 obtain⟨c,e1,e2⟩:=cbz (cv:=uG) (xs:=xs) (b:=b) (le_refl _);rw[← e1,← e2];have hl:(srt uG xs xs.length).length=xs.length:=zK;have:=cef (xs:=srt uG xs xs.length) (b:=c) (i:=xs.length) (fun a c h1 h2=>cbL (R:=fun r s=>s<=r) (fun r s h=>Eg.1 s r h) (fun r s h=>Eg.2 s r h) (fun _ _ _ h k=>Rat.le_trans k h) (le_refl _) a c h1 (by omega)) (by omega);exact this
end Pe
end Go.Proofs.YtokieocpdcngcabGreatDoor
