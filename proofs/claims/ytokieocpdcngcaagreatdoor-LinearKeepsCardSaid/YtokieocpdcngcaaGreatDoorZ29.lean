/- Part 29. -/
import Derived.Test.YtokieocpdcngcaaGreatDoorZ28
set_option linter.all false
open Bool (and_eq_true eq_false_or_eq_true)
open Nat (le_refl le_trans lt_or_ge mod_lt zero_le)
noncomputable section

namespace Go.Proofs.YtokieocpdcngcaaGreatDoor
open Go Go.RowKit Go.Proofs
namespace Pe
variable {D:Type}
inductive Kp where
 |code (c:Code)
 |endB (id:Nat)
section
variable (F:Fence) (m:Nat) (P:Program)
def after:List Kp->(Exit->Act->World->Prop)->Exit->Act->World->Prop
 |[],Q=>Q
 |.code c::ks,Q=>Exit.then (fun a w=>c.wpIn F m P (after ks Q) a w) (after ks Q)
 |.endB id::ks,Q=>Exit.inBlock id (after ks Q)
end
def zy:Code->Bool
 |.loop _=>true
 |.seq x y=>match zy x with
  |true=>true
  |false=>zy y
 |.block _ c=>zy c
 |.cond _ c d=>match zy c with
  |true=>true
  |false=>zy d
 |_=>false
def isLoop:Code->Bool
 |.loop _=>true
 |_=>false
def jL:Nat->List Kp->List Code×List Kp
 |n+1,.code (.seq x y)::ks=>jL n (.code x::.code y::ks)
 |n+1,.code c::ks=>match zy c with
  |true=>([],.code c::ks)
  |false=>match jL n ks with
   |(l,r)=>(c::l,r)
 |_,ks=>([],ks)
def caT (ks:List Kp):List Code:=(jL 1000 ks).1
def cac (ks:List Kp):List Kp:=(jL 1000 ks).2
def cbn:Nat->List Kp->List Kp
 |n+1,.endB _::ks=>cbn n ks
 |n+1,.code (.block id c)::ks=>match isLoop c with
  |true=>.code (.block id c)::ks
  |false=>match zy c with
   |true=>cbn n (.code c::.endB id::ks)
   |false=>.code (.block id c)::ks
 |_,ks=>ks
def next (ks:List Kp):List Kp:=cbn 100 (cac ks)
def kt:List Kp->Code
 |.code (.block _ (.loop c))::_=>c
 |_=>.skip
def popK (j:Nat):List Kp->List Kp
 |.endB id::ks=>match Nat.beq j id with
  |true=>ks
  |false=>popK j ks
 |_::ks=>popK j ks
 |[]=>[]
def Wn (j:Nat):List Kp->Bool
 |.endB id::ks=>match Nat.beq j id with
  |true=>true
  |false=>Wn j ks
 |_::ks=>Wn j ks
 |[]=>false
def zc (S:Stat D) (TT:FuncId->Tab D) (CF YF:cj D) (nt:Nat) (base:cn D) (fid:FuncId) (inR:Bool) (n:Nat):List Code->St D->Ran D
 |[],st=>some (.normal,st,[])
 |c::l,st=>match jX S TT CF YF nt base fid inR n c st with
  |some (.normal,st',ob)=>match zc S TT CF YF nt base fid inR n l st' with
   |some (x,st2,ob2)=>some (x,st2,ob++ob2)
   |none=>none
  |r=>r
def runTo (C:Ctx D) (TT:FuncId->Tab D) (CF YF:cj D) (nt:Nat) (fid:FuncId) (inR:Bool) (n:Nat) (l:List Code) (st st':St D):Option (Xt×List Prop) :=
 match zc C.toStat TT CF YF nt (fun b=>find b st.m) fid inR n l ⟨st.nb,st.sl,[],st.ms⟩ with
 |some (x,s1,ob)=>match fitTo C (st.join s1) st' with
  |some ob2=>some (x,ob++ob2)
  |none=>none
 |none=>none
section
variable {F:Fence}{m:Nat}{C:Ctx D}{TT:FuncId->Tab D}{CF YF:cj D}{nt:Nat}{fid:FuncId}{inR:Bool}{Q:Exit->Act->World->Prop}{a:Act}{w:World}{st st':St D}
theorem Ue:∀ (ks:List Kp) {a:Act}{w:World},Q .ret a w->after F m C.P ks Q .ret a w
 |[],_,_,h=>h
 |.code _::ks,_,_,h=>Ue ks h
 |.endB _::ks,_,_,h=>Ue ks h
theorem jI {j:Nat}:∀ (ks:List Kp) {a:Act}{w:World},Wn j ks=false->Q (.exit j) a w->after F m C.P ks Q (.exit j) a w
 |[],_,_,_,hq=>hq
 |.code _::ks,_,_,h,hq=>jI ks (by simpa [Wn] using h) hq
 |.endB id::ks,_,_,h,hq=>by
  simp only[Wn] at h;simp only[after,Exit.inBlock];split at h
  ·cases h
  ·rename_i hj;rw[if_neg (fun e=>by subst e;simp at hj)];exact jI ks h hq
theorem cbU (hW:Wd F) (hR:inR=false->F=Fence.wide) (hC:C.Ok) (hT:∀ f,(TT f).Ok C) (hF:CF.Ok C) (hFm:CF.Mono) (hY:uC C YF) (hYm:YF.Mono) {e0:Env}{w0:World}{n0:Nat}{base:cn D}(hb:cJ C e0 w0 base) {B:Nat}(hfree:jM n0 B e0) {n:Nat} :
 ∀ (k:Nat) (ks:List Kp) (st:St D) (x:Xt) (st':St D) (ob:List Prop),zc C.toStat TT CF YF nt base fid inR n (jL k ks).1 st=some (x,st',ob)->jc ob->st'.nb<=B->
 ∀ a w,Sat C nt e0 w0 n0 st a w->(∀ a' w',Sat C nt e0 w0 n0 st' a' w'->after F m C.P (jL k ks).2 Q x.to a' w')->after F m C.P ks Q .normal a w:=by
 have stop:∀ (ks:List Kp) (st:St D) (x:Xt) (st':St D) (ob:List Prop),zc C.toStat TT CF YF nt base fid inR n [] st=some (x,st',ob)->∀ a w,Sat C nt e0 w0 n0 st a w->(∀ a' w',Sat C nt e0 w0 n0 st' a' w'->after F m C.P ks Q x.to a' w')->after F m C.P ks Q .normal a w:=by
  intro ks st x st' ob h a w hs hQ;simp only[zc,Option.some.injEq,Prod.mk.injEq] at h;obtain⟨rfl,rfl,rfl⟩:=h;exact hQ a w hs
 have one:∀ (k:Nat) (c:Code) (ks:List Kp) (ih:∀ (st:St D) (x:Xt) (st':St D) (ob:List Prop),zc C.toStat TT CF YF nt base fid inR n (jL k ks).1 st=some (x,st',ob)->jc ob->st'.nb<=B->
  ∀ a w,Sat C nt e0 w0 n0 st a w->(∀ a' w',Sat C nt e0 w0 n0 st' a' w'->after F m C.P (jL k ks).2 Q x.to a' w')->after F m C.P ks Q .normal a w) (out:∀ (x:Xt) a w,x≠.normal->after F m C.P (jL k ks).2 Q x.to a w->after F m C.P ks Q x.to a w)
  (hle:∀ st x st' ob,zc C.toStat TT CF YF nt base fid inR n (jL k ks).1 st=some (x,st',ob)->st.nb<=st'.nb)
  (st:St D) (x:Xt) (st':St D) (ob:List Prop),zc C.toStat TT CF YF nt base fid inR n (c::(jL k ks).1) st=some (x,st',ob)->jc ob->st'.nb<=B->
  ∀ a w,Sat C nt e0 w0 n0 st a w->(∀ a' w',Sat C nt e0 w0 n0 st' a' w'->after F m C.P (jL k ks).2 Q x.to a' w')->c.wpIn F m C.P (after F m C.P ks Q) a w:=by
  intro k c ks ih out hle st x st' ob h ho hB a w hs hQ;simp only[zc] at h;split at h
  ·rename_i st1 ob1 h1;split at h
   ·rename_i x2 st2 ob2 h2;injection h with h;simp only[Prod.mk.injEq] at h
    obtain⟨rfl,rfl,rfl⟩:=h;obtain⟨o1,o2⟩:=ho.append;refine wpIn_mono (jm hW hR hC hT hF hFm hY hYm hb hfree n c st _ st1 ob1 h1 o1 (le_trans (hle _ _ _ _ h2) hB) a w hs) ?_;rintro e a' w' ⟨rfl,hs'⟩;exact ih st1 x2 st2 ob2 h2 o2 hB a' w' hs' hQ
   ·cases h
  ·rename_i hne;refine wpIn_mono (jm hW hR hC hT hF hFm hY hYm hb hfree n c st _ _ _ h ho hB a w hs) ?_;rintro e a' w' ⟨rfl,hs'⟩;exact out x a' w' (fun hx=>by subst hx;exact hne _ _ h) (hQ a' w' hs')
 have outs:∀ (k:Nat) (ks:List Kp) (x:Xt) a w,x≠.normal->after F m C.P (jL k ks).2 Q x.to a w->after F m C.P ks Q x.to a w:=by
  intro k
  induction k with
  |zero=>intro ks x a w _ h;cases ks<;>exact h
  |succ k ih =>
   intro ks x a w hx h
   match ks with
   |[]=>exact h
   |.endB id::ks=>exact h
   |.code c::ks =>
    have pass:∀ (c:Code) (ks:List Kp),after F m C.P ks Q x.to a w->after F m C.P (.code c::ks) Q x.to a w:=by
     intro c ks h;cases x with
     |normal=>exact absurd rfl hx
     |exit j=>exact h
     |ret=>exact h
    have gen:∀ c:Code,(∀ x y,c≠.seq x y)->after F m C.P (jL (k+1) (.code c::ks)).2 Q x.to a w->after F m C.P (.code c::ks) Q x.to a w:=by
     intro c hc h;have hg:jL (k+1) (.code c::ks)=(match zy c with
      |true=>([],.code c::ks)
      |false=>match jL k ks with
       |(l,r)=>(c::l,r)):=by
      cases c<;>first|rfl|exact absurd rfl (hc _ _)
     rw[hg] at h;split at h
     ·exact h
     ·exact pass c ks (ih ks x a w hx h)
    cases c with
    |seq y z =>
     have:=ih (.code y::.code z::ks) x a w hx h;cases x with
     |normal=>exact absurd rfl hx
     |exit j=>exact this
     |ret=>exact this
    |_=>exact gen _ (by simp) h
 have les:∀ (l:List Code) (st:St D) (x:Xt) (st':St D) (ob:List Prop),zc C.toStat TT CF YF nt base fid inR n l st=some (x,st',ob)->st.nb<=st'.nb:=by
  intro l
  induction l with
  |nil=>intro st x st' ob h;simp only[zc,Option.some.injEq,Prod.mk.injEq] at h;rw[h.2.1];exact le_refl _
  |cons c l ih =>
   intro st x st' ob h;simp only[zc] at h;split at h
   ·rename_i st1 ob1 h1;split at h
    ·rename_i x2 st2 ob2 h2;injection h with h;simp only[Prod.mk.injEq] at h
     obtain⟨rfl,rfl,rfl⟩:=h;exact le_trans (jJ hFm hYm _ _ _ _ _ _ h1) (ih _ _ _ _ h2)
    ·cases h
   ·exact jJ hFm hYm _ _ _ _ _ _ h
 intro k
 induction k with
 |zero=>intro ks st x st' ob h ho hB a w hs hQ;cases ks<;>exact stop _ st x st' ob h a w hs hQ
 |succ k ih =>
  intro ks st x st' ob h ho hB a w hs hQ
  match ks with
  |[]=>exact stop _ st x st' ob h a w hs hQ
  |.endB id::ks=>exact stop _ st x st' ob h a w hs hQ
  |.code c::ks =>
   have gen:∀ c:Code,(∀ x y,c≠.seq x y)->zc C.toStat TT CF YF nt base fid inR n (jL (k+1) (.code c::ks)).1 st=some (x,st',ob)->(∀ a' w',Sat C nt e0 w0 n0 st' a' w'->after F m C.P (jL (k+1) (.code c::ks)).2 Q x.to a' w')->after F m C.P (.code c::ks) Q .normal a w:=by
    intro c hc h hQ;have hg:jL (k+1) (.code c::ks)=(match zy c with
     |true=>([],.code c::ks)
     |false=>match jL k ks with
      |(l,r)=>(c::l,r)):=by
     cases c<;>first|rfl|exact absurd rfl (hc _ _)
    rw[hg] at h hQ;split at h
    ·rename_i hl;rw[hl] at hQ;exact stop _ st x st' ob h a w hs hQ
    ·rename_i hl;rw[hl] at hQ;exact one k c ks (ih ks) (outs k ks) (les _) st x st' ob h ho hB a w hs hQ
   cases c with
   |seq y z =>
    show (Code.seq y z).wpIn F m C.P (after F m C.P ks Q) a w;apply wpIn_seq;exact ih (.code y::.code z::ks) st x st' ob h ho hB a w hs hQ
   |_=>exact gen _ (by simp) h hQ
theorem run_is (hR:Cf C TT) (hW:Wd F) (hI:inR=false->F=Fence.wide) {g d n:Nat}{ks:List Kp}{x:Xt}{ob:List Prop}(h:runTo C TT (yL C.toStat TT g d).1 (yL C.toStat TT g d).2 nt fid inR n (caT ks) st st'=some (x,ob)) (ho:jc ob)
 (hA:At C nt st a w) (hQ:∀ a' w',At C nt st' a' w'->after F m C.P (cac ks) Q x.to a' w'):after F m C.P ks Q .normal a w:=by
 unfold runTo at h;split at h
 rotate_left
 ·cases h
 rename_i x1 s1 ob1 he;split at h
 rotate_left
 ·cases h
 rename_i ob2 hf;injection h with h;simp only[Prod.mk.injEq] at h;obtain⟨rfl,rfl⟩:=h
 obtain⟨o1,o2⟩:=ho.append;obtain⟨⟨e,hg,hM,hV,hfr,hmk⟩,hsz⟩:=hA;have hFm:=(jv (S:=C.toStat) (TT:=TT) (g:=g) d).1;have hYm:=(jv (S:=C.toStat) (TT:=TT) (g:=g) d).2;have hle:(⟨st.nb,st.sl,[],st.ms⟩:St D).nb<=s1.nb:=execL_le he;have hle:st.nb<=s1.nb:=hle;refine cbU hW hI hR.ok hR.tab (zt hR.ok hR.name hR.tab d).1 hFm (zt hR.ok hR.name hR.tab d).2 hYm hM (B:=s1.nb) (fun b h1 _=>hfr b h1) 1000 ks _ x1 s1 ob1 he o1 (le_refl _) a w ⟨⟨e,jY.refl hg _,hV,hmk⟩,hsz⟩ ?_;rintro a' w' ⟨⟨e',hL,hV',hmk'⟩,hsz'⟩;refine hQ a' w' (cgK hR.ok hf o2 ⟨⟨e',hL.good,fun b o ho=>?_,hV',fun b hb=>?_,hmk'⟩,hsz'⟩)
 ·exact kr hM hL b o (by rw[ZI];exact ho)
 ·obtain⟨q1,q2,q3⟩:=hfr b (le_trans hle hb);have hb:s1.nb<=b:=hb;refine⟨?_,?_,?_⟩
  ·cases hx:e'.ρ b with
   |none=>rfl
   |some y =>
    rcases hL.new.ρ b y hx with h|h
    ·rw[q1] at h;cases h
    ·omega
  ·cases hx:e'.ν b with
   |none=>rfl
   |some y =>
    rcases hL.new.ν b y hx with h|h
    ·rw[q2] at h;cases h
    ·omega
  ·cases hx:e'.φ b with
   |none=>rfl
   |some y =>
    rcases hL.new.φ b y hx with h|h
    ·rw[q3] at h;cases h
    ·omega
where
 execL_le {l:List Code} {base:cn D} {n d g:Nat} {st st':St D} {x:Xt} {ob:List Prop} (h:zc C.toStat TT (yL C.toStat TT g d).1 (yL C.toStat TT g d).2 nt base fid inR n l st=some (x,st',ob)):st.nb<=st'.nb:=by
  induction l generalizing st st' x ob with
  |nil=>simp only[zc,Option.some.injEq,Prod.mk.injEq] at h;rw[h.2.1];exact le_refl _
  |cons c l ih =>
   simp only[zc] at h;split at h
   ·rename_i st1 ob1 h1;split at h
    ·rename_i x2 st2 ob2 h2;injection h with h;simp only[Prod.mk.injEq] at h
     obtain⟨rfl,rfl,rfl⟩:=h;exact le_trans (jJ (jv d).1 (jv d).2 _ _ _ _ _ _ h1) (ih h2)
    ·cases h
   ·exact jJ (jv d).1 (jv d).2 _ _ _ _ _ _ h
theorem caS:∀ (n:Nat) (ks:List Kp) {a:Act}{w:World},after F m C.P (cbn n ks) Q .normal a w->after F m C.P ks Q .normal a w
 |0,ks,a,w,h=>by cases ks<;>exact h
 |n+1,[],a,w,h=>h
 |n+1,.endB id::ks,a,w,h=>caS n ks h
 |n+1,.code c::ks,a,w,h=>by
  cases c with
  |block id c =>
   unfold cbn at h;split at h
   ·exact h
   ·split at h
    ·exact wpIn_block (caS n (.code c::.endB id::ks) h)
    ·exact h
  |_=>exact h
theorem kQ {ks:List Kp}(h:after F m C.P (next ks) Q .normal a w):after F m C.P (cac ks) Q .normal a w:=caS _ _ h
theorem uj {Θ:Type}(I:Θ->St D) (J:Θ->Prop) (μ:Θ->Nat) {id:Nat}{c:Code}{L ks:List Kp}(hL:L=.code (.block id (.loop c))::ks) (θ0:Θ) (h0:J θ0) (hA:At C nt (I θ0) a w)
 (hr:∀ θ a w,J θ->At C nt (I θ) a w->after F m C.P [.code c] (Exit.then (fun a' w'=>∃ θ',J θ'/\At C nt (I θ') a' w'/\μ θ'<μ θ) (Exit.inBlock id (after F m C.P ks Q))) .normal a w):after F m C.P L Q .normal a w:=by
 subst hL;exact loop_at I J μ θ0 h0 hA hr
end
def cdC (C:Ctx D) (TT:FuncId->Tab D) (CF YF:cj D) (nt:Nat) (fid:FuncId) (inR:Bool) (n:Nat) (l:List Code) (rs:List ResultVar) (st:St D) (ps:List (Pat D)):Option (Xt×List Prop) :=
 match zc C.toStat TT CF YF nt (fun b=>find b st.m) fid inR n l ⟨st.nb,st.sl,[],st.ms⟩ with
 |some (.ret,s1,ob)=>match retTo C rs (st.join s1) ps with
  |some ob2=>some (.ret,ob++ob2)
  |none=>none
 |_=>none
section
variable {F:Fence}{m:Nat}{C:Ctx D}{TT:FuncId->Tab D}{CF YF:cj D}{nt:Nat}{fid:FuncId}{inR:Bool}{Q:Exit->Act->World->Prop}{a:Act}{w:World}{st st':St D}
theorem Wr (hR:Cf C TT) (hW:Wd F) (hI:inR=false->F=Fence.wide) {g d n:Nat}{ks:List Kp}{fn:Func}{ps:List (Pat D)}{ob:List Prop}(h:cdC C TT (yL C.toStat TT g d).1 (yL C.toStat TT g d).2 nt fid inR n (caT ks) fn.results.toList st ps=some (.ret,ob)) (ho:jc ob)
 (hA:At C nt st a w) (hQ:∀ a' w',Ret C fn (Res C ps) .ret a' w'->Q .ret a' w'):after F m C.P ks Q .normal a w:=by
 unfold cdC at h;split at h
 rotate_left
 ·cases h
 rename_i s1 ob1 he;split at h
 rotate_left
 ·cases h
 rename_i ob2 hf;injection h with h;simp only[Prod.mk.injEq] at h;obtain⟨_,rfl⟩:=h
 obtain⟨o1,o2⟩:=ho.append;obtain⟨⟨e,hg,hM,hV,hfr,hmk⟩,hsz⟩:=hA;have hFm:=(jv (S:=C.toStat) (TT:=TT) (g:=g) d).1;have hYm:=(jv (S:=C.toStat) (TT:=TT) (g:=g) d).2;have hle:(⟨st.nb,st.sl,[],st.ms⟩:St D).nb<=s1.nb:=run_is.execL_le he;have hle:st.nb<=s1.nb:=hle;refine cbU hW hI hR.ok hR.tab (zt hR.ok hR.name hR.tab d).1 hFm (zt hR.ok hR.name hR.tab d).2 hYm hM (B:=s1.nb) (fun b h1 _=>hfr b h1) 1000 ks _ .ret s1 ob1 he o1 (le_refl _) a w ⟨⟨e,jY.refl hg _,hV,hmk⟩,hsz⟩ ?_;rintro a' w' ⟨⟨e',hL,hV',hmk'⟩,hsz'⟩;refine Ue _ (hQ a' w' (ret_at hR.ok hf o2 (nt:=nt) ⟨⟨e',hL.good,fun b o ho=>?_,hV',fun b hb=>?_,hmk'⟩,hsz'⟩ (.inl rfl)))
 ·exact kr hM hL b o (by rw[ZI];exact ho)
 ·obtain⟨q1,q2,q3⟩:=hfr b (le_trans hle hb);have hb:s1.nb<=b:=hb;refine⟨?_,?_,?_⟩
  ·cases hx:e'.ρ b with
   |none=>rfl
   |some y =>
    rcases hL.new.ρ b y hx with h|h
    ·rw[q1] at h;cases h
    ·omega
  ·cases hx:e'.ν b with
   |none=>rfl
   |some y =>
    rcases hL.new.ν b y hx with h|h
    ·rw[q2] at h;cases h
    ·omega
  ·cases hx:e'.φ b with
   |none=>rfl
   |some y =>
    rcases hL.new.φ b y hx with h|h
    ·rw[q3] at h;cases h
    ·omega
end
end Pe
open Go Go.RowKit Go.Proofs Lim
namespace Pe
section
variable {b b':Bool}{lo lo':Nat}{w0 w0' w:World}
theorem Kb:∀ {gs:List (Grp Dx)}{vs:List Value},cu (Cx b lo w0) w gs vs->cu (Cx b' lo' w0') w gs vs
 |[],_,h=>h
 |.lit _::_,_,h=>⟨h.1,Kb h.2⟩
 |.cls _::_,_,h=>⟨h.1,Kb h.2⟩
theorem ls_cx {L:Lt Dx}{v:Value}(h:Yv (Cx b lo w0) w L v):Yv (Cx b' lo' w0') w L v:=by
 rcases h with h|⟨k,o,c,arr,pre,vs,rest,q1,q2,q3,q4,q5,q6,q7,q8,q9⟩
 ·exact .inl h
 ·exact .inr ⟨k,o,c,arr,pre,vs,rest,q1,q2,q3,q4,q5,q6,q7,q8,fun j hj=>Kb (q9 j hj)⟩
theorem pat_cx {p:Pat Dx}{v:Value}(h:p.is (Cx b lo w0) w v):p.is (Cx b' lo' w0') w v:=by
 cases p with
 |one g=>cases g<;>exact h
 |agg gs=>obtain⟨vs,h1,h2⟩:=h;exact⟨vs,Kb h1,h2⟩
 |slc t n gs=>obtain⟨k,o,c,arr,pre,vs,rest,h1,h2,h3,h4,h5⟩:=h;exact⟨k,o,c,arr,pre,vs,rest,h1,h2,h3,h4,Kb h5⟩
 |cap f ty z gs=>obtain⟨k,o,c,h1,h2⟩:=h;exact⟨k,o,c,ls_cx h1,h2⟩
theorem GN:∀ {ps:List (Pat Dx)}{vs:List Value},cD (Cx b lo w0) w ps vs->cD (Cx b' lo' w0') w ps vs
 |[],_,h=>h
 |_::_,_,⟨v,ws,h1,h2,h3⟩=>⟨v,ws,h1,pat_cx h2,GN h3⟩
theorem rpat_cx {p:cK Dx}{v:Value}(h:p.is (Cx b lo w0) w v):p.is (Cx b' lo' w0') w v:=by
 cases p with
 |val p=>exact pat_cx h
 |tup ps=>obtain⟨vs,h1,h2⟩:=h;exact⟨vs,GN h1,h2⟩
theorem rob_cx {w1 w2:World}{p:cK Dx}{v:Value}(h:KS (Cx b lo w0) w1 w2 p v):KS (Cx b lo' w0') w1 w2 p v:=fun S hS w'' hs hk=>rpat_cx (h S hS w'' hs hk)
theorem Gn {w':World}(hk:∀ k,k<w.heap.size->w'.heap[k]?=w.heap[k]?):∀ {gs:List (Grp Dx)}{vs:List Value},cu (Cx b lo w0) w gs vs->cu (Cx b lo w0) w' gs vs
 |[],_,h=>h
 |.lit _::_,_,h=>⟨h.1,Gn hk h.2⟩
 |.cls _::_,_,h=>⟨DIs.grow hk h.1,Gn hk h.2⟩
theorem cgH {w':World}(hk:∀ k,k<w.heap.size->w'.heap[k]?=w.heap[k]?) {p:Pat Dx}{v:Value}(hn:noSlc p=true) (h:p.is (Cx b lo w0) w v):p.is (Cx b lo w0) w' v:=by
 cases p with
 |one g =>
  cases g with
  |lit x=>exact h
  |cls d=>exact DIs.grow hk h
 |agg gs=>obtain⟨vs,h1,h2⟩:=h;exact⟨vs,Gn hk h1,h2⟩
 |slc t n gs=>cases hn
 |cap f ty z gs=>cases hn
theorem Kw {w':World}(hk:∀ k,k<w.heap.size->w'.heap[k]?=w.heap[k]?):∀ {ps:List (Pat Dx)}{vs:List Value},EJ ps=true->cD (Cx b lo w0) w ps vs->cD (Cx b lo w0) w' ps vs
 |[],_,_,h=>h
 |p::ps,_,hn,⟨v,ws,h1,h2,h3⟩=>by
  unfold EJ at hn;split at hn
  ·rename_i h0;exact⟨v,ws,h1,cgH hk h0 h2,Kw hk hn h3⟩
  ·cases hn
theorem GY:∀ {ps:List (Pat Dx)}{csz:Dx->Nat}{s:Nat}{r:List A1×Ws Dx×Nat},uW csz s ps=some r->EJ ps=true
 |[],_,_,_,_=>rfl
 |p::ps,csz,s,r,h=>by
  have:=zK h p (by simp);simp only[uW] at h;split at h
  ·split at h
   ·rename_i h2;unfold EJ;cases p with
    |slc t n gs=>cases this
    |cap f ty z gs=>cases this
    |one g=>exact GY h2
    |agg gs=>exact GY h2
   ·cases h
  ·cases h
end
noncomputable abbrev W0 (w:World):Ctx Dx:=Cx true w.heap.size w
theorem fn_ok {w : World} (hG : Gr w) (hN : ∀ (f : Nat) (fn : Func), Tryz.prog.funcs[f]? = some fn → (fn.name == "runtime.NumGoroutine") = false) {ex : List (Nat × Con)} (hE : yI true w.heap.size w ex) {f : FuncId} {fn : Func} {c : Code} (hfn : Tryz.prog.funcs[f]? = some fn) (hbody : fn.body = some c) {args : List (Pat Dx)} {xs : List A1} {ws : Ws Dx} {n0 : Nat} (hm : uW Dx.n 0 args = some (xs, ws, n0)) (hlen : Nat.ble (jA xs).length fn.ntmps = true)
 {vs:List Value} (hp:cD (W0 w) w args vs) {ps:List (Pat Dx)} (hwp:(∀ o:Opt,o.ex=ex->Cf (W0 w) (TY o))->∀ a,At (W0 w) fn.ntmps ⟨n0,yK 0 (jA xs),ws,[]⟩ a w->after Fence.wide 0 Tryz.prog [.code c] (Ret (W0 w) fn (Res (W0 w) ps)) .normal a w) :
 Enters Tryz.prog f/\Calls Tryz.prog f vs.toArray w (fun en w'=>∃ v,en=.returned v/\Res (W0 w) ps v w'):=by
 have hR:∀ o:Opt,o.ex=ex->Cf (W0 w) (TY o):=fun o ho=>cdB (le_refl _) hG hN (by rw[ho];exact hE);have hR0:=hR ⟨[],[],ex⟩ rfl;refine CH (C:=W0 w) hR0 hfn hbody hm hlen ?_ (fun a hA=>hwp hR a hA);exact UR hR0.ok (W:=fun w'=>jT env0 w w') w (jT.refl _ _) (zK hm) (fun w' hk=>Kw (fun k hk'=>hk.block k hk' (fun b=>by simp)) (GY hm) hp)
theorem caO {w : World} (hG : Gr w) (hN : ∀ (f : Nat) (fn : Func), Tryz.prog.funcs[f]? = some fn → (fn.name == "runtime.NumGoroutine") = false) {ex : List (Nat × Con)} (hE : yI true w.heap.size w ex) {f : FuncId} {fn : Func} {c : Code} (hfn : Tryz.prog.funcs[f]? = some fn) (hbody : fn.body = some c) {args : List (Pat Dx)} {g ty z : Nat} {gs : List (Grp Dx)} {xs : List A1} {ws : Ws Dx} {n0 : Nat} (hm : uW Dx.n 0 args = some (xs, ws, n0)) (hlen : Nat.ble ((jA xs).length + 1) fn.ntmps = true)
 {vs:List Value} (hp:cD (W0 w) w (args++[.cap g ty z gs]) vs) {ps:List (Pat Dx)} (hwp:(∀ o:Opt,o.ex=ex->Cf (W0 w) (TY o))->∀ a,At (W0 w) fn.ntmps ⟨n0+3,yK 0 (jA xs++[.val (.one (.fn (n0+2)))]),(n0+2,.clo g [] [.one (.fn (n0+1))])::(n0+1,.cp n0 0 z 0)::(n0,.cls (.ls ⟨0,ty,z,1,fun _=>gs⟩))::ws,[]⟩ a w->after Fence.wide 0 Tryz.prog [.code c] (Ret (W0 w) fn (Res (W0 w) ps)) .normal a w) :
 Enters Tryz.prog f/\Calls Tryz.prog f vs.toArray w (fun en w'=>∃ v,en=.returned v/\Res (W0 w) ps v w'):=by
 have hR:∀ o:Opt,o.ex=ex->Cf (W0 w) (TY o):=fun o ho=>cdB (le_refl _) hG hN (by rw[ho];exact hE);have hR0:=hR ⟨[],[],ex⟩ rfl;have key:∀ {ps qs:List (Pat Dx)} {vs:List Value},cD (W0 w) w (ps++qs) vs->∃ us ws,vs=us++ws/\cD (W0 w) w ps us/\cD (W0 w) w qs ws:=by
  intro ps
  induction ps with
  |nil=>exact fun h=>⟨[],_,rfl,rfl,h⟩
  |cons p ps ih =>
   rintro qs vs ⟨v,rest,rfl,h2,h3⟩;obtain⟨us,ws,rfl,h4,h5⟩:=ih h3;exact⟨v::us,ws,rfl,⟨v,us,rfl,h2,h4⟩,h5⟩
 obtain⟨us,ws',rfl,h1,v,rest,rfl,⟨k,o,cp,h2,rfl⟩,h3⟩:=key hp;obtain rfl:rest=[]:=h3;refine cgf (C:=W0 w) (cp:=cp) hR0 hfn hbody hm hlen (L:=⟨0,ty,z,1,fun _=>gs⟩) rfl ?_ ?_ (fun a hA=>hwp hR a hA)
 ·exact UR hR0.ok (W:=fun w'=>jT env0 w w') w (jT.refl _ _) (zK hm) (fun w' hk=>Kw (fun k hk'=>hk.block k hk' (fun b=>by simp)) (GY hm) h1)
 ·intro w' hk;rcases h2 with h2|⟨k',o',c',arr,pre,vs,rest,q1,q2,⟨fr,q3⟩,q4,q5,q6,q7,q8,q9⟩
  ·exact .inl h2
  ·exact .inr ⟨k',o',c',arr,pre,vs,rest,q1,q2,⟨fr,by rw[hk.block _ (Array.getElem?_eq_some_iff.1 q3).1 (fun b=>by simp)];exact q3⟩,q4,q5,q6,q7,q8,fun j hj=>Gn (fun k hk'=>hk.block k hk' (fun b=>by simp)) (q9 j hj)⟩
theorem ki {F:Fence}{m:Nat}{P:Program}{Q:Exit->Act->World->Prop}{ks:List Kp}{a:Act}{w:World}(h:ks=[]) (hq:Q .normal a w):after F m P ks Q .normal a w:=by
 subst h;exact hq
theorem ent_fn {lo:Nat}{w0:World}(hG:Gr w0) (hlo:lo<=w0.heap.size) {f:FuncId}{args:List (Pat Dx)}(ps:Nat->List (Pat Dx)) (hsub:∀ hi,lo<=hi->∃ ob,uS (Cx true lo w0) (ps lo) (ps hi)=some ob/\jc ob)
 (h:∀ w vs,Gr w->cD (W0 w) w args vs->Enters Tryz.prog f/\Calls Tryz.prog f vs.toArray w (fun en w'=>∃ v,en=.returned v/\Res (W0 w) (ps w.heap.size) v w')) (hE:Enters Tryz.prog f):cZ (Cx true lo w0) (.call f) args (Jq (ps lo)):=by
 refine⟨hE,fun w vs hb hvs=>?_⟩;refine(h w vs (hG.below hb hG.size) (GN hvs)).2.mono ?_;rintro en w' ⟨v,rfl,h1,h2⟩;refine⟨v,rfl,h1,?_⟩;obtain⟨ob,h3,h4⟩:=hsub w.heap.size (le_trans hlo hb.size);intro S hS w'' hs hk;have h5:=rob_cx (lo':=lo) (w0':=w0) h2 S hS w'' hs hk;have hC:=cx_ok (b:=true) hlo;revert h3 h5;generalize ps lo=a;generalize ps w.heap.size=c;intro h3 h5;unfold Jq at h5 ⊢;split at h5
 ·rename_i p
  match a,h3 with
  |[q],h3 =>
   have:=zS hC h3 h4 (vs:=[v]) ⟨v,[],rfl,h5,rfl⟩;obtain⟨x,y,e1,e2,e3⟩:=this;injection e1 with e1 _
   subst e1;exact e2
  |[],h3=>simp [uS] at h3
  |_::q::r,h3 =>
   obtain⟨x,y,q1,q2,_⟩:=kh h3;simp [uS] at q2
 ·rename_i hne
  match a,h3 with
  |[q],h3 =>
   exfalso
   match c,h3,hne with
   |[],h3,_=>simp [uS] at h3
   |[p],_,hne=>exact hne p rfl
   |_::_::_,h3,_ =>
    obtain⟨x,y,q1,q2,_⟩:=kh h3;simp [uS] at q2
  |[],h3=>obtain⟨us,q1,q2⟩:=h5;exact⟨us,zS hC h3 h4 q1,q2⟩
  |q1::q2::r,h3=>obtain⟨us,p1,p2⟩:=h5;exact⟨us,zS hC h3 h4 p1,p2⟩
def kZ (args:List (Pat Dx)) (res:cK Dx):Con:=fun l=>some (res,[l=args])
theorem jo {bb:Bool}{lo:Nat}{w0:World}{f:Nat}{args:List (Pat Dx)}{res:cK Dx}(h:cZ (Cx bb lo w0) (.call f) args res):∀ l r ob,kZ args res l=some (r,ob)->jc ob->cZ (Cx bb lo w0) (.call f) l r:=by
 intro l r ob hl ho;unfold kZ at hl;injection hl with hl;injection hl with h1 h2;subst h1;subst h2
 rw[show l=args from ho.1];exact h
def lst {α:Type}[Inhabited α] (lo ty z:Nat) (xs:List α) (f:α->List (Grp Dx)):Lt Dx:=⟨lo,ty,z,xs.length,fun j=>f (xs.getD j default)⟩
section
variable {C:Ctx Dx}{b:Bool}{lo:Nat}{w0:World}
theorem JY {n:Nat}{g:Nat->List (Grp Dx)}{x:List (Grp Dx)}(h:x=g n):∀ j,j<n+1->Cc C (g j) (YA n g (fun _=>x) j):=by
 intro j hj w vs hv;unfold YA at hv;split at hv
 ·exact hv
 ·rename_i hn;have:j=n:=by
   rcases lt_or_ge j n with h1|h1
   ·rw[show Nat.blt j n=true from Nat.ble_eq_true_of_le h1] at hn;cases hn
   ·omega
  rw[h,← this] at hv;exact hv
theorem caJ {L:Lt Dx}{a c:Nat}(h:a<=c):yS (Cx b lo w0) (.ls { L with lo:=a }) (.ls { L with lo:=c }):=by
 intro w l hl;have hl:DIs w (.ls { L with lo:=c }) l:=hl;show DIs w (.ls { L with lo:=a }) l;cases hl with
 |nil h1=>exact .nil h1
 |ls k o cp arr pre vs rest h2 h3 h4 h5 h6 h7 h8 h9=>exact .ls k o cp arr pre vs rest h2 h3 h4 h5 h6 (le_trans h h7) h8 h9
theorem ccp {r s:Rat}{j k:Nat}(h:s=r) (hk:k<=j):yS (Cx b lo w0) (.q r j) (.q s k):=by
 intro w l hl;have hl:DIs w (.q s k) l:=hl;subst h;cases hl with
 |q h1 h2 h3=>exact .q h1 h2 (h3.le hk)
theorem ceF {r s:Rat}{j k:Nat}(h:s=r) (hk:k<=j):yS (Cx b lo w0) (.rq r j) (.rq s k):=by
 intro w l hl;have hl:DIs w (.rq s k) l:=hl;subst h;cases hl with
 |rq h1 h2 h3=>exact .rq h1 h2 (h3.le hk)
theorem YW {r:Rat}{k:Nat}(h:r=0) (hk:1<=k):Cc (Cx b lo w0) [.cls (.q r k)] [.lit (.bool false),.lit (.int .u64 0),.lit (.int .u64 0),.lit (.pointer none)]:=by
 intro w vs hv;subst h;obtain⟨xs,ys,rfl,h1,h2⟩:=Gz (b:=b) (lo:=lo) (w0:=w0) (gs':=[]) (r:=0) (k:=1) rfl hv;rw[show ys=[] from h2];exact EE (.cls (ccp (b:=b) (lo:=lo) (w0:=w0) (r:=0) (j:=k) rfl hk w xs h1) .nil)
end
end Pe
namespace Pe
abbrev Tx:=List UInt8
abbrev nq (l:Tx):Rat:=(EI l).1
noncomputable abbrev codeOf (fn:Func):Code:=fn.body.getD .skip
abbrev ii (n:Int):Value:=.int .i64 n
abbrev P3:=Tx×Tx×Tx
abbrev f3 (x:P3):List (Grp Dx):=[.lit (str x.1),.lit (str x.2.1),.lit (str x.2.2)]
noncomputable abbrev run (w:World) (o:Opt) (f nt:Nat) (ks:List Kp) (st st':St Dx):Option (Xt×List Prop):=runTo (W0 w) (TY o) (yL (Sx true w.heap.size) (TY o) 300 30).1 (yL (Sx true w.heap.size) (TY o) 300 30).2 nt f false 300 (caT ks) st st'
noncomputable abbrev runR (w:World) (o:Opt) (f nt:Nat) (fn:Func) (ks:List Kp) (st:St Dx) (ps:List (Pat Dx)):Option (Xt×List Prop):=cdC (W0 w) (TY o) (yL (Sx true w.heap.size) (TY o) 300 30).1 (yL (Sx true w.heap.size) (TY o) 300 30).2 nt f false 300 (caT ks) fn.results.toList st ps
abbrev cP : Prop := ∀ (f : Nat) (fn : Func), Tryz.prog.funcs[f]? = some fn → (fn.name == "runtime.NumGoroutine") = false
end Pe
namespace Pe
def stA (args:List (Pat Dx)):St Dx:=match uW Dx.n 0 args with
 |some (xs,ws,n0)=>⟨n0,yK 0 (jA xs),ws,[]⟩
 |none=>⟨0,[],[],[]⟩
def lenA (args:List (Pat Dx)) (n:Nat):Bool:=match uW Dx.n 0 args with
 |some (xs,_,_)=>Nat.ble (jA xs).length n
 |none=>false
theorem yk {w:World}(hG:Gr w) (hN:cP) {ex:List (Nat×Con)}(hE:yI true w.heap.size w ex) {f:FuncId}{fn:Func}{c:Code}(hfn:Tryz.prog.funcs[f]?=some fn) (hbody:fn.body=some c) {args:List (Pat Dx)}(hm:lenA args fn.ntmps=true)
 {vs:List Value} (hp:cD (W0 w) w args vs) {ps:List (Pat Dx)} (hwp:(∀ o:Opt,o.ex=ex->Cf (W0 w) (TY o))->∀ a,At (W0 w) fn.ntmps (stA args) a w->after Fence.wide 0 Tryz.prog [.code c] (Ret (W0 w) fn (Res (W0 w) ps)) .normal a w) :
 Enters Tryz.prog f/\Calls Tryz.prog f vs.toArray w (fun en w'=>∃ v,en=.returned v/\Res (W0 w) ps v w'):=by
 unfold lenA at hm;split at hm
 ·rename_i xs ws n0 h0;refine fn_ok hG hN hE hfn hbody h0 hm hp (fun hR a hA=>hwp hR a ?_);unfold stA;rw[h0];exact hA
 ·cases hm
abbrev kX (f:Nat) (args:List (Pat Dx)) (ps:Nat->List (Pat Dx)):Prop:=∀ w vs,Gr w->cD (W0 w) w args vs->Enters Tryz.prog f/\Calls Tryz.prog f vs.toArray w (fun en w'=>∃ v,en=.returned v/\Res (W0 w) (ps w.heap.size) v w')
section
variable {lo:Nat}{w0:World}{f:Nat}{args:List (Pat Dx)}
theorem kX.ent {ps:Nat->List (Pat Dx)}(h:kX f args ps) (hG:Gr w0) (hlo:lo<=w0.heap.size) (hE:Enters Tryz.prog f) (hsub:∀ hi,lo<=hi->∃ ob,uS (Cx true lo w0) (ps lo) (ps hi)=some ob/\jc ob):cZ (Cx true lo w0) (.call f) args (Jq (ps lo)):=ent_fn hG hlo ps hsub h hE
theorem kX.val {v:Value}(h:kX f args (fun _=>[.one (.lit v)])) (hG:Gr w0) (hlo:lo<=w0.heap.size) (hE:Enters Tryz.prog f):cZ (Cx true lo w0) (.call f) args (vr v) :=
 h.ent hG hlo hE (fun _ _=>⟨_,rfl,rfl,trivial⟩)
theorem kX.num {r:Rat}{k:Nat}(h:kX f args (fun _=>[.agg [.cls (.q r k)]])) (hG:Gr w0) (hlo:lo<=w0.heap.size) (hE:Enters Tryz.prog f):cZ (Cx true lo w0) (.call f) args (qr r k) :=
 h.ent hG hlo hE (fun _ _=>⟨_,rfl,yS.refl _ _,trivial⟩)
theorem kX.rnum {r:Rat}{k:Nat}(h:kX f args (fun _=>[.agg [.cls (.rq r k)]])) (hG:Gr w0) (hlo:lo<=w0.heap.size) (hE:Enters Tryz.prog f):cZ (Cx true lo w0) (.call f) args (rr r k) :=
 h.ent hG hlo hE (fun _ _=>⟨_,rfl,yS.refl _ _,trivial⟩)
end
abbrev R2:=Rat×Rat
abbrev pQ (r:Rat) (k:Nat):Pat Dx:=.agg [.cls (.q r k)]
abbrev pR (r:Rat) (k:Nat):Pat Dx:=.agg [.cls (.rq r k)]
abbrev pP (r:Rat) (j:Nat) (s:Rat) (k:Nat):Pat Dx:=.agg [.cls (.q r j),.cls (.q s k)]
abbrev pI (i:Int):Pat Dx:=.one (.lit (.int .i64 i))
abbrev rB (b:Bool):List (Pat Dx):=[.one (.lit (.bool b))]
abbrev rI (i:Int):List (Pat Dx):=[.one (.lit (.int .i64 i))]
abbrev sD (w:World) (d:Dx):Prop:=yS (W0 w) d d
abbrev sG (w:World) (n:Nat) (g:Nat->List (Grp Dx)):Prop:=∀ j,j<n->Cc (W0 w) (g j) (g j)
abbrev sN (w:World) (n:Nat) (g:Nat->List (Grp Dx)) (x:List (Grp Dx)):Prop:=∀ j,j<n+1->Cc (W0 w) (g j) (YA n g (fun _=>x) j)
abbrev eA {α:Type}(a:α):Prop:=a=a
abbrev zV:List Prop:=[Value.bool false=Value.bool false,Value.int .u64 0=Value.int .u64 0,Value.int .u64 0=Value.int .u64 0,Value.pointer none=Value.pointer none]
theorem Wh (n:Nat):Int.ofNat n=(n:Int):=rfl
theorem ceq {b:Bool}{lo:Nat}{w0:World}{r s:Rat}(h1:r=0) (h2:s=0):Cc (Cx b lo w0) [.cls (.q r 1),.cls (.q s 1)] [.lit (.bool false),.lit (.int .u64 0),.lit (.int .u64 0),.lit (.pointer none),.lit (.bool false),.lit (.int .u64 0),.lit (.int .u64 0),.lit (.pointer none)]:=by
 intro w vs hv;subst h1;subst h2;obtain⟨xs,ys,rfl,h3,h4⟩:=Gz (b:=b) (lo:=lo) (w0:=w0) (gs':=[.lit (.bool false),.lit (.int .u64 0),.lit (.int .u64 0),.lit (.pointer none)]) (r:=0) (k:=1) rfl hv;obtain⟨xs',ys',rfl,h5,h6⟩:=Gz (b:=b) (lo:=lo) (w0:=w0) (gs':=[]) (r:=0) (k:=1) rfl h4;rw[show ys'=[] from h6];exact EE (.cls h3 (.cls h5 .nil))
section
variable {w w1:World}{o:Opt}{f nt:Nat}{ks:List Kp}{st st':St Dx}{x:Xt}{ob:List Prop}{a:Act}{Q:Exit->Act->World->Prop}
theorem jz (h:run w o f nt ks st st'=some (x,ob)) (hR:Cf (W0 w) (TY o)) (hA:At (W0 w) nt st a w1) (hQ:∀ a' w',At (W0 w) nt st' a' w'->after Fence.wide 0 (W0 w).P (cac ks) Q x.to a' w') (ho:jc ob:=by (repeat' (first|exact trivial|apply And.intro))<;>first|exact yS.refl _ _|exact fun _ _=>Cc.refl _ _|exact JY rfl|exact JY (by assumption)|exact zD _ _|exact zx _ _|(with_reducible assumption)|omega|with_reducible rfl|(simp only[Wh];omega)|(intro j hj;exact absurd hj (Nat.not_lt_zero _))|exact ccp rfl (by omega)|exact ceF rfl (by omega)|exact ccp (by assumption) (by omega)|exact ceF (by assumption) (by omega)|exact YW rfl (by omega)|exact ceq rfl rfl|exact decide_eq_true rfl|exact decide_eq_true (by omega)|assumption|rfl):after Fence.wide 0 (W0 w).P ks Q .normal a w1:=run_is hR (.inl rfl) (fun _=>rfl) h ho hA hQ
theorem jE {fn:Func}{ps:List (Pat Dx)}(h:runR w o f nt fn ks st ps=some (.ret,ob)) (hR:Cf (W0 w) (TY o)) (hA:At (W0 w) nt st a w1) (ho:jc ob:=by (repeat' (first|exact trivial|apply And.intro))<;>first|exact yS.refl _ _|exact fun _ _=>Cc.refl _ _|exact JY rfl|exact JY (by assumption)|exact zD _ _|exact zx _ _|(with_reducible assumption)|omega|with_reducible rfl|(simp only[Wh];omega)|(intro j hj;exact absurd hj (Nat.not_lt_zero _))|exact ccp rfl (by omega)|exact ceF rfl (by omega)|exact ccp (by assumption) (by omega)|exact ceF (by assumption) (by omega)|exact YW rfl (by omega)|exact ceq rfl rfl|exact decide_eq_true rfl|exact decide_eq_true (by omega)|assumption|rfl) (hQ:∀ a' w',Ret (W0 w) fn (Res (W0 w) ps) .ret a' w'->Q .ret a' w':=by exact fun _ _ h=>h):after Fence.wide 0 (W0 w).P ks Q .normal a w1:=Wr hR (.inl rfl) (fun _=>rfl) h ho hA hQ
end
theorem sub_ext {C:Ctx Dx}{b:Bool}{lo:Nat}{w0:World}(hC:C=Cx b lo w0) {L L':Lt Dx}(h1:L'.lo<=L.lo) (h2:L'.ty=L.ty) (h3:L'.z=L.z) (h4:L'.n=L.n) (h5:∀ j,j<L.n->L'.g j=L.g j):yS C (.ls L') (.ls L):=by
 subst hC;intro w l hl;have hl:DIs w (.ls L) l:=hl;show DIs w (.ls L') l;obtain⟨lo',ty',z',n',g'⟩:=L';obtain⟨lo1,ty1,z1,n1,g1⟩:=L;simp only at h1 h2 h3 h4 h5;subst h2;subst h3;subst h4;cases hl with
 |nil h=>exact .nil h
 |ls k o c arr pre vs rest q2 q3 q4 q5 q6 q7 q8 q9=>exact .ls k o c arr pre vs rest q2 q3 q4 q5 q6 (le_trans h1 q7) q8 (fun j hj=>by rw[show (Lt.mk lo' ty' z' n' g').g j=g1 j from h5 j hj];exact q9 j hj)
theorem Kf {b:Bool}{lo:Nat}{w0:World}{α β:Type}[Inhabited α] [Inhabited β] {a ty z:Nat}{xs:List α}{h:α->β}{f:α->List (Grp Dx)}{f':β->List (Grp Dx)}(hf:∀ x,f' (h x)=f x):yS (Cx b lo w0) (.ls (lst a ty z (xs.map h) f')) (.ls (lst a ty z xs f)):=by
 refine sub_ext rfl (le_refl _) rfl rfl (by simp [lst]) (fun j hj=>?_);have hj:j<xs.length:=hj;show f' ((xs.map h).getD j default)=f (xs.getD j default);rw[← hf,List.getD_eq_getElem?_getD,List.getD_eq_getElem?_getD,List.getElem?_map,List.getElem?_eq_getElem hj];rfl
end Pe
namespace Pe
def ixP (n:Nat) (p:Nat->Bool):Int:=match (List.range n).find? p with
 |some i=>(i:Int)
 |none=>-1
def anyP (n:Nat) (p:Nat->Bool):Bool:=(List.range n).any p
section
variable {n:Nat}{p:Nat->Bool}
theorem cbG {i:Nat}(hi:i<n) (h:p i=true) (hb:∀ k,k<i->p k=false):ixP n p=(i:Int):=by
 have:(List.range n).find? p=some i:=by
  rw[List.find?_range_eq_some];exact⟨h,List.mem_range.2 hi,fun j hj=>by simp [hb j hj]⟩
 unfold ixP;rw[this]
theorem cbx (h:∀ i,i<n->p i=false):ixP n p=-1:=by
 have:(List.range n).find? p=none:=by
  rw[List.find?_eq_none];intro i hi;rw[h i (List.mem_range.1 hi)];exact Bool.false_ne_true
 unfold ixP;rw[this]
theorem ixP_ge:decide (ixP n p>=0)=anyP n p:=by
 unfold ixP anyP;split
 ·rename_i i h;have h1:=List.find?_some h;have h2:=List.mem_of_find?_eq_some h;rw[List.any_eq_true.2 ⟨i,h2,h1⟩];exact decide_eq_true (by omega)
 ·rename_i h;rw[List.find?_eq_none] at h;rw[List.any_eq_false.2 h];rfl
theorem KC {i:Nat}(hi:i<n) (h:p i=true):anyP n p=true:=List.any_eq_true.2 ⟨i,List.mem_range.2 hi,h⟩
theorem JI (h:∀ i,i<n->p i=false):anyP n p=false:=List.any_eq_false.2 fun i hi=>by rw[h i (List.mem_range.1 hi)];exact Bool.false_ne_true
end
end Pe
namespace Pe
noncomputable def kq19_:List Kp:=[.code (codeOf Tryz.f19)]
noncomputable def kr20_:List Kp:=[.code (codeOf Tryz.f20)]
noncomputable def kqs8_:List Kp:=[.code (codeOf Tryz.f8)]
noncomputable def kqs8_n:List Kp:=next kqs8_
noncomputable def kqs8_nl:List Kp:=[.code (kt kqs8_n)]
noncomputable def kqs8_nt:List Kp:=kqs8_n.tail
noncomputable def krs9_:List Kp:=[.code (codeOf Tryz.f9)]
noncomputable def krs9_n:List Kp:=next krs9_
noncomputable def krs9_nl:List Kp:=[.code (kt krs9_n)]
noncomputable def krs9_nt:List Kp:=krs9_n.tail
abbrev Rt:=Int×Nat
def okR (x:Rt):Bool:=decide (-2147483648<=x.1/\x.1<=2147483647/\x.2<=255)
def rv (x:Rt):Rat:=(x.1:Rat)/((Int.ofNat (x.2%12)+1:Int):Rat)
abbrev fX (x:Rt):List (Grp Dx):=[.lit (.int .i32 x.1),.lit (.int .u8 (.ofNat x.2))]
abbrev pT (x:Rt):Pat Dx:=.agg (fX x)
abbrev pX (r0:Nat) (xs:List Rt):Pat Dx:=.one (.cls (.ls (lst 0 r0 2 xs fX)))
abbrev Ln:=Nat×List Rt×Rt
abbrev fN (x:Ln):List (Grp Dx):=[.cls (.ls (lst 0 x.1 2 x.2.1 fX)),.lit (.int .i32 x.2.2.1),.lit (.int .u8 (.ofNat x.2.2.2))]
abbrev pN (r0:Nat) (l:List Ln):Pat Dx:=.one (.cls (.ls (lst 0 r0 3 l fN)))
def okZ (xs:List Rt):Bool:=xs.all okR
def okN (x:Ln):Bool:=okZ x.2.1&&okR x.2.2
theorem okR_is {x:Rt}(h:okR x=true):-2147483648<=x.1/\x.1<=2147483647/\x.2<=255:=of_decide_eq_true h
theorem cdE {α:Type}[Inhabited α] {p:α->Bool}{xs:List α}(h:xs.all p=true) {i:Nat}(hi:i<xs.length):p (xs.getD i default)=true:=by
 rw[List.getD_eq_getElem?_getD,List.getElem?_eq_getElem hi];exact List.all_eq_true.1 h _ (List.getElem_mem hi)
theorem jS {w:World}{ex:List (Nat×Con)}(hG:Gr w) (hN:cP) (hE:yI true w.heap.size w ex):∀ o:Opt,o.ex=ex->Cf (W0 w) (TY o):=fun _ ho=>cdB (le_refl _) hG hN (by rw[ho];exact hE)
abbrev hkq (r:Rat):List (Grp Dx):=[.cls (.q r 2)]
abbrev pQl (lo:Nat) (xs:List Rat):Pat Dx:=.one (.cls (.ls (lst lo 50 4 xs hkq)))
noncomputable abbrev lkqR (w:World) (x:Rt)  (o:List (Nat×Nat×Bool)):=runR w ⟨o,[],[]⟩ 19 18 Tryz.f19 kq19_ (stA [pT x]) [pQ (rv x) 2]
theorem lkq0 {w:World}(x:Rt):lkqR w x []=some (.ret,[-2147483648<=x.1/\x.1<=2147483647,0<12,x.2.mod 12<=255,yu (Int.ofNat (x.2.mod 12)+1),yu x.1/\yu (Int.ofNat (x.2.mod 12)+1)/\Int.ofNat (x.2.mod 12)+1≠0,yS (W0 w) (.q (rv x) 2) (.q ((↑x.1:Rat)/(↑(Int.ofNat (x.2.mod 12)+1):Rat)) 2),ky (W0 w) (.q (rv x) 2)]):=by kernel_rfl
theorem kq_ok (hN:cP) (x:Rt) (hx:okR x=true):kX 19 [pT x] (fun _=>[pQ (rv x) 2]):=by
 intro w vs hG hp;refine yk hG hN (ex:=[]) cR (fn:=Tryz.f19) Tryz.func19 (c:=codeOf Tryz.f19) (by kernel_rfl) (args:=[pT x]) (by kernel_rfl) hp (fun hR _ hA=>?_);obtain⟨x1,x2,x3⟩:=okR_is hx;have x4:x.2.mod 12<=255:=le_trans (Nat.mod_le x.2 12) x3;have x5:x.2.mod 12<12:=mod_lt _ (by decide);refine jE (lkq0 x) (hR _ rfl) hA
theorem kq_ent {lo:Nat}{w0:World}{x:Rt}(hN:cP) (hG:Gr w0) (hlo:lo<=w0.heap.size) (hx:okR x=true):cZ (Cx true lo w0) (.call 19) [pT x] (qr (rv x) 2):=(kq_ok hN x hx).num hG hlo (enters_of Tryz.func19 (by kernel_rfl) rfl)
noncomputable abbrev exkq (x:Rt):List (Nat×Con):=[(19,kZ [pT x] (qr (rv x) 2))]
theorem cfc {lo:Nat}{w0:World}{x:Rt}(hN:cP) (hG:Gr w0) (hlo:lo<=w0.heap.size) (hx:okR x=true):yI true lo w0 (exkq x):=je (jo (kq_ent hN hG hlo hx)) cR
abbrev kqI (r0:Nat) (xs:List Rt) (i:Nat):St Dx:=⟨2,[(0,.val (.one (.sym 0 0))),(3,.val (.one (.fn 1))),(4,.val (.one (.lit (ii (i:Int)))))],[(0,.cls (.ls (lst 0 r0 2 xs fX))),(1,.gl 50 4 i (fun j=>hkq (rv (xs.getD j default))))],[]⟩
theorem kqa {w:World}(r0:Nat) (xs:List Rt):run w ⟨[],[],[]⟩ 8 21 kqs8_ (stA [pX r0 xs]) (kqI r0 xs 0)=some (.normal,[sD w (.ls (lst 0 r0 2 xs fX)),0=0,∀ (j:Nat),j<0->Cc (W0 w) (hkq (rv (xs.getD j default))) [],ii (↑0:Int)=Value.int IntKind.i64 0]):=by kernel_rfl
theorem kqb {w:World}(r0:Nat) (xs:List Rt) (i:Nat):run w ⟨[(8,9,true)],[],exkq (xs.getD i default)⟩ 8 21 kqs8_nl (kqI r0 xs i) (kqI r0 xs (i+1))=some (.normal,[decide ((i:Int)<(xs.length:Int))=true,i<xs.length,i<xs.length,[Pat.agg [Grp.lit (Value.int IntKind.i32 (xs.getD i default).1),Grp.lit (Value.int IntKind.u8 (Int.ofNat (xs.getD i default).2))]]=[pT (xs.getD i default)],i+1<=1000000,yu ((i:Int)+1),sD w (.ls (lst 0 r0 2 xs fX)),i+1=i+1,sN w i (fun j=>hkq (rv (xs.getD j default))) [Grp.cls (Dx.q (rv (xs.getD i default)) 2)],ii (↑(i+1):Int)=Value.int IntKind.i64 ((i:Int)+1)]):=by kernel_rfl
theorem kqc {w:World}(r0:Nat) (xs:List Rt) (i:Nat):run w ⟨[(8,9,false)],[],[]⟩ 8 21 kqs8_nl (kqI r0 xs i) (kqI r0 xs i)=some (.exit 0,[decide ((i:Int)<(xs.length:Int))=false,sD w (.ls (lst 0 r0 2 xs fX)),i=i,sG w i (fun j=>hkq (rv (xs.getD j default))),eA (ii (i:Int))]):=by kernel_rfl
theorem kqd {w:World}(r0:Nat) (xs:List Rt):runR w ⟨[],[],[]⟩ 8 21 Tryz.f8 kqs8_nt (kqI r0 xs xs.length) [pQl w.heap.size (xs.map rv)]=some (.ret,[yS (W0 w) (.ls (lst w.1.size 50 4 (List.map rv xs) hkq)) (.ls { lo:=w.1.size,ty:=50,z:=4,n:=xs.length,g:=fun(j:Nat)=>hkq (rv (xs.getD j default)) }),ky (W0 w) (.ls (lst w.1.size 50 4 (List.map rv xs) hkq))]):=by kernel_rfl
theorem kqs_ok (hN:cP) (r0:Nat) (xs:List Rt) (hx:okZ xs=true) (hl:xs.length<=1000):kX 8 [pX r0 xs] (fun lo=>[pQl lo (xs.map rv)]):=by
 intro w vs hG hp;refine yk hG hN (ex:=[]) cR (fn:=Tryz.f8) Tryz.func8 (c:=codeOf Tryz.f8) (by kernel_rfl) (args:=[pX r0 xs]) (by kernel_rfl) hp (fun hR _ hA=>?_);refine jz (kqa r0 xs) (hR _ rfl) hA (fun a1 w1 hA=>kQ ?_);refine uj (fun i=>kqI r0 xs i) (fun i=>i<=xs.length) (fun i=>xs.length-i) (L:=kqs8_n) (ks:=kqs8_nt) (id:=0) (c:=kt kqs8_n) (by kernel_rfl) 0 (zero_le _) hA (fun i a2 w2 hi hA=>?_);rcases eq_false_or_eq_true (decide ((i:Int)<(xs.length:Int))) with q9|q9
 ·have p9:=of_decide_eq_true q9;have hlt:i<xs.length:=by omega
  exact jz (kqb r0 xs i) (jS hG hN (cfc hN hG (le_refl _) (cdE hx hlt)) _ rfl) hA (fun a3 w3 hA=>ki (by kernel_rfl) ⟨i+1,by omega,hA,by omega⟩)
 ·have p9:=of_decide_eq_false q9;obtain rfl:i=xs.length:=by omega
  refine jz (kqc r0 xs xs.length) (hR _ rfl) hA (fun a3 w3 hA=>jI _ (by kernel_rfl) ?_);refine Wr (hR ⟨[],[],[]⟩ rfl) (.inl rfl) (fun _=>rfl) (fn:=Tryz.f8) (kqd r0 xs) ?_ hA (fun _ _ h=>h);refine⟨Kf (fun _=>rfl),Gx (le_refl _) ?_,trivial⟩;intro j hj d hd;simp [lst,kU] at hd;rcases hd with rfl;first|exact zD _ _|exact zx _ _
theorem cem {lo r0:Nat}{w0:World}{xs:List Rt}(hN:cP) (hG:Gr w0) (hlo:lo<=w0.heap.size) (hx:okZ xs=true) (hl:xs.length<=1000):cZ (Cx true lo w0) (.call 8) [pX r0 xs] (Jq [pQl lo (xs.map rv)]) :=
 (kqs_ok hN r0 xs hx hl).ent hG hlo (enters_of Tryz.func8 (by kernel_rfl) rfl) (fun hi h=>⟨_,rfl,caJ (L:=lst lo _ 4 _ hkq) h,trivial⟩)
abbrev hkr (r:Rat):List (Grp Dx):=[.cls (.rq r 2)]
abbrev pRl (lo:Nat) (xs:List Rat):Pat Dx:=.one (.cls (.ls (lst lo 74 3 xs hkr)))
noncomputable abbrev lkrR (w:World) (x:Rt)  (o:List (Nat×Nat×Bool)):=runR w ⟨o,[],[]⟩ 20 12 Tryz.f20 kr20_ (stA [pT x]) [pR (rv x) 2]
theorem lkr0 {w:World}(x:Rt):lkrR w x []=some (.ret,[-2147483648<=x.1/\x.1<=2147483647,0<12,x.2.mod 12<=255,yu (Int.ofNat (x.2.mod 12)+1),yu x.1/\yu (Int.ofNat (x.2.mod 12)+1)/\Int.ofNat (x.2.mod 12)+1≠0,yS (W0 w) (.rq (rv x) 2) (.rq ((↑x.1:Rat)/(↑(Int.ofNat (x.2.mod 12)+1):Rat)) 2),ky (W0 w) (.rq (rv x) 2)]):=by kernel_rfl
theorem kr_ok (hN:cP) (x:Rt) (hx:okR x=true):kX 20 [pT x] (fun _=>[pR (rv x) 2]):=by
 intro w vs hG hp;refine yk hG hN (ex:=[]) cR (fn:=Tryz.f20) Tryz.func20 (c:=codeOf Tryz.f20) (by kernel_rfl) (args:=[pT x]) (by kernel_rfl) hp (fun hR _ hA=>?_);obtain⟨x1,x2,x3⟩:=okR_is hx;have x4:x.2.mod 12<=255:=le_trans (Nat.mod_le x.2 12) x3;have x5:x.2.mod 12<12:=mod_lt _ (by decide);refine jE (lkr0 x) (hR _ rfl) hA
theorem kr_ent {lo:Nat}{w0:World}{x:Rt}(hN:cP) (hG:Gr w0) (hlo:lo<=w0.heap.size) (hx:okR x=true):cZ (Cx true lo w0) (.call 20) [pT x] (rr (rv x) 2):=(kr_ok hN x hx).rnum hG hlo (enters_of Tryz.func20 (by kernel_rfl) rfl)
noncomputable abbrev exkr (x:Rt):List (Nat×Con):=[(20,kZ [pT x] (rr (rv x) 2))]
theorem cet {lo:Nat}{w0:World}{x:Rt}(hN:cP) (hG:Gr w0) (hlo:lo<=w0.heap.size) (hx:okR x=true):yI true lo w0 (exkr x):=je (jo (kr_ent hN hG hlo hx)) cR
abbrev krI (r0:Nat) (xs:List Rt) (i:Nat):St Dx:=⟨2,[(0,.val (.one (.sym 0 0))),(3,.val (.one (.fn 1))),(4,.val (.one (.lit (ii (i:Int)))))],[(0,.cls (.ls (lst 0 r0 2 xs fX))),(1,.gl 74 3 i (fun j=>hkr (rv (xs.getD j default))))],[]⟩
theorem kra {w:World}(r0:Nat) (xs:List Rt):run w ⟨[],[],[]⟩ 9 21 krs9_ (stA [pX r0 xs]) (krI r0 xs 0)=some (.normal,[sD w (.ls (lst 0 r0 2 xs fX)),0=0,∀ (j:Nat),j<0->Cc (W0 w) (hkr (rv (xs.getD j default))) [],ii (↑0:Int)=Value.int IntKind.i64 0]):=by kernel_rfl
theorem krb {w:World}(r0:Nat) (xs:List Rt) (i:Nat):run w ⟨[(9,9,true)],[],exkr (xs.getD i default)⟩ 9 21 krs9_nl (krI r0 xs i) (krI r0 xs (i+1))=some (.normal,[decide ((i:Int)<(xs.length:Int))=true,i<xs.length,i<xs.length,[Pat.agg [Grp.lit (Value.int IntKind.i32 (xs.getD i default).1),Grp.lit (Value.int IntKind.u8 (Int.ofNat (xs.getD i default).2))]]=[pT (xs.getD i default)],i+1<=1000000,yu ((i:Int)+1),sD w (.ls (lst 0 r0 2 xs fX)),i+1=i+1,sN w i (fun j=>hkr (rv (xs.getD j default))) [Grp.cls (Dx.rq (rv (xs.getD i default)) 2)],ii (↑(i+1):Int)=Value.int IntKind.i64 ((i:Int)+1)]):=by kernel_rfl
theorem krc {w:World}(r0:Nat) (xs:List Rt) (i:Nat):run w ⟨[(9,9,false)],[],[]⟩ 9 21 krs9_nl (krI r0 xs i) (krI r0 xs i)=some (.exit 0,[decide ((i:Int)<(xs.length:Int))=false,sD w (.ls (lst 0 r0 2 xs fX)),i=i,sG w i (fun j=>hkr (rv (xs.getD j default))),eA (ii (i:Int))]):=by kernel_rfl
theorem krd {w:World}(r0:Nat) (xs:List Rt):runR w ⟨[],[],[]⟩ 9 21 Tryz.f9 krs9_nt (krI r0 xs xs.length) [pRl w.heap.size (xs.map rv)]=some (.ret,[yS (W0 w) (.ls (lst w.1.size 74 3 (List.map rv xs) hkr)) (.ls { lo:=w.1.size,ty:=74,z:=3,n:=xs.length,g:=fun(j:Nat)=>hkr (rv (xs.getD j default)) }),ky (W0 w) (.ls (lst w.1.size 74 3 (List.map rv xs) hkr))]):=by kernel_rfl
theorem krs_ok (hN:cP) (r0:Nat) (xs:List Rt) (hx:okZ xs=true) (hl:xs.length<=1000):kX 9 [pX r0 xs] (fun lo=>[pRl lo (xs.map rv)]):=by
 intro w vs hG hp;refine yk hG hN (ex:=[]) cR (fn:=Tryz.f9) Tryz.func9 (c:=codeOf Tryz.f9) (by kernel_rfl) (args:=[pX r0 xs]) (by kernel_rfl) hp (fun hR _ hA=>?_);refine jz (kra r0 xs) (hR _ rfl) hA (fun a1 w1 hA=>kQ ?_);refine uj (fun i=>krI r0 xs i) (fun i=>i<=xs.length) (fun i=>xs.length-i) (L:=krs9_n) (ks:=krs9_nt) (id:=0) (c:=kt krs9_n) (by kernel_rfl) 0 (zero_le _) hA (fun i a2 w2 hi hA=>?_);rcases eq_false_or_eq_true (decide ((i:Int)<(xs.length:Int))) with q9|q9
 ·have p9:=of_decide_eq_true q9;have hlt:i<xs.length:=by omega
  exact jz (krb r0 xs i) (jS hG hN (cet hN hG (le_refl _) (cdE hx hlt)) _ rfl) hA (fun a3 w3 hA=>ki (by kernel_rfl) ⟨i+1,by omega,hA,by omega⟩)
 ·have p9:=of_decide_eq_false q9;obtain rfl:i=xs.length:=by omega
  refine jz (krc r0 xs xs.length) (hR _ rfl) hA (fun a3 w3 hA=>jI _ (by kernel_rfl) ?_);refine Wr (hR ⟨[],[],[]⟩ rfl) (.inl rfl) (fun _=>rfl) (fn:=Tryz.f9) (krd r0 xs) ?_ hA (fun _ _ h=>h);refine⟨Kf (fun _=>rfl),Gx (le_refl _) ?_,trivial⟩;intro j hj d hd;simp [lst,kU] at hd;rcases hd with rfl;first|exact zD _ _|exact zx _ _
theorem ceL {lo r0:Nat}{w0:World}{xs:List Rt}(hN:cP) (hG:Gr w0) (hlo:lo<=w0.heap.size) (hx:okZ xs=true) (hl:xs.length<=1000):cZ (Cx true lo w0) (.call 9) [pX r0 xs] (Jq [pRl lo (xs.map rv)]) :=
 (krs_ok hN r0 xs hx hl).ent hG hlo (enters_of Tryz.func9 (by kernel_rfl) rfl) (fun hi h=>⟨_,rfl,caJ (L:=lst lo _ 3 _ hkr) h,trivial⟩)
end Pe
namespace Pe
noncomputable def krows7_:List Kp:=[.code (codeOf Tryz.f7)]
noncomputable def krows7_n:List Kp:=next krows7_
noncomputable def krows7_nl:List Kp:=[.code (kt krows7_n)]
noncomputable def krows7_nt:List Kp:=krows7_n.tail
noncomputable def klines10_:List Kp:=[.code (codeOf Tryz.f10)]
noncomputable def klines10_n:List Kp:=next klines10_
noncomputable def klines10_nl:List Kp:=[.code (kt klines10_n)]
noncomputable def klines10_nt:List Kp:=klines10_n.tail
theorem ceR {C:Ctx Dx}{b:Bool}{lo:Nat}{w0:World}(hC:C=Cx b lo w0) {L L':Lt Dx}(h1:L'.lo<=L.lo) (h2:L'.ty=L.ty) (h3:L'.z=L.z) (h4:L'.n=L.n) (h5:∀ j,j<L.n->Cc C (L'.g j) (L.g j)):yS C (.ls L') (.ls L):=by
 subst hC;intro w l hl;have hl:DIs w (.ls L) l:=hl;show DIs w (.ls L') l;obtain⟨lo',ty',z',n',g'⟩:=L';obtain⟨lo1,ty1,z1,n1,g1⟩:=L;simp only at h1 h2 h3 h4 h5;subst h2;subst h3;subst h4;cases hl with
 |nil h=>exact .nil h
 |ls k o c arr pre vs rest q2 q3 q4 q5 q6 q7 q8 q9=>exact .ls k o c arr pre vs rest q2 q3 q4 q5 q6 (le_trans h1 q7) q8 (fun j hj=>Zy (h5 j hj w _ (EE (b:=b) (lo:=lo) (w0:=w0) (q9 j hj))))
theorem ZF {b:Bool}{lo:Nat}{w0:World}{d d':Dx}{gs:List (Grp Dx)}(h:yS (Cx b lo w0) d d'):Cc (Cx b lo w0) (.cls d::gs) (.cls d'::gs):=by
 intro w vs hv;cases Zy hv with
 |cls h1 h2=>exact EE (.cls (h w _ h1) h2)
abbrev V2:=List Rat×Rat
abbrev rwv (x:Ln):V2:=(x.2.1.map rv,rv x.2.2)
theorem okN_is {l:List Ln}(h:l.all okN=true) {i:Nat}(hi:i<l.length):okZ (l.getD i default).2.1=true/\okR (l.getD i default).2.2=true:=by
 have:=cdE h hi;unfold okN at this;rw[and_eq_true] at this;exact this
abbrev wkq (lo:Nat) (y:V2):List (Grp Dx):=[.cls (.ls (lst lo 50 4 y.1 hkq)),.cls (.q y.2 2)]
abbrev pQw (lo:Nat) (l:List V2):Pat Dx:=.one (.cls (.ls (lst lo 70 5 l (wkq lo))))
noncomputable abbrev eykq (lo:Nat) (x:Ln):List (Nat×Con):=(8,kZ [pX x.1 x.2.1] (Jq [pQl lo (x.2.1.map rv)]))::exkq x.2.2
theorem eykq_ok {lo:Nat}{w0:World}{x:Ln}(hN:cP) (hG:Gr w0) (hlo:lo<=w0.heap.size) (h1:okZ x.2.1=true) (h2:okR x.2.2=true) (hl:x.2.1.length<=1000):yI true lo w0 (eykq lo x):=je (jo (cem hN hG hlo h1 hl)) (cfc hN hG hlo h2)
abbrev kqW (lo r0:Nat) (l:List Ln) (i:Nat):St Dx:=⟨2,[(0,.val (.one (.sym 0 0))),(3,.val (.one (.fn 1))),(4,.val (.one (.lit (ii (i:Int)))))],[(0,.cls (.ls (lst 0 r0 3 l fN))),(1,.gl 70 5 i (fun j=>wkq lo (rwv (l.getD j default))))],[]⟩
theorem kqwa {w:World}(r0:Nat) (l:List Ln):run w ⟨[],[],[]⟩ 7 29 krows7_ (stA [pN r0 l]) (kqW w.heap.size r0 l 0)=some (.normal,[sD w (.ls (lst 0 r0 3 l fN)),0=0,∀ (j:Nat),j<0->Cc (W0 w) (wkq w.1.size (rwv (l.getD j default))) [],ii (↑0:Int)=Value.int IntKind.i64 0]):=by kernel_rfl
theorem kqwb {w:World}(r0:Nat) (l:List Ln) (i:Nat):run w ⟨[(7,9,true)],[],eykq w.heap.size (l.getD i default)⟩ 7 29 krows7_nl (kqW w.heap.size r0 l i) (kqW w.heap.size r0 l (i+1))=some (.normal,[decide ((i:Int)<(l.length:Int))=true,i<l.length,i<l.length,[Pat.one (Grp.cls (Dx.ls (lst 0 (l.getD i default).1 2 (l.getD i default).2.1 fX)))]=[pX (l.getD i default).1 (l.getD i default).2.1],i<l.length,i<l.length,[Pat.agg [Grp.lit (Value.int IntKind.i32 (l.getD i default).2.2.1),Grp.lit (Value.int IntKind.u8 (Int.ofNat (l.getD i default).2.2.2))]]=[pT (l.getD i default).2.2],i+1<=1000000,yu ((i:Int)+1),sD w (.ls (lst 0 r0 3 l fN)),i+1=i+1,sN w i (fun j=>wkq w.1.size (rwv (l.getD j default))) [Grp.cls (Dx.ls (lst w.1.size 50 4 (List.map rv (l.getD i default).2.1) hkq)),Grp.cls (Dx.q (rv (l.getD i default).2.2) 2)],ii (↑(i+1):Int)=Value.int IntKind.i64 ((i:Int)+1)]):=by kernel_rfl
theorem kqwc {w:World}(r0:Nat) (l:List Ln) (i:Nat):run w ⟨[(7,9,false)],[],[]⟩ 7 29 krows7_nl (kqW w.heap.size r0 l i) (kqW w.heap.size r0 l i)=some (.exit 0,[decide ((i:Int)<(l.length:Int))=false,sD w (.ls (lst 0 r0 3 l fN)),i=i,sG w i (fun j=>wkq w.1.size (rwv (l.getD j default))),eA (ii (i:Int))]):=by kernel_rfl
theorem kqwd {w:World}(r0:Nat) (l:List Ln):runR w ⟨[],[],[]⟩ 7 29 Tryz.f7 krows7_nt (kqW w.heap.size r0 l l.length) [pQw w.heap.size (l.map rwv)]=some (.ret,[yS (W0 w) (.ls (lst w.1.size 70 5 (List.map rwv l) (wkq w.1.size))) (.ls { lo:=w.1.size,ty:=70,z:=5,n:=l.length,g:=fun(j:Nat)=>wkq w.1.size (rwv (l.getD j default)) }),ky (W0 w) (.ls (lst w.1.size 70 5 (List.map rwv l) (wkq w.1.size)))]):=by kernel_rfl
theorem kqw_ok (hN:cP) (r0:Nat) (l:List Ln) (hx:l.all okN=true) (hl:l.length<=1000) (hm:∀ i,i<l.length->(l.getD i default).2.1.length<=1000):kX 7 [pN r0 l] (fun lo=>[pQw lo (l.map rwv)]):=by
 intro w vs hG hp;refine yk hG hN (ex:=[]) cR (fn:=Tryz.f7) Tryz.func7 (c:=codeOf Tryz.f7) (by kernel_rfl) (args:=[pN r0 l]) (by kernel_rfl) hp (fun hR _ hA=>?_);refine jz (kqwa r0 l) (hR _ rfl) hA (fun a1 w1 hA=>kQ ?_);refine uj (fun i=>kqW w.heap.size r0 l i) (fun i=>i<=l.length) (fun i=>l.length-i) (L:=krows7_n) (ks:=krows7_nt) (id:=0) (c:=kt krows7_n) (by kernel_rfl) 0 (zero_le _) hA (fun i a2 w2 hi hA=>?_);rcases eq_false_or_eq_true (decide ((i:Int)<(l.length:Int))) with q9|q9
 ·have p9:=of_decide_eq_true q9;have hlt:i<l.length:=by omega
  obtain⟨h1,h2⟩:=okN_is hx hlt;exact jz (kqwb r0 l i) (jS hG hN (eykq_ok hN hG (le_refl _) h1 h2 (hm i hlt)) _ rfl) hA (fun a3 w3 hA=>ki (by kernel_rfl) ⟨i+1,by omega,hA,by omega⟩)
 ·have p9:=of_decide_eq_false q9;obtain rfl:i=l.length:=by omega
  refine jz (kqwc r0 l l.length) (hR _ rfl) hA (fun a3 w3 hA=>jI _ (by kernel_rfl) ?_);refine Wr (hR ⟨[],[],[]⟩ rfl) (.inl rfl) (fun _=>rfl) (fn:=Tryz.f7) (kqwd r0 l) ?_ hA (fun _ _ h=>h);refine⟨Kf (fun _=>rfl),Gx (le_refl _) ?_,trivial⟩;intro j hj d hd;simp [lst,kU] at hd;rcases hd with rfl|rfl
  ·refine Gx (le_refl _) ?_;intro j hj d hd;simp [lst,kU] at hd;rcases hd with rfl;first|exact zD _ _|exact zx _ _
  ·first|exact zD _ _|exact zx _ _
theorem kqw_ent {lo r0:Nat}{w0:World}{l:List Ln}(hN:cP) (hG:Gr w0) (hlo:lo<=w0.heap.size) (hx:l.all okN=true) (hl:l.length<=1000) (hm:∀ i,i<l.length->(l.getD i default).2.1.length<=1000):cZ (Cx true lo w0) (.call 7) [pN r0 l] (Jq [pQw lo (l.map rwv)]) :=
 (kqw_ok hN r0 l hx hl hm).ent hG hlo (enters_of Tryz.func7 (by kernel_rfl) rfl) (fun hi h=>⟨_,rfl,ceR rfl h rfl rfl rfl (fun j hj=>ZF (caJ (L:=lst lo _ 4 _ hkq) h)),trivial⟩)
abbrev wkr (lo:Nat) (y:V2):List (Grp Dx):=[.cls (.ls (lst lo 74 3 y.1 hkr)),.cls (.rq y.2 2)]
abbrev pRw (lo:Nat) (l:List V2):Pat Dx:=.one (.cls (.ls (lst lo 77 4 l (wkr lo))))
noncomputable abbrev eykr (lo:Nat) (x:Ln):List (Nat×Con):=(9,kZ [pX x.1 x.2.1] (Jq [pRl lo (x.2.1.map rv)]))::exkr x.2.2
theorem eykr_ok {lo:Nat}{w0:World}{x:Ln}(hN:cP) (hG:Gr w0) (hlo:lo<=w0.heap.size) (h1:okZ x.2.1=true) (h2:okR x.2.2=true) (hl:x.2.1.length<=1000):yI true lo w0 (eykr lo x):=je (jo (ceL hN hG hlo h1 hl)) (cet hN hG hlo h2)
abbrev krW (lo r0:Nat) (l:List Ln) (i:Nat):St Dx:=⟨2,[(0,.val (.one (.sym 0 0))),(3,.val (.one (.fn 1))),(4,.val (.one (.lit (ii (i:Int)))))],[(0,.cls (.ls (lst 0 r0 3 l fN))),(1,.gl 77 4 i (fun j=>wkr lo (rwv (l.getD j default))))],[]⟩
theorem krwa {w:World}(r0:Nat) (l:List Ln):run w ⟨[],[],[]⟩ 10 29 klines10_ (stA [pN r0 l]) (krW w.heap.size r0 l 0)=some (.normal,[sD w (.ls (lst 0 r0 3 l fN)),0=0,∀ (j:Nat),j<0->Cc (W0 w) (wkr w.1.size (rwv (l.getD j default))) [],ii (↑0:Int)=Value.int IntKind.i64 0]):=by kernel_rfl
theorem krwb {w:World}(r0:Nat) (l:List Ln) (i:Nat):run w ⟨[(10,9,true)],[],eykr w.heap.size (l.getD i default)⟩ 10 29 klines10_nl (krW w.heap.size r0 l i) (krW w.heap.size r0 l (i+1))=some (.normal,[decide ((i:Int)<(l.length:Int))=true,i<l.length,i<l.length,[Pat.one (Grp.cls (Dx.ls (lst 0 (l.getD i default).1 2 (l.getD i default).2.1 fX)))]=[pX (l.getD i default).1 (l.getD i default).2.1],i<l.length,i<l.length,[Pat.agg [Grp.lit (Value.int IntKind.i32 (l.getD i default).2.2.1),Grp.lit (Value.int IntKind.u8 (Int.ofNat (l.getD i default).2.2.2))]]=[pT (l.getD i default).2.2],i+1<=1000000,yu ((i:Int)+1),sD w (.ls (lst 0 r0 3 l fN)),i+1=i+1,sN w i (fun j=>wkr w.1.size (rwv (l.getD j default))) [Grp.cls (Dx.ls (lst w.1.size 74 3 (List.map rv (l.getD i default).2.1) hkr)),Grp.cls (Dx.rq (rv (l.getD i default).2.2) 2)],ii (↑(i+1):Int)=Value.int IntKind.i64 ((i:Int)+1)]):=by kernel_rfl
theorem krwc {w:World}(r0:Nat) (l:List Ln) (i:Nat):run w ⟨[(10,9,false)],[],[]⟩ 10 29 klines10_nl (krW w.heap.size r0 l i) (krW w.heap.size r0 l i)=some (.exit 0,[decide ((i:Int)<(l.length:Int))=false,sD w (.ls (lst 0 r0 3 l fN)),i=i,sG w i (fun j=>wkr w.1.size (rwv (l.getD j default))),eA (ii (i:Int))]):=by kernel_rfl
theorem krwd {w:World}(r0:Nat) (l:List Ln):runR w ⟨[],[],[]⟩ 10 29 Tryz.f10 klines10_nt (krW w.heap.size r0 l l.length) [pRw w.heap.size (l.map rwv)]=some (.ret,[yS (W0 w) (.ls (lst w.1.size 77 4 (List.map rwv l) (wkr w.1.size))) (.ls { lo:=w.1.size,ty:=77,z:=4,n:=l.length,g:=fun(j:Nat)=>wkr w.1.size (rwv (l.getD j default)) }),ky (W0 w) (.ls (lst w.1.size 77 4 (List.map rwv l) (wkr w.1.size)))]):=by kernel_rfl
theorem krw_ok (hN:cP) (r0:Nat) (l:List Ln) (hx:l.all okN=true) (hl:l.length<=1000) (hm:∀ i,i<l.length->(l.getD i default).2.1.length<=1000):kX 10 [pN r0 l] (fun lo=>[pRw lo (l.map rwv)]):=by
 intro w vs hG hp;refine yk hG hN (ex:=[]) cR (fn:=Tryz.f10) Tryz.func10 (c:=codeOf Tryz.f10) (by kernel_rfl) (args:=[pN r0 l]) (by kernel_rfl) hp (fun hR _ hA=>?_);refine jz (krwa r0 l) (hR _ rfl) hA (fun a1 w1 hA=>kQ ?_);refine uj (fun i=>krW w.heap.size r0 l i) (fun i=>i<=l.length) (fun i=>l.length-i) (L:=klines10_n) (ks:=klines10_nt) (id:=0) (c:=kt klines10_n) (by kernel_rfl) 0 (zero_le _) hA (fun i a2 w2 hi hA=>?_);rcases eq_false_or_eq_true (decide ((i:Int)<(l.length:Int))) with q9|q9
 ·have p9:=of_decide_eq_true q9;have hlt:i<l.length:=by omega
  obtain⟨h1,h2⟩:=okN_is hx hlt;exact jz (krwb r0 l i) (jS hG hN (eykr_ok hN hG (le_refl _) h1 h2 (hm i hlt)) _ rfl) hA (fun a3 w3 hA=>ki (by kernel_rfl) ⟨i+1,by omega,hA,by omega⟩)
 ·have p9:=of_decide_eq_false q9;obtain rfl:i=l.length:=by omega
  refine jz (krwc r0 l l.length) (hR _ rfl) hA (fun a3 w3 hA=>jI _ (by kernel_rfl) ?_);refine Wr (hR ⟨[],[],[]⟩ rfl) (.inl rfl) (fun _=>rfl) (fn:=Tryz.f10) (krwd r0 l) ?_ hA (fun _ _ h=>h);refine⟨Kf (fun _=>rfl),Gx (le_refl _) ?_,trivial⟩;intro j hj d hd;simp [lst,kU] at hd;rcases hd with rfl|rfl
  ·refine Gx (le_refl _) ?_;intro j hj d hd;simp [lst,kU] at hd;rcases hd with rfl;first|exact zD _ _|exact zx _ _
  ·first|exact zD _ _|exact zx _ _
theorem krw_ent {lo r0:Nat}{w0:World}{l:List Ln}(hN:cP) (hG:Gr w0) (hlo:lo<=w0.heap.size) (hx:l.all okN=true) (hl:l.length<=1000) (hm:∀ i,i<l.length->(l.getD i default).2.1.length<=1000):cZ (Cx true lo w0) (.call 10) [pN r0 l] (Jq [pRw lo (l.map rwv)]) :=
 (krw_ok hN r0 l hx hl hm).ent hG hlo (enters_of Tryz.func10 (by kernel_rfl) rfl) (fun hi h=>⟨_,rfl,ceR rfl h rfl rfl rfl (fun j hj=>ZF (caJ (L:=lst lo _ 3 _ hkr) h)),trivial⟩)
end Pe
namespace Pe
noncomputable def ksum50_:List Kp:=[.code (codeOf Tryz.f50)]
noncomputable def ksum50_n:List Kp:=next ksum50_
noncomputable def ksum50_nl:List Kp:=[.code (kt ksum50_n)]
noncomputable def ksum50_nt:List Kp:=ksum50_n.tail
noncomputable def kDot22_:List Kp:=[.code (codeOf Tryz.f22)]
noncomputable def kDot22_n:List Kp:=next kDot22_
noncomputable def kDot22_nl:List Kp:=[.code (kt kDot22_n)]
noncomputable def kDot22_nt:List Kp:=kDot22_n.tail
def yv (xs ys:List Rat):Nat->Rat
 |0=>0
 |i+1=>yv xs ys i+xs.getD i default*ys.getD i default
abbrev z4Q:List AC:=[.lit (.bool false),.lit (.int .u64 0),.lit (.int .u64 0),.lit (.pointer none)]
abbrev z3R:List AC:=[.lit (.bool false),.lit (.slice none 0 0),.lit (.slice none 0 0)]
abbrev sqT (n i:Nat):List (Nat×AV):=[(0,.val (.one (.sym 0 0))),(1,.val (.one (.sym 1 0))),(4,.val (.one (.ptr 2 0))),(5,.val (.one (.ptr 3 0))),(8,.val (.one (.sym 0 0))),(9,.val (.one (.lit (ii (n:Int))))),(10,.val (.one (.lit (ii (i:Int)))))]
abbrev sqM (a b:Nat) (xs ys:List Rat):Ws Dx:=[(0,.cls (.ls (lst a 50 4 xs hkq))),(1,.cls (.ls (lst b 50 4 ys hkq))),(2,.blk 50 z4Q none)]
abbrev sqZ (a b:Nat) (xs ys:List Rat):St Dx:=⟨4,sqT xs.length 0,sqM a b xs ys++[(3,.blk 50 z4Q none)],[]⟩
abbrev sqN (a b:Nat) (xs ys:List Rat) (i:Nat):St Dx:=⟨5,sqT xs.length i,sqM a b xs ys++[(3,.blk 50 [.sym 4 0,.sym 4 1,.sym 4 2,.sym 4 3] none),(4,.cls (.q (yv xs ys i) (5*i+1)))],[]⟩
abbrev sqS (a b:Nat) (xs ys:List Rat):Nat->St Dx
 |0=>sqZ a b xs ys
 |i+1=>sqN a b xs ys (i+1)
theorem sqa {w:World}(a b:Nat) (xs ys:List Rat):run w ⟨[],[],[]⟩ 50 25 ksum50_ (stA [pQl a xs,pQl b ys]) (sqZ a b xs ys)=some (.normal,[sD w (.ls (lst a 50 4 xs hkq)),sD w (.ls (lst b 50 4 ys hkq))]++(zV++(zV++[0=0,0=0,ii (xs.length:Int)=goInt (xs.length:Int),ii (↑0:Int)=Value.int IntKind.i64 0]))):=by kernel_rfl
theorem sqb0 {w:World}(a b:Nat) (xs ys:List Rat):run w ⟨[(50,11,true)],[],[]⟩ 50 25 ksum50_nl (sqZ a b xs ys) (sqN a b xs ys 1)=some (.normal,[decide ((↑0:Int)<(xs.length:Int))=true,0<xs.length,0<xs.length,0<ys.length,0<ys.length,2+2<=1000000,1+(2+2)+1<=1000000,yu ((↑0:Int)+1),sD w (.ls (lst a 50 4 xs hkq)),sD w (.ls (lst b 50 4 ys hkq))]++(zV++[yS (W0 w) (.q (yv xs ys 1) (5*1+1)) (.q (0+xs.getD 0 default*ys.getD 0 default) (1+(2+2)+1)),0=0,0=0,eA (ii (xs.length:Int)),ii (↑1:Int)=Value.int IntKind.i64 ((↑0:Int)+1)])):=by kernel_rfl
theorem sqb {w:World}(a b:Nat) (xs ys:List Rat) (i:Nat):run w ⟨[(50,11,true)],[],[]⟩ 50 25 ksum50_nl (sqN a b xs ys i) (sqN a b xs ys (i+1))=some (.normal,[decide ((i:Int)<(xs.length:Int))=true,i<xs.length,i<xs.length,i<ys.length,i<ys.length,2+2<=1000000,5*i+1+(2+2)+1<=1000000,yu ((i:Int)+1),sD w (.ls (lst a 50 4 xs hkq)),sD w (.ls (lst b 50 4 ys hkq))]++(zV++[yS (W0 w) (.q (yv xs ys (i+1)) (5*(i+1)+1)) (.q (yv xs ys i+xs.getD i default*ys.getD i default) (5*i+1+(2+2)+1)),0=0,0=0,eA (ii (xs.length:Int)),ii (↑(i+1):Int)=Value.int IntKind.i64 ((i:Int)+1)])):=by kernel_rfl
theorem sqc0 {w:World}(a b:Nat) (xs ys:List Rat):run w ⟨[(50,11,false)],[],[]⟩ 50 25 ksum50_nl (sqZ a b xs ys) (sqZ a b xs ys)=some (.exit 0,[decide ((↑0:Int)<(xs.length:Int))=false,sD w (.ls (lst a 50 4 xs hkq)),sD w (.ls (lst b 50 4 ys hkq))]++(zV++(zV++[0=0,0=0,eA (ii (xs.length:Int)),eA (ii (↑0:Int))]))):=by kernel_rfl
theorem sqc {w:World}(a b:Nat) (xs ys:List Rat) (i:Nat):run w ⟨[(50,11,false)],[],[]⟩ 50 25 ksum50_nl (sqN a b xs ys i) (sqN a b xs ys i)=some (.exit 0,[decide ((i:Int)<(xs.length:Int))=false,sD w (.ls (lst a 50 4 xs hkq)),sD w (.ls (lst b 50 4 ys hkq))]++(zV++[sD w (.q (yv xs ys i) (5*i+1)),0=0,0=0,eA (ii (xs.length:Int)),eA (ii (i:Int))])):=by kernel_rfl
theorem sqd0 {w:World}(a b:Nat) (xs ys:List Rat):runR w ⟨[],[],[]⟩ 50 25 Tryz.f50 ksum50_nt (sqZ a b xs ys) [pQ 0 1]=some (.ret,[Cc (W0 w) [.cls (.q 0 1)] [.lit (Value.bool false),.lit (Value.int IntKind.u64 0),.lit (Value.int IntKind.u64 0),.lit (Value.pointer none)],ky (W0 w) (.q 0 1)]):=by kernel_rfl
theorem sqd {w:World}(a b:Nat) (xs ys:List Rat) (i:Nat):runR w ⟨[],[],[]⟩ 50 25 Tryz.f50 ksum50_nt (sqN a b xs ys i) [pQ (yv xs ys i) (5*i+1)]=some (.ret,[sD w (.q (yv xs ys i) (5*i+1)),ky (W0 w) (.q (yv xs ys i) (5*i+1))]):=by kernel_rfl
theorem sumq_ok (hN:cP) (a b:Nat) (xs ys:List Rat) (hy:ys.length=xs.length) (hl:xs.length<=1000):kX 50 [pQl a xs,pQl b ys] (fun _=>[pQ (yv xs ys xs.length) (5*xs.length+1)]):=by
 intro w vs hG hp;refine yk hG hN (ex:=[]) cR (fn:=Tryz.f50) Tryz.func50 (c:=codeOf Tryz.f50) (by kernel_rfl) (args:=[pQl a xs,pQl b ys]) (by kernel_rfl) hp (fun hR _ hA=>?_);refine jz (sqa a b xs ys) (hR _ rfl) hA (fun a1 w1 hA=>kQ ?_);refine uj (fun i=>sqS a b xs ys i) (fun i=>i<=xs.length) (fun i=>xs.length-i) (L:=ksum50_n) (ks:=ksum50_nt) (id:=0) (c:=kt ksum50_n) (by kernel_rfl) 0 (zero_le _) hA (fun i a2 w2 hi hA=>?_);rcases eq_false_or_eq_true (decide ((i:Int)<(xs.length:Int))) with q11|q11
 ·have p11:=of_decide_eq_true q11;have hlt:i<xs.length:=by omega
  have hlt':i<ys.length:=by omega
  cases i with
  |zero=>exact jz (sqb0 a b xs ys) (hR _ rfl) hA (fun a3 w3 hA=>ki (by kernel_rfl) ⟨1,by omega,hA,by omega⟩)
  |succ i=>exact jz (sqb a b xs ys (i+1)) (hR _ rfl) hA (fun a3 w3 hA=>ki (by kernel_rfl) ⟨i+1+1,by omega,hA,by omega⟩)
 ·have p11:=of_decide_eq_false q11;have he:i=xs.length:=by omega
  cases i with
  |zero =>
   refine jz (sqc0 a b xs ys) (hR _ rfl) hA (fun a3 w3 hA=>jI _ (by kernel_rfl) ?_);rw[← he];exact jE (sqd0 a b xs ys) (hR _ rfl) hA
  |succ i =>
   refine jz (sqc a b xs ys (i+1)) (hR _ rfl) hA (fun a3 w3 hA=>jI _ (by kernel_rfl) ?_);rw[← he];exact jE (sqd a b xs ys (i+1)) (hR _ rfl) hA
theorem cgQ {lo a b:Nat}{w0:World}{xs ys:List Rat}(hN:cP) (hG:Gr w0) (hlo:lo<=w0.heap.size) (hy:ys.length=xs.length) (hl:xs.length<=1000):cZ (Cx true lo w0) (.call 50) [pQl a xs,pQl b ys] (qr (yv xs ys xs.length) (5*xs.length+1)):=(sumq_ok hN a b xs ys hy hl).num hG hlo (enters_of Tryz.func50 (by kernel_rfl) rfl)
abbrev dtS (a b:Nat) (xs ys:List Rat) (i:Nat):St Dx:=⟨5,[(0,.val (.one (.sym 0 0))),(1,.val (.one (.sym 1 0))),(4,.val (.one (.ptr 2 0))),(5,.val (.one (.ptr 3 0))),(6,.val (.one (.lit (ii (i:Int)))))],[(0,.cls (.ls (lst a 74 3 xs hkr))),(1,.cls (.ls (lst b 74 3 ys hkr))),(2,.blk 74 z3R none),(3,.blk 74 [.sym 4 0,.sym 4 1,.sym 4 2] none),(4,.cls (.rq (yv xs ys i) (5*i+1)))],[]⟩
theorem dta {w:World}(a b:Nat) (xs ys:List Rat):run w ⟨[],[],[]⟩ 22 26 kDot22_ (stA [pRl a xs,pRl b ys]) (dtS a b xs ys 0)=some (.normal,[yu 0,sD w (.ls (lst a 74 3 xs hkr)),sD w (.ls (lst b 74 3 ys hkr)),eA (Value.bool false),eA (Value.slice none 0 0),eA (Value.slice none 0 0),yS (W0 w) (.rq (yv xs ys 0) (5*0+1)) (.rq (↑0:Rat) 1),0=0,0=0,ii (↑0:Int)=Value.int IntKind.i64 0]):=by kernel_rfl
theorem dtb {w:World}(a b:Nat) (xs ys:List Rat) (i:Nat):run w ⟨[(22,11,true)],[],[]⟩ 22 26 kDot22_nl (dtS a b xs ys i) (dtS a b xs ys (i+1))=some (.normal,[decide ((i:Int)<(xs.length:Int))=true,i<xs.length,i<xs.length,i<ys.length,i<ys.length,2+2<=10000,5*i+1+(2+2)+1<=10000,yu ((i:Int)+1),sD w (.ls (lst a 74 3 xs hkr)),sD w (.ls (lst b 74 3 ys hkr)),eA (Value.bool false),eA (Value.slice none 0 0),eA (Value.slice none 0 0),yS (W0 w) (.rq (yv xs ys (i+1)) (5*(i+1)+1)) (.rq (yv xs ys i+xs.getD i default*ys.getD i default) (5*i+1+(2+2)+1)),0=0,0=0,ii (↑(i+1):Int)=Value.int IntKind.i64 ((i:Int)+1)]):=by kernel_rfl
theorem dtc {w:World}(a b:Nat) (xs ys:List Rat) (i:Nat):run w ⟨[(22,11,false)],[],[]⟩ 22 26 kDot22_nl (dtS a b xs ys i) (dtS a b xs ys i)=some (.exit 0,[decide ((i:Int)<(xs.length:Int))=false,sD w (.ls (lst a 74 3 xs hkr)),sD w (.ls (lst b 74 3 ys hkr)),eA (Value.bool false),eA (Value.slice none 0 0),eA (Value.slice none 0 0),sD w (.rq (yv xs ys i) (5*i+1)),0=0,0=0,eA (ii (i:Int))]):=by kernel_rfl
theorem dtd {w:World}(a b:Nat) (xs ys:List Rat) (i:Nat):runR w ⟨[],[],[]⟩ 22 26 Tryz.f22 kDot22_nt (dtS a b xs ys i) [pR (yv xs ys i) (5*i+1)]=some (.ret,[sD w (.rq (yv xs ys i) (5*i+1)),ky (W0 w) (.rq (yv xs ys i) (5*i+1))]):=by kernel_rfl
theorem dot_ok (hN:cP) (a b:Nat) (xs ys:List Rat) (hy:ys.length=xs.length) (hl:xs.length<=1000):kX 22 [pRl a xs,pRl b ys] (fun _=>[pR (yv xs ys xs.length) (5*xs.length+1)]):=by
 intro w vs hG hp;refine yk hG hN (ex:=[]) cR (fn:=Tryz.f22) Tryz.func22 (c:=codeOf Tryz.f22) (by kernel_rfl) (args:=[pRl a xs,pRl b ys]) (by kernel_rfl) hp (fun hR _ hA=>?_);refine jz (dta a b xs ys) (hR _ rfl) hA (fun a1 w1 hA=>kQ ?_);refine uj (fun i=>dtS a b xs ys i) (fun i=>i<=xs.length) (fun i=>xs.length-i) (L:=kDot22_n) (ks:=kDot22_nt) (id:=0) (c:=kt kDot22_n) (by kernel_rfl) 0 (zero_le _) hA (fun i a2 w2 hi hA=>?_);rcases eq_false_or_eq_true (decide ((i:Int)<(xs.length:Int))) with q11|q11
 ·have p11:=of_decide_eq_true q11;have hlt:i<xs.length:=by omega
  have hlt':i<ys.length:=by omega
  exact jz (dtb a b xs ys i) (hR _ rfl) hA (fun a3 w3 hA=>ki (by kernel_rfl) ⟨i+1,by omega,hA,by omega⟩)
 ·have p11:=of_decide_eq_false q11;obtain rfl:i=xs.length:=by omega
  refine jz (dtc a b xs ys xs.length) (hR _ rfl) hA (fun a3 w3 hA=>jI _ (by kernel_rfl) ?_);exact jE (dtd a b xs ys xs.length) (hR _ rfl) hA
theorem dot_ent {lo a b:Nat}{w0:World}{xs ys:List Rat}(hN:cP) (hG:Gr w0) (hlo:lo<=w0.heap.size) (hy:ys.length=xs.length) (hl:xs.length<=1000):cZ (Cx true lo w0) (.call 22) [pRl a xs,pRl b ys] (rr (yv xs ys xs.length) (5*xs.length+1)):=(dot_ok hN a b xs ys hy hl).rnum hG hlo (enters_of Tryz.func22 (by kernel_rfl) rfl)
end Pe
namespace Pe
noncomputable def kRow82_:List Kp:=[.code (codeOf Tryz.f82)]
noncomputable def kRow82_n:List Kp:=next kRow82_
noncomputable def kRow82_nl:List Kp:=[.code (kt kRow82_n)]
noncomputable def kRow82_nt:List Kp:=kRow82_n.tail
noncomputable def kRow47_:List Kp:=[.code (codeOf Tryz.f47)]
noncomputable def kcheck17_:List Kp:=[.code (codeOf Tryz.f17)]
noncomputable def kkeeps18_:List Kp:=[.code (codeOf Tryz.f18)]
noncomputable def kKeeps6_:List Kp:=[.code (codeOf Tryz.f6)]
def lnN (n:Nat) (l:List V2) (i:Nat):Bool:=decide (((l.getD i default).1.length:Int)≠(n:Int))
def brk (l:List V2) (ys:List Rat) (i:Nat):Bool:=decide (uu (yv (l.getD i default).1 ys (l.getD i default).1.length) (l.getD i default).2>0)
def vld (n:Nat) (l:List V2):Bool:=decide (n<=20)&&(decide (l.length<=70)&&!anyP l.length (lnN n l))
theorem cbO {n:Nat}{p:Nat->Bool}(h:anyP n p=false) {i:Nat}(hi:i<n):p i=false:=by
 unfold anyP at h;exact Bool.eq_false_iff.2 (List.any_eq_false.1 h i (List.mem_range.2 hi))
theorem cdk {n:Nat}{l:List V2}(h:vld n l=true):n<=20/\l.length<=70/\∀ i,i<l.length->(l.getD i default).1.length=n:=by
 unfold vld at h;rw[and_eq_true,and_eq_true] at h;obtain⟨h1,h2,h3⟩:=h;have h3:anyP l.length (lnN n l)=false:=by revert h3;cases anyP l.length (lnN n l)<;>simp
 refine⟨of_decide_eq_true h1,of_decide_eq_true h2,fun i hi=>?_⟩;have:=of_decide_eq_false (cbO h3 hi);omega
theorem ix_any {n:Nat}{p:Nat->Bool}:decide (ixP n p>=0)=anyP n p:=ixP_ge
abbrev rowM (lo:Nat) (l:List V2) (g ty:Nat) (gs:List (Grp Dx)):Ws Dx:=[(3,.clo g [] [.one (.fn 2)]),(2,.cp 1 0 1 0),(1,.cls (.ls ⟨0,ty,1,1,fun _=>gs⟩)),(0,.cls (.ls (lst lo 70 5 l (wkq lo))))]
abbrev ixS (lo:Nat) (l:List V2) (g ty:Nat) (gs:List (Grp Dx)):St Dx:=⟨4,[(0,.val (.one (.sym 0 0))),(1,.val (.one (.fn 3)))],rowM lo l g ty gs,[]⟩
abbrev ixJ (lo:Nat) (l:List V2) (g ty:Nat) (gs:List (Grp Dx)) (i:Nat):St Dx:=⟨4,[(0,.val (.one (.sym 0 0))),(1,.val (.one (.fn 3))),(7,.val (.one (.lit (ii (l.length:Int))))),(8,.val (.one (.lit (ii (i:Int)))))],rowM lo l g ty gs,[]⟩
abbrev pck (n:Nat):Pat Dx:=.cap 48 3 1 [.lit (ii (n:Int))]
theorem cka {w:World}(lo:Nat) (l:List V2) (n:Nat):run w ⟨[],[],[]⟩ 82 19 kRow82_ (ixS lo l 48 3 [.lit (ii (n:Int))]) (ixJ lo l 48 3 [.lit (ii (n:Int))] 0)=some (.normal,[0=0,0=0,sD w (.ls { lo:=0,ty:=3,z:=1,n:=1,g:=fun(x:Nat)=>[.lit (ii (n:Int))] }),sD w (.ls (lst lo 70 5 l (wkq lo))),ii (l.length:Int)=goInt (l.length:Int),ii (↑0:Int)=Value.int IntKind.i64 0]):=by kernel_rfl
theorem ckb {w:World}(lo:Nat) (l:List V2) (n:Nat) (i:Nat):run w ⟨[(82,9,true),(48,8,false)],[],[]⟩ 82 19 kRow82_nl (ixJ lo l 48 3 [.lit (ii (n:Int))] i) (ixJ lo l 48 3 [.lit (ii (n:Int))] (i+1))=some (.normal,[decide ((i:Int)<(l.length:Int))=true,i<l.length,i<l.length,0<1,decide ((↑(l.getD i default).1.length:Int)≠(n:Int))=false,yu ((i:Int)+1),0=0,0=0,sD w (.ls { lo:=0,ty:=3,z:=1,n:=1,g:=fun(x:Nat)=>[.lit (ii (n:Int))] }),sD w (.ls (lst lo 70 5 l (wkq lo))),eA (ii (l.length:Int)),ii (↑(i+1):Int)=Value.int IntKind.i64 ((i:Int)+1)]):=by kernel_rfl
theorem ckc {w:World}(lo:Nat) (l:List V2) (n:Nat) (i:Nat):runR w ⟨[(82,9,true),(48,8,true)],[],[]⟩ 82 19 Tryz.f82 kRow82_nl (ixJ lo l 48 3 [.lit (ii (n:Int))] i) (rI (ixP l.length (lnN n l)))=some (.ret,[decide ((i:Int)<(l.length:Int))=true,i<l.length,i<l.length,0<1,decide ((↑(l.getD i default).1.length:Int)≠(n:Int))=true,Value.int IntKind.i64 (ixP l.length (lnN n l))=ii (i:Int)]):=by kernel_rfl
theorem ckd {w:World}(lo:Nat) (l:List V2) (n:Nat) (i:Nat):run w ⟨[(82,9,false)],[],[]⟩ 82 19 kRow82_nl (ixJ lo l 48 3 [.lit (ii (n:Int))] i) (ixJ lo l 48 3 [.lit (ii (n:Int))] i)=some (.exit 0,[decide ((i:Int)<(l.length:Int))=false,0=0,0=0,sD w (.ls { lo:=0,ty:=3,z:=1,n:=1,g:=fun(x:Nat)=>[.lit (ii (n:Int))] }),sD w (.ls (lst lo 70 5 l (wkq lo))),eA (ii (l.length:Int)),eA (ii (i:Int))]):=by kernel_rfl
theorem cke {w:World}(lo:Nat) (l:List V2) (n:Nat) (i:Nat):runR w ⟨[],[],[]⟩ 82 19 Tryz.f82 kRow82_nt (ixJ lo l 48 3 [.lit (ii (n:Int))] i) (rI (ixP l.length (lnN n l)))=some (.ret,[Value.int IntKind.i64 (ixP l.length (lnN n l))=Value.int IntKind.i64 (-1)]):=by kernel_rfl
theorem ckI_ok (hN:cP) (lo:Nat) (l:List V2) (n:Nat) (hl:l.length<=1000):kX 82 [pQw lo l,pck n] (fun _=>rI (ixP l.length (lnN n l))):=by
 intro w vs hG hp;refine caO hG hN (ex:=[]) cR (fn:=Tryz.f82) Tryz.func82 (c:=codeOf Tryz.f82) (by kernel_rfl) (args:=[pQw lo l]) (n0:=1) rfl (by kernel_rfl) hp (fun hR a hA=>?_);have hA:At (W0 w) 19 (ixS lo l 48 3 [.lit (ii (n:Int))]) a w:=hA;refine jz (cka lo l n) (hR _ rfl) hA (fun a w1 hA=>kQ ?_);refine uj (fun i=>ixJ lo l 48 3 [.lit (ii (n:Int))] i) (fun i=>i<=l.length/\∀ k,k<i->(lnN n l) k=false) (fun i=>l.length-i) (L:=kRow82_n) (ks:=kRow82_nt) (id:=0) (c:=kt kRow82_n) (by kernel_rfl) 0 ⟨zero_le _,by omega⟩ hA (fun i a2 w2 hi hA=>?_);rcases eq_false_or_eq_true (decide ((i:Int)<(l.length:Int))) with q9|q9
 ·have p9:=of_decide_eq_true q9;have hlt:i<l.length:=by omega
  rcases eq_false_or_eq_true ((lnN n l) i) with q16|q16
  ·have e0:=congrArg (Value.int .i64) (cbG (n:=l.length) (p:=(lnN n l)) (i:=i) (by omega) q16 hi.2);exact jE (ckc lo l n i) (hR _ rfl) hA
  ·exact jz (ckb lo l n i) (hR _ rfl) hA (fun aT wT hT=>ki (by kernel_rfl) ⟨i+1,⟨by omega,fun k hk=>by rcases Nat.lt_succ_iff_lt_or_eq.1 hk with h|rfl;exact hi.2 k h;exact q16⟩,hT,by omega⟩)
 ·have p9:=of_decide_eq_false q9;refine jz (ckd lo l n i) (hR _ rfl) hA (fun aT wT hT=>jI _ (by kernel_rfl) ?_);have e0:=congrArg (Value.int .i64) (cbx (n:=l.length) (p:=(lnN n l)) fun k hk=>hi.2 k (by omega));exact jE (cke lo l n i) (hR _ rfl) hT
noncomputable abbrev ckX (lo:Nat) (l:List V2) (n:Nat):List (Nat×Con):=[(82,kZ [pQw lo l,pck n] (vr (.int .i64 (ixP l.length (lnN n l)))))]
theorem ckX_ok {lo1 lo:Nat}{w0:World}{l:List V2}{n:Nat}(hN:cP) (hG:Gr w0) (hlo:lo1<=w0.heap.size) (hl:l.length<=1000):yI true lo1 w0 (ckX lo l n):=je (jo ((ckI_ok hN lo l n hl).val hG hlo (enters_of Tryz.func82 (by kernel_rfl) rfl))) cR
theorem ckf {w:World}(lo:Nat) (l:List V2) (n:Nat) (x:Bool):runR w ⟨[(47,8,x)],[],ckX lo l n⟩ 47 9 Tryz.f47 kRow47_ (ixS lo l 48 3 [.lit (ii (n:Int))]) (rB x)=some (.ret,[[Pat.one (Grp.cls (Dx.ls (lst lo 70 5 l (wkq lo)))),Pat.cap 48 3 1 [Grp.lit (ii (n:Int))]]=[pQw lo l,pck n],decide (ixP l.length (lnN n l)>=0)=x,eA (Value.bool x)]):=by kernel_rfl
theorem ckC_ok (hN:cP) (lo:Nat) (l:List V2) (n:Nat) (hl:l.length<=1000):kX 47 [pQw lo l,pck n] (fun _=>rB (anyP l.length (lnN n l))):=by
 intro w vs hG hp;refine caO hG hN (ex:=ckX lo l n) (ckX_ok hN hG (le_refl _) hl) (fn:=Tryz.f47) Tryz.func47 (c:=codeOf Tryz.f47) (by kernel_rfl) (args:=[pQw lo l]) (n0:=1) rfl (by kernel_rfl) hp (fun hR a hA=>?_);have hA:At (W0 w) 9 (ixS lo l 48 3 [.lit (ii (n:Int))]) a w:=hA;have e0:=ix_any (n:=l.length) (p:=(lnN n l));exact jE (ckf lo l n (anyP l.length (lnN n l))) (hR _ rfl) hA
noncomputable abbrev ckY (lo:Nat) (l:List V2) (n:Nat) (x:Bool):List (Nat×Con):=[(47,kZ [pQw lo l,pck n] (vr (.bool x)))]
theorem ckY_ok {lo1 lo:Nat}{w0:World}{l:List V2}{n:Nat}{x:Bool}(hN:cP) (hG:Gr w0) (hlo:lo1<=w0.heap.size) (hl:l.length<=1000) (hx:anyP l.length (lnN n l)=x):yI true lo1 w0 (ckY lo l n x):=by
 subst hx;exact je (jo ((ckC_ok hN lo l n hl).val hG hlo (enters_of Tryz.func47 (by kernel_rfl) rfl))) cR
noncomputable abbrev exD (lo b:Nat) (l:List V2) (ys:List Rat) (i:Nat):List (Nat×Con):=[(50,kZ [pQl lo (l.getD i default).1,pQl b ys] (qr (yv (l.getD i default).1 ys (l.getD i default).1.length) (5*(l.getD i default).1.length+1)))]
theorem exD_ok {lo1 lo b:Nat}{w0:World}{l:List V2}{ys:List Rat}{i:Nat}(hN:cP) (hG:Gr w0) (hlo:lo1<=w0.heap.size) (hw:(l.getD i default).1.length=ys.length) (hy:ys.length<=1000):yI true lo1 w0 (exD lo b l ys i):=je (jo (cgQ hN hG hlo hw.symm (by omega))) cR
abbrev pkp (b:Nat) (ys:List Rat):Pat Dx:=.cap 49 31 1 [.cls (.ls (lst b 50 4 ys hkq))]
theorem kpa {w:World}(lo:Nat) (l:List V2) (b:Nat) (ys:List Rat):run w ⟨[],[],[]⟩ 82 19 kRow82_ (ixS lo l 49 31 [.cls (.ls (lst b 50 4 ys hkq))]) (ixJ lo l 49 31 [.cls (.ls (lst b 50 4 ys hkq))] 0)=some (.normal,[0=0,0=0,sD w (.ls { lo:=0,ty:=31,z:=1,n:=1,g:=fun(x:Nat)=>[.cls (.ls (lst b 50 4 ys hkq))] }),sD w (.ls (lst lo 70 5 l (wkq lo))),ii (l.length:Int)=goInt (l.length:Int),ii (↑0:Int)=Value.int IntKind.i64 0]):=by kernel_rfl
theorem kpb {w:World}(lo:Nat) (l:List V2) (b:Nat) (ys:List Rat) (i:Nat):run w ⟨[(82,9,true),(49,11,false)],[],(exD lo b l ys i)⟩ 82 19 kRow82_nl (ixJ lo l 49 31 [.cls (.ls (lst b 50 4 ys hkq))] i) (ixJ lo l 49 31 [.cls (.ls (lst b 50 4 ys hkq))] (i+1))=some (.normal,[decide ((i:Int)<(l.length:Int))=true,i<l.length,i<l.length,0<1,[Pat.one (Grp.cls (Dx.ls (lst lo 50 4 (l.getD i default).1 hkq))),Pat.one (Grp.cls (Dx.ls (lst b 50 4 ys hkq)))]=[pQl lo (l.getD i default).1,pQl b ys],5*(l.getD i default).1.length+1+2<=1000000,decide (uu (yv (l.getD i default).1 ys (l.getD i default).1.length) (l.getD i default).2>0)=false,yu ((i:Int)+1),0=0,0=0,sD w (.ls { lo:=0,ty:=31,z:=1,n:=1,g:=fun(x:Nat)=>[.cls (.ls (lst b 50 4 ys hkq))] }),sD w (.ls (lst lo 70 5 l (wkq lo))),eA (ii (l.length:Int)),ii (↑(i+1):Int)=Value.int IntKind.i64 ((i:Int)+1)]):=by kernel_rfl
theorem kpc {w:World}(lo:Nat) (l:List V2) (b:Nat) (ys:List Rat) (i:Nat):runR w ⟨[(82,9,true),(49,11,true)],[],(exD lo b l ys i)⟩ 82 19 Tryz.f82 kRow82_nl (ixJ lo l 49 31 [.cls (.ls (lst b 50 4 ys hkq))] i) (rI (ixP l.length (brk l ys)))=some (.ret,[decide ((i:Int)<(l.length:Int))=true,i<l.length,i<l.length,0<1,[Pat.one (Grp.cls (Dx.ls (lst lo 50 4 (l.getD i default).1 hkq))),Pat.one (Grp.cls (Dx.ls (lst b 50 4 ys hkq)))]=[pQl lo (l.getD i default).1,pQl b ys],5*(l.getD i default).1.length+1+2<=1000000,decide (uu (yv (l.getD i default).1 ys (l.getD i default).1.length) (l.getD i default).2>0)=true,Value.int IntKind.i64 (ixP l.length (brk l ys))=ii (i:Int)]):=by kernel_rfl
theorem kpd {w:World}(lo:Nat) (l:List V2) (b:Nat) (ys:List Rat) (i:Nat):run w ⟨[(82,9,false)],[],[]⟩ 82 19 kRow82_nl (ixJ lo l 49 31 [.cls (.ls (lst b 50 4 ys hkq))] i) (ixJ lo l 49 31 [.cls (.ls (lst b 50 4 ys hkq))] i)=some (.exit 0,[decide ((i:Int)<(l.length:Int))=false,0=0,0=0,sD w (.ls { lo:=0,ty:=31,z:=1,n:=1,g:=fun(x:Nat)=>[.cls (.ls (lst b 50 4 ys hkq))] }),sD w (.ls (lst lo 70 5 l (wkq lo))),eA (ii (l.length:Int)),eA (ii (i:Int))]):=by kernel_rfl
theorem kpe {w:World}(lo:Nat) (l:List V2) (b:Nat) (ys:List Rat) (i:Nat):runR w ⟨[],[],[]⟩ 82 19 Tryz.f82 kRow82_nt (ixJ lo l 49 31 [.cls (.ls (lst b 50 4 ys hkq))] i) (rI (ixP l.length (brk l ys)))=some (.ret,[Value.int IntKind.i64 (ixP l.length (brk l ys))=Value.int IntKind.i64 (-1)]):=by kernel_rfl
theorem kpI_ok (hN:cP) (lo:Nat) (l:List V2) (b:Nat) (ys:List Rat) (hl:l.length<=1000) (hw:∀ i,i<l.length->(l.getD i default).1.length=ys.length) (hy:ys.length<=1000):kX 82 [pQw lo l,pkp b ys] (fun _=>rI (ixP l.length (brk l ys))):=by
 intro w vs hG hp;refine caO hG hN (ex:=[]) cR (fn:=Tryz.f82) Tryz.func82 (c:=codeOf Tryz.f82) (by kernel_rfl) (args:=[pQw lo l]) (n0:=1) rfl (by kernel_rfl) hp (fun hR a hA=>?_);have hA:At (W0 w) 19 (ixS lo l 49 31 [.cls (.ls (lst b 50 4 ys hkq))]) a w:=hA;refine jz (kpa lo l b ys) (hR _ rfl) hA (fun a w1 hA=>kQ ?_);refine uj (fun i=>ixJ lo l 49 31 [.cls (.ls (lst b 50 4 ys hkq))] i) (fun i=>i<=l.length/\∀ k,k<i->(brk l ys) k=false) (fun i=>l.length-i) (L:=kRow82_n) (ks:=kRow82_nt) (id:=0) (c:=kt kRow82_n) (by kernel_rfl) 0 ⟨zero_le _,by omega⟩ hA (fun i a2 w2 hi hA=>?_);rcases eq_false_or_eq_true (decide ((i:Int)<(l.length:Int))) with q9|q9
 ·have p9:=of_decide_eq_true q9;have hlt:i<l.length:=by omega
  have hwi:=hw i hlt;rcases eq_false_or_eq_true ((brk l ys) i) with q16|q16
  ·have e0:=congrArg (Value.int .i64) (cbG (n:=l.length) (p:=(brk l ys)) (i:=i) (by omega) q16 hi.2);exact jE (kpc lo l b ys i) (jS hG hN (exD_ok hN hG (le_refl _) (hw i hlt) hy) _ rfl) hA
  ·exact jz (kpb lo l b ys i) (jS hG hN (exD_ok hN hG (le_refl _) (hw i hlt) hy) _ rfl) hA (fun aT wT hT=>ki (by kernel_rfl) ⟨i+1,⟨by omega,fun k hk=>by rcases Nat.lt_succ_iff_lt_or_eq.1 hk with h|rfl;exact hi.2 k h;exact q16⟩,hT,by omega⟩)
 ·have p9:=of_decide_eq_false q9;refine jz (kpd lo l b ys i) (hR _ rfl) hA (fun aT wT hT=>jI _ (by kernel_rfl) ?_);have e0:=congrArg (Value.int .i64) (cbx (n:=l.length) (p:=(brk l ys)) fun k hk=>hi.2 k (by omega));exact jE (kpe lo l b ys i) (hR _ rfl) hT
noncomputable abbrev kpX (lo:Nat) (l:List V2) (b:Nat) (ys:List Rat):List (Nat×Con):=[(82,kZ [pQw lo l,pkp b ys] (vr (.int .i64 (ixP l.length (brk l ys)))))]
theorem kpX_ok {lo1 lo:Nat}{w0:World}{l:List V2}{b:Nat}{ys:List Rat}(hN:cP) (hG:Gr w0) (hlo:lo1<=w0.heap.size) (hl:l.length<=1000) (hw:∀ i,i<l.length->(l.getD i default).1.length=ys.length) (hy:ys.length<=1000):yI true lo1 w0 (kpX lo l b ys):=je (jo ((kpI_ok hN lo l b ys hl hw hy).val hG hlo (enters_of Tryz.func82 (by kernel_rfl) rfl))) cR
theorem kpf {w:World}(lo:Nat) (l:List V2) (b:Nat) (ys:List Rat) (x:Bool):runR w ⟨[(47,8,x)],[],kpX lo l b ys⟩ 47 9 Tryz.f47 kRow47_ (ixS lo l 49 31 [.cls (.ls (lst b 50 4 ys hkq))]) (rB x)=some (.ret,[[Pat.one (Grp.cls (Dx.ls (lst lo 70 5 l (wkq lo)))),Pat.cap 49 31 1 [Grp.cls (Dx.ls (lst b 50 4 ys hkq))]]=[pQw lo l,pkp b ys],decide (ixP l.length (brk l ys)>=0)=x,eA (Value.bool x)]):=by kernel_rfl
theorem kpC_ok (hN:cP) (lo:Nat) (l:List V2) (b:Nat) (ys:List Rat) (hl:l.length<=1000) (hw:∀ i,i<l.length->(l.getD i default).1.length=ys.length) (hy:ys.length<=1000):kX 47 [pQw lo l,pkp b ys] (fun _=>rB (anyP l.length (brk l ys))):=by
 intro w vs hG hp;refine caO hG hN (ex:=kpX lo l b ys) (kpX_ok hN hG (le_refl _) hl hw hy) (fn:=Tryz.f47) Tryz.func47 (c:=codeOf Tryz.f47) (by kernel_rfl) (args:=[pQw lo l]) (n0:=1) rfl (by kernel_rfl) hp (fun hR a hA=>?_);have hA:At (W0 w) 9 (ixS lo l 49 31 [.cls (.ls (lst b 50 4 ys hkq))]) a w:=hA;have e0:=ix_any (n:=l.length) (p:=(brk l ys));exact jE (kpf lo l b ys (anyP l.length (brk l ys))) (hR _ rfl) hA
noncomputable abbrev kpY (lo:Nat) (l:List V2) (b:Nat) (ys:List Rat) (x:Bool):List (Nat×Con):=[(47,kZ [pQw lo l,pkp b ys] (vr (.bool x)))]
theorem kpY_ok {lo1 lo:Nat}{w0:World}{l:List V2}{b:Nat}{ys:List Rat}{x:Bool}(hN:cP) (hG:Gr w0) (hlo:lo1<=w0.heap.size) (hl:l.length<=1000) (hw:∀ i,i<l.length->(l.getD i default).1.length=ys.length) (hy:ys.length<=1000) (hx:anyP l.length (brk l ys)=x):yI true lo1 w0 (kpY lo l b ys x):=by
 subst hx;exact je (jo ((kpC_ok hN lo l b ys hl hw hy).val hG hlo (enters_of Tryz.func47 (by kernel_rfl) rfl))) cR
abbrev erK (b:Bool):Int:=match b with
 |true=>0
 |false=>2
theorem vld_no1 {n:Nat}{l:List V2}(h:¬ n<=20):vld n l=false:=by unfold vld;rw[decide_eq_false h];rfl
theorem vld_no2 {n:Nat}{l:List V2}(h:¬ l.length<=70):vld n l=false:=by unfold vld;rw[decide_eq_false h];simp
theorem vld_any {n:Nat}{l:List V2}(h1:n<=20) (h2:l.length<=70):vld n l=!anyP l.length (lnN n l):=by unfold vld;rw[decide_eq_true h1,decide_eq_true h2];rfl
theorem lkA {w:World}(lo:Nat) (l:List V2) (n:Nat):runR w ⟨[(17,6,false),(17,9,true)],[],[]⟩ 17 19 Tryz.f17 kcheck17_ (stA [pQw lo l,pI n]) (rI 2)=some (.ret,[0<1,decide ((n:Int)<0)=false,0<1,decide ((n:Int)>20)=true,eA (Value.int IntKind.i64 2)]):=by kernel_rfl
theorem lkB {w:World}(lo:Nat) (l:List V2) (n:Nat):runR w ⟨[(17,6,false),(17,9,false),(17,14,true)],[],[]⟩ 17 19 Tryz.f17 kcheck17_ (stA [pQw lo l,pI n]) (rI 2)=some (.ret,[0<1,decide ((n:Int)<0)=false,0<1,decide ((n:Int)>20)=false,decide ((l.length:Int)>70)=true,eA (Value.int IntKind.i64 2)]):=by kernel_rfl
theorem lkC {w:World}(lo:Nat) (l:List V2) (n:Nat):runR w ⟨[(17,6,false),(17,9,false),(17,14,false)],[],ckY lo l n true⟩ 17 19 Tryz.f17 kcheck17_ (stA [pQw lo l,pI n]) (rI 2)=some (.ret,[0<1,decide ((n:Int)<0)=false,0<1,decide ((n:Int)>20)=false,decide ((l.length:Int)>70)=false,[Pat.one (Grp.cls (Dx.ls (lst lo 70 5 l (wkq lo)))),Pat.cap 48 3 (A1.one (AC.lit (Value.int IntKind.i64 (n:Int)))).cells.length [Grp.lit (Value.int IntKind.i64 (n:Int))]]=[pQw lo l,pck n],eA (Value.int IntKind.i64 2)]):=by kernel_rfl
theorem lkD {w:World}(lo:Nat) (l:List V2) (n:Nat):runR w ⟨[(17,6,false),(17,9,false),(17,14,false)],[],ckY lo l n false⟩ 17 19 Tryz.f17 kcheck17_ (stA [pQw lo l,pI n]) (rI 0)=some (.ret,[0<1,decide ((n:Int)<0)=false,0<1,decide ((n:Int)>20)=false,decide ((l.length:Int)>70)=false,[Pat.one (Grp.cls (Dx.ls (lst lo 70 5 l (wkq lo)))),Pat.cap 48 3 (A1.one (AC.lit (Value.int IntKind.i64 (n:Int)))).cells.length [Grp.lit (Value.int IntKind.i64 (n:Int))]]=[pQw lo l,pck n],eA (Value.int IntKind.i64 0)]):=by kernel_rfl
theorem cfj (hN:cP) (a:Nat) (l:List V2) (n:Nat) (hl:l.length<=1000) (hn:n<=1000):kX 17 [pQw a l,pI n] (fun _=>rI (erK (vld n l))):=by
 intro w vs hG hp;refine yk hG hN (ex:=[]) cR (fn:=Tryz.f17) Tryz.func17 (c:=codeOf Tryz.f17) (by kernel_rfl) (args:=[pQw a l,pI n]) (by kernel_rfl) hp (fun hR _ hA=>?_);have d0:decide ((n:Int)<0)=false:=decide_eq_false (by omega);by_cases h1:n<=20
 ·have d1:decide ((n:Int)>20)=false:=decide_eq_false (by omega);by_cases h2:l.length<=70
  ·have d2:decide ((l.length:Int)>70)=false:=decide_eq_false (by omega);rw[vld_any h1 h2];cases hx:anyP l.length (lnN n l) with
   |true=>exact jE (lkC a l n) (jS hG hN (ckY_ok hN hG (le_refl _) hl hx) _ rfl) hA
   |false=>exact jE (lkD a l n) (jS hG hN (ckY_ok hN hG (le_refl _) hl hx) _ rfl) hA
  ·rw[vld_no2 h2];exact jE (lkB a l n) (hR _ rfl) hA
 ·rw[vld_no1 h1];exact jE (lkA a l n) (hR _ rfl) hA
theorem lkE {w:World}(a b:Nat) (l:List V2) (ys:List Rat) (x:Bool):runR w ⟨[],[],kpY a l b ys x⟩ 18 9 Tryz.f18 kkeeps18_ (stA [pQw a l,pQl b ys]) (rB (!x))=some (.ret,[[Pat.one (Grp.cls (Dx.ls (lst a 70 5 l (wkq a)))),Pat.cap 49 31 (A1.one (AC.sym (0+1) 0)).cells.length [Grp.cls (Dx.ls (lst b 50 4 ys hkq))]]=[pQw a l,pkp b ys],(Value.bool !x)=Value.bool !x]):=by kernel_rfl
theorem chK (hN:cP) (a b:Nat) (l:List V2) (ys:List Rat) (hl:l.length<=1000) (hw:∀ i,i<l.length->(l.getD i default).1.length=ys.length) (hy:ys.length<=1000):kX 18 [pQw a l,pQl b ys] (fun _=>rB (!anyP l.length (brk l ys))):=by
 intro w vs hG hp;refine yk hG hN (ex:=[]) cR (fn:=Tryz.f18) Tryz.func18 (c:=codeOf Tryz.f18) (by kernel_rfl) (args:=[pQw a l,pQl b ys]) (by kernel_rfl) hp (fun hR _ hA=>?_);exact jE (lkE a b l ys (anyP l.length (brk l ys))) (jS hG hN (kpY_ok hN hG (le_refl _) hl hw hy rfl) _ rfl) hA
noncomputable abbrev exKc (a b:Nat) (l:List V2) (ys:List Rat) (e:Int):List (Nat×Con):=[(17,kZ [pQw a l,pI ys.length] (vr (.int .i64 e)))]
noncomputable abbrev exKk (a b:Nat) (l:List V2) (ys:List Rat) (k:Bool):List (Nat×Con):=(18,kZ [pQw a l,pQl b ys] (vr (.bool k)))::exKc a b l ys 0
theorem ceA {lo a b:Nat}{w0:World}{l:List V2}{ys:List Rat}{e:Int}(hN:cP) (hG:Gr w0) (hlo:lo<=w0.heap.size) (hl:l.length<=1000) (hy:ys.length<=1000) (he:erK (vld ys.length l)=e):yI true lo w0 (exKc a b l ys e):=by
 subst he;exact je (jo ((cfj hN a l ys.length hl hy).val hG hlo (enters_of Tryz.func17 (by kernel_rfl) rfl))) cR
theorem exKk_ok {lo a b:Nat}{w0:World}{l:List V2}{ys:List Rat}(hN:cP) (hG:Gr w0) (hlo:lo<=w0.heap.size) (hv:vld ys.length l=true):yI true lo w0 (exKk a b l ys (!anyP l.length (brk l ys))):=by
 obtain⟨h1,h2,h3⟩:=cdk hv;exact je (jo ((chK hN a b l ys (by omega) h3 (by omega)).val hG hlo (enters_of Tryz.func18 (by kernel_rfl) rfl))) (ceA (b:=b) hN hG hlo (by omega) (by omega) (by rw[hv]))
theorem lkF {w:World}(a b:Nat) (l:List V2) (ys:List Rat):runR w ⟨[(6,12,true)],[],exKc a b l ys 2⟩ 6 17 Tryz.f6 kKeeps6_ (stA [pQw a l,pQl b ys]) [.one (.lit (.bool false)),pI 2]=some (.ret,[[Pat.one (Grp.cls (Dx.ls (lst a 70 5 l (wkq a)))),Pat.one (Grp.lit (goInt (ys.length:Int)))]=[pQw a l,pI (ys.length:Int)],decide (2≠0)=true,eA (Value.bool false),eA (Value.int IntKind.i64 2)]):=by kernel_rfl
theorem lkG {w:World}(a b:Nat) (l:List V2) (ys:List Rat) (k:Bool):runR w ⟨[(6,12,false)],[],exKk a b l ys k⟩ 6 17 Tryz.f6 kKeeps6_ (stA [pQw a l,pQl b ys]) [.one (.lit (.bool k)),pI 0]=some (.ret,[[Pat.one (Grp.cls (Dx.ls (lst a 70 5 l (wkq a)))),Pat.one (Grp.lit (goInt (ys.length:Int)))]=[pQw a l,pI (ys.length:Int)],decide (0≠0)=false,[Pat.one (Grp.cls (Dx.ls (lst a 70 5 l (wkq a)))),Pat.one (Grp.cls (Dx.ls (lst b 50 4 ys hkq)))]=[pQw a l,pQl b ys],eA (Value.bool k),eA (Value.int IntKind.i64 0)]):=by kernel_rfl
theorem chp (hN:cP) (a b:Nat) (l:List V2) (ys:List Rat) (hl:l.length<=1000) (hy:ys.length<=1000) (hv:vld ys.length l=false):kX 6 [pQw a l,pQl b ys] (fun _=>[.one (.lit (.bool false)),pI 2]):=by
 intro w vs hG hp;refine yk hG hN (ex:=[]) cR (fn:=Tryz.f6) Tryz.func6 (c:=codeOf Tryz.f6) (by kernel_rfl) (args:=[pQw a l,pQl b ys]) (by kernel_rfl) hp (fun hR _ hA=>?_);exact jE (lkF a b l ys) (jS hG hN (ceA (b:=b) hN hG (le_refl _) hl hy (by rw[hv])) _ rfl) hA
theorem chI (hN:cP) (a b:Nat) (l:List V2) (ys:List Rat) (hv:vld ys.length l=true):kX 6 [pQw a l,pQl b ys] (fun _=>[.one (.lit (.bool (!anyP l.length (brk l ys)))),pI 0]):=by
 intro w vs hG hp;refine yk hG hN (ex:=[]) cR (fn:=Tryz.f6) Tryz.func6 (c:=codeOf Tryz.f6) (by kernel_rfl) (args:=[pQw a l,pQl b ys]) (by kernel_rfl) hp (fun hR _ hA=>?_);have hy:=(cdk hv).1;exact jE (lkG a b l ys (!anyP l.length (brk l ys))) (jS hG hN (exKk_ok hN hG (le_refl _) hv) _ rfl) hA
end Pe
namespace Pe
noncomputable def kValid11_:List Kp:=[.code (codeOf Tryz.f11)]
noncomputable def kValid11_n:List Kp:=next kValid11_
noncomputable def kValid11_nl:List Kp:=[.code (kt kValid11_n)]
noncomputable def kValid11_nt:List Kp:=kValid11_n.tail
noncomputable def kKeeps12_:List Kp:=[.code (codeOf Tryz.f12)]
noncomputable def kKeeps12_n:List Kp:=next kKeeps12_
noncomputable def kKeeps12_nl:List Kp:=[.code (kt kKeeps12_n)]
noncomputable def kKeeps12_nt:List Kp:=kKeeps12_n.tail
noncomputable def klong4_:List Kp:=[.code (codeOf Tryz.f4)]
noncomputable def klong4_n:List Kp:=next klong4_
noncomputable def klong4_nl:List Kp:=[.code (kt klong4_n)]
noncomputable def klong4_nt:List Kp:=klong4_n.tail
abbrev pPr (a b:Nat) (ys:List Rat) (l:List V2):Pat Dx:=.agg [.cls (.ls (lst a 74 3 ys hkr)),.cls (.ls (lst b 77 4 l (wkr b)))]
abbrev vaJ (a b:Nat) (ys:List Rat) (l:List V2) (i:Nat):St Dx:=⟨3,[(1,.val (.one (.ptr 2 0))),(3,.val (.one (.lit (ii (i:Int)))))],[(0,.cls (.ls (lst a 74 3 ys hkr))),(1,.cls (.ls (lst b 77 4 l (wkr b)))),(2,.blk 38 [.sym 0 0,.sym 1 0] none)],[]⟩
theorem vaa {w:World}(a b:Nat) (ys:List Rat) (l:List V2):run w ⟨[],[],[]⟩ 11 32 kValid11_ (stA [pPr a b ys l]) (vaJ a b ys l 0)=some (.normal,[sD w (.ls (lst a 74 3 ys hkr)),sD w (.ls (lst b 77 4 l (wkr b))),0=0,ii (↑0:Int)=Value.int IntKind.i64 0]):=by kernel_rfl
theorem vab {w:World}(a b:Nat) (ys:List Rat) (l:List V2) (i:Nat):run w ⟨[(11,8,true),(11,21,false)],[],[]⟩ 11 32 kValid11_nl (vaJ a b ys l i) (vaJ a b ys l (i+1))=some (.normal,[decide ((i:Int)<(l.length:Int))=true,i<l.length,i<l.length,decide ((↑(l.getD i default).1.length:Int)≠(ys.length:Int))=false,yu ((i:Int)+1),sD w (.ls (lst a 74 3 ys hkr)),sD w (.ls (lst b 77 4 l (wkr b))),0=0,ii (↑(i+1):Int)=Value.int IntKind.i64 ((i:Int)+1)]):=by kernel_rfl
theorem vac {w:World}(a b:Nat) (ys:List Rat) (l:List V2) (i:Nat):runR w ⟨[(11,8,true),(11,21,true)],[],[]⟩ 11 32 Tryz.f11 kValid11_nl (vaJ a b ys l i) (rB false)=some (.ret,[decide ((i:Int)<(l.length:Int))=true,i<l.length,i<l.length,decide ((↑(l.getD i default).1.length:Int)≠(ys.length:Int))=true,eA (Value.bool false)]):=by kernel_rfl
theorem vad {w:World}(a b:Nat) (ys:List Rat) (l:List V2) (i:Nat):run w ⟨[(11,8,false)],[],[]⟩ 11 32 kValid11_nl (vaJ a b ys l i) (vaJ a b ys l i)=some (.exit 0,[decide ((i:Int)<(l.length:Int))=false,sD w (.ls (lst a 74 3 ys hkr)),sD w (.ls (lst b 77 4 l (wkr b))),0=0,eA (ii (i:Int))]):=by kernel_rfl
theorem vae {w:World}(a b:Nat) (ys:List Rat) (l:List V2) (i:Nat):runR w ⟨[(11,25,false)],[],[]⟩ 11 32 Tryz.f11 kValid11_nt (vaJ a b ys l i) (rB false)=some (.ret,[decide ((ys.length:Int)<=20)=false,eA (Value.bool false)]):=by kernel_rfl
theorem vaf {w:World}(a b:Nat) (ys:List Rat) (l:List V2) (i:Nat) (x:Bool):runR w ⟨[(11,25,true),(11,30,x)],[],[]⟩ 11 32 Tryz.f11 kValid11_nt (vaJ a b ys l i) (rB x)=some (.ret,[decide ((ys.length:Int)<=20)=true,decide ((l.length:Int)<=70)=x,eA (Value.bool x)]):=by kernel_rfl
theorem vld_len {n:Nat}{l:List V2}{i:Nat}(hi:i<l.length) (h:lnN n l i=true):vld n l=false:=by
 unfold vld;rw[KC hi h];simp
theorem vld_all {n:Nat}{l:List V2}(h:∀ i,i<l.length->lnN n l i=false):vld n l=(decide (n<=20)&&decide (l.length<=70)):=by
 unfold vld;rw[JI h];simp
theorem dec_int {a b:Nat}:decide ((a:Int)<=(b:Int))=decide (a<=b):=by
 rw[decide_eq_decide];omega
theorem cgI (hN:cP) (a b:Nat) (ys:List Rat) (l:List V2) (hl:l.length<=1000) (hy:ys.length<=1000):kX 11 [pPr a b ys l] (fun _=>rB (vld ys.length l)):=by
 intro w vs hG hp;refine yk hG hN (ex:=[]) cR (fn:=Tryz.f11) Tryz.func11 (c:=codeOf Tryz.f11) (by kernel_rfl) (args:=[pPr a b ys l]) (by kernel_rfl) hp (fun hR _ hA=>?_);refine jz (vaa a b ys l) (hR _ rfl) hA (fun a1 w1 hA=>kQ ?_);refine uj (fun i=>vaJ a b ys l i) (fun i=>i<=l.length/\∀ k,k<i->lnN ys.length l k=false) (fun i=>l.length-i) (L:=kValid11_n) (ks:=kValid11_nt) (id:=0) (c:=kt kValid11_n) (by kernel_rfl) 0 ⟨zero_le _,by omega⟩ hA (fun i a2 w2 hi hA=>?_);rcases eq_false_or_eq_true (decide ((i:Int)<(l.length:Int))) with q9|q9
 ·have p9:=of_decide_eq_true q9;have hlt:i<l.length:=by omega
  rcases eq_false_or_eq_true (lnN ys.length l i) with q16|q16
  ·rw[vld_len hlt q16];exact jE (vac a b ys l i) (hR _ rfl) hA
  ·exact jz (vab a b ys l i) (hR _ rfl) hA (fun aT wT hT=>ki (by kernel_rfl) ⟨i+1,⟨by omega,fun k hk=>by rcases Nat.lt_succ_iff_lt_or_eq.1 hk with h|rfl;exact hi.2 k h;exact q16⟩,hT,by omega⟩)
 ·have p9:=of_decide_eq_false q9;rw[vld_all fun k hk=>hi.2 k (by omega)];refine jz (vad a b ys l i) (hR _ rfl) hA (fun aT wT hT=>jI _ (by kernel_rfl) ?_);by_cases h1:ys.length<=20
  ·have d1:decide ((ys.length:Int)<=20)=true:=decide_eq_true (by omega);rw[decide_eq_true h1,Bool.true_and];have d2:decide ((l.length:Int)<=70)=decide (l.length<=70):=dec_int;exact jE (vaf a b ys l i (decide (l.length<=70))) (hR _ rfl) hT
  ·have d1:decide ((ys.length:Int)<=20)=false:=decide_eq_false (by omega);rw[decide_eq_false h1,Bool.false_and];exact jE (vae a b ys l i) (hR _ rfl) hT
noncomputable abbrev exE (a b:Nat) (l:List V2) (ys:List Rat) (i:Nat):List (Nat×Con):=[(22,kZ [pRl b (l.getD i default).1,pRl a ys] (rr (yv (l.getD i default).1 ys (l.getD i default).1.length) (5*(l.getD i default).1.length+1)))]
theorem exE_ok {lo a b:Nat}{w0:World}{l:List V2}{ys:List Rat}{i:Nat}(hN:cP) (hG:Gr w0) (hlo:lo<=w0.heap.size) (hw:(l.getD i default).1.length=ys.length) (hy:ys.length<=1000):yI true lo w0 (exE a b l ys i):=je (jo (dot_ent hN hG hlo hw.symm (by omega))) cR
abbrev keJ (a b:Nat) (l:List V2) (ys:List Rat) (i:Nat):St Dx:=⟨2,[(0,.val (.one (.sym 0 0))),(1,.val (.one (.sym 1 0))),(5,.val (.one (.lit (ii (i:Int)))))],[(0,.cls (.ls (lst b 77 4 l (wkr b)))),(1,.cls (.ls (lst a 74 3 ys hkr)))],[]⟩
theorem kea {w:World}(a b:Nat) (l:List V2) (ys:List Rat):run w ⟨[],[],[]⟩ 12 26 kKeeps12_ (stA [pRw b l,pRl a ys]) (keJ a b l ys 0)=some (.normal,[sD w (.ls (lst b 77 4 l (wkr b))),sD w (.ls (lst a 74 3 ys hkr)),ii (↑0:Int)=Value.int IntKind.i64 0]):=by kernel_rfl
theorem keb {w:World}(a b:Nat) (l:List V2) (ys:List Rat) (i:Nat):run w ⟨[(12,9,true),(12,25,false)],[],exE a b l ys i⟩ 12 26 kKeeps12_nl (keJ a b l ys i) (keJ a b l ys (i+1))=some (.normal,[decide ((i:Int)<(l.length:Int))=true,i<l.length,i<l.length,[Pat.one (Grp.cls (Dx.ls (lst b 74 3 (l.getD i default).1 hkr))),Pat.one (Grp.cls (Dx.ls (lst a 74 3 ys hkr)))]=[pRl b (l.getD i default).1,pRl a ys],i<l.length,i<l.length,5*(l.getD i default).1.length+1+2<=10000,decide (uu (yv (l.getD i default).1 ys (l.getD i default).1.length) (l.getD i default).2>0)=false,yu ((i:Int)+1),sD w (.ls (lst b 77 4 l (wkr b))),sD w (.ls (lst a 74 3 ys hkr)),ii (↑(i+1):Int)=Value.int IntKind.i64 ((i:Int)+1)]):=by kernel_rfl
theorem kec {w:World}(a b:Nat) (l:List V2) (ys:List Rat) (i:Nat):runR w ⟨[(12,9,true),(12,25,true)],[],exE a b l ys i⟩ 12 26 Tryz.f12 kKeeps12_nl (keJ a b l ys i) (rB false)=some (.ret,[decide ((i:Int)<(l.length:Int))=true,i<l.length,i<l.length,[Pat.one (Grp.cls (Dx.ls (lst b 74 3 (l.getD i default).1 hkr))),Pat.one (Grp.cls (Dx.ls (lst a 74 3 ys hkr)))]=[pRl b (l.getD i default).1,pRl a ys],i<l.length,i<l.length,5*(l.getD i default).1.length+1+2<=10000,decide (uu (yv (l.getD i default).1 ys (l.getD i default).1.length) (l.getD i default).2>0)=true,eA (Value.bool false)]):=by kernel_rfl
theorem ked {w:World}(a b:Nat) (l:List V2) (ys:List Rat) (i:Nat):run w ⟨[(12,9,false)],[],[]⟩ 12 26 kKeeps12_nl (keJ a b l ys i) (keJ a b l ys i)=some (.exit 0,[decide ((i:Int)<(l.length:Int))=false,sD w (.ls (lst b 77 4 l (wkr b))),sD w (.ls (lst a 74 3 ys hkr)),eA (ii (i:Int))]):=by kernel_rfl
theorem kee {w:World}(a b:Nat) (l:List V2) (ys:List Rat) (i:Nat):runR w ⟨[],[],[]⟩ 12 26 Tryz.f12 kKeeps12_nt (keJ a b l ys i) (rB true)=some (.ret,[eA (Value.bool true)]):=by kernel_rfl
theorem cfO (hN:cP) (a b:Nat) (l:List V2) (ys:List Rat) (hl:l.length<=1000) (hw:∀ i,i<l.length->(l.getD i default).1.length=ys.length) (hy:ys.length<=1000):kX 12 [pRw b l,pRl a ys] (fun _=>rB (!anyP l.length (brk l ys))):=by
 intro w vs hG hp;refine yk hG hN (ex:=[]) cR (fn:=Tryz.f12) Tryz.func12 (c:=codeOf Tryz.f12) (by kernel_rfl) (args:=[pRw b l,pRl a ys]) (by kernel_rfl) hp (fun hR _ hA=>?_);refine jz (kea a b l ys) (hR _ rfl) hA (fun a1 w1 hA=>kQ ?_);refine uj (fun i=>keJ a b l ys i) (fun i=>i<=l.length/\∀ k,k<i->brk l ys k=false) (fun i=>l.length-i) (L:=kKeeps12_n) (ks:=kKeeps12_nt) (id:=0) (c:=kt kKeeps12_n) (by kernel_rfl) 0 ⟨zero_le _,by omega⟩ hA (fun i a2 w2 hi hA=>?_);rcases eq_false_or_eq_true (decide ((i:Int)<(l.length:Int))) with q9|q9
 ·have p9:=of_decide_eq_true q9;have hlt:i<l.length:=by omega
  have hwi:=hw i hlt;have hRi:=jS hG hN (exE_ok (a:=a) (b:=b) (l:=l) (ys:=ys) (i:=i) hN hG (le_refl _) hwi hy);rcases eq_false_or_eq_true (brk l ys i) with q16|q16
  ·rw[KC hlt q16];exact jE (kec a b l ys i) (hRi _ rfl) hA
  ·exact jz (keb a b l ys i) (hRi _ rfl) hA (fun aT wT hT=>ki (by kernel_rfl) ⟨i+1,⟨by omega,fun k hk=>by rcases Nat.lt_succ_iff_lt_or_eq.1 hk with h|rfl;exact hi.2 k h;exact q16⟩,hT,by omega⟩)
 ·have p9:=of_decide_eq_false q9;rw[JI fun k hk=>hi.2 k (by omega)];refine jz (ked a b l ys i) (hR _ rfl) hA (fun aT wT hT=>jI _ (by kernel_rfl) ?_);exact jE (kee a b l ys i) (hR _ rfl) hT
def lnC (l:List Ln) (i:Nat):Bool:=decide (((l.getD i default).2.1.length:Int)>25)
def lng (n:Nat) (l:List Ln):Bool:=decide (n>25)||(decide (l.length>80)||anyP l.length (lnC l))
theorem lng_is {n:Nat}{l:List Ln}(h:lng n l=false):n<=25/\l.length<=80/\∀ i,i<l.length->(l.getD i default).2.1.length<=25:=by
 unfold lng at h;rw[Bool.or_eq_false_iff,Bool.or_eq_false_iff] at h;obtain⟨h1,h2,h3⟩:=h;have h1:=of_decide_eq_false h1;have h2:=of_decide_eq_false h2;refine⟨by omega,by omega,fun i hi=>?_⟩;have:=of_decide_eq_false (cbO h3 hi);omega
theorem lng_1 {n:Nat}{l:List Ln}(h:n>25):lng n l=true:=by unfold lng;rw[decide_eq_true h];rfl
theorem lng_2 {n:Nat}{l:List Ln}(h:l.length>80):lng n l=true:=by unfold lng;rw[decide_eq_true h];simp
theorem lng_3 {n:Nat}{l:List Ln}(h1:¬ n>25) (h2:¬ l.length>80):lng n l=anyP l.length (lnC l):=by unfold lng;rw[decide_eq_false h1,decide_eq_false h2];rfl
abbrev loJ (r0:Nat) (n:Nat) (l:List Ln) (i:Nat):St Dx:=⟨1,[(1,.val (.one (.sym 0 0))),(9,.val (.one (.lit (ii (i:Int)))))],[(0,.cls (.ls (lst 0 r0 3 l fN)))],[]⟩
abbrev Kd (r0 n:Nat) (l:List Ln):List (Pat Dx):=[pI n,pN r0 l,pI 20,pI 70]
theorem lo1 {w:World}(r0 n:Nat) (l:List Ln):runR w ⟨[(4,12,true),(4,15,false),(4,19,true)],[],[]⟩ 4 50 Tryz.f4 klong4_ (stA (Kd r0 n l)) (rB true)=some (.ret,[decide ((n:Int)>20)=true,decide ((n:Int)<=20)=false,decide ((n:Int)>25)=true,eA (Value.bool true)]):=by kernel_rfl
theorem lo2a {w:World}(r0 n:Nat) (l:List Ln):runR w ⟨[(4,12,true),(4,15,false),(4,19,false),(4,25,true),(4,29,false),(4,35,true)],[],[]⟩ 4 50 Tryz.f4 klong4_ (stA (Kd r0 n l)) (rB true)=some (.ret,[decide ((n:Int)>20)=true,decide ((n:Int)<=20)=false,decide ((n:Int)>25)=false,decide ((l.length:Int)>70)=true,decide ((l.length:Int)<=70)=false,decide ((l.length:Int)>80)=true,eA (Value.bool true)]):=by kernel_rfl
theorem lo3a {w:World}(r0 n:Nat) (l:List Ln):run w ⟨[(4,12,true),(4,15,false),(4,19,false),(4,25,true),(4,29,false),(4,35,false)],[],[]⟩ 4 50 klong4_ (stA (Kd r0 n l)) (loJ r0 n l 0)=some (.normal,[decide ((n:Int)>20)=true,decide ((n:Int)<=20)=false,decide ((n:Int)>25)=false,decide ((l.length:Int)>70)=true,decide ((l.length:Int)<=70)=false,decide ((l.length:Int)>80)=false,sD w (.ls (lst 0 r0 3 l fN)),ii (↑0:Int)=Value.int IntKind.i64 0]):=by kernel_rfl
theorem lo4a {w:World}(r0 n:Nat) (l:List Ln):run w ⟨[(4,12,true),(4,15,false),(4,19,false),(4,25,false),(4,35,false)],[],[]⟩ 4 50 klong4_ (stA (Kd r0 n l)) (loJ r0 n l 0)=some (.normal,[decide ((n:Int)>20)=true,decide ((n:Int)<=20)=false,decide ((n:Int)>25)=false,decide ((l.length:Int)>70)=false,decide ((l.length:Int)>80)=false,sD w (.ls (lst 0 r0 3 l fN)),ii (↑0:Int)=Value.int IntKind.i64 0]):=by kernel_rfl
theorem lo2b {w:World}(r0 n:Nat) (l:List Ln):runR w ⟨[(4,12,false),(4,19,false),(4,25,true),(4,29,false),(4,35,true)],[],[]⟩ 4 50 Tryz.f4 klong4_ (stA (Kd r0 n l)) (rB true)=some (.ret,[decide ((n:Int)>20)=false,decide ((n:Int)>25)=false,decide ((l.length:Int)>70)=true,decide ((l.length:Int)<=70)=false,decide ((l.length:Int)>80)=true,eA (Value.bool true)]):=by kernel_rfl
theorem lo3b {w:World}(r0 n:Nat) (l:List Ln):run w ⟨[(4,12,false),(4,19,false),(4,25,true),(4,29,false),(4,35,false)],[],[]⟩ 4 50 klong4_ (stA (Kd r0 n l)) (loJ r0 n l 0)=some (.normal,[decide ((n:Int)>20)=false,decide ((n:Int)>25)=false,decide ((l.length:Int)>70)=true,decide ((l.length:Int)<=70)=false,decide ((l.length:Int)>80)=false,sD w (.ls (lst 0 r0 3 l fN)),ii (↑0:Int)=Value.int IntKind.i64 0]):=by kernel_rfl
theorem lo4b {w:World}(r0 n:Nat) (l:List Ln):run w ⟨[(4,12,false),(4,19,false),(4,25,false),(4,35,false)],[],[]⟩ 4 50 klong4_ (stA (Kd r0 n l)) (loJ r0 n l 0)=some (.normal,[decide ((n:Int)>20)=false,decide ((n:Int)>25)=false,decide ((l.length:Int)>70)=false,decide ((l.length:Int)>80)=false,sD w (.ls (lst 0 r0 3 l fN)),ii (↑0:Int)=Value.int IntKind.i64 0]):=by kernel_rfl
theorem lob {w:World}(r0 n:Nat) (l:List Ln) (i:Nat):run w ⟨[(4,40,true),(4,49,false)],[],[]⟩ 4 50 klong4_nl (loJ r0 n l i) (loJ r0 n l (i+1))=some (.normal,[decide ((i:Int)<(l.length:Int))=true,i<l.length,i<l.length,decide ((↑(l.getD i default).2.1.length:Int)>25)=false,yu ((i:Int)+1),sD w (.ls (lst 0 r0 3 l fN)),ii (↑(i+1):Int)=Value.int IntKind.i64 ((i:Int)+1)]):=by kernel_rfl
theorem loc {w:World}(r0 n:Nat) (l:List Ln) (i:Nat):runR w ⟨[(4,40,true),(4,49,true)],[],[]⟩ 4 50 Tryz.f4 klong4_nl (loJ r0 n l i) (rB true)=some (.ret,[decide ((i:Int)<(l.length:Int))=true,i<l.length,i<l.length,decide ((↑(l.getD i default).2.1.length:Int)>25)=true,eA (Value.bool true)]):=by kernel_rfl
theorem lod {w:World}(r0 n:Nat) (l:List Ln) (i:Nat):run w ⟨[(4,40,false)],[],[]⟩ 4 50 klong4_nl (loJ r0 n l i) (loJ r0 n l i)=some (.exit 0,[decide ((i:Int)<(l.length:Int))=false,sD w (.ls (lst 0 r0 3 l fN)),eA (ii (i:Int))]):=by kernel_rfl
theorem loe {w:World}(r0 n:Nat) (l:List Ln) (i:Nat):runR w ⟨[],[],[]⟩ 4 50 Tryz.f4 klong4_nt (loJ r0 n l i) (rB false)=some (.ret,[eA (Value.bool false)]):=by kernel_rfl
theorem long_ok (hN:cP) (r0 n:Nat) (l:List Ln) (hl:l.length<=9223372036854775807) (hn:n<=9223372036854775807):kX 4 (Kd r0 n l) (fun _=>rB (lng n l)):=by
 intro w vs hG hp;refine yk hG hN (ex:=[]) cR (fn:=Tryz.f4) Tryz.func4 (c:=codeOf Tryz.f4) (by kernel_rfl) (args:=(Kd r0 n l)) (by kernel_rfl) hp (fun hR _ hA=>?_);have lp:∀ a1 w1,¬ n>25->¬ l.length>80->At (W0 w) 50 (loJ r0 n l 0) a1 w1->after Fence.wide 0 (W0 w).P klong4_n (Ret (W0 w) Tryz.f4 (Res (W0 w) (rB (lng n l)))) .normal a1 w1:=by
  intro a1 w1 g1 g2 hA;rw[lng_3 g1 g2];refine uj (fun i=>loJ r0 n l i) (fun i=>i<=l.length/\∀ k,k<i->lnC l k=false) (fun i=>l.length-i) (L:=klong4_n) (ks:=klong4_nt) (id:=0) (c:=kt klong4_n) (by kernel_rfl) 0 ⟨zero_le _,by omega⟩ hA (fun i a2 w2 hi hA=>?_);rcases eq_false_or_eq_true (decide ((i:Int)<(l.length:Int))) with q9|q9
  ·have p9:=of_decide_eq_true q9;have hlt:i<l.length:=by omega
   rcases eq_false_or_eq_true (lnC l i) with q16|q16
   ·rw[KC hlt q16];exact jE (loc r0 n l i) (hR _ rfl) hA
   ·exact jz (lob r0 n l i) (hR _ rfl) hA (fun aT wT hT=>ki (by kernel_rfl) ⟨i+1,⟨by omega,fun k hk=>by rcases Nat.lt_succ_iff_lt_or_eq.1 hk with h|rfl;exact hi.2 k h;exact q16⟩,hT,by omega⟩)
  ·have p9:=of_decide_eq_false q9;rw[JI fun k hk=>hi.2 k (by omega)];refine jz (lod r0 n l i) (hR _ rfl) hA (fun aT wT hT=>jI _ (by kernel_rfl) ?_);exact jE (loe r0 n l i) (hR _ rfl) hT
 by_cases g1:n>25
 ·rw[lng_1 g1];have d1:decide ((n:Int)>20)=true:=decide_eq_true (by omega);have d2:decide ((n:Int)<=20)=false:=decide_eq_false (by omega);have d3:decide ((n:Int)>25)=true:=decide_eq_true (by omega);exact jE (lo1 r0 n l) (hR _ rfl) hA
 have d3:decide ((n:Int)>25)=false:=decide_eq_false (by omega);by_cases g0:n>20
 ·have d1:decide ((n:Int)>20)=true:=decide_eq_true (by omega);have d2:decide ((n:Int)<=20)=false:=decide_eq_false (by omega);by_cases g2:l.length>80
  ·rw[lng_2 g2];have d4:decide ((l.length:Int)>70)=true:=decide_eq_true (by omega);have d5:decide ((l.length:Int)<=70)=false:=decide_eq_false (by omega);have d6:decide ((l.length:Int)>80)=true:=decide_eq_true (by omega);exact jE (lo2a r0 n l) (hR _ rfl) hA
  have d6:decide ((l.length:Int)>80)=false:=decide_eq_false (by omega);by_cases g3:l.length>70
  ·have d4:decide ((l.length:Int)>70)=true:=decide_eq_true (by omega);have d5:decide ((l.length:Int)<=70)=false:=decide_eq_false (by omega);exact jz (lo3a r0 n l) (hR _ rfl) hA (fun a1 w1 hA=>kQ (lp a1 w1 g1 g2 hA))
  ·have d4:decide ((l.length:Int)>70)=false:=decide_eq_false (by omega);exact jz (lo4a r0 n l) (hR _ rfl) hA (fun a1 w1 hA=>kQ (lp a1 w1 g1 g2 hA))
 ·have d1:decide ((n:Int)>20)=false:=decide_eq_false (by omega);by_cases g2:l.length>80
  ·rw[lng_2 g2];have d4:decide ((l.length:Int)>70)=true:=decide_eq_true (by omega);have d5:decide ((l.length:Int)<=70)=false:=decide_eq_false (by omega);have d6:decide ((l.length:Int)>80)=true:=decide_eq_true (by omega);exact jE (lo2b r0 n l) (hR _ rfl) hA
  have d6:decide ((l.length:Int)>80)=false:=decide_eq_false (by omega);by_cases g3:l.length>70
  ·have d4:decide ((l.length:Int)>70)=true:=decide_eq_true (by omega);have d5:decide ((l.length:Int)<=70)=false:=decide_eq_false (by omega);exact jz (lo3b r0 n l) (hR _ rfl) hA (fun a1 w1 hA=>kQ (lp a1 w1 g1 g2 hA))
  ·have d4:decide ((l.length:Int)>70)=false:=decide_eq_false (by omega);exact jz (lo4b r0 n l) (hR _ rfl) hA (fun a1 w1 hA=>kQ (lp a1 w1 g1 g2 hA))
end Pe
end Go.Proofs.YtokieocpdcngcaaGreatDoor
