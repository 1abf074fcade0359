/- Part 27. -/
import Derived.Test.YtobfdjojhfpakaaGreatDoorX26
set_option linter.all false
open Nat (le_refl le_trans lt_or_ge not_lt_zero)
noncomputable section

namespace Go.Proofs.YtobfdjojhfpakaaGreatDoor
open Go Go.RowKit Go.Proofs
namespace Pe
variable {D:Type}
inductive Kp where
 |code (c:Code)
 |endB (id:Nat)
section
variable (F:Fence) (m:Nat) (P:Program)
def after:List Kp->(Exit->Act->World->Prop)->Exit->Act->World->Prop
 |[],Q=>Q
 |.code c::ks,Q=>Exit.then (fun a w=>c.wpIn F m P (after ks Q) a w) (after ks Q)
 |.endB id::ks,Q=>Exit.inBlock id (after ks Q)
end
def zM:Code->Bool
 |.loop _=>true
 |.seq x y=>match zM x with
  |true=>true
  |false=>zM y
 |.block _ c=>zM c
 |.cond _ c d=>match zM c with
  |true=>true
  |false=>zM d
 |_=>false
def isLoop:Code->Bool
 |.loop _=>true
 |_=>false
def jY:Nat->List Kp->List Code×List Kp
 |n+1,.code (.seq x y)::ks=>jY n (.code x::.code y::ks)
 |n+1,.code c::ks=>match zM c with
  |true=>([],.code c::ks)
  |false=>match jY n ks with
   |(l,r)=>(c::l,r)
 |_,ks=>([],ks)
def caG (ks:List Kp):List Code:=(jY 1000 ks).1
def caM (ks:List Kp):List Kp:=(jY 1000 ks).2
def cbz:Nat->List Kp->List Kp
 |n+1,.endB _::ks=>cbz n ks
 |n+1,.code (.block id c)::ks=>match isLoop c with
  |true=>.code (.block id c)::ks
  |false=>match zM c with
   |true=>cbz n (.code c::.endB id::ks)
   |false=>.code (.block id c)::ks
 |_,ks=>ks
def next (ks:List Kp):List Kp:=cbz 100 (caM ks)
def ub:List Kp->Code
 |.code (.block _ (.loop c))::_=>c
 |_=>.skip
def popK (j:Nat):List Kp->List Kp
 |.endB id::ks=>match Nat.beq j id with
  |true=>ks
  |false=>popK j ks
 |_::ks=>popK j ks
 |[]=>[]
def WB (j:Nat):List Kp->Bool
 |.endB id::ks=>match Nat.beq j id with
  |true=>true
  |false=>WB j ks
 |_::ks=>WB j ks
 |[]=>false
def zw (S:Stat D) (TT:FuncId->Tab D) (CF YF:cn D) (nt:Nat) (base:cu D) (fid:FuncId) (inR:Bool) (n:Nat):List Code->St D->Ran D
 |[],st=>some (.normal,st,[])
 |c::l,st=>match kQ S TT CF YF nt base fid inR n c st with
  |some (.normal,st',ob)=>match zw S TT CF YF nt base fid inR n l st' with
   |some (x,st2,ob2)=>some (x,st2,ob++ob2)
   |none=>none
  |r=>r
def runTo (C:Ctx D) (TT:FuncId->Tab D) (CF YF:cn D) (nt:Nat) (fid:FuncId) (inR:Bool) (n:Nat) (l:List Code) (st st':St D):Option (Xt×List Prop) :=
 match zw C.toStat TT CF YF nt (fun b=>find b st.m) fid inR n l ⟨st.nb,st.sl,[],st.ms⟩ with
 |some (x,s1,ob)=>match fitTo C (st.join s1) st' with
  |some ob2=>some (x,ob++ob2)
  |none=>none
 |none=>none
section
variable {F:Fence}{m:Nat}{C:Ctx D}{TT:FuncId->Tab D}{CF YF:cn D}{nt:Nat}{fid:FuncId}{inR:Bool}{Q:Exit->Act->World->Prop}{a:Act}{w:World}{st st':St D}
theorem Uf:∀ (ks:List Kp) {a:Act}{w:World},Q .ret a w->after F m C.P ks Q .ret a w
 |[],_,_,h=>h
 |.code _::ks,_,_,h=>Uf ks h
 |.endB _::ks,_,_,h=>Uf ks h
theorem kG {j:Nat}:∀ (ks:List Kp) {a:Act}{w:World},WB j ks=false->Q (.exit j) a w->after F m C.P ks Q (.exit j) a w
 |[],_,_,_,hq=>hq
 |.code _::ks,_,_,h,hq=>kG ks (by simpa [WB] using h) hq
 |.endB id::ks,_,_,h,hq=>by
  simp only[WB] at h;simp only[after,Exit.inBlock];split at h
  ·cases h
  ·rename_i hj;rw[if_neg (fun e=>by subst e;simp at hj)];exact kG ks h hq
theorem ccU (hW:Wd F) (hR:inR=false->F=Fence.wide) (hC:C.Ok) (hT:∀ f,(TT f).Ok C) (hF:CF.Ok C) (hFm:CF.Mono) (hY:uU C YF) (hYm:YF.Mono) {e0:Env}{w0:World}{n0:Nat}{base:cu D}(hb:cM C e0 w0 base) {B:Nat}(hfree:ko n0 B e0) {n:Nat} :
 ∀ (k:Nat) (ks:List Kp) (st:St D) (x:Xt) (st':St D) (ob:List Prop),zw C.toStat TT CF YF nt base fid inR n (jY k ks).1 st=some (x,st',ob)->jk ob->st'.nb<=B->
 ∀ a w,Sat C nt e0 w0 n0 st a w->(∀ a' w',Sat C nt e0 w0 n0 st' a' w'->after F m C.P (jY k ks).2 Q x.to a' w')->after F m C.P ks Q .normal a w:=by
 have stop:∀ (ks:List Kp) (st:St D) (x:Xt) (st':St D) (ob:List Prop),zw C.toStat TT CF YF nt base fid inR n [] st=some (x,st',ob)->∀ a w,Sat C nt e0 w0 n0 st a w->(∀ a' w',Sat C nt e0 w0 n0 st' a' w'->after F m C.P ks Q x.to a' w')->after F m C.P ks Q .normal a w:=by
  intro ks st x st' ob h a w hs hQ;simp only[zw,Option.some.injEq,Prod.mk.injEq] at h;obtain⟨rfl,rfl,rfl⟩:=h;exact hQ a w hs
 have one:∀ (k:Nat) (c:Code) (ks:List Kp) (ih:∀ (st:St D) (x:Xt) (st':St D) (ob:List Prop),zw C.toStat TT CF YF nt base fid inR n (jY k ks).1 st=some (x,st',ob)->jk ob->st'.nb<=B->
  ∀ a w,Sat C nt e0 w0 n0 st a w->(∀ a' w',Sat C nt e0 w0 n0 st' a' w'->after F m C.P (jY k ks).2 Q x.to a' w')->after F m C.P ks Q .normal a w) (out:∀ (x:Xt) a w,x≠.normal->after F m C.P (jY k ks).2 Q x.to a w->after F m C.P ks Q x.to a w)
  (hle:∀ st x st' ob,zw C.toStat TT CF YF nt base fid inR n (jY k ks).1 st=some (x,st',ob)->st.nb<=st'.nb)
  (st:St D) (x:Xt) (st':St D) (ob:List Prop),zw C.toStat TT CF YF nt base fid inR n (c::(jY k ks).1) st=some (x,st',ob)->jk ob->st'.nb<=B->
  ∀ a w,Sat C nt e0 w0 n0 st a w->(∀ a' w',Sat C nt e0 w0 n0 st' a' w'->after F m C.P (jY k ks).2 Q x.to a' w')->c.wpIn F m C.P (after F m C.P ks Q) a w:=by
  intro k c ks ih out hle st x st' ob h ho hB a w hs hQ;simp only[zw] at h;split at h
  ·rename_i st1 ob1 h1;split at h
   ·rename_i x2 st2 ob2 h2;injection h with h;simp only[Prod.mk.injEq] at h
    obtain⟨rfl,rfl,rfl⟩:=h;obtain⟨o1,o2⟩:=ho.append;refine wpIn_mono (jz hW hR hC hT hF hFm hY hYm hb hfree n c st _ st1 ob1 h1 o1 (le_trans (hle _ _ _ _ h2) hB) a w hs) ?_;rintro e a' w' ⟨rfl,hs'⟩;exact ih st1 x2 st2 ob2 h2 o2 hB a' w' hs' hQ
   ·cases h
  ·rename_i hne;refine wpIn_mono (jz hW hR hC hT hF hFm hY hYm hb hfree n c st _ _ _ h ho hB a w hs) ?_;rintro e a' w' ⟨rfl,hs'⟩;exact out x a' w' (fun hx=>by subst hx;exact hne _ _ h) (hQ a' w' hs')
 have outs:∀ (k:Nat) (ks:List Kp) (x:Xt) a w,x≠.normal->after F m C.P (jY k ks).2 Q x.to a w->after F m C.P ks Q x.to a w:=by
  intro k
  induction k with
  |zero=>intro ks x a w _ h;cases ks<;>exact h
  |succ k ih =>
   intro ks x a w hx h
   match ks with
   |[]=>exact h
   |.endB id::ks=>exact h
   |.code c::ks =>
    have pass:∀ (c:Code) (ks:List Kp),after F m C.P ks Q x.to a w->after F m C.P (.code c::ks) Q x.to a w:=by
     intro c ks h;cases x with
     |normal=>exact absurd rfl hx
     |exit j=>exact h
     |ret=>exact h
    have gen:∀ c:Code,(∀ x y,c≠.seq x y)->after F m C.P (jY (k+1) (.code c::ks)).2 Q x.to a w->after F m C.P (.code c::ks) Q x.to a w:=by
     intro c hc h;have hg:jY (k+1) (.code c::ks)=(match zM c with
      |true=>([],.code c::ks)
      |false=>match jY k ks with
       |(l,r)=>(c::l,r)):=by
      cases c<;>first|rfl|exact absurd rfl (hc _ _)
     rw[hg] at h;split at h
     ·exact h
     ·exact pass c ks (ih ks x a w hx h)
    cases c with
    |seq y z =>
     have:=ih (.code y::.code z::ks) x a w hx h;cases x with
     |normal=>exact absurd rfl hx
     |exit j=>exact this
     |ret=>exact this
    |_=>exact gen _ (by simp) h
 have les:∀ (l:List Code) (st:St D) (x:Xt) (st':St D) (ob:List Prop),zw C.toStat TT CF YF nt base fid inR n l st=some (x,st',ob)->st.nb<=st'.nb:=by
  intro l
  induction l with
  |nil=>intro st x st' ob h;simp only[zw,Option.some.injEq,Prod.mk.injEq] at h;rw[h.2.1];exact le_refl _
  |cons c l ih =>
   intro st x st' ob h;simp only[zw] at h;split at h
   ·rename_i st1 ob1 h1;split at h
    ·rename_i x2 st2 ob2 h2;injection h with h;simp only[Prod.mk.injEq] at h
     obtain⟨rfl,rfl,rfl⟩:=h;exact le_trans (jZ hFm hYm _ _ _ _ _ _ h1) (ih _ _ _ _ h2)
    ·cases h
   ·exact jZ hFm hYm _ _ _ _ _ _ h
 intro k
 induction k with
 |zero=>intro ks st x st' ob h ho hB a w hs hQ;cases ks<;>exact stop _ st x st' ob h a w hs hQ
 |succ k ih =>
  intro ks st x st' ob h ho hB a w hs hQ
  match ks with
  |[]=>exact stop _ st x st' ob h a w hs hQ
  |.endB id::ks=>exact stop _ st x st' ob h a w hs hQ
  |.code c::ks =>
   have gen:∀ c:Code,(∀ x y,c≠.seq x y)->zw C.toStat TT CF YF nt base fid inR n (jY (k+1) (.code c::ks)).1 st=some (x,st',ob)->(∀ a' w',Sat C nt e0 w0 n0 st' a' w'->after F m C.P (jY (k+1) (.code c::ks)).2 Q x.to a' w')->after F m C.P (.code c::ks) Q .normal a w:=by
    intro c hc h hQ;have hg:jY (k+1) (.code c::ks)=(match zM c with
     |true=>([],.code c::ks)
     |false=>match jY k ks with
      |(l,r)=>(c::l,r)):=by
     cases c<;>first|rfl|exact absurd rfl (hc _ _)
    rw[hg] at h hQ;split at h
    ·rename_i hl;rw[hl] at hQ;exact stop _ st x st' ob h a w hs hQ
    ·rename_i hl;rw[hl] at hQ;exact one k c ks (ih ks) (outs k ks) (les _) st x st' ob h ho hB a w hs hQ
   cases c with
   |seq y z =>
    show (Code.seq y z).wpIn F m C.P (after F m C.P ks Q) a w;apply wpIn_seq;exact ih (.code y::.code z::ks) st x st' ob h ho hB a w hs hQ
   |_=>exact gen _ (by simp) h hQ
theorem run_is (hR:Ck C TT) (hW:Wd F) (hI:inR=false->F=Fence.wide) {g d n:Nat}{ks:List Kp}{x:Xt}{ob:List Prop}(h:runTo C TT (yU C.toStat TT g d).1 (yU C.toStat TT g d).2 nt fid inR n (caG ks) st st'=some (x,ob)) (ho:jk ob)
 (hA:At C nt st a w) (hQ:∀ a' w',At C nt st' a' w'->after F m C.P (caM ks) Q x.to a' w'):after F m C.P ks Q .normal a w:=by
 unfold runTo at h;split at h
 rotate_left
 ·cases h
 rename_i x1 s1 ob1 he;split at h
 rotate_left
 ·cases h
 rename_i ob2 hf;injection h with h;simp only[Prod.mk.injEq] at h;obtain⟨rfl,rfl⟩:=h
 obtain⟨o1,o2⟩:=ho.append;obtain⟨⟨e,hg,hM,hV,hfr,hmk⟩,hsz⟩:=hA;have hFm:=(jK (S:=C.toStat) (TT:=TT) (g:=g) d).1;have hYm:=(jK (S:=C.toStat) (TT:=TT) (g:=g) d).2;have hle:(⟨st.nb,st.sl,[],st.ms⟩:St D).nb<=s1.nb:=execL_le he;have hle:st.nb<=s1.nb:=hle;refine ccU hW hI hR.ok hR.tab (zL hR.ok hR.name hR.tab d).1 hFm (zL hR.ok hR.name hR.tab d).2 hYm hM (B:=s1.nb) (fun b h1 _=>hfr b h1) 1000 ks _ x1 s1 ob1 he o1 (le_refl _) a w ⟨⟨e,kx.refl hg _,hV,hmk⟩,hsz⟩ ?_;rintro a' w' ⟨⟨e',hL,hV',hmk'⟩,hsz'⟩;refine hQ a' w' (cio hR.ok hf o2 ⟨⟨e',hL.good,fun b o ho=>?_,hV',fun b hb=>?_,hmk'⟩,hsz'⟩)
 ·exact kL hM hL b o (by rw[ZW];exact ho)
 ·obtain⟨q1,q2,q3⟩:=hfr b (le_trans hle hb);have hb:s1.nb<=b:=hb;refine⟨?_,?_,?_⟩
  ·cases hx:e'.ρ b with
   |none=>rfl
   |some y =>
    rcases hL.new.ρ b y hx with h|h
    ·rw[q1] at h;cases h
    ·omega
  ·cases hx:e'.ν b with
   |none=>rfl
   |some y =>
    rcases hL.new.ν b y hx with h|h
    ·rw[q2] at h;cases h
    ·omega
  ·cases hx:e'.φ b with
   |none=>rfl
   |some y =>
    rcases hL.new.φ b y hx with h|h
    ·rw[q3] at h;cases h
    ·omega
where
 execL_le {l:List Code} {base:cu D} {n d g:Nat} {st st':St D} {x:Xt} {ob:List Prop} (h:zw C.toStat TT (yU C.toStat TT g d).1 (yU C.toStat TT g d).2 nt base fid inR n l st=some (x,st',ob)):st.nb<=st'.nb:=by
  induction l generalizing st st' x ob with
  |nil=>simp only[zw,Option.some.injEq,Prod.mk.injEq] at h;rw[h.2.1];exact le_refl _
  |cons c l ih =>
   simp only[zw] at h;split at h
   ·rename_i st1 ob1 h1;split at h
    ·rename_i x2 st2 ob2 h2;injection h with h;simp only[Prod.mk.injEq] at h
     obtain⟨rfl,rfl,rfl⟩:=h;exact le_trans (jZ (jK d).1 (jK d).2 _ _ _ _ _ _ h1) (ih h2)
    ·cases h
   ·exact jZ (jK d).1 (jK d).2 _ _ _ _ _ _ h
theorem cat:∀ (n:Nat) (ks:List Kp) {a:Act}{w:World},after F m C.P (cbz n ks) Q .normal a w->after F m C.P ks Q .normal a w
 |0,ks,a,w,h=>by cases ks<;>exact h
 |n+1,[],a,w,h=>h
 |n+1,.endB id::ks,a,w,h=>cat n ks h
 |n+1,.code c::ks,a,w,h=>by
  cases c with
  |block id c =>
   unfold cbz at h;split at h
   ·exact h
   ·split at h
    ·exact wpIn_block (cat n (.code c::.endB id::ks) h)
    ·exact h
  |_=>exact h
theorem uT {ks:List Kp}(h:after F m C.P (next ks) Q .normal a w):after F m C.P (caM ks) Q .normal a w:=cat _ _ h
theorem uW {Θ:Type}(I:Θ->St D) (J:Θ->Prop) (μ:Θ->Nat) {id:Nat}{c:Code}{L ks:List Kp}(hL:L=.code (.block id (.loop c))::ks) (θ0:Θ) (h0:J θ0) (hA:At C nt (I θ0) a w)
 (hr:∀ θ a w,J θ->At C nt (I θ) a w->after F m C.P [.code c] (Exit.then (fun a' w'=>∃ θ',J θ'/\At C nt (I θ') a' w'/\μ θ'<μ θ) (Exit.inBlock id (after F m C.P ks Q))) .normal a w):after F m C.P L Q .normal a w:=by
 subst hL;exact loop_at I J μ θ0 h0 hA hr
end
def cdV (C:Ctx D) (TT:FuncId->Tab D) (CF YF:cn D) (nt:Nat) (fid:FuncId) (inR:Bool) (n:Nat) (l:List Code) (rs:List ResultVar) (st:St D) (ps:List (Pat D)):Option (Xt×List Prop) :=
 match zw C.toStat TT CF YF nt (fun b=>find b st.m) fid inR n l ⟨st.nb,st.sl,[],st.ms⟩ with
 |some (.ret,s1,ob)=>match retTo C rs (st.join s1) ps with
  |some ob2=>some (.ret,ob++ob2)
  |none=>none
 |_=>none
section
variable {F:Fence}{m:Nat}{C:Ctx D}{TT:FuncId->Tab D}{CF YF:cn D}{nt:Nat}{fid:FuncId}{inR:Bool}{Q:Exit->Act->World->Prop}{a:Act}{w:World}{st st':St D}
theorem ced (hR:Ck C TT) (hW:Wd F) (hI:inR=false->F=Fence.wide) {g d n:Nat}{ks:List Kp}{fn:Func}{ps:List (Pat D)}{ob:List Prop}(h:cdV C TT (yU C.toStat TT g d).1 (yU C.toStat TT g d).2 nt fid inR n (caG ks) fn.results.toList st ps=some (.ret,ob)) (ho:jk ob)
 (hA:At C nt st a w) (hQ:∀ a' w',Ret C fn (Res C ps) .ret a' w'->Q .ret a' w'):after F m C.P ks Q .normal a w:=by
 unfold cdV at h;split at h
 rotate_left
 ·cases h
 rename_i s1 ob1 he;split at h
 rotate_left
 ·cases h
 rename_i ob2 hf;injection h with h;simp only[Prod.mk.injEq] at h;obtain⟨_,rfl⟩:=h
 obtain⟨o1,o2⟩:=ho.append;obtain⟨⟨e,hg,hM,hV,hfr,hmk⟩,hsz⟩:=hA;have hFm:=(jK (S:=C.toStat) (TT:=TT) (g:=g) d).1;have hYm:=(jK (S:=C.toStat) (TT:=TT) (g:=g) d).2;have hle:(⟨st.nb,st.sl,[],st.ms⟩:St D).nb<=s1.nb:=run_is.execL_le he;have hle:st.nb<=s1.nb:=hle;refine ccU hW hI hR.ok hR.tab (zL hR.ok hR.name hR.tab d).1 hFm (zL hR.ok hR.name hR.tab d).2 hYm hM (B:=s1.nb) (fun b h1 _=>hfr b h1) 1000 ks _ .ret s1 ob1 he o1 (le_refl _) a w ⟨⟨e,kx.refl hg _,hV,hmk⟩,hsz⟩ ?_;rintro a' w' ⟨⟨e',hL,hV',hmk'⟩,hsz'⟩;refine Uf _ (hQ a' w' (ret_at hR.ok hf o2 (nt:=nt) ⟨⟨e',hL.good,fun b o ho=>?_,hV',fun b hb=>?_,hmk'⟩,hsz'⟩ (.inl rfl)))
 ·exact kL hM hL b o (by rw[ZW];exact ho)
 ·obtain⟨q1,q2,q3⟩:=hfr b (le_trans hle hb);have hb:s1.nb<=b:=hb;refine⟨?_,?_,?_⟩
  ·cases hx:e'.ρ b with
   |none=>rfl
   |some y =>
    rcases hL.new.ρ b y hx with h|h
    ·rw[q1] at h;cases h
    ·omega
  ·cases hx:e'.ν b with
   |none=>rfl
   |some y =>
    rcases hL.new.ν b y hx with h|h
    ·rw[q2] at h;cases h
    ·omega
  ·cases hx:e'.φ b with
   |none=>rfl
   |some y =>
    rcases hL.new.φ b y hx with h|h
    ·rw[q3] at h;cases h
    ·omega
end
end Pe
open Go Go.RowKit Go.Proofs Lim
namespace Pe
section
variable {b b':Bool}{lo lo':Nat}{w0 w0' w:World}
theorem Ke:∀ {gs:List (Grp Dx)}{vs:List Value},cC (Cx b lo w0) w gs vs->cC (Cx b' lo' w0') w gs vs
 |[],_,h=>h
 |.lit _::_,_,h=>⟨h.1,Ke h.2⟩
 |.cls _::_,_,h=>⟨h.1,Ke h.2⟩
theorem ls_cx {L:Lt Dx}{v:Value}(h:YJ (Cx b lo w0) w L v):YJ (Cx b' lo' w0') w L v:=by
 rcases h with h|⟨k,o,c,arr,pre,vs,rest,q1,q2,q3,q4,q5,q6,q7,q8,q9⟩
 ·exact .inl h
 ·exact .inr ⟨k,o,c,arr,pre,vs,rest,q1,q2,q3,q4,q5,q6,q7,q8,fun j hj=>Ke (q9 j hj)⟩
theorem pat_cx {p:Pat Dx}{v:Value}(h:p.is (Cx b lo w0) w v):p.is (Cx b' lo' w0') w v:=by
 cases p with
 |one g=>cases g<;>exact h
 |agg gs=>obtain⟨vs,h1,h2⟩:=h;exact⟨vs,Ke h1,h2⟩
 |slc t n gs=>obtain⟨k,o,c,arr,pre,vs,rest,h1,h2,h3,h4,h5⟩:=h;exact⟨k,o,c,arr,pre,vs,rest,h1,h2,h3,h4,Ke h5⟩
 |cap f ty z gs=>obtain⟨k,o,c,h1,h2⟩:=h;exact⟨k,o,c,ls_cx h1,h2⟩
theorem cao:∀ {ps:List (Pat Dx)}{vs:List Value},cG (Cx b lo w0) w ps vs->cG (Cx b' lo' w0') w ps vs
 |[],_,h=>h
 |_::_,_,⟨v,ws,h1,h2,h3⟩=>⟨v,ws,h1,pat_cx h2,cao h3⟩
theorem rpat_cx {p:cT Dx}{v:Value}(h:p.is (Cx b lo w0) w v):p.is (Cx b' lo' w0') w v:=by
 cases p with
 |val p=>exact pat_cx h
 |tup ps=>obtain⟨vs,h1,h2⟩:=h;exact⟨vs,cao h1,h2⟩
theorem rob_cx {w1 w2:World}{p:cT Dx}{v:Value}(h:WD (Cx b lo w0) w1 w2 p v):WD (Cx b lo' w0') w1 w2 p v:=fun S hS w'' hs hk=>rpat_cx (h S hS w'' hs hk)
theorem Jl {w':World}(hk:∀ k,k<w.heap.size->w'.heap[k]?=w.heap[k]?):∀ {gs:List (Grp Dx)}{vs:List Value},cC (Cx b lo w0) w gs vs->cC (Cx b lo w0) w' gs vs
 |[],_,h=>h
 |.lit _::_,_,h=>⟨h.1,Jl hk h.2⟩
 |.cls _::_,_,h=>⟨DIs.grow hk h.1,Jl hk h.2⟩
theorem cik {w':World}(hk:∀ k,k<w.heap.size->w'.heap[k]?=w.heap[k]?) {p:Pat Dx}{v:Value}(hn:noSlc p=true) (h:p.is (Cx b lo w0) w v):p.is (Cx b lo w0) w' v:=by
 cases p with
 |one g =>
  cases g with
  |lit x=>exact h
  |cls d=>exact DIs.grow hk h
 |agg gs=>obtain⟨vs,h1,h2⟩:=h;exact⟨vs,Jl hk h1,h2⟩
 |slc t n gs=>cases hn
 |cap f ty z gs=>cases hn
theorem Ua {w':World}(hk:∀ k,k<w.heap.size->w'.heap[k]?=w.heap[k]?):∀ {ps:List (Pat Dx)}{vs:List Value},Gh ps=true->cG (Cx b lo w0) w ps vs->cG (Cx b lo w0) w' ps vs
 |[],_,_,h=>h
 |p::ps,_,hn,⟨v,ws,h1,h2,h3⟩=>by
  unfold Gh at hn;split at hn
  ·rename_i h0;exact⟨v,ws,h1,cik hk h0 h2,Ua hk hn h3⟩
  ·cases hn
theorem Jt:∀ {ps:List (Pat Dx)}{csz:Dx->Nat}{s:Nat}{r:List A1×Ws Dx×Nat},yL csz s ps=some r->Gh ps=true
 |[],_,_,_,_=>rfl
 |p::ps,csz,s,r,h=>by
  have:=Cs h p (by simp);simp only[yL] at h;split at h
  ·split at h
   ·rename_i h2;unfold Gh;cases p with
    |slc t n gs=>cases this
    |cap f ty z gs=>cases this
    |one g=>exact Jt h2
    |agg gs=>exact Jt h2
   ·cases h
  ·cases h
end
noncomputable abbrev W0 (w:World):Ctx Dx:=Cx true w.heap.size w
theorem fn_ok {w : World} (hG : Gr w) (hN : ∀ (f : Nat) (fn : Func), Tryz.prog.funcs[f]? = some fn → (fn.name == "runtime.NumGoroutine") = false) {ex : List (Nat × Con)} (hE : EN true w.heap.size w ex) {f : FuncId} {fn : Func} {c : Code} (hfn : Tryz.prog.funcs[f]? = some fn) (hbody : fn.body = some c) {args : List (Pat Dx)} {xs : List A1} {ws : Ws Dx} {n0 : Nat} (hm : yL Dx.n 0 args = some (xs, ws, n0)) (hlen : Nat.ble (jM xs).length fn.ntmps = true)
 {vs:List Value} (hp:cG (W0 w) w args vs) {ps:List (Pat Dx)} (hwp:(∀ o:Opt,o.ex=ex->Ck (W0 w) (TY o))->∀ a,At (W0 w) fn.ntmps ⟨n0,yT 0 (jM xs),ws,[]⟩ a w->after Fence.wide 0 Tryz.prog [.code c] (Ret (W0 w) fn (Res (W0 w) ps)) .normal a w) :
 Enters Tryz.prog f/\Calls Tryz.prog f vs.toArray w (fun en w'=>∃ v,en=.returned v/\Res (W0 w) ps v w'):=by
 have hR:∀ o:Opt,o.ex=ex->Ck (W0 w) (TY o):=fun o ho=>cbm (le_refl _) hG hN (by rw[ho];exact hE);have hR0:=hR ⟨[],[],ex⟩ rfl;refine zz (C:=W0 w) hR0 hfn hbody hm hlen ?_ (fun a hA=>hwp hR a hA);exact Wl hR0.ok (W:=fun w'=>ki env0 w w') w (ki.refl _ _) (Cs hm) (fun w' hk=>Ua (fun k hk'=>hk.block k hk' (fun b=>by simp)) (Jt hm) hp)
theorem fn_cap {w : World} (hG : Gr w) (hN : ∀ (f : Nat) (fn : Func), Tryz.prog.funcs[f]? = some fn → (fn.name == "runtime.NumGoroutine") = false) {ex : List (Nat × Con)} (hE : EN true w.heap.size w ex) {f : FuncId} {fn : Func} {c : Code} (hfn : Tryz.prog.funcs[f]? = some fn) (hbody : fn.body = some c) {args : List (Pat Dx)} {g ty z : Nat} {gs : List (Grp Dx)} {xs : List A1} {ws : Ws Dx} {n0 : Nat} (hm : yL Dx.n 0 args = some (xs, ws, n0)) (hlen : Nat.ble ((jM xs).length + 1) fn.ntmps = true)
 {vs:List Value} (hp:cG (W0 w) w (args++[.cap g ty z gs]) vs) {ps:List (Pat Dx)} (hwp:(∀ o:Opt,o.ex=ex->Ck (W0 w) (TY o))->∀ a,At (W0 w) fn.ntmps ⟨n0+3,yT 0 (jM xs++[.val (.one (.fn (n0+2)))]),(n0+2,.clo g [] [.one (.fn (n0+1))])::(n0+1,.cp n0 0 z 0)::(n0,.cls (.ls ⟨0,ty,z,1,fun _=>gs⟩))::ws,[]⟩ a w->after Fence.wide 0 Tryz.prog [.code c] (Ret (W0 w) fn (Res (W0 w) ps)) .normal a w) :
 Enters Tryz.prog f/\Calls Tryz.prog f vs.toArray w (fun en w'=>∃ v,en=.returned v/\Res (W0 w) ps v w'):=by
 have hR:∀ o:Opt,o.ex=ex->Ck (W0 w) (TY o):=fun o ho=>cbm (le_refl _) hG hN (by rw[ho];exact hE);have hR0:=hR ⟨[],[],ex⟩ rfl;have key:∀ {ps qs:List (Pat Dx)} {vs:List Value},cG (W0 w) w (ps++qs) vs->∃ us ws,vs=us++ws/\cG (W0 w) w ps us/\cG (W0 w) w qs ws:=by
  intro ps
  induction ps with
  |nil=>exact fun h=>⟨[],_,rfl,rfl,h⟩
  |cons p ps ih =>
   rintro qs vs ⟨v,rest,rfl,h2,h3⟩;obtain⟨us,ws,rfl,h4,h5⟩:=ih h3;exact⟨v::us,ws,rfl,⟨v,us,rfl,h2,h4⟩,h5⟩
 obtain⟨us,ws',rfl,h1,v,rest,rfl,⟨k,o,cp,h2,rfl⟩,h3⟩:=key hp;obtain rfl:rest=[]:=h3;refine cgt (C:=W0 w) (cp:=cp) hR0 hfn hbody hm hlen (L:=⟨0,ty,z,1,fun _=>gs⟩) rfl ?_ ?_ (fun a hA=>hwp hR a hA)
 ·exact Wl hR0.ok (W:=fun w'=>ki env0 w w') w (ki.refl _ _) (Cs hm) (fun w' hk=>Ua (fun k hk'=>hk.block k hk' (fun b=>by simp)) (Jt hm) h1)
 ·intro w' hk;rcases h2 with h2|⟨k',o',c',arr,pre,vs,rest,q1,q2,⟨fr,q3⟩,q4,q5,q6,q7,q8,q9⟩
  ·exact .inl h2
  ·exact .inr ⟨k',o',c',arr,pre,vs,rest,q1,q2,⟨fr,by rw[hk.block _ (Array.getElem?_eq_some_iff.1 q3).1 (fun b=>by simp)];exact q3⟩,q4,q5,q6,q7,q8,fun j hj=>Jl (fun k hk'=>hk.block k hk' (fun b=>by simp)) (q9 j hj)⟩
theorem ka {F:Fence}{m:Nat}{P:Program}{Q:Exit->Act->World->Prop}{ks:List Kp}{a:Act}{w:World}(h:ks=[]) (hq:Q .normal a w):after F m P ks Q .normal a w:=by
 subst h;exact hq
theorem ent_fn {lo:Nat}{w0:World}(hG:Gr w0) (hlo:lo<=w0.heap.size) {f:FuncId}{args:List (Pat Dx)}(ps:Nat->List (Pat Dx)) (hsub:∀ hi,lo<=hi->∃ ob,yA (Cx true lo w0) (ps lo) (ps hi)=some ob/\jk ob)
 (h:∀ w vs,Gr w->cG (W0 w) w args vs->Enters Tryz.prog f/\Calls Tryz.prog f vs.toArray w (fun en w'=>∃ v,en=.returned v/\Res (W0 w) (ps w.heap.size) v w')) (hE:Enters Tryz.prog f):jF (Cx true lo w0) (.call f) args (UX (ps lo)):=by
 refine⟨hE,fun w vs hb hvs=>?_⟩;refine(h w vs (hG.below hb hG.size) (cao hvs)).2.mono ?_;rintro en w' ⟨v,rfl,h1,h2⟩;refine⟨v,rfl,h1,?_⟩;obtain⟨ob,h3,h4⟩:=hsub w.heap.size (le_trans hlo hb.size);intro S hS w'' hs hk;have h5:=rob_cx (lo':=lo) (w0':=w0) h2 S hS w'' hs hk;have hC:=cx_ok (b:=true) hlo;revert h3 h5;generalize ps lo=a;generalize ps w.heap.size=c;intro h3 h5;unfold UX at h5 ⊢;split at h5
 ·rename_i p
  match a,h3 with
  |[q],h3 =>
   have:=Ch hC h3 h4 (vs:=[v]) ⟨v,[],rfl,h5,rfl⟩;obtain⟨x,y,e1,e2,e3⟩:=this;injection e1 with e1 _
   subst e1;exact e2
  |[],h3=>simp [yA] at h3
  |_::q::r,h3 =>
   obtain⟨x,y,q1,q2,_⟩:=kH h3;simp [yA] at q2
 ·rename_i hne
  match a,h3 with
  |[q],h3 =>
   exfalso
   match c,h3,hne with
   |[],h3,_=>simp [yA] at h3
   |[p],_,hne=>exact hne p rfl
   |_::_::_,h3,_ =>
    obtain⟨x,y,q1,q2,_⟩:=kH h3;simp [yA] at q2
  |[],h3=>obtain⟨us,q1,q2⟩:=h5;exact⟨us,Ch hC h3 h4 q1,q2⟩
  |q1::q2::r,h3=>obtain⟨us,p1,p2⟩:=h5;exact⟨us,Ch hC h3 h4 p1,p2⟩
def CE (args:List (Pat Dx)) (res:cT Dx):Con:=fun l=>some (res,[l=args])
theorem kp {bb:Bool}{lo:Nat}{w0:World}{f:Nat}{args:List (Pat Dx)}{res:cT Dx}(h:jF (Cx bb lo w0) (.call f) args res):∀ l r ob,CE args res l=some (r,ob)->jk ob->jF (Cx bb lo w0) (.call f) l r:=by
 intro l r ob hl ho;unfold CE at hl;injection hl with hl;injection hl with h1 h2;subst h1;subst h2
 rw[show l=args from ho.1];exact h
def lst {α:Type}[Inhabited α] (lo ty z:Nat) (xs:List α) (f:α->List (Grp Dx)):Lt Dx:=⟨lo,ty,z,xs.length,fun j=>f (xs.getD j default)⟩
section
variable {C:Ctx Dx}{b:Bool}{lo:Nat}{w0:World}
theorem cR {n:Nat}{g:Nat->List (Grp Dx)}{x:List (Grp Dx)}(h:x=g n):∀ j,j<n+1->jw C (g j) (UR n g (fun _=>x) j):=by
 intro j hj w vs hv;unfold UR at hv;split at hv
 ·exact hv
 ·rename_i hn;have:j=n:=by
   rcases lt_or_ge j n with h1|h1
   ·rw[show Nat.blt j n=true from Nat.ble_eq_true_of_le h1] at hn;cases hn
   ·omega
  rw[h,← this] at hv;exact hv
theorem EK {r s:Rat}{j k:Nat}(h:s=r) (hk:k<=j):cE (Cx b lo w0) (.q r j) (.q s k):=by
 intro w l hl;have hl:DIs w (.q s k) l:=hl;subst h;cases hl with
 |q h1 h2 h3=>exact .q h1 h2 (h3.le hk)
theorem sub_r {r s:Rat}{j k:Nat}(h:s=r) (hk:k<=j):cE (Cx b lo w0) (.rq r j) (.rq s k):=by
 intro w l hl;have hl:DIs w (.rq s k) l:=hl;subst h;cases hl with
 |rq h1 h2 h3=>exact .rq h1 h2 (h3.le hk)
theorem cad {r:Rat}{k:Nat}(h:r=0) (hk:1<=k):jw (Cx b lo w0) [.cls (.q r k)] [.lit (.bool false),.lit (.int .u64 0),.lit (.int .u64 0),.lit (.pointer none)]:=by
 intro w vs hv;subst h;obtain⟨xs,ys,rfl,h1,h2⟩:=Wm (b:=b) (lo:=lo) (w0:=w0) (gs':=[]) (r:=0) (k:=1) rfl hv;rw[show ys=[] from h2];exact WU (.cls (EK (b:=b) (lo:=lo) (w0:=w0) (r:=0) (j:=k) rfl hk w xs h1) .nil)
end
end Pe
namespace Pe
abbrev Tx:=List UInt8
abbrev nq (l:Tx):Rat:=(jD l).1
noncomputable abbrev codeOf (fn:Func):Code:=fn.body.getD .skip
abbrev ii (n:Int):Value:=.int .i64 n
abbrev P3:=Tx×Tx×Tx
abbrev f3 (x:P3):List (Grp Dx):=[.lit (str x.1),.lit (str x.2.1),.lit (str x.2.2)]
abbrev fr (x:P3):List (Grp Dx):=[.cls (.rq (nq x.1) 4),.cls (.rq (nq x.2.1) 4)]
noncomputable abbrev run (w:World) (o:Opt) (f nt:Nat) (ks:List Kp) (st st':St Dx):Option (Xt×List Prop):=runTo (W0 w) (TY o) (yU (Sx true w.heap.size) (TY o) 300 30).1 (yU (Sx true w.heap.size) (TY o) 300 30).2 nt f false 300 (caG ks) st st'
noncomputable abbrev runR (w:World) (o:Opt) (f nt:Nat) (fn:Func) (ks:List Kp) (st:St Dx) (ps:List (Pat Dx)):Option (Xt×List Prop):=cdV (W0 w) (TY o) (yU (Sx true w.heap.size) (TY o) 300 30).1 (yU (Sx true w.heap.size) (TY o) 300 30).2 nt f false 300 (caG ks) fn.results.toList st ps
abbrev jr : Prop := ∀ (f : Nat) (fn : Func), Tryz.prog.funcs[f]? = some fn → (fn.name == "runtime.NumGoroutine") = false
end Pe
namespace Pe
def stA (args:List (Pat Dx)):St Dx:=match yL Dx.n 0 args with
 |some (xs,ws,n0)=>⟨n0,yT 0 (jM xs),ws,[]⟩
 |none=>⟨0,[],[],[]⟩
def lenA (args:List (Pat Dx)) (n:Nat):Bool:=match yL Dx.n 0 args with
 |some (xs,_,_)=>Nat.ble (jM xs).length n
 |none=>false
theorem yC {w:World}(hG:Gr w) (hN:jr) {ex:List (Nat×Con)}(hE:EN true w.heap.size w ex) {f:FuncId}{fn:Func}{c:Code}(hfn:Tryz.prog.funcs[f]?=some fn) (hbody:fn.body=some c) {args:List (Pat Dx)}(hm:lenA args fn.ntmps=true)
 {vs:List Value} (hp:cG (W0 w) w args vs) {ps:List (Pat Dx)} (hwp:(∀ o:Opt,o.ex=ex->Ck (W0 w) (TY o))->∀ a,At (W0 w) fn.ntmps (stA args) a w->after Fence.wide 0 Tryz.prog [.code c] (Ret (W0 w) fn (Res (W0 w) ps)) .normal a w) :
 Enters Tryz.prog f/\Calls Tryz.prog f vs.toArray w (fun en w'=>∃ v,en=.returned v/\Res (W0 w) ps v w'):=by
 unfold lenA at hm;split at hm
 ·rename_i xs ws n0 h0;refine fn_ok hG hN hE hfn hbody h0 hm hp (fun hR a hA=>hwp hR a ?_);unfold stA;rw[h0];exact hA
 ·cases hm
abbrev zy (f:Nat) (args:List (Pat Dx)) (ps:Nat->List (Pat Dx)):Prop:=∀ w vs,Gr w->cG (W0 w) w args vs->Enters Tryz.prog f/\Calls Tryz.prog f vs.toArray w (fun en w'=>∃ v,en=.returned v/\Res (W0 w) (ps w.heap.size) v w')
section
variable {lo:Nat}{w0:World}{f:Nat}{args:List (Pat Dx)}
theorem zy.ent {ps:Nat->List (Pat Dx)}(h:zy f args ps) (hG:Gr w0) (hlo:lo<=w0.heap.size) (hE:Enters Tryz.prog f) (hsub:∀ hi,lo<=hi->∃ ob,yA (Cx true lo w0) (ps lo) (ps hi)=some ob/\jk ob):jF (Cx true lo w0) (.call f) args (UX (ps lo)):=ent_fn hG hlo ps hsub h hE
theorem zy.val {v:Value}(h:zy f args (fun _=>[.one (.lit v)])) (hG:Gr w0) (hlo:lo<=w0.heap.size) (hE:Enters Tryz.prog f):jF (Cx true lo w0) (.call f) args (vr v) :=
 h.ent hG hlo hE (fun _ _=>⟨_,rfl,rfl,trivial⟩)
end
abbrev R2:=Rat×Rat
abbrev pQ (r:Rat) (k:Nat):Pat Dx:=.agg [.cls (.q r k)]
abbrev pI (i:Int):Pat Dx:=.one (.lit (.int .i64 i))
abbrev pF (f:Nat):Pat Dx:=.one (.lit (.func (.func f) #[] #[]))
abbrev rB (b:Bool):List (Pat Dx):=[.one (.lit (.bool b))]
abbrev rI (i:Int):List (Pat Dx):=[.one (.lit (.int .i64 i))]
theorem cF (n:Nat):Int.ofNat n=(n:Int):=rfl
section
variable {w w1:World}{o:Opt}{f nt:Nat}{ks:List Kp}{st st':St Dx}{x:Xt}{ob:List Prop}{a:Act}{Q:Exit->Act->World->Prop}
theorem jV (h:run w o f nt ks st st'=some (x,ob)) (hR:Ck (W0 w) (TY o)) (hA:At (W0 w) nt st a w1) (hQ:∀ a' w',At (W0 w) nt st' a' w'->after Fence.wide 0 (W0 w).P (caM ks) Q x.to a' w') (ho:jk ob:=by (repeat' (first|exact trivial|apply And.intro))<;>first|exact cE.refl _ _|exact fun _ _=>jw.refl _ _|exact cR rfl|exact cQ _ _|exact cP _ _|(with_reducible assumption)|omega|with_reducible rfl|(simp only[cF];omega)|(intro j hj;exact absurd hj (not_lt_zero _))|exact EK rfl (by omega)|exact sub_r rfl (by omega)|exact cad rfl (by omega)|exact decide_eq_true rfl|exact decide_eq_true (by omega)|assumption|rfl):after Fence.wide 0 (W0 w).P ks Q .normal a w1:=run_is hR (.inl rfl) (fun _=>rfl) h ho hA hQ
theorem jp {fn:Func}{ps:List (Pat Dx)}(h:runR w o f nt fn ks st ps=some (.ret,ob)) (hR:Ck (W0 w) (TY o)) (hA:At (W0 w) nt st a w1) (ho:jk ob:=by (repeat' (first|exact trivial|apply And.intro))<;>first|exact cE.refl _ _|exact fun _ _=>jw.refl _ _|exact cR rfl|exact cQ _ _|exact cP _ _|(with_reducible assumption)|omega|with_reducible rfl|(simp only[cF];omega)|(intro j hj;exact absurd hj (not_lt_zero _))|exact EK rfl (by omega)|exact sub_r rfl (by omega)|exact cad rfl (by omega)|exact decide_eq_true rfl|exact decide_eq_true (by omega)|assumption|rfl) (hQ:∀ a' w',Ret (W0 w) fn (Res (W0 w) ps) .ret a' w'->Q .ret a' w':=by exact fun _ _ h=>h):after Fence.wide 0 (W0 w).P ks Q .normal a w1:=ced hR (.inl rfl) (fun _=>rfl) h ho hA hQ
end
theorem sub_ext {C:Ctx Dx}{b:Bool}{lo:Nat}{w0:World}(hC:C=Cx b lo w0) {L L':Lt Dx}(h1:L'.lo<=L.lo) (h2:L'.ty=L.ty) (h3:L'.z=L.z) (h4:L'.n=L.n) (h5:∀ j,j<L.n->L'.g j=L.g j):cE C (.ls L') (.ls L):=by
 subst hC;intro w l hl;have hl:DIs w (.ls L) l:=hl;show DIs w (.ls L') l;obtain⟨lo',ty',z',n',g'⟩:=L';obtain⟨lo1,ty1,z1,n1,g1⟩:=L;simp only at h1 h2 h3 h4 h5;subst h2;subst h3;subst h4;cases hl with
 |nil h=>exact .nil h
 |ls k o c arr pre vs rest q2 q3 q4 q5 q6 q7 q8 q9=>exact .ls k o c arr pre vs rest q2 q3 q4 q5 q6 (le_trans h1 q7) q8 (fun j hj=>by rw[show (Lt.mk lo' ty' z' n' g').g j=g1 j from h5 j hj];exact q9 j hj)
theorem cfb {b:Bool}{lo:Nat}{w0:World}{α β:Type}[Inhabited α] [Inhabited β] {a ty z:Nat}{xs:List α}{h:α->β}{f:α->List (Grp Dx)}{f':β->List (Grp Dx)}(hf:∀ x,f' (h x)=f x):cE (Cx b lo w0) (.ls (lst a ty z (xs.map h) f')) (.ls (lst a ty z xs f)):=by
 refine sub_ext rfl (le_refl _) rfl rfl (by simp [lst]) (fun j hj=>?_);have hj:j<xs.length:=hj;show f' ((xs.map h).getD j default)=f (xs.getD j default);rw[← hf,List.getD_eq_getElem?_getD,List.getD_eq_getElem?_getD,List.getElem?_map,List.getElem?_eq_getElem hj];rfl
end Pe
namespace Pe
section
variable {w:World}{lo1 lo2:Nat}{ps as':List P3}{t:Tx}
end
end Pe
end Go.Proofs.YtobfdjojhfpakaaGreatDoor
