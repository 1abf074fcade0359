/- Part 29. -/
import Derived.Test.YtolcmngcebnjdaaGreatDoorW28
set_option linter.all false
open Bool (and_eq_true eq_false_or_eq_true)
open Nat (eq_of_beq_eq_true le_refl le_trans lt_or_ge not_lt_zero zero_le)
noncomputable section

namespace Go.Proofs.YtolcmngcebnjdaaGreatDoor
open Go Go.RowKit Go.Proofs
namespace Pe
variable {D:Type}
inductive Kp where
 |code (c:Code)
 |endB (id:Nat)
section
variable (F:Fence) (m:Nat) (P:Program)
def after:List Kp->(Exit->Act->World->Prop)->Exit->Act->World->Prop
 |[],Q=>Q
 |.code c::ks,Q=>Exit.then (fun a w=>c.wpIn F m P (after ks Q) a w) (after ks Q)
 |.endB id::ks,Q=>Exit.inBlock id (after ks Q)
end
def CQ:Code->Bool
 |.loop _=>true
 |.seq x y=>match CQ x with
  |true=>true
  |false=>CQ y
 |.block _ c=>CQ c
 |.cond _ c d=>match CQ c with
  |true=>true
  |false=>CQ d
 |_=>false
def isLoop:Code->Bool
 |.loop _=>true
 |_=>false
def kC:Nat->List Kp->List Code×List Kp
 |n+1,.code (.seq x y)::ks=>kC n (.code x::.code y::ks)
 |n+1,.code c::ks=>match CQ c with
  |true=>([],.code c::ks)
  |false=>match kC n ks with
   |(l,r)=>(c::l,r)
 |_,ks=>([],ks)
def cbC (ks:List Kp):List Code:=(kC 1000 ks).1
def ccm (ks:List Kp):List Kp:=(kC 1000 ks).2
def ccR:Nat->List Kp->List Kp
 |n+1,.endB _::ks=>ccR n ks
 |n+1,.code (.block id c)::ks=>match isLoop c with
  |true=>.code (.block id c)::ks
  |false=>match CQ c with
   |true=>ccR n (.code c::.endB id::ks)
   |false=>.code (.block id c)::ks
 |_,ks=>ks
def next (ks:List Kp):List Kp:=ccR 100 (ccm ks)
def kj:List Kp->Code
 |.code (.block _ (.loop c))::_=>c
 |_=>.skip
def popK (j:Nat):List Kp->List Kp
 |.endB id::ks=>match Nat.beq j id with
  |true=>ks
  |false=>popK j ks
 |_::ks=>popK j ks
 |[]=>[]
def Zv (j:Nat):List Kp->Bool
 |.endB id::ks=>match Nat.beq j id with
  |true=>true
  |false=>Zv j ks
 |_::ks=>Zv j ks
 |[]=>false
def Ct (S:Stat D) (TT:FuncId->Tab D) (CF YF:cw D) (nt:Nat) (base:cG D) (fid:FuncId) (inR:Bool) (n:Nat):List Code->St D->Ran D
 |[],st=>some (.normal,st,[])
 |c::l,st=>match uc S TT CF YF nt base fid inR n c st with
  |some (.normal,st',ob)=>match Ct S TT CF YF nt base fid inR n l st' with
   |some (x,st2,ob2)=>some (x,st2,ob++ob2)
   |none=>none
  |r=>r
def runTo (C:Ctx D) (TT:FuncId->Tab D) (CF YF:cw D) (nt:Nat) (fid:FuncId) (inR:Bool) (n:Nat) (l:List Code) (st st':St D):Option (Xt×List Prop) :=
 match Ct C.toStat TT CF YF nt (fun b=>find b st.m) fid inR n l ⟨st.nb,st.sl,[],st.ms⟩ with
 |some (x,s1,ob)=>match fitTo C (st.join s1) st' with
  |some ob2=>some (x,ob++ob2)
  |none=>none
 |none=>none
section
variable {F:Fence}{m:Nat}{C:Ctx D}{TT:FuncId->Tab D}{CF YF:cw D}{nt:Nat}{fid:FuncId}{inR:Bool}{Q:Exit->Act->World->Prop}{a:Act}{w:World}{st st':St D}
theorem Wm:∀ (ks:List Kp) {a:Act}{w:World},Q .ret a w->after F m C.P ks Q .ret a w
 |[],_,_,h=>h
 |.code _::ks,_,_,h=>Wm ks h
 |.endB _::ks,_,_,h=>Wm ks h
theorem ki {j:Nat}:∀ (ks:List Kp) {a:Act}{w:World},Zv j ks=false->Q (.exit j) a w->after F m C.P ks Q (.exit j) a w
 |[],_,_,_,hq=>hq
 |.code _::ks,_,_,h,hq=>ki ks (by simpa [Zv] using h) hq
 |.endB id::ks,_,_,h,hq=>by
  simp only[Zv] at h;simp only[after,Exit.inBlock];split at h
  ·cases h
  ·rename_i hj;rw[if_neg (fun e=>by subst e;simp at hj)];exact ki ks h hq
theorem cds (hW:Wd F) (hR:inR=false->F=Fence.wide) (hC:C.Ok) (hT:∀ f,(TT f).Ok C) (hF:CF.Ok C) (hFm:CF.Mono) (hY:yV C YF) (hYm:YF.Mono) {e0:Env}{w0:World}{n0:Nat}{base:cG D}(hb:jl C e0 w0 base) {B:Nat}(hfree:kZ n0 B e0) {n:Nat} :
 ∀ (k:Nat) (ks:List Kp) (st:St D) (x:Xt) (st':St D) (ob:List Prop),Ct C.toStat TT CF YF nt base fid inR n (kC k ks).1 st=some (x,st',ob)->jH ob->st'.nb<=B->
 ∀ a w,Sat C nt e0 w0 n0 st a w->(∀ a' w',Sat C nt e0 w0 n0 st' a' w'->after F m C.P (kC k ks).2 Q x.to a' w')->after F m C.P ks Q .normal a w:=by
 have stop:∀ (ks:List Kp) (st:St D) (x:Xt) (st':St D) (ob:List Prop),Ct C.toStat TT CF YF nt base fid inR n [] st=some (x,st',ob)->∀ a w,Sat C nt e0 w0 n0 st a w->(∀ a' w',Sat C nt e0 w0 n0 st' a' w'->after F m C.P ks Q x.to a' w')->after F m C.P ks Q .normal a w:=by
  intro ks st x st' ob h a w hs hQ;simp only[Ct,Option.some.injEq,Prod.mk.injEq] at h;obtain⟨rfl,rfl,rfl⟩:=h;exact hQ a w hs
 have one:∀ (k:Nat) (c:Code) (ks:List Kp) (ih:∀ (st:St D) (x:Xt) (st':St D) (ob:List Prop),Ct C.toStat TT CF YF nt base fid inR n (kC k ks).1 st=some (x,st',ob)->jH ob->st'.nb<=B->
  ∀ a w,Sat C nt e0 w0 n0 st a w->(∀ a' w',Sat C nt e0 w0 n0 st' a' w'->after F m C.P (kC k ks).2 Q x.to a' w')->after F m C.P ks Q .normal a w) (out:∀ (x:Xt) a w,x≠.normal->after F m C.P (kC k ks).2 Q x.to a w->after F m C.P ks Q x.to a w)
  (hle:∀ st x st' ob,Ct C.toStat TT CF YF nt base fid inR n (kC k ks).1 st=some (x,st',ob)->st.nb<=st'.nb)
  (st:St D) (x:Xt) (st':St D) (ob:List Prop),Ct C.toStat TT CF YF nt base fid inR n (c::(kC k ks).1) st=some (x,st',ob)->jH ob->st'.nb<=B->
  ∀ a w,Sat C nt e0 w0 n0 st a w->(∀ a' w',Sat C nt e0 w0 n0 st' a' w'->after F m C.P (kC k ks).2 Q x.to a' w')->c.wpIn F m C.P (after F m C.P ks Q) a w:=by
  intro k c ks ih out hle st x st' ob h ho hB a w hs hQ;simp only[Ct] at h;split at h
  ·rename_i st1 ob1 h1;split at h
   ·rename_i x2 st2 ob2 h2;injection h with h;simp only[Prod.mk.injEq] at h
    obtain⟨rfl,rfl,rfl⟩:=h;obtain⟨o1,o2⟩:=ho.append;refine wpIn_mono (jR hW hR hC hT hF hFm hY hYm hb hfree n c st _ st1 ob1 h1 o1 (le_trans (hle _ _ _ _ h2) hB) a w hs) ?_;rintro e a' w' ⟨rfl,hs'⟩;exact ih st1 x2 st2 ob2 h2 o2 hB a' w' hs' hQ
   ·cases h
  ·rename_i hne;refine wpIn_mono (jR hW hR hC hT hF hFm hY hYm hb hfree n c st _ _ _ h ho hB a w hs) ?_;rintro e a' w' ⟨rfl,hs'⟩;exact out x a' w' (fun hx=>by subst hx;exact hne _ _ h) (hQ a' w' hs')
 have outs:∀ (k:Nat) (ks:List Kp) (x:Xt) a w,x≠.normal->after F m C.P (kC k ks).2 Q x.to a w->after F m C.P ks Q x.to a w:=by
  intro k
  induction k with
  |zero=>intro ks x a w _ h;cases ks<;>exact h
  |succ k ih =>
   intro ks x a w hx h
   match ks with
   |[]=>exact h
   |.endB id::ks=>exact h
   |.code c::ks =>
    have pass:∀ (c:Code) (ks:List Kp),after F m C.P ks Q x.to a w->after F m C.P (.code c::ks) Q x.to a w:=by
     intro c ks h;cases x with
     |normal=>exact absurd rfl hx
     |exit j=>exact h
     |ret=>exact h
    have gen:∀ c:Code,(∀ x y,c≠.seq x y)->after F m C.P (kC (k+1) (.code c::ks)).2 Q x.to a w->after F m C.P (.code c::ks) Q x.to a w:=by
     intro c hc h;have hg:kC (k+1) (.code c::ks)=(match CQ c with
      |true=>([],.code c::ks)
      |false=>match kC k ks with
       |(l,r)=>(c::l,r)):=by
      cases c<;>first|rfl|exact absurd rfl (hc _ _)
     rw[hg] at h;split at h
     ·exact h
     ·exact pass c ks (ih ks x a w hx h)
    cases c with
    |seq y z =>
     have:=ih (.code y::.code z::ks) x a w hx h;cases x with
     |normal=>exact absurd rfl hx
     |exit j=>exact this
     |ret=>exact this
    |_=>exact gen _ (by simp) h
 have les:∀ (l:List Code) (st:St D) (x:Xt) (st':St D) (ob:List Prop),Ct C.toStat TT CF YF nt base fid inR n l st=some (x,st',ob)->st.nb<=st'.nb:=by
  intro l
  induction l with
  |nil=>intro st x st' ob h;simp only[Ct,Option.some.injEq,Prod.mk.injEq] at h;rw[h.2.1];exact le_refl _
  |cons c l ih =>
   intro st x st' ob h;simp only[Ct] at h;split at h
   ·rename_i st1 ob1 h1;split at h
    ·rename_i x2 st2 ob2 h2;injection h with h;simp only[Prod.mk.injEq] at h
     obtain⟨rfl,rfl,rfl⟩:=h;exact le_trans (kD hFm hYm _ _ _ _ _ _ h1) (ih _ _ _ _ h2)
    ·cases h
   ·exact kD hFm hYm _ _ _ _ _ _ h
 intro k
 induction k with
 |zero=>intro ks st x st' ob h ho hB a w hs hQ;cases ks<;>exact stop _ st x st' ob h a w hs hQ
 |succ k ih =>
  intro ks st x st' ob h ho hB a w hs hQ
  match ks with
  |[]=>exact stop _ st x st' ob h a w hs hQ
  |.endB id::ks=>exact stop _ st x st' ob h a w hs hQ
  |.code c::ks =>
   have gen:∀ c:Code,(∀ x y,c≠.seq x y)->Ct C.toStat TT CF YF nt base fid inR n (kC (k+1) (.code c::ks)).1 st=some (x,st',ob)->(∀ a' w',Sat C nt e0 w0 n0 st' a' w'->after F m C.P (kC (k+1) (.code c::ks)).2 Q x.to a' w')->after F m C.P (.code c::ks) Q .normal a w:=by
    intro c hc h hQ;have hg:kC (k+1) (.code c::ks)=(match CQ c with
     |true=>([],.code c::ks)
     |false=>match kC k ks with
      |(l,r)=>(c::l,r)):=by
     cases c<;>first|rfl|exact absurd rfl (hc _ _)
    rw[hg] at h hQ;split at h
    ·rename_i hl;rw[hl] at hQ;exact stop _ st x st' ob h a w hs hQ
    ·rename_i hl;rw[hl] at hQ;exact one k c ks (ih ks) (outs k ks) (les _) st x st' ob h ho hB a w hs hQ
   cases c with
   |seq y z =>
    show (Code.seq y z).wpIn F m C.P (after F m C.P ks Q) a w;apply wpIn_seq;exact ih (.code y::.code z::ks) st x st' ob h ho hB a w hs hQ
   |_=>exact gen _ (by simp) h hQ
theorem run_is (hR:KF C TT) (hW:Wd F) (hI:inR=false->F=Fence.wide) {g d n:Nat}{ks:List Kp}{x:Xt}{ob:List Prop}(h:runTo C TT (zY C.toStat TT g d).1 (zY C.toStat TT g d).2 nt fid inR n (cbC ks) st st'=some (x,ob)) (ho:jH ob)
 (hA:At C nt st a w) (hQ:∀ a' w',At C nt st' a' w'->after F m C.P (ccm ks) Q x.to a' w'):after F m C.P ks Q .normal a w:=by
 unfold runTo at h;split at h
 rotate_left
 ·cases h
 rename_i x1 s1 ob1 he;split at h
 rotate_left
 ·cases h
 rename_i ob2 hf;injection h with h;simp only[Prod.mk.injEq] at h;obtain⟨rfl,rfl⟩:=h
 obtain⟨o1,o2⟩:=ho.append;obtain⟨⟨e,hg,hM,hV,hfr,hmk⟩,hsz⟩:=hA;have hFm:=(kh (S:=C.toStat) (TT:=TT) (g:=g) d).1;have hYm:=(kh (S:=C.toStat) (TT:=TT) (g:=g) d).2;have hle:(⟨st.nb,st.sl,[],st.ms⟩:St D).nb<=s1.nb:=execL_le he;have hle:st.nb<=s1.nb:=hle;refine cds hW hI hR.ok hR.tab (CZ hR.ok hR.name hR.tab d).1 hFm (CZ hR.ok hR.name hR.tab d).2 hYm hM (B:=s1.nb) (fun b h1 _=>hfr b h1) 1000 ks _ x1 s1 ob1 he o1 (le_refl _) a w ⟨⟨e,ul.refl hg _,hV,hmk⟩,hsz⟩ ?_;rintro a' w' ⟨⟨e',hL,hV',hmk'⟩,hsz'⟩;refine hQ a' w' (cjL hR.ok hf o2 ⟨⟨e',hL.good,fun b o ho=>?_,hV',fun b hb=>?_,hmk'⟩,hsz'⟩)
 ·exact uv hM hL b o (by rw[cai];exact ho)
 ·obtain⟨q1,q2,q3⟩:=hfr b (le_trans hle hb);have hb:s1.nb<=b:=hb;refine⟨?_,?_,?_⟩
  ·cases hx:e'.ρ b with
   |none=>rfl
   |some y =>
    rcases hL.new.ρ b y hx with h|h
    ·rw[q1] at h;cases h
    ·omega
  ·cases hx:e'.ν b with
   |none=>rfl
   |some y =>
    rcases hL.new.ν b y hx with h|h
    ·rw[q2] at h;cases h
    ·omega
  ·cases hx:e'.φ b with
   |none=>rfl
   |some y =>
    rcases hL.new.φ b y hx with h|h
    ·rw[q3] at h;cases h
    ·omega
where
 execL_le {l:List Code} {base:cG D} {n d g:Nat} {st st':St D} {x:Xt} {ob:List Prop} (h:Ct C.toStat TT (zY C.toStat TT g d).1 (zY C.toStat TT g d).2 nt base fid inR n l st=some (x,st',ob)):st.nb<=st'.nb:=by
  induction l generalizing st st' x ob with
  |nil=>simp only[Ct,Option.some.injEq,Prod.mk.injEq] at h;rw[h.2.1];exact le_refl _
  |cons c l ih =>
   simp only[Ct] at h;split at h
   ·rename_i st1 ob1 h1;split at h
    ·rename_i x2 st2 ob2 h2;injection h with h;simp only[Prod.mk.injEq] at h
     obtain⟨rfl,rfl,rfl⟩:=h;exact le_trans (kD (kh d).1 (kh d).2 _ _ _ _ _ _ h1) (ih h2)
    ·cases h
   ·exact kD (kh d).1 (kh d).2 _ _ _ _ _ _ h
theorem cco:∀ (n:Nat) (ks:List Kp) {a:Act}{w:World},after F m C.P (ccR n ks) Q .normal a w->after F m C.P ks Q .normal a w
 |0,ks,a,w,h=>by cases ks<;>exact h
 |n+1,[],a,w,h=>h
 |n+1,.endB id::ks,a,w,h=>cco n ks h
 |n+1,.code c::ks,a,w,h=>by
  cases c with
  |block id c =>
   unfold ccR at h;split at h
   ·exact h
   ·split at h
    ·exact wpIn_block (cco n (.code c::.endB id::ks) h)
    ·exact h
  |_=>exact h
theorem uk {ks:List Kp}(h:after F m C.P (next ks) Q .normal a w):after F m C.P (ccm ks) Q .normal a w:=cco _ _ h
theorem uC {Θ:Type}(I:Θ->St D) (J:Θ->Prop) (μ:Θ->Nat) {id:Nat}{c:Code}{L ks:List Kp}(hL:L=.code (.block id (.loop c))::ks) (θ0:Θ) (h0:J θ0) (hA:At C nt (I θ0) a w)
 (hr:∀ θ a w,J θ->At C nt (I θ) a w->after F m C.P [.code c] (Exit.then (fun a' w'=>∃ θ',J θ'/\At C nt (I θ') a' w'/\μ θ'<μ θ) (Exit.inBlock id (after F m C.P ks Q))) .normal a w):after F m C.P L Q .normal a w:=by
 subst hL;exact loop_at I J μ θ0 h0 hA hr
end
def ceY (C:Ctx D) (TT:FuncId->Tab D) (CF YF:cw D) (nt:Nat) (fid:FuncId) (inR:Bool) (n:Nat) (l:List Code) (rs:List ResultVar) (st:St D) (ps:List (Pat D)):Option (Xt×List Prop) :=
 match Ct C.toStat TT CF YF nt (fun b=>find b st.m) fid inR n l ⟨st.nb,st.sl,[],st.ms⟩ with
 |some (.ret,s1,ob)=>match retTo C rs (st.join s1) ps with
  |some ob2=>some (.ret,ob++ob2)
  |none=>none
 |_=>none
section
variable {F:Fence}{m:Nat}{C:Ctx D}{TT:FuncId->Tab D}{CF YF:cw D}{nt:Nat}{fid:FuncId}{inR:Bool}{Q:Exit->Act->World->Prop}{a:Act}{w:World}{st st':St D}
theorem cA (hR:KF C TT) (hW:Wd F) (hI:inR=false->F=Fence.wide) {g d n:Nat}{ks:List Kp}{fn:Func}{ps:List (Pat D)}{ob:List Prop}(h:ceY C TT (zY C.toStat TT g d).1 (zY C.toStat TT g d).2 nt fid inR n (cbC ks) fn.results.toList st ps=some (.ret,ob)) (ho:jH ob)
 (hA:At C nt st a w) (hQ:∀ a' w',Ret C fn (Res C ps) .ret a' w'->Q .ret a' w'):after F m C.P ks Q .normal a w:=by
 unfold ceY at h;split at h
 rotate_left
 ·cases h
 rename_i s1 ob1 he;split at h
 rotate_left
 ·cases h
 rename_i ob2 hf;injection h with h;simp only[Prod.mk.injEq] at h;obtain⟨_,rfl⟩:=h
 obtain⟨o1,o2⟩:=ho.append;obtain⟨⟨e,hg,hM,hV,hfr,hmk⟩,hsz⟩:=hA;have hFm:=(kh (S:=C.toStat) (TT:=TT) (g:=g) d).1;have hYm:=(kh (S:=C.toStat) (TT:=TT) (g:=g) d).2;have hle:(⟨st.nb,st.sl,[],st.ms⟩:St D).nb<=s1.nb:=run_is.execL_le he;have hle:st.nb<=s1.nb:=hle;refine cds hW hI hR.ok hR.tab (CZ hR.ok hR.name hR.tab d).1 hFm (CZ hR.ok hR.name hR.tab d).2 hYm hM (B:=s1.nb) (fun b h1 _=>hfr b h1) 1000 ks _ .ret s1 ob1 he o1 (le_refl _) a w ⟨⟨e,ul.refl hg _,hV,hmk⟩,hsz⟩ ?_;rintro a' w' ⟨⟨e',hL,hV',hmk'⟩,hsz'⟩;refine Wm _ (hQ a' w' (ret_at hR.ok hf o2 (nt:=nt) ⟨⟨e',hL.good,fun b o ho=>?_,hV',fun b hb=>?_,hmk'⟩,hsz'⟩ (.inl rfl)))
 ·exact uv hM hL b o (by rw[cai];exact ho)
 ·obtain⟨q1,q2,q3⟩:=hfr b (le_trans hle hb);have hb:s1.nb<=b:=hb;refine⟨?_,?_,?_⟩
  ·cases hx:e'.ρ b with
   |none=>rfl
   |some y =>
    rcases hL.new.ρ b y hx with h|h
    ·rw[q1] at h;cases h
    ·omega
  ·cases hx:e'.ν b with
   |none=>rfl
   |some y =>
    rcases hL.new.ν b y hx with h|h
    ·rw[q2] at h;cases h
    ·omega
  ·cases hx:e'.φ b with
   |none=>rfl
   |some y =>
    rcases hL.new.φ b y hx with h|h
    ·rw[q3] at h;cases h
    ·omega
end
end Pe
open Go Go.RowKit Go.Proofs Lim
namespace Pe
section
variable {b b':Bool}{lo lo':Nat}{w0 w0' w:World}
theorem YR:∀ {gs:List (Grp Dx)}{vs:List Value},cN (Cx b lo w0) w gs vs->cN (Cx b' lo' w0') w gs vs
 |[],_,h=>h
 |.lit _::_,_,h=>⟨h.1,YR h.2⟩
 |.cls _::_,_,h=>⟨h.1,YR h.2⟩
theorem pat_cx {p:Pat Dx}{v:Value}(h:p.is (Cx b lo w0) w v):p.is (Cx b' lo' w0') w v:=by
 cases p with
 |one g=>cases g<;>exact h
 |agg gs=>obtain⟨vs,h1,h2⟩:=h;exact⟨vs,YR h1,h2⟩
 |slc t n gs=>obtain⟨k,o,c,arr,pre,vs,rest,h1,h2,h3,h4,h5⟩:=h;exact⟨k,o,c,arr,pre,vs,rest,h1,h2,h3,h4,YR h5⟩
theorem cbZ:∀ {ps:List (Pat Dx)}{vs:List Value},cX (Cx b lo w0) w ps vs->cX (Cx b' lo' w0') w ps vs
 |[],_,h=>h
 |_::_,_,⟨v,ws,h1,h2,h3⟩=>⟨v,ws,h1,pat_cx h2,cbZ h3⟩
theorem rpat_cx {p:jc Dx}{v:Value}(h:p.is (Cx b lo w0) w v):p.is (Cx b' lo' w0') w v:=by
 cases p with
 |val p=>exact pat_cx h
 |tup ps=>obtain⟨vs,h1,h2⟩:=h;exact⟨vs,cbZ h1,h2⟩
theorem rob_cx {w1 w2:World}{p:jc Dx}{v:Value}(h:Zo (Cx b lo w0) w1 w2 p v):Zo (Cx b lo' w0') w1 w2 p v:=fun S hS w'' hs hk=>rpat_cx (h S hS w'' hs hk)
theorem Wn {w':World}(hk:∀ k,k<w.heap.size->w'.heap[k]?=w.heap[k]?):∀ {gs:List (Grp Dx)}{vs:List Value},cN (Cx b lo w0) w gs vs->cN (Cx b lo w0) w' gs vs
 |[],_,h=>h
 |.lit _::_,_,h=>⟨h.1,Wn hk h.2⟩
 |.cls _::_,_,h=>⟨DIs.grow hk h.1,Wn hk h.2⟩
theorem cjs {w':World}(hk:∀ k,k<w.heap.size->w'.heap[k]?=w.heap[k]?) {p:Pat Dx}{v:Value}(hn:noSlc p=true) (h:p.is (Cx b lo w0) w v):p.is (Cx b lo w0) w' v:=by
 cases p with
 |one g =>
  cases g with
  |lit x=>exact h
  |cls d=>exact DIs.grow hk h
 |agg gs=>obtain⟨vs,h1,h2⟩:=h;exact⟨vs,Wn hk h1,h2⟩
 |slc t n gs=>cases hn
theorem caC {w':World}(hk:∀ k,k<w.heap.size->w'.heap[k]?=w.heap[k]?):∀ {ps:List (Pat Dx)}{vs:List Value},Jt ps=true->cX (Cx b lo w0) w ps vs->cX (Cx b lo w0) w' ps vs
 |[],_,_,h=>h
 |p::ps,_,hn,⟨v,ws,h1,h2,h3⟩=>by
  unfold Jt at hn;split at hn
  ·rename_i h0;exact⟨v,ws,h1,cjs hk h0 h2,caC hk hn h3⟩
  ·cases hn
theorem Wo:∀ {ps:List (Pat Dx)}{csz:Dx->Nat}{s:Nat}{r:List A1×Ws Dx×Nat},Cd csz s ps=some r->Jt ps=true
 |[],_,_,_,_=>rfl
 |p::ps,csz,s,r,h=>by
  have:=GG h p (by simp);simp only[Cd] at h;split at h
  ·split at h
   ·rename_i h2;unfold Jt;cases p with
    |slc t n gs=>exact absurd rfl (this t n gs)
    |one g=>exact Wo h2
    |agg gs=>exact Wo h2
   ·cases h
  ·cases h
end
noncomputable abbrev W0 (w:World):Ctx Dx:=Cx true w.heap.size w
theorem fn_ok {w : World} (hG : Gr w) (hN : ∀ (f : Nat) (fn : Func), Tryz.prog.funcs[f]? = some fn → (fn.name == "runtime.NumGoroutine") = false) {ex : List (Nat × Con)} (hE : CU true w.heap.size w ex) {f : FuncId} {fn : Func} {c : Code} (hfn : Tryz.prog.funcs[f]? = some fn) (hbody : fn.body = some c) {args : List (Pat Dx)} {xs : List A1} {ws : Ws Dx} {n0 : Nat} (hm : Cd Dx.n 0 args = some (xs, ws, n0)) (hlen : Nat.ble (kF xs).length fn.ntmps = true)
 {vs:List Value} (hp:cX (W0 w) w args vs) {ps:List (Pat Dx)} (hwp:(∀ o:Opt,o.ex=ex->KF (W0 w) (TY o))->∀ a,At (W0 w) fn.ntmps ⟨n0,Ev 0 (kF xs),ws,[]⟩ a w->after Fence.wide 0 Tryz.prog [.code c] (Ret (W0 w) fn (Res (W0 w) ps)) .normal a w) :
 Enters Tryz.prog f/\Calls Tryz.prog f vs.toArray w (fun en w'=>∃ v,en=.returned v/\Res (W0 w) ps v w'):=by
 have hR:∀ o:Opt,o.ex=ex->KF (W0 w) (TY o):=fun o ho=>run_ok (le_refl _) hG hN (by rw[ho];exact hE);have hR0:=hR ⟨[],[],ex⟩ rfl;refine CB (C:=W0 w) hR0 hfn hbody hm hlen ?_ (fun a hA=>hwp hR a hA);exact ccI hR0.ok (W:=fun w'=>uJ env0 w w') w (uJ.refl _ _) (GG hm) (fun w' hk=>caC (fun k hk'=>hk.block k hk' (fun b=>by simp)) (Wo hm) hp)
theorem jY {F:Fence}{m:Nat}{P:Program}{Q:Exit->Act->World->Prop}{ks:List Kp}{a:Act}{w:World}(h:ks=[]) (hq:Q .normal a w):after F m P ks Q .normal a w:=by
 subst h;exact hq
theorem ent_fn {lo:Nat}{w0:World}(hG:Gr w0) (hlo:lo<=w0.heap.size) {f:FuncId}{args:List (Pat Dx)}(ps:Nat->List (Pat Dx)) (hsub:∀ hi,lo<=hi->∃ ob,zy (Cx true lo w0) (ps lo) (ps hi)=some ob/\jH ob)
 (h:∀ w vs,Gr w->cX (W0 w) w args vs->Enters Tryz.prog f/\Calls Tryz.prog f vs.toArray w (fun en w'=>∃ v,en=.returned v/\Res (W0 w) (ps w.heap.size) v w')) (hE:Enters Tryz.prog f):jz (Cx true lo w0) (.call f) args (Ym (ps lo)):=by
 refine⟨hE,fun w vs hb hvs=>?_⟩;refine(h w vs (hG.below hb hG.size) (cbZ hvs)).2.mono ?_;rintro en w' ⟨v,rfl,h1,h2⟩;refine⟨v,rfl,h1,?_⟩;obtain⟨ob,h3,h4⟩:=hsub w.heap.size (le_trans hlo hb.size);intro S hS w'' hs hk;have h5:=rob_cx (lo':=lo) (w0':=w0) h2 S hS w'' hs hk;have hC:=cx_ok (b:=true) hlo;revert h3 h5;generalize ps lo=a;generalize ps w.heap.size=c;intro h3 h5;unfold Ym at h5 ⊢;split at h5
 ·rename_i p
  match a,h3 with
  |[q],h3 =>
   have:=Ep hC h3 h4 (vs:=[v]) ⟨v,[],rfl,h5,rfl⟩;obtain⟨x,y,e1,e2,e3⟩:=this;injection e1 with e1 _
   subst e1;exact e2
  |[],h3=>simp [zy] at h3
  |_::q::r,h3 =>
   obtain⟨x,y,q1,q2,_⟩:=ug h3;simp [zy] at q2
 ·rename_i hne
  match a,h3 with
  |[q],h3 =>
   exfalso
   match c,h3,hne with
   |[],h3,_=>simp [zy] at h3
   |[p],_,hne=>exact hne p rfl
   |_::_::_,h3,_ =>
    obtain⟨x,y,q1,q2,_⟩:=ug h3;simp [zy] at q2
  |[],h3=>obtain⟨us,q1,q2⟩:=h5;exact⟨us,Ep hC h3 h4 q1,q2⟩
  |q1::q2::r,h3=>obtain⟨us,p1,p2⟩:=h5;exact⟨us,Ep hC h3 h4 p1,p2⟩
def uX (args:List (Pat Dx)) (res:jc Dx):Con:=fun l=>some (res,[l=args])
theorem jM {bb:Bool}{lo:Nat}{w0:World}{f:Nat}{args:List (Pat Dx)}{res:jc Dx}(h:jz (Cx bb lo w0) (.call f) args res):∀ l r ob,uX args res l=some (r,ob)->jH ob->jz (Cx bb lo w0) (.call f) l r:=by
 intro l r ob hl ho;unfold uX at hl;injection hl with hl;injection hl with h1 h2;subst h1;subst h2
 rw[show l=args from ho.1];exact h
def lst {α:Type}[Inhabited α] (lo ty z:Nat) (xs:List α) (f:α->List (Grp Dx)):Lt Dx:=⟨lo,ty,z,xs.length,fun j=>f (xs.getD j default)⟩
section
variable {C:Ctx Dx}{b:Bool}{lo:Nat}{w0:World}
theorem co {n:Nat}{g:Nat->List (Grp Dx)}{x:List (Grp Dx)}(h:x=g n):∀ j,j<n+1->cC C (g j) (Yi n g (fun _=>x) j):=by
 intro j hj w vs hv;unfold Yi at hv;split at hv
 ·exact hv
 ·rename_i hn;have:j=n:=by
   rcases lt_or_ge j n with h1|h1
   ·rw[show Nat.blt j n=true from Nat.ble_eq_true_of_le h1] at hn;cases hn
   ·omega
  rw[h,← this] at hv;exact hv
theorem UI {L:Lt Dx}{a c:Nat}(h:a<=c):ct (Cx b lo w0) (.ls { L with lo:=a }) (.ls { L with lo:=c }):=by
 intro w l hl;have hl:DIs w (.ls { L with lo:=c }) l:=hl;show DIs w (.ls { L with lo:=a }) l;cases hl with
 |nil h1=>exact .nil h1
 |ls k o cp arr pre vs rest h2 h3 h4 h5 h6 h7 h8 h9=>exact .ls k o cp arr pre vs rest h2 h3 h4 h5 h6 (le_trans h h7) h8 h9
theorem Yk {r s:Rat}{j k:Nat}(h:s=r) (hk:k<=j):ct (Cx b lo w0) (.q r j) (.q s k):=by
 intro w l hl;have hl:DIs w (.q s k) l:=hl;subst h;cases hl with
 |q h1 h2 h3=>exact .q h1 h2 (h3.le hk)
theorem ZA {r s:Rat}{j k:Nat}(h:s=r) (hk:k<=j):ct (Cx b lo w0) (.rq r j) (.rq s k):=by
 intro w l hl;have hl:DIs w (.rq s k) l:=hl;subst h;cases hl with
 |rq h1 h2 h3=>exact .rq h1 h2 (h3.le hk)
theorem zV {r:Rat}{k:Nat}(h:r=0) (hk:1<=k):cC (Cx b lo w0) [.cls (.q r k)] [.lit (.bool false),.lit (.int .u64 0),.lit (.int .u64 0),.lit (.pointer none)]:=by
 intro w vs hv;subst h;obtain⟨xs,ys,rfl,h1,h2⟩:=cgf (b:=b) (lo:=lo) (w0:=w0) (gs':=[]) (r:=0) (k:=1) rfl hv;rw[show ys=[] from h2];exact UM (.cls (Yk (b:=b) (lo:=lo) (w0:=w0) (r:=0) (j:=k) rfl hk w xs h1) .nil)
end
end Pe
namespace Pe
abbrev Tx:=List UInt8
abbrev nq (l:Tx):Rat:=(jv l).1
noncomputable abbrev codeOf (fn:Func):Code:=fn.body.getD .skip
abbrev ii (n:Int):Value:=.int .i64 n
abbrev P3:=Tx×Tx×Tx
abbrev f3 (x:P3):List (Grp Dx):=[.lit (str x.1),.lit (str x.2.1),.lit (str x.2.2)]
abbrev fp (x:P3):List (Grp Dx):=[.cls (.q (nq x.1) 4),.cls (.q (nq x.2.1) 4)]
abbrev fr (x:P3):List (Grp Dx):=[.cls (.rq (nq x.1) 4),.cls (.rq (nq x.2.1) 4)]
abbrev fa (x:P3):List (Grp Dx):=[.cls (.q (nq x.1) 4),.cls (.q (nq x.2.2) 4)]
abbrev fb (x:P3):List (Grp Dx):=[.cls (.rq (nq x.1) 4),.cls (.rq (nq x.2.2) 4)]
abbrev Yu (xs:List P3):Prop:=∀ x∈xs,x.1.length<=40/\x.2.1.length<=40/\x.2.2.length<=40
theorem Zf {α:Type}[Inhabited α] {xs:List α}{i:Nat}(h:i<xs.length):xs.getD i default∈xs:=by
 rw[List.getD_eq_getElem?_getD,List.getElem?_eq_getElem h];exact List.getElem_mem h
abbrev kv (lo1 lo2:Nat) (ps as':List P3) (t:Tx):Pat Dx:=.agg [.cls (.ls (lst 0 lo1 3 ps f3)),.cls (.ls (lst 0 lo2 3 as' f3)),.lit (str t)]
abbrev cdc (lo1 lo2:Nat) (ps as':List P3):Ws Dx:=[(0,.cls (.ls (lst 0 lo1 3 ps f3))),(1,.cls (.ls (lst 0 lo2 3 as' f3)))]
noncomputable abbrev run (w:World) (o:Opt) (f nt:Nat) (ks:List Kp) (st st':St Dx):Option (Xt×List Prop):=runTo (W0 w) (TY o) (zY (Sx true w.heap.size) (TY o) 300 30).1 (zY (Sx true w.heap.size) (TY o) 300 30).2 nt f false 300 (cbC ks) st st'
noncomputable abbrev runR (w:World) (o:Opt) (f nt:Nat) (fn:Func) (ks:List Kp) (st:St Dx) (ps:List (Pat Dx)):Option (Xt×List Prop):=ceY (W0 w) (TY o) (zY (Sx true w.heap.size) (TY o) 300 30).1 (zY (Sx true w.heap.size) (TY o) 300 30).2 nt f false 300 (cbC ks) fn.results.toList st ps
abbrev cM : Prop := ∀ (f : Nat) (fn : Func), Tryz.prog.funcs[f]? = some fn → (fn.name == "runtime.NumGoroutine") = false
theorem cde {xs:List P3}(h:Yu xs) {i:Nat}(hi:i<xs.length):(xs.getD i default).1.length<=40/\(xs.getD i default).2.1.length<=40/\(xs.getD i default).2.2.length<=40:=h _ (Zf hi)
end Pe
namespace Pe
def stA (args:List (Pat Dx)):St Dx:=match Cd Dx.n 0 args with
 |some (xs,ws,n0)=>⟨n0,Ev 0 (kF xs),ws,[]⟩
 |none=>⟨0,[],[],[]⟩
def lenA (args:List (Pat Dx)) (n:Nat):Bool:=match Cd Dx.n 0 args with
 |some (xs,_,_)=>Nat.ble (kF xs).length n
 |none=>false
theorem uq {w:World}(hG:Gr w) (hN:cM) {ex:List (Nat×Con)}(hE:CU true w.heap.size w ex) {f:FuncId}{fn:Func}{c:Code}(hfn:Tryz.prog.funcs[f]?=some fn) (hbody:fn.body=some c) {args:List (Pat Dx)}(hm:lenA args fn.ntmps=true)
 {vs:List Value} (hp:cX (W0 w) w args vs) {ps:List (Pat Dx)} (hwp:(∀ o:Opt,o.ex=ex->KF (W0 w) (TY o))->∀ a,At (W0 w) fn.ntmps (stA args) a w->after Fence.wide 0 Tryz.prog [.code c] (Ret (W0 w) fn (Res (W0 w) ps)) .normal a w) :
 Enters Tryz.prog f/\Calls Tryz.prog f vs.toArray w (fun en w'=>∃ v,en=.returned v/\Res (W0 w) ps v w'):=by
 unfold lenA at hm;split at hm
 ·rename_i xs ws n0 h0;refine fn_ok hG hN hE hfn hbody h0 hm hp (fun hR a hA=>hwp hR a ?_);unfold stA;rw[h0];exact hA
 ·cases hm
abbrev uB (f:Nat) (args:List (Pat Dx)) (ps:Nat->List (Pat Dx)):Prop:=∀ w vs,Gr w->cX (W0 w) w args vs->Enters Tryz.prog f/\Calls Tryz.prog f vs.toArray w (fun en w'=>∃ v,en=.returned v/\Res (W0 w) (ps w.heap.size) v w')
section
variable {lo:Nat}{w0:World}{f:Nat}{args:List (Pat Dx)}
theorem uB.ent {ps:Nat->List (Pat Dx)}(h:uB f args ps) (hG:Gr w0) (hlo:lo<=w0.heap.size) (hE:Enters Tryz.prog f) (hsub:∀ hi,lo<=hi->∃ ob,zy (Cx true lo w0) (ps lo) (ps hi)=some ob/\jH ob):jz (Cx true lo w0) (.call f) args (Ym (ps lo)):=ent_fn hG hlo ps hsub h hE
theorem uB.val {v:Value}(h:uB f args (fun _=>[.one (.lit v)])) (hG:Gr w0) (hlo:lo<=w0.heap.size) (hE:Enters Tryz.prog f):jz (Cx true lo w0) (.call f) args (vr v) :=
 h.ent hG hlo hE (fun _ _=>⟨_,rfl,rfl,trivial⟩)
theorem uB.num {r:Rat}{k:Nat}(h:uB f args (fun _=>[.agg [.cls (.q r k)]])) (hG:Gr w0) (hlo:lo<=w0.heap.size) (hE:Enters Tryz.prog f):jz (Cx true lo w0) (.call f) args (qr r k) :=
 h.ent hG hlo hE (fun _ _=>⟨_,rfl,ct.refl _ _,trivial⟩)
theorem uB.rnum {r:Rat}{k:Nat}(h:uB f args (fun _=>[.agg [.cls (.rq r k)]])) (hG:Gr w0) (hlo:lo<=w0.heap.size) (hE:Enters Tryz.prog f):jz (Cx true lo w0) (.call f) args (rr r k) :=
 h.ent hG hlo hE (fun _ _=>⟨_,rfl,ct.refl _ _,trivial⟩)
theorem uB.numv {r:Rat}{k:Nat}{v:Value}(h:uB f args (fun _=>[.agg [.cls (.q r k)],.one (.lit v)])) (hG:Gr w0) (hlo:lo<=w0.heap.size) (hE:Enters Tryz.prog f):jz (Cx true lo w0) (.call f) args (.tup [.agg [.cls (.q r k)],.one (.lit v)]) :=
 h.ent hG hlo hE (fun _ _=>⟨_,rfl,ct.refl _ _,rfl,trivial⟩)
end
abbrev R2:=Rat×Rat
abbrev fQ (x:R2):List (Grp Dx):=[.cls (.q x.1 4),.cls (.q x.2 4)]
abbrev fR (x:R2):List (Grp Dx):=[.cls (.rq x.1 4),.cls (.rq x.2 4)]
abbrev pQ (r:Rat) (k:Nat):Pat Dx:=.agg [.cls (.q r k)]
abbrev pR (r:Rat) (k:Nat):Pat Dx:=.agg [.cls (.rq r k)]
abbrev pP (r:Rat) (j:Nat) (s:Rat) (k:Nat):Pat Dx:=.agg [.cls (.q r j),.cls (.q s k)]
abbrev pL (lo ty:Nat) (xs:List R2):Pat Dx:=.one (.cls (.ls (lst lo ty 8 xs fQ)))
abbrev pM (lo ty:Nat) (xs:List R2):Pat Dx:=.one (.cls (.ls (lst lo ty 6 xs fR)))
abbrev pI (i:Int):Pat Dx:=.one (.lit (.int .i64 i))
abbrev pF (f:Nat):Pat Dx:=.one (.lit (.func (.func f) #[] #[]))
abbrev rB (b:Bool):List (Pat Dx):=[.one (.lit (.bool b))]
abbrev rI (i:Int):List (Pat Dx):=[.one (.lit (.int .i64 i))]
def cL (ps:List P3):List R2:=ps.map fun x=>(nq x.1,nq x.2.1)
def cV (as':List P3):List R2:=as'.map fun x=>(nq x.1,nq x.2.2)
theorem cq (n:Nat):Int.ofNat n=(n:Int):=rfl
section
variable {w w1:World}{o:Opt}{f nt:Nat}{ks:List Kp}{st st':St Dx}{x:Xt}{ob:List Prop}{a:Act}{Q:Exit->Act->World->Prop}
theorem Gz (h:run w o f nt ks st st'=some (x,ob)) (hR:KF (W0 w) (TY o)) (hA:At (W0 w) nt st a w1) (hQ:∀ a' w',At (W0 w) nt st' a' w'->after Fence.wide 0 (W0 w).P (ccm ks) Q x.to a' w') (ho:jH ob:=by (repeat' (first|exact trivial|apply And.intro))<;>first|exact ct.refl _ _|exact fun _ _=>cC.refl _ _|exact co rfl|exact cj _ _|exact cn _ _|(with_reducible assumption)|omega|with_reducible rfl|(simp only[cq];omega)|(intro j hj;exact absurd hj (not_lt_zero _))|exact Yk rfl (by omega)|exact ZA rfl (by omega)|exact zV rfl (by omega)|exact decide_eq_true rfl|exact decide_eq_true (by omega)|assumption|rfl):after Fence.wide 0 (W0 w).P ks Q .normal a w1:=run_is hR (.inl rfl) (fun _=>rfl) h ho hA hQ
theorem Gy {fn:Func}{ps:List (Pat Dx)}(h:runR w o f nt fn ks st ps=some (.ret,ob)) (hR:KF (W0 w) (TY o)) (hA:At (W0 w) nt st a w1) (ho:jH ob:=by (repeat' (first|exact trivial|apply And.intro))<;>first|exact ct.refl _ _|exact fun _ _=>cC.refl _ _|exact co rfl|exact cj _ _|exact cn _ _|(with_reducible assumption)|omega|with_reducible rfl|(simp only[cq];omega)|(intro j hj;exact absurd hj (not_lt_zero _))|exact Yk rfl (by omega)|exact ZA rfl (by omega)|exact zV rfl (by omega)|exact decide_eq_true rfl|exact decide_eq_true (by omega)|assumption|rfl) (hQ:∀ a' w',Ret (W0 w) fn (Res (W0 w) ps) .ret a' w'->Q .ret a' w':=by exact fun _ _ h=>h):after Fence.wide 0 (W0 w).P ks Q .normal a w1:=cA hR (.inl rfl) (fun _=>rfl) h ho hA hQ
end
theorem cgU {C:Ctx Dx}{b:Bool}{lo:Nat}{w0:World}(hC:C=Cx b lo w0) {L L':Lt Dx}(h1:L'.lo<=L.lo) (h2:L'.ty=L.ty) (h3:L'.z=L.z) (h4:L'.n=L.n) (h5:∀ j,j<L.n->L'.g j=L.g j):ct C (.ls L') (.ls L):=by
 subst hC;intro w l hl;have hl:DIs w (.ls L) l:=hl;show DIs w (.ls L') l;obtain⟨lo',ty',z',n',g'⟩:=L';obtain⟨lo1,ty1,z1,n1,g1⟩:=L;simp only at h1 h2 h3 h4 h5;subst h2;subst h3;subst h4;cases hl with
 |nil h=>exact .nil h
 |ls k o c arr pre vs rest q2 q3 q4 q5 q6 q7 q8 q9=>exact .ls k o c arr pre vs rest q2 q3 q4 q5 q6 (le_trans h1 q7) q8 (fun j hj=>by rw[show (Lt.mk lo' ty' z' n' g').g j=g1 j from h5 j hj];exact q9 j hj)
theorem YK {b:Bool}{lo:Nat}{w0:World}{α β:Type}[Inhabited α] [Inhabited β] {a ty z:Nat}{xs:List α}{h:α->β}{f:α->List (Grp Dx)}{f':β->List (Grp Dx)}(hf:∀ x,f' (h x)=f x):ct (Cx b lo w0) (.ls (lst a ty z (xs.map h) f')) (.ls (lst a ty z xs f)):=by
 refine cgU rfl (le_refl _) rfl rfl (by simp [lst]) (fun j hj=>?_);have hj:j<xs.length:=hj;show f' ((xs.map h).getD j default)=f (xs.getD j default);rw[← hf,List.getD_eq_getElem?_getD,List.getD_eq_getElem?_getD,List.getElem?_map,List.getElem?_eq_getElem hj];rfl
end Pe
namespace Pe
noncomputable def kisFrom56_:List Kp:=[.code (codeOf Tryz.f56)]
noncomputable def kisNegative59_:List Kp:=[.code (codeOf Tryz.f59)]
noncomputable def kCheckLine153_:List Kp:=[.code (codeOf Tryz.f53)]
noncomputable def kCheckLine254_:List Kp:=[.code (codeOf Tryz.f54)]
noncomputable def kvalue1122_:List Kp:=[.code (codeOf Tryz.f122)]
noncomputable def kCheckVehicle158_:List Kp:=[.code (codeOf Tryz.f58)]
noncomputable def kgap64_:List Kp:=[.code (codeOf Tryz.f64)]
def EA:Con
 |[.agg [.cls (.q r _)]]=>some (vr (.bool (decide (jg r<0))),[])
 |_=>none
def ccc:Con
 |[.one (.lit (.int .i64 a)),.one (.lit (.int .i64 n)),.one (.lit (.int .i64 b))]=>some (vr (.bool (decide (a<=n)&&decide (n<=b))),[])
 |_=>none
def ZE:Con
 |[.agg [.cls (.q _ _),.cls (.q s _)]]=>some (vr (.bool (decide (jg s=0))),[])
 |_=>none
def cfi:Con
 |[.agg [.cls (.q r j),.cls (.q _ _)],.agg [.cls (.q r' j'),.cls (.q _ _)]]=>some (vr (.bool (decide (jp r r'<0))),[j+j'<=10000])
 |_=>none
def ceO:Con
 |[.agg [.cls (.q r j),.cls (.q _ _)],.agg [.cls (.q x m)]]=>some (vr (.int .i64 (jp r x)),[j+m<=10000])
 |_=>none
def YV:Con
 |[.agg [.cls (.q r _),.cls (.q s _)]]=>some (vr (.bool (decide (jg r<0)||decide (jg s<0))),[])
 |_=>none
def cfR:Con
 |[.agg [.cls (.q _ _),.cls (.q s k)]]=>some (qr s k,[])
 |_=>none
noncomputable abbrev isfR (w:World) (a n b:Int) (o:List (Nat×Nat×Bool)):=runR w ⟨o,[],[]⟩ 56 15 Tryz.f56 kisFrom56_ (stA [pI a,pI n,pI b]) (rB (decide (a<=n)&&decide (n<=b)))
theorem isf0 {w:World}(a n b:Int):isfR w a n b [(56,9,true),(56,13,true)]=some (.ret,[decide (a<=n)=true,decide (n<=b)=true,Value.bool (decide (a<=n)&&decide (n<=b))=Value.bool true]):=by kernel_rfl
theorem isf1 {w:World}(a n b:Int):isfR w a n b [(56,9,true),(56,13,false)]=some (.ret,[decide (a<=n)=true,decide (n<=b)=false,Value.bool (decide (a<=n)&&decide (n<=b))=Value.bool false]):=by kernel_rfl
theorem isf2 {w:World}(a n b:Int):isfR w a n b [(56,9,false)]=some (.ret,[decide (a<=n)=false,Value.bool (decide (a<=n)&&decide (n<=b))=Value.bool false]):=by kernel_rfl
theorem cik (hN:cM) (a n b:Int):uB 56 [pI a,pI n,pI b] (fun _=>rB (decide (a<=n)&&decide (n<=b))):=by
 intro w vs hG hp;refine uq hG hN (ex:=[]) kz (fn:=Tryz.f56) Tryz.func56 (c:=codeOf Tryz.f56) (by kernel_rfl) (args:=[pI a,pI n,pI b]) (by kernel_rfl) hp (fun hR _ hA=>?_);rcases eq_false_or_eq_true (decide (a<=n)) with q9|q9
 ·skip
  have p9:=of_decide_eq_true q9;rcases eq_false_or_eq_true (decide (n<=b)) with q13|q13
  ·skip
   have p13:=of_decide_eq_true q13;refine Gy (isf0 a n b) (hR _ rfl) hA (by (repeat' (first|exact trivial|apply And.intro))<;>first|exact ct.refl _ _|exact fun _ _=>cC.refl _ _|exact co rfl|exact cj _ _|exact cn _ _|(with_reducible assumption)|omega|with_reducible rfl|(simp only[cq];omega)|(intro j hj;exact absurd hj (not_lt_zero _))|exact congrArg Value.bool (by rw[q9];first|rfl|(rw[q13];rfl))|rfl)
  ·skip
   have p13:=of_decide_eq_false q13;refine Gy (isf1 a n b) (hR _ rfl) hA (by (repeat' (first|exact trivial|apply And.intro))<;>first|exact ct.refl _ _|exact fun _ _=>cC.refl _ _|exact co rfl|exact cj _ _|exact cn _ _|(with_reducible assumption)|omega|with_reducible rfl|(simp only[cq];omega)|(intro j hj;exact absurd hj (not_lt_zero _))|exact congrArg Value.bool (by rw[q9];first|rfl|(rw[q13];rfl))|rfl)
 ·skip
  have p9:=of_decide_eq_false q9;refine Gy (isf2 a n b) (hR _ rfl) hA (by (repeat' (first|exact trivial|apply And.intro))<;>first|exact ct.refl _ _|exact fun _ _=>cC.refl _ _|exact co rfl|exact cj _ _|exact cn _ _|(with_reducible assumption)|omega|with_reducible rfl|(simp only[cq];omega)|(intro j hj;exact absurd hj (not_lt_zero _))|exact congrArg Value.bool (by rw[q9];first|rfl|(rw[q13];rfl))|rfl)
noncomputable abbrev negR (w:World) (r:Rat) (k:Nat) (o:List (Nat×Nat×Bool)):=runR w ⟨o,[],[]⟩ 59 6 Tryz.f59 kisNegative59_ (stA [pQ r k]) (rB (decide (jg r<0)))
theorem neg0 {w:World}(r:Rat) (k:Nat):negR w r k [(59,5,true)]=some (.ret,[decide (jg r<0)=true,Value.bool (decide (jg r<0))=Value.bool true]):=by kernel_rfl
theorem neg1 {w:World}(r:Rat) (k:Nat):negR w r k [(59,5,false)]=some (.ret,[decide (jg r<0)=false,Value.bool (decide (jg r<0))=Value.bool false]):=by kernel_rfl
theorem cfp (hN:cM) (r:Rat) (k:Nat):uB 59 [pQ r k] (fun _=>rB (decide (jg r<0))):=by
 intro w vs hG hp;refine uq hG hN (ex:=[]) kz (fn:=Tryz.f59) Tryz.func59 (c:=codeOf Tryz.f59) (by kernel_rfl) (args:=[pQ r k]) (by kernel_rfl) hp (fun hR _ hA=>?_);rcases eq_false_or_eq_true (decide (jg r<0)) with q5|q5
 ·skip
  have p5:=of_decide_eq_true q5
  first|have e0:=congrArg Value.bool q5|skip
  refine Gy (neg0 r k) (hR _ rfl) hA
 ·skip
  have p5:=of_decide_eq_false q5
  first|have e0:=congrArg Value.bool q5|skip
  refine Gy (neg1 r k) (hR _ rfl) hA
noncomputable abbrev levR (w:World) (r s:Rat) (j k:Nat) (o:List (Nat×Nat×Bool)):=runR w ⟨o,[],[]⟩ 53 7 Tryz.f53 kCheckLine153_ (stA [pP r j s k]) (rB (decide (jg s=0)))
theorem lev0 {w:World}(r s:Rat) (j k:Nat):levR w r s j k [(53,6,true)]=some (.ret,[decide (jg s=0)=true,Value.bool (decide (jg s=0))=Value.bool true]):=by kernel_rfl
theorem lev1 {w:World}(r s:Rat) (j k:Nat):levR w r s j k [(53,6,false)]=some (.ret,[decide (jg s=0)=false,Value.bool (decide (jg s=0))=Value.bool false]):=by kernel_rfl
theorem cjO (hN:cM) (r s:Rat) (j k:Nat):uB 53 [pP r j s k] (fun _=>rB (decide (jg s=0))):=by
 intro w vs hG hp;refine uq hG hN (ex:=[]) kz (fn:=Tryz.f53) Tryz.func53 (c:=codeOf Tryz.f53) (by kernel_rfl) (args:=[pP r j s k]) (by kernel_rfl) hp (fun hR _ hA=>?_);rcases eq_false_or_eq_true (decide (jg s=0)) with q6|q6
 ·skip
  have p6:=of_decide_eq_true q6
  first|have e0:=congrArg Value.bool q6|skip
  refine Gy (lev0 r s j k) (hR _ rfl) hA
 ·skip
  have p6:=of_decide_eq_false q6
  first|have e0:=congrArg Value.bool q6|skip
  refine Gy (lev1 r s j k) (hR _ rfl) hA
noncomputable abbrev ascR (w:World) (r s r' s':Rat) (j k j' k':Nat)  (o:List (Nat×Nat×Bool)):=runR w ⟨o,[],[]⟩ 54 11 Tryz.f54 kCheckLine254_ (stA [pP r j s k,pP r' j' s' k']) (rB (decide (jp r r'<0)))
theorem asc0 {w:World}(r s r' s':Rat) (j k j' k':Nat):ascR w r s r' s' j k j' k' [(54,10,true)]=some (.ret,[j+j'<=1000000,decide (jp r r'<0)=true,Value.bool (decide (jp r r'<0))=Value.bool true]):=by kernel_rfl
theorem asc1 {w:World}(r s r' s':Rat) (j k j' k':Nat):ascR w r s r' s' j k j' k' [(54,10,false)]=some (.ret,[j+j'<=1000000,decide (jp r r'<0)=false,Value.bool (decide (jp r r'<0))=Value.bool false]):=by kernel_rfl
theorem asc_ok (hN:cM) (r s r' s':Rat) (j k j' k':Nat) (hj:j+j'<=10000):uB 54 [pP r j s k,pP r' j' s' k'] (fun _=>rB (decide (jp r r'<0))):=by
 intro w vs hG hp;refine uq hG hN (ex:=[]) kz (fn:=Tryz.f54) Tryz.func54 (c:=codeOf Tryz.f54) (by kernel_rfl) (args:=[pP r j s k,pP r' j' s' k']) (by kernel_rfl) hp (fun hR _ hA=>?_);rcases eq_false_or_eq_true (decide (jp r r'<0)) with q10|q10
 ·skip
  have p10:=of_decide_eq_true q10
  first|have e0:=congrArg Value.bool q10|skip
  refine Gy (asc0 r s r' s' j k j' k') (hR _ rfl) hA
 ·skip
  have p10:=of_decide_eq_false q10
  first|have e0:=congrArg Value.bool q10|skip
  refine Gy (asc1 r s r' s' j k j' k') (hR _ rfl) hA
noncomputable abbrev keyR (w:World) (r s x:Rat) (j k m:Nat)  (o:List (Nat×Nat×Bool)):=runR w ⟨o,[],[]⟩ 122 9 Tryz.f122 kvalue1122_ (stA [pP r j s k,pQ x m]) (rI (jp r x))
theorem key0 {w:World}(r s x:Rat) (j k m:Nat):keyR w r s x j k m []=some (.ret,[j+m<=1000000,Value.int IntKind.i64 (jp r x)=Value.int IntKind.i64 (jp r x)]):=by kernel_rfl
theorem key_ok (hN:cM) (r s x:Rat) (j k m:Nat) (hj:j+m<=10000):uB 122 [pP r j s k,pQ x m] (fun _=>rI (jp r x)):=by
 intro w vs hG hp;refine uq hG hN (ex:=[]) kz (fn:=Tryz.f122) Tryz.func122 (c:=codeOf Tryz.f122) (by kernel_rfl) (args:=[pP r j s k,pQ x m]) (by kernel_rfl) hp (fun hR _ hA=>?_);refine Gy (key0 r s x j k m) (hR _ rfl) hA
theorem cbd {lo:Nat}{w0:World}(hN:cM) (hG:Gr w0) (hlo:lo<=w0.heap.size):∀ l r ob,EA l=some (r,ob)->jH ob->jz (Cx true lo w0) (.call 59) l r:=by
 intro l r ob h ho;unfold EA at h;split at h
 ·injection h with h;injection h with h1 h2;subst h1;subst h2
  exact(cfp hN _ _).val hG hlo (enters_of Tryz.func59 (by kernel_rfl) rfl)
 ·cases h
theorem exNeg {lo:Nat}{w0:World}(hN:cM) (hG:Gr w0) (hlo:lo<=w0.heap.size):CU true lo w0 [(59,EA)]:=cS (cbd hN hG hlo) kz
noncomputable abbrev wroR (w:World) (r s:Rat) (j k:Nat) (o:List (Nat×Nat×Bool)):=runR w ⟨o,[],[(59,EA)]⟩ 58 11 Tryz.f58 kCheckVehicle158_ (stA [pP r j s k]) (rB (decide (jg r<0)||decide (jg s<0)))
theorem wro0 {w:World}(r s:Rat) (j k:Nat):wroR w r s j k [(58,5,true)]=some (.ret,[decide (jg r<0)=true,Value.bool (decide (jg r<0)||decide (jg s<0))=Value.bool true]):=by kernel_rfl
theorem wro1 {w:World}(r s:Rat) (j k:Nat):wroR w r s j k [(58,5,false),(58,9,true)]=some (.ret,[decide (jg r<0)=false,decide (jg s<0)=true,Value.bool (decide (jg r<0)||decide (jg s<0))=Value.bool true]):=by kernel_rfl
theorem wro2 {w:World}(r s:Rat) (j k:Nat):wroR w r s j k [(58,5,false),(58,9,false)]=some (.ret,[decide (jg r<0)=false,decide (jg s<0)=false,Value.bool (decide (jg r<0)||decide (jg s<0))=Value.bool false]):=by kernel_rfl
theorem cjK (hN:cM) (r s:Rat) (j k:Nat):uB 58 [pP r j s k] (fun _=>rB (decide (jg r<0)||decide (jg s<0))):=by
 intro w vs hG hp;refine uq hG hN (ex:=[(59,EA)]) (exNeg hN hG (le_refl _)) (fn:=Tryz.f58) Tryz.func58 (c:=codeOf Tryz.f58) (by kernel_rfl) (args:=[pP r j s k]) (by kernel_rfl) hp (fun hR _ hA=>?_);rcases eq_false_or_eq_true (decide (jg r<0)) with q5|q5
 ·skip
  have p5:=of_decide_eq_true q5;refine Gy (wro0 r s j k) (hR _ rfl) hA (by (repeat' (first|exact trivial|apply And.intro))<;>first|exact ct.refl _ _|exact fun _ _=>cC.refl _ _|exact co rfl|exact cj _ _|exact cn _ _|(with_reducible assumption)|omega|with_reducible rfl|(simp only[cq];omega)|(intro j hj;exact absurd hj (not_lt_zero _))|exact congrArg Value.bool (by rw[q5];first|rfl|(rw[q9];rfl))|rfl)
 ·skip
  have p5:=of_decide_eq_false q5;rcases eq_false_or_eq_true (decide (jg s<0)) with q9|q9
  ·skip
   have p9:=of_decide_eq_true q9;refine Gy (wro1 r s j k) (hR _ rfl) hA (by (repeat' (first|exact trivial|apply And.intro))<;>first|exact ct.refl _ _|exact fun _ _=>cC.refl _ _|exact co rfl|exact cj _ _|exact cn _ _|(with_reducible assumption)|omega|with_reducible rfl|(simp only[cq];omega)|(intro j hj;exact absurd hj (not_lt_zero _))|exact congrArg Value.bool (by rw[q5];first|rfl|(rw[q9];rfl))|rfl)
  ·skip
   have p9:=of_decide_eq_false q9;refine Gy (wro2 r s j k) (hR _ rfl) hA (by (repeat' (first|exact trivial|apply And.intro))<;>first|exact ct.refl _ _|exact fun _ _=>cC.refl _ _|exact co rfl|exact cj _ _|exact cn _ _|(with_reducible assumption)|omega|with_reducible rfl|(simp only[cq];omega)|(intro j hj;exact absurd hj (not_lt_zero _))|exact congrArg Value.bool (by rw[q5];first|rfl|(rw[q9];rfl))|rfl)
noncomputable abbrev gapR (w:World) (r s:Rat) (j k:Nat) (o:List (Nat×Nat×Bool)):=runR w ⟨o,[],[]⟩ 64 5 Tryz.f64 kgap64_ (stA [pP r j s k]) [pQ s k]
theorem gap0 {w:World}(r s:Rat) (j k:Nat):gapR w r s j k []=some (.ret,[ct (W0 w) (.q s k) (.q s k),ku (W0 w) (.q s k)]):=by kernel_rfl
theorem gap_ok (hN:cM) (r s:Rat) (j k:Nat):uB 64 [pP r j s k] (fun _=>[pQ s k]):=by
 intro w vs hG hp;refine uq hG hN (ex:=[]) kz (fn:=Tryz.f64) Tryz.func64 (c:=codeOf Tryz.f64) (by kernel_rfl) (args:=[pP r j s k]) (by kernel_rfl) hp (fun hR _ hA=>?_);refine Gy (gap0 r s j k) (hR _ rfl) hA
theorem ceP {lo:Nat}{w0:World}(hN:cM) (hG:Gr w0) (hlo:lo<=w0.heap.size):∀ l r ob,ccc l=some (r,ob)->jH ob->jz (Cx true lo w0) (.call 56) l r:=by
 intro l r ob h ho;unfold ccc at h;split at h
 ·injection h with h;injection h with h1 h2;subst h1;subst h2
  exact(cik hN _ _ _).val hG hlo (enters_of Tryz.func56 (by kernel_rfl) rfl)
 ·cases h
theorem ceh {lo:Nat}{w0:World}(hN:cM) (hG:Gr w0) (hlo:lo<=w0.heap.size):∀ l r ob,ZE l=some (r,ob)->jH ob->jz (Cx true lo w0) (.call 53) l r:=by
 intro l r ob h ho;unfold ZE at h;split at h
 ·injection h with h;injection h with h1 h2;subst h1;subst h2
  exact(cjO hN _ _ _ _).val hG hlo (enters_of Tryz.func53 (by kernel_rfl) rfl)
 ·cases h
theorem chs {lo:Nat}{w0:World}(hN:cM) (hG:Gr w0) (hlo:lo<=w0.heap.size):∀ l r ob,cfi l=some (r,ob)->jH ob->jz (Cx true lo w0) (.call 54) l r:=by
 intro l r ob h ho;unfold cfi at h;split at h
 ·injection h with h;injection h with h1 h2;subst h1;subst h2
  exact(asc_ok hN _ _ _ _ _ _ _ _ ho.1).val hG hlo (enters_of Tryz.func54 (by kernel_rfl) rfl)
 ·cases h
theorem ciH {lo:Nat}{w0:World}(hN:cM) (hG:Gr w0) (hlo:lo<=w0.heap.size):∀ l r ob,ceO l=some (r,ob)->jH ob->jz (Cx true lo w0) (.call 122) l r:=by
 intro l r ob h ho;unfold ceO at h;split at h
 ·injection h with h;injection h with h1 h2;subst h1;subst h2
  exact(key_ok hN _ _ _ _ _ _ ho.1).val hG hlo (enters_of Tryz.func122 (by kernel_rfl) rfl)
 ·cases h
theorem cdj {lo:Nat}{w0:World}(hN:cM) (hG:Gr w0) (hlo:lo<=w0.heap.size):∀ l r ob,YV l=some (r,ob)->jH ob->jz (Cx true lo w0) (.call 58) l r:=by
 intro l r ob h ho;unfold YV at h;split at h
 ·injection h with h;injection h with h1 h2;subst h1;subst h2
  exact(cjK hN _ _ _ _).val hG hlo (enters_of Tryz.func58 (by kernel_rfl) rfl)
 ·cases h
theorem ciw {lo:Nat}{w0:World}(hN:cM) (hG:Gr w0) (hlo:lo<=w0.heap.size):∀ l r ob,cfR l=some (r,ob)->jH ob->jz (Cx true lo w0) (.call 64) l r:=by
 intro l r ob h ho;unfold cfR at h;split at h
 ·injection h with h;injection h with h1 h2;subst h1;subst h2
  exact(gap_ok hN _ _ _ _).num hG hlo (enters_of Tryz.func64 (by kernel_rfl) rfl)
 ·cases h
def exM:List (Nat×Con):=[(56,ccc),(59,EA),(53,ZE),(54,cfi),(122,ceO),(58,YV),(64,cfR)]
theorem EP {lo:Nat}{w0:World}(hN:cM) (hG:Gr w0) (hlo:lo<=w0.heap.size):CU true lo w0 exM:=cS (ceP hN hG hlo) (cS (cbd hN hG hlo) (cS (ceh hN hG hlo) (cS (chs hN hG hlo) (cS (ciH hN hG hlo) (cS (cdj hN hG hlo) (cS (ciw hN hG hlo) kz))))))
end Pe
namespace Pe
noncomputable def kPoint57_:List Kp:=[.code (codeOf Tryz.f57)]
noncomputable def kPoint57_n:List Kp:=next kPoint57_
noncomputable def kPoint57_nl:List Kp:=[.code (kj kPoint57_n)]
noncomputable def kPoint57_nt:List Kp:=kPoint57_n.tail
abbrev up (L:List R2) (i:Nat):Bool:=decide (jp (L.getD i default).1 (L.getD (i+1) default).1<0)
def asc (L:List R2):Bool:=(List.range (L.length-1)).all (up L)
theorem Ki {L:List R2}{i:Nat}(hi:i+1<L.length) (h:up L i=false):Value.bool (asc L)=Value.bool false:=by
 refine congrArg Value.bool (Bool.eq_false_iff.2 fun ha=>?_);have:=List.all_eq_true.1 ha i (List.mem_range.2 (by omega));rw[h] at this;cases this
theorem cdE {L:List R2}(h:∀ i,i<L.length-1->up L i=true):asc L=true:=List.all_eq_true.2 fun i hi=>h i (List.mem_range.1 hi)
abbrev eaI (lo ty:Nat) (L:List R2) (i:Nat):St Dx:=⟨1,[(0,.val (.one (.sym 0 0))),(1,.val (.one (.lit (.func (.func 54) #[] #[])))),(8,.val (.one (.lit (ii ((L.length:Int)-1))))),(9,.val (.one (.lit (ii (i:Int)))))],[(0,.cls (.ls (lst lo ty 8 L fQ)))],[]⟩
theorem eaa {w:World}(lo:Nat) (L:List R2):run w ⟨[],[],exM⟩ 57 25 kPoint57_ (stA [pL lo 98 L,pF 54]) (eaI lo 98 L 0)=some (.normal,[yt ((L.length:Int)-1),ct (W0 w) (.ls (lst lo 98 8 L fQ)) (.ls (lst lo 98 8 L fQ)),Value.func (Fn.func 54) #[] #[]=Value.func (Fn.func 54) #[] #[],ii ((L.length:Int)-1)=Value.int IntKind.i64 ((L.length:Int)-1),ii (↑0:Int)=Value.int IntKind.i64 0]):=by kernel_rfl
theorem eae {w:World}(lo:Nat) (L:List R2) (i:Nat):runR w ⟨[],[],exM⟩ 57 25 Tryz.f57 kPoint57_nt (eaI lo 98 L i) (rB (asc L))=some (.ret,[Value.bool (asc L)=Value.bool true]):=by kernel_rfl
noncomputable abbrev eabTe0 (w:World) (l0:Nat) (L:List R2) (i:Nat) (o:List (Nat×Nat×Bool)):=run w ⟨o,[],exM⟩ 57 25 kPoint57_nl (eaI l0 98 L i) (eaI l0 98 L i)
noncomputable abbrev eabR (w:World) (l0:Nat) (L:List R2) (i:Nat) (o:List (Nat×Nat×Bool)):=runR w ⟨o,[],exM⟩ 57 25 Tryz.f57 kPoint57_nl (eaI l0 98 L i) (rB (asc L))
noncomputable abbrev eabTnal (w:World) (l0:Nat) (L:List R2) (i:Nat) (o:List (Nat×Nat×Bool)):=run w ⟨o,[],exM⟩ 57 25 kPoint57_nl (eaI l0 98 L i) (eaI l0 98 L (i+1))
theorem eab0 {w:World}(l0:Nat) (L:List R2) (i:Nat):eabTnal w l0 L i [(57,10,true),(57,22,true)]=some (.normal,[decide ((i:Int)<(L.length:Int)-1)=true,i<L.length,i<L.length,yt ((i:Int)+1),i+1<L.length,i+1<L.length,decide (jp (L.getD i default).1 (L.getD (i+1) default).1<0)=true,4+4<=10000,yt ((i:Int)+1),ct (W0 w) (.ls (lst l0 98 8 L fQ)) (.ls (lst l0 98 8 L fQ)),Value.func (Fn.func 54) #[] #[]=Value.func (Fn.func 54) #[] #[],ii ((L.length:Int)-1)=ii ((L.length:Int)-1),ii (↑(i+1):Int)=Value.int IntKind.i64 ((i:Int)+1)]):=by kernel_rfl
theorem eab1 {w:World}(l0:Nat) (L:List R2) (i:Nat):eabR w l0 L i [(57,10,true),(57,22,false)]=some (.ret,[decide ((i:Int)<(L.length:Int)-1)=true,i<L.length,i<L.length,yt ((i:Int)+1),i+1<L.length,i+1<L.length,decide (jp (L.getD i default).1 (L.getD (i+1) default).1<0)=false,4+4<=10000,Value.bool (asc L)=Value.bool false]):=by kernel_rfl
theorem eab2 {w:World}(l0:Nat) (L:List R2) (i:Nat):eabTe0 w l0 L i [(57,10,false)]=some (.exit 0,[decide ((i:Int)<(L.length:Int)-1)=false,ct (W0 w) (.ls (lst l0 98 8 L fQ)) (.ls (lst l0 98 8 L fQ)),Value.func (Fn.func 54) #[] #[]=Value.func (Fn.func 54) #[] #[],ii ((L.length:Int)-1)=ii ((L.length:Int)-1),ii (i:Int)=ii (i:Int)]):=by kernel_rfl
theorem each_ok (hN:cM) (l0:Nat) (L:List R2) (hl:L.length<=1000000):uB 57 [pL l0 98 L,pF 54] (fun _=>rB (asc L)):=by
 intro w vs hG hp;refine uq hG hN (ex:=exM) (EP hN hG (le_refl _)) (fn:=Tryz.f57) Tryz.func57 (c:=codeOf Tryz.f57) (by kernel_rfl) (args:=[pL l0 98 L,pF 54]) (by kernel_rfl) hp (fun hR _ hA=>?_);refine Gz (eaa l0 L) (hR _ rfl) hA (fun a w1 hA=>uk ?_);refine uC (fun i=>eaI l0 98 L i) (fun i=>i<=L.length-1/\∀ k,k<i->up L k=true) (fun i=>L.length-i) (L:=kPoint57_n) (ks:=kPoint57_nt) (id:=0) (c:=kj kPoint57_n) (by kernel_rfl) 0 ⟨zero_le _,by omega⟩ hA (fun i a2 w2 hi hA=>?_);rcases eq_false_or_eq_true (decide ((i:Int)<(L.length:Int)-1)) with q10|q10
 ·skip
  have p10:=of_decide_eq_true q10;rcases eq_false_or_eq_true (up L i) with q22|q22
  ·skip
   refine Gz (eab0 l0 L i) (hR _ rfl) hA (fun aT wT hT=>?_);exact jY (by kernel_rfl) ⟨i+1,⟨by omega,fun k hk=>by rcases Nat.lt_succ_iff_lt_or_eq.1 hk with h|rfl;exact hi.2 k h;exact q22⟩,hT,by omega⟩
  ·skip
   have e0:=Ki (by omega) q22;refine Gy (eab1 l0 L i) (hR _ rfl) hA
 ·skip
  have p10:=of_decide_eq_false q10;refine Gz (eab2 l0 L i) (hR _ rfl) hA (fun aT wT hT=>?_);refine ki _ (by kernel_rfl) ?_;refine cA (hR ⟨[],[],exM⟩ rfl) (.inl rfl) (fun _=>rfl) (fn:=Tryz.f57) (eae l0 L i) ?_ hT (fun _ _ h=>h);exact⟨congrArg Value.bool (cdE fun k hk=>hi.2 k (by omega)),trivial⟩
def conEach (args:List (Pat Dx)) (L:List R2):Con:=uX args (vr (.bool (asc L)))
theorem cjz {lo l0:Nat}{w0:World}{L:List R2}(hN:cM) (hG:Gr w0) (hlo:lo<=w0.heap.size) (hl:L.length<=1000000):jz (Cx true lo w0) (.call 57) [pL l0 98 L,pF 54] (vr (.bool (asc L))) :=
 (each_ok hN l0 L hl).val hG hlo (enters_of Tryz.func57 (by kernel_rfl) rfl)
end Pe
namespace Pe
noncomputable def kCheckLine16_:List Kp:=[.code (codeOf Tryz.f16)]
noncomputable def kAxle120_:List Kp:=[.code (codeOf Tryz.f120)]
noncomputable def kAxle120_n:List Kp:=next kAxle120_
noncomputable def kAxle120_nl:List Kp:=[.code (kj kAxle120_n)]
noncomputable def kAxle60_:List Kp:=[.code (codeOf Tryz.f60)]
noncomputable def kCheckVehicle17_:List Kp:=[.code (codeOf Tryz.f17)]
noncomputable def kAxle120_nt:List Kp:=kAxle120_n.tail
abbrev szI (a n b:Int):Bool:=decide (a<=n)&&decide (n<=b)
abbrev lev (L:List R2) (i:Nat):Bool:=decide (jg (L.getD i default).2=0)
section
variable {a b c d:Bool}
theorem a4_t (h:a=true) (i:b=true) (j:c=true) (k:d=true):(a&&b&&c&&d)=true:=by rw[h,i,j,k];rfl
theorem a4_1 (h:a=false):(a&&b&&c&&d)=false:=by rw[h];rfl
theorem a4_2 (h:b=false):(a&&b&&c&&d)=false:=by rw[h,Bool.and_false];rfl
theorem a4_3 (h:c=false):(a&&b&&c&&d)=false:=by rw[h,Bool.and_false];rfl
theorem a4_4 (h:d=false):(a&&b&&c&&d)=false:=by rw[h,Bool.and_false]
theorem a3_t (h:a=true) (i:b=true) (j:c=true):(a&&b&&c)=true:=by rw[h,i,j];rfl
theorem a3_1 (h:a=false):(a&&b&&c)=false:=by rw[h];rfl
theorem a3_2 (h:b=false):(a&&b&&c)=false:=by rw[h,Bool.and_false];rfl
theorem a3_3 (h:c=false):(a&&b&&c)=false:=by rw[h,Bool.and_false]
end
def okL (L:List R2):Bool:=szI 2 L.length 60&&lev L 0&&lev L (L.length-1)&&asc L
abbrev er (b:Bool):Int:=match b with
 |true=>0
 |false=>2
theorem jZ {a b:Bool}(h:a=b):Value.int .i64 (er a)=Value.int .i64 (er b):=by rw[h]
abbrev exL (l0:Nat) (L:List R2):List (Nat×Con):=(57,conEach [pL l0 98 L,pF 54] L)::exM
theorem exL_ok {lo l0:Nat}{w0:World}{L:List R2}(hN:cM) (hG:Gr w0) (hlo:lo<=w0.heap.size) (hl:L.length<=1000000):CU true lo w0 (exL l0 L):=cS (jM (cjz hN hG hlo hl)) (EP hN hG hlo)
noncomputable abbrev chlR (w:World) (l0:Nat) (L:List R2)  (o:List (Nat×Nat×Bool)):=runR w ⟨o,[],(exL l0 L)⟩ 16 34 Tryz.f16 kCheckLine16_ (stA [pL l0 98 L]) (rI (er (okL L)))
theorem chl0 {w:World}(l0:Nat) (L:List R2):chlR w l0 L [(16,7,true),(16,14,true),(16,25,true),(16,31,true),(16,22,true)]=some (.ret,[(decide (2<=(L.length:Int))&&decide ((L.length:Int)<=60))=true,0<L.length,0<L.length,decide (jg (L.getD 0 default).2=0)=true,1<=L.length,L.length<=1000000000,L.length-1<L.length,L.length-1<L.length,decide (jg (L.getD (L.length-1) default).2=0)=true,asc L=true,[Pat.one (Grp.cls (Dx.ls (lst l0 98 8 L fQ))),Pat.one (Grp.lit (Value.func (Fn.func 54) #[] #[]))]=[pL l0 98 L,pF 54],Value.int IntKind.i64 (er (okL L))=Value.int IntKind.i64 0]):=by kernel_rfl
theorem chl1 {w:World}(l0:Nat) (L:List R2):chlR w l0 L [(16,7,true),(16,14,true),(16,25,true),(16,31,false),(16,22,true)]=some (.ret,[(decide (2<=(L.length:Int))&&decide ((L.length:Int)<=60))=true,0<L.length,0<L.length,decide (jg (L.getD 0 default).2=0)=true,1<=L.length,L.length<=1000000000,L.length-1<L.length,L.length-1<L.length,decide (jg (L.getD (L.length-1) default).2=0)=true,asc L=false,[Pat.one (Grp.cls (Dx.ls (lst l0 98 8 L fQ))),Pat.one (Grp.lit (Value.func (Fn.func 54) #[] #[]))]=[pL l0 98 L,pF 54],Value.int IntKind.i64 (er (okL L))=Value.int IntKind.i64 2]):=by kernel_rfl
theorem chl2 {w:World}(l0:Nat) (L:List R2):chlR w l0 L [(16,7,true),(16,14,true),(16,25,false),(16,22,true)]=some (.ret,[(decide (2<=(L.length:Int))&&decide ((L.length:Int)<=60))=true,0<L.length,0<L.length,decide (jg (L.getD 0 default).2=0)=true,1<=L.length,L.length<=1000000000,L.length-1<L.length,L.length-1<L.length,decide (jg (L.getD (L.length-1) default).2=0)=false,Value.int IntKind.i64 (er (okL L))=Value.int IntKind.i64 2]):=by kernel_rfl
theorem chl3 {w:World}(l0:Nat) (L:List R2):chlR w l0 L [(16,7,true),(16,14,false),(16,22,true)]=some (.ret,[(decide (2<=(L.length:Int))&&decide ((L.length:Int)<=60))=true,0<L.length,0<L.length,decide (jg (L.getD 0 default).2=0)=false,Value.int IntKind.i64 (er (okL L))=Value.int IntKind.i64 2]):=by kernel_rfl
theorem chl4 {w:World}(l0:Nat) (L:List R2):chlR w l0 L [(16,7,false),(16,22,true)]=some (.ret,[(decide (2<=(L.length:Int))&&decide ((L.length:Int)<=60))=false,Value.int IntKind.i64 (er (okL L))=Value.int IntKind.i64 2]):=by kernel_rfl
theorem ccD (hN:cM) (l0:Nat) (L:List R2) (hl:L.length<=1000000):uB 16 [pL l0 98 L] (fun _=>rI (er (okL L))):=by
 intro w vs hG hp;refine uq hG hN (ex:=(exL l0 L)) (exL_ok hN hG (le_refl _) hl) (fn:=Tryz.f16) Tryz.func16 (c:=codeOf Tryz.f16) (by kernel_rfl) (args:=[pL l0 98 L]) (by kernel_rfl) hp (fun hR _ hA=>?_);rcases eq_false_or_eq_true (szI 2 L.length 60) with q7|q7
 ·skip
  have b7:2<=L.length/\L.length<=60:=by simp only[szI,and_eq_true,decide_eq_true_eq] at q7;omega
  rcases eq_false_or_eq_true (lev L 0) with q14|q14
  ·skip
   rcases eq_false_or_eq_true (lev L (L.length-1)) with q25|q25
   ·skip
    rcases eq_false_or_eq_true (asc L) with q31|q31
    ·skip
     have e0:=jZ (a:=okL L) (b:=true) (a4_t q7 q14 q25 q31);refine Gy (chl0 l0 L) (hR _ rfl) hA
    ·skip
     have e0:=jZ (a:=okL L) (b:=false) (a4_4 q31);refine Gy (chl1 l0 L) (hR _ rfl) hA
   ·skip
    have e0:=jZ (a:=okL L) (b:=false) (a4_3 q25);refine Gy (chl2 l0 L) (hR _ rfl) hA
  ·skip
   have e0:=jZ (a:=okL L) (b:=false) (a4_2 q14);refine Gy (chl3 l0 L) (hR _ rfl) hA
 ·skip
  have e0:=jZ (a:=okL L) (b:=false) (a4_1 q7);refine Gy (chl4 l0 L) (hR _ rfl) hA
abbrev bad (L:List R2) (i:Nat):Bool:=decide (jg (L.getD i default).1<0)||decide (jg (L.getD i default).2<0)
def anyBad (L:List R2):Bool:=(List.range L.length).any (bad L)
theorem cjW {L:List R2}{i:Nat}(hi:i<L.length) (h:bad L i=true):anyBad L=true:=List.any_eq_true.2 ⟨i,List.mem_range.2 hi,h⟩
theorem ciL {L:List R2}(h:∀ i,i<L.length->bad L i=false):anyBad L=false:=List.any_eq_false.2 fun i hi=>by rw[h i (List.mem_range.1 hi)];exact Bool.false_ne_true
def ixB (L:List R2):Int:=match (List.range L.length).find? (bad L) with
 |some i=>(i:Int)
 |none=>-1
theorem ix_some {L:List R2}{i:Nat}(hi:i<L.length) (h:bad L i=true) (hb:∀ k,k<i->bad L k=false):ixB L=(i:Int):=by
 have:(List.range L.length).find? (bad L)=some i:=by
  rw[List.find?_range_eq_some];exact⟨h,List.mem_range.2 hi,fun j hj=>by simp [hb j hj]⟩
 unfold ixB;rw[this]
theorem ix_none {L:List R2}(h:∀ i,i<L.length->bad L i=false):ixB L=-1:=by
 have:(List.range L.length).find? (bad L)=none:=by
  rw[List.find?_eq_none];intro i hi;rw[h i (List.mem_range.1 hi)];exact Bool.false_ne_true
 unfold ixB;rw[this]
theorem ix_ge (L:List R2):decide (ixB L>=0)=anyBad L:=by
 unfold ixB anyBad;split
 ·rename_i i h;have h1:=List.find?_some h;have h2:=List.mem_of_find?_eq_some h;rw[List.any_eq_true.2 ⟨i,h2,h1⟩];exact decide_eq_true (by omega)
 ·rename_i h;rw[List.find?_eq_none] at h;rw[List.any_eq_false.2 h];rfl
abbrev ixI (lo ty:Nat) (L:List R2) (i:Nat):St Dx:=⟨1,[(0,.val (.one (.sym 0 0))),(1,.val (.one (.lit (.func (.func 58) #[] #[])))),(7,.val (.one (.lit (ii (L.length:Int))))),(8,.val (.one (.lit (ii (i:Int)))))],[(0,.cls (.ls (lst lo ty 8 L fQ)))],[]⟩
theorem ixa {w:World}(lo:Nat) (L:List R2):run w ⟨[],[],exM⟩ 120 19 kAxle120_ (stA [pL lo 103 L,pF 58]) (ixI lo 103 L 0)=some (.normal,[ct (W0 w) (.ls (lst lo 103 8 L fQ)) (.ls (lst lo 103 8 L fQ)),Value.func (Fn.func 58) #[] #[]=Value.func (Fn.func 58) #[] #[],ii (L.length:Int)=goInt (L.length:Int),ii (↑0:Int)=Value.int IntKind.i64 0]):=by kernel_rfl
theorem ixe {w:World}(lo:Nat) (L:List R2) (i:Nat):runR w ⟨[],[],exM⟩ 120 19 Tryz.f120 kAxle120_nt (ixI lo 103 L i) (rI (ixB L))=some (.ret,[Value.int IntKind.i64 (ixB L)=Value.int IntKind.i64 (-1)]):=by kernel_rfl
noncomputable abbrev ixbTe0 (w:World) (l0:Nat) (L:List R2) (i:Nat) (o:List (Nat×Nat×Bool)):=run w ⟨o,[],exM⟩ 120 19 kAxle120_nl (ixI l0 103 L i) (ixI l0 103 L i)
noncomputable abbrev ixbTnal (w:World) (l0:Nat) (L:List R2) (i:Nat) (o:List (Nat×Nat×Bool)):=run w ⟨o,[],exM⟩ 120 19 kAxle120_nl (ixI l0 103 L i) (ixI l0 103 L (i+1))
noncomputable abbrev ixbR (w:World) (l0:Nat) (L:List R2) (i:Nat) (o:List (Nat×Nat×Bool)):=runR w ⟨o,[],exM⟩ 120 19 Tryz.f120 kAxle120_nl (ixI l0 103 L i) (rI (ixB L))
theorem ixb0 {w:World}(l0:Nat) (L:List R2) (i:Nat):ixbR w l0 L i [(120,9,true),(120,16,true)]=some (.ret,[decide ((i:Int)<(L.length:Int))=true,i<L.length,i<L.length,(decide (jg (L.getD i default).1<0)||decide (jg (L.getD i default).2<0))=true,Value.int IntKind.i64 (ixB L)=ii (i:Int)]):=by kernel_rfl
theorem ixb1 {w:World}(l0:Nat) (L:List R2) (i:Nat):ixbTnal w l0 L i [(120,9,true),(120,16,false)]=some (.normal,[decide ((i:Int)<(L.length:Int))=true,i<L.length,i<L.length,(decide (jg (L.getD i default).1<0)||decide (jg (L.getD i default).2<0))=false,yt ((i:Int)+1),ct (W0 w) (.ls (lst l0 103 8 L fQ)) (.ls (lst l0 103 8 L fQ)),Value.func (Fn.func 58) #[] #[]=Value.func (Fn.func 58) #[] #[],ii (L.length:Int)=ii (L.length:Int),ii (↑(i+1):Int)=Value.int IntKind.i64 ((i:Int)+1)]):=by kernel_rfl
theorem ixb2 {w:World}(l0:Nat) (L:List R2) (i:Nat):ixbTe0 w l0 L i [(120,9,false)]=some (.exit 0,[decide ((i:Int)<(L.length:Int))=false,ct (W0 w) (.ls (lst l0 103 8 L fQ)) (.ls (lst l0 103 8 L fQ)),Value.func (Fn.func 58) #[] #[]=Value.func (Fn.func 58) #[] #[],ii (L.length:Int)=ii (L.length:Int),ii (i:Int)=ii (i:Int)]):=by kernel_rfl
theorem cjQ (hN:cM) (l0:Nat) (L:List R2) (hl:L.length<=1000000):uB 120 [pL l0 103 L,pF 58] (fun _=>rI (ixB L)):=by
 intro w vs hG hp;refine uq hG hN (ex:=exM) (EP hN hG (le_refl _)) (fn:=Tryz.f120) Tryz.func120 (c:=codeOf Tryz.f120) (by kernel_rfl) (args:=[pL l0 103 L,pF 58]) (by kernel_rfl) hp (fun hR _ hA=>?_);refine Gz (ixa l0 L) (hR _ rfl) hA (fun a w1 hA=>uk ?_);refine uC (fun i=>ixI l0 103 L i) (fun i=>i<=L.length/\∀ k,k<i->bad L k=false) (fun i=>L.length-i) (L:=kAxle120_n) (ks:=kAxle120_nt) (id:=0) (c:=kj kAxle120_n) (by kernel_rfl) 0 ⟨zero_le _,by omega⟩ hA (fun i a2 w2 hi hA=>?_);rcases eq_false_or_eq_true (decide ((i:Int)<(L.length:Int))) with q9|q9
 ·skip
  have p9:=of_decide_eq_true q9;rcases eq_false_or_eq_true (bad L i) with q16|q16
  ·skip
   have e0:=congrArg (Value.int .i64) (ix_some (by omega) q16 hi.2);refine Gy (ixb0 l0 L i) (hR _ rfl) hA
  ·skip
   refine Gz (ixb1 l0 L i) (hR _ rfl) hA (fun aT wT hT=>?_);exact jY (by kernel_rfl) ⟨i+1,⟨by omega,fun k hk=>by rcases Nat.lt_succ_iff_lt_or_eq.1 hk with h|rfl;exact hi.2 k h;exact q16⟩,hT,by omega⟩
 ·skip
  have p9:=of_decide_eq_false q9;refine Gz (ixb2 l0 L i) (hR _ rfl) hA (fun aT wT hT=>?_);refine ki _ (by kernel_rfl) ?_;refine cA (hR ⟨[],[],exM⟩ rfl) (.inl rfl) (fun _=>rfl) (fn:=Tryz.f120) (ixe l0 L i) ?_ hT (fun _ _ h=>h);exact⟨congrArg (Value.int .i64) (ix_none fun k hk=>hi.2 k (by omega)),trivial⟩
theorem cih {lo l0:Nat}{w0:World}{L:List R2}(hN:cM) (hG:Gr w0) (hlo:lo<=w0.heap.size) (hl:L.length<=1000000):jz (Cx true lo w0) (.call 120) [pL l0 103 L,pF 58] (vr (.int .i64 (ixB L))) :=
 (cjQ hN l0 L hl).val hG hlo (enters_of Tryz.func120 (by kernel_rfl) rfl)
def okV (L:List R2):Bool:=szI 1 L.length 20&&!anyBad L&&lev L (L.length-1)
abbrev exV (l0:Nat) (L:List R2):List (Nat×Con):=(120,uX [pL l0 103 L,pF 58] (vr (.int .i64 (ixB L))))::exM
theorem exV_ok {lo l0:Nat}{w0:World}{L:List R2}(hN:cM) (hG:Gr w0) (hlo:lo<=w0.heap.size) (hl:L.length<=1000000):CU true lo w0 (exV l0 L):=cS (jM (cih hN hG hlo hl)) (EP hN hG hlo)
noncomputable abbrev cofR (w:World) (l0:Nat) (L:List R2)  (o:List (Nat×Nat×Bool)):=runR w ⟨o,[],(exV l0 L)⟩ 60 9 Tryz.f60 kAxle60_ (stA [pL l0 103 L,pF 58]) (rB (anyBad L))
theorem cof0 {w:World}(l0:Nat) (L:List R2):cofR w l0 L [(60,8,true)]=some (.ret,[[Pat.one (Grp.cls (Dx.ls (lst l0 103 8 L fQ))),Pat.one (Grp.lit (Value.func (Fn.func 58) #[] #[]))]=[pL l0 103 L,pF 58],decide (ixB L>=0)=true,Value.bool (anyBad L)=Value.bool true]):=by kernel_rfl
theorem cof1 {w:World}(l0:Nat) (L:List R2):cofR w l0 L [(60,8,false)]=some (.ret,[[Pat.one (Grp.cls (Dx.ls (lst l0 103 8 L fQ))),Pat.one (Grp.lit (Value.func (Fn.func 58) #[] #[]))]=[pL l0 103 L,pF 58],decide (ixB L>=0)=false,Value.bool (anyBad L)=Value.bool false]):=by kernel_rfl
theorem cdn (hN:cM) (l0:Nat) (L:List R2) (hl:L.length<=1000000):uB 60 [pL l0 103 L,pF 58] (fun _=>rB (anyBad L)):=by
 intro w vs hG hp;refine uq hG hN (ex:=(exV l0 L)) (exV_ok hN hG (le_refl _) hl) (fn:=Tryz.f60) Tryz.func60 (c:=codeOf Tryz.f60) (by kernel_rfl) (args:=[pL l0 103 L,pF 58]) (by kernel_rfl) hp (fun hR _ hA=>?_);rcases eq_false_or_eq_true (decide (ixB L>=0)) with q8|q8
 ·skip
  have p8:=of_decide_eq_true q8
  first|have e0:=congrArg Value.bool ((ix_ge L).symm.trans q8)|skip
  refine Gy (cof0 l0 L) (hR _ rfl) hA
 ·skip
  have p8:=of_decide_eq_false q8
  first|have e0:=congrArg Value.bool ((ix_ge L).symm.trans q8)|skip
  refine Gy (cof1 l0 L) (hR _ rfl) hA
theorem cbI {lo l0:Nat}{w0:World}{L:List R2}(hN:cM) (hG:Gr w0) (hlo:lo<=w0.heap.size) (hl:L.length<=1000000):jz (Cx true lo w0) (.call 60) [pL l0 103 L,pF 58] (vr (.bool (anyBad L))) :=
 (cdn hN l0 L hl).val hG hlo (enters_of Tryz.func60 (by kernel_rfl) rfl)
abbrev exW (l0:Nat) (L:List R2):List (Nat×Con):=(60,uX [pL l0 103 L,pF 58] (vr (.bool (anyBad L))))::exM
theorem exW_ok {lo l0:Nat}{w0:World}{L:List R2}(hN:cM) (hG:Gr w0) (hlo:lo<=w0.heap.size) (hl:L.length<=1000000):CU true lo w0 (exW l0 L):=cS (jM (cbI hN hG hlo hl)) (EP hN hG hlo)
noncomputable abbrev chvR (w:World) (l0:Nat) (L:List R2)  (o:List (Nat×Nat×Bool)):=runR w ⟨o,[],(exW l0 L)⟩ 17 24 Tryz.f17 kCheckVehicle17_ (stA [pL l0 103 L]) (rI (er (okV L)))
theorem chv0 {w:World}(l0:Nat) (L:List R2):chvR w l0 L [(17,6,true),(17,11,true),(17,17,true)]=some (.ret,[(decide (1<=(L.length:Int))&&decide ((L.length:Int)<=20))=true,anyBad L=true,[Pat.one (Grp.cls (Dx.ls (lst l0 103 8 L fQ))),Pat.one (Grp.lit (Value.func (Fn.func 58) #[] #[]))]=[pL l0 103 L,pF 58],Value.int IntKind.i64 (er (okV L))=Value.int IntKind.i64 2]):=by kernel_rfl
theorem chv1 {w:World}(l0:Nat) (L:List R2):chvR w l0 L [(17,6,true),(17,11,false),(17,22,true),(17,17,true)]=some (.ret,[(decide (1<=(L.length:Int))&&decide ((L.length:Int)<=20))=true,anyBad L=false,[Pat.one (Grp.cls (Dx.ls (lst l0 103 8 L fQ))),Pat.one (Grp.lit (Value.func (Fn.func 58) #[] #[]))]=[pL l0 103 L,pF 58],1<=L.length,L.length<=1000000000,L.length-1<L.length,L.length-1<L.length,decide (jg (L.getD (L.length-1) default).2≠0)=true,Value.int IntKind.i64 (er (okV L))=Value.int IntKind.i64 2]):=by kernel_rfl
theorem chv2 {w:World}(l0:Nat) (L:List R2):chvR w l0 L [(17,6,true),(17,11,false),(17,22,false),(17,17,true)]=some (.ret,[(decide (1<=(L.length:Int))&&decide ((L.length:Int)<=20))=true,anyBad L=false,[Pat.one (Grp.cls (Dx.ls (lst l0 103 8 L fQ))),Pat.one (Grp.lit (Value.func (Fn.func 58) #[] #[]))]=[pL l0 103 L,pF 58],1<=L.length,L.length<=1000000000,L.length-1<L.length,L.length-1<L.length,decide (jg (L.getD (L.length-1) default).2≠0)=false,Value.int IntKind.i64 (er (okV L))=Value.int IntKind.i64 0]):=by kernel_rfl
theorem chv3 {w:World}(l0:Nat) (L:List R2):chvR w l0 L [(17,6,false),(17,17,true)]=some (.ret,[(decide (1<=(L.length:Int))&&decide ((L.length:Int)<=20))=false,Value.int IntKind.i64 (er (okV L))=Value.int IntKind.i64 2]):=by kernel_rfl
theorem WG (hN:cM) (l0:Nat) (L:List R2) (hl:L.length<=1000000):uB 17 [pL l0 103 L] (fun _=>rI (er (okV L))):=by
 intro w vs hG hp;refine uq hG hN (ex:=(exW l0 L)) (exW_ok hN hG (le_refl _) hl) (fn:=Tryz.f17) Tryz.func17 (c:=codeOf Tryz.f17) (by kernel_rfl) (args:=[pL l0 103 L]) (by kernel_rfl) hp (fun hR _ hA=>?_);rcases eq_false_or_eq_true (szI 1 L.length 20) with q6|q6
 ·skip
  have b6:1<=L.length/\L.length<=20:=by simp only[szI,and_eq_true,decide_eq_true_eq] at q6;omega
  rcases eq_false_or_eq_true (anyBad L) with q11|q11
  ·skip
   have e0:=jZ (a:=okV L) (b:=false) (a3_2 (by rw[q11];rfl));refine Gy (chv0 l0 L) (hR _ rfl) hA
  ·skip
   rcases eq_false_or_eq_true (decide (jg (L.getD (L.length-1) default).2≠0)) with q22|q22
   ·skip
    have p22:=of_decide_eq_true q22;have e0:=jZ (a:=okV L) (b:=false) (a3_3 (by simpa using q22));refine Gy (chv1 l0 L) (hR _ rfl) hA
   ·skip
    have p22:=of_decide_eq_false q22;have e0:=jZ (a:=okV L) (b:=true) (a3_t q6 (by rw[q11];rfl) (by simpa using q22));refine Gy (chv2 l0 L) (hR _ rfl) hA
 ·skip
  have e0:=jZ (a:=okV L) (b:=false) (a3_1 q6);refine Gy (chv3 l0 L) (hR _ rfl) hA
abbrev vrI (i:Int):jc Dx:=vr (.int .i64 i)
theorem EQ {lo l0:Nat}{w0:World}{L:List R2}(hN:cM) (hG:Gr w0) (hlo:lo<=w0.heap.size) (hl:L.length<=1000000):jz (Cx true lo w0) (.call 16) [pL l0 98 L] (vrI (er (okL L))) :=
 (ccD hN l0 L hl).val hG hlo (enters_of Tryz.func16 (by kernel_rfl) rfl)
theorem Gg {lo l0:Nat}{w0:World}{L:List R2}(hN:cM) (hG:Gr w0) (hlo:lo<=w0.heap.size) (hl:L.length<=1000000):jz (Cx true lo w0) (.call 17) [pL l0 103 L] (vrI (er (okV L))) :=
 (WG hN l0 L hl).val hG hlo (enters_of Tryz.func17 (by kernel_rfl) rfl)
end Pe
namespace Pe
noncomputable def kQ121_:List Kp:=[.code (codeOf Tryz.f121)]
noncomputable def kQ121_n:List Kp:=next kQ121_
noncomputable def kQ121_nt:List Kp:=kQ121_n.tail
noncomputable def kQ121_nl:List Kp:=[.code (kj kQ121_n)]
theorem JI {r s:Rat}:jp r s<0↔r<s:=by
 unfold jp;by_cases h:r<s
 ·rw[if_pos h];exact⟨fun _=>h,fun _=>by decide⟩
 ·rw[if_neg h];by_cases h2:s<r
  ·rw[if_pos h2];exact⟨fun x=>absurd x (by decide),fun x=>absurd x h⟩
  ·rw[if_neg h2];exact⟨fun x=>absurd x (by decide),fun x=>absurd x h⟩
theorem ZN {r s:Rat}:jp r s=0↔r=s:=⟨fun h=>by
 have h1:=uL.1 (show jp r s<=0 by omega);have h2:¬ r<s:=fun x=>by have:=JI.2 x;omega
 exact Rat.le_antisymm h1 (Rat.not_lt.1 h2),fun h=>by subst h;unfold jp;rw[if_neg Rat.lt_irrefl,if_neg Rat.lt_irrefl]⟩
abbrev xAt (L:List R2) (i:Nat):Rat:=(L.getD i default).1
abbrev yAt (L:List R2) (i:Nat):Rat:=(L.getD i default).2
theorem ceZ {L:List R2}(h:asc L=true) {i:Nat}(hi:i+1<L.length):xAt L i<xAt L (i+1) :=
 JI.1 (of_decide_eq_true (List.all_eq_true.1 h i (List.mem_range.2 (by omega))))
theorem cbV {L:List R2}(h:asc L=true) {i:Nat}:∀ {j:Nat},i<j->j<L.length->xAt L i<xAt L j
 |0,h1,_=>absurd h1 (not_lt_zero _)
 |j+1,h1,h2=>by
  have h3:=ceZ h h2;rcases Nat.lt_succ_iff_lt_or_eq.1 h1 with h4|rfl
  ·have:=cbV h h4 (by omega);grind
  ·exact h3
theorem asc_le {L:List R2}(h:asc L=true) {i j:Nat}(h1:i<=j) (h2:j<L.length):xAt L i<=xAt L j:=by
 rcases Nat.lt_or_eq_of_le h1 with h3|rfl
 ·exact Rat.le_of_lt (cbV h h3 h2)
 ·exact Rat.le_refl
def pos (L:List R2) (x:Rat):Nat:=L.findIdx fun p=>decide (¬ jp p.1 x<0)
theorem Uk {L:List R2}{i:Nat}(h:i<L.length):L.getD i default=L[i]:=by
 rw[List.getD_eq_getElem?_getD,List.getElem?_eq_getElem h];rfl
theorem pos_is {L:List R2}{x:Rat}{i:Nat}(hi:i<=L.length) (h1:∀ k,k<i->jp (xAt L k) x<0) (h2:i<L.length->¬ jp (xAt L i) x<0):pos L x=i:=by
 rcases Nat.lt_or_eq_of_le hi with h3|rfl
 ·refine(List.findIdx_eq h3).2 ⟨?_,fun j hj=>?_⟩
  ·have:=h2 h3;rw[xAt,Uk h3] at this;exact decide_eq_true this
  ·have:=h1 j hj;rw[xAt,Uk (by omega)] at this;exact decide_eq_false (fun h=>h this)
 ·refine List.findIdx_eq_length.2 fun p hp=>?_;obtain⟨j,hj,rfl⟩:=List.mem_iff_getElem.1 hp;have:=h1 j hj;rw[xAt,Uk hj] at this;exact decide_eq_false (fun h=>h this)
def fnd (L:List R2) (x:Rat):Bool:=decide (pos L x<L.length)&&decide (jp (xAt L (pos L x)) x=0)
abbrev bsI (lo ty tq:Nat) (L:List R2) (x:Rat) (m i j:Nat):St Dx:=⟨3,[(0,.val (.one (.sym 0 0))),(2,.val (.one (.lit (.func (.func 122) #[] #[])))),(4,.val (.one (.ptr 2 0))),(8,.val (.one (.lit (ii (L.length:Int))))),(9,.val (.one (.lit (ii (i:Int))))),(10,.val (.one (.lit (ii (j:Int)))))],[(0,.cls (.ls (lst lo ty 8 L fQ))),(1,.cls (.q x m)),(2,.blk tq [.sym 1 0,.sym 1 1,.sym 1 2,.sym 1 3] none)],[]⟩
theorem uB.two {lo:Nat}{w0:World}{f:Nat}{args:List (Pat Dx)}{v v':Value}(h:uB f args (fun _=>[.one (.lit v),.one (.lit v')])) (hG:Gr w0) (hlo:lo<=w0.heap.size) (hE:Enters Tryz.prog f):jz (Cx true lo w0) (.call f) args (.tup [.one (.lit v),.one (.lit v')]) :=
 h.ent hG hlo hE (fun _ _=>⟨_,rfl,rfl,rfl,trivial⟩)
abbrev bsInv (L:List R2) (x:Rat) (t:Nat×Nat):Prop:=t.1<=t.2/\t.2<=L.length/\(∀ k,k<t.1->jp (xAt L k) x<0)/\(t.2<L.length->¬ jp (xAt L t.2) x<0)
section
variable {L:List R2}{x:Rat}{i j:Nat}{A:Nat->Nat->Prop}
theorem bs_true (ha:asc L=true) (h1:i<=j) (h2:j<=L.length) (h3:∀ k,k<i->jp (xAt L k) x<0) (h4:j<L.length->¬ jp (xAt L j) x<0) (hij:(i:Int)<(j:Int)) (hc:jp (xAt L ((i+j)/2)) x<0) (hT:A ((i+j)/2+1) j):∃ t:Nat×Nat,bsInv L x t/\A t.1 t.2/\t.2-t.1<j-i :=
 ⟨((i+j)/2+1,j),⟨by simp only;omega,h2,fun k hk=>JI.2 (by
  have h5:=JI.1 hc;have h6:xAt L k<=xAt L ((i+j)/2):=asc_le ha (by simp only at hk;omega) (by omega);grind),h4⟩,hT,by simp only;omega⟩
theorem ciW (_:asc L=true) (h1:i<=j) (h2:j<=L.length) (h3:∀ k,k<i->jp (xAt L k) x<0) (_:j<L.length->¬ jp (xAt L j) x<0) (hij:(i:Int)<(j:Int)) (hc:¬ jp (xAt L ((i+j)/2)) x<0) (hT:A i ((i+j)/2)):∃ t:Nat×Nat,bsInv L x t/\A t.1 t.2/\t.2-t.1<j-i :=
 ⟨(i,(i+j)/2),⟨by simp only;omega,by simp only;omega,h3,fun _=>hc⟩,hT,by simp only;omega⟩
end
theorem bsa {w:World}(lo:Nat) (L:List R2) (x:Rat) (m:Nat):run w ⟨[],[],exM⟩ 121 49 kQ121_ (stA [pL lo 98 L,pQ x m,pF 122]) (bsI lo 98 39 L x m 0 L.length)=some (.normal,[ct (W0 w) (.ls (lst lo 98 8 L fQ)) (.ls (lst lo 98 8 L fQ)),ct (W0 w) (.q x m) (.q x m),Value.func (Fn.func 122) #[] #[]=Value.func (Fn.func 122) #[] #[],0=0,ii (L.length:Int)=goInt (L.length:Int),ii (↑0:Int)=Value.int IntKind.i64 0,ii (L.length:Int)=goInt (L.length:Int)]):=by kernel_rfl
noncomputable abbrev bseR (w:World) (l0:Nat) (L:List R2) (x:Rat) (m i:Nat) (o:List (Nat×Nat×Bool)):=runR w ⟨o,[],exM⟩ 121 49 Tryz.f121 kQ121_nt (bsI l0 98 39 L x m i i) [pI (pos L x:Nat),.one (.lit (.bool (fnd L x)))]
theorem bse0 {w:World}(l0:Nat) (L:List R2) (x:Rat) (m i:Nat):bseR w l0 L x m i [(121,38,true),(121,47,true)]=some (.ret,[decide ((i:Int)<(L.length:Int))=true,i<L.length,i<L.length,4+m<=10000,decide (jp (L.getD i default).1 x=0)=true,Value.int IntKind.i64 (↑(pos L x):Int)=ii (i:Int),Value.bool (fnd L x)=Value.bool true]):=by kernel_rfl
theorem bse1 {w:World}(l0:Nat) (L:List R2) (x:Rat) (m i:Nat):bseR w l0 L x m i [(121,38,true),(121,47,false)]=some (.ret,[decide ((i:Int)<(L.length:Int))=true,i<L.length,i<L.length,4+m<=10000,decide (jp (L.getD i default).1 x=0)=false,Value.int IntKind.i64 (↑(pos L x):Int)=ii (i:Int),Value.bool (fnd L x)=Value.bool false]):=by kernel_rfl
theorem bse2 {w:World}(l0:Nat) (L:List R2) (x:Rat) (m i:Nat):bseR w l0 L x m i [(121,38,false)]=some (.ret,[decide ((i:Int)<(L.length:Int))=false,Value.int IntKind.i64 (↑(pos L x):Int)=ii (i:Int),Value.bool (fnd L x)=Value.bool false]):=by kernel_rfl
noncomputable abbrev bsbTe0 (w:World) (l0:Nat) (L:List R2) (x:Rat) (m i j:Nat) (o:List (Nat×Nat×Bool)):=run w ⟨o,[],exM⟩ 121 49 kQ121_nl (bsI l0 98 39 L x m i j) (bsI l0 98 39 L x m i j)
noncomputable abbrev bsbTnal (w:World) (l0:Nat) (L:List R2) (x:Rat) (m i j:Nat) (o:List (Nat×Nat×Bool)):=run w ⟨o,[],exM⟩ 121 49 kQ121_nl (bsI l0 98 39 L x m i j) (bsI l0 98 39 L x m (bif true then (i+j)/2+1 else i) (bif true then j else (i+j)/2))
theorem bsb0 {w:World}(l0:Nat) (L:List R2) (x:Rat) (m i j:Nat):bsbTnal w l0 L x m i j [(121,17,true),(121,31,true)]=some (.normal,[decide ((i:Int)<(j:Int))=true,yt ((i:Int)+(j:Int)),i+j<=4000000000,(i+j)/2<=4000000000,(i+j)/2<L.length,(i+j)/2<L.length,4+m<=10000,decide (jp (L.getD ((i+j)/2) default).1 x<0)=true,yt (Int.ofNat ((i+j)/2)+1),ct (W0 w) (.ls (lst l0 98 8 L fQ)) (.ls (lst l0 98 8 L fQ)),ct (W0 w) (.q x m) (.q x m),Value.func (Fn.func 122) #[] #[]=Value.func (Fn.func 122) #[] #[],0=0,ii (L.length:Int)=ii (L.length:Int),ii (↑(bif true then (i+j)/2+1 else i):Int)=Value.int IntKind.i64 (Int.ofNat ((i+j)/2)+1),ii (↑(bif true then j else (i+j)/2):Int)=ii (j:Int)]):=by kernel_rfl
theorem bsb1 {w:World}(l0:Nat) (L:List R2) (x:Rat) (m i j:Nat):run w ⟨[(121,17,true),(121,31,false)],[],exM⟩ 121 49 kQ121_nl (bsI l0 98 39 L x m i j) (bsI l0 98 39 L x m (bif false then (i+j)/2+1 else i) (bif false then j else (i+j)/2))=some (.normal,[decide ((i:Int)<(j:Int))=true,yt ((i:Int)+(j:Int)),i+j<=4000000000,(i+j)/2<=4000000000,(i+j)/2<L.length,(i+j)/2<L.length,4+m<=10000,decide (jp (L.getD ((i+j)/2) default).1 x<0)=false,ct (W0 w) (.ls (lst l0 98 8 L fQ)) (.ls (lst l0 98 8 L fQ)),ct (W0 w) (.q x m) (.q x m),Value.func (Fn.func 122) #[] #[]=Value.func (Fn.func 122) #[] #[],0=0,ii (L.length:Int)=ii (L.length:Int),ii (↑(bif false then (i+j)/2+1 else i):Int)=ii (i:Int),ii (↑(bif false then j else (i+j)/2):Int)=Value.int IntKind.i64 (Int.ofNat ((i+j)/2))]):=by kernel_rfl
theorem bsb2 {w:World}(l0:Nat) (L:List R2) (x:Rat) (m i j:Nat):bsbTe0 w l0 L x m i j [(121,17,false)]=some (.exit 0,[decide ((i:Int)<(j:Int))=false,ct (W0 w) (.ls (lst l0 98 8 L fQ)) (.ls (lst l0 98 8 L fQ)),ct (W0 w) (.q x m) (.q x m),Value.func (Fn.func 122) #[] #[]=Value.func (Fn.func 122) #[] #[],0=0,ii (L.length:Int)=ii (L.length:Int),ii (i:Int)=ii (i:Int),ii (j:Int)=ii (j:Int)]):=by kernel_rfl
theorem chG (hN:cM) (l0:Nat) (L:List R2) (x:Rat) (m:Nat) (hl:L.length<=1000000) (hm:m<=9000) (ha:asc L=true):uB 121 [pL l0 98 L,pQ x m,pF 122] (fun _=>[pI (pos L x:Nat),.one (.lit (.bool (fnd L x)))]):=by
 intro w vs hG hp;refine uq hG hN (ex:=exM) (EP hN hG (le_refl _)) (fn:=Tryz.f121) Tryz.func121 (c:=codeOf Tryz.f121) (by kernel_rfl) (args:=[pL l0 98 L,pQ x m,pF 122]) (by kernel_rfl) hp (fun hR _ hA=>?_);refine Gz (bsa l0 L x m) (hR _ rfl) hA (fun a w1 hA=>uk ?_);have rest:∀ a w1 i,At (W0 w) 49 (bsI l0 98 39 L x m i i) a w1->i<=L.length->(∀ k,k<i->jp (xAt L k) x<0)->(i<L.length->¬ jp (xAt L i) x<0)->after Fence.wide 0 Tryz.prog kQ121_nt (Ret (W0 w) Tryz.f121 (Res (W0 w) [pI (pos L x:Nat),.one (.lit (.bool (fnd L x)))])) .normal a w1:=by
  intro a w1 i hA h1 h2 h3;have hp:=pos_is h1 h2 h3;rcases eq_false_or_eq_true (decide ((i:Int)<(L.length:Int))) with q38|q38
  ·skip
   have p38:=of_decide_eq_true q38;rcases eq_false_or_eq_true (decide (jp (xAt L i) x=0)) with q47|q47
   ·skip
    have p47:=of_decide_eq_true q47;refine Gy (bse0 l0 L x m i) (hR _ rfl) hA (by (repeat' (first|exact trivial|apply And.intro))<;>first|exact ct.refl _ _|exact fun _ _=>cC.refl _ _|exact co rfl|exact cj _ _|exact cn _ _|(with_reducible assumption)|omega|with_reducible rfl|(simp only[cq];omega)|(intro j hj;exact absurd hj (not_lt_zero _))|exact congrArg (fun n:Nat=>Value.int .i64 (n:Int)) hp|(refine congrArg Value.bool ?_;unfold fnd;rw[hp];first|(rw[q47,Bool.and_true];exact decide_eq_true (by omega))|(rw[q47,Bool.and_false])|(rw[decide_eq_false (by omega),Bool.false_and]))|rfl)
   ·skip
    have p47:=of_decide_eq_false q47;refine Gy (bse1 l0 L x m i) (hR _ rfl) hA (by (repeat' (first|exact trivial|apply And.intro))<;>first|exact ct.refl _ _|exact fun _ _=>cC.refl _ _|exact co rfl|exact cj _ _|exact cn _ _|(with_reducible assumption)|omega|with_reducible rfl|(simp only[cq];omega)|(intro j hj;exact absurd hj (not_lt_zero _))|exact congrArg (fun n:Nat=>Value.int .i64 (n:Int)) hp|(refine congrArg Value.bool ?_;unfold fnd;rw[hp];first|(rw[q47,Bool.and_true];exact decide_eq_true (by omega))|(rw[q47,Bool.and_false])|(rw[decide_eq_false (by omega),Bool.false_and]))|rfl)
  ·skip
   have p38:=of_decide_eq_false q38;refine Gy (bse2 l0 L x m i) (hR _ rfl) hA (by (repeat' (first|exact trivial|apply And.intro))<;>first|exact ct.refl _ _|exact fun _ _=>cC.refl _ _|exact co rfl|exact cj _ _|exact cn _ _|(with_reducible assumption)|omega|with_reducible rfl|(simp only[cq];omega)|(intro j hj;exact absurd hj (not_lt_zero _))|exact congrArg (fun n:Nat=>Value.int .i64 (n:Int)) hp|(refine congrArg Value.bool ?_;unfold fnd;rw[hp];first|(rw[q47,Bool.and_true];exact decide_eq_true (by omega))|(rw[q47,Bool.and_false])|(rw[decide_eq_false (by omega),Bool.false_and]))|rfl)
 refine uC (fun t:Nat×Nat=>bsI l0 98 39 L x m t.1 t.2) (bsInv L x) (fun t=>t.2-t.1) (L:=kQ121_n) (ks:=kQ121_nt) (id:=0) (c:=kj kQ121_n) (by kernel_rfl) (0,L.length) ⟨zero_le _,le_refl _,fun k hk=>absurd hk (not_lt_zero _),fun h=>absurd h (Nat.lt_irrefl _)⟩ hA ?_;rintro⟨i,j⟩ a2 w2 ⟨h1,h2,h3,h4⟩ hA;simp only at h1 h2 h3 h4 hA;rcases eq_false_or_eq_true (decide ((i:Int)<(j:Int))) with q17|q17
 ·skip
  have p17:=of_decide_eq_true q17;rcases eq_false_or_eq_true (decide (jp (xAt L ((i+j)/2)) x<0)) with q31|q31
  ·skip
   have p31:=of_decide_eq_true q31;refine Gz (bsb0 l0 L x m i j) (hR _ rfl) hA (fun aT wT hT=>?_);refine jY (by kernel_rfl) ?_;exact bs_true (A:=fun i j=>At (W0 w) 49 (bsI l0 98 39 L x m i j) aT wT) ha h1 h2 h3 h4 p17 p31 hT
  ·skip
   have p31:=of_decide_eq_false q31;refine Gz (bsb1 l0 L x m i j) (hR _ rfl) hA (fun aT wT hT=>?_);refine jY (by kernel_rfl) ?_;exact ciW (A:=fun i j=>At (W0 w) 49 (bsI l0 98 39 L x m i j) aT wT) ha h1 h2 h3 h4 p17 p31 hT
 ·skip
  have p17:=of_decide_eq_false q17;refine Gz (bsb2 l0 L x m i j) (hR _ rfl) hA (fun aT wT hT=>?_);refine ki _ (by kernel_rfl) ?_;obtain rfl:i=j:=by omega
  exact rest _ _ i hT h2 h3 h4
end Pe
namespace Pe
noncomputable def kvalue61_:List Kp:=[.code (codeOf Tryz.f61)]
def kS (L:List R2) (x:Rat):Rat :=
 if fnd L x=true then yAt L (pos L x) else
 if pos L x=0\/pos L x=L.length then 0 else
 yAt L (pos L x-1)+(yAt L (pos L x)-yAt L (pos L x-1))/(xAt L (pos L x)-xAt L (pos L x-1))*(x-xAt L (pos L x-1))
abbrev exS (l0:Nat) (L:List R2) (x:Rat) (m:Nat) (b:Bool):List (Nat×Con):=(121,uX [pL l0 98 L,pQ x m,pF 122] (.tup [pI (pos L x:Nat),.one (.lit (.bool b))]))::exM
theorem exS_ok {lo l0:Nat}{w0:World}{L:List R2}{x:Rat}{m:Nat}{b:Bool}(hN:cM) (hG:Gr w0) (hlo:lo<=w0.heap.size) (hl:L.length<=1000000) (hm:m<=9000) (ha:asc L=true) (hb:fnd L x=b):CU true lo w0 (exS l0 L x m b):=by
 subst hb;exact cS (jM ((chG hN l0 L x m hl hm ha).two hG hlo (enters_of Tryz.func121 (by kernel_rfl) rfl))) (EP hN hG hlo)
theorem cfr (L:List R2) (x:Rat):pos L x<=L.length:=List.findIdx_le_length
theorem fnd_lt {L:List R2}{x:Rat}(h:fnd L x=true):pos L x<L.length:=by
 unfold fnd at h;rw[and_eq_true] at h;exact of_decide_eq_true h.1
theorem ccF {L:List R2}{i:Nat}(ha:asc L=true) (h1:i<L.length) (h0:¬ i=0):(xAt L i-xAt L (i-1)).num≠0:=by
 have h2:=cbV ha (i:=i-1) (j:=i) (by omega) h1;intro h;have h3:xAt L i-xAt L (i-1)=0:=Rat.num_eq_zero.1 h;grind
theorem val_t {L:List R2}{x:Rat}(hb:fnd L x=true):yAt L (pos L x)=kS L x:=by unfold kS;rw[if_pos hb]
theorem cgP {L:List R2}{x:Rat}(hb:fnd L x=false) (h:pos L x=0\/pos L x=L.length):0=kS L x:=by unfold kS;rw[if_neg (by rw[hb];exact Bool.false_ne_true),if_pos h]
theorem cgd {L:List R2}{x:Rat}(hb:fnd L x=false) (h:¬ pos L x=0) (h':¬ pos L x=L.length):yAt L (pos L x-1)+(yAt L (pos L x)-yAt L (pos L x-1))/(xAt L (pos L x)-xAt L (pos L x-1))*(x-xAt L (pos L x-1))=kS L x:=by unfold kS;rw[if_neg (by rw[hb];exact Bool.false_ne_true),if_neg (by omega)]
noncomputable abbrev vltR (w:World) (l0:Nat) (L:List R2) (x:Rat) (m:Nat)     (o:List (Nat×Nat×Bool)):=runR w ⟨o,[],(exS l0 L x m true)⟩ 61 56 Tryz.f61 kvalue61_ (stA [pL l0 98 L,pQ x m]) [pQ (kS L x) (m+60)]
theorem vlt0 {w:World}(l0:Nat) (L:List R2) (x:Rat) (m:Nat):vltR w l0 L x m []=some (.ret,[[Pat.one (Grp.cls (Dx.ls (lst l0 98 8 L fQ))),Pat.agg [Grp.cls (Dx.q x m)],Pat.one (Grp.lit (Value.func (Fn.func 122) #[] #[]))]=[pL l0 98 L,pQ x m,pF 122],pos L x<L.length,pos L x<L.length,ct (W0 w) (.q (kS L x) (m+60)) (.q (L.getD (pos L x) default).2 4),ku (W0 w) (.q (kS L x) (m+60))]):=by kernel_rfl
theorem value_t (hN:cM) (l0:Nat) (L:List R2) (x:Rat) (m:Nat) (hl:L.length<=1000000) (hm:m<=5000) (ha:asc L=true) (hb:fnd L x=true):uB 61 [pL l0 98 L,pQ x m] (fun _=>[pQ (kS L x) (m+60)]):=by
 intro w vs hG hp;refine uq hG hN (ex:=(exS l0 L x m true)) (exS_ok hN hG (le_refl _) hl (by omega) ha hb) (fn:=Tryz.f61) Tryz.func61 (c:=codeOf Tryz.f61) (by kernel_rfl) (args:=[pL l0 98 L,pQ x m]) (by kernel_rfl) hp (fun hR _ hA=>?_);have b1:=fnd_lt hb;refine Gy (vlt0 l0 L x m) (hR _ rfl) hA (by (repeat' (first|exact trivial|apply And.intro))<;>first|exact ct.refl _ _|exact fun _ _=>cC.refl _ _|exact co rfl|exact cj _ _|exact cn _ _|(with_reducible assumption)|omega|with_reducible rfl|(simp only[cq];omega)|(intro j hj;exact absurd hj (not_lt_zero _))|exact Yk (val_t hb) (by omega)|rfl)
noncomputable abbrev vlfR (w:World) (l0:Nat) (L:List R2) (x:Rat) (m:Nat)     (o:List (Nat×Nat×Bool)):=runR w ⟨o,[],(exS l0 L x m false)⟩ 61 56 Tryz.f61 kvalue61_ (stA [pL l0 98 L,pQ x m]) [pQ (kS L x) (m+60)]
theorem vlf0 {w:World}(l0:Nat) (L:List R2) (x:Rat) (m:Nat):vlfR w l0 L x m [(61,22,true),(61,32,true),(61,38,true),(61,49,true)]=some (.ret,[[Pat.one (Grp.cls (Dx.ls (lst l0 98 8 L fQ))),Pat.agg [Grp.cls (Dx.q x m)],Pat.one (Grp.lit (Value.func (Fn.func 122) #[] #[]))]=[pL l0 98 L,pQ x m,pF 122],decide ((↑(pos L x):Int)=0)=true,cC (W0 w) [.cls (.q (kS L x) (m+60))] [.lit (Value.bool false),.lit (Value.int IntKind.u64 0),.lit (Value.int IntKind.u64 0),.lit (Value.pointer none)],ku (W0 w) (.q (kS L x) (m+60))]):=by kernel_rfl
theorem vlf1 {w:World}(l0:Nat) (L:List R2) (x:Rat) (m:Nat):vlfR w l0 L x m [(61,22,false),(61,27,true),(61,32,true),(61,38,true),(61,49,true)]=some (.ret,[[Pat.one (Grp.cls (Dx.ls (lst l0 98 8 L fQ))),Pat.agg [Grp.cls (Dx.q x m)],Pat.one (Grp.lit (Value.func (Fn.func 122) #[] #[]))]=[pL l0 98 L,pQ x m,pF 122],decide ((↑(pos L x):Int)=0)=false,decide ((↑(pos L x):Int)=(L.length:Int))=true,cC (W0 w) [.cls (.q (kS L x) (m+60))] [.lit (Value.bool false),.lit (Value.int IntKind.u64 0),.lit (Value.int IntKind.u64 0),.lit (Value.pointer none)],ku (W0 w) (.q (kS L x) (m+60))]):=by kernel_rfl
theorem vlf2 {w:World}(l0:Nat) (L:List R2) (x:Rat) (m:Nat):vlfR w l0 L x m [(61,22,false),(61,27,false),(61,32,true),(61,38,true),(61,49,true)]=some (.ret,[[Pat.one (Grp.cls (Dx.ls (lst l0 98 8 L fQ))),Pat.agg [Grp.cls (Dx.q x m)],Pat.one (Grp.lit (Value.func (Fn.func 122) #[] #[]))]=[pL l0 98 L,pQ x m,pF 122],decide ((↑(pos L x):Int)=0)=false,decide ((↑(pos L x):Int)=(L.length:Int))=false,1<=pos L x,pos L x<=1000000000,pos L x-1<L.length,pos L x-1<L.length,1<=pos L x,pos L x<=1000000000,pos L x-1<L.length,pos L x-1<L.length,pos L x<L.length,pos L x<L.length,4+4+1<=1000000,4+4+1<=1000000,((L.getD (pos L x) default).1-(L.getD (pos L x-1) default).1).1≠0/\4+4+1+(4+4+1)<=1000000,1<=pos L x,pos L x<=1000000000,pos L x-1<L.length,pos L x-1<L.length,m+4+1<=1000000,4+4+1+(4+4+1)+(m+4+1)<=1000000,4+(4+4+1+(4+4+1)+(m+4+1))+1<=1000000,ct (W0 w) (.q (kS L x) (m+60)) (.q ((L.getD (pos L x-1) default).2+((L.getD (pos L x) default).2-(L.getD (pos L x-1) default).2)/((L.getD (pos L x) default).1-(L.getD (pos L x-1) default).1)*(x-(L.getD (pos L x-1) default).1)) (4+(4+4+1+(4+4+1)+(m+4+1))+1)),ku (W0 w) (.q (kS L x) (m+60))]):=by kernel_rfl
theorem value_f (hN:cM) (l0:Nat) (L:List R2) (x:Rat) (m:Nat) (hl:L.length<=1000000) (hm:m<=5000) (ha:asc L=true) (hb:fnd L x=false):uB 61 [pL l0 98 L,pQ x m] (fun _=>[pQ (kS L x) (m+60)]):=by
 intro w vs hG hp;refine uq hG hN (ex:=(exS l0 L x m false)) (exS_ok hN hG (le_refl _) hl (by omega) ha hb) (fn:=Tryz.f61) Tryz.func61 (c:=codeOf Tryz.f61) (by kernel_rfl) (args:=[pL l0 98 L,pQ x m]) (by kernel_rfl) hp (fun hR _ hA=>?_);have b1:=cfr L x;rcases eq_false_or_eq_true (decide ((pos L x:Int)=0)) with q22|q22
 ·skip
  have p22:=of_decide_eq_true q22;refine Gy (vlf0 l0 L x m) (hR _ rfl) hA (by (repeat' (first|exact trivial|apply And.intro))<;>first|exact ct.refl _ _|exact fun _ _=>cC.refl _ _|exact co rfl|exact cj _ _|exact cn _ _|(with_reducible assumption)|omega|with_reducible rfl|(simp only[cq];omega)|(intro j hj;exact absurd hj (not_lt_zero _))|exact zV (cgP hb (by omega)).symm (by omega)|exact Yk (cgd hb (by omega) (by omega)) (by omega)|exact ccF ha (by omega) (by omega)|rfl)
 ·skip
  have p22:=of_decide_eq_false q22;rcases eq_false_or_eq_true (decide ((pos L x:Int)=(L.length:Int))) with q27|q27
  ·skip
   have p27:=of_decide_eq_true q27;refine Gy (vlf1 l0 L x m) (hR _ rfl) hA (by (repeat' (first|exact trivial|apply And.intro))<;>first|exact ct.refl _ _|exact fun _ _=>cC.refl _ _|exact co rfl|exact cj _ _|exact cn _ _|(with_reducible assumption)|omega|with_reducible rfl|(simp only[cq];omega)|(intro j hj;exact absurd hj (not_lt_zero _))|exact zV (cgP hb (by omega)).symm (by omega)|exact Yk (cgd hb (by omega) (by omega)) (by omega)|exact ccF ha (by omega) (by omega)|rfl)
  ·skip
   have p27:=of_decide_eq_false q27;refine Gy (vlf2 l0 L x m) (hR _ rfl) hA (by (repeat' (first|exact trivial|apply And.intro))<;>first|exact ct.refl _ _|exact fun _ _=>cC.refl _ _|exact co rfl|exact cj _ _|exact cn _ _|(with_reducible assumption)|omega|with_reducible rfl|(simp only[cq];omega)|(intro j hj;exact absurd hj (not_lt_zero _))|exact zV (cgP hb (by omega)).symm (by omega)|exact Yk (cgd hb (by omega) (by omega)) (by omega)|exact ccF ha (by omega) (by omega)|rfl)
end Pe
namespace Pe
noncomputable def kValue18_:List Kp:=[.code (codeOf Tryz.f18)]
theorem cbq {lo l0:Nat}{w0:World}{L:List R2}{x:Rat}{m:Nat}(hN:cM) (hG:Gr w0) (hlo:lo<=w0.heap.size) (hl:L.length<=1000000) (hm:m<=5000) (ha:asc L=true):jz (Cx true lo w0) (.call 61) [pL l0 98 L,pQ x m] (qr (kS L x) (m+60)):=by
 have hE:Enters Tryz.prog 61:=enters_of Tryz.func61 (by kernel_rfl) rfl;cases hb:fnd L x with
 |true=>exact(value_t hN l0 L x m hl hm ha hb).num hG hlo hE
 |false=>exact(value_f hN l0 L x m hl hm ha hb).num hG hlo hE
theorem Yz {L:List R2}(h:okL L=true):asc L=true:=by
 unfold okL at h;rw[and_eq_true] at h;exact h.2
abbrev exA (l0:Nat) (L:List R2) (b:Bool):List (Nat×Con):=(16,uX [pL l0 98 L] (vrI (er b)))::exM
theorem exA_ok {lo l0:Nat}{w0:World}{L:List R2}{b:Bool}(hN:cM) (hG:Gr w0) (hlo:lo<=w0.heap.size) (hl:L.length<=1000000) (hb:okL L=b):CU true lo w0 (exA l0 L b):=by
 subst hb;exact cS (jM (EQ hN hG hlo hl)) (EP hN hG hlo)
abbrev exB (l0:Nat) (L:List R2) (x:Rat) (m:Nat):List (Nat×Con):=(61,uX [pL l0 98 L,pQ x m] (qr (kS L x) (m+60)))::exA l0 L true
theorem exB_ok {lo l0:Nat}{w0:World}{L:List R2}{x:Rat}{m:Nat}(hN:cM) (hG:Gr w0) (hlo:lo<=w0.heap.size) (hl:L.length<=1000000) (hm:m<=5000) (hb:okL L=true):CU true lo w0 (exB l0 L x m) :=
 cS (jM (cbq hN hG hlo hl hm (Yz hb))) (exA_ok hN hG hlo hl hb)
noncomputable abbrev VltR (w:World) (l0:Nat) (L:List R2) (x:Rat) (m:Nat)    (o:List (Nat×Nat×Bool)):=runR w ⟨o,[],(exB l0 L x m)⟩ 18 16 Tryz.f18 kValue18_ (stA [pL l0 98 L,pQ x m]) [pQ (kS L x) (m+60),pI 0]
theorem Vlt0 {w:World}(l0:Nat) (L:List R2) (x:Rat) (m:Nat):VltR w l0 L x m []=some (.ret,[[Pat.one (Grp.cls (Dx.ls (lst l0 98 8 L fQ)))]=[pL l0 98 L],[Pat.one (Grp.cls (Dx.ls (lst l0 98 8 L fQ))),Pat.agg [Grp.cls (Dx.q x m)]]=[pL l0 98 L,pQ x m],ct (W0 w) (.q (kS L x) (m+60)) (.q (kS L x) (m+60)),Value.int IntKind.i64 0=Value.int IntKind.i64 0,ku (W0 w) (.q (kS L x) (m+60))]):=by kernel_rfl
theorem Value_t (hN:cM) (l0:Nat) (L:List R2) (x:Rat) (m:Nat) (hl:L.length<=1000000) (hm:m<=5000) (hb:okL L=true):uB 18 [pL l0 98 L,pQ x m] (fun _=>[pQ (kS L x) (m+60),pI 0]):=by
 intro w vs hG hp;refine uq hG hN (ex:=(exB l0 L x m)) (exB_ok hN hG (le_refl _) hl hm hb) (fn:=Tryz.f18) Tryz.func18 (c:=codeOf Tryz.f18) (by kernel_rfl) (args:=[pL l0 98 L,pQ x m]) (by kernel_rfl) hp (fun hR _ hA=>?_);refine Gy (Vlt0 l0 L x m) (hR _ rfl) hA
noncomputable abbrev VlfR (w:World) (l0:Nat) (L:List R2) (x:Rat) (m:Nat)   (o:List (Nat×Nat×Bool)):=runR w ⟨o,[],(exA l0 L false)⟩ 18 16 Tryz.f18 kValue18_ (stA [pL l0 98 L,pQ x m]) [pQ 0 1,pI 2]
theorem Vlf0 {w:World}(l0:Nat) (L:List R2) (x:Rat) (m:Nat):VlfR w l0 L x m []=some (.ret,[[Pat.one (Grp.cls (Dx.ls (lst l0 98 8 L fQ)))]=[pL l0 98 L],cC (W0 w) [.cls (.q 0 1)] [.lit (Value.bool false),.lit (Value.int IntKind.u64 0),.lit (Value.int IntKind.u64 0),.lit (Value.pointer none)],Value.int IntKind.i64 2=Value.int IntKind.i64 (er false),ku (W0 w) (.q 0 1)]):=by kernel_rfl
theorem Value_f (hN:cM) (l0:Nat) (L:List R2) (x:Rat) (m:Nat) (hl:L.length<=1000000) (hb:okL L=false):uB 18 [pL l0 98 L,pQ x m] (fun _=>[pQ 0 1,pI 2]):=by
 intro w vs hG hp;refine uq hG hN (ex:=(exA l0 L false)) (exA_ok hN hG (le_refl _) hl hb) (fn:=Tryz.f18) Tryz.func18 (c:=codeOf Tryz.f18) (by kernel_rfl) (args:=[pL l0 98 L,pQ x m]) (by kernel_rfl) hp (fun hR _ hA=>?_);refine Gy (Vlf0 l0 L x m) (hR _ rfl) hA
end Pe
namespace Pe
noncomputable def kAxle63_:List Kp:=[.code (codeOf Tryz.f63)]
noncomputable def kAxle63_n:List Kp:=next kAxle63_
noncomputable def kAxle63_nl:List Kp:=[.code (kj kAxle63_n)]
noncomputable def kAxle63_nt:List Kp:=kAxle63_n.tail
def bk (V:List R2):Nat->Rat
 |0=>0
 |i+1=>bk V i+(V.getD i default).2
def bkz (V:List R2) (i j:Nat):Rat:=if j<=i then bk V j else 0
abbrev Bk (lo ty:Nat) (V:List R2):Lt Dx:=⟨lo,ty,4,V.length,fun j=>[.cls (.q (bk V j) (5*j+1))]⟩
abbrev pB (lo:Nat) (V:List R2):Pat Dx:=.one (.cls (.ls (Bk lo 39 V)))
abbrev bkI (lo ty tq:Nat) (V:List R2) (i:Nat):St Dx:=⟨2,[(0,.val (.one (.sym 0 0))),(1,.val (.one (.lit (.func (.func 64) #[] #[])))),(5,.val (.one (.fn 1))),(12,.val (.one (.lit (ii ((V.length:Int)-1))))),(13,.val (.one (.lit (ii (i:Int)))))],[(0,.cls (.ls (lst lo ty 8 V fQ))),(1,.gl tq 4 V.length (fun j=>[.cls (.q (bkz V i j) (5*j+1))]))],[]⟩
theorem bkz_0 (V:List R2) (j:Nat):bkz V 0 j=0:=by
 unfold bkz;split
 ·rename_i h;rw[Nat.le_zero.1 h];rfl
 ·rfl
theorem cef (V:List R2) (i:Nat):bkz V i i=bk V i:=if_pos (le_refl i)
theorem bkz_le {V:List R2}{i j:Nat}(h:j<=i):bkz V i j=bk V j:=if_pos h
section
variable {b:Bool}{lo:Nat}{w0:World}{V:List R2}
theorem bk_zero {n:Nat}{gs:List (Grp Dx)}(h:gs=[.lit (.bool false),.lit (.int .u64 0),.lit (.int .u64 0),.lit (.pointer none)]):∀ j,j<n->cC (Cx b lo w0) [.cls (.q (bkz V 0 j) (5*j+1))] gs:=fun j _=>by
 subst h;exact zV (bkz_0 V j) (by omega)
theorem bk_put {i n k:Nat}(hk:k<=5*(i+1)+1):∀ j,j<n->cC (Cx b lo w0) [.cls (.q (bkz V (i+1) j) (5*j+1))] (putG (fun j=>[.cls (.q (bkz V i j) (5*j+1))]) (i+1) [.cls (.q (bkz V i i+(V.getD i default).2) k)] j):=fun j _ w vs hv=>by
 unfold putG at hv;split at hv
 ·rename_i h;obtain rfl:=eq_of_beq_eq_true h;refine⟨Yk (b:=b) (lo:=lo) (w0:=w0) ?_ hk w _ hv.1,hv.2⟩;rw[cef,cef];rfl
 ·rename_i h;refine⟨Yk (b:=b) (lo:=lo) (w0:=w0) ?_ (le_refl _) w _ hv.1,hv.2⟩;unfold bkz;by_cases h1:j<=i
  ·rw[if_pos h1,if_pos (by omega)]
  ·rw[if_neg h1,if_neg];intro h2;have:j=i+1:=by omega
   rw[this,Nat.beq_refl] at h;cases h
theorem bk_end {c c' ty i:Nat}(h:c'<=c) (hi:V.length<=i+1):ct (Cx b lo w0) (.ls (Bk c' ty V)) (.ls ⟨c,ty,4,V.length,fun j=>[.cls (.q (bkz V i j) (5*j+1))]⟩) :=
 cgU rfl h rfl rfl rfl (fun j hj=>by
  have hj:j<V.length:=hj;show [Grp.cls (Dx.q (bk V j) _)]=[Grp.cls (Dx.q (bkz V i j) _)];rw[bkz_le (by omega)])
end
theorem bka {w:World}(lo:Nat) (V:List R2):run w ⟨[],[(63,9)],exM⟩ 63 33 kAxle63_ (stA [pL lo 103 V,pF 64]) (bkI lo 103 39 V 0)=some (.normal,[V.length<=1000000,V.length=V.length,yt ((V.length:Int)-1),ct (W0 w) (.ls (lst lo 103 8 V fQ)) (.ls (lst lo 103 8 V fQ)),V.length=V.length,∀ (j:Nat),j<V.length->cC (W0 w) [Grp.cls (Dx.q (bkz V 0 j) (5*j+1))] (cgG [Value.bool false,Value.int IntKind.u64 0,Value.int IntKind.u64 0,Value.pointer none]),Value.func (Fn.func 64) #[] #[]=Value.func (Fn.func 64) #[] #[],ii ((V.length:Int)-1)=Value.int IntKind.i64 ((V.length:Int)-1),ii (↑0:Int)=Value.int IntKind.i64 0]):=by kernel_rfl
theorem bke {w:World}(lo:Nat) (V:List R2) (i:Nat):runR w ⟨[],[],exM⟩ 63 33 Tryz.f63 kAxle63_nt (bkI lo 103 39 V i) [pB w.heap.size V]=some (.ret,[ct (W0 w) (.ls (Bk w.1.size 39 V)) (.ls { lo:=w.1.size,ty:=39,z:=4,n:=V.length,g:=fun(j:Nat)=>[.cls (.q (bkz V i j) (5*j+1))] }),ku (W0 w) (.ls (Bk w.1.size 39 V))]):=by kernel_rfl
noncomputable abbrev bkbTe0 (w:World) (l0:Nat) (V:List R2) (i:Nat) (o:List (Nat×Nat×Bool)):=run w ⟨o,[],exM⟩ 63 33 kAxle63_nl (bkI l0 103 39 V i) (bkI l0 103 39 V i)
noncomputable abbrev bkbTnal (w:World) (l0:Nat) (V:List R2) (i:Nat) (o:List (Nat×Nat×Bool)):=run w ⟨o,[],exM⟩ 63 33 kAxle63_nl (bkI l0 103 39 V i) (bkI l0 103 39 V (i+1))
theorem bkb0 {w:World}(l0:Nat) (V:List R2) (i:Nat):bkbTnal w l0 V i [(63,14,true)]=some (.normal,[decide ((i:Int)<(V.length:Int)-1)=true,yt ((i:Int)+1),i<V.length,i<V.length,i<V.length,i<V.length,5*i+1+4+1<=1000000,i+1<V.length,i+1<V.length,yt ((i:Int)+1),ct (W0 w) (.ls (lst l0 103 8 V fQ)) (.ls (lst l0 103 8 V fQ)),V.length=V.length,∀ (j:Nat),j<V.length->cC (W0 w) [Grp.cls (Dx.q (bkz V (i+1) j) (5*j+1))] (putG (fun(j:Nat)=>[Grp.cls (Dx.q (bkz V i j) (5*j+1))]) (i+1) ([].append ([Grp.cls (Dx.q (bkz V i i+(V.getD i default).2) (5*i+1+4+1))].append [])) j),Value.func (Fn.func 64) #[] #[]=Value.func (Fn.func 64) #[] #[],ii ((V.length:Int)-1)=ii ((V.length:Int)-1),ii (↑(i+1):Int)=Value.int IntKind.i64 ((i:Int)+1)]):=by kernel_rfl
theorem bkb1 {w:World}(l0:Nat) (V:List R2) (i:Nat):bkbTe0 w l0 V i [(63,14,false)]=some (.exit 0,[decide ((i:Int)<(V.length:Int)-1)=false,ct (W0 w) (.ls (lst l0 103 8 V fQ)) (.ls (lst l0 103 8 V fQ)),V.length=V.length,∀ (j:Nat),j<V.length->cC (W0 w) [Grp.cls (Dx.q (bkz V i j) (5*j+1))] [Grp.cls (Dx.q (bkz V i j) (5*j+1))],Value.func (Fn.func 64) #[] #[]=Value.func (Fn.func 64) #[] #[],ii ((V.length:Int)-1)=ii ((V.length:Int)-1),ii (i:Int)=ii (i:Int)]):=by kernel_rfl
theorem cht (hN:cM) (l0:Nat) (V:List R2) (hl:V.length<=1000):uB 63 [pL l0 103 V,pF 64] (fun lo=>[pB lo V]):=by
 intro w vs hG hp;refine uq hG hN (ex:=exM) (EP hN hG (le_refl _)) (fn:=Tryz.f63) Tryz.func63 (c:=codeOf Tryz.f63) (by kernel_rfl) (args:=[pL l0 103 V,pF 64]) (by kernel_rfl) hp (fun hR _ hA=>?_);refine Gz (bka l0 V) (hR _ rfl) hA (fun a w1 hA=>uk ?_) (by (repeat' (first|exact trivial|apply And.intro))<;>first|exact ct.refl _ _|exact fun _ _=>cC.refl _ _|exact co rfl|exact cj _ _|exact cn _ _|(with_reducible assumption)|omega|with_reducible rfl|(simp only[cq];omega)|(intro j hj;exact absurd hj (not_lt_zero _))|exact bk_zero rfl|rfl);refine uC (fun i=>bkI l0 103 39 V i) (fun i=>i<=V.length-1) (fun i=>V.length-i) (L:=kAxle63_n) (ks:=kAxle63_nt) (id:=0) (c:=kj kAxle63_n) (by kernel_rfl) 0 (zero_le _) hA (fun i a2 w2 hi hA=>?_);rcases eq_false_or_eq_true (decide ((i:Int)<(V.length:Int)-1)) with q14|q14
 ·skip
  have p14:=of_decide_eq_true q14;refine Gz (bkb0 l0 V i) (hR _ rfl) hA (fun aT wT hT=>?_) (by (repeat' (first|exact trivial|apply And.intro))<;>first|exact ct.refl _ _|exact fun _ _=>cC.refl _ _|exact co rfl|exact cj _ _|exact cn _ _|(with_reducible assumption)|omega|with_reducible rfl|(simp only[cq];omega)|(intro j hj;exact absurd hj (not_lt_zero _))|exact bk_put (by omega)|rfl);exact jY (by kernel_rfl) ⟨i+1,by omega,hT,by omega⟩
 ·skip
  have p14:=of_decide_eq_false q14;refine Gz (bkb1 l0 V i) (hR _ rfl) hA (fun aT wT hT=>?_) (by (repeat' (first|exact trivial|apply And.intro))<;>first|exact ct.refl _ _|exact fun _ _=>cC.refl _ _|exact co rfl|exact cj _ _|exact cn _ _|(with_reducible assumption)|omega|with_reducible rfl|(simp only[cq];omega)|(intro j hj;exact absurd hj (not_lt_zero _))|exact bk_put (by omega)|rfl);refine ki _ (by kernel_rfl) ?_;refine cA (hR ⟨[],[],exM⟩ rfl) (.inl rfl) (fun _=>rfl) (fn:=Tryz.f63) (bke l0 V i) ?_ hT (fun _ _ h=>h);refine⟨bk_end (le_refl _) (by omega),Kk (le_refl _) ?_,trivial⟩;intro j hj d hd;simp [zH] at hd;subst hd;exact cj _ _
end Pe
namespace Pe
noncomputable def kEffect19_:List Kp:=[.code (codeOf Tryz.f19)]
noncomputable def kEffect19_n:List Kp:=next kEffect19_
noncomputable def kEffect19_nl:List Kp:=[.code (kj kEffect19_n)]
noncomputable def kEffect19_nt:List Kp:=kEffect19_n.tail
def efs (L V:List R2) (x:Rat):Nat->Rat
 |0=>0
 |i+1=>efs L V x i+(V.getD i default).1*kS L (x-bk V i)
def ceJ (l0:Nat) (L:List R2):Con
 |[p,.agg [.cls (.q x m)]]=>some (qr (kS L x) (m+60),[p=pL l0 98 L,m<=5000])
 |_=>none
theorem ciU {lo l0:Nat}{w0:World}{L:List R2}(hN:cM) (hG:Gr w0) (hlo:lo<=w0.heap.size) (hl:L.length<=1000000) (ha:asc L=true):∀ l r ob,ceJ l0 L l=some (r,ob)->jH ob->jz (Cx true lo w0) (.call 61) l r:=by
 intro l r ob h ho;unfold ceJ at h;split at h
 ·injection h with h;injection h with h1 h2;subst h1;subst h2
  rw[show _=pL l0 98 L from ho.1];exact cbq hN hG hlo hl ho.2.1 ha
 ·cases h
theorem cfe {lo l0:Nat}{w0:World}{V:List R2}(hN:cM) (hG:Gr w0) (hlo:lo<=w0.heap.size) (hl:V.length<=1000):jz (Cx true lo w0) (.call 63) [pL l0 103 V,pF 64] (Ym [pB lo V]) :=
 (cht hN l0 V hl).ent hG hlo (enters_of Tryz.func63 (by kernel_rfl) rfl) (fun hi h=>⟨_,rfl,UI (L:=Bk lo _ V) h,trivial⟩)
abbrev exF (l0 l1:Nat) (L V:List R2) (a b:Bool):List (Nat×Con):=(16,uX [pL l0 98 L] (vrI (er a)))::(17,uX [pL l1 103 V] (vrI (er b)))::exM
theorem cfg {lo l0 l1:Nat}{w0:World}{L V:List R2}{a b:Bool}(hN:cM) (hG:Gr w0) (hlo:lo<=w0.heap.size) (hl:L.length<=1000000) (hv:V.length<=1000) (ha:okL L=a) (hb:okV V=b):CU true lo w0 (exF l0 l1 L V a b):=by
 subst ha;subst hb;exact cS (jM (EQ hN hG hlo hl)) (cS (jM (Gg hN hG hlo (by omega))) (EP hN hG hlo))
abbrev exE (lo l0 l1:Nat) (L V:List R2):List (Nat×Con):=(61,ceJ l0 L)::(63,uX [pL l1 103 V,pF 64] (Ym [pB lo V]))::exF l0 l1 L V true true
theorem exE_ok {lo l0 l1:Nat}{w0:World}{L V:List R2}(hN:cM) (hG:Gr w0) (hlo:lo<=w0.heap.size) (hl:L.length<=1000000) (hv:V.length<=1000) (ha:okL L=true) (hb:okV V=true):CU true lo w0 (exE lo l0 l1 L V) :=
 cS (ciU hN hG hlo hl (Yz ha)) (cS (jM (cfe hN hG hlo hv)) (cfg hN hG hlo hl hv ha hb))
noncomputable abbrev EffR (w:World) (l0 l1:Nat) (L V:List R2) (x:Rat) (b:Bool)     (o:List (Nat×Nat×Bool)):=runR w ⟨o,[],(exF l0 l1 L V false b)⟩ 19 45 Tryz.f19 kEffect19_ (stA [pL l0 98 L,pL l1 103 V,pQ x 4]) [pQ 0 1,pI 2]
theorem Eff0 {w:World}(l0 l1:Nat) (L V:List R2) (x:Rat) (b:Bool):EffR w l0 l1 L V x b []=some (.ret,[[Pat.one (Grp.cls (Dx.ls (lst l0 98 8 L fQ)))]=[pL l0 98 L],[Pat.one (Grp.cls (Dx.ls (lst l1 103 8 V fQ)))]=[pL l1 103 V],cC (W0 w) [.cls (.q 0 1)] [.lit (Value.bool false),.lit (Value.int IntKind.u64 0),.lit (Value.int IntKind.u64 0),.lit (Value.pointer none)],Value.int IntKind.i64 2=Value.int IntKind.i64 (er false),ku (W0 w) (.q 0 1)]):=by kernel_rfl
theorem cjG (hN:cM) (l0 l1:Nat) (L V:List R2) (x:Rat) (b:Bool) (hl:L.length<=1000000) (hv:V.length<=1000) (ha:okL L=false) (hb:okV V=b):uB 19 [pL l0 98 L,pL l1 103 V,pQ x 4] (fun _=>[pQ 0 1,pI 2]):=by
 intro w vs hG hp;refine uq hG hN (ex:=(exF l0 l1 L V false b)) (cfg hN hG (le_refl _) hl hv ha hb) (fn:=Tryz.f19) Tryz.func19 (c:=codeOf Tryz.f19) (by kernel_rfl) (args:=[pL l0 98 L,pL l1 103 V,pQ x 4]) (by kernel_rfl) hp (fun hR _ hA=>?_);refine Gy (Eff0 l0 l1 L V x b) (hR _ rfl) hA
noncomputable abbrev EfgR (w:World) (l0 l1:Nat) (L V:List R2) (x:Rat)     (o:List (Nat×Nat×Bool)):=runR w ⟨o,[],(exF l0 l1 L V true false)⟩ 19 45 Tryz.f19 kEffect19_ (stA [pL l0 98 L,pL l1 103 V,pQ x 4]) [pQ 0 1,pI 2]
theorem Efg0 {w:World}(l0 l1:Nat) (L V:List R2) (x:Rat):EfgR w l0 l1 L V x []=some (.ret,[[Pat.one (Grp.cls (Dx.ls (lst l0 98 8 L fQ)))]=[pL l0 98 L],[Pat.one (Grp.cls (Dx.ls (lst l1 103 8 V fQ)))]=[pL l1 103 V],yt (0+1),cC (W0 w) [.cls (.q 0 1)] [.lit (Value.bool false),.lit (Value.int IntKind.u64 0),.lit (Value.int IntKind.u64 0),.lit (Value.pointer none)],Value.int IntKind.i64 2=Value.int IntKind.i64 (er false),ku (W0 w) (.q 0 1)]):=by kernel_rfl
theorem ciV (hN:cM) (l0 l1:Nat) (L V:List R2) (x:Rat) (hl:L.length<=1000000) (hv:V.length<=1000) (ha:okL L=true) (hb:okV V=false):uB 19 [pL l0 98 L,pL l1 103 V,pQ x 4] (fun _=>[pQ 0 1,pI 2]):=by
 intro w vs hG hp;refine uq hG hN (ex:=(exF l0 l1 L V true false)) (cfg hN hG (le_refl _) hl hv ha hb) (fn:=Tryz.f19) Tryz.func19 (c:=codeOf Tryz.f19) (by kernel_rfl) (args:=[pL l0 98 L,pL l1 103 V,pQ x 4]) (by kernel_rfl) hp (fun hR _ hA=>?_);refine Gy (Efg0 l0 l1 L V x) (hR _ rfl) hA
abbrev ef0 (lo l0 l1 tp ta tq:Nat) (L V:List R2) (x:Rat):St Dx:=⟨7,[(0,.val (.one (.sym 0 0))),(1,.val (.one (.sym 1 0))),(5,.val (.one (.ptr 3 0))),(6,.val (.one (.ptr 4 0))),(9,.val (.one (.ptr 5 0))),(23,.val (.one (.sym 6 0))),(24,.val (.one (.lit (ii (V.length:Int))))),(25,.val (.one (.lit (ii (0:Int)))))],[(0,.cls (.ls (lst l0 tp 8 L fQ))),(1,.cls (.ls (lst l1 ta 8 V fQ))),(2,.cls (.q x 4)),(3,.blk tq [.sym 2 0,.sym 2 1,.sym 2 2,.sym 2 3] none),(4,.blk tq [.lit (.bool false),.lit (.int .u64 0),.lit (.int .u64 0),.lit (.pointer none)] none),(5,.blk tq [.lit (.bool false),.lit (.int .u64 0),.lit (.int .u64 0),.lit (.pointer none)] none),(6,.cls (.ls (Bk lo tq V)))],[]⟩
abbrev ef1 (lo l0 l1 tp ta tq:Nat) (L V:List R2) (x:Rat) (i:Nat):St Dx:=⟨8,[(0,.val (.one (.sym 0 0))),(1,.val (.one (.sym 1 0))),(5,.val (.one (.ptr 3 0))),(6,.val (.one (.ptr 4 0))),(9,.val (.one (.ptr 5 0))),(23,.val (.one (.sym 6 0))),(24,.val (.one (.lit (ii (V.length:Int))))),(25,.val (.one (.lit (ii (i:Int)))))],[(0,.cls (.ls (lst l0 tp 8 L fQ))),(1,.cls (.ls (lst l1 ta 8 V fQ))),(2,.cls (.q x 4)),(3,.blk tq [.sym 2 0,.sym 2 1,.sym 2 2,.sym 2 3] none),(4,.blk tq [.lit (.bool false),.lit (.int .u64 0),.lit (.int .u64 0),.lit (.pointer none)] none),(5,.blk tq [.sym 7 0,.sym 7 1,.sym 7 2,.sym 7 3] none),(6,.cls (.ls (Bk lo tq V))),(7,.cls (.q (efs L V x i) (204*i+1)))],[]⟩
theorem chl {V:List R2}(h:okV V=true):1<=V.length/\V.length<=20:=by
 unfold okV szI at h;simp only[and_eq_true,decide_eq_true_eq] at h;omega
noncomputable abbrev efO (lo l0 l1:Nat) (L V:List R2):Opt:=⟨[],[],exE lo l0 l1 L V⟩
theorem efa {w:World}(l0 l1:Nat) (L V:List R2) (x:Rat):run w (efO w.heap.size l0 l1 L V) 19 45 kEffect19_ (stA [pL l0 98 L,pL l1 103 V,pQ x 4]) (ef0 w.heap.size l0 l1 98 103 39 L V x)=some (.normal,[[Pat.one (Grp.cls (Dx.ls (lst l0 98 8 L fQ)))]=[pL l0 98 L],[Pat.one (Grp.cls (Dx.ls (lst l1 103 8 V fQ)))]=[pL l1 103 V],yt (0+1),yt (0+1+1),[Pat.one (Grp.cls (Dx.ls (lst l1 103 8 V fQ))),Pat.one (Grp.lit (Value.func (Fn.func 64) #[] #[]))]=[pL l1 103 V,pF 64],ct (W0 w) (.ls (lst l0 98 8 L fQ)) (.ls (lst l0 98 8 L fQ)),ct (W0 w) (.ls (lst l1 103 8 V fQ)) (.ls (lst l1 103 8 V fQ)),ct (W0 w) (.q x 4) (.q x 4),Value.bool false=Value.bool false,Value.int IntKind.u64 0=Value.int IntKind.u64 0,Value.int IntKind.u64 0=Value.int IntKind.u64 0,Value.pointer none=Value.pointer none,Value.bool false=Value.bool false,Value.int IntKind.u64 0=Value.int IntKind.u64 0,Value.int IntKind.u64 0=Value.int IntKind.u64 0,Value.pointer none=Value.pointer none,ct (W0 w) (.ls (Bk w.1.size 39 V)) (.ls (Bk w.1.size 39 V)),0=0,0=0,0=0,ii (V.length:Int)=goInt (V.length:Int),ii 0=Value.int IntKind.i64 0]):=by kernel_rfl
theorem efb {w:World}(l0 l1:Nat) (L V:List R2) (x:Rat):run w ⟨[(19,26,true)],[],exE w.heap.size l0 l1 L V⟩ 19 45 kEffect19_nl (ef0 w.heap.size l0 l1 98 103 39 L V x) (ef1 w.heap.size l0 l1 98 103 39 L V x 1)=some (.normal,[decide (0<(V.length:Int))=true,0<V.length,0<V.length,0<V.length,0<V.length,4+(5*0+1)+1<=1000000,Pat.one (Grp.cls (Dx.ls (lst l0 98 8 L fQ)))=pL l0 98 L,4+(5*0+1)+1<=5000,4+(4+(5*0+1)+1+60)<=1000000,1+(4+(4+(5*0+1)+1+60))+1<=1000000,yt (0+1),ct (W0 w) (.ls (lst l0 98 8 L fQ)) (.ls (lst l0 98 8 L fQ)),ct (W0 w) (.ls (lst l1 103 8 V fQ)) (.ls (lst l1 103 8 V fQ)),ct (W0 w) (.q x 4) (.q x 4),Value.bool false=Value.bool false,Value.int IntKind.u64 0=Value.int IntKind.u64 0,Value.int IntKind.u64 0=Value.int IntKind.u64 0,Value.pointer none=Value.pointer none,ct (W0 w) (.ls (Bk w.1.size 39 V)) (.ls (Bk w.1.size 39 V)),ct (W0 w) (.q (efs L V x 1) (204*1+1)) (.q (0+(V.getD 0 default).1*kS L (x-bk V 0)) (1+(4+(4+(5*0+1)+1+60))+1)),0=0,0=0,0=0,ii (V.length:Int)=ii (V.length:Int),ii (↑1:Int)=Value.int IntKind.i64 (0+1)]):=by kernel_rfl
theorem efe {w:World}(l0 l1:Nat) (L V:List R2) (x:Rat) (i:Nat):runR w (efO w.heap.size l0 l1 L V) 19 45 Tryz.f19 kEffect19_nt (ef1 w.heap.size l0 l1 98 103 39 L V x i) [pQ (efs L V x i) (204*i+1),pI 0]=some (.ret,[ct (W0 w) (.q (efs L V x i) (204*i+1)) (.q (efs L V x i) (204*i+1)),Value.int IntKind.i64 0=Value.int IntKind.i64 0,ku (W0 w) (.q (efs L V x i) (204*i+1))]):=by kernel_rfl
noncomputable abbrev efcTe0 (w:World) (l0 l1:Nat) (L V:List R2) (x:Rat) (i:Nat) (o:List (Nat×Nat×Bool)):=run w ⟨o,[],exE w.heap.size l0 l1 L V⟩ 19 45 kEffect19_nl (ef1 w.heap.size l0 l1 98 103 39 L V x (i+1)) (ef1 w.heap.size l0 l1 98 103 39 L V x (i+1))
noncomputable abbrev efcTnal (w:World) (l0 l1:Nat) (L V:List R2) (x:Rat) (i:Nat) (o:List (Nat×Nat×Bool)):=run w ⟨o,[],exE w.heap.size l0 l1 L V⟩ 19 45 kEffect19_nl (ef1 w.heap.size l0 l1 98 103 39 L V x (i+1)) (ef1 w.heap.size l0 l1 98 103 39 L V x (i+1+1))
theorem efc0 {w:World}(l0 l1:Nat) (L V:List R2) (x:Rat) (i:Nat):efcTnal w l0 l1 L V x i [(19,26,true)]=some (.normal,[decide ((↑(i+1):Int)<(V.length:Int))=true,i+1<V.length,i+1<V.length,i+1<V.length,i+1<V.length,4+(5*(i+1)+1)+1<=1000000,Pat.one (Grp.cls (Dx.ls (lst l0 98 8 L fQ)))=pL l0 98 L,4+(5*(i+1)+1)+1<=5000,4+(4+(5*(i+1)+1)+1+60)<=1000000,204*(i+1)+1+(4+(4+(5*(i+1)+1)+1+60))+1<=1000000,yt ((↑(i+1):Int)+1),ct (W0 w) (.ls (lst l0 98 8 L fQ)) (.ls (lst l0 98 8 L fQ)),ct (W0 w) (.ls (lst l1 103 8 V fQ)) (.ls (lst l1 103 8 V fQ)),ct (W0 w) (.q x 4) (.q x 4),Value.bool false=Value.bool false,Value.int IntKind.u64 0=Value.int IntKind.u64 0,Value.int IntKind.u64 0=Value.int IntKind.u64 0,Value.pointer none=Value.pointer none,ct (W0 w) (.ls (Bk w.1.size 39 V)) (.ls (Bk w.1.size 39 V)),ct (W0 w) (.q (efs L V x (i+1+1)) (204*(i+1+1)+1)) (.q (efs L V x (i+1)+(V.getD (i+1) default).1*kS L (x-bk V (i+1))) (204*(i+1)+1+(4+(4+(5*(i+1)+1)+1+60))+1)),0=0,0=0,0=0,ii (V.length:Int)=ii (V.length:Int),ii (↑(i+1+1):Int)=Value.int IntKind.i64 ((↑(i+1):Int)+1)]):=by kernel_rfl
theorem efc1 {w:World}(l0 l1:Nat) (L V:List R2) (x:Rat) (i:Nat):efcTe0 w l0 l1 L V x i [(19,26,false)]=some (.exit 0,[decide ((↑(i+1):Int)<(V.length:Int))=false,ct (W0 w) (.ls (lst l0 98 8 L fQ)) (.ls (lst l0 98 8 L fQ)),ct (W0 w) (.ls (lst l1 103 8 V fQ)) (.ls (lst l1 103 8 V fQ)),ct (W0 w) (.q x 4) (.q x 4),Value.bool false=Value.bool false,Value.int IntKind.u64 0=Value.int IntKind.u64 0,Value.int IntKind.u64 0=Value.int IntKind.u64 0,Value.pointer none=Value.pointer none,ct (W0 w) (.ls (Bk w.1.size 39 V)) (.ls (Bk w.1.size 39 V)),ct (W0 w) (.q (efs L V x (i+1)) (204*(i+1)+1)) (.q (efs L V x (i+1)) (204*(i+1)+1)),0=0,0=0,0=0,ii (V.length:Int)=ii (V.length:Int),ii (↑(i+1):Int)=ii (↑(i+1):Int)]):=by kernel_rfl
theorem cku (hN:cM) (l0 l1:Nat) (L V:List R2) (x:Rat) (hl:L.length<=1000000) (hv:V.length<=1000) (ha:okL L=true) (hb:okV V=true):uB 19 [pL l0 98 L,pL l1 103 V,pQ x 4] (fun _=>[pQ (efs L V x V.length) (204*V.length+1),pI 0]):=by
 intro w vs hG hp;refine uq hG hN (ex:=(exE w.heap.size l0 l1 L V)) (exE_ok hN hG (le_refl _) hl hv ha hb) (fn:=Tryz.f19) Tryz.func19 (c:=codeOf Tryz.f19) (by kernel_rfl) (args:=[pL l0 98 L,pL l1 103 V,pQ x 4]) (by kernel_rfl) hp (fun hR _ hA=>?_);obtain⟨hv1,hv2⟩:=chl hb;refine Gz (efa l0 l1 L V x) (hR _ rfl) hA (fun a w1 hA=>uk ?_);refine uC (fun i:Nat=>match i with|0=>ef0 w.heap.size l0 l1 98 103 39 L V x|i+1=>ef1 w.heap.size l0 l1 98 103 39 L V x (i+1)) (fun i=>i<=V.length) (fun i=>V.length-i) (L:=kEffect19_n) (ks:=kEffect19_nt) (id:=0) (c:=kj kEffect19_n) (by kernel_rfl) 0 (zero_le _) hA (fun i a2 w2 hi hA=>?_);cases i with
 |zero =>
  refine Gz (efb l0 l1 L V x) (hR _ rfl) hA (fun aT wT hT=>jY (by kernel_rfl) ⟨1,by omega,hT,by omega⟩)
 |succ i =>
  rcases eq_false_or_eq_true (decide (((i+1:Nat):Int)<(V.length:Int))) with q26|q26
  ·skip
   have p26:=of_decide_eq_true q26;refine Gz (efc0 l0 l1 L V x i) (hR _ rfl) hA (fun aT wT hT=>?_);exact jY (by kernel_rfl) ⟨i+1+1,by omega,hT,by omega⟩
  ·skip
   have p26:=of_decide_eq_false q26;refine Gz (efc1 l0 l1 L V x i) (hR _ rfl) hA (fun aT wT hT=>?_);refine ki _ (by kernel_rfl) ?_;obtain he:i+1=V.length:=by omega
   rw[← he];refine Gy (efe l0 l1 L V x (i+1)) (hR _ rfl) hT
end Pe
end Go.Proofs.YtolcmngcebnjdaaGreatDoor
