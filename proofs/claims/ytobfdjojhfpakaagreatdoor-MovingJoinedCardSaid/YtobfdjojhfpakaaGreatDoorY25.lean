/- Part 25. -/
import Derived.Test.YtobfdjojhfpakaaGreatDoorY24
set_option linter.all false
open Bool (and_eq_true eq_false_or_eq_true)
open Nat (add_sub_cancel beq_refl eq_of_beq_eq_true le_of_ble_eq_true le_refl le_trans lt_or_ge not_lt_zero zero_le)
noncomputable section

namespace Go.Proofs.YtobfdjojhfpakaaGreatDoor
open Go Go.RowKit Go.Proofs
namespace Pe
variable {D:Type}
inductive Kp where
 |code (c:Code)
 |endB (id:Nat)
section
variable (F:Fence) (m:Nat) (P:Program)
def after:List Kp->(Exit->Act->World->Prop)->Exit->Act->World->Prop
 |[],Q=>Q
 |.code c::ks,Q=>Exit.then (fun a w=>c.wpIn F m P (after ks Q) a w) (after ks Q)
 |.endB id::ks,Q=>Exit.inBlock id (after ks Q)
end
def Cg:Code->Bool
 |.loop _=>true
 |.seq x y=>match Cg x with
  |true=>true
  |false=>Cg y
 |.block _ c=>Cg c
 |.cond _ c d=>match Cg c with
  |true=>true
  |false=>Cg d
 |_=>false
def isLoop:Code->Bool
 |.loop _=>true
 |_=>false
def kg:Nat->List Kp->List Code×List Kp
 |n+1,.code (.seq x y)::ks=>kg n (.code x::.code y::ks)
 |n+1,.code c::ks=>match Cg c with
  |true=>([],.code c::ks)
  |false=>match kg n ks with
   |(l,r)=>(c::l,r)
 |_,ks=>([],ks)
def Ze (ks:List Kp):List Code:=(kg 1000 ks).1
def YQ (ks:List Kp):List Kp:=(kg 1000 ks).2
def cbb:Nat->List Kp->List Kp
 |n+1,.endB _::ks=>cbb n ks
 |n+1,.code (.block id c)::ks=>match isLoop c with
  |true=>.code (.block id c)::ks
  |false=>match Cg c with
   |true=>cbb n (.code c::.endB id::ks)
   |false=>.code (.block id c)::ks
 |_,ks=>ks
def next (ks:List Kp):List Kp:=cbb 100 (YQ ks)
def uw:List Kp->Code
 |.code (.block _ (.loop c))::_=>c
 |_=>.skip
def popK (j:Nat):List Kp->List Kp
 |.endB id::ks=>match Nat.beq j id with
  |true=>ks
  |false=>popK j ks
 |_::ks=>popK j ks
 |[]=>[]
def ZF (j:Nat):List Kp->Bool
 |.endB id::ks=>match Nat.beq j id with
  |true=>true
  |false=>ZF j ks
 |_::ks=>ZF j ks
 |[]=>false
def zN (S:Stat D) (TT:FuncId->Tab D) (CF YF:cq D) (nt:Nat) (base:cB D) (fid:FuncId) (inR:Bool) (n:Nat):List Code->St D->Ran D
 |[],st=>some (.normal,st,[])
 |c::l,st=>match kM S TT CF YF nt base fid inR n c st with
  |some (.normal,st',ob)=>match zN S TT CF YF nt base fid inR n l st' with
   |some (x,st2,ob2)=>some (x,st2,ob++ob2)
   |none=>none
  |r=>r
def cgK (C:Ctx D) (TT:FuncId->Tab D) (CF YF:cq D) (nt:Nat) (fid:FuncId) (inR:Bool) (n:Nat) (l:List Code) (st st':St D):Option (Xt×List Prop) :=
 match zN C.toStat TT CF YF nt (fun b=>find b st.m) fid inR n l ⟨st.nb,st.sl,[],st.ms⟩ with
 |some (x,s1,ob)=>match fitTo C (st.join s1) st' with
  |some ob2=>some (x,ob++ob2)
  |none=>none
 |none=>none
section
variable {F:Fence}{m:Nat}{C:Ctx D}{TT:FuncId->Tab D}{CF YF:cq D}{nt:Nat}{fid:FuncId}{inR:Bool}{Q:Exit->Act->World->Prop}{a:Act}{w:World}{st st':St D}
theorem UP:∀ (ks:List Kp) {a:Act}{w:World},Q .ret a w->after F m C.P ks Q .ret a w
 |[],_,_,h=>h
 |.code _::ks,_,_,h=>UP ks h
 |.endB _::ks,_,_,h=>UP ks h
theorem kb {j:Nat}:∀ (ks:List Kp) {a:Act}{w:World},ZF j ks=false->Q (.exit j) a w->after F m C.P ks Q (.exit j) a w
 |[],_,_,_,hq=>hq
 |.code _::ks,_,_,h,hq=>kb ks (by simpa [ZF] using h) hq
 |.endB id::ks,_,_,h,hq=>by
  simp only[ZF] at h;simp only[after,Exit.inBlock];split at h
  ·cases h
  ·rename_i hj;rw[if_neg (fun e=>by subst e;simp at hj)];exact kb ks h hq
theorem cer (hW:Wd F) (hR:inR=false->F=Fence.wide) (hC:C.Ok) (hT:∀ f,(TT f).Ok C) (hF:CF.Ok C) (hFm:CF.Mono) (hY:uP C YF) (hYm:YF.Mono) {e0:Env}{w0:World}{n0:Nat}{base:cB D}(hb:cR C e0 w0 base) {B:Nat}(hfree:ki n0 B e0) {n:Nat} :
 ∀ (k:Nat) (ks:List Kp) (st:St D) (x:Xt) (st':St D) (ob:List Prop),zN C.toStat TT CF YF nt base fid inR n (kg k ks).1 st=some (x,st',ob)->cV ob->st'.nb<=B->
 ∀ a w,Sat C nt e0 w0 n0 st a w->(∀ a' w',Sat C nt e0 w0 n0 st' a' w'->after F m C.P (kg k ks).2 Q x.to a' w')->after F m C.P ks Q .normal a w:=by
 have stop:∀ (ks:List Kp) (st:St D) (x:Xt) (st':St D) (ob:List Prop),zN C.toStat TT CF YF nt base fid inR n [] st=some (x,st',ob)->∀ a w,Sat C nt e0 w0 n0 st a w->(∀ a' w',Sat C nt e0 w0 n0 st' a' w'->after F m C.P ks Q x.to a' w')->after F m C.P ks Q .normal a w:=by
  intro ks st x st' ob h a w hs hQ;simp only[zN,Option.some.injEq,Prod.mk.injEq] at h;obtain⟨rfl,rfl,rfl⟩:=h;exact hQ a w hs
 have one:∀ (k:Nat) (c:Code) (ks:List Kp) (ih:∀ (st:St D) (x:Xt) (st':St D) (ob:List Prop),zN C.toStat TT CF YF nt base fid inR n (kg k ks).1 st=some (x,st',ob)->cV ob->st'.nb<=B->
  ∀ a w,Sat C nt e0 w0 n0 st a w->(∀ a' w',Sat C nt e0 w0 n0 st' a' w'->after F m C.P (kg k ks).2 Q x.to a' w')->after F m C.P ks Q .normal a w) (out:∀ (x:Xt) a w,x≠.normal->after F m C.P (kg k ks).2 Q x.to a w->after F m C.P ks Q x.to a w)
  (hle:∀ st x st' ob,zN C.toStat TT CF YF nt base fid inR n (kg k ks).1 st=some (x,st',ob)->st.nb<=st'.nb)
  (st:St D) (x:Xt) (st':St D) (ob:List Prop),zN C.toStat TT CF YF nt base fid inR n (c::(kg k ks).1) st=some (x,st',ob)->cV ob->st'.nb<=B->
  ∀ a w,Sat C nt e0 w0 n0 st a w->(∀ a' w',Sat C nt e0 w0 n0 st' a' w'->after F m C.P (kg k ks).2 Q x.to a' w')->c.wpIn F m C.P (after F m C.P ks Q) a w:=by
  intro k c ks ih out hle st x st' ob h ho hB a w hs hQ;simp only[zN] at h;split at h
  ·rename_i st1 ob1 h1;split at h
   ·rename_i x2 st2 ob2 h2;injection h with h;simp only[Prod.mk.injEq] at h
    obtain⟨rfl,rfl,rfl⟩:=h;obtain⟨o1,o2⟩:=ho.append;refine wpIn_mono (jH hW hR hC hT hF hFm hY hYm hb hfree n c st _ st1 ob1 h1 o1 (le_trans (hle _ _ _ _ h2) hB) a w hs) ?_;rintro e a' w' ⟨rfl,hs'⟩;exact ih st1 x2 st2 ob2 h2 o2 hB a' w' hs' hQ
   ·cases h
  ·rename_i hne;refine wpIn_mono (jH hW hR hC hT hF hFm hY hYm hb hfree n c st _ _ _ h ho hB a w hs) ?_;rintro e a' w' ⟨rfl,hs'⟩;exact out x a' w' (fun hx=>by subst hx;exact hne _ _ h) (hQ a' w' hs')
 have outs:∀ (k:Nat) (ks:List Kp) (x:Xt) a w,x≠.normal->after F m C.P (kg k ks).2 Q x.to a w->after F m C.P ks Q x.to a w:=by
  intro k
  induction k with
  |zero=>intro ks x a w _ h;cases ks<;>exact h
  |succ k ih =>
   intro ks x a w hx h
   match ks with
   |[]=>exact h
   |.endB id::ks=>exact h
   |.code c::ks =>
    have pass:∀ (c:Code) (ks:List Kp),after F m C.P ks Q x.to a w->after F m C.P (.code c::ks) Q x.to a w:=by
     intro c ks h;cases x with
     |normal=>exact absurd rfl hx
     |exit j=>exact h
     |ret=>exact h
    have gen:∀ c:Code,(∀ x y,c≠.seq x y)->after F m C.P (kg (k+1) (.code c::ks)).2 Q x.to a w->after F m C.P (.code c::ks) Q x.to a w:=by
     intro c hc h;have hg:kg (k+1) (.code c::ks)=(match Cg c with
      |true=>([],.code c::ks)
      |false=>match kg k ks with
       |(l,r)=>(c::l,r)):=by
      cases c<;>first|rfl|exact absurd rfl (hc _ _)
     rw[hg] at h;split at h
     ·exact h
     ·exact pass c ks (ih ks x a w hx h)
    cases c with
    |seq y z =>
     have:=ih (.code y::.code z::ks) x a w hx h;cases x with
     |normal=>exact absurd rfl hx
     |exit j=>exact this
     |ret=>exact this
    |_=>exact gen _ (by simp) h
 have les:∀ (l:List Code) (st:St D) (x:Xt) (st':St D) (ob:List Prop),zN C.toStat TT CF YF nt base fid inR n l st=some (x,st',ob)->st.nb<=st'.nb:=by
  intro l
  induction l with
  |nil=>intro st x st' ob h;simp only[zN,Option.some.injEq,Prod.mk.injEq] at h;rw[h.2.1];exact le_refl _
  |cons c l ih =>
   intro st x st' ob h;simp only[zN] at h;split at h
   ·rename_i st1 ob1 h1;split at h
    ·rename_i x2 st2 ob2 h2;injection h with h;simp only[Prod.mk.injEq] at h
     obtain⟨rfl,rfl,rfl⟩:=h;exact le_trans (ke hFm hYm _ _ _ _ _ _ h1) (ih _ _ _ _ h2)
    ·cases h
   ·exact ke hFm hYm _ _ _ _ _ _ h
 intro k
 induction k with
 |zero=>intro ks st x st' ob h ho hB a w hs hQ;cases ks<;>exact stop _ st x st' ob h a w hs hQ
 |succ k ih =>
  intro ks st x st' ob h ho hB a w hs hQ
  match ks with
  |[]=>exact stop _ st x st' ob h a w hs hQ
  |.endB id::ks=>exact stop _ st x st' ob h a w hs hQ
  |.code c::ks =>
   have gen:∀ c:Code,(∀ x y,c≠.seq x y)->zN C.toStat TT CF YF nt base fid inR n (kg (k+1) (.code c::ks)).1 st=some (x,st',ob)->(∀ a' w',Sat C nt e0 w0 n0 st' a' w'->after F m C.P (kg (k+1) (.code c::ks)).2 Q x.to a' w')->after F m C.P (.code c::ks) Q .normal a w:=by
    intro c hc h hQ;have hg:kg (k+1) (.code c::ks)=(match Cg c with
     |true=>([],.code c::ks)
     |false=>match kg k ks with
      |(l,r)=>(c::l,r)):=by
     cases c<;>first|rfl|exact absurd rfl (hc _ _)
    rw[hg] at h hQ;split at h
    ·rename_i hl;rw[hl] at hQ;exact stop _ st x st' ob h a w hs hQ
    ·rename_i hl;rw[hl] at hQ;exact one k c ks (ih ks) (outs k ks) (les _) st x st' ob h ho hB a w hs hQ
   cases c with
   |seq y z =>
    show (Code.seq y z).wpIn F m C.P (after F m C.P ks Q) a w;apply wpIn_seq;exact ih (.code y::.code z::ks) st x st' ob h ho hB a w hs hQ
   |_=>exact gen _ (by simp) h hQ
theorem cbt (hR:uy C TT) (hW:Wd F) (hI:inR=false->F=Fence.wide) {g d n:Nat}{ks:List Kp}{x:Xt}{ob:List Prop}(h:cgK C TT (uu C.toStat TT g d).1 (uu C.toStat TT g d).2 nt fid inR n (Ze ks) st st'=some (x,ob)) (ho:cV ob)
 (hA:At C nt st a w) (hQ:∀ a' w',At C nt st' a' w'->after F m C.P (YQ ks) Q x.to a' w'):after F m C.P ks Q .normal a w:=by
 unfold cgK at h;split at h
 rotate_left
 ·cases h
 rename_i x1 s1 ob1 he;split at h
 rotate_left
 ·cases h
 rename_i ob2 hf;injection h with h;simp only[Prod.mk.injEq] at h;obtain⟨rfl,rfl⟩:=h
 obtain⟨o1,o2⟩:=ho.append;obtain⟨⟨e,hg,hM,hV,hfr,hmk⟩,hsz⟩:=hA;have hFm:=(jG (S:=C.toStat) (TT:=TT) (g:=g) d).1;have hYm:=(jG (S:=C.toStat) (TT:=TT) (g:=g) d).2;have hle:(⟨st.nb,st.sl,[],st.ms⟩:St D).nb<=s1.nb:=execL_le he;have hle:st.nb<=s1.nb:=hle;refine cer hW hI hR.ok hR.tab (uR hR.ok hR.name hR.tab d).1 hFm (uR hR.ok hR.name hR.tab d).2 hYm hM (B:=s1.nb) (fun b h1 _=>hfr b h1) 1000 ks _ x1 s1 ob1 he o1 (le_refl _) a w ⟨⟨e,kz.refl hg _,hV,hmk⟩,hsz⟩ ?_;rintro a' w' ⟨⟨e',hL,hV',hmk'⟩,hsz'⟩;refine hQ a' w' (ceb hR.ok hf o2 ⟨⟨e',hL.good,fun b o ho=>?_,hV',fun b hb=>?_,hmk'⟩,hsz'⟩)
 ·exact kH hM hL b o (by rw[Uu];exact ho)
 ·obtain⟨q1,q2,q3⟩:=hfr b (le_trans hle hb);have hb:s1.nb<=b:=hb;refine⟨?_,?_,?_⟩
  ·cases hx:e'.ρ b with
   |none=>rfl
   |some y =>
    rcases hL.new.ρ b y hx with h|h
    ·rw[q1] at h;cases h
    ·omega
  ·cases hx:e'.ν b with
   |none=>rfl
   |some y =>
    rcases hL.new.ν b y hx with h|h
    ·rw[q2] at h;cases h
    ·omega
  ·cases hx:e'.φ b with
   |none=>rfl
   |some y =>
    rcases hL.new.φ b y hx with h|h
    ·rw[q3] at h;cases h
    ·omega
where
 execL_le {l:List Code} {base:cB D} {n d g:Nat} {st st':St D} {x:Xt} {ob:List Prop} (h:zN C.toStat TT (uu C.toStat TT g d).1 (uu C.toStat TT g d).2 nt base fid inR n l st=some (x,st',ob)):st.nb<=st'.nb:=by
  induction l generalizing st st' x ob with
  |nil=>simp only[zN,Option.some.injEq,Prod.mk.injEq] at h;rw[h.2.1];exact le_refl _
  |cons c l ih =>
   simp only[zN] at h;split at h
   ·rename_i st1 ob1 h1;split at h
    ·rename_i x2 st2 ob2 h2;injection h with h;simp only[Prod.mk.injEq] at h
     obtain⟨rfl,rfl,rfl⟩:=h;exact le_trans (ke (jG d).1 (jG d).2 _ _ _ _ _ _ h1) (ih h2)
    ·cases h
   ·exact ke (jG d).1 (jG d).2 _ _ _ _ _ _ h
theorem ER:∀ (n:Nat) (ks:List Kp) {a:Act}{w:World},after F m C.P (cbb n ks) Q .normal a w->after F m C.P ks Q .normal a w
 |0,ks,a,w,h=>by cases ks<;>exact h
 |n+1,[],a,w,h=>h
 |n+1,.endB id::ks,a,w,h=>ER n ks h
 |n+1,.code c::ks,a,w,h=>by
  cases c with
  |block id c =>
   unfold cbb at h;split at h
   ·exact h
   ·split at h
    ·exact wpIn_block (ER n (.code c::.endB id::ks) h)
    ·exact h
  |_=>exact h
theorem yv {ks:List Kp}(h:after F m C.P (next ks) Q .normal a w):after F m C.P (YQ ks) Q .normal a w:=ER _ _ h
theorem yx {Θ:Type}(I:Θ->St D) (J:Θ->Prop) (μ:Θ->Nat) {id:Nat}{c:Code}{L ks:List Kp}(hL:L=.code (.block id (.loop c))::ks) (θ0:Θ) (h0:J θ0) (hA:At C nt (I θ0) a w)
 (hr:∀ θ a w,J θ->At C nt (I θ) a w->after F m C.P [.code c] (Exit.then (fun a' w'=>∃ θ',J θ'/\At C nt (I θ') a' w'/\μ θ'<μ θ) (Exit.inBlock id (after F m C.P ks Q))) .normal a w):after F m C.P L Q .normal a w:=by
 subst hL;exact loop_at I J μ θ0 h0 hA hr
end
def cfc (C:Ctx D) (TT:FuncId->Tab D) (CF YF:cq D) (nt:Nat) (fid:FuncId) (inR:Bool) (n:Nat) (l:List Code) (rs:List ResultVar) (st:St D) (ps:List (Pat D)):Option (Xt×List Prop) :=
 match zN C.toStat TT CF YF nt (fun b=>find b st.m) fid inR n l ⟨st.nb,st.sl,[],st.ms⟩ with
 |some (.ret,s1,ob)=>match cgA C rs (st.join s1) ps with
  |some ob2=>some (.ret,ob++ob2)
  |none=>none
 |_=>none
section
variable {F:Fence}{m:Nat}{C:Ctx D}{TT:FuncId->Tab D}{CF YF:cq D}{nt:Nat}{fid:FuncId}{inR:Bool}{Q:Exit->Act->World->Prop}{a:Act}{w:World}{st st':St D}
theorem cey (hR:uy C TT) (hW:Wd F) (hI:inR=false->F=Fence.wide) {g d n:Nat}{ks:List Kp}{fn:Func}{ps:List (Pat D)}{ob:List Prop}(h:cfc C TT (uu C.toStat TT g d).1 (uu C.toStat TT g d).2 nt fid inR n (Ze ks) fn.results.toList st ps=some (.ret,ob)) (ho:cV ob)
 (hA:At C nt st a w) (hQ:∀ a' w',Ret C fn (Res C ps) .ret a' w'->Q .ret a' w'):after F m C.P ks Q .normal a w:=by
 unfold cfc at h;split at h
 rotate_left
 ·cases h
 rename_i s1 ob1 he;split at h
 rotate_left
 ·cases h
 rename_i ob2 hf;injection h with h;simp only[Prod.mk.injEq] at h;obtain⟨_,rfl⟩:=h
 obtain⟨o1,o2⟩:=ho.append;obtain⟨⟨e,hg,hM,hV,hfr,hmk⟩,hsz⟩:=hA;have hFm:=(jG (S:=C.toStat) (TT:=TT) (g:=g) d).1;have hYm:=(jG (S:=C.toStat) (TT:=TT) (g:=g) d).2;have hle:(⟨st.nb,st.sl,[],st.ms⟩:St D).nb<=s1.nb:=cbt.execL_le he;have hle:st.nb<=s1.nb:=hle;refine cer hW hI hR.ok hR.tab (uR hR.ok hR.name hR.tab d).1 hFm (uR hR.ok hR.name hR.tab d).2 hYm hM (B:=s1.nb) (fun b h1 _=>hfr b h1) 1000 ks _ .ret s1 ob1 he o1 (le_refl _) a w ⟨⟨e,kz.refl hg _,hV,hmk⟩,hsz⟩ ?_;rintro a' w' ⟨⟨e',hL,hV',hmk'⟩,hsz'⟩;refine UP _ (hQ a' w' (ret_at hR.ok hf o2 (nt:=nt) ⟨⟨e',hL.good,fun b o ho=>?_,hV',fun b hb=>?_,hmk'⟩,hsz'⟩ (.inl rfl)))
 ·exact kH hM hL b o (by rw[Uu];exact ho)
 ·obtain⟨q1,q2,q3⟩:=hfr b (le_trans hle hb);have hb:s1.nb<=b:=hb;refine⟨?_,?_,?_⟩
  ·cases hx:e'.ρ b with
   |none=>rfl
   |some y =>
    rcases hL.new.ρ b y hx with h|h
    ·rw[q1] at h;cases h
    ·omega
  ·cases hx:e'.ν b with
   |none=>rfl
   |some y =>
    rcases hL.new.ν b y hx with h|h
    ·rw[q2] at h;cases h
    ·omega
  ·cases hx:e'.φ b with
   |none=>rfl
   |some y =>
    rcases hL.new.φ b y hx with h|h
    ·rw[q3] at h;cases h
    ·omega
def cfZ (C:Ctx D) (TT:FuncId->Tab D) (CF YF:cq D) (nt:Nat) (fid:FuncId) (n:Nat) (c:Code) (rs:List ResultVar) (st:St D) (ps:List (Pat D)):Option (Xt×List Prop) :=
 match kM C.toStat TT CF YF nt (fun b=>find b st.m) fid false n c ⟨st.nb,st.sl,[],st.ms⟩ with
 |some (.ret,s1,ob)=>match cgA C rs (st.join s1) ps with
  |some ob2=>some (.ret,ob++ob2)
  |none=>none
 |_=>none
theorem all_is (hR:uy C TT) {g d n:Nat}{c:Code}{fn:Func}{ps:List (Pat D)}{ob:List Prop}(h:cfZ C TT (uu C.toStat TT g d).1 (uu C.toStat TT g d).2 nt fid n c fn.results.toList st ps=some (.ret,ob)) (ho:cV ob)
 (hA:At C nt st a w):c.wpIn Fence.wide m C.P (Ret C fn (Res C ps)) a w:=by
 unfold cfZ at h;split at h
 rotate_left
 ·cases h
 rename_i s1 ob1 he;split at h
 rotate_left
 ·cases h
 rename_i ob2 hf;injection h with h;simp only[Prod.mk.injEq] at h;obtain⟨_,rfl⟩:=h
 obtain⟨o1,o2⟩:=ho.append;exact seg_is (.inl rfl) (fun _=>rfl) hR.ok hR.tab (uR hR.ok hR.name hR.tab d).1 (jG d).1 (uR hR.ok hR.name hR.tab d).2 (jG d).2 he o1 hA (fun a' w' hA'=>ret_at hR.ok hf o2 hA' (.inl rfl))
end
end Pe
open Go Go.RowKit Go.Proofs Lim
namespace Pe
section
variable {b b':Bool}{lo lo':Nat}{w0 w0' w:World}
theorem KO:∀ {gs:List (Grp Dx)}{vs:List Value},cr (Cx b lo w0) w gs vs->cr (Cx b' lo' w0') w gs vs
 |[],_,h=>h
 |.lit _::_,_,h=>⟨h.1,KO h.2⟩
 |.cls _::_,_,h=>⟨h.1,KO h.2⟩
theorem ls_cx {L:Lt Dx}{v:Value}(h:WR (Cx b lo w0) w L v):WR (Cx b' lo' w0') w L v:=by
 rcases h with h|⟨k,o,c,arr,pre,vs,rest,q1,q2,q3,q4,q5,q6,q7,q8,q9⟩
 ·exact .inl h
 ·exact .inr ⟨k,o,c,arr,pre,vs,rest,q1,q2,q3,q4,q5,q6,q7,q8,fun j hj=>KO (q9 j hj)⟩
theorem pat_cx {p:Pat Dx}{v:Value}(h:p.is (Cx b lo w0) w v):p.is (Cx b' lo' w0') w v:=by
 cases p with
 |one g=>cases g<;>exact h
 |agg gs=>obtain⟨vs,h1,h2⟩:=h;exact⟨vs,KO h1,h2⟩
 |slc t n gs=>obtain⟨k,o,c,arr,pre,vs,rest,h1,h2,h3,h4,h5⟩:=h;exact⟨k,o,c,arr,pre,vs,rest,h1,h2,h3,h4,KO h5⟩
 |cap f ty z gs=>obtain⟨k,o,c,h1,h2⟩:=h;exact⟨k,o,c,ls_cx h1,h2⟩
theorem ccb:∀ {ps:List (Pat Dx)}{vs:List Value},cJ (Cx b lo w0) w ps vs->cJ (Cx b' lo' w0') w ps vs
 |[],_,h=>h
 |_::_,_,⟨v,ws,h1,h2,h3⟩=>⟨v,ws,h1,pat_cx h2,ccb h3⟩
theorem rpat_cx {p:cM Dx}{v:Value}(h:p.is (Cx b lo w0) w v):p.is (Cx b' lo' w0') w v:=by
 cases p with
 |val p=>exact pat_cx h
 |tup ps=>obtain⟨vs,h1,h2⟩:=h;exact⟨vs,ccb h1,h2⟩
theorem rob_cx {w1 w2:World}{p:cM Dx}{v:Value}(h:Km (Cx b lo w0) w1 w2 p v):Km (Cx b lo' w0') w1 w2 p v:=fun S hS w'' hs hk=>rpat_cx (h S hS w'' hs hk)
theorem UH {w':World}(hk:∀ k,k<w.heap.size->w'.heap[k]?=w.heap[k]?):∀ {gs:List (Grp Dx)}{vs:List Value},cr (Cx b lo w0) w gs vs->cr (Cx b lo w0) w' gs vs
 |[],_,h=>h
 |.lit _::_,_,h=>⟨h.1,UH hk h.2⟩
 |.cls _::_,_,h=>⟨DIs.grow hk h.1,UH hk h.2⟩
theorem cjp {w':World}(hk:∀ k,k<w.heap.size->w'.heap[k]?=w.heap[k]?) {p:Pat Dx}{v:Value}(hn:noSlc p=true) (h:p.is (Cx b lo w0) w v):p.is (Cx b lo w0) w' v:=by
 cases p with
 |one g =>
  cases g with
  |lit x=>exact h
  |cls d=>exact DIs.grow hk h
 |agg gs=>obtain⟨vs,h1,h2⟩:=h;exact⟨vs,UH hk h1,h2⟩
 |slc t n gs=>cases hn
 |cap f ty z gs=>cases hn
theorem cat {w':World}(hk:∀ k,k<w.heap.size->w'.heap[k]?=w.heap[k]?):∀ {ps:List (Pat Dx)}{vs:List Value},Gv ps=true->cJ (Cx b lo w0) w ps vs->cJ (Cx b lo w0) w' ps vs
 |[],_,_,h=>h
 |p::ps,_,hn,⟨v,ws,h1,h2,h3⟩=>by
  unfold Gv at hn;split at hn
  ·rename_i h0;exact⟨v,ws,h1,cjp hk h0 h2,cat hk hn h3⟩
  ·cases hn
theorem UV:∀ {ps:List (Pat Dx)}{csz:Dx->Nat}{s:Nat}{r:List A1×Ws Dx×Nat},zu csz s ps=some r->Gv ps=true
 |[],_,_,_,_=>rfl
 |p::ps,csz,s,r,h=>by
  have:=EP h p (by simp);simp only[zu] at h;split at h
  ·split at h
   ·rename_i h2;unfold Gv;cases p with
    |slc t n gs=>cases this
    |cap f ty z gs=>cases this
    |one g=>exact UV h2
    |agg gs=>exact UV h2
   ·cases h
  ·cases h
end
noncomputable abbrev W0 (w:World):Ctx Dx:=Cx true w.heap.size w
theorem fn_ok {w : World} (hG : Gr w) (hN : ∀ (f : Nat) (fn : Func), Tryz.prog.funcs[f]? = some fn → (fn.name == "runtime.NumGoroutine") = false) {ex : List (Nat × Con)} (hE : Cu true w.heap.size w ex) {f : FuncId} {fn : Func} {c : Code} (hfn : Tryz.prog.funcs[f]? = some fn) (hbody : fn.body = some c) {args : List (Pat Dx)} {xs : List A1} {ws : Ws Dx} {n0 : Nat} (hm : zu Dx.n 0 args = some (xs, ws, n0)) (hlen : Nat.ble (ky xs).length fn.ntmps = true)
 {vs:List Value} (hp:cJ (W0 w) w args vs) {ps:List (Pat Dx)} (hwp:(∀ o:Opt,o.ex=ex->uy (W0 w) (TY o))->∀ a,At (W0 w) fn.ntmps ⟨n0,zC 0 (ky xs),ws,[]⟩ a w->after Fence.wide 0 Tryz.prog [.code c] (Ret (W0 w) fn (Res (W0 w) ps)) .normal a w) :
 Enters Tryz.prog f/\Calls Tryz.prog f vs.toArray w (fun en w'=>∃ v,en=.returned v/\Res (W0 w) ps v w'):=by
 have hR:∀ o:Opt,o.ex=ex->uy (W0 w) (TY o):=fun o ho=>ccB (le_refl _) hG hN (by rw[ho];exact hE);have hR0:=hR ⟨[],[],ex⟩ rfl;refine zQ (C:=W0 w) hR0 hfn hbody hm hlen ?_ (fun a hA=>hwp hR a hA);exact cbK hR0.ok (W:=fun w'=>kQ env0 w w') w (kQ.refl _ _) (EP hm) (fun w' hk=>cat (fun k hk'=>hk.block k hk' (fun b=>by simp)) (UV hm) hp)
theorem jL {F:Fence}{m:Nat}{P:Program}{Q:Exit->Act->World->Prop}{ks:List Kp}{a:Act}{w:World}(h:ks=[]) (hq:Q .normal a w):after F m P ks Q .normal a w:=by
 subst h;exact hq
theorem ent_fn {lo:Nat}{w0:World}(hG:Gr w0) (hlo:lo<=w0.heap.size) {f:FuncId}{args:List (Pat Dx)}(ps:Nat->List (Pat Dx)) (hsub:∀ hi,lo<=hi->∃ ob,yP (Cx true lo w0) (ps lo) (ps hi)=some ob/\cV ob)
 (h:∀ w vs,Gr w->cJ (W0 w) w args vs->Enters Tryz.prog f/\Calls Tryz.prog f vs.toArray w (fun en w'=>∃ v,en=.returned v/\Res (W0 w) (ps w.heap.size) v w')) (hE:Enters Tryz.prog f):cO (Cx true lo w0) (.call f) args (rpOf (ps lo)):=by
 refine⟨hE,fun w vs hb hvs=>?_⟩;refine(h w vs (hG.below hb hG.size) (ccb hvs)).2.mono ?_;rintro en w' ⟨v,rfl,h1,h2⟩;refine⟨v,rfl,h1,?_⟩;obtain⟨ob,h3,h4⟩:=hsub w.heap.size (le_trans hlo hb.size);intro S hS w'' hs hk;have h5:=rob_cx (lo':=lo) (w0':=w0) h2 S hS w'' hs hk;have hC:=cx_ok (b:=true) hlo;revert h3 h5;generalize ps lo=a;generalize ps w.heap.size=c;intro h3 h5;unfold rpOf at h5 ⊢;split at h5
 ·rename_i p
  match a,h3 with
  |[q],h3 =>
   have:=CN hC h3 h4 (vs:=[v]) ⟨v,[],rfl,h5,rfl⟩;obtain⟨x,y,e1,e2,e3⟩:=this;injection e1 with e1 _
   subst e1;exact e2
  |[],h3=>simp [yP] at h3
  |_::q::r,h3 =>
   obtain⟨x,y,q1,q2,_⟩:=kL h3;simp [yP] at q2
 ·rename_i hne
  match a,h3 with
  |[q],h3 =>
   exfalso
   match c,h3,hne with
   |[],h3,_=>simp [yP] at h3
   |[p],_,hne=>exact hne p rfl
   |_::_::_,h3,_ =>
    obtain⟨x,y,q1,q2,_⟩:=kL h3;simp [yP] at q2
  |[],h3=>obtain⟨us,q1,q2⟩:=h5;exact⟨us,CN hC h3 h4 q1,q2⟩
  |q1::q2::r,h3=>obtain⟨us,p1,p2⟩:=h5;exact⟨us,CN hC h3 h4 p1,p2⟩
def Cy (args:List (Pat Dx)) (res:cM Dx):Con:=fun l=>some (res,[l=args])
theorem Ez {bb:Bool}{lo:Nat}{w0:World}{f:Nat}{args:List (Pat Dx)}{res:cM Dx}(h:cO (Cx bb lo w0) (.call f) args res):∀ l r ob,Cy args res l=some (r,ob)->cV ob->cO (Cx bb lo w0) (.call f) l r:=by
 intro l r ob hl ho;unfold Cy at hl;injection hl with hl;injection hl with h1 h2;subst h1;subst h2
 rw[show l=args from ho.1];exact h
def lst {α:Type}[Inhabited α] (lo ty z:Nat) (xs:List α) (f:α->List (Grp Dx)):Lt Dx:=⟨lo,ty,z,xs.length,fun j=>f (xs.getD j default)⟩
section
variable {C:Ctx Dx}{b:Bool}{lo:Nat}{w0:World}
theorem jp {n:Nat}{g:Nat->List (Grp Dx)}{x:List (Grp Dx)}(h:x=g n):∀ j,j<n+1->jf C (g j) (Gb n g (fun _=>x) j):=by
 intro j hj w vs hv;unfold Gb at hv;split at hv
 ·exact hv
 ·rename_i hn;have:j=n:=by
   rcases lt_or_ge j n with h1|h1
   ·rw[show Nat.blt j n=true from Nat.ble_eq_true_of_le h1] at hn;cases hn
   ·omega
  rw[h,← this] at hv;exact hv
theorem Kd {r s:Rat}{j k:Nat}(h:s=r) (hk:k<=j):cK (Cx b lo w0) (.q r j) (.q s k):=by
 intro w l hl;have hl:DIs w (.q s k) l:=hl;subst h;cases hl with
 |q h1 h2 h3=>exact .q h1 h2 (h3.le hk)
theorem cdW {r s:Rat}{j k:Nat}(h:s=r) (hk:k<=j):cK (Cx b lo w0) (.rq r j) (.rq s k):=by
 intro w l hl;have hl:DIs w (.rq s k) l:=hl;subst h;cases hl with
 |rq h1 h2 h3=>exact .rq h1 h2 (h3.le hk)
theorem EA {r:Rat}{k:Nat}(h:r=0) (hk:1<=k):jf (Cx b lo w0) [.cls (.q r k)] [.lit (.bool false),.lit (.int .u64 0),.lit (.int .u64 0),.lit (.pointer none)]:=by
 intro w vs hv;subst h;obtain⟨xs,ys,rfl,h1,h2⟩:=Jv (b:=b) (lo:=lo) (w0:=w0) (gs':=[]) (r:=0) (k:=1) rfl hv;rw[show ys=[] from h2];exact Zj (.cls (Kd (b:=b) (lo:=lo) (w0:=w0) (r:=0) (j:=k) rfl hk w xs h1) .nil)
end
end Pe
namespace Pe
abbrev Tx:=List UInt8
abbrev nq (l:Tx):Rat:=(cT l).1
noncomputable abbrev codeOf (fn:Func):Code:=fn.body.getD .skip
abbrev ii (n:Int):Value:=.int .i64 n
abbrev P3:=Tx×Tx×Tx
abbrev f3 (x:P3):List (Grp Dx):=[.lit (str x.1),.lit (str x.2.1),.lit (str x.2.2)]
noncomputable abbrev run (w:World) (o:Opt) (f nt:Nat) (ks:List Kp) (st st':St Dx):Option (Xt×List Prop):=cgK (W0 w) (TY o) (uu (Sx true w.heap.size) (TY o) 300 30).1 (uu (Sx true w.heap.size) (TY o) 300 30).2 nt f false 300 (Ze ks) st st'
noncomputable abbrev runR (w:World) (o:Opt) (f nt:Nat) (fn:Func) (ks:List Kp) (st:St Dx) (ps:List (Pat Dx)):Option (Xt×List Prop):=cfc (W0 w) (TY o) (uu (Sx true w.heap.size) (TY o) 300 30).1 (uu (Sx true w.heap.size) (TY o) 300 30).2 nt f false 300 (Ze ks) fn.results.toList st ps
abbrev jd : Prop := ∀ (f : Nat) (fn : Func), Tryz.prog.funcs[f]? = some fn → (fn.name == "runtime.NumGoroutine") = false
end Pe
namespace Pe
def stA (args:List (Pat Dx)):St Dx:=match zu Dx.n 0 args with
 |some (xs,ws,n0)=>⟨n0,zC 0 (ky xs),ws,[]⟩
 |none=>⟨0,[],[],[]⟩
def lenA (args:List (Pat Dx)) (n:Nat):Bool:=match zu Dx.n 0 args with
 |some (xs,_,_)=>Nat.ble (ky xs).length n
 |none=>false
theorem yV {w:World}(hG:Gr w) (hN:jd) {ex:List (Nat×Con)}(hE:Cu true w.heap.size w ex) {f:FuncId}{fn:Func}{c:Code}(hfn:Tryz.prog.funcs[f]?=some fn) (hbody:fn.body=some c) {args:List (Pat Dx)}(hm:lenA args fn.ntmps=true)
 {vs:List Value} (hp:cJ (W0 w) w args vs) {ps:List (Pat Dx)} (hwp:(∀ o:Opt,o.ex=ex->uy (W0 w) (TY o))->∀ a,At (W0 w) fn.ntmps (stA args) a w->after Fence.wide 0 Tryz.prog [.code c] (Ret (W0 w) fn (Res (W0 w) ps)) .normal a w) :
 Enters Tryz.prog f/\Calls Tryz.prog f vs.toArray w (fun en w'=>∃ v,en=.returned v/\Res (W0 w) ps v w'):=by
 unfold lenA at hm;split at hm
 ·rename_i xs ws n0 h0;refine fn_ok hG hN hE hfn hbody h0 hm hp (fun hR a hA=>hwp hR a ?_);unfold stA;rw[h0];exact hA
 ·cases hm
abbrev zD (f:Nat) (args:List (Pat Dx)) (ps:Nat->List (Pat Dx)):Prop:=∀ w vs,Gr w->cJ (W0 w) w args vs->Enters Tryz.prog f/\Calls Tryz.prog f vs.toArray w (fun en w'=>∃ v,en=.returned v/\Res (W0 w) (ps w.heap.size) v w')
section
variable {lo:Nat}{w0:World}{f:Nat}{args:List (Pat Dx)}
theorem zD.ent {ps:Nat->List (Pat Dx)}(h:zD f args ps) (hG:Gr w0) (hlo:lo<=w0.heap.size) (hE:Enters Tryz.prog f) (hsub:∀ hi,lo<=hi->∃ ob,yP (Cx true lo w0) (ps lo) (ps hi)=some ob/\cV ob):cO (Cx true lo w0) (.call f) args (rpOf (ps lo)):=ent_fn hG hlo ps hsub h hE
theorem zD.val {v:Value}(h:zD f args (fun _=>[.one (.lit v)])) (hG:Gr w0) (hlo:lo<=w0.heap.size) (hE:Enters Tryz.prog f):cO (Cx true lo w0) (.call f) args (vr v) :=
 h.ent hG hlo hE (fun _ _=>⟨_,rfl,rfl,trivial⟩)
theorem zD.num {r:Rat}{k:Nat}(h:zD f args (fun _=>[.agg [.cls (.q r k)]])) (hG:Gr w0) (hlo:lo<=w0.heap.size) (hE:Enters Tryz.prog f):cO (Cx true lo w0) (.call f) args (qr r k) :=
 h.ent hG hlo hE (fun _ _=>⟨_,rfl,cK.refl _ _,trivial⟩)
end
abbrev R2:=Rat×Rat
abbrev fQ (x:R2):List (Grp Dx):=[.cls (.q x.1 4),.cls (.q x.2 4)]
abbrev pQ (r:Rat) (k:Nat):Pat Dx:=.agg [.cls (.q r k)]
abbrev pP (r:Rat) (j:Nat) (s:Rat) (k:Nat):Pat Dx:=.agg [.cls (.q r j),.cls (.q s k)]
abbrev pL (lo ty:Nat) (xs:List R2):Pat Dx:=.one (.cls (.ls (lst lo ty 8 xs fQ)))
abbrev pI (i:Int):Pat Dx:=.one (.lit (.int .i64 i))
abbrev pF (f:Nat):Pat Dx:=.one (.lit (.func (.func f) #[] #[]))
abbrev rB (b:Bool):List (Pat Dx):=[.one (.lit (.bool b))]
abbrev rI (i:Int):List (Pat Dx):=[.one (.lit (.int .i64 i))]
theorem jb (n:Nat):Int.ofNat n=(n:Int):=rfl
section
variable {w w1:World}{o:Opt}{f nt:Nat}{ks:List Kp}{st st':St Dx}{x:Xt}{ob:List Prop}{a:Act}{Q:Exit->Act->World->Prop}
theorem uj (h:run w o f nt ks st st'=some (x,ob)) (hR:uy (W0 w) (TY o)) (hA:At (W0 w) nt st a w1) (hQ:∀ a' w',At (W0 w) nt st' a' w'->after Fence.wide 0 (W0 w).P (YQ ks) Q x.to a' w') (ho:cV ob:=by (repeat' (first|exact trivial|apply And.intro))<;>first|exact cK.refl _ _|exact fun _ _=>jf.refl _ _|exact jp rfl|exact jv _ _|exact ju _ _|(with_reducible assumption)|omega|with_reducible rfl|(simp only[jb];omega)|(intro j hj;exact absurd hj (not_lt_zero _))|exact Kd rfl (by omega)|exact cdW rfl (by omega)|exact EA rfl (by omega)|exact decide_eq_true rfl|exact decide_eq_true (by omega)|assumption|rfl):after Fence.wide 0 (W0 w).P ks Q .normal a w1:=cbt hR (.inl rfl) (fun _=>rfl) h ho hA hQ
noncomputable abbrev runA (w:World) (o:Opt) (f nt:Nat) (fn:Func) (st:St Dx) (ps:List (Pat Dx)):Option (Xt×List Prop):=cfZ (W0 w) (TY o) (uu (Sx true w.heap.size) (TY o) 300 30).1 (uu (Sx true w.heap.size) (TY o) 300 30).2 nt f 300 (codeOf fn) fn.results.toList st ps
theorem Er {fn:Func}{ps:List (Pat Dx)}(h:runA w o f nt fn st ps=some (.ret,ob)) (hR:uy (W0 w) (TY o)) (hA:At (W0 w) nt st a w1) (ho:cV ob:=by (repeat' (first|exact trivial|apply And.intro))<;>first|exact cK.refl _ _|exact fun _ _=>jf.refl _ _|exact jp rfl|exact jv _ _|exact ju _ _|(with_reducible assumption)|omega|with_reducible rfl|(simp only[jb];omega)|(intro j hj;exact absurd hj (not_lt_zero _))|exact Kd rfl (by omega)|exact cdW rfl (by omega)|exact EA rfl (by omega)|exact decide_eq_true rfl|exact decide_eq_true (by omega)|assumption|rfl):after Fence.wide 0 (W0 w).P [.code (codeOf fn)] (Ret (W0 w) fn (Res (W0 w) ps)) .normal a w1:=all_is hR h ho hA
theorem jK {fn:Func}{ps:List (Pat Dx)}(h:runR w o f nt fn ks st ps=some (.ret,ob)) (hR:uy (W0 w) (TY o)) (hA:At (W0 w) nt st a w1) (ho:cV ob:=by (repeat' (first|exact trivial|apply And.intro))<;>first|exact cK.refl _ _|exact fun _ _=>jf.refl _ _|exact jp rfl|exact jv _ _|exact ju _ _|(with_reducible assumption)|omega|with_reducible rfl|(simp only[jb];omega)|(intro j hj;exact absurd hj (not_lt_zero _))|exact Kd rfl (by omega)|exact cdW rfl (by omega)|exact EA rfl (by omega)|exact decide_eq_true rfl|exact decide_eq_true (by omega)|assumption|rfl) (hQ:∀ a' w',Ret (W0 w) fn (Res (W0 w) ps) .ret a' w'->Q .ret a' w':=by exact fun _ _ h=>h):after Fence.wide 0 (W0 w).P ks Q .normal a w1:=cey hR (.inl rfl) (fun _=>rfl) h ho hA hQ
end
theorem cgt {C:Ctx Dx}{b:Bool}{lo:Nat}{w0:World}(hC:C=Cx b lo w0) {L L':Lt Dx}(h1:L'.lo<=L.lo) (h2:L'.ty=L.ty) (h3:L'.z=L.z) (h4:L'.n=L.n) (h5:∀ j,j<L.n->L'.g j=L.g j):cK C (.ls L') (.ls L):=by
 subst hC;intro w l hl;have hl:DIs w (.ls L) l:=hl;show DIs w (.ls L') l;obtain⟨lo',ty',z',n',g'⟩:=L';obtain⟨lo1,ty1,z1,n1,g1⟩:=L;simp only at h1 h2 h3 h4 h5;subst h2;subst h3;subst h4;cases hl with
 |nil h=>exact .nil h
 |ls k o c arr pre vs rest q2 q3 q4 q5 q6 q7 q8 q9=>exact .ls k o c arr pre vs rest q2 q3 q4 q5 q6 (le_trans h1 q7) q8 (fun j hj=>by rw[show (Lt.mk lo' ty' z' n' g').g j=g1 j from h5 j hj];exact q9 j hj)
end Pe
namespace Pe
noncomputable def kisFrom88_:List Kp:=[.code (codeOf Tryz.f88)]
noncomputable def kisNegative57_:List Kp:=[.code (codeOf Tryz.f57)]
noncomputable def kCheckLine1118_:List Kp:=[.code (codeOf Tryz.f118)]
noncomputable def kCheckLine2119_:List Kp:=[.code (codeOf Tryz.f119)]
noncomputable def kvalue1136_:List Kp:=[.code (codeOf Tryz.f136)]
noncomputable def kCheckVehicle1121_:List Kp:=[.code (codeOf Tryz.f121)]
noncomputable def kgap90_:List Kp:=[.code (codeOf Tryz.f90)]
def Ki:Con
 |[.agg [.cls (.q r _)]]=>some (vr (.bool (decide (jA r<0))),[])
 |_=>none
def ccl:Con
 |[.one (.lit (.int .i64 a)),.one (.lit (.int .i64 n)),.one (.lit (.int .i64 b))]=>some (vr (.bool (decide (a<=n)&&decide (n<=b))),[])
 |_=>none
def ZG:Con
 |[.agg [.cls (.q _ _),.cls (.q s _)]]=>some (vr (.bool (decide (jA s=0))),[])
 |_=>none
def cga:Con
 |[.agg [.cls (.q r j),.cls (.q _ _)],.agg [.cls (.q r' j'),.cls (.q _ _)]]=>some (vr (.bool (decide (cI r r'<0))),[j+j'<=10000])
 |_=>none
def ceQ:Con
 |[.agg [.cls (.q r j),.cls (.q _ _)],.agg [.cls (.q x m)]]=>some (vr (.int .i64 (cI r x)),[j+m<=10000])
 |_=>none
def ZB:Con
 |[.agg [.cls (.q r _),.cls (.q s _)]]=>some (vr (.bool (decide (jA r<0)||decide (jA s<0))),[])
 |_=>none
def ceI:Con
 |[.agg [.cls (.q _ _),.cls (.q s k)]]=>some (qr s k,[])
 |_=>none
noncomputable abbrev isfR (w:World) (a n b:Int) (o:List (Nat×Nat×Bool)):=runR w ⟨o,[],[]⟩ 88 15 Tryz.f88 kisFrom88_ (stA [pI a,pI n,pI b]) (rB (decide (a<=n)&&decide (n<=b)))
theorem isf0 {w:World}(a n b:Int):isfR w a n b [(88,9,true),(88,13,true)]=some (.ret,[decide (a<=n)=true,decide (n<=b)=true,Value.bool (decide (a<=n)&&decide (n<=b))=Value.bool true]):=by kernel_rfl
theorem isf1 {w:World}(a n b:Int):isfR w a n b [(88,9,true),(88,13,false)]=some (.ret,[decide (a<=n)=true,decide (n<=b)=false,Value.bool (decide (a<=n)&&decide (n<=b))=Value.bool false]):=by kernel_rfl
theorem isf2 {w:World}(a n b:Int):isfR w a n b [(88,9,false)]=some (.ret,[decide (a<=n)=false,Value.bool (decide (a<=n)&&decide (n<=b))=Value.bool false]):=by kernel_rfl
theorem ciS (hN:jd) (a n b:Int):zD 88 [pI a,pI n,pI b] (fun _=>rB (decide (a<=n)&&decide (n<=b))):=by
 intro w vs hG hp;refine yV hG hN (ex:=[]) jI (fn:=Tryz.f88) Tryz.func88 (c:=codeOf Tryz.f88) (by kernel_rfl) (args:=[pI a,pI n,pI b]) (by kernel_rfl) hp (fun hR _ hA=>?_);rcases eq_false_or_eq_true (decide (a<=n)) with q9|q9
 ·skip
  have p9:=of_decide_eq_true q9;rcases eq_false_or_eq_true (decide (n<=b)) with q13|q13
  ·skip
   have p13:=of_decide_eq_true q13;refine jK (isf0 a n b) (hR _ rfl) hA (by (repeat' (first|exact trivial|apply And.intro))<;>first|exact cK.refl _ _|exact fun _ _=>jf.refl _ _|exact jp rfl|exact jv _ _|exact ju _ _|(with_reducible assumption)|omega|with_reducible rfl|(simp only[jb];omega)|(intro j hj;exact absurd hj (not_lt_zero _))|exact congrArg Value.bool (by rw[q9];first|rfl|(rw[q13];rfl))|rfl)
  ·skip
   have p13:=of_decide_eq_false q13;refine jK (isf1 a n b) (hR _ rfl) hA (by (repeat' (first|exact trivial|apply And.intro))<;>first|exact cK.refl _ _|exact fun _ _=>jf.refl _ _|exact jp rfl|exact jv _ _|exact ju _ _|(with_reducible assumption)|omega|with_reducible rfl|(simp only[jb];omega)|(intro j hj;exact absurd hj (not_lt_zero _))|exact congrArg Value.bool (by rw[q9];first|rfl|(rw[q13];rfl))|rfl)
 ·skip
  have p9:=of_decide_eq_false q9;refine jK (isf2 a n b) (hR _ rfl) hA (by (repeat' (first|exact trivial|apply And.intro))<;>first|exact cK.refl _ _|exact fun _ _=>jf.refl _ _|exact jp rfl|exact jv _ _|exact ju _ _|(with_reducible assumption)|omega|with_reducible rfl|(simp only[jb];omega)|(intro j hj;exact absurd hj (not_lt_zero _))|exact congrArg Value.bool (by rw[q9];first|rfl|(rw[q13];rfl))|rfl)
noncomputable abbrev negR (w:World) (r:Rat) (k:Nat) (o:List (Nat×Nat×Bool)):=runR w ⟨o,[],[]⟩ 57 6 Tryz.f57 kisNegative57_ (stA [pQ r k]) (rB (decide (jA r<0)))
theorem neg0 {w:World}(r:Rat) (k:Nat):negR w r k [(57,5,true)]=some (.ret,[decide (jA r<0)=true,Value.bool (decide (jA r<0))=Value.bool true]):=by kernel_rfl
theorem neg1 {w:World}(r:Rat) (k:Nat):negR w r k [(57,5,false)]=some (.ret,[decide (jA r<0)=false,Value.bool (decide (jA r<0))=Value.bool false]):=by kernel_rfl
theorem neg_ok (hN:jd) (r:Rat) (k:Nat):zD 57 [pQ r k] (fun _=>rB (decide (jA r<0))):=by
 intro w vs hG hp;refine yV hG hN (ex:=[]) jI (fn:=Tryz.f57) Tryz.func57 (c:=codeOf Tryz.f57) (by kernel_rfl) (args:=[pQ r k]) (by kernel_rfl) hp (fun hR _ hA=>?_);rcases eq_false_or_eq_true (decide (jA r<0)) with q5|q5
 ·skip
  have p5:=of_decide_eq_true q5
  first|have e0:=congrArg Value.bool q5|skip
  refine jK (neg0 r k) (hR _ rfl) hA
 ·skip
  have p5:=of_decide_eq_false q5
  first|have e0:=congrArg Value.bool q5|skip
  refine jK (neg1 r k) (hR _ rfl) hA
noncomputable abbrev levR (w:World) (r s:Rat) (j k:Nat) (o:List (Nat×Nat×Bool)):=runR w ⟨o,[],[]⟩ 118 7 Tryz.f118 kCheckLine1118_ (stA [pP r j s k]) (rB (decide (jA s=0)))
theorem lev0 {w:World}(r s:Rat) (j k:Nat):levR w r s j k [(118,6,true)]=some (.ret,[decide (jA s=0)=true,Value.bool (decide (jA s=0))=Value.bool true]):=by kernel_rfl
theorem lev1 {w:World}(r s:Rat) (j k:Nat):levR w r s j k [(118,6,false)]=some (.ret,[decide (jA s=0)=false,Value.bool (decide (jA s=0))=Value.bool false]):=by kernel_rfl
theorem cjJ (hN:jd) (r s:Rat) (j k:Nat):zD 118 [pP r j s k] (fun _=>rB (decide (jA s=0))):=by
 intro w vs hG hp;refine yV hG hN (ex:=[]) jI (fn:=Tryz.f118) Tryz.func118 (c:=codeOf Tryz.f118) (by kernel_rfl) (args:=[pP r j s k]) (by kernel_rfl) hp (fun hR _ hA=>?_);rcases eq_false_or_eq_true (decide (jA s=0)) with q6|q6
 ·skip
  have p6:=of_decide_eq_true q6
  first|have e0:=congrArg Value.bool q6|skip
  refine jK (lev0 r s j k) (hR _ rfl) hA
 ·skip
  have p6:=of_decide_eq_false q6
  first|have e0:=congrArg Value.bool q6|skip
  refine jK (lev1 r s j k) (hR _ rfl) hA
noncomputable abbrev ascR (w:World) (r s r' s':Rat) (j k j' k':Nat)  (o:List (Nat×Nat×Bool)):=runR w ⟨o,[],[]⟩ 119 11 Tryz.f119 kCheckLine2119_ (stA [pP r j s k,pP r' j' s' k']) (rB (decide (cI r r'<0)))
theorem asc0 {w:World}(r s r' s':Rat) (j k j' k':Nat):ascR w r s r' s' j k j' k' [(119,10,true)]=some (.ret,[j+j'<=1000000,decide (cI r r'<0)=true,Value.bool (decide (cI r r'<0))=Value.bool true]):=by kernel_rfl
theorem asc1 {w:World}(r s r' s':Rat) (j k j' k':Nat):ascR w r s r' s' j k j' k' [(119,10,false)]=some (.ret,[j+j'<=1000000,decide (cI r r'<0)=false,Value.bool (decide (cI r r'<0))=Value.bool false]):=by kernel_rfl
theorem asc_ok (hN:jd) (r s r' s':Rat) (j k j' k':Nat) (hj:j+j'<=10000):zD 119 [pP r j s k,pP r' j' s' k'] (fun _=>rB (decide (cI r r'<0))):=by
 intro w vs hG hp;refine yV hG hN (ex:=[]) jI (fn:=Tryz.f119) Tryz.func119 (c:=codeOf Tryz.f119) (by kernel_rfl) (args:=[pP r j s k,pP r' j' s' k']) (by kernel_rfl) hp (fun hR _ hA=>?_);rcases eq_false_or_eq_true (decide (cI r r'<0)) with q10|q10
 ·skip
  have p10:=of_decide_eq_true q10
  first|have e0:=congrArg Value.bool q10|skip
  refine jK (asc0 r s r' s' j k j' k') (hR _ rfl) hA
 ·skip
  have p10:=of_decide_eq_false q10
  first|have e0:=congrArg Value.bool q10|skip
  refine jK (asc1 r s r' s' j k j' k') (hR _ rfl) hA
noncomputable abbrev keyR (w:World) (r s x:Rat) (j k m:Nat)  (o:List (Nat×Nat×Bool)):=runR w ⟨o,[],[]⟩ 136 9 Tryz.f136 kvalue1136_ (stA [pP r j s k,pQ x m]) (rI (cI r x))
theorem key0 {w:World}(r s x:Rat) (j k m:Nat):keyR w r s x j k m []=some (.ret,[j+m<=1000000,Value.int IntKind.i64 (cI r x)=Value.int IntKind.i64 (cI r x)]):=by kernel_rfl
theorem key_ok (hN:jd) (r s x:Rat) (j k m:Nat) (hj:j+m<=10000):zD 136 [pP r j s k,pQ x m] (fun _=>rI (cI r x)):=by
 intro w vs hG hp;refine yV hG hN (ex:=[]) jI (fn:=Tryz.f136) Tryz.func136 (c:=codeOf Tryz.f136) (by kernel_rfl) (args:=[pP r j s k,pQ x m]) (by kernel_rfl) hp (fun hR _ hA=>?_);refine jK (key0 r s x j k m) (hR _ rfl) hA
theorem car {lo:Nat}{w0:World}(hN:jd) (hG:Gr w0) (hlo:lo<=w0.heap.size):∀ l r ob,Ki l=some (r,ob)->cV ob->cO (Cx true lo w0) (.call 57) l r:=by
 intro l r ob h ho;unfold Ki at h;split at h
 ·injection h with h;injection h with h1 h2;subst h1;subst h2
  exact(neg_ok hN _ _).val hG hlo (enters_of Tryz.func57 (by kernel_rfl) rfl)
 ·cases h
theorem exNeg {lo:Nat}{w0:World}(hN:jd) (hG:Gr w0) (hlo:lo<=w0.heap.size):Cu true lo w0 [(57,Ki)]:=jk (car hN hG hlo) jI
noncomputable abbrev wroR (w:World) (r s:Rat) (j k:Nat) (o:List (Nat×Nat×Bool)):=runR w ⟨o,[],[(57,Ki)]⟩ 121 11 Tryz.f121 kCheckVehicle1121_ (stA [pP r j s k]) (rB (decide (jA r<0)||decide (jA s<0)))
theorem wro0 {w:World}(r s:Rat) (j k:Nat):wroR w r s j k [(121,5,true)]=some (.ret,[decide (jA r<0)=true,Value.bool (decide (jA r<0)||decide (jA s<0))=Value.bool true]):=by kernel_rfl
theorem wro1 {w:World}(r s:Rat) (j k:Nat):wroR w r s j k [(121,5,false),(121,9,true)]=some (.ret,[decide (jA r<0)=false,decide (jA s<0)=true,Value.bool (decide (jA r<0)||decide (jA s<0))=Value.bool true]):=by kernel_rfl
theorem wro2 {w:World}(r s:Rat) (j k:Nat):wroR w r s j k [(121,5,false),(121,9,false)]=some (.ret,[decide (jA r<0)=false,decide (jA s<0)=false,Value.bool (decide (jA r<0)||decide (jA s<0))=Value.bool false]):=by kernel_rfl
theorem cjS (hN:jd) (r s:Rat) (j k:Nat):zD 121 [pP r j s k] (fun _=>rB (decide (jA r<0)||decide (jA s<0))):=by
 intro w vs hG hp;refine yV hG hN (ex:=[(57,Ki)]) (exNeg hN hG (le_refl _)) (fn:=Tryz.f121) Tryz.func121 (c:=codeOf Tryz.f121) (by kernel_rfl) (args:=[pP r j s k]) (by kernel_rfl) hp (fun hR _ hA=>?_);rcases eq_false_or_eq_true (decide (jA r<0)) with q5|q5
 ·skip
  have p5:=of_decide_eq_true q5;refine jK (wro0 r s j k) (hR _ rfl) hA (by (repeat' (first|exact trivial|apply And.intro))<;>first|exact cK.refl _ _|exact fun _ _=>jf.refl _ _|exact jp rfl|exact jv _ _|exact ju _ _|(with_reducible assumption)|omega|with_reducible rfl|(simp only[jb];omega)|(intro j hj;exact absurd hj (not_lt_zero _))|exact congrArg Value.bool (by rw[q5];first|rfl|(rw[q9];rfl))|rfl)
 ·skip
  have p5:=of_decide_eq_false q5;rcases eq_false_or_eq_true (decide (jA s<0)) with q9|q9
  ·skip
   have p9:=of_decide_eq_true q9;refine jK (wro1 r s j k) (hR _ rfl) hA (by (repeat' (first|exact trivial|apply And.intro))<;>first|exact cK.refl _ _|exact fun _ _=>jf.refl _ _|exact jp rfl|exact jv _ _|exact ju _ _|(with_reducible assumption)|omega|with_reducible rfl|(simp only[jb];omega)|(intro j hj;exact absurd hj (not_lt_zero _))|exact congrArg Value.bool (by rw[q5];first|rfl|(rw[q9];rfl))|rfl)
  ·skip
   have p9:=of_decide_eq_false q9;refine jK (wro2 r s j k) (hR _ rfl) hA (by (repeat' (first|exact trivial|apply And.intro))<;>first|exact cK.refl _ _|exact fun _ _=>jf.refl _ _|exact jp rfl|exact jv _ _|exact ju _ _|(with_reducible assumption)|omega|with_reducible rfl|(simp only[jb];omega)|(intro j hj;exact absurd hj (not_lt_zero _))|exact congrArg Value.bool (by rw[q5];first|rfl|(rw[q9];rfl))|rfl)
noncomputable abbrev gapR (w:World) (r s:Rat) (j k:Nat) (o:List (Nat×Nat×Bool)):=runR w ⟨o,[],[]⟩ 90 5 Tryz.f90 kgap90_ (stA [pP r j s k]) [pQ s k]
theorem gap0 {w:World}(r s:Rat) (j k:Nat):gapR w r s j k []=some (.ret,[cK (W0 w) (.q s k) (.q s k),uv (W0 w) (.q s k)]):=by kernel_rfl
theorem gap_ok (hN:jd) (r s:Rat) (j k:Nat):zD 90 [pP r j s k] (fun _=>[pQ s k]):=by
 intro w vs hG hp;refine yV hG hN (ex:=[]) jI (fn:=Tryz.f90) Tryz.func90 (c:=codeOf Tryz.f90) (by kernel_rfl) (args:=[pP r j s k]) (by kernel_rfl) hp (fun hR _ hA=>?_);refine jK (gap0 r s j k) (hR _ rfl) hA
theorem ceO {lo:Nat}{w0:World}(hN:jd) (hG:Gr w0) (hlo:lo<=w0.heap.size):∀ l r ob,ccl l=some (r,ob)->cV ob->cO (Cx true lo w0) (.call 88) l r:=by
 intro l r ob h ho;unfold ccl at h;split at h
 ·injection h with h;injection h with h1 h2;subst h1;subst h2
  exact(ciS hN _ _ _).val hG hlo (enters_of Tryz.func88 (by kernel_rfl) rfl)
 ·cases h
theorem cdA {lo:Nat}{w0:World}(hN:jd) (hG:Gr w0) (hlo:lo<=w0.heap.size):∀ l r ob,ZG l=some (r,ob)->cV ob->cO (Cx true lo w0) (.call 118) l r:=by
 intro l r ob h ho;unfold ZG at h;split at h
 ·injection h with h;injection h with h1 h2;subst h1;subst h2
  exact(cjJ hN _ _ _ _).val hG hlo (enters_of Tryz.func118 (by kernel_rfl) rfl)
 ·cases h
theorem cje {lo:Nat}{w0:World}(hN:jd) (hG:Gr w0) (hlo:lo<=w0.heap.size):∀ l r ob,cga l=some (r,ob)->cV ob->cO (Cx true lo w0) (.call 119) l r:=by
 intro l r ob h ho;unfold cga at h;split at h
 ·injection h with h;injection h with h1 h2;subst h1;subst h2
  exact(asc_ok hN _ _ _ _ _ _ _ _ ho.1).val hG hlo (enters_of Tryz.func119 (by kernel_rfl) rfl)
 ·cases h
theorem ciy {lo:Nat}{w0:World}(hN:jd) (hG:Gr w0) (hlo:lo<=w0.heap.size):∀ l r ob,ceQ l=some (r,ob)->cV ob->cO (Cx true lo w0) (.call 136) l r:=by
 intro l r ob h ho;unfold ceQ at h;split at h
 ·injection h with h;injection h with h1 h2;subst h1;subst h2
  exact(key_ok hN _ _ _ _ _ _ ho.1).val hG hlo (enters_of Tryz.func136 (by kernel_rfl) rfl)
 ·cases h
theorem ccK {lo:Nat}{w0:World}(hN:jd) (hG:Gr w0) (hlo:lo<=w0.heap.size):∀ l r ob,ZB l=some (r,ob)->cV ob->cO (Cx true lo w0) (.call 121) l r:=by
 intro l r ob h ho;unfold ZB at h;split at h
 ·injection h with h;injection h with h1 h2;subst h1;subst h2
  exact(cjS hN _ _ _ _).val hG hlo (enters_of Tryz.func121 (by kernel_rfl) rfl)
 ·cases h
theorem ciQ {lo:Nat}{w0:World}(hN:jd) (hG:Gr w0) (hlo:lo<=w0.heap.size):∀ l r ob,ceI l=some (r,ob)->cV ob->cO (Cx true lo w0) (.call 90) l r:=by
 intro l r ob h ho;unfold ceI at h;split at h
 ·injection h with h;injection h with h1 h2;subst h1;subst h2
  exact(gap_ok hN _ _ _ _).num hG hlo (enters_of Tryz.func90 (by kernel_rfl) rfl)
 ·cases h
def exM:List (Nat×Con):=[(88,ccl),(57,Ki),(118,ZG),(119,cga),(136,ceQ),(121,ZB),(90,ceI)]
theorem cev {lo:Nat}{w0:World}(hN:jd) (hG:Gr w0) (hlo:lo<=w0.heap.size):Cu true lo w0 exM:=jk (ceO hN hG hlo) (jk (car hN hG hlo) (jk (cdA hN hG hlo) (jk (cje hN hG hlo) (jk (ciy hN hG hlo) (jk (ccK hN hG hlo) (jk (ciQ hN hG hlo) jI))))))
end Pe
namespace Pe
noncomputable def kPoint120_:List Kp:=[.code (codeOf Tryz.f120)]
noncomputable def kPoint120_n:List Kp:=next kPoint120_
noncomputable def kPoint120_nl:List Kp:=[.code (uw kPoint120_n)]
noncomputable def kPoint120_nt:List Kp:=kPoint120_n.tail
abbrev up (L:List R2) (i:Nat):Bool:=decide (cI (L.getD i default).1 (L.getD (i+1) default).1<0)
def asc (L:List R2):Bool:=(List.range (L.length-1)).all (up L)
theorem ciu {L:List R2}{i:Nat}(hi:i+1<L.length) (h:up L i=false):Value.bool (asc L)=Value.bool false:=by
 refine congrArg Value.bool (Bool.eq_false_iff.2 fun ha=>?_);have:=List.all_eq_true.1 ha i (List.mem_range.2 (by omega));rw[h] at this;cases this
theorem ckF {L:List R2}(h:∀ i,i<L.length-1->up L i=true):asc L=true:=List.all_eq_true.2 fun i hi=>h i (List.mem_range.1 hi)
abbrev eaI (lo ty:Nat) (L:List R2) (i:Nat):St Dx:=⟨1,[(0,.val (.one (.sym 0 0))),(1,.val (.one (.lit (.func (.func 119) #[] #[])))),(8,.val (.one (.lit (ii ((L.length:Int)-1))))),(9,.val (.one (.lit (ii (i:Int)))))],[(0,.cls (.ls (lst lo ty 8 L fQ)))],[]⟩
theorem eaa {w:World}(lo:Nat) (L:List R2):run w ⟨[],[],exM⟩ 120 25 kPoint120_ (stA [pL lo 90 L,pF 119]) (eaI lo 90 L 0)=some (.normal,[jQ ((L.length:Int)-1),cK (W0 w) (.ls (lst lo 90 8 L fQ)) (.ls (lst lo 90 8 L fQ)),Value.func (Fn.func 119) #[] #[]=Value.func (Fn.func 119) #[] #[],ii ((L.length:Int)-1)=Value.int IntKind.i64 ((L.length:Int)-1),ii (↑0:Int)=Value.int IntKind.i64 0]):=by kernel_rfl
theorem eae {w:World}(lo:Nat) (L:List R2) (i:Nat):runR w ⟨[],[],exM⟩ 120 25 Tryz.f120 kPoint120_nt (eaI lo 90 L i) (rB (asc L))=some (.ret,[Value.bool (asc L)=Value.bool true]):=by kernel_rfl
noncomputable abbrev eabTe0 (w:World) (l0:Nat) (L:List R2) (i:Nat) (o:List (Nat×Nat×Bool)):=run w ⟨o,[],exM⟩ 120 25 kPoint120_nl (eaI l0 90 L i) (eaI l0 90 L i)
noncomputable abbrev eabR (w:World) (l0:Nat) (L:List R2) (i:Nat) (o:List (Nat×Nat×Bool)):=runR w ⟨o,[],exM⟩ 120 25 Tryz.f120 kPoint120_nl (eaI l0 90 L i) (rB (asc L))
noncomputable abbrev eabTnal (w:World) (l0:Nat) (L:List R2) (i:Nat) (o:List (Nat×Nat×Bool)):=run w ⟨o,[],exM⟩ 120 25 kPoint120_nl (eaI l0 90 L i) (eaI l0 90 L (i+1))
theorem eab0 {w:World}(l0:Nat) (L:List R2) (i:Nat):eabTnal w l0 L i [(120,10,true),(120,22,true)]=some (.normal,[decide ((i:Int)<(L.length:Int)-1)=true,i<L.length,i<L.length,jQ ((i:Int)+1),i+1<L.length,i+1<L.length,decide (cI (L.getD i default).1 (L.getD (i+1) default).1<0)=true,4+4<=10000,jQ ((i:Int)+1),cK (W0 w) (.ls (lst l0 90 8 L fQ)) (.ls (lst l0 90 8 L fQ)),Value.func (Fn.func 119) #[] #[]=Value.func (Fn.func 119) #[] #[],ii ((L.length:Int)-1)=ii ((L.length:Int)-1),ii (↑(i+1):Int)=Value.int IntKind.i64 ((i:Int)+1)]):=by kernel_rfl
theorem eab1 {w:World}(l0:Nat) (L:List R2) (i:Nat):eabR w l0 L i [(120,10,true),(120,22,false)]=some (.ret,[decide ((i:Int)<(L.length:Int)-1)=true,i<L.length,i<L.length,jQ ((i:Int)+1),i+1<L.length,i+1<L.length,decide (cI (L.getD i default).1 (L.getD (i+1) default).1<0)=false,4+4<=10000,Value.bool (asc L)=Value.bool false]):=by kernel_rfl
theorem eab2 {w:World}(l0:Nat) (L:List R2) (i:Nat):eabTe0 w l0 L i [(120,10,false)]=some (.exit 0,[decide ((i:Int)<(L.length:Int)-1)=false,cK (W0 w) (.ls (lst l0 90 8 L fQ)) (.ls (lst l0 90 8 L fQ)),Value.func (Fn.func 119) #[] #[]=Value.func (Fn.func 119) #[] #[],ii ((L.length:Int)-1)=ii ((L.length:Int)-1),ii (i:Int)=ii (i:Int)]):=by kernel_rfl
theorem each_ok (hN:jd) (l0:Nat) (L:List R2) (hl:L.length<=1000000):zD 120 [pL l0 90 L,pF 119] (fun _=>rB (asc L)):=by
 intro w vs hG hp;refine yV hG hN (ex:=exM) (cev hN hG (le_refl _)) (fn:=Tryz.f120) Tryz.func120 (c:=codeOf Tryz.f120) (by kernel_rfl) (args:=[pL l0 90 L,pF 119]) (by kernel_rfl) hp (fun hR _ hA=>?_);refine uj (eaa l0 L) (hR _ rfl) hA (fun a w1 hA=>yv ?_);refine yx (fun i=>eaI l0 90 L i) (fun i=>i<=L.length-1/\∀ k,k<i->up L k=true) (fun i=>L.length-i) (L:=kPoint120_n) (ks:=kPoint120_nt) (id:=0) (c:=uw kPoint120_n) (by kernel_rfl) 0 ⟨zero_le _,by omega⟩ hA (fun i a2 w2 hi hA=>?_);rcases eq_false_or_eq_true (decide ((i:Int)<(L.length:Int)-1)) with q10|q10
 ·skip
  have p10:=of_decide_eq_true q10;rcases eq_false_or_eq_true (up L i) with q22|q22
  ·skip
   refine uj (eab0 l0 L i) (hR _ rfl) hA (fun aT wT hT=>?_);exact jL (by kernel_rfl) ⟨i+1,⟨by omega,fun k hk=>by rcases Nat.lt_succ_iff_lt_or_eq.1 hk with h|rfl;exact hi.2 k h;exact q22⟩,hT,by omega⟩
  ·skip
   have e0:=ciu (by omega) q22;refine jK (eab1 l0 L i) (hR _ rfl) hA
 ·skip
  have p10:=of_decide_eq_false q10;refine uj (eab2 l0 L i) (hR _ rfl) hA (fun aT wT hT=>?_);refine kb _ (by kernel_rfl) ?_;refine cey (hR ⟨[],[],exM⟩ rfl) (.inl rfl) (fun _=>rfl) (fn:=Tryz.f120) (eae l0 L i) ?_ hT (fun _ _ h=>h);exact⟨congrArg Value.bool (ckF fun k hk=>hi.2 k (by omega)),trivial⟩
def conEach (args:List (Pat Dx)) (L:List R2):Con:=Cy args (vr (.bool (asc L)))
theorem cki {lo l0:Nat}{w0:World}{L:List R2}(hN:jd) (hG:Gr w0) (hlo:lo<=w0.heap.size) (hl:L.length<=1000000):cO (Cx true lo w0) (.call 120) [pL l0 90 L,pF 119] (vr (.bool (asc L))) :=
 (each_ok hN l0 L hl).val hG hlo (enters_of Tryz.func120 (by kernel_rfl) rfl)
end Pe
namespace Pe
noncomputable def kCheckLine65_:List Kp:=[.code (codeOf Tryz.f65)]
abbrev szI (a n b:Int):Bool:=decide (a<=n)&&decide (n<=b)
abbrev lev (L:List R2) (i:Nat):Bool:=decide (jA (L.getD i default).2=0)
section
variable {a b c d:Bool}
theorem a4_t (h:a=true) (i:b=true) (j:c=true) (k:d=true):(a&&b&&c&&d)=true:=by rw[h,i,j,k];rfl
theorem a4_1 (h:a=false):(a&&b&&c&&d)=false:=by rw[h];rfl
theorem a4_2 (h:b=false):(a&&b&&c&&d)=false:=by rw[h,Bool.and_false];rfl
theorem a4_3 (h:c=false):(a&&b&&c&&d)=false:=by rw[h,Bool.and_false];rfl
theorem a4_4 (h:d=false):(a&&b&&c&&d)=false:=by rw[h,Bool.and_false]
end
def okL (L:List R2):Bool:=szI 2 L.length 60&&lev L 0&&lev L (L.length-1)&&asc L
abbrev er (b:Bool):Int:=match b with
 |true=>0
 |false=>2
theorem cdG {a b:Bool}(h:a=b):Value.int .i64 (er a)=Value.int .i64 (er b):=by rw[h]
abbrev exL (l0:Nat) (L:List R2):List (Nat×Con):=(120,conEach [pL l0 90 L,pF 119] L)::exM
theorem exL_ok {lo l0:Nat}{w0:World}{L:List R2}(hN:jd) (hG:Gr w0) (hlo:lo<=w0.heap.size) (hl:L.length<=1000000):Cu true lo w0 (exL l0 L):=jk (Ez (cki hN hG hlo hl)) (cev hN hG hlo)
noncomputable abbrev chlR (w:World) (l0:Nat) (L:List R2)  (o:List (Nat×Nat×Bool)):=runR w ⟨o,[],(exL l0 L)⟩ 65 34 Tryz.f65 kCheckLine65_ (stA [pL l0 90 L]) (rI (er (okL L)))
theorem chl0 {w:World}(l0:Nat) (L:List R2):chlR w l0 L [(65,7,true),(65,14,true),(65,25,true),(65,31,true),(65,22,true)]=some (.ret,[(decide (2<=(L.length:Int))&&decide ((L.length:Int)<=60))=true,0<L.length,0<L.length,decide (jA (L.getD 0 default).2=0)=true,1<=L.length,L.length<=1000000000,L.length-1<L.length,L.length-1<L.length,decide (jA (L.getD (L.length-1) default).2=0)=true,asc L=true,[Pat.one (Grp.cls (Dx.ls (lst l0 90 8 L fQ))),Pat.one (Grp.lit (Value.func (Fn.func 119) #[] #[]))]=[pL l0 90 L,pF 119],Value.int IntKind.i64 (er (okL L))=Value.int IntKind.i64 0]):=by kernel_rfl
theorem chl1 {w:World}(l0:Nat) (L:List R2):chlR w l0 L [(65,7,true),(65,14,true),(65,25,true),(65,31,false),(65,22,true)]=some (.ret,[(decide (2<=(L.length:Int))&&decide ((L.length:Int)<=60))=true,0<L.length,0<L.length,decide (jA (L.getD 0 default).2=0)=true,1<=L.length,L.length<=1000000000,L.length-1<L.length,L.length-1<L.length,decide (jA (L.getD (L.length-1) default).2=0)=true,asc L=false,[Pat.one (Grp.cls (Dx.ls (lst l0 90 8 L fQ))),Pat.one (Grp.lit (Value.func (Fn.func 119) #[] #[]))]=[pL l0 90 L,pF 119],Value.int IntKind.i64 (er (okL L))=Value.int IntKind.i64 2]):=by kernel_rfl
theorem chl2 {w:World}(l0:Nat) (L:List R2):chlR w l0 L [(65,7,true),(65,14,true),(65,25,false),(65,22,true)]=some (.ret,[(decide (2<=(L.length:Int))&&decide ((L.length:Int)<=60))=true,0<L.length,0<L.length,decide (jA (L.getD 0 default).2=0)=true,1<=L.length,L.length<=1000000000,L.length-1<L.length,L.length-1<L.length,decide (jA (L.getD (L.length-1) default).2=0)=false,Value.int IntKind.i64 (er (okL L))=Value.int IntKind.i64 2]):=by kernel_rfl
theorem chl3 {w:World}(l0:Nat) (L:List R2):chlR w l0 L [(65,7,true),(65,14,false),(65,22,true)]=some (.ret,[(decide (2<=(L.length:Int))&&decide ((L.length:Int)<=60))=true,0<L.length,0<L.length,decide (jA (L.getD 0 default).2=0)=false,Value.int IntKind.i64 (er (okL L))=Value.int IntKind.i64 2]):=by kernel_rfl
theorem chl4 {w:World}(l0:Nat) (L:List R2):chlR w l0 L [(65,7,false),(65,22,true)]=some (.ret,[(decide (2<=(L.length:Int))&&decide ((L.length:Int)<=60))=false,Value.int IntKind.i64 (er (okL L))=Value.int IntKind.i64 2]):=by kernel_rfl
theorem cbw (hN:jd) (l0:Nat) (L:List R2) (hl:L.length<=1000000):zD 65 [pL l0 90 L] (fun _=>rI (er (okL L))):=by
 intro w vs hG hp;refine yV hG hN (ex:=(exL l0 L)) (exL_ok hN hG (le_refl _) hl) (fn:=Tryz.f65) Tryz.func65 (c:=codeOf Tryz.f65) (by kernel_rfl) (args:=[pL l0 90 L]) (by kernel_rfl) hp (fun hR _ hA=>?_);rcases eq_false_or_eq_true (szI 2 L.length 60) with q7|q7
 ·skip
  have b7:2<=L.length/\L.length<=60:=by simp only[szI,and_eq_true,decide_eq_true_eq] at q7;omega
  rcases eq_false_or_eq_true (lev L 0) with q14|q14
  ·skip
   rcases eq_false_or_eq_true (lev L (L.length-1)) with q25|q25
   ·skip
    rcases eq_false_or_eq_true (asc L) with q31|q31
    ·skip
     have e0:=cdG (a:=okL L) (b:=true) (a4_t q7 q14 q25 q31);refine jK (chl0 l0 L) (hR _ rfl) hA
    ·skip
     have e0:=cdG (a:=okL L) (b:=false) (a4_4 q31);refine jK (chl1 l0 L) (hR _ rfl) hA
   ·skip
    have e0:=cdG (a:=okL L) (b:=false) (a4_3 q25);refine jK (chl2 l0 L) (hR _ rfl) hA
  ·skip
   have e0:=cdG (a:=okL L) (b:=false) (a4_2 q14);refine jK (chl3 l0 L) (hR _ rfl) hA
 ·skip
  have e0:=cdG (a:=okL L) (b:=false) (a4_1 q7);refine jK (chl4 l0 L) (hR _ rfl) hA
abbrev vrI (i:Int):cM Dx:=vr (.int .i64 i)
theorem ckR {lo l0:Nat}{w0:World}{L:List R2}(hN:jd) (hG:Gr w0) (hlo:lo<=w0.heap.size) (hl:L.length<=1000000):cO (Cx true lo w0) (.call 65) [pL l0 90 L] (vrI (er (okL L))) :=
 (cbw hN l0 L hl).val hG hlo (enters_of Tryz.func65 (by kernel_rfl) rfl)
end Pe
namespace Pe
abbrev T2:=Int×Rat
def ixP (n:Nat) (p:Nat->Bool):Int:=match (List.range n).find? p with
 |some i=>(i:Int)
 |none=>-1
def anyP (n:Nat) (p:Nat->Bool):Bool:=(List.range n).any p
section
variable {n:Nat}{p:Nat->Bool}
theorem cjT {i:Nat}(hi:i<n) (h:p i=true) (hb:∀ k,k<i->p k=false):ixP n p=(i:Int):=by
 have:(List.range n).find? p=some i:=by
  rw[List.find?_range_eq_some];exact⟨h,List.mem_range.2 hi,fun j hj=>by simp [hb j hj]⟩
 unfold ixP;rw[this]
theorem ckb (h:∀ i,i<n->p i=false):ixP n p=-1:=by
 have:(List.range n).find? p=none:=by
  rw[List.find?_eq_none];intro i hi;rw[h i (List.mem_range.1 hi)];exact Bool.false_ne_true
 unfold ixP;rw[this]
theorem ixP_ge:decide (ixP n p>=0)=anyP n p:=by
 unfold ixP anyP;split
 ·rename_i i h;have h1:=List.find?_some h;have h2:=List.mem_of_find?_eq_some h;rw[List.any_eq_true.2 ⟨i,h2,h1⟩];exact decide_eq_true (by omega)
 ·rename_i h;rw[List.find?_eq_none] at h;rw[List.any_eq_false.2 h];rfl
end
end Pe
namespace Pe
noncomputable def kQ135_:List Kp:=[.code (codeOf Tryz.f135)]
noncomputable def kQ135_n:List Kp:=next kQ135_
noncomputable def kQ135_nt:List Kp:=kQ135_n.tail
noncomputable def kQ135_nl:List Kp:=[.code (uw kQ135_n)]
theorem ZE {r s:Rat}:cI r s<0↔r<s:=by
 unfold cI;by_cases h:r<s
 ·rw[if_pos h];exact⟨fun _=>h,fun _=>by decide⟩
 ·rw[if_neg h];by_cases h2:s<r
  ·rw[if_pos h2];exact⟨fun x=>absurd x (by decide),fun x=>absurd x h⟩
  ·rw[if_neg h2];exact⟨fun x=>absurd x (by decide),fun x=>absurd x h⟩
abbrev xAt (L:List R2) (i:Nat):Rat:=(L.getD i default).1
abbrev yAt (L:List R2) (i:Nat):Rat:=(L.getD i default).2
theorem asc_up {L:List R2}(h:asc L=true) {i:Nat}(hi:i+1<L.length):xAt L i<xAt L (i+1) :=
 ZE.1 (of_decide_eq_true (List.all_eq_true.1 h i (List.mem_range.2 (by omega))))
theorem asc_lt {L:List R2}(h:asc L=true) {i:Nat}:∀ {j:Nat},i<j->j<L.length->xAt L i<xAt L j
 |0,h1,_=>absurd h1 (not_lt_zero _)
 |j+1,h1,h2=>by
  have h3:=asc_up h h2;rcases Nat.lt_succ_iff_lt_or_eq.1 h1 with h4|rfl
  ·have:=asc_lt h h4 (by omega);grind
  ·exact h3
theorem asc_le {L:List R2}(h:asc L=true) {i j:Nat}(h1:i<=j) (h2:j<L.length):xAt L i<=xAt L j:=by
 rcases Nat.lt_or_eq_of_le h1 with h3|rfl
 ·exact Rat.le_of_lt (asc_lt h h3 h2)
 ·exact Rat.le_refl
def pos (L:List R2) (x:Rat):Nat:=L.findIdx fun p=>decide (¬ cI p.1 x<0)
theorem ccF {L:List R2}{i:Nat}(h:i<L.length):L.getD i default=L[i]:=by
 rw[List.getD_eq_getElem?_getD,List.getElem?_eq_getElem h];rfl
theorem pos_is {L:List R2}{x:Rat}{i:Nat}(hi:i<=L.length) (h1:∀ k,k<i->cI (xAt L k) x<0) (h2:i<L.length->¬ cI (xAt L i) x<0):pos L x=i:=by
 rcases Nat.lt_or_eq_of_le hi with h3|rfl
 ·refine(List.findIdx_eq h3).2 ⟨?_,fun j hj=>?_⟩
  ·have:=h2 h3;rw[xAt,ccF h3] at this;exact decide_eq_true this
  ·have:=h1 j hj;rw[xAt,ccF (by omega)] at this;exact decide_eq_false (fun h=>h this)
 ·refine List.findIdx_eq_length.2 fun p hp=>?_;obtain⟨j,hj,rfl⟩:=List.mem_iff_getElem.1 hp;have:=h1 j hj;rw[xAt,ccF hj] at this;exact decide_eq_false (fun h=>h this)
def fnd (L:List R2) (x:Rat):Bool:=decide (pos L x<L.length)&&decide (cI (xAt L (pos L x)) x=0)
abbrev bsI (lo ty tq:Nat) (L:List R2) (x:Rat) (m i j:Nat):St Dx:=⟨3,[(0,.val (.one (.sym 0 0))),(2,.val (.one (.lit (.func (.func 136) #[] #[])))),(4,.val (.one (.ptr 2 0))),(8,.val (.one (.lit (ii (L.length:Int))))),(9,.val (.one (.lit (ii (i:Int))))),(10,.val (.one (.lit (ii (j:Int)))))],[(0,.cls (.ls (lst lo ty 8 L fQ))),(1,.cls (.q x m)),(2,.blk tq [.sym 1 0,.sym 1 1,.sym 1 2,.sym 1 3] none)],[]⟩
theorem zD.two {lo:Nat}{w0:World}{f:Nat}{args:List (Pat Dx)}{v v':Value}(h:zD f args (fun _=>[.one (.lit v),.one (.lit v')])) (hG:Gr w0) (hlo:lo<=w0.heap.size) (hE:Enters Tryz.prog f):cO (Cx true lo w0) (.call f) args (.tup [.one (.lit v),.one (.lit v')]) :=
 h.ent hG hlo hE (fun _ _=>⟨_,rfl,rfl,rfl,trivial⟩)
abbrev bsInv (L:List R2) (x:Rat) (t:Nat×Nat):Prop:=t.1<=t.2/\t.2<=L.length/\(∀ k,k<t.1->cI (xAt L k) x<0)/\(t.2<L.length->¬ cI (xAt L t.2) x<0)
section
variable {L:List R2}{x:Rat}{i j:Nat}{A:Nat->Nat->Prop}
theorem bs_true (ha:asc L=true) (h1:i<=j) (h2:j<=L.length) (h3:∀ k,k<i->cI (xAt L k) x<0) (h4:j<L.length->¬ cI (xAt L j) x<0) (hij:(i:Int)<(j:Int)) (hc:cI (xAt L ((i+j)/2)) x<0) (hT:A ((i+j)/2+1) j):∃ t:Nat×Nat,bsInv L x t/\A t.1 t.2/\t.2-t.1<j-i :=
 ⟨((i+j)/2+1,j),⟨by simp only;omega,h2,fun k hk=>ZE.2 (by
  have h5:=ZE.1 hc;have h6:xAt L k<=xAt L ((i+j)/2):=asc_le ha (by simp only at hk;omega) (by omega);grind),h4⟩,hT,by simp only;omega⟩
theorem cjt (_:asc L=true) (h1:i<=j) (h2:j<=L.length) (h3:∀ k,k<i->cI (xAt L k) x<0) (_:j<L.length->¬ cI (xAt L j) x<0) (hij:(i:Int)<(j:Int)) (hc:¬ cI (xAt L ((i+j)/2)) x<0) (hT:A i ((i+j)/2)):∃ t:Nat×Nat,bsInv L x t/\A t.1 t.2/\t.2-t.1<j-i :=
 ⟨(i,(i+j)/2),⟨by simp only;omega,by simp only;omega,h3,fun _=>hc⟩,hT,by simp only;omega⟩
end
theorem bsa {w:World}(lo:Nat) (L:List R2) (x:Rat) (m:Nat):run w ⟨[],[],exM⟩ 135 49 kQ135_ (stA [pL lo 90 L,pQ x m,pF 136]) (bsI lo 90 32 L x m 0 L.length)=some (.normal,[cK (W0 w) (.ls (lst lo 90 8 L fQ)) (.ls (lst lo 90 8 L fQ)),cK (W0 w) (.q x m) (.q x m),Value.func (Fn.func 136) #[] #[]=Value.func (Fn.func 136) #[] #[],0=0,ii (L.length:Int)=goInt (L.length:Int),ii (↑0:Int)=Value.int IntKind.i64 0,ii (L.length:Int)=goInt (L.length:Int)]):=by kernel_rfl
noncomputable abbrev bseR (w:World) (l0:Nat) (L:List R2) (x:Rat) (m i:Nat) (o:List (Nat×Nat×Bool)):=runR w ⟨o,[],exM⟩ 135 49 Tryz.f135 kQ135_nt (bsI l0 90 32 L x m i i) [pI (pos L x:Nat),.one (.lit (.bool (fnd L x)))]
theorem bse0 {w:World}(l0:Nat) (L:List R2) (x:Rat) (m i:Nat):bseR w l0 L x m i [(135,38,true),(135,47,true)]=some (.ret,[decide ((i:Int)<(L.length:Int))=true,i<L.length,i<L.length,4+m<=10000,decide (cI (L.getD i default).1 x=0)=true,Value.int IntKind.i64 (↑(pos L x):Int)=ii (i:Int),Value.bool (fnd L x)=Value.bool true]):=by kernel_rfl
theorem bse1 {w:World}(l0:Nat) (L:List R2) (x:Rat) (m i:Nat):bseR w l0 L x m i [(135,38,true),(135,47,false)]=some (.ret,[decide ((i:Int)<(L.length:Int))=true,i<L.length,i<L.length,4+m<=10000,decide (cI (L.getD i default).1 x=0)=false,Value.int IntKind.i64 (↑(pos L x):Int)=ii (i:Int),Value.bool (fnd L x)=Value.bool false]):=by kernel_rfl
theorem bse2 {w:World}(l0:Nat) (L:List R2) (x:Rat) (m i:Nat):bseR w l0 L x m i [(135,38,false)]=some (.ret,[decide ((i:Int)<(L.length:Int))=false,Value.int IntKind.i64 (↑(pos L x):Int)=ii (i:Int),Value.bool (fnd L x)=Value.bool false]):=by kernel_rfl
noncomputable abbrev bsbTe0 (w:World) (l0:Nat) (L:List R2) (x:Rat) (m i j:Nat) (o:List (Nat×Nat×Bool)):=run w ⟨o,[],exM⟩ 135 49 kQ135_nl (bsI l0 90 32 L x m i j) (bsI l0 90 32 L x m i j)
noncomputable abbrev bsbTnal (w:World) (l0:Nat) (L:List R2) (x:Rat) (m i j:Nat) (o:List (Nat×Nat×Bool)):=run w ⟨o,[],exM⟩ 135 49 kQ135_nl (bsI l0 90 32 L x m i j) (bsI l0 90 32 L x m (bif true then (i+j)/2+1 else i) (bif true then j else (i+j)/2))
theorem bsb0 {w:World}(l0:Nat) (L:List R2) (x:Rat) (m i j:Nat):bsbTnal w l0 L x m i j [(135,17,true),(135,31,true)]=some (.normal,[decide ((i:Int)<(j:Int))=true,jQ ((i:Int)+(j:Int)),i+j<=4000000000,(i+j)/2<=4000000000,(i+j)/2<L.length,(i+j)/2<L.length,4+m<=10000,decide (cI (L.getD ((i+j)/2) default).1 x<0)=true,jQ (Int.ofNat ((i+j)/2)+1),cK (W0 w) (.ls (lst l0 90 8 L fQ)) (.ls (lst l0 90 8 L fQ)),cK (W0 w) (.q x m) (.q x m),Value.func (Fn.func 136) #[] #[]=Value.func (Fn.func 136) #[] #[],0=0,ii (L.length:Int)=ii (L.length:Int),ii (↑(bif true then (i+j)/2+1 else i):Int)=Value.int IntKind.i64 (Int.ofNat ((i+j)/2)+1),ii (↑(bif true then j else (i+j)/2):Int)=ii (j:Int)]):=by kernel_rfl
theorem bsb1 {w:World}(l0:Nat) (L:List R2) (x:Rat) (m i j:Nat):run w ⟨[(135,17,true),(135,31,false)],[],exM⟩ 135 49 kQ135_nl (bsI l0 90 32 L x m i j) (bsI l0 90 32 L x m (bif false then (i+j)/2+1 else i) (bif false then j else (i+j)/2))=some (.normal,[decide ((i:Int)<(j:Int))=true,jQ ((i:Int)+(j:Int)),i+j<=4000000000,(i+j)/2<=4000000000,(i+j)/2<L.length,(i+j)/2<L.length,4+m<=10000,decide (cI (L.getD ((i+j)/2) default).1 x<0)=false,cK (W0 w) (.ls (lst l0 90 8 L fQ)) (.ls (lst l0 90 8 L fQ)),cK (W0 w) (.q x m) (.q x m),Value.func (Fn.func 136) #[] #[]=Value.func (Fn.func 136) #[] #[],0=0,ii (L.length:Int)=ii (L.length:Int),ii (↑(bif false then (i+j)/2+1 else i):Int)=ii (i:Int),ii (↑(bif false then j else (i+j)/2):Int)=Value.int IntKind.i64 (Int.ofNat ((i+j)/2))]):=by kernel_rfl
theorem bsb2 {w:World}(l0:Nat) (L:List R2) (x:Rat) (m i j:Nat):bsbTe0 w l0 L x m i j [(135,17,false)]=some (.exit 0,[decide ((i:Int)<(j:Int))=false,cK (W0 w) (.ls (lst l0 90 8 L fQ)) (.ls (lst l0 90 8 L fQ)),cK (W0 w) (.q x m) (.q x m),Value.func (Fn.func 136) #[] #[]=Value.func (Fn.func 136) #[] #[],0=0,ii (L.length:Int)=ii (L.length:Int),ii (i:Int)=ii (i:Int),ii (j:Int)=ii (j:Int)]):=by kernel_rfl
theorem search_ok (hN:jd) (l0:Nat) (L:List R2) (x:Rat) (m:Nat) (hl:L.length<=1000000) (hm:m<=9000) (ha:asc L=true):zD 135 [pL l0 90 L,pQ x m,pF 136] (fun _=>[pI (pos L x:Nat),.one (.lit (.bool (fnd L x)))]):=by
 intro w vs hG hp;refine yV hG hN (ex:=exM) (cev hN hG (le_refl _)) (fn:=Tryz.f135) Tryz.func135 (c:=codeOf Tryz.f135) (by kernel_rfl) (args:=[pL l0 90 L,pQ x m,pF 136]) (by kernel_rfl) hp (fun hR _ hA=>?_);refine uj (bsa l0 L x m) (hR _ rfl) hA (fun a w1 hA=>yv ?_);have rest:∀ a w1 i,At (W0 w) 49 (bsI l0 90 32 L x m i i) a w1->i<=L.length->(∀ k,k<i->cI (xAt L k) x<0)->(i<L.length->¬ cI (xAt L i) x<0)->after Fence.wide 0 Tryz.prog kQ135_nt (Ret (W0 w) Tryz.f135 (Res (W0 w) [pI (pos L x:Nat),.one (.lit (.bool (fnd L x)))])) .normal a w1:=by
  intro a w1 i hA h1 h2 h3;have hp:=pos_is h1 h2 h3;rcases eq_false_or_eq_true (decide ((i:Int)<(L.length:Int))) with q38|q38
  ·skip
   have p38:=of_decide_eq_true q38;rcases eq_false_or_eq_true (decide (cI (xAt L i) x=0)) with q47|q47
   ·skip
    have p47:=of_decide_eq_true q47;refine jK (bse0 l0 L x m i) (hR _ rfl) hA (by (repeat' (first|exact trivial|apply And.intro))<;>first|exact cK.refl _ _|exact fun _ _=>jf.refl _ _|exact jp rfl|exact jv _ _|exact ju _ _|(with_reducible assumption)|omega|with_reducible rfl|(simp only[jb];omega)|(intro j hj;exact absurd hj (not_lt_zero _))|exact congrArg (fun n:Nat=>Value.int .i64 (n:Int)) hp|(refine congrArg Value.bool ?_;unfold fnd;rw[hp];first|(rw[q47,Bool.and_true];exact decide_eq_true (by omega))|(rw[q47,Bool.and_false])|(rw[decide_eq_false (by omega),Bool.false_and]))|rfl)
   ·skip
    have p47:=of_decide_eq_false q47;refine jK (bse1 l0 L x m i) (hR _ rfl) hA (by (repeat' (first|exact trivial|apply And.intro))<;>first|exact cK.refl _ _|exact fun _ _=>jf.refl _ _|exact jp rfl|exact jv _ _|exact ju _ _|(with_reducible assumption)|omega|with_reducible rfl|(simp only[jb];omega)|(intro j hj;exact absurd hj (not_lt_zero _))|exact congrArg (fun n:Nat=>Value.int .i64 (n:Int)) hp|(refine congrArg Value.bool ?_;unfold fnd;rw[hp];first|(rw[q47,Bool.and_true];exact decide_eq_true (by omega))|(rw[q47,Bool.and_false])|(rw[decide_eq_false (by omega),Bool.false_and]))|rfl)
  ·skip
   have p38:=of_decide_eq_false q38;refine jK (bse2 l0 L x m i) (hR _ rfl) hA (by (repeat' (first|exact trivial|apply And.intro))<;>first|exact cK.refl _ _|exact fun _ _=>jf.refl _ _|exact jp rfl|exact jv _ _|exact ju _ _|(with_reducible assumption)|omega|with_reducible rfl|(simp only[jb];omega)|(intro j hj;exact absurd hj (not_lt_zero _))|exact congrArg (fun n:Nat=>Value.int .i64 (n:Int)) hp|(refine congrArg Value.bool ?_;unfold fnd;rw[hp];first|(rw[q47,Bool.and_true];exact decide_eq_true (by omega))|(rw[q47,Bool.and_false])|(rw[decide_eq_false (by omega),Bool.false_and]))|rfl)
 refine yx (fun t:Nat×Nat=>bsI l0 90 32 L x m t.1 t.2) (bsInv L x) (fun t=>t.2-t.1) (L:=kQ135_n) (ks:=kQ135_nt) (id:=0) (c:=uw kQ135_n) (by kernel_rfl) (0,L.length) ⟨zero_le _,le_refl _,fun k hk=>absurd hk (not_lt_zero _),fun h=>absurd h (Nat.lt_irrefl _)⟩ hA ?_;rintro⟨i,j⟩ a2 w2 ⟨h1,h2,h3,h4⟩ hA;simp only at h1 h2 h3 h4 hA;rcases eq_false_or_eq_true (decide ((i:Int)<(j:Int))) with q17|q17
 ·skip
  have p17:=of_decide_eq_true q17;rcases eq_false_or_eq_true (decide (cI (xAt L ((i+j)/2)) x<0)) with q31|q31
  ·skip
   have p31:=of_decide_eq_true q31;refine uj (bsb0 l0 L x m i j) (hR _ rfl) hA (fun aT wT hT=>?_);refine jL (by kernel_rfl) ?_;exact bs_true (A:=fun i j=>At (W0 w) 49 (bsI l0 90 32 L x m i j) aT wT) ha h1 h2 h3 h4 p17 p31 hT
  ·skip
   have p31:=of_decide_eq_false q31;refine uj (bsb1 l0 L x m i j) (hR _ rfl) hA (fun aT wT hT=>?_);refine jL (by kernel_rfl) ?_;exact cjt (A:=fun i j=>At (W0 w) 49 (bsI l0 90 32 L x m i j) aT wT) ha h1 h2 h3 h4 p17 p31 hT
 ·skip
  have p17:=of_decide_eq_false q17;refine uj (bsb2 l0 L x m i j) (hR _ rfl) hA (fun aT wT hT=>?_);refine kb _ (by kernel_rfl) ?_;obtain rfl:i=j:=by omega
  exact rest _ _ i hT h2 h3 h4
end Pe
namespace Pe
theorem KZ {b:Bool}{lo:Nat}{w0:World}{r s:Rat}(h1:r=0) (h2:s=0):jf (Cx b lo w0) [.cls (.q r 1),.cls (.q s 1)] [.lit (.bool false),.lit (.int .u64 0),.lit (.int .u64 0),.lit (.pointer none),.lit (.bool false),.lit (.int .u64 0),.lit (.int .u64 0),.lit (.pointer none)]:=by
 intro w vs hv;subst h1;subst h2;obtain⟨xs,ys,rfl,h3,h4⟩:=Jv (b:=b) (lo:=lo) (w0:=w0) (gs':=[.lit (.bool false),.lit (.int .u64 0),.lit (.int .u64 0),.lit (.pointer none)]) (r:=0) (k:=1) rfl hv;obtain⟨xs',ys',rfl,h5,h6⟩:=Jv (b:=b) (lo:=lo) (w0:=w0) (gs':=[]) (r:=0) (k:=1) rfl h4;rw[show ys'=[] from h6];exact Zj (.cls h3 (.cls h5 .nil))
end Pe
namespace Pe
abbrev Fr:=World×Nat×Value
noncomputable abbrev Wm (w:World) (fr:Fr):Ctx Dx:={ W0 w with fr:=some (fr.1,fr.2.1,0,fr.2.2) }
noncomputable abbrev runM (w:World) (fr:Fr) (o:Opt) (f nt:Nat) (ks:List Kp) (st st':St Dx):Option (Xt×List Prop):=cgK (Wm w fr) (TY o) (uu (Sx true w.heap.size) (TY o) 300 30).1 (uu (Sx true w.heap.size) (TY o) 300 30).2 nt f false 300 (Ze ks) st st'
def numG:List (Grp Dx)->Bool
 |[]=>true
 |.lit _::l=>numG l
 |.cls (.q _ _)::l=>numG l
 |.cls (.rq _ _)::l=>numG l
 |_=>false
theorem Jp {C:Ctx Dx}(hC:C.E=fun d w l=>DIs w d l) {w w':World}(hk:Uh true w w'):∀ {gs:List (Grp Dx)}{vs:List Value},numG gs=true->cr C w gs vs->cr C w' gs vs
 |[],_,_,h=>h
 |.lit _::_,_,hn,h=>⟨h.1,Jp hC hk hn h.2⟩
 |.cls (.q r k)::_,_,hn,h=>by
  refine⟨?_,Jp hC hk hn h.2⟩;have h1:C.E (.q r k) w _:=h.1;show C.E (.q r k) w' _;rw[hC] at h1 ⊢;cases h1 with
  |q q1 q2 q3=>exact .q q1 (isqK q2 hk) q3
 |.cls (.rq r k)::_,_,hn,h=>by
  refine⟨?_,Jp hC hk hn h.2⟩;have h1:C.E (.rq r k) w _:=h.1;show C.E (.rq r k) w' _;rw[hC] at h1 ⊢;cases h1 with
  |rq q1 q2 q3=>exact .rq q1 (rqK q2 hk) q3
 |.cls (.ls _)::_,_,hn,_=>by cases hn
theorem KL:∀ {ls ls':List Value},(jC ls:List (Pat Dx))=jC ls'->ls=ls'
 |[],[],_=>rfl
 |[],_::_,h=>by cases h
 |_::_,[],h=>by cases h
 |v::ls,v'::ls',h=>by
  injection h with h1 h2
  injection h1 with h1;injection h1 with h1
  rw[h1,KL h2]
def stM (ty z n:Nat) (g:Nat->List (Grp Dx)) (ls:List Value):St Dx:=⟨1,zC 0 (.val (.one (.fn 0))::ls.map fun v=>.val (.one (.lit v))),[(0,.gl ty z n g)],[]⟩
theorem Wg {w:World}(hG:Gr w) (hN:jd) {ex:List (Nat×Con)}(hE:Cu true w.heap.size w ex) {f:FuncId}{fn:Func}{c:Code}(hfn:Tryz.prog.funcs[f]?=some fn) (hbody:fn.body=some c) (hres:fn.results=#[]) {ty z n lo:Nat}{g g':Nat->List (Grp Dx)}{ls:List Value}(hlen:Nat.ble (ls.length+1) fn.ntmps=true) (hq:∀ j,j<n->numG (g' j)=true)
 (hwp:∀ (fr:Fr),(∀ o:Opt,o.ex=ex->uy (Wm w fr) (TY o))->∀ (Q:Exit->Act->World->Prop),(∀ (x:Exit) (st:St Dx) (a:Act) (w':World),(x=.ret\/x=.normal)->find 0 st.m=some (.gl ty z n g')->st.ms=[]->At (Wm w fr) fn.ntmps st a w'->Q x a w')->∀ a w1,At (Wm w fr) fn.ntmps (stM ty z n g ls) a w1->after Fence.wide 0 Tryz.prog [.code c] Q .normal a w1) :
 cO (W0 w) (.mem f) (.one (.cls (.ls ⟨w.heap.size,ty,z,n,g⟩))::jC ls) (.val (.one (.cls (.ls ⟨lo,ty,z,n,g'⟩)))):=by
 refine⟨enters_of hfn (hN f fn hfn) hbody,?_⟩;intro L L' d' ls' hargs hres' hun hn w1 k cp arr us rest hb hk h1 hT h2 h3 h4 h5 _ h6 h7;injection hargs with ha hb'
 injection ha with ha;injection ha with ha
 have ha:Dx.ls ⟨w.heap.size,ty,z,n,g⟩=Dx.ls L:=ha;injection ha with ha
 subst ha;obtain rfl:=KL hb';injection hres' with hr;injection hr with hr;injection hr with hr;subst hr
 have hun:some (Lt.mk lo ty z n g')=some L':=hun;injection hun with hun;subst hun
 let v0:Value:=.slice (some ⟨k,0,none⟩) n cp
 have hR:∀ o:Opt,o.ex=ex->uy (Wm w (w1,k,v0)) (TY o):=fun o ho=>run_fr (ccB (le_refl _) hG hN (by rw[ho];exact hE));refine(ciM (C:=Wm w (w1,k,v0)) (hR ⟨[],[],ex⟩ rfl) hfn hbody (le_of_ble_eq_true hlen) (L:=⟨w.heap.size,ty,z,n,g⟩) rfl hb hk h1 hT h2 h3 h4 h5 h6 (fun j hj w' hs hkp=>CU.2 (h7 j hj w' hs hkp)) (R:=MemRet (Wm w (w1,k,v0)) w1 k n z ty cp g') (fun a hA=>?_)).mono ?_
 ·exact hwp (w1,k,v0) hR _ (fun x st a w' hx hgl hms hA=>ret_mem hres hgl hms rfl hA hx) a w1 hA
 ·rintro en w' ⟨v,rfl,rfl,q1,q2,q3,arr',us',rest',q4,q5,q6,q7,q8,q9⟩;refine⟨rfl,q1,q2,q3,arr',us',rest',q4,q5,q6,q7,q8,fun j hj S hS w'' hs hkp=>?_⟩;exact CU.1 (Jp (C:=Wm w (w1,k,v0)) rfl (KT (b:=true) (C:=Wm w (w1,k,v0)) (w:=w') (w':=w') (S:=S) rfl (fun i hi=>by obtain⟨o,p1,p2⟩:=hS i hi;exact⟨(Array.getElem?_eq_some_iff.1 p1).1,o,p1,p2⟩) hkp) (hq j hj) (q9 j hj))
section
variable {w w1:World}{o:Opt}{f nt:Nat}{ks:List Kp}{st st':St Dx}{x:Xt}{ob:List Prop}{a:Act}{Q:Exit->Act->World->Prop}
theorem ux {fr:Fr}(h:runM w fr o f nt ks st st'=some (x,ob)) (hR:uy (Wm w fr) (TY o)) (hA:At (Wm w fr) nt st a w1) (hQ:∀ a' w',At (Wm w fr) nt st' a' w'->after Fence.wide 0 (Wm w fr).P (YQ ks) Q x.to a' w') (ho:cV ob:=by (repeat' (first|exact trivial|apply And.intro))<;>first|exact cK.refl _ _|exact fun _ _=>jf.refl _ _|exact jp rfl|exact jv _ _|exact ju _ _|(with_reducible assumption)|omega|with_reducible rfl|(simp only[jb];omega)|(intro j hj;exact absurd hj (not_lt_zero _))|exact Kd rfl (by omega)|exact cdW rfl (by omega)|exact EA rfl (by omega)|exact decide_eq_true rfl|exact decide_eq_true (by omega)|assumption|rfl):after Fence.wide 0 (Wm w fr).P ks Q .normal a w1:=cbt hR (.inl rfl) (fun _=>rfl) h ho hA hQ
noncomputable abbrev segM (w:World) (fr:Fr) (o:Opt) (f nt:Nat) (c:Code) (st st':St Dx):Option (Xt×List Prop):=segTo (Wm w fr) (TY o) (uu (Sx true w.heap.size) (TY o) 300 30).1 (uu (Sx true w.heap.size) (TY o) 300 30).2 nt f false 300 c st st'
theorem ccy {fr:Fr}{c:Code}(h:segM w fr o f nt c st st'=some (x,ob)) (hR:uy (Wm w fr) (TY o)) (hA:At (Wm w fr) nt st a w1) (hQ:∀ a' w',At (Wm w fr) nt st' a' w'->Q x.to a' w') (ho:cV ob:=by (repeat' (first|exact trivial|apply And.intro))<;>first|exact cK.refl _ _|exact fun _ _=>jf.refl _ _|exact jp rfl|exact jv _ _|exact ju _ _|(with_reducible assumption)|omega|with_reducible rfl|(simp only[jb];omega)|(intro j hj;exact absurd hj (not_lt_zero _))|exact Kd rfl (by omega)|exact cdW rfl (by omega)|exact EA rfl (by omega)|exact decide_eq_true rfl|exact decide_eq_true (by omega)|assumption|rfl):after Fence.wide 0 (Wm w fr).P [.code c] Q .normal a w1:=cjz hR (.inl rfl) (fun _=>rfl) h ho hA hQ
theorem Cp {bb:Bool}{lo:Nat}{w0:World}{f:Nat}{args:List (Pat Dx)}{res:cM Dx}(h:cO (Cx bb lo w0) (.mem f) args res):∀ l r ob,Cy args res l=some (r,ob)->cV ob->cO (Cx bb lo w0) (.mem f) l r:=by
 intro l r ob hl ho;unfold Cy at hl;injection hl with hl;injection hl with h1 h2;subst h1;subst h2
 rw[show l=args from ho.1];exact h
end
end Pe
namespace Pe
noncomputable def kQ157_:List Kp:=[.code (codeOf Tryz.f157)]
noncomputable def kQ157_n:List Kp:=next kQ157_
noncomputable def kQ157_nl:List Kp:=[.code (uw kQ157_n)]
noncomputable def kQ157_nln:List Kp:=next kQ157_nl
noncomputable def kQ157_nlnn:List Kp:=next kQ157_nln
noncomputable def kQ157_nlnnl:List Kp:=[.code (uw kQ157_nlnn)]
noncomputable def kLanes159_:List Kp:=[.code (codeOf Tryz.f59)]
noncomputable def kQ157_nlnnt:List Kp:=kQ157_nlnn.tail
noncomputable def kQ157_nlnnth:List Kp:=cbb 100 kQ157_nlnnt
noncomputable def kQ157_nt:List Kp:=kQ157_n.tail
abbrev fq4 (k:Nat) (xs:List Rat) (j:Nat):List (Grp Dx):=[.cls (.q (xs.getD j 0) k)]
abbrev vF (cf:Nat):Value:=.func (.func cf) #[] #[]
def swp (xs:List Rat) (j:Nat):List Rat:=(xs.set j (xs.getD (j-1) 0)).set (j-1) (xs.getD j 0)
theorem JK {xs:List Rat}{j:Nat}:(swp xs j).length=xs.length:=by simp [swp]
theorem EG {xs:List Rat}{j i:Nat}(h0:0<j) (hj:j<xs.length):(swp xs j).getD i 0=match Nat.beq i (j-1) with
 |true=>xs.getD j 0
 |false=>match Nat.beq i j with
  |true=>xs.getD (j-1) 0
  |false=>xs.getD i 0:=by
 rw[swp,List.getD_eq_getElem?_getD,List.getElem?_set,List.getElem?_set];split
 ·rename_i h;subst h;rw[beq_refl,if_pos (by simp;omega)];rfl
 ·rename_i h;rw[show Nat.beq i (j-1)=false from Bool.eq_false_iff.2 fun e=>h (eq_of_beq_eq_true e).symm];split
  ·rename_i h1;subst h1;rw[beq_refl];rfl
  ·rename_i h1;rw[show Nat.beq i j=false from Bool.eq_false_iff.2 fun e=>h1 (eq_of_beq_eq_true e).symm];show xs[i]?.getD 0=xs.getD i 0;rw[List.getD_eq_getElem?_getD]
theorem JU {C:Ctx Dx}{k:Nat}{xs:List Rat}{j:Nat}(h0:0<j) (hj:j<xs.length) (i:Nat):jf C (fq4 k (swp xs j) i) (Zq (Zq (fq4 k xs) j [.cls (.q (xs.getD (j-1) 0) k)]) (j-1) [.cls (.q (xs.getD j 0) k)] i):=by
 have:Zq (Zq (fq4 k xs) j [Grp.cls (Dx.q (xs.getD (j-1) 0) k)]) (j-1) [Grp.cls (Dx.q (xs.getD j 0) k)] i=fq4 k (swp xs j) i:=by
  show _=[Grp.cls (Dx.q ((swp xs j).getD i 0) k)];rw[EG h0 hj];unfold Zq;cases Nat.beq i (j-1)<;>cases Nat.beq i j<;>rfl
 rw[this];exact jf.refl _ _
def bub (cv:Rat->Rat->Int):Nat->List Rat->List Rat
 |0,xs=>xs
 |j+1,xs=>match decide (cv (xs.getD (j+1) 0) (xs.getD j 0)<0) with
  |true=>bub cv j (swp xs (j+1))
  |false=>xs
def srt (cv:Rat->Rat->Int) (xs:List Rat):Nat->List Rat
 |0=>xs
 |m+1=>bub cv m (srt cv xs m)
section
variable {cv:Rat->Rat->Int}
theorem cgq:∀ {j:Nat}{xs:List Rat},(bub cv j xs).length=xs.length
 |0,_=>rfl
 |j+1,xs=>by
  unfold bub;split
  ·rw[cgq,JK]
  ·rfl
theorem CQ {xs:List Rat}:∀ {m:Nat},(srt cv xs m).length=xs.length
 |0=>rfl
 |m+1=>by rw[srt,cgq,CQ]
theorem cgp {j:Nat}{xs:List Rat}(h0:0<j) (h:decide (cv (xs.getD j 0) (xs.getD (j-1) 0)<0)=true):bub cv j xs=bub cv (j-1) (swp xs j):=by
 obtain⟨m,rfl⟩:∃ m,j=m+1:=⟨j-1,by omega⟩;rw[add_sub_cancel] at h ⊢;rw[bub,h]
theorem bub_no {j:Nat}{xs:List Rat}(h:decide (cv (xs.getD j 0) (xs.getD (j-1) 0)<0)=false):bub cv j xs=xs:=by
 cases j with
 |zero=>rfl
 |succ m =>
  rw[add_sub_cancel] at h;rw[bub,h]
theorem cdt {j:Nat}{xs:List Rat}(h:j=0):bub cv j xs=xs:=by subst h;rfl
end
abbrev isO (cf k n:Nat) (xs:List Rat) (i:Nat):St Dx:=⟨1,[(0,.val (.one (.fn 0))),(1,.val (.one (.lit (ii 0)))),(2,.val (.one (.lit (ii (n:Int))))),(3,.val (.one (.lit (vF cf)))),(8,.val (.one (.lit (ii (i:Int)))))],[(0,.gl 32 4 n (fq4 k xs))],[]⟩
abbrev isJ (cf k n:Nat) (xs:List Rat) (i j:Nat):St Dx:=⟨1,[(0,.val (.one (.fn 0))),(1,.val (.one (.lit (ii 0)))),(2,.val (.one (.lit (ii (n:Int))))),(3,.val (.one (.lit (vF cf)))),(8,.val (.one (.lit (ii (i:Int))))),(9,.val (.one (.lit (ii (j:Int)))))],[(0,.gl 32 4 n (fq4 k xs))],[]⟩
def blN (i:Nat):Int:=if i<=1 then 1 else if i<=3 then 2 else if i<=7 then 3 else 4
abbrev uN (i:Nat):Pat Dx:=.one (.lit (.int .u64 (Int.ofNat i)))
theorem bl1 {w:World}:runA w ⟨[],[],[]⟩ 114 8 Tryz.f114 (stA [uN 1]) (rI (blN 1))=some (.ret,[jQ 1,ii (blN 1)=ii 1]):=by kernel_rfl
theorem bl2 {w:World}:runA w ⟨[],[],[]⟩ 114 8 Tryz.f114 (stA [uN 2]) (rI (blN 2))=some (.ret,[jQ 2,ii (blN 2)=ii 2]):=by kernel_rfl
theorem bl3 {w:World}:runA w ⟨[],[],[]⟩ 114 8 Tryz.f114 (stA [uN 3]) (rI (blN 3))=some (.ret,[jQ 2,ii (blN 3)=ii 2]):=by kernel_rfl
theorem bl4 {w:World}:runA w ⟨[],[],[]⟩ 114 8 Tryz.f114 (stA [uN 4]) (rI (blN 4))=some (.ret,[jQ 3,ii (blN 4)=ii 3]):=by kernel_rfl
theorem bl5 {w:World}:runA w ⟨[],[],[]⟩ 114 8 Tryz.f114 (stA [uN 5]) (rI (blN 5))=some (.ret,[jQ 3,ii (blN 5)=ii 3]):=by kernel_rfl
theorem bl6 {w:World}:runA w ⟨[],[],[]⟩ 114 8 Tryz.f114 (stA [uN 6]) (rI (blN 6))=some (.ret,[jQ 3,ii (blN 6)=ii 3]):=by kernel_rfl
theorem bl7 {w:World}:runA w ⟨[],[],[]⟩ 114 8 Tryz.f114 (stA [uN 7]) (rI (blN 7))=some (.ret,[jQ 3,ii (blN 7)=ii 3]):=by kernel_rfl
theorem bl8 {w:World}:runA w ⟨[],[],[]⟩ 114 8 Tryz.f114 (stA [uN 8]) (rI (blN 8))=some (.ret,[jQ 4,ii (blN 8)=ii 4]):=by kernel_rfl
theorem bl9 {w:World}:runA w ⟨[],[],[]⟩ 114 8 Tryz.f114 (stA [uN 9]) (rI (blN 9))=some (.ret,[jQ 4,ii (blN 9)=ii 4]):=by kernel_rfl
theorem bl10 {w:World}:runA w ⟨[],[],[]⟩ 114 8 Tryz.f114 (stA [uN 10]) (rI (blN 10))=some (.ret,[jQ 4,ii (blN 10)=ii 4]):=by kernel_rfl
theorem bl11 {w:World}:runA w ⟨[],[],[]⟩ 114 8 Tryz.f114 (stA [uN 11]) (rI (blN 11))=some (.ret,[jQ 4,ii (blN 11)=ii 4]):=by kernel_rfl
theorem bl12 {w:World}:runA w ⟨[],[],[]⟩ 114 8 Tryz.f114 (stA [uN 12]) (rI (blN 12))=some (.ret,[jQ 4,ii (blN 12)=ii 4]):=by kernel_rfl
theorem bl_says (hN:jd):∀ i,1<=i->i<=12->zD 114 [uN i] (fun _=>rI (blN i)):=by
 intro i h1 h2 w vs hG hp;refine yV hG hN (ex:=[]) jI (fn:=Tryz.f114) Tryz.func114 (c:=codeOf Tryz.f114) (by kernel_rfl) (args:=[uN i]) (by rfl) hp (fun hR _ hA=>?_)
 match i,h1,h2 with
 |1,_,_=>exact Er bl1 (hR _ rfl) hA
 |2,_,_=>exact Er bl2 (hR _ rfl) hA
 |3,_,_=>exact Er bl3 (hR _ rfl) hA
 |4,_,_=>exact Er bl4 (hR _ rfl) hA
 |5,_,_=>exact Er bl5 (hR _ rfl) hA
 |6,_,_=>exact Er bl6 (hR _ rfl) hA
 |7,_,_=>exact Er bl7 (hR _ rfl) hA
 |8,_,_=>exact Er bl8 (hR _ rfl) hA
 |9,_,_=>exact Er bl9 (hR _ rfl) hA
 |10,_,_=>exact Er bl10 (hR _ rfl) hA
 |11,_,_=>exact Er bl11 (hR _ rfl) hA
 |12,_,_=>exact Er bl12 (hR _ rfl) hA
 |i+13,_,h=>omega
def cgR:Con
 |[.one (.lit (.int .u64 (.ofNat i)))]=>some (vr (ii (blN i)),[1<=i,i<=12])
 |_=>none
theorem ccV {lo:Nat}{w0:World}(hN:jd) (hG:Gr w0) (hlo:lo<=w0.heap.size):∀ l r ob,cgR l=some (r,ob)->cV ob->cO (Cx true lo w0) (.call 114) l r:=by
 intro l r ob h ho;unfold cgR at h;split at h
 ·injection h with h;injection h with h1 h2;subst h1;subst h2
  exact(bl_says hN _ ho.1 ho.2.1).val hG hlo (enters_of Tryz.func114 (by kernel_rfl) rfl)
 ·cases h
abbrev sAEX:List (Nat×Con):=[]
theorem sAa {w:World}(fr:Fr) (k n:Nat) (xs:List Rat):runM w fr ⟨[],[],sAEX⟩ 157 53 kQ157_ (stM 32 4 n (fq4 k xs) [ii 0,ii (n:Int),vF 49]) (isO 49 k n xs 1)=some (.normal,[jQ (0+1),n=n,∀ (j:Nat),j<n->jf (Wm w fr) (fq4 k xs j) (fq4 k xs j),ii 0=ii 0,ii (n:Int)=ii (n:Int),vF 49=vF 49,ii (↑1:Int)=Value.int IntKind.i64 (0+1)]):=by kernel_rfl
theorem sAb {w:World}(fr:Fr) (k n:Nat) (xs:List Rat) (i:Nat):runM w fr ⟨[(157,14,true)],[],sAEX⟩ 157 53 kQ157_nl (isO 49 k n xs i) (isO 49 k n xs i)=some (.normal,[decide ((i:Int)<(n:Int))=true,n=n,∀ (j:Nat),j<n->jf (Wm w fr) (fq4 k xs j) (fq4 k xs j),ii 0=ii 0,ii (n:Int)=ii (n:Int),vF 49=vF 49,ii (i:Int)=ii (i:Int)]):=by kernel_rfl
theorem sAc {w:World}(fr:Fr) (k n:Nat) (xs:List Rat) (i:Nat):runM w fr ⟨[(157,14,false)],[],sAEX⟩ 157 53 kQ157_nl (isO 49 k n xs i) (isO 49 k n xs i)=some (.exit 0,[decide ((i:Int)<(n:Int))=false,n=n,∀ (j:Nat),j<n->jf (Wm w fr) (fq4 k xs j) (fq4 k xs j),ii 0=ii 0,ii (n:Int)=ii (n:Int),vF 49=vF 49,ii (i:Int)=ii (i:Int)]):=by kernel_rfl
theorem sAd {w:World}(fr:Fr) (k n:Nat) (xs:List Rat) (i:Nat):runM w fr ⟨[],[],sAEX⟩ 157 53 kQ157_nln (isO 49 k n xs i) (isJ 49 k n xs i i)=some (.normal,[n=n,∀ (j:Nat),j<n->jf (Wm w fr) (fq4 k xs j) (fq4 k xs j),ii 0=ii 0,ii (n:Int)=ii (n:Int),vF 49=vF 49,ii (i:Int)=ii (i:Int),ii (i:Int)=ii (i:Int)]):=by kernel_rfl
theorem sAz {w:World}(fr:Fr) (k n:Nat) (xs:List Rat) (i j:Nat):runM w fr ⟨[],[],sAEX⟩ 157 53 kQ157_nlnnth (isJ 49 k n xs i j) (isO 49 k n xs (i+1))=some (.normal,[jQ ((i:Int)+1),n=n,∀ (j:Nat),j<n->jf (Wm w fr) (fq4 k xs j) (fq4 k xs j),ii 0=ii 0,ii (n:Int)=ii (n:Int),vF 49=vF 49,ii (↑(i+1):Int)=Value.int IntKind.i64 ((i:Int)+1)]):=by kernel_rfl
noncomputable abbrev sAxTe2 (w:World) (fr:Fr) (k n:Nat) (ys:List Rat) (i j:Nat) (o:List (Nat×Nat×Bool)):=runM w fr ⟨o,[],sAEX⟩ 157 53 kQ157_nlnnl (isJ 49 k n ys i j) (isJ 49 k n ys i j)
noncomputable abbrev sAxTnal (w:World) (fr:Fr) (k n:Nat) (ys:List Rat) (i j:Nat) (o:List (Nat×Nat×Bool)):=runM w fr ⟨o,[],sAEX⟩ 157 53 kQ157_nlnnl (isJ 49 k n ys i j) (isJ 49 k n (swp ys j) i (j-1))
theorem sAx0 {w:World}(fr:Fr) (k n:Nat) (ys:List Rat) (i j:Nat):sAxTnal w fr k n ys i j [(157,20,true),(157,33,true),(157,29,true),(157,36,true),(157,41,true),(157,44,true)]=some (.normal,[decide ((j:Int)>0)=true,j<n,j<n,1<=j,j<=1000000000,j-1<n,j-1<n,k+k<=1000000,decide (cI (ys.getD j 0) (ys.getD (j-1) 0)<0)=true,1<=j,j<=1000000000,1<=j,j<=1000000000,j-1<n,j-1<n,j<n,j<n,j<n,j<n,j-1<n,j-1<n,1<=j,j<=1000000000,n=n,∀ (j_1:Nat),j_1<n->jf (Wm w fr) (fq4 k (swp ys j) j_1) (Zq (Zq (fq4 k ys) j ([].append ([Grp.cls (Dx.q (ys.getD (j-1) 0) k)].append []))) (j-1) ([].append ([Grp.cls (Dx.q (ys.getD j 0) k)].append [])) j_1),ii 0=ii 0,ii (n:Int)=ii (n:Int),vF 49=vF 49,ii (i:Int)=ii (i:Int),ii (↑(j-1):Int)=Value.int IntKind.i64 (Int.ofNat (j-1))]):=by kernel_rfl
theorem sAx1 {w:World}(fr:Fr) (k n:Nat) (ys:List Rat) (i j:Nat):sAxTe2 w fr k n ys i j [(157,20,true),(157,33,false),(157,29,true),(157,36,true),(157,41,true),(157,44,true)]=some (.exit 2,[decide ((j:Int)>0)=true,j<n,j<n,1<=j,j<=1000000000,j-1<n,j-1<n,k+k<=1000000,decide (cI (ys.getD j 0) (ys.getD (j-1) 0)<0)=false,n=n,∀ (j:Nat),j<n->jf (Wm w fr) (fq4 k ys j) (fq4 k ys j),ii 0=ii 0,ii (n:Int)=ii (n:Int),vF 49=vF 49,ii (i:Int)=ii (i:Int),ii (j:Int)=ii (j:Int)]):=by kernel_rfl
theorem sAx2 {w:World}(fr:Fr) (k n:Nat) (ys:List Rat) (i j:Nat):sAxTe2 w fr k n ys i j [(157,20,false),(157,29,true),(157,36,true),(157,41,true),(157,44,true)]=some (.exit 2,[decide ((j:Int)>0)=false,n=n,∀ (j:Nat),j<n->jf (Wm w fr) (fq4 k ys j) (fq4 k ys j),ii 0=ii 0,ii (n:Int)=ii (n:Int),vF 49=vF 49,ii (i:Int)=ii (i:Int),ii (j:Int)=ii (j:Int)]):=by kernel_rfl
theorem sA_ins (hN:jd) {w:World}(hG:Gr w) (lo k:Nat) (xs:List Rat) (hk:k<=1000) (h1:1<=xs.length) (h2:xs.length<=1000):cO (W0 w) (.mem 157) (.one (.cls (.ls ⟨w.heap.size,32,4,xs.length,fq4 k xs⟩))::jC [ii 0,ii (xs.length:Int),vF 49]) (.val (.one (.cls (.ls ⟨lo,32,4,xs.length,fq4 k (srt cI xs xs.length)⟩)))):=by
 refine Wg hG hN (ex:=sAEX) jI (fn:=Tryz.f157) Tryz.func157 (c:=codeOf Tryz.f157) (by kernel_rfl) (by kernel_rfl) (by kernel_rfl) (fun _ _=>rfl) (fun fr hR Q hQ a w1 hA=>?_);refine ux (sAa fr k xs.length xs) (hR _ rfl) hA (fun aT wT hT=>yv ?_);refine yx (fun i=>isO 49 k xs.length (srt cI xs i) i) (fun i=>1<=i/\i<=xs.length) (fun i=>xs.length-i) (L:=kQ157_n) (ks:=kQ157_nt) (id:=0) (c:=uw kQ157_n) (by kernel_rfl) 1 ⟨le_refl _,h1⟩ hT (fun i a2 w2 hi hA=>?_);obtain⟨hi1,hi2⟩:=hi;rcases eq_false_or_eq_true (decide ((i:Int)<(xs.length:Int))) with q14|q14
 ·have p14:=of_decide_eq_true q14;refine ux (sAb fr k xs.length (srt cI xs i) i) (hR _ rfl) hA (fun aT wT hT=>yv ?_);refine ux (sAd fr k xs.length (srt cI xs i) i) (hR _ rfl) hT (fun aT wT hT=>yv ?_);refine yx (fun(θ:List Rat×Nat)=>isJ 49 k xs.length θ.1 i θ.2) (fun θ=>θ.2<=i/\θ.1.length=xs.length/\bub cI θ.2 θ.1=srt cI xs (i+1)) (fun θ=>θ.2) (L:=kQ157_nlnn) (ks:=kQ157_nlnnt) (id:=2) (c:=uw kQ157_nlnn) (by kernel_rfl) (srt cI xs i,i) ⟨le_refl _,CQ,rfl⟩ hT (fun θ a3 w3 hj hA=>?_);obtain⟨ys,j⟩:=θ;obtain⟨hj1,hj2,hj3⟩:=hj;have hj1:j<=i:=hj1;have hj2:ys.length=xs.length:=hj2;have hj3:bub cI j ys=srt cI xs (i+1):=hj3;rcases eq_false_or_eq_true (decide ((j:Int)>0)) with q20|q20
  ·skip
   have p20:=of_decide_eq_true q20;rcases eq_false_or_eq_true (decide (cI (ys.getD j 0) (ys.getD (j-1) 0)<0)) with q33|q33
   ·skip
    have p33:=of_decide_eq_true q33;have e1:=cgp (cv:=cI) (xs:=ys) (show 0<j by omega) q33;refine ux (sAx0 fr k xs.length ys i j) (hR _ rfl) hA (fun aT wT hT=>?_) (by (repeat' (first|exact trivial|apply And.intro))<;>first|exact cK.refl _ _|exact fun _ _=>jf.refl _ _|exact jp rfl|exact jv _ _|exact ju _ _|(with_reducible assumption)|omega|with_reducible rfl|(simp only[jb];omega)|(intro j hj;exact absurd hj (not_lt_zero _))|exact fun i' _=>JU (by omega) (by omega) i'|rfl);exact jL (by kernel_rfl) ⟨(swp ys j,j-1),⟨by show j-1<=i;omega,by rw[← hj2];exact JK,by rw[← hj3,e1]⟩,hT,by show j-1<j;omega⟩
   ·skip
    have p33:=of_decide_eq_false q33;have e1:=bub_no (cv:=cI) (xs:=ys) q33;refine ux (sAx1 fr k xs.length ys i j) (hR _ rfl) hA (fun aT wT hT=>?_) (by (repeat' (first|exact trivial|apply And.intro))<;>first|exact cK.refl _ _|exact fun _ _=>jf.refl _ _|exact jp rfl|exact jv _ _|exact ju _ _|(with_reducible assumption)|omega|with_reducible rfl|(simp only[jb];omega)|(intro j hj;exact absurd hj (not_lt_zero _))|exact fun i' _=>JU (by omega) (by omega) i'|rfl);refine kb _ (by kernel_rfl) (ER 100 _ ?_);refine ux (sAz fr k xs.length ys i j) (hR _ rfl) hT (fun aT wT hT=>?_);rw[e1] at hj3;rw[hj3] at hT;exact jL (by kernel_rfl) ⟨i+1,⟨by omega,by omega⟩,hT,by omega⟩
  ·skip
   have p20:=of_decide_eq_false q20;have e1:=cdt (cv:=cI) (xs:=ys) (show j=0 by omega);refine ux (sAx2 fr k xs.length ys i j) (hR _ rfl) hA (fun aT wT hT=>?_) (by (repeat' (first|exact trivial|apply And.intro))<;>first|exact cK.refl _ _|exact fun _ _=>jf.refl _ _|exact jp rfl|exact jv _ _|exact ju _ _|(with_reducible assumption)|omega|with_reducible rfl|(simp only[jb];omega)|(intro j hj;exact absurd hj (not_lt_zero _))|exact fun i' _=>JU (by omega) (by omega) i'|rfl);refine kb _ (by kernel_rfl) (ER 100 _ ?_);refine ux (sAz fr k xs.length ys i j) (hR _ rfl) hT (fun aT wT hT=>?_);rw[e1] at hj3;rw[hj3] at hT;exact jL (by kernel_rfl) ⟨i+1,⟨by omega,by omega⟩,hT,by omega⟩
 ·refine ux (sAc fr k xs.length (srt cI xs i) i) (hR _ rfl) hA (fun aT wT hT=>?_);refine kb _ (by kernel_rfl) ?_;have p14:=of_decide_eq_false q14;obtain rfl:i=xs.length:=by omega
  exact jL (by kernel_rfl) (hQ .normal _ _ _ (.inr rfl) rfl rfl hT)
abbrev sAPX (lo k:Nat) (xs:List Rat):List (Nat×Con):=[(1000000+157,Cy (.one (.cls (.ls ⟨lo,32,4,xs.length,fq4 k xs⟩))::jC [ii 0,ii (xs.length:Int),vF 49]) (.val (.one (.cls (.ls ⟨lo,32,4,xs.length,fq4 k (srt cI xs xs.length)⟩)))))]
abbrev sASX (lo k:Nat) (xs:List Rat):List (Nat×Con):=[(1000000+113,Cy (.one (.cls (.ls ⟨lo,32,4,xs.length,fq4 k xs⟩))::jC [ii 0,ii (xs.length:Int),ii (blN xs.length),vF 49]) (.val (.one (.cls (.ls ⟨lo,32,4,xs.length,fq4 k (srt cI xs xs.length)⟩))))),(114,cgR)]
abbrev sAE (k:Nat) (xs:List Rat):St Dx:=⟨1,[(0,.val (.one (.fn 0)))],[(0,.gl 32 4 xs.length (fq4 k (srt cI xs xs.length)))],[]⟩
theorem sAp {w:World}(fr:Fr) (k:Nat) (xs:List Rat) (l:Int):segM w fr ⟨[(113,25,true)],[],sAPX w.heap.size k xs⟩ 113 148 (codeOf Tryz.f113) (stM 32 4 xs.length (fq4 k xs) [ii 0,ii (xs.length:Int),ii l,vF 49]) (sAE k xs)=some (.ret,[jQ ((xs.length:Int)-0),decide ((xs.length:Int)-0<=12)=true,0<xs.length,xs.length=xs.length,Pat.one (Grp.cls (Dx.ls { lo:=w.1.size,ty:=32,z:=4,n:=xs.length,g:=fq4 k xs }))::jC [ii 0,ii (xs.length:Int),vF 49]=Pat.one (Grp.cls (Dx.ls { lo:=w.1.size,ty:=32,z:=4,n:=xs.length,g:=fq4 k xs }))::jC [ii 0,ii (xs.length:Int),vF 49],xs.length=xs.length,∀ (j:Nat),j<xs.length->jf (Wm w fr) (fq4 k (srt cI xs xs.length) j) (fq4 k (srt cI xs xs.length) j)]):=by kernel_rfl
theorem sAs {w:World}(fr:Fr) (k:Nat) (xs:List Rat):segM w fr ⟨[],[],sASX w.heap.size k xs⟩ 58 14 (codeOf Tryz.f58) (stM 32 4 xs.length (fq4 k xs) [vF 49]) (sAE k xs)=some (.normal,[xs.length<=4000000000,1<=xs.length,xs.length<=12,0<xs.length,xs.length=xs.length,Pat.one (Grp.cls (Dx.ls { lo:=w.1.size,ty:=32,z:=4,n:=xs.length,g:=fq4 k xs }))::jC [Value.int IntKind.i64 0,goInt (xs.length:Int),ii (blN xs.length),vF 49]=Pat.one (Grp.cls (Dx.ls { lo:=w.1.size,ty:=32,z:=4,n:=xs.length,g:=fq4 k xs }))::jC [ii 0,ii (xs.length:Int),ii (blN xs.length),vF 49],xs.length=xs.length,∀ (j:Nat),j<xs.length->jf (Wm w fr) (fq4 k (srt cI xs xs.length) j) (fq4 k (srt cI xs xs.length) j)]):=by kernel_rfl
theorem sA_pdq (hN:jd) {w:World}(hG:Gr w) (lo k:Nat) (xs:List Rat) (l:Int) (hk:k<=1000) (h1:1<=xs.length) (h2:xs.length<=12):cO (W0 w) (.mem 113) (.one (.cls (.ls ⟨w.heap.size,32,4,xs.length,fq4 k xs⟩))::jC [ii 0,ii (xs.length:Int),ii l,vF 49]) (.val (.one (.cls (.ls ⟨lo,32,4,xs.length,fq4 k (srt cI xs xs.length)⟩)))):=by
 refine Wg hG hN (ex:=sAPX w.heap.size k xs) (GP (Cp (sA_ins hN hG _ k xs hk h1 (by omega))) jI) (fn:=Tryz.f113) Tryz.func113 (c:=codeOf Tryz.f113) (by kernel_rfl) (by kernel_rfl) (by kernel_rfl) (fun _ _=>rfl) (fun fr hR Q hQ a w1 hA=>?_);exact ccy (sAp fr k xs l) (hR _ rfl) hA (fun aT wT hT=>hQ .ret _ _ _ (.inl rfl) rfl rfl hT)
theorem sA_sort (hN:jd) {w:World}(hG:Gr w) (lo k:Nat) (xs:List Rat) (hk:k<=1000) (h1:1<=xs.length) (h2:xs.length<=12):cO (W0 w) (.mem 58) (.one (.cls (.ls ⟨w.heap.size,32,4,xs.length,fq4 k xs⟩))::jC [vF 49]) (.val (.one (.cls (.ls ⟨lo,32,4,xs.length,fq4 k (srt cI xs xs.length)⟩)))):=by
 refine Wg hG hN (ex:=sASX w.heap.size k xs) (GP (Cp (sA_pdq hN hG _ k xs _ hk h1 h2)) (jk (ccV hN hG (le_refl _)) jI)) (fn:=Tryz.f58) Tryz.func58 (c:=codeOf Tryz.f58) (by kernel_rfl) (by kernel_rfl) (by kernel_rfl) (fun _ _=>rfl) (fun fr hR Q hQ a w1 hA=>?_);exact ccy (sAs fr k xs) (hR _ rfl) hA (fun aT wT hT=>hQ .normal _ _ _ (.inr rfl) rfl rfl hT)
def uS (r s:Rat):Int:=cI s r
def cfO:Con
 |[.agg [.cls (.q r j)],.agg [.cls (.q s k)]]=>some (vr (.int .i64 (uS r s)),[j+k<=10000])
 |_=>none
noncomputable abbrev revR (w:World) (r s:Rat) (j k:Nat)  (o:List (Nat×Nat×Bool)):=runR w ⟨o,[],[]⟩ 59 8 Tryz.f59 kLanes159_ (stA [pQ r j,pQ s k]) (rI (uS r s))
theorem rev0 {w:World}(r s:Rat) (j k:Nat):revR w r s j k []=some (.ret,[k+j<=1000000,Value.int IntKind.i64 (uS r s)=Value.int IntKind.i64 (cI s r)]):=by kernel_rfl
theorem rev_ok (hN:jd) (r s:Rat) (j k:Nat) (hj:j+k<=10000):zD 59 [pQ r j,pQ s k] (fun _=>rI (uS r s)):=by
 intro w vs hG hp;refine yV hG hN (ex:=[]) jI (fn:=Tryz.f59) Tryz.func59 (c:=codeOf Tryz.f59) (by kernel_rfl) (args:=[pQ r j,pQ s k]) (by kernel_rfl) hp (fun hR _ hA=>?_);refine jK (rev0 r s j k) (hR _ rfl) hA
theorem ciI {lo:Nat}{w0:World}(hN:jd) (hG:Gr w0) (hlo:lo<=w0.heap.size):∀ l r ob,cfO l=some (r,ob)->cV ob->cO (Cx true lo w0) (.call 59) l r:=by
 intro l r ob h ho;unfold cfO at h;split at h
 ·injection h with h;injection h with h1 h2;subst h1;subst h2
  exact(rev_ok hN _ _ _ _ ho.1).val hG hlo (enters_of Tryz.func59 (by kernel_rfl) rfl)
 ·cases h
abbrev sBEX:List (Nat×Con):=[(59,cfO)]
theorem sBa {w:World}(fr:Fr) (k n:Nat) (xs:List Rat):runM w fr ⟨[],[],sBEX⟩ 157 53 kQ157_ (stM 32 4 n (fq4 k xs) [ii 0,ii (n:Int),vF 59]) (isO 59 k n xs 1)=some (.normal,[jQ (0+1),n=n,∀ (j:Nat),j<n->jf (Wm w fr) (fq4 k xs j) (fq4 k xs j),ii 0=ii 0,ii (n:Int)=ii (n:Int),vF 59=vF 59,ii (↑1:Int)=Value.int IntKind.i64 (0+1)]):=by kernel_rfl
theorem sBb {w:World}(fr:Fr) (k n:Nat) (xs:List Rat) (i:Nat):runM w fr ⟨[(157,14,true)],[],sBEX⟩ 157 53 kQ157_nl (isO 59 k n xs i) (isO 59 k n xs i)=some (.normal,[decide ((i:Int)<(n:Int))=true,n=n,∀ (j:Nat),j<n->jf (Wm w fr) (fq4 k xs j) (fq4 k xs j),ii 0=ii 0,ii (n:Int)=ii (n:Int),vF 59=vF 59,ii (i:Int)=ii (i:Int)]):=by kernel_rfl
theorem sBc {w:World}(fr:Fr) (k n:Nat) (xs:List Rat) (i:Nat):runM w fr ⟨[(157,14,false)],[],sBEX⟩ 157 53 kQ157_nl (isO 59 k n xs i) (isO 59 k n xs i)=some (.exit 0,[decide ((i:Int)<(n:Int))=false,n=n,∀ (j:Nat),j<n->jf (Wm w fr) (fq4 k xs j) (fq4 k xs j),ii 0=ii 0,ii (n:Int)=ii (n:Int),vF 59=vF 59,ii (i:Int)=ii (i:Int)]):=by kernel_rfl
theorem sBd {w:World}(fr:Fr) (k n:Nat) (xs:List Rat) (i:Nat):runM w fr ⟨[],[],sBEX⟩ 157 53 kQ157_nln (isO 59 k n xs i) (isJ 59 k n xs i i)=some (.normal,[n=n,∀ (j:Nat),j<n->jf (Wm w fr) (fq4 k xs j) (fq4 k xs j),ii 0=ii 0,ii (n:Int)=ii (n:Int),vF 59=vF 59,ii (i:Int)=ii (i:Int),ii (i:Int)=ii (i:Int)]):=by kernel_rfl
theorem sBz {w:World}(fr:Fr) (k n:Nat) (xs:List Rat) (i j:Nat):runM w fr ⟨[],[],sBEX⟩ 157 53 kQ157_nlnnth (isJ 59 k n xs i j) (isO 59 k n xs (i+1))=some (.normal,[jQ ((i:Int)+1),n=n,∀ (j:Nat),j<n->jf (Wm w fr) (fq4 k xs j) (fq4 k xs j),ii 0=ii 0,ii (n:Int)=ii (n:Int),vF 59=vF 59,ii (↑(i+1):Int)=Value.int IntKind.i64 ((i:Int)+1)]):=by kernel_rfl
noncomputable abbrev sBxTe2 (w:World) (fr:Fr) (k n:Nat) (ys:List Rat) (i j:Nat) (o:List (Nat×Nat×Bool)):=runM w fr ⟨o,[],sBEX⟩ 157 53 kQ157_nlnnl (isJ 59 k n ys i j) (isJ 59 k n ys i j)
noncomputable abbrev sBxTnal (w:World) (fr:Fr) (k n:Nat) (ys:List Rat) (i j:Nat) (o:List (Nat×Nat×Bool)):=runM w fr ⟨o,[],sBEX⟩ 157 53 kQ157_nlnnl (isJ 59 k n ys i j) (isJ 59 k n (swp ys j) i (j-1))
theorem sBx0 {w:World}(fr:Fr) (k n:Nat) (ys:List Rat) (i j:Nat):sBxTnal w fr k n ys i j [(157,20,true),(157,33,true),(157,29,true),(157,36,true),(157,41,true),(157,44,true)]=some (.normal,[decide ((j:Int)>0)=true,j<n,j<n,1<=j,j<=1000000000,j-1<n,j-1<n,k+k<=10000,decide (uS (ys.getD j 0) (ys.getD (j-1) 0)<0)=true,1<=j,j<=1000000000,1<=j,j<=1000000000,j-1<n,j-1<n,j<n,j<n,j<n,j<n,j-1<n,j-1<n,1<=j,j<=1000000000,n=n,∀ (j_1:Nat),j_1<n->jf (Wm w fr) (fq4 k (swp ys j) j_1) (Zq (Zq (fq4 k ys) j ([].append ([Grp.cls (Dx.q (ys.getD (j-1) 0) k)].append []))) (j-1) ([].append ([Grp.cls (Dx.q (ys.getD j 0) k)].append [])) j_1),ii 0=ii 0,ii (n:Int)=ii (n:Int),vF 59=vF 59,ii (i:Int)=ii (i:Int),ii (↑(j-1):Int)=Value.int IntKind.i64 (Int.ofNat (j-1))]):=by kernel_rfl
theorem sBx1 {w:World}(fr:Fr) (k n:Nat) (ys:List Rat) (i j:Nat):sBxTe2 w fr k n ys i j [(157,20,true),(157,33,false),(157,29,true),(157,36,true),(157,41,true),(157,44,true)]=some (.exit 2,[decide ((j:Int)>0)=true,j<n,j<n,1<=j,j<=1000000000,j-1<n,j-1<n,k+k<=10000,decide (uS (ys.getD j 0) (ys.getD (j-1) 0)<0)=false,n=n,∀ (j:Nat),j<n->jf (Wm w fr) (fq4 k ys j) (fq4 k ys j),ii 0=ii 0,ii (n:Int)=ii (n:Int),vF 59=vF 59,ii (i:Int)=ii (i:Int),ii (j:Int)=ii (j:Int)]):=by kernel_rfl
theorem sBx2 {w:World}(fr:Fr) (k n:Nat) (ys:List Rat) (i j:Nat):sBxTe2 w fr k n ys i j [(157,20,false),(157,29,true),(157,36,true),(157,41,true),(157,44,true)]=some (.exit 2,[decide ((j:Int)>0)=false,n=n,∀ (j:Nat),j<n->jf (Wm w fr) (fq4 k ys j) (fq4 k ys j),ii 0=ii 0,ii (n:Int)=ii (n:Int),vF 59=vF 59,ii (i:Int)=ii (i:Int),ii (j:Int)=ii (j:Int)]):=by kernel_rfl
theorem sB_ins (hN:jd) {w:World}(hG:Gr w) (lo k:Nat) (xs:List Rat) (hk:k<=1000) (h1:1<=xs.length) (h2:xs.length<=1000):cO (W0 w) (.mem 157) (.one (.cls (.ls ⟨w.heap.size,32,4,xs.length,fq4 k xs⟩))::jC [ii 0,ii (xs.length:Int),vF 59]) (.val (.one (.cls (.ls ⟨lo,32,4,xs.length,fq4 k (srt uS xs xs.length)⟩)))):=by
 refine Wg hG hN (ex:=sBEX) (jk (ciI hN hG (le_refl _)) jI) (fn:=Tryz.f157) Tryz.func157 (c:=codeOf Tryz.f157) (by kernel_rfl) (by kernel_rfl) (by kernel_rfl) (fun _ _=>rfl) (fun fr hR Q hQ a w1 hA=>?_);refine ux (sBa fr k xs.length xs) (hR _ rfl) hA (fun aT wT hT=>yv ?_);refine yx (fun i=>isO 59 k xs.length (srt uS xs i) i) (fun i=>1<=i/\i<=xs.length) (fun i=>xs.length-i) (L:=kQ157_n) (ks:=kQ157_nt) (id:=0) (c:=uw kQ157_n) (by kernel_rfl) 1 ⟨le_refl _,h1⟩ hT (fun i a2 w2 hi hA=>?_);obtain⟨hi1,hi2⟩:=hi;rcases eq_false_or_eq_true (decide ((i:Int)<(xs.length:Int))) with q14|q14
 ·have p14:=of_decide_eq_true q14;refine ux (sBb fr k xs.length (srt uS xs i) i) (hR _ rfl) hA (fun aT wT hT=>yv ?_);refine ux (sBd fr k xs.length (srt uS xs i) i) (hR _ rfl) hT (fun aT wT hT=>yv ?_);refine yx (fun(θ:List Rat×Nat)=>isJ 59 k xs.length θ.1 i θ.2) (fun θ=>θ.2<=i/\θ.1.length=xs.length/\bub uS θ.2 θ.1=srt uS xs (i+1)) (fun θ=>θ.2) (L:=kQ157_nlnn) (ks:=kQ157_nlnnt) (id:=2) (c:=uw kQ157_nlnn) (by kernel_rfl) (srt uS xs i,i) ⟨le_refl _,CQ,rfl⟩ hT (fun θ a3 w3 hj hA=>?_);obtain⟨ys,j⟩:=θ;obtain⟨hj1,hj2,hj3⟩:=hj;have hj1:j<=i:=hj1;have hj2:ys.length=xs.length:=hj2;have hj3:bub uS j ys=srt uS xs (i+1):=hj3;rcases eq_false_or_eq_true (decide ((j:Int)>0)) with q20|q20
  ·skip
   have p20:=of_decide_eq_true q20;rcases eq_false_or_eq_true (decide (uS (ys.getD j 0) (ys.getD (j-1) 0)<0)) with q33|q33
   ·skip
    have p33:=of_decide_eq_true q33;have e1:=cgp (cv:=uS) (xs:=ys) (show 0<j by omega) q33;refine ux (sBx0 fr k xs.length ys i j) (hR _ rfl) hA (fun aT wT hT=>?_) (by (repeat' (first|exact trivial|apply And.intro))<;>first|exact cK.refl _ _|exact fun _ _=>jf.refl _ _|exact jp rfl|exact jv _ _|exact ju _ _|(with_reducible assumption)|omega|with_reducible rfl|(simp only[jb];omega)|(intro j hj;exact absurd hj (not_lt_zero _))|exact fun i' _=>JU (by omega) (by omega) i'|rfl);exact jL (by kernel_rfl) ⟨(swp ys j,j-1),⟨by show j-1<=i;omega,by rw[← hj2];exact JK,by rw[← hj3,e1]⟩,hT,by show j-1<j;omega⟩
   ·skip
    have p33:=of_decide_eq_false q33;have e1:=bub_no (cv:=uS) (xs:=ys) q33;refine ux (sBx1 fr k xs.length ys i j) (hR _ rfl) hA (fun aT wT hT=>?_) (by (repeat' (first|exact trivial|apply And.intro))<;>first|exact cK.refl _ _|exact fun _ _=>jf.refl _ _|exact jp rfl|exact jv _ _|exact ju _ _|(with_reducible assumption)|omega|with_reducible rfl|(simp only[jb];omega)|(intro j hj;exact absurd hj (not_lt_zero _))|exact fun i' _=>JU (by omega) (by omega) i'|rfl);refine kb _ (by kernel_rfl) (ER 100 _ ?_);refine ux (sBz fr k xs.length ys i j) (hR _ rfl) hT (fun aT wT hT=>?_);rw[e1] at hj3;rw[hj3] at hT;exact jL (by kernel_rfl) ⟨i+1,⟨by omega,by omega⟩,hT,by omega⟩
  ·skip
   have p20:=of_decide_eq_false q20;have e1:=cdt (cv:=uS) (xs:=ys) (show j=0 by omega);refine ux (sBx2 fr k xs.length ys i j) (hR _ rfl) hA (fun aT wT hT=>?_) (by (repeat' (first|exact trivial|apply And.intro))<;>first|exact cK.refl _ _|exact fun _ _=>jf.refl _ _|exact jp rfl|exact jv _ _|exact ju _ _|(with_reducible assumption)|omega|with_reducible rfl|(simp only[jb];omega)|(intro j hj;exact absurd hj (not_lt_zero _))|exact fun i' _=>JU (by omega) (by omega) i'|rfl);refine kb _ (by kernel_rfl) (ER 100 _ ?_);refine ux (sBz fr k xs.length ys i j) (hR _ rfl) hT (fun aT wT hT=>?_);rw[e1] at hj3;rw[hj3] at hT;exact jL (by kernel_rfl) ⟨i+1,⟨by omega,by omega⟩,hT,by omega⟩
 ·refine ux (sBc fr k xs.length (srt uS xs i) i) (hR _ rfl) hA (fun aT wT hT=>?_);refine kb _ (by kernel_rfl) ?_;have p14:=of_decide_eq_false q14;obtain rfl:i=xs.length:=by omega
  exact jL (by kernel_rfl) (hQ .normal _ _ _ (.inr rfl) rfl rfl hT)
abbrev sBPX (lo k:Nat) (xs:List Rat):List (Nat×Con):=[(1000000+157,Cy (.one (.cls (.ls ⟨lo,32,4,xs.length,fq4 k xs⟩))::jC [ii 0,ii (xs.length:Int),vF 59]) (.val (.one (.cls (.ls ⟨lo,32,4,xs.length,fq4 k (srt uS xs xs.length)⟩)))))]
abbrev sBSX (lo k:Nat) (xs:List Rat):List (Nat×Con):=[(1000000+113,Cy (.one (.cls (.ls ⟨lo,32,4,xs.length,fq4 k xs⟩))::jC [ii 0,ii (xs.length:Int),ii (blN xs.length),vF 59]) (.val (.one (.cls (.ls ⟨lo,32,4,xs.length,fq4 k (srt uS xs xs.length)⟩))))),(114,cgR)]
abbrev sBE (k:Nat) (xs:List Rat):St Dx:=⟨1,[(0,.val (.one (.fn 0)))],[(0,.gl 32 4 xs.length (fq4 k (srt uS xs xs.length)))],[]⟩
theorem sBp {w:World}(fr:Fr) (k:Nat) (xs:List Rat) (l:Int):segM w fr ⟨[(113,25,true)],[],sBPX w.heap.size k xs⟩ 113 148 (codeOf Tryz.f113) (stM 32 4 xs.length (fq4 k xs) [ii 0,ii (xs.length:Int),ii l,vF 59]) (sBE k xs)=some (.ret,[jQ ((xs.length:Int)-0),decide ((xs.length:Int)-0<=12)=true,0<xs.length,xs.length=xs.length,Pat.one (Grp.cls (Dx.ls { lo:=w.1.size,ty:=32,z:=4,n:=xs.length,g:=fq4 k xs }))::jC [ii 0,ii (xs.length:Int),vF 59]=Pat.one (Grp.cls (Dx.ls { lo:=w.1.size,ty:=32,z:=4,n:=xs.length,g:=fq4 k xs }))::jC [ii 0,ii (xs.length:Int),vF 59],xs.length=xs.length,∀ (j:Nat),j<xs.length->jf (Wm w fr) (fq4 k (srt uS xs xs.length) j) (fq4 k (srt uS xs xs.length) j)]):=by kernel_rfl
theorem sBs {w:World}(fr:Fr) (k:Nat) (xs:List Rat):segM w fr ⟨[],[],sBSX w.heap.size k xs⟩ 58 14 (codeOf Tryz.f58) (stM 32 4 xs.length (fq4 k xs) [vF 59]) (sBE k xs)=some (.normal,[xs.length<=4000000000,1<=xs.length,xs.length<=12,0<xs.length,xs.length=xs.length,Pat.one (Grp.cls (Dx.ls { lo:=w.1.size,ty:=32,z:=4,n:=xs.length,g:=fq4 k xs }))::jC [Value.int IntKind.i64 0,goInt (xs.length:Int),ii (blN xs.length),vF 59]=Pat.one (Grp.cls (Dx.ls { lo:=w.1.size,ty:=32,z:=4,n:=xs.length,g:=fq4 k xs }))::jC [ii 0,ii (xs.length:Int),ii (blN xs.length),vF 59],xs.length=xs.length,∀ (j:Nat),j<xs.length->jf (Wm w fr) (fq4 k (srt uS xs xs.length) j) (fq4 k (srt uS xs xs.length) j)]):=by kernel_rfl
theorem sB_pdq (hN:jd) {w:World}(hG:Gr w) (lo k:Nat) (xs:List Rat) (l:Int) (hk:k<=1000) (h1:1<=xs.length) (h2:xs.length<=12):cO (W0 w) (.mem 113) (.one (.cls (.ls ⟨w.heap.size,32,4,xs.length,fq4 k xs⟩))::jC [ii 0,ii (xs.length:Int),ii l,vF 59]) (.val (.one (.cls (.ls ⟨lo,32,4,xs.length,fq4 k (srt uS xs xs.length)⟩)))):=by
 refine Wg hG hN (ex:=sBPX w.heap.size k xs) (GP (Cp (sB_ins hN hG _ k xs hk h1 (by omega))) jI) (fn:=Tryz.f113) Tryz.func113 (c:=codeOf Tryz.f113) (by kernel_rfl) (by kernel_rfl) (by kernel_rfl) (fun _ _=>rfl) (fun fr hR Q hQ a w1 hA=>?_);exact ccy (sBp fr k xs l) (hR _ rfl) hA (fun aT wT hT=>hQ .ret _ _ _ (.inl rfl) rfl rfl hT)
theorem sB_sort (hN:jd) {w:World}(hG:Gr w) (lo k:Nat) (xs:List Rat) (hk:k<=1000) (h1:1<=xs.length) (h2:xs.length<=12):cO (W0 w) (.mem 58) (.one (.cls (.ls ⟨w.heap.size,32,4,xs.length,fq4 k xs⟩))::jC [vF 59]) (.val (.one (.cls (.ls ⟨lo,32,4,xs.length,fq4 k (srt uS xs xs.length)⟩)))):=by
 refine Wg hG hN (ex:=sBSX w.heap.size k xs) (GP (Cp (sB_pdq hN hG _ k xs _ hk h1 h2)) (jk (ccV hN hG (le_refl _)) jI)) (fn:=Tryz.f58) Tryz.func58 (c:=codeOf Tryz.f58) (by kernel_rfl) (by kernel_rfl) (by kernel_rfl) (fun _ _=>rfl) (fun fr hR Q hQ a w1 hA=>?_);exact ccy (sBs fr k xs) (hR _ rfl) hA (fun aT wT hT=>hQ .normal _ _ _ (.inr rfl) rfl rfl hT)
end Pe
end Go.Proofs.YtobfdjojhfpakaaGreatDoor
