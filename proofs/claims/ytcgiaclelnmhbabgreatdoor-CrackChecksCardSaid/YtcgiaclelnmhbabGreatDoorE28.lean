/- Part 28. -/
import Derived.Test.YtcgiaclelnmhbabGreatDoorE27
set_option linter.all false
open Go.IntKind (wrap_i64)
noncomputable section

namespace Go.Proofs.YtcgiaclelnmhbabGreatDoor
open Go Go.RowKit Go.Proofs
namespace Pe
variable {D:Type}
inductive Kp where
 |code (c:Code)
 |endB (id:Nat)
section
variable (F:Fence) (m:Nat) (P:Program)
def after:List Kp->(Exit->Act->World->Prop)->Exit->Act->World->Prop
 |[],Q=>Q
 |.code c::ks,Q=>Exit.then (fun a w=>c.wpIn F m P (after ks Q) a w) (after ks Q)
 |.endB id::ks,Q=>Exit.inBlock id (after ks Q)
end
def zx:Code->Bool
 |.loop _=>true
 |.seq x y=>match zx x with
  |true=>true
  |false=>zx y
 |.block _ c=>zx c
 |.cond _ c d=>match zx c with
  |true=>true
  |false=>zx d
 |_=>false
def isLoop:Code->Bool
 |.loop _=>true
 |_=>false
def kg:Nat->List Kp->List Code×List Kp
 |n+1,.code (.seq x y)::ks=>kg n (.code x::.code y::ks)
 |n+1,.code c::ks=>match zx c with
  |true=>([],.code c::ks)
  |false=>match kg n ks with
   |(l,r)=>(c::l,r)
 |_,ks=>([],ks)
def YT (ks:List Kp):List Code:=(kg 1000 ks).1
def YH (ks:List Kp):List Kp:=(kg 1000 ks).2
def EQ:Nat->List Kp->List Kp
 |n+1,.endB _::ks=>EQ n ks
 |n+1,.code (.block id c)::ks=>match isLoop c with
  |true=>.code (.block id c)::ks
  |false=>match zx c with
   |true=>EQ n (.code c::.endB id::ks)
   |false=>.code (.block id c)::ks
 |_,ks=>ks
def next (ks:List Kp):List Kp:=EQ 100 (YH ks)
def jq:List Kp->Code
 |.code (.block _ (.loop c))::_=>c
 |_=>.skip
def popK (j:Nat):List Kp->List Kp
 |.endB id::ks=>match Nat.beq j id with
  |true=>ks
  |false=>popK j ks
 |_::ks=>popK j ks
 |[]=>[]
def YU (j:Nat):List Kp->Bool
 |.endB id::ks=>match Nat.beq j id with
  |true=>true
  |false=>YU j ks
 |_::ks=>YU j ks
 |[]=>false
def zh (S:Stat D) (TT:FuncId->Tab D) (CF YF:cz D) (nt:Nat) (base:ct D) (fid:FuncId) (inR:Bool) (n:Nat):List Code->St D->Ran D
 |[],st=>some (.normal,st,[])
 |c::l,st=>match Eh S TT CF YF nt base fid inR n c st with
  |some (.normal,st',ob)=>match zh S TT CF YF nt base fid inR n l st' with
   |some (x,st2,ob2)=>some (x,st2,ob++ob2)
   |none=>none
  |r=>r
def cfB (C:Ctx D) (TT:FuncId->Tab D) (CF YF:cz D) (nt:Nat) (fid:FuncId) (inR:Bool) (n:Nat) (l:List Code) (st st':St D):Option (Xt×List Prop) :=
 match zh C.toStat TT CF YF nt (fun b=>find b st.m) fid inR n l ⟨st.nb,st.sl,[],st.ms⟩ with
 |some (x,s1,ob)=>match fitTo C (st.join s1) st' with
  |some ob2=>some (x,ob++ob2)
  |none=>none
 |none=>none
section
variable {F:Fence}{m:Nat}{C:Ctx D}{TT:FuncId->Tab D}{CF YF:cz D}{nt:Nat}{fid:FuncId}{inR:Bool}{Q:Exit->Act->World->Prop}{a:Act}{w:World}{st st':St D}
theorem Ut:∀ (ks:List Kp) {a:Act}{w:World},Q .ret a w->after F m C.P ks Q .ret a w
 |[],_,_,h=>h
 |.code _::ks,_,_,h=>Ut ks h
 |.endB _::ks,_,_,h=>Ut ks h
theorem jp {j:Nat}:∀ (ks:List Kp) {a:Act}{w:World},YU j ks=false->Q (.exit j) a w->after F m C.P ks Q (.exit j) a w
 |[],_,_,_,hq=>hq
 |.code _::ks,_,_,h,hq=>jp ks (by simpa [YU] using h) hq
 |.endB id::ks,_,_,h,hq=>by
  simp only[YU] at h;simp only[after,Exit.inBlock];split at h
  ·cases h
  ·rename_i hj;rw[cf (fun e=>by subst e;simp at hj)];exact jp ks h hq
theorem ccX (hW:Wd F) (hR:inR=false->F=Fence.wide) (hC:C.Ok) (hT:∀ f,(TT f).Ok C) (hF:CF.Ok C) (hFm:CF.Mono) (hY:uy C YF) (hYm:YF.Mono) {e0:Env}{w0:World}{n0:Nat}{base:ct D}(hb:cA C e0 w0 base) {B:Nat}(hfree:jC n0 B e0) {n:Nat} :
 ∀ (k:Nat) (ks:List Kp) (st:St D) (x:Xt) (st':St D) (ob:List Prop),zh C.toStat TT CF YF nt base fid inR n (kg k ks).1 st=some (x,st',ob)->cX ob->st'.nb<=B->
 ∀ a w,Sat C nt e0 w0 n0 st a w->(∀ a' w',Sat C nt e0 w0 n0 st' a' w'->after F m C.P (kg k ks).2 Q x.to a' w')->after F m C.P ks Q .normal a w:=by
 have stop:∀ (ks:List Kp) (st:St D) (x:Xt) (st':St D) (ob:List Prop),zh C.toStat TT CF YF nt base fid inR n [] st=some (x,st',ob)->∀ a w,Sat C nt e0 w0 n0 st a w->(∀ a' w',Sat C nt e0 w0 n0 st' a' w'->after F m C.P ks Q x.to a' w')->after F m C.P ks Q .normal a w:=by
  intro ks st x st' ob h a w hs hQ;simp only[zh,kC,co] at h;obtain⟨rfl,rfl,rfl⟩:=h;exact hQ a w hs
 have one:∀ (k:Nat) (c:Code) (ks:List Kp) (ih:∀ (st:St D) (x:Xt) (st':St D) (ob:List Prop),zh C.toStat TT CF YF nt base fid inR n (kg k ks).1 st=some (x,st',ob)->cX ob->st'.nb<=B->
  ∀ a w,Sat C nt e0 w0 n0 st a w->(∀ a' w',Sat C nt e0 w0 n0 st' a' w'->after F m C.P (kg k ks).2 Q x.to a' w')->after F m C.P ks Q .normal a w) (out:∀ (x:Xt) a w,x≠.normal->after F m C.P (kg k ks).2 Q x.to a w->after F m C.P ks Q x.to a w)
  (hle:∀ st x st' ob,zh C.toStat TT CF YF nt base fid inR n (kg k ks).1 st=some (x,st',ob)->st.nb<=st'.nb)
  (st:St D) (x:Xt) (st':St D) (ob:List Prop),zh C.toStat TT CF YF nt base fid inR n (c::(kg k ks).1) st=some (x,st',ob)->cX ob->st'.nb<=B->
  ∀ a w,Sat C nt e0 w0 n0 st a w->(∀ a' w',Sat C nt e0 w0 n0 st' a' w'->after F m C.P (kg k ks).2 Q x.to a' w')->c.wpIn F m C.P (after F m C.P ks Q) a w:=by
  intro k c ks ih out hle st x st' ob h ho hB a w hs hQ;simp only[zh] at h;split at h
  ·rename_i st1 ob1 h1;split at h
   ·rename_i x2 st2 ob2 h2;injection h with h;simp only[co] at h
    obtain⟨rfl,rfl,rfl⟩:=h;obtain⟨o1,o2⟩:=ho.append;refine uS (ua hW hR hC hT hF hFm hY hYm hb hfree n c st _ st1 ob1 h1 o1 (cB (hle _ _ _ _ h2) hB) a w hs) ?_;rintro e a' w' ⟨rfl,hs'⟩;exact ih st1 x2 st2 ob2 h2 o2 hB a' w' hs' hQ
   ·cases h
  ·rename_i hne;refine uS (ua hW hR hC hT hF hFm hY hYm hb hfree n c st _ _ _ h ho hB a w hs) ?_;rintro e a' w' ⟨rfl,hs'⟩;exact out x a' w' (fun hx=>by subst hx;exact hne _ _ h) (hQ a' w' hs')
 have outs:∀ (k:Nat) (ks:List Kp) (x:Xt) a w,x≠.normal->after F m C.P (kg k ks).2 Q x.to a w->after F m C.P ks Q x.to a w:=by
  intro k
  induction k with
  |zero=>intro ks x a w _ h;cases ks<;>exact h
  |succ k ih =>
   intro ks x a w hx h
   match ks with
   |[]=>exact h
   |.endB id::ks=>exact h
   |.code c::ks =>
    have pass:∀ (c:Code) (ks:List Kp),after F m C.P ks Q x.to a w->after F m C.P (.code c::ks) Q x.to a w:=by
     intro c ks h;cases x with
     |normal=>exact absurd rfl hx
     |exit j=>exact h
     |ret=>exact h
    have gen:∀ c:Code,(∀ x y,c≠.seq x y)->after F m C.P (kg (k+1) (.code c::ks)).2 Q x.to a w->after F m C.P (.code c::ks) Q x.to a w:=by
     intro c hc h;have hg:kg (k+1) (.code c::ks)=(match zx c with
      |true=>([],.code c::ks)
      |false=>match kg k ks with
       |(l,r)=>(c::l,r)):=by
      cases c<;>first|rfl|exact absurd rfl (hc _ _)
     rw[hg] at h;split at h
     ·exact h
     ·exact pass c ks (ih ks x a w hx h)
    cases c with
    |seq y z =>
     have:=ih (.code y::.code z::ks) x a w hx h;cases x with
     |normal=>exact absurd rfl hx
     |exit j=>exact this
     |ret=>exact this
    |_=>exact gen _ (by simp) h
 have les:∀ (l:List Code) (st:St D) (x:Xt) (st':St D) (ob:List Prop),zh C.toStat TT CF YF nt base fid inR n l st=some (x,st',ob)->st.nb<=st'.nb:=by
  intro l
  induction l with
  |nil=>intro st x st' ob h;simp only[zh,kC,co] at h;rw[h.2.1];exact cb _
  |cons c l ih =>
   intro st x st' ob h;simp only[zh] at h;split at h
   ·rename_i st1 ob1 h1;split at h
    ·rename_i x2 st2 ob2 h2;injection h with h;simp only[co] at h
     obtain⟨rfl,rfl,rfl⟩:=h;exact cB (kd hFm hYm _ _ _ _ _ _ h1) (ih _ _ _ _ h2)
    ·cases h
   ·exact kd hFm hYm _ _ _ _ _ _ h
 intro k
 induction k with
 |zero=>intro ks st x st' ob h ho hB a w hs hQ;cases ks<;>exact stop _ st x st' ob h a w hs hQ
 |succ k ih =>
  intro ks st x st' ob h ho hB a w hs hQ
  match ks with
  |[]=>exact stop _ st x st' ob h a w hs hQ
  |.endB id::ks=>exact stop _ st x st' ob h a w hs hQ
  |.code c::ks =>
   have gen:∀ c:Code,(∀ x y,c≠.seq x y)->zh C.toStat TT CF YF nt base fid inR n (kg (k+1) (.code c::ks)).1 st=some (x,st',ob)->(∀ a' w',Sat C nt e0 w0 n0 st' a' w'->after F m C.P (kg (k+1) (.code c::ks)).2 Q x.to a' w')->after F m C.P (.code c::ks) Q .normal a w:=by
    intro c hc h hQ;have hg:kg (k+1) (.code c::ks)=(match zx c with
     |true=>([],.code c::ks)
     |false=>match kg k ks with
      |(l,r)=>(c::l,r)):=by
     cases c<;>first|rfl|exact absurd rfl (hc _ _)
    rw[hg] at h hQ;split at h
    ·rename_i hl;rw[hl] at hQ;exact stop _ st x st' ob h a w hs hQ
    ·rename_i hl;rw[hl] at hQ;exact one k c ks (ih ks) (outs k ks) (les _) st x st' ob h ho hB a w hs hQ
   cases c with
   |seq y z =>
    show (Code.seq y z).wpIn F m C.P (after F m C.P ks Q) a w;apply wpIn_seq;exact ih (.code y::.code z::ks) st x st' ob h ho hB a w hs hQ
   |_=>exact gen _ (by simp) h hQ
theorem cdZ (hR:yD C TT) (hW:Wd F) (hI:inR=false->F=Fence.wide) {g d n:Nat}{ks:List Kp}{x:Xt}{ob:List Prop}(h:cfB C TT (yw C.toStat TT g d).1 (yw C.toStat TT g d).2 nt fid inR n (YT ks) st st'=some (x,ob)) (ho:cX ob)
 (hA:At C nt st a w) (hQ:∀ a' w',At C nt st' a' w'->after F m C.P (YH ks) Q x.to a' w'):after F m C.P ks Q .normal a w:=by
 unfold cfB at h;split at h
 rotate_left
 ·cases h
 rename_i x1 s1 ob1 he;split at h
 rotate_left
 ·cases h
 rename_i ob2 hf;injection h with h;simp only[co] at h;obtain⟨rfl,rfl⟩:=h
 obtain⟨o1,o2⟩:=ho.append;obtain⟨⟨e,hg,hM,hV,hfr,hmk⟩,hsz⟩:=hA;have hFm:=(jN (S:=C.toStat) (TT:=TT) (g:=g) d).1;have hYm:=(jN (S:=C.toStat) (TT:=TT) (g:=g) d).2;have hle:(⟨st.nb,st.sl,[],st.ms⟩:St D).nb<=s1.nb:=execL_le he;have hle:st.nb<=s1.nb:=hle;refine ccX hW hI hR.ok hR.tab (yk hR.ok hR.name hR.tab d).1 hFm (yk hR.ok hR.name hR.tab d).2 hYm hM (B:=s1.nb) (fun b h1 _=>hfr b h1) 1000 ks _ x1 s1 ob1 he o1 (cb _) a w ⟨⟨e,jM.refl hg _,hV,hmk⟩,hsz⟩ ?_;rintro a' w' ⟨⟨e',hL,hV',hmk'⟩,hsz'⟩;refine hQ a' w' (ciX hR.ok hf o2 ⟨⟨e',hL.good,fun b o ho=>?_,hV',fun b hb=>?_,hmk'⟩,hsz'⟩)
 ·exact kn hM hL b o (by rw[GT];exact ho)
 ·obtain⟨q1,q2,q3⟩:=hfr b (cB hle hb);have hb:s1.nb<=b:=hb;refine⟨?_,?_,?_⟩
  ·cases hx:e'.ρ b with
   |none=>rfl
   |some y =>
    rcases hL.new.ρ b y hx with h|h
    ·rw[q1] at h;cases h
    ·omega
  ·cases hx:e'.ν b with
   |none=>rfl
   |some y =>
    rcases hL.new.ν b y hx with h|h
    ·rw[q2] at h;cases h
    ·omega
  ·cases hx:e'.φ b with
   |none=>rfl
   |some y =>
    rcases hL.new.φ b y hx with h|h
    ·rw[q3] at h;cases h
    ·omega
where
 execL_le {l:List Code} {base:ct D} {n d g:Nat} {st st':St D} {x:Xt} {ob:List Prop} (h:zh C.toStat TT (yw C.toStat TT g d).1 (yw C.toStat TT g d).2 nt base fid inR n l st=some (x,st',ob)):st.nb<=st'.nb:=by
  induction l generalizing st st' x ob with
  |nil=>simp only[zh,kC,co] at h;rw[h.2.1];exact cb _
  |cons c l ih =>
   simp only[zh] at h;split at h
   ·rename_i st1 ob1 h1;split at h
    ·rename_i x2 st2 ob2 h2;injection h with h;simp only[co] at h
     obtain⟨rfl,rfl,rfl⟩:=h;exact cB (kd (jN d).1 (jN d).2 _ _ _ _ _ _ h1) (ih h2)
    ·cases h
   ·exact kd (jN d).1 (jN d).2 _ _ _ _ _ _ h
theorem zr:∀ (n:Nat) (ks:List Kp) {a:Act}{w:World},after F m C.P (EQ n ks) Q .normal a w->after F m C.P ks Q .normal a w
 |0,ks,a,w,h=>by cases ks<;>exact h
 |n+1,[],a,w,h=>h
 |n+1,.endB id::ks,a,w,h=>zr n ks h
 |n+1,.code c::ks,a,w,h=>by
  cases c with
  |block id c =>
   unfold EQ at h;split at h
   ·exact h
   ·split at h
    ·exact wpIn_block (zr n (.code c::.endB id::ks) h)
    ·exact h
  |_=>exact h
theorem jw {ks:List Kp}(h:after F m C.P (next ks) Q .normal a w):after F m C.P (YH ks) Q .normal a w:=zr _ _ h
theorem kb {Θ:Type}(I:Θ->St D) (J:Θ->Prop) (μ:Θ->Nat) {id:Nat}{c:Code}{L ks:List Kp}(hL:L=.code (.block id (.loop c))::ks) (θ0:Θ) (h0:J θ0) (hA:At C nt (I θ0) a w)
 (hr:∀ θ a w,J θ->At C nt (I θ) a w->after F m C.P [.code c] (Exit.then (fun a' w'=>∃ θ',J θ'/\At C nt (I θ') a' w'/\μ θ'<μ θ) (Exit.inBlock id (after F m C.P ks Q))) .normal a w):after F m C.P L Q .normal a w:=by
 subst hL;exact loop_at I J μ θ0 h0 hA hr
end
def cdX (C:Ctx D) (TT:FuncId->Tab D) (CF YF:cz D) (nt:Nat) (fid:FuncId) (inR:Bool) (n:Nat) (l:List Code) (rs:List ResultVar) (st:St D) (ps:List (Pat D)):Option (Xt×List Prop) :=
 match zh C.toStat TT CF YF nt (fun b=>find b st.m) fid inR n l ⟨st.nb,st.sl,[],st.ms⟩ with
 |some (.ret,s1,ob)=>match cff C rs (st.join s1) ps with
  |some ob2=>some (.ret,ob++ob2)
  |none=>none
 |_=>none
section
variable {F:Fence}{m:Nat}{C:Ctx D}{TT:FuncId->Tab D}{CF YF:cz D}{nt:Nat}{fid:FuncId}{inR:Bool}{Q:Exit->Act->World->Prop}{a:Act}{w:World}{st st':St D}
theorem ret_is (hR:yD C TT) (hW:Wd F) (hI:inR=false->F=Fence.wide) {g d n:Nat}{ks:List Kp}{fn:Func}{ps:List (Pat D)}{ob:List Prop}(h:cdX C TT (yw C.toStat TT g d).1 (yw C.toStat TT g d).2 nt fid inR n (YT ks) fn.results.toList st ps=some (.ret,ob)) (ho:cX ob)
 (hA:At C nt st a w) (hQ:∀ a' w',Ret C fn (Res C ps) .ret a' w'->Q .ret a' w'):after F m C.P ks Q .normal a w:=by
 unfold cdX at h;split at h
 rotate_left
 ·cases h
 rename_i s1 ob1 he;split at h
 rotate_left
 ·cases h
 rename_i ob2 hf;injection h with h;simp only[co] at h;obtain⟨_,rfl⟩:=h
 obtain⟨o1,o2⟩:=ho.append;obtain⟨⟨e,hg,hM,hV,hfr,hmk⟩,hsz⟩:=hA;have hFm:=(jN (S:=C.toStat) (TT:=TT) (g:=g) d).1;have hYm:=(jN (S:=C.toStat) (TT:=TT) (g:=g) d).2;have hle:(⟨st.nb,st.sl,[],st.ms⟩:St D).nb<=s1.nb:=cdZ.execL_le he;have hle:st.nb<=s1.nb:=hle;refine ccX hW hI hR.ok hR.tab (yk hR.ok hR.name hR.tab d).1 hFm (yk hR.ok hR.name hR.tab d).2 hYm hM (B:=s1.nb) (fun b h1 _=>hfr b h1) 1000 ks _ .ret s1 ob1 he o1 (cb _) a w ⟨⟨e,jM.refl hg _,hV,hmk⟩,hsz⟩ ?_;rintro a' w' ⟨⟨e',hL,hV',hmk'⟩,hsz'⟩;refine Ut _ (hQ a' w' (ret_at hR.ok hf o2 (nt:=nt) ⟨⟨e',hL.good,fun b o ho=>?_,hV',fun b hb=>?_,hmk'⟩,hsz'⟩ (.inl rfl)))
 ·exact kn hM hL b o (by rw[GT];exact ho)
 ·obtain⟨q1,q2,q3⟩:=hfr b (cB hle hb);have hb:s1.nb<=b:=hb;refine⟨?_,?_,?_⟩
  ·cases hx:e'.ρ b with
   |none=>rfl
   |some y =>
    rcases hL.new.ρ b y hx with h|h
    ·rw[q1] at h;cases h
    ·omega
  ·cases hx:e'.ν b with
   |none=>rfl
   |some y =>
    rcases hL.new.ν b y hx with h|h
    ·rw[q2] at h;cases h
    ·omega
  ·cases hx:e'.φ b with
   |none=>rfl
   |some y =>
    rcases hL.new.φ b y hx with h|h
    ·rw[q3] at h;cases h
    ·omega
def ceX (C:Ctx D) (TT:FuncId->Tab D) (CF YF:cz D) (nt:Nat) (fid:FuncId) (n:Nat) (c:Code) (rs:List ResultVar) (st:St D) (ps:List (Pat D)):Option (Xt×List Prop) :=
 match Eh C.toStat TT CF YF nt (fun b=>find b st.m) fid false n c ⟨st.nb,st.sl,[],st.ms⟩ with
 |some (.ret,s1,ob)=>match cff C rs (st.join s1) ps with
  |some ob2=>some (.ret,ob++ob2)
  |none=>none
 |_=>none
theorem all_is (hR:yD C TT) {g d n:Nat}{c:Code}{fn:Func}{ps:List (Pat D)}{ob:List Prop}(h:ceX C TT (yw C.toStat TT g d).1 (yw C.toStat TT g d).2 nt fid n c fn.results.toList st ps=some (.ret,ob)) (ho:cX ob)
 (hA:At C nt st a w):c.wpIn Fence.wide m C.P (Ret C fn (Res C ps)) a w:=by
 unfold ceX at h;split at h
 rotate_left
 ·cases h
 rename_i s1 ob1 he;split at h
 rotate_left
 ·cases h
 rename_i ob2 hf;injection h with h;simp only[co] at h;obtain⟨_,rfl⟩:=h
 obtain⟨o1,o2⟩:=ho.append;exact seg_is (.inl rfl) (fun _=>rfl) hR.ok hR.tab (yk hR.ok hR.name hR.tab d).1 (jN d).1 (yk hR.ok hR.name hR.tab d).2 (jN d).2 he o1 hA (fun a' w' hA'=>ret_at hR.ok hf o2 hA' (.inl rfl))
end
end Pe
open Go Go.RowKit Go.Proofs Lim
namespace Pe
section
variable {b b':Bool}{lo lo':Nat}{w0 w0' w:World}
theorem KC:∀ {gs:List (Grp Dx)}{vs:List Value},Gw (Cx b lo w0) w gs vs->Gw (Cx b' lo' w0') w gs vs
 |[],_,h=>h
 |.lit _::_,_,h=>⟨h.1,KC h.2⟩
 |.cls _::_,_,h=>⟨h.1,KC h.2⟩
theorem ls_cx {L:Lt Dx}{v:Value}(h:EN (Cx b lo w0) w L v):EN (Cx b' lo' w0') w L v:=by
 rcases h with h|⟨k,o,c,arr,pre,vs,rest,q1,q2,q3,q4,q5,q6,q7,q8,q9⟩
 ·exact .inl h
 ·exact .inr ⟨k,o,c,arr,pre,vs,rest,q1,q2,q3,q4,q5,q6,q7,q8,fun j hj=>KC (q9 j hj)⟩
theorem pat_cx {p:Pat Dx}{v:Value}(h:p.is (Cx b lo w0) w v):p.is (Cx b' lo' w0') w v:=by
 cases p with
 |one g=>cases g<;>exact h
 |agg gs=>obtain⟨vs,h1,h2⟩:=h;exact⟨vs,KC h1,h2⟩
 |slc t n gs=>obtain⟨k,o,c,arr,pre,vs,rest,h1,h2,h3,h4,h5,h6⟩:=h;exact⟨k,o,c,arr,pre,vs,rest,h1,h2,h3,h4,KC h5,h6⟩
 |cap f ty z gs=>obtain⟨k,o,c,h1,h2⟩:=h;exact⟨k,o,c,ls_cx h1,h2⟩
theorem caJ:∀ {ps:List (Pat Dx)}{vs:List Value},cjf (Cx b lo w0) w ps vs->cjf (Cx b' lo' w0') w ps vs
 |[],_,h=>h
 |_::_,_,⟨v,ws,h1,h2,h3⟩=>⟨v,ws,h1,pat_cx h2,caJ h3⟩
theorem cfy {p:RPat Dx}{v:Value}(h:p.is (Cx b lo w0) w v):p.is (Cx b' lo' w0') w v:=by
 cases p with
 |val p=>exact pat_cx h
 |tup ps=>obtain⟨vs,h1,h2⟩:=h;exact⟨vs,caJ h1,h2⟩
theorem rob_cx {w1 w2:World}{p:RPat Dx}{v:Value}(h:UX (Cx b lo w0) w1 w2 p v):UX (Cx b lo' w0') w1 w2 p v:=fun S hS w'' hs hk=>cfy (h S hS w'' hs hk)
theorem KI {w':World}(hk:∀ k,k<w.heap.size->w'.heap[k]?=w.heap[k]?):∀ {gs:List (Grp Dx)}{vs:List Value},Gw (Cx b lo w0) w gs vs->Gw (Cx b lo w0) w' gs vs
 |[],_,h=>h
 |.lit _::_,_,h=>⟨h.1,KI hk h.2⟩
 |.cls _::_,_,h=>⟨DIs.grow hk h.1,KI hk h.2⟩
theorem cio {w':World}(hk:∀ k,k<w.heap.size->w'.heap[k]?=w.heap[k]?) {p:Pat Dx}{v:Value}(hn:noSlc p=true) (h:p.is (Cx b lo w0) w v):p.is (Cx b lo w0) w' v:=by
 cases p with
 |one g =>
  cases g with
  |lit x=>exact h
  |cls d=>exact DIs.grow hk h
 |agg gs=>obtain⟨vs,h1,h2⟩:=h;exact⟨vs,KI hk h1,h2⟩
 |slc t n gs=>cases hn
 |cap f ty z gs=>cases hn
theorem ZH {w':World}(hk:∀ k,k<w.heap.size->w'.heap[k]?=w.heap[k]?):∀ {ps:List (Pat Dx)}{vs:List Value},Gp ps=true->cjf (Cx b lo w0) w ps vs->cjf (Cx b lo w0) w' ps vs
 |[],_,_,h=>h
 |p::ps,_,hn,⟨v,ws,h1,h2,h3⟩=>by
  unfold Gp at hn;split at hn
  ·rename_i h0;exact⟨v,ws,h1,cio hk h0 h2,ZH hk hn h3⟩
  ·cases hn
theorem Uq:∀ {ps:List (Pat Dx)}{csz:Dx->Nat}{s:Nat}{r:List A1×Ws Dx×Nat},GH csz s ps=some r->Gp ps=true
 |[],_,_,_,_=>rfl
 |p::ps,csz,s,r,h=>by
  have:=Ef h p (by simp);simp only[GH] at h;split at h
  ·split at h
   ·rename_i h2;unfold Gp;cases p with
    |slc t n gs=>cases this
    |cap f ty z gs=>cases this
    |one g=>exact Uq h2
    |agg gs=>exact Uq h2
   ·cases h
  ·cases h
end
noncomputable abbrev W0 (w:World):Ctx Dx:=Cx true w.heap.size w
theorem jc {F:Fence}{m:Nat}{P:Program}{Q:Exit->Act->World->Prop}{ks:List Kp}{a:Act}{w:World}(h:ks=[]) (hq:Q .normal a w):after F m P ks Q .normal a w:=by
 subst h;exact hq
def uc (args:List (Pat Dx)) (res:RPat Dx):Con:=fun l=>some (res,[l=args])
theorem jO {bb:Bool}{lo:Nat}{w0:World}{f:Nat}{args:List (Pat Dx)}{res:RPat Dx}(h:jL (Cx bb lo w0) (.call f) args res):∀ l r ob,uc args res l=some (r,ob)->cX ob->jL (Cx bb lo w0) (.call f) l r:=by
 intro l r ob hl ho;unfold uc at hl;injection hl with hl;injection hl with h1 h2;subst h1;subst h2
 rw[show l=args from ho.1];exact h
def lst {α:Type}[Inhabited α] (lo ty z:Nat) (xs:List α) (f:α->List (Grp Dx)):Lt Dx:=⟨lo,ty,z,xs.length,fun j=>f (xs.getD j default)⟩
section
variable {C:Ctx Dx}{b:Bool}{lo:Nat}{w0:World}
theorem ce {n:Nat}{g:Nat->List (Grp Dx)}{x:List (Grp Dx)}(h:x=g n):∀ j,j<n+1->cL C (g j) (CQ n g (fun _=>x) j):=by
 intro j hj w vs hv;unfold CQ at hv;split at hv
 ·exact hv
 ·rename_i hn;have:j=n:=by
   rcases jj j n with h1|h1
   ·rw[show Nat.blt j n=true from zA h1] at hn;cases hn
   ·omega
  rw[h,← this] at hv;exact hv
theorem sub_lo {L:Lt Dx}{a c:Nat}(h:a<=c):cE (Cx b lo w0) (.ls { L with lo:=a }) (.ls { L with lo:=c }):=by
 intro w l hl;have hl:DIs w (.ls { L with lo:=c }) l:=hl;show DIs w (.ls { L with lo:=a }) l;cases hl with
 |nil h1=>exact .nil h1
 |ls k o cp arr pre vs rest h2 h3 h4 h5 h6 h7 h8 h9=>exact .ls k o cp arr pre vs rest h2 h3 h4 h5 h6 (cB h h7) h8 h9
theorem YG {r s:Rat}{j k:Nat}(h:s=r) (hk:k<=j):cE (Cx b lo w0) (.q r j) (.q s k):=by
 intro w l hl;have hl:DIs w (.q s k) l:=hl;subst h;cases hl with
 |q h1 h2 h3=>exact .q h1 h2 (h3.le hk)
theorem ZX {r s:Rat}{j k:Nat}(h:s=r) (hk:k<=j):cE (Cx b lo w0) (.rq r j) (.rq s k):=by
 intro w l hl;have hl:DIs w (.rq s k) l:=hl;subst h;cases hl with
 |rq h1 h2 h3=>exact .rq h1 h2 (h3.le hk)
theorem KU {r:Rat}{k:Nat}(h:r=0) (hk:1<=k):cL (Cx b lo w0) [.cls (.q r k)] [.lit (.bool false),.lit (.int .u64 0),.lit (.int .u64 0),.lit (.pointer none)]:=by
 intro w vs hv;subst h;obtain⟨xs,ys,rfl,h1,h2⟩:=Wu (b:=b) (lo:=lo) (w0:=w0) (gs':=[]) (r:=0) (k:=1) rfl hv;rw[show ys=[] from h2];exact Ew (.cls (YG (b:=b) (lo:=lo) (w0:=w0) (r:=0) (j:=k) rfl hk w xs h1) .nil)
end
end Pe
namespace Pe
abbrev Tx:=List UInt8
abbrev nq (l:Tx):Rat:=(readQ l).1
noncomputable abbrev codeOf (fn:Func):Code:=fn.body.getD .skip
abbrev ii (n:Int):Value:=.int .i64 n
abbrev cU : Prop := ∀ (f : Nat) (fn : Func), Tryz.prog.funcs[f]? = some fn → (fn.name == "runtime.NumGoroutine") = false
end Pe
namespace Pe
def stA (args:List (Pat Dx)):St Dx:=match GH Dx.n 0 args with
 |some (xs,ws,n0)=>⟨n0,zX 0 (jU xs),ws,[]⟩
 |none=>⟨0,[],[],[]⟩
def lenA (args:List (Pat Dx)) (n:Nat):Bool:=match GH Dx.n 0 args with
 |some (xs,_,_)=>Nat.ble (jU xs).length n
 |none=>false
abbrev R2:=Rat×Rat
abbrev pI (i:Int):Pat Dx:=.one (.lit (.int .i64 i))
abbrev pF (f:Nat):Pat Dx:=.one (.lit (.func (.func f) #[] #[]))
abbrev rB (b:Bool):List (Pat Dx):=[.one (.lit (.bool b))]
abbrev rI (i:Int):List (Pat Dx):=[.one (.lit (.int .i64 i))]
abbrev sD (w:World) (d:Dx):Prop:=cE (W0 w) d d
abbrev sG (w:World) (n:Nat) (g:Nat->List (Grp Dx)):Prop:=∀ j,j<n->cL (W0 w) (g j) (g j)
abbrev sN (w:World) (n:Nat) (g:Nat->List (Grp Dx)) (x:List (Grp Dx)):Prop:=∀ j,j<n+1->cL (W0 w) (g j) (CQ n g (fun _=>x) j)
abbrev eA {α:Type}(a:α):Prop:=a=a
theorem cc (n:Nat):Int.ofNat n=(n:Int):=rfl
theorem caW {b:Bool}{lo:Nat}{w0:World}{r s:Rat}(h1:r=0) (h2:s=0):cL (Cx b lo w0) [.cls (.q r 1),.cls (.q s 1)] [.lit (.bool false),.lit (.int .u64 0),.lit (.int .u64 0),.lit (.pointer none),.lit (.bool false),.lit (.int .u64 0),.lit (.int .u64 0),.lit (.pointer none)]:=by
 intro w vs hv;subst h1;subst h2;obtain⟨xs,ys,rfl,h3,h4⟩:=Wu (b:=b) (lo:=lo) (w0:=w0) (gs':=[.lit (.bool false),.lit (.int .u64 0),.lit (.int .u64 0),.lit (.pointer none)]) (r:=0) (k:=1) rfl hv;obtain⟨xs',ys',rfl,h5,h6⟩:=Wu (b:=b) (lo:=lo) (w0:=w0) (gs':=[]) (r:=0) (k:=1) rfl h4;rw[show ys'=[] from h6];exact Ew (.cls h3 (.cls h5 .nil))
theorem sub_ext {C:Ctx Dx}{b:Bool}{lo:Nat}{w0:World}(hC:C=Cx b lo w0) {L L':Lt Dx}(h1:L'.lo<=L.lo) (h2:L'.ty=L.ty) (h3:L'.z=L.z) (h4:L'.n=L.n) (h5:∀ j,j<L.n->L'.g j=L.g j):cE C (.ls L') (.ls L):=by
 subst hC;intro w l hl;have hl:DIs w (.ls L) l:=hl;show DIs w (.ls L') l;obtain⟨lo',ty',z',n',g'⟩:=L';obtain⟨lo1,ty1,z1,n1,g1⟩:=L;simp only at h1 h2 h3 h4 h5;subst h2;subst h3;subst h4;cases hl with
 |nil h=>exact .nil h
 |ls k o c arr pre vs rest q2 q3 q4 q5 q6 q7 q8 q9=>exact .ls k o c arr pre vs rest q2 q3 q4 q5 q6 (cB h1 q7) q8 (fun j hj=>by rw[show (Lt.mk lo' ty' z' n' g').g j=g1 j from h5 j hj];exact q9 j hj)
theorem sub_map {b:Bool}{lo:Nat}{w0:World}{α β:Type}[Inhabited α] [Inhabited β] {a ty z:Nat}{xs:List α}{h:α->β}{f:α->List (Grp Dx)}{f':β->List (Grp Dx)}(hf:∀ x,f' (h x)=f x):cE (Cx b lo w0) (.ls (lst a ty z (xs.map h) f')) (.ls (lst a ty z xs f)):=by
 refine sub_ext rfl (cb _) rfl rfl (by simp [lst]) (fun j hj=>?_);have hj:j<xs.length:=hj;show f' ((xs.map h).getD j default)=f (xs.getD j default);rw[← hf,uD,uD,uh,jl hj];rfl
end Pe
namespace Pe.F
def cdU:Con
 |[.one (.lit (.int .i64 (.ofNat i))),.one (.lit (.int .i64 (.ofNat j)))]=>some (vr (.int .i64 (.ofNat (i/j))),[0<j,i<=1000000000])
 |_=>none
theorem chh {bb:Bool}{lo:Nat}{w0:World}{t:Nat}{args:List (Pat Dx)}{res:RPat Dx}{ob:List Prop}(h:cdU args=some (res,ob)) (ho:cX ob):jL (Cx bb lo w0) (.bin .quo t) args res:=by
 unfold cdU at h;split at h
 ·rename_i i j;injection h with h;injection h with h1 h2;subst h1;subst h2
  obtain⟨h3,h4,_⟩:=ho;have h3:0<j:=h3;have h4:i<=1000000000:=h4;refine zB (fun w=>?_);rw[binOp_quo,Op.intDiv,cf (by show ¬ ((j:Nat):Int)=0;omega)];show Result.ok (Value.int .i64 (IntKind.i64.wrap (((i:Nat):Int).tdiv ((j:Nat):Int)))) w=_;have h5:i/j<=i:=kz i j;rw[show ((i:Nat):Int).tdiv ((j:Nat):Int)=((i/j:Nat):Int) by rw[Uh (by omega)];rfl];show _=Result.ok (Value.int .i64 ((i/j:Nat):Int)) w;generalize i/j=q at h5 ⊢;rw[wrap_i64,show (((q:Nat):Int)+9223372036854775808)%18446744073709551616-9223372036854775808=(q:Int) by omega]
 ·cases h
def ceE:Con
 |[.one (.lit (.int .u8 (.ofNat i))),.one (.lit (.int .i64 (.ofNat j)))]=>some (vr (.int .u8 (.ofNat (i/2^j))),[j<=8])
 |[.one (.lit (.int .u8 (.ofNat i))),.one (.lit (.int .u64 (.ofNat j)))]=>some (vr (.int .u8 (.ofNat (i/2^j))),[j<=8])
 |l=>cdY l
noncomputable def conEqS (t:Nat) (b:Bool):Con
 |[.agg [.lit (.int .i64 a),.lit (.int .i64 c)],.agg [.lit (.int .i64 a'),.lit (.int .i64 c')]]=>match UJ Tryz.prog t,Tryz.prog.eqGuardType Tryz.prog.depth t with
  |some 2,false=>some (vr (.bool b),[decide (a=a'/\c=c')=b])
  |_,_=>none
 |l=>cbH .eql b l
def cbs:Con
 |[.one (.lit (.int .u8 (.ofNat i))),.one (.lit (.int .u8 (.ofNat j)))]=>match Nat.beq j 1 with
  |true=>some (vr (.int .u8 (.ofNat (i%2))),[i<=255])
  |false=>none
 |l=>cdA l
noncomputable def TY (o:Opt):FuncId->Tab Dx:=fun fid d h=>match h with
 |.call f=>match (match find f o.ex with
  |some F=>match Nat.ble 500000 f with
   |true=>none
   |false=>some F
  |none=>find f (tabX false)) with
  |some F=>match ccx fid d o.ors with
   |some b=>some (conAns b F)
   |none=>some F
  |none=>none
 |.box f=>match Nat.ble 500000 f with
  |true=>none
  |false=>find (keyB f) o.ex
 |.gl=>match cfv fid d o.gls with
  |true=>some (fun _=>none)
  |false=>match ccx fid d o.ors with
   |some b=>some (conId b)
   |none=>none
 |.bs _ _=>match cfv fid (d+1000) o.gls with
  |true=>some (fun _=>none)
  |false=>none
 |.bin op t=>match ccx fid d o.ors with
  |some b=>match op with
   |.sub=>some cbf
   |.eql=>some (conEqS t b)
   |_=>some (cbH op b)
  |none=>match op with
   |.add=>some (cdj .add)
   |.sub=>some (cdj .sub)
   |.mul=>some (cdj .mul)
   |.quo=>some cdU
   |.shr=>some ceE
   |.shl=>some ceQ
   |.and=>some cbs
   |_=>none
 |.cv s t=>match Nat.beq s 3 with
  |true=>match Nat.beq t 113 with
   |true=>some cdK
   |false=>none
  |false=>none
 |_=>none
theorem chk {bb:Bool}{lo:Nat}{w0:World}{t:Nat}{args:List (Pat Dx)}{res:RPat Dx}{ob:List Prop}(h:cdY args=some (res,ob)) (ho:cX ob):jL (Cx bb lo w0) (.bin .shr t) args res:=by
 unfold cdY at h;split at h
 ·injection h with h;injection h with h1 h2;subst h1;subst h2
  exact Ky (.inl rfl) (fun w=>car ho.1 (.inl ⟨rfl,rfl⟩))
 ·cases h
theorem cdb {k':IntKind}{i j t:Nat}(hj:j<=8) {w:World}:(Go.binOp .shr t (.int .u8 (.ofNat i)) (.int k' (.ofNat j))).run Tryz.prog w=.ok (.int .u8 (.ofNat (i/2^j))) w:=by
 have hn:¬ (Int.ofNat j:Int)<0:=by show ¬ ((j:Nat):Int)<0;omega
 have hm:min (Int.ofNat j).toNat IntKind.u8.bits=j:=by
  show min j 8=j;omega
 have hp:((2:Int)^j)=((2^j:Nat):Int):=by rw[Int.natCast_pow];rfl
 rw[binOp_shr,Op.shift,cf hn,hm];show Result.ok (Value.int .u8 (Int.fdiv (Int.ofNat i) (2^j))) w=_;rw[hp,Int.fdiv_eq_ediv_of_nonneg _ (Uy _)];rfl
theorem chl {bb:Bool}{lo:Nat}{w0:World}{t:Nat}{args:List (Pat Dx)}{res:RPat Dx}{ob:List Prop}(h:ceE args=some (res,ob)) (ho:cX ob):jL (Cx bb lo w0) (.bin .shr t) args res:=by
 unfold ceE at h;split at h
 ·injection h with h;injection h with h1 h2;subst h1;subst h2
  exact Ky (.inl rfl) (fun w=>cdb ho.1)
 ·injection h with h;injection h with h1 h2;subst h1;subst h2
  exact Ky (.inl rfl) (fun w=>cdb ho.1)
 ·exact chk h ho
theorem cgS {bb:Bool}{lo:Nat}{w0:World}{t:Nat}{b:Bool}{args:List (Pat Dx)}{res:RPat Dx}{ob:List Prop}(h:conEqS t b args=some (res,ob)) (ho:cX ob):jL (Cx bb lo w0) (.bin .eql t) args res:=by
 unfold conEqS at h;split at h
 ·rename_i a c a' c';split at h
  ·rename_i hk hg;injection h with h;injection h with h1 h2;subst h1;subst h2
   have hb:decide (a=a'/\c=c')=b:=ho.1;rcases UR hk with⟨h0,_⟩|⟨_,fs,hu,ht⟩
   ·cases h0
   intro w ρ o xs hop0 hbel hvs;obtain⟨x,y,u,hop1,rfl⟩:=cdL hop0;obtain⟨v1,_,e1,⟨vs1,q1,r1⟩,v2,_,e2,⟨vs2,q2,r2⟩,e3⟩:=hvs;obtain⟨q1,q1',q1''⟩:=q1;obtain⟨q2,q2',q2''⟩:=q2;have z1:vs1=[.int .i64 a,.int .i64 c]:=by
    have t1:vs1.take 1=[.int .i64 a]:=q1;have t2:(vs1.drop 1).take 1=[.int .i64 c]:=q1';have t3:(vs1.drop 1).drop 1=[]:=q1'';rw[← jZ 1 vs1,t1,← jZ 1 (vs1.drop 1),t2,t3];rfl
   have z2:vs2=[.int .i64 a',.int .i64 c']:=by
    have t1:vs2.take 1=[.int .i64 a']:=q2;have t2:(vs2.drop 1).take 1=[.int .i64 c']:=q2';have t3:(vs2.drop 1).drop 1=[]:=q2'';rw[← jZ 1 vs2,t1,← jZ 1 (vs2.drop 1),t2,t3];rfl
   subst z1;subst z2;subst r1;subst r2;subst e3;subst e2;simp only[uf,List.map_nil,caU] at e1;obtain⟨ea,eb,_⟩:=e1;refine⟨.bool b,w,?_,cF _ _,Yl⟩;have he:=cai hu ht a c a' c' w;have hgd:(eqGuard .eql t x y (.agg #[.int .i64 a,.int .i64 c]) (.agg #[.int .i64 a',.int .i64 c'])).run Tryz.prog w=.ok () w:=by
    simp [eqGuard,Ju,hg]
   show (execOp ρ o).run Tryz.prog w=_;rw[hb] at he;have hbo:(Go.binOp .eql t (.agg #[.int .i64 a,.int .i64 c]) (.agg #[.int .i64 a',.int .i64 c'])).run Tryz.prog w=.ok (.bool b) w:=by
    show ((Op.equal t (.agg #[.int .i64 a,.int .i64 c]) (.agg #[.int .i64 a',.int .i64 c'])) >>= fun r=>pure (Value.bool r)).run Tryz.prog w=_;simp only[jA,he,kG];rfl
   simp only[execOp,hop1,ea,eb,jA,hgd,hbo,kG];rfl
  ·cases h
 ·exact cam h ho
theorem ceu {bb:Bool}{lo:Nat}{w0:World}{t:Nat}{args:List (Pat Dx)}{res:RPat Dx}{ob:List Prop}(h:cbs args=some (res,ob)) (ho:cX ob):jL (Cx bb lo w0) (.bin .and t) args res:=by
 unfold cbs at h;split at h
 ·rename_i i j;split at h
  ·rename_i hj;obtain rfl:=cn hj;injection h with h;injection h with h1 h2;subst h1;subst h2
   have hi:i<=255:=ho.1;refine zB (fun w=>?_);rw[binOp_and];have e:=bits_nat .u8 8 (by decide) (fun n h1 h2=>by rw[IntKind.wrap_u8];omega) i 1 (by omega) (by decide);exact cw (fun z=>Result.ok (Value.int .u8 z) w) (e.1.trans (by rw[Nat.and_one_is_mod];rfl))
  ·cases h
 ·exact cgF h ho
section
variable {lo:Nat}{w0:World}
theorem ty_ok (hG:Gr w0) {o:Opt}(hE:yf false lo w0 o.ex) (g:FuncId):(TY o g).Ok (Cx false lo w0):=by
 intro n hd F args res ob hF hres ho;unfold TY at hF;split at hF
 ·rename_i f;have key:∀ F,(match find f o.ex with
   |some F=>match Nat.ble 500000 f with
    |true=>none
    |false=>some F
   |none=>find f (tabX false))=some F->∀ res ob,F args=some (res,ob)->cX ob->jL (Cx false lo w0) (.call f) args res:=by
   intro F hF res ob hr ho;split at hF
   ·rename_i h1;split at hF
    ·cases hF
    ·rename_i hg;injection hF with hF;subst hF
     exact hE _ _ h1 _ (ZT hg) _ _ _ hr ho
   ·exact cfJ hG hF hr ho
  split at hF
  ·rename_i G hG;split at hF
   ·rename_i b hb;injection hF with hF;subst hF
    unfold conAns at hres;split at hres
    ·rename_i x ob' hx;injection hres with hres;injection hres with h1 h2;subst h1;subst h2
     have:=key G hG _ _ hx ho.2;rw[show x=b from ho.1] at this;exact this
    ·exact key G hG _ _ hres ho
   ·injection hF with hF;subst hF
    exact key _ hG _ _ hres ho
  ·cases hF
 ·rename_i f;split at hF
  ·cases hF
  ·rename_i hg;exact hE (keyB f) F hF (.box f) (ciE hg) args res ob hres ho
 ·split at hF
  ·injection hF with hF;subst hF
   cases hres
  ·split at hF
   ·injection hF with hF;subst hF
    exact chC hres ho
   ·cases hF
 ·split at hF
  ·injection hF with hF;subst hF
   cases hres
  ·cases hF
 ·split at hF
  ·split at hF
   ·injection hF with hF;subst hF
    exact ceA hres ho
   ·injection hF with hF;subst hF
    exact cgS hres ho
   ·injection hF with hF;subst hF
    exact cam hres ho
  ·split at hF
   ·injection hF with hF;subst hF
    exact YL hres ho rfl
   ·injection hF with hF;subst hF
    exact YL hres ho rfl
   ·injection hF with hF;subst hF
    exact YL hres ho rfl
   ·injection hF with hF;subst hF
    exact chh hres ho
   ·injection hF with hF;subst hF
    exact chl hres ho
   ·injection hF with hF;subst hF
    exact cgw hres ho
   ·injection hF with hF;subst hF
    exact ceu hres ho
   ·cases hF
 ·rename_i s t;split at hF
  ·rename_i h1;split at hF
   ·rename_i h2;injection hF with hF;subst hF
    rw[cn h1,cn h2];exact cgD hres ho
   ·cases hF
  ·cases hF
 ·cases hF
theorem run_ok (hlo : lo ≤ w0.heap.size) (hG : Gr w0) (hN : ∀ (f : Nat) (fn : Func), Tryz.prog.funcs[f]? = some fn → (fn.name == "runtime.NumGoroutine") = false) {o : Opt} (hE : yf false lo w0 o.ex) : yD (Cx false lo w0) (TY o) := ⟨cx_ok hlo, hN, ty_ok hG hE⟩
end
noncomputable abbrev W0 (w:World):Ctx Dx:=Cx false w.heap.size w
theorem fn_ok {w : World} (hG : Gr w) (hN : ∀ (f : Nat) (fn : Func), Tryz.prog.funcs[f]? = some fn → (fn.name == "runtime.NumGoroutine") = false) {ex : List (Nat × Con)} (hE : yf false w.heap.size w ex) {f : FuncId} {fn : Func} {c : Code} (hfn : Tryz.prog.funcs[f]? = some fn) (hbody : fn.body = some c) {args : List (Pat Dx)} {xs : List A1} {ws : Ws Dx} {n0 : Nat} (hm : GH Dx.n 0 args = some (xs, ws, n0)) (hlen : Nat.ble (jU xs).length fn.ntmps = true)
 {vs:List Value} (hp:cjf (W0 w) w args vs) {ps:List (Pat Dx)} (hwp:(∀ o:Opt,o.ex=ex->yD (W0 w) (TY o))->∀ a,At (W0 w) fn.ntmps ⟨n0,zX 0 (jU xs),ws,[]⟩ a w->after Fence.wide 0 Tryz.prog [.code c] (Ret (W0 w) fn (Res (W0 w) ps)) .normal a w) :
 Enters Tryz.prog f/\Calls Tryz.prog f vs.toArray w (fun en w'=>∃ v,en=.returned v/\Res (W0 w) ps v w'):=by
 have hR:∀ o:Opt,o.ex=ex->yD (W0 w) (TY o):=fun o ho=>run_ok (cb _) hG hN (by rw[ho];exact hE);have hR0:=hR ⟨[],[],ex⟩ rfl;refine chK (C:=W0 w) hR0 hfn hbody hm hlen ?_ (fun a hA=>hwp hR a hA);exact cbj hR0.ok (W:=fun w'=>jy env0 w w') w (jy.refl _ _) (Ef hm) (fun w' hk=>ZH (fun k hk'=>hk.block k hk' (fun b=>by simp) (fun h=>h)) (Uq hm) hp)
noncomputable abbrev run (w:World) (o:Opt) (f nt:Nat) (ks:List Kp) (st st':St Dx):Option (Xt×List Prop):=cfB (W0 w) (TY o) (yw (Sx false w.heap.size) (TY o) 300 30).1 (yw (Sx false w.heap.size) (TY o) 300 30).2 nt f false 300 (YT ks) st st'
noncomputable abbrev runR (w:World) (o:Opt) (f nt:Nat) (fn:Func) (ks:List Kp) (st:St Dx) (ps:List (Pat Dx)):Option (Xt×List Prop):=cdX (W0 w) (TY o) (yw (Sx false w.heap.size) (TY o) 300 30).1 (yw (Sx false w.heap.size) (TY o) 300 30).2 nt f false 300 (YT ks) fn.results.toList st ps
theorem okX_le {b:Bool}{t:Nat}(h:okX b t=true):okX false t=true:=by
 unfold okX at h ⊢;split at h
 ·cases h
 ·rename_i h1;split at h
  ·cases h
  ·rename_i h2;split<;>rfl
theorem ok_le {b:Bool}{lo:Nat}{w0:World}{o:Obj}(h:kE (Cx b lo w0) o):kE (Cx false lo w0) o:=h.imp (fun⟨cs,t,h1,h2⟩=>⟨cs,t,h1,okX_le h2⟩) id
theorem ent_fn {lo:Nat}{w0:World}{b:Bool}(hG:Gr w0) (hlo:lo<=w0.heap.size) {f:FuncId}{args:List (Pat Dx)}(ps:Nat->List (Pat Dx)) (hsub:∀ hi,lo<=hi->∃ ob,yC (Cx b lo w0) (ps lo) (ps hi)=some ob/\cX ob)
 (h:∀ w vs,Gr w->cjf (W0 w) w args vs->Enters Tryz.prog f/\Calls Tryz.prog f vs.toArray w (fun en w'=>∃ v,en=.returned v/\Res (W0 w) (ps w.heap.size) v w')) (hE:Enters Tryz.prog f):jL (Cx b lo w0) (.call f) args (cbt (ps lo)):=by
 refine⟨hE,fun w vs hb hvs=>?_⟩;refine(h w vs (hG.below hb hG.size) (caJ hvs)).2.mono ?_;rintro en w' ⟨v,rfl,h1,h2⟩;refine⟨v,rfl,h1,?_⟩;obtain⟨ob,h3,h4⟩:=hsub w.heap.size (cB hlo hb.size);intro S hS w'' hs hk;have h5:=cfy (b':=b) (lo':=lo) (w0':=w0) (rob_cx (lo':=lo) (w0':=w0) h2 S (fun k h=>⟨(hS k h).1,(hS k h).2.elim fun o ho=>⟨o,ho.1,ok_le ho.2⟩⟩) w'' hs hk);have hC:=cx_ok (b:=b) hlo;revert h3 h5;generalize ps lo=a;generalize ps w.heap.size=c;intro h3 h5;unfold cbt at h5 ⊢;split at h5
 ·rename_i p
  match a,h3 with
  |[q],h3 =>
   have:=zO hC h3 h4 (vs:=[v]) ⟨v,[],rfl,h5,rfl⟩;obtain⟨x,y,e1,e2,e3⟩:=this;injection e1 with e1 _
   subst e1;exact e2
  |[],h3=>simp [yC] at h3
  |_::q::r,h3 =>
   obtain⟨x,y,q1,q2,_⟩:=kx h3;simp [yC] at q2
 ·rename_i hne
  match a,h3 with
  |[q],h3 =>
   exfalso
   match c,h3,hne with
   |[],h3,_=>simp [yC] at h3
   |[p],_,hne=>exact hne p rfl
   |_::_::_,h3,_ =>
    obtain⟨x,y,q1,q2,_⟩:=kx h3;simp [yC] at q2
  |[],h3=>obtain⟨us,q1,q2⟩:=h5;exact⟨us,zO hC h3 h4 q1,q2⟩
  |q1::q2::r,h3=>obtain⟨us,p1,p2⟩:=h5;exact⟨us,zO hC h3 h4 p1,p2⟩
theorem kM {w:World}(hG:Gr w) (hN:cU) {ex:List (Nat×Con)}(hE:yf false w.heap.size w ex) {f:FuncId}{fn:Func}{c:Code}(hfn:Tryz.prog.funcs[f]?=some fn) (hbody:fn.body=some c) {args:List (Pat Dx)}(hm:lenA args fn.ntmps=true)
 {vs:List Value} (hp:cjf (W0 w) w args vs) {ps:List (Pat Dx)} (hwp:(∀ o:Opt,o.ex=ex->yD (W0 w) (TY o))->∀ a,At (W0 w) fn.ntmps (stA args) a w->after Fence.wide 0 Tryz.prog [.code c] (Ret (W0 w) fn (Res (W0 w) ps)) .normal a w) :
 Enters Tryz.prog f/\Calls Tryz.prog f vs.toArray w (fun en w'=>∃ v,en=.returned v/\Res (W0 w) ps v w'):=by
 unfold lenA at hm;split at hm
 ·rename_i xs ws n0 h0;refine fn_ok hG hN hE hfn hbody h0 hm hp (fun hR a hA=>hwp hR a ?_);unfold stA;rw[h0];exact hA
 ·cases hm
abbrev uG (f:Nat) (args:List (Pat Dx)) (ps:Nat->List (Pat Dx)):Prop:=∀ w vs,Gr w->cjf (W0 w) w args vs->Enters Tryz.prog f/\Calls Tryz.prog f vs.toArray w (fun en w'=>∃ v,en=.returned v/\Res (W0 w) (ps w.heap.size) v w')
section
variable {b:Bool}{lo:Nat}{w0:World}{f:Nat}{args:List (Pat Dx)}
theorem uG.ent {ps:Nat->List (Pat Dx)}(h:uG f args ps) (hG:Gr w0) (hlo:lo<=w0.heap.size) (hE:Enters Tryz.prog f) (hsub:∀ hi,lo<=hi->∃ ob,yC (Cx b lo w0) (ps lo) (ps hi)=some ob/\cX ob):jL (Cx b lo w0) (.call f) args (cbt (ps lo)):=ent_fn hG hlo ps hsub h hE
theorem uG.val {v:Value}(h:uG f args (fun _=>[.one (.lit v)])) (hG:Gr w0) (hlo:lo<=w0.heap.size) (hE:Enters Tryz.prog f):jL (Cx b lo w0) (.call f) args (vr v) :=
 h.ent hG hlo hE (fun _ _=>⟨_,rfl,rfl,trivial⟩)
end
section
variable {w w1:World}{o:Opt}{f nt:Nat}{ks:List Kp}{st st':St Dx}{x:Xt}{ob:List Prop}{a:Act}{Q:Exit->Act->World->Prop}
theorem cZ (h:run w o f nt ks st st'=some (x,ob)) (hR:yD (W0 w) (TY o)) (hA:At (W0 w) nt st a w1) (hQ:∀ a' w',At (W0 w) nt st' a' w'->after Fence.wide 0 (W0 w).P (YH ks) Q x.to a' w') (ho:cX ob:=by (repeat' (first|exact trivial|apply And.intro))<;>first|exact cE.refl _ _|exact fun _ _=>cL.refl _ _|exact ce rfl|exact ce (by assumption)|exact cg _ _|exact ci _ _|(with_reducible assumption)|omega|with_reducible rfl|(simp only[cc];omega)|(intro j hj;exact absurd hj (cj _))|exact YG rfl (by omega)|exact ZX rfl (by omega)|exact YG (by assumption) (by omega)|exact ZX (by assumption) (by omega)|exact KU rfl (by omega)|exact caW rfl rfl|exact uk rfl|exact uk (by omega)|assumption|rfl):after Fence.wide 0 (W0 w).P ks Q .normal a w1:=cdZ hR (.inl rfl) (fun _=>rfl) h ho hA hQ
noncomputable abbrev runA (w:World) (o:Opt) (f nt:Nat) (fn:Func) (st:St Dx) (ps:List (Pat Dx)):Option (Xt×List Prop):=ceX (W0 w) (TY o) (yw (Sx false w.heap.size) (TY o) 300 30).1 (yw (Sx false w.heap.size) (TY o) 300 30).2 nt f 300 (codeOf fn) fn.results.toList st ps
theorem EG {fn:Func}{ps:List (Pat Dx)}(h:runA w o f nt fn st ps=some (.ret,ob)) (hR:yD (W0 w) (TY o)) (hA:At (W0 w) nt st a w1) (ho:cX ob:=by (repeat' (first|exact trivial|apply And.intro))<;>first|exact cE.refl _ _|exact fun _ _=>cL.refl _ _|exact ce rfl|exact ce (by assumption)|exact cg _ _|exact ci _ _|(with_reducible assumption)|omega|with_reducible rfl|(simp only[cc];omega)|(intro j hj;exact absurd hj (cj _))|exact YG rfl (by omega)|exact ZX rfl (by omega)|exact YG (by assumption) (by omega)|exact ZX (by assumption) (by omega)|exact KU rfl (by omega)|exact caW rfl rfl|exact uk rfl|exact uk (by omega)|assumption|rfl):after Fence.wide 0 (W0 w).P [.code (codeOf fn)] (Ret (W0 w) fn (Res (W0 w) ps)) .normal a w1:=all_is hR h ho hA
theorem cS {fn:Func}{ps:List (Pat Dx)}(h:runR w o f nt fn ks st ps=some (.ret,ob)) (hR:yD (W0 w) (TY o)) (hA:At (W0 w) nt st a w1) (ho:cX ob:=by (repeat' (first|exact trivial|apply And.intro))<;>first|exact cE.refl _ _|exact fun _ _=>cL.refl _ _|exact ce rfl|exact ce (by assumption)|exact cg _ _|exact ci _ _|(with_reducible assumption)|omega|with_reducible rfl|(simp only[cc];omega)|(intro j hj;exact absurd hj (cj _))|exact YG rfl (by omega)|exact ZX rfl (by omega)|exact YG (by assumption) (by omega)|exact ZX (by assumption) (by omega)|exact KU rfl (by omega)|exact caW rfl rfl|exact uk rfl|exact uk (by omega)|assumption|rfl) (hQ:∀ a' w',Ret (W0 w) fn (Res (W0 w) ps) .ret a' w'->Q .ret a' w':=by exact fun _ _ h=>h):after Fence.wide 0 (W0 w).P ks Q .normal a w1:=ret_is hR (.inl rfl) (fun _=>rfl) h ho hA hQ
end
end Pe.F
namespace Pe
def ixP (n:Nat) (p:Nat->Bool):Int:=match (List.range n).find? p with
 |some i=>(i:Int)
 |none=>-1
def anyP (n:Nat) (p:Nat->Bool):Bool:=(List.range n).any p
section
variable {n:Nat}{p:Nat->Bool}
theorem CK {i:Nat}(hi:i<n) (h:p i=true) (hb:∀ k,k<i->p k=false):ixP n p=(i:Int):=by
 have:(List.range n).find? p=some i:=by
  rw[List.find?_range_eq_some];exact⟨h,List.mem_range.2 hi,fun j hj=>by simp [hb j hj]⟩
 unfold ixP;rw[this]
theorem Kl (h:∀ i,i<n->p i=false):ixP n p=-1:=by
 have:(List.range n).find? p=none:=by
  rw[List.find?_eq_none];intro i hi;rw[h i (List.mem_range.1 hi)];exact YN
 unfold ixP;rw[this]
theorem Gl:decide (ixP n p>=0)=anyP n p:=by
 unfold ixP anyP;split
 ·rename_i i h;have h1:=List.find?_some h;have h2:=List.mem_of_find?_eq_some h;rw[List.any_eq_true.2 ⟨i,h2,h1⟩];exact uk (by omega)
 ·rename_i h;rw[List.find?_eq_none] at h;rw[List.any_eq_false.2 h];rfl
theorem GW {i:Nat}(hi:i<n) (h:p i=true):anyP n p=true:=List.any_eq_true.2 ⟨i,List.mem_range.2 hi,h⟩
theorem yH (h:∀ i,i<n->p i=false):anyP n p=false:=List.any_eq_false.2 fun i hi=>by rw[h i (List.mem_range.1 hi)];exact YN
end
end Pe
namespace Pe
abbrev Jb:=Int×Int
abbrev Tm:=(Nat×Nat)×List Int
abbrev Vs:=Int×Int
def frB (a x b:Int):Bool:=decide (a<=x)&&decide (x<=b)
theorem yN {a x b:Int}:frB a x b=true↔a<=x/\x<=b:=by unfold frB;simp
def Kj (a d:Int):Bool:=!frB 0 a 7||!frB 0 d 200
def uq (J:List Jb) (i:Nat):Bool:=Kj (J.getD i default).1 (J.getD i default).2
def kq (J:List Jb):Bool:=decide ((J.length:Int)<=30)&&!anyP J.length (uq J)
def caz (x:Int):Bool:=!frB 0 x 20
def uj (L:List Int) (i:Nat):Bool:=caz (L.getD i default)
def cal (T:List Tm):Nat:=(T.getD 0 default).2.length
def badT (c:Nat) (t:Tm):Bool:=decide ((t.2.length:Int)≠(c:Int))||anyP t.2.length (uj t.2)
def kF (c:Nat) (T:List Tm) (i:Nat):Bool:=badT c (T.getD i default)
def jY (T:List Tm):Bool:=(decide ((T.length:Int)<=8)&&decide ((cal T:Int)<=40))&&!anyP T.length (kF (cal T) T)
def cbK (a b:Int):Int:=if b<a then b else a
def cbi (s:Nat) (a:Int):Bool:=decide (Int.ofNat (s/2^a.toNat%2)=1)
def kN (T:List Tm) (p t a d:Int):Bool:=(frB 0 t ((T.length:Int)-1)&&frB 0 p (cbK ((cal T:Int)-1) d))&&cbi (T.getD t.toNat default).1.1 a
def ku (T:List Tm) (p t:Int):Int:=(T.getD t.toNat default).2.getD p.toNat default
theorem caV {n:Nat}{p:Nat->Bool}(h:anyP n p=false) {i:Nat}(hi:i<n):p i=false:=by
 unfold anyP at h;rw[List.any_eq_false] at h;simpa using h i (List.mem_range.2 hi)
def zR (L:List Int):Nat->List Int->Int
 |0=>fun _=>0
 |i+1=>EI (zR L i) [L.getD i default] 1
def CJ (L:List Int) (n:Int) (i:Nat):Bool:=!frB 0 (L.getD i default) (n-1)||EV (zR L i [L.getD i default])
def kW (L:List Int) (n:Int):Bool:=!anyP L.length (CJ L n)
def chJ (J:List Jb) (N:List Nat):List Jb:=N.map fun x=>J.getD x default
theorem cei {J:List Jb}{N:List Nat}{i:Nat}(h:i<N.length):(chJ J N).getD i default=J.getD (N.getD i default) default:=by
 unfold chJ;rw[uD,uh,jl h,uD (l:=N),jl h];rfl
theorem We {J:List Jb}{N:List Nat}:(chJ J N).length=N.length:=by simp [chJ]
theorem caO {L:List Int}{x:Int}:∀ {n:Nat},EV (zR L n [x])=true↔∃ k,k<n/\L.getD k default=x
 |0=>by
  constructor
  ·intro h;simp [zR,EV] at h
  ·rintro⟨k,h,_⟩;omega
 |n+1=>by
  have ih:=caO (L:=L) (x:=x) (n:=n);unfold zR EI;by_cases h:[x]=[L.getD n default]
  ·rw[cq h];injection h with h
   exact⟨fun _=>⟨n,ux _,h.symm⟩,fun _=>rfl⟩
  ·rw[cf h,ih];constructor
   ·rintro⟨k,h1,h2⟩;exact⟨k,by omega,h2⟩
   ·rintro⟨k,h1,h2⟩;rcases Nat.lt_succ_iff_lt_or_eq.1 h1 with h3|rfl
    ·exact⟨k,h3,h2⟩
    ·exact absurd (by rw[h2]) h
def kO (V:List Vs):Nat->List Int->Int
 |0=>fun _=>0
 |i+1=>EI (kO V i) [(V.getD i default).1,(V.getD i default).2] (kO V i [(V.getD i default).1,(V.getD i default).2]+1)
theorem Wt {V:List Vs}{k:List Int}:∀ {i:Nat},0<=kO V i k/\kO V i k<=(i:Int)
 |0=>⟨Int.le_refl _,Int.le_refl _⟩
 |i+1=>by
  have h1:=Wt (V:=V) (k:=k) (i:=i);have h2:=Wt (V:=V) (k:=[(V.getD i default).1,(V.getD i default).2]) (i:=i);unfold kO EI;split<;>constructor<;>omega
def suitAt (J:List Jb) (T:List Tm) (V:List Vs) (i:Nat):Bool:=kN T (V.getD i default).1 (V.getD i default).2 (J.getD i default).1 (J.getD i default).2
def ceV (T:List Tm) (V:List Vs) (i:Nat):Bool:=decide (kO V (i+1) [(V.getD i default).1,(V.getD i default).2]>ku T (V.getD i default).1 (V.getD i default).2)
def Jw (J:List Jb) (T:List Tm) (V:List Vs) (i:Nat):Bool:=decide ((i:Int)>=(V.length:Int))||(!suitAt J T V i||ceV T V i)
def ckZ (J:List Jb) (T:List Tm) (V:List Vs):Int:=if anyP J.length (Jw J T V) then ixP J.length (Jw J T V) else if (V.length:Int)>(J.length:Int) then (J.length:Int) else -1
theorem cat {J:List Jb}{T:List Tm}{V:List Vs}{i:Nat}(hi:i<J.length) (h:Jw J T V i=true) (hb:∀ k,k<i->Jw J T V k=false):ckZ J T V=(i:Int):=by
 unfold ckZ;rw[cq (GW hi h),CK hi h hb]
theorem ck_end {J:List Jb}{T:List Tm}{V:List Vs}(hb:∀ k,k<J.length->Jw J T V k=false):ckZ J T V=if (V.length:Int)>(J.length:Int) then (J.length:Int) else -1:=by
 unfold ckZ;rw[yH hb];rfl
theorem YI {J:List Jb}(h:kq J=true):J.length<=30/\∀ i,i<J.length->0<=(J.getD i default).1/\(J.getD i default).1<=7/\0<=(J.getD i default).2/\(J.getD i default).2<=200:=by
 unfold kq at h;simp only[GA,Bool.not_eq_true',Kt] at h;refine⟨by omega,fun i hi=>?_⟩;have:=caV h.2 hi;unfold uq Kj at this;simp only[cbq,Bool.not_eq_false',yN] at this;exact⟨this.1.1,this.1.2,this.2.1,this.2.2⟩
theorem yL {T:List Tm}(h:jY T=true):T.length<=8/\cal T<=40/\∀ i,i<T.length->(T.getD i default).2.length=cal T/\∀ k,k<(T.getD i default).2.length->0<=(T.getD i default).2.getD k default/\(T.getD i default).2.getD k default<=20:=by
 unfold jY at h;simp only[GA,Bool.not_eq_true',Kt] at h;refine⟨by omega,by omega,fun i hi=>?_⟩;have:=caV h.2 hi;unfold kF badT at this;simp only[cbq,decide_eq_false_iff_not,Decidable.not_not] at this;refine⟨by omega,fun k hk=>?_⟩;have h2:=caV this.2 hk;unfold uj caz at h2;simpa [yN] using h2
theorem cfm {T:List Tm}(h:jY T=true) {p t a d:Int}(hs:kN T p t a d=true):0<=p/\0<=t/\t.toNat<T.length/\p.toNat<(T.getD t.toNat default).2.length:=by
 unfold kN at hs;simp only[GA,yN] at hs;obtain⟨⟨⟨h1,h2⟩,h3,h4⟩,_⟩:=hs;have h5:t.toNat<T.length:=by omega
 refine⟨h3,h1,h5,?_⟩;rw[((yL h).2.2 _ h5).1];have:cbK ((cal T:Int)-1) d<=(cal T:Int)-1:=by unfold cbK;split<;>omega
 omega
def suJ (T:List Tm) (p t:Int) (R:List Jb) (i:Nat):Bool:=kN T p t (R.getD i default).1 (R.getD i default).2
def Kf (T:List Tm) (R:List Jb) (p t:Nat) (a:Int):Int:=if decide (ku T p t>0) then (if anyP R.length (suJ T p t R) then a+ku T p t else a) else a
def GI (T:List Tm) (R:List Jb) (p:Nat):Nat->Int->Int
 |0,a=>a
 |t+1,a=>Kf T R p t (GI T R p t a)
def zq (T:List Tm) (R:List Jb):Nat->Int
 |0=>0
 |p+1=>GI T R p T.length (zq T R p)
theorem JU {T:List Tm}(h:jY T=true) {p t:Nat}(ht:t<T.length) (hp:p<cal T):0<=ku T p t/\ku T p t<=20:=by
 obtain⟨h1,h2⟩:=(yL h).2.2 t ht;exact h2 p (by rw[h1];exact hp)
theorem cdF {T:List Tm}{R:List Jb}(h:jY T=true) {p:Nat}(hp:p<cal T) {a:Int}:∀ {n:Nat},n<=T.length->a<=GI T R p n a/\GI T R p n a<=a+20*n
 |0,_=>by simp [GI]
 |n+1,hn=>by
  have ih:=cdF (R:=R) h hp (a:=a) (n:=n) (by omega);have hs:=JU h (t:=n) (by omega) hp;unfold GI Kf;split
  ·split<;>constructor<;>omega
  ·constructor<;>omega
theorem tot_le {T:List Tm}{R:List Jb}(h:jY T=true):∀ {n:Nat},n<=cal T->0<=zq T R n/\zq T R n<=160*n
 |0,_=>by simp [zq]
 |n+1,hn=>by
  have ih:=tot_le (R:=R) h (n:=n) (by omega);have hr:=cdF (R:=R) h (p:=n) (by omega) (a:=zq T R n) (cb T.length);have:=(yL h).1;unfold zq;constructor<;>omega
end Pe
namespace Pe.F
noncomputable def kisFrom33_:List Kp:=[.code (codeOf Tryz.f33)]
noncomputable def kareJobs150_:List Kp:=[.code (codeOf Tryz.f50)]
noncomputable def kJob57_:List Kp:=[.code (codeOf Tryz.f57)]
noncomputable def kJob57_n:List Kp:=next kJob57_
noncomputable def kJob57_nl:List Kp:=[.code (jq kJob57_n)]
noncomputable def kJob27_:List Kp:=[.code (codeOf Tryz.f27)]
noncomputable def kareJobs20_:List Kp:=[.code (codeOf Tryz.f20)]
noncomputable def kJob57_nt:List Kp:=kJob57_n.tail
noncomputable abbrev frtR (w:World) (a x b:Int) (o:List (Nat×Nat×Bool)):=runR w ⟨o,[],[]⟩ 33 15 Tryz.f33 kisFrom33_ (stA [pI a,pI x,pI b]) (rB (frB a x b))
theorem frt0 {w:World}(a x b:Int):frtR w a x b [(33,9,true),(33,13,true)]=some (.ret,[decide (a<=x)=true,decide (x<=b)=true,Value.bool (frB a x b)=Value.bool true]):=by kernel_rfl
theorem frt1 {w:World}(a x b:Int):frtR w a x b [(33,9,true),(33,13,false)]=some (.ret,[decide (a<=x)=true,decide (x<=b)=false,Value.bool (frB a x b)=Value.bool false]):=by kernel_rfl
theorem frt2 {w:World}(a x b:Int):frtR w a x b [(33,9,false)]=some (.ret,[decide (a<=x)=false,Value.bool (frB a x b)=Value.bool false]):=by kernel_rfl
theorem fr_ok (hN:cU) (a x b:Int):uG 33 [pI a,pI x,pI b] (fun _=>rB (frB a x b)):=by
 intro w vs hG hp;refine kM hG hN (ex:=[]) jF (fn:=Tryz.f33) Tryz.func33 (c:=codeOf Tryz.f33) (by kernel_rfl) (args:=[pI a,pI x,pI b]) (by kernel_rfl) hp (fun hR _ hA=>?_);rcases cu (decide (a<=x)) with q9|q9
 ·skip
  have p9:=cH q9;rcases cu (decide (x<=b)) with q13|q13
  ·skip
   have p13:=cH q13;refine cS (frt0 a x b) (hR _ rfl) hA (by (repeat' (first|exact trivial|apply And.intro))<;>first|exact cE.refl _ _|exact fun _ _=>cL.refl _ _|exact ce rfl|exact cg _ _|exact ci _ _|(with_reducible assumption)|omega|with_reducible rfl|(simp only[cc];omega)|(intro j hj;exact absurd hj (cj _))|exact cw Value.bool (by unfold frB;rw[q9];first|rfl|(rw[q13];rfl))|rfl)
  ·skip
   have p13:=cO q13;refine cS (frt1 a x b) (hR _ rfl) hA (by (repeat' (first|exact trivial|apply And.intro))<;>first|exact cE.refl _ _|exact fun _ _=>cL.refl _ _|exact ce rfl|exact cg _ _|exact ci _ _|(with_reducible assumption)|omega|with_reducible rfl|(simp only[cc];omega)|(intro j hj;exact absurd hj (cj _))|exact cw Value.bool (by unfold frB;rw[q9];first|rfl|(rw[q13];rfl))|rfl)
 ·skip
  have p9:=cO q9;refine cS (frt2 a x b) (hR _ rfl) hA (by (repeat' (first|exact trivial|apply And.intro))<;>first|exact cE.refl _ _|exact fun _ _=>cL.refl _ _|exact ce rfl|exact cg _ _|exact ci _ _|(with_reducible assumption)|omega|with_reducible rfl|(simp only[cc];omega)|(intro j hj;exact absurd hj (cj _))|exact cw Value.bool (by unfold frB;rw[q9];first|rfl|(rw[q13];rfl))|rfl)
def cfA:Con
 |[.one (.lit (.int .i64 a)),.one (.lit (.int .i64 x)),.one (.lit (.int .i64 b))]=>some (vr (.bool (frB a x b)),[])
 |_=>none
theorem ccn {lo:Nat}{w0:World}(hN:cU) (hG:Gr w0) (hlo:lo<=w0.heap.size):∀ l r ob,cfA l=some (r,ob)->cX ob->jL (Cx false lo w0) (.call 33) l r:=by
 intro l r ob h ho;unfold cfA at h;split at h
 ·injection h with h;injection h with h1 h2;subst h1;subst h2
  exact(fr_ok hN _ _ _).val hG hlo (jB Tryz.func33 (by kernel_rfl) rfl)
 ·cases h
abbrev Ys:List (Nat×Con):=[(33,cfA)]
theorem cbL {lo:Nat}{w0:World}(hN:cU) (hG:Gr w0) (hlo:lo<=w0.heap.size):yf false lo w0 Ys:=cV (ccn hN hG hlo) jF
abbrev pJb (a d:Int):Pat Dx:=.agg [.lit (ii a),.lit (ii d)]
abbrev fJ (j:Jb):List (Grp Dx):=[.lit (ii j.1),.lit (ii j.2)]
abbrev pJs (lo:Nat×Nat) (J:List Jb):Pat Dx:=.one (.cls (.ls (lst lo.1 lo.2 2 J fJ)))
noncomputable abbrev wjtR (w:World) (a d:Int) (o:List (Nat×Nat×Bool)):=runR w ⟨o,[],Ys⟩ 50 13 Tryz.f50 kareJobs150_ (stA [pJb a d]) (rB (Kj a d))
theorem wjt0 {w:World}(a d:Int):wjtR w a d [(50,5,true),(50,10,true)]=some (.ret,[frB 0 a 7=true,frB 0 d 200=true,Value.bool (Kj a d)=Value.bool !true]):=by kernel_rfl
theorem wjt1 {w:World}(a d:Int):wjtR w a d [(50,5,true),(50,10,false)]=some (.ret,[frB 0 a 7=true,frB 0 d 200=false,Value.bool (Kj a d)=Value.bool !false]):=by kernel_rfl
theorem wjt2 {w:World}(a d:Int):wjtR w a d [(50,5,false)]=some (.ret,[frB 0 a 7=false,Value.bool (Kj a d)=Value.bool true]):=by kernel_rfl
theorem wj_ok (hN:cU) (a d:Int):uG 50 [pJb a d] (fun _=>rB (Kj a d)):=by
 intro w vs hG hp;refine kM hG hN (ex:=Ys) (cbL hN hG (cb _)) (fn:=Tryz.f50) Tryz.func50 (c:=codeOf Tryz.f50) (by kernel_rfl) (args:=[pJb a d]) (by kernel_rfl) hp (fun hR _ hA=>?_);rcases cu (frB 0 a 7) with q5|q5
 ·skip
  rcases cu (frB 0 d 200) with q10|q10
  ·skip
   refine cS (wjt0 a d) (hR _ rfl) hA (by (repeat' (first|exact trivial|apply And.intro))<;>first|exact cE.refl _ _|exact fun _ _=>cL.refl _ _|exact ce rfl|exact cg _ _|exact ci _ _|(with_reducible assumption)|omega|with_reducible rfl|(simp only[cc];omega)|(intro j hj;exact absurd hj (cj _))|exact cw Value.bool (by unfold Kj;rw[q5];first|rfl|(rw[q10];rfl))|rfl)
  ·skip
   refine cS (wjt1 a d) (hR _ rfl) hA (by (repeat' (first|exact trivial|apply And.intro))<;>first|exact cE.refl _ _|exact fun _ _=>cL.refl _ _|exact ce rfl|exact cg _ _|exact ci _ _|(with_reducible assumption)|omega|with_reducible rfl|(simp only[cc];omega)|(intro j hj;exact absurd hj (cj _))|exact cw Value.bool (by unfold Kj;rw[q5];first|rfl|(rw[q10];rfl))|rfl)
 ·skip
  refine cS (wjt2 a d) (hR _ rfl) hA (by (repeat' (first|exact trivial|apply And.intro))<;>first|exact cE.refl _ _|exact fun _ _=>cL.refl _ _|exact ce rfl|exact cg _ _|exact ci _ _|(with_reducible assumption)|omega|with_reducible rfl|(simp only[cc];omega)|(intro j hj;exact absurd hj (cj _))|exact cw Value.bool (by unfold Kj;rw[q5];first|rfl|(rw[q10];rfl))|rfl)
def conWj:Con
 |[.agg [.lit (.int .i64 a),.lit (.int .i64 d)]]=>some (vr (.bool (Kj a d)),[])
 |_=>none
theorem cjc {lo:Nat}{w0:World}(hN:cU) (hG:Gr w0) (hlo:lo<=w0.heap.size):∀ l r ob,conWj l=some (r,ob)->cX ob->jL (Cx false lo w0) (.call 50) l r:=by
 intro l r ob h ho;unfold conWj at h;split at h
 ·injection h with h;injection h with h1 h2;subst h1;subst h2
  exact(wj_ok hN _ _).val hG hlo (jB Tryz.func50 (by kernel_rfl) rfl)
 ·cases h
abbrev exWj:List (Nat×Con):=[(50,conWj)]
theorem exWj_ok {lo:Nat}{w0:World}(hN:cU) (hG:Gr w0) (hlo:lo<=w0.heap.size):yf false lo w0 exWj:=cV (cjc hN hG hlo) jF
abbrev ijI (lo:Nat×Nat) (J:List Jb) (i:Nat):St Dx:=⟨1,[(0,.val (.one (.sym 0 0))),(1,.val (.one (.lit (.func (.func 50) #[] #[])))),(7,.val (.one (.lit (ii (J.length:Int))))),(8,.val (.one (.lit (ii (i:Int)))))],[(0,.cls (.ls (lst lo.1 lo.2 2 J fJ)))],[]⟩
theorem ija {w:World}(lo:Nat×Nat) (J:List Jb):run w ⟨[],[],exWj⟩ 57 19 kJob57_ (stA [pJs lo J,pF 50]) (ijI lo J 0)=some (.normal,[sD w (.ls (lst lo.1 lo.2 2 J fJ)),eA (Value.func (Fn.func 50) #[] #[]),ii (J.length:Int)=goInt (J.length:Int),ii (↑0:Int)=Value.int IntKind.i64 0]):=by kernel_rfl
theorem ije {w:World}(lo:Nat×Nat) (J:List Jb) (i:Nat):runR w ⟨[],[],exWj⟩ 57 19 Tryz.f57 kJob57_nt (ijI lo J i) (rI (ixP J.length (uq J)))=some (.ret,[Value.int IntKind.i64 (ixP J.length (uq J))=Value.int IntKind.i64 (-1)]):=by kernel_rfl
noncomputable abbrev ijbTe0 (w:World) (l0:Nat×Nat) (J:List Jb) (i:Nat) (o:List (Nat×Nat×Bool)):=run w ⟨o,[],exWj⟩ 57 19 kJob57_nl (ijI l0 J i) (ijI l0 J i)
noncomputable abbrev ijbTnal (w:World) (l0:Nat×Nat) (J:List Jb) (i:Nat) (o:List (Nat×Nat×Bool)):=run w ⟨o,[],exWj⟩ 57 19 kJob57_nl (ijI l0 J i) (ijI l0 J (i+1))
noncomputable abbrev ijbR (w:World) (l0:Nat×Nat) (J:List Jb) (i:Nat) (o:List (Nat×Nat×Bool)):=runR w ⟨o,[],exWj⟩ 57 19 Tryz.f57 kJob57_nl (ijI l0 J i) (rI (ixP J.length (uq J)))
theorem ijb0 {w:World}(l0:Nat×Nat) (J:List Jb) (i:Nat):ijbR w l0 J i [(57,9,true),(57,16,true)]=some (.ret,[decide ((i:Int)<(J.length:Int))=true,i<J.length,i<J.length,Kj (J.getD i default).1 (J.getD i default).2=true,Value.int IntKind.i64 (ixP J.length (uq J))=ii (i:Int)]):=by kernel_rfl
theorem ijb1 {w:World}(l0:Nat×Nat) (J:List Jb) (i:Nat):ijbTnal w l0 J i [(57,9,true),(57,16,false)]=some (.normal,[decide ((i:Int)<(J.length:Int))=true,i<J.length,i<J.length,Kj (J.getD i default).1 (J.getD i default).2=false,ko ((i:Int)+1),sD w (.ls (lst l0.1 l0.2 2 J fJ)),eA (Value.func (Fn.func 50) #[] #[]),eA (ii (J.length:Int)),ii (↑(i+1):Int)=Value.int IntKind.i64 ((i:Int)+1)]):=by kernel_rfl
theorem ijb2 {w:World}(l0:Nat×Nat) (J:List Jb) (i:Nat):ijbTe0 w l0 J i [(57,9,false)]=some (.exit 0,[decide ((i:Int)<(J.length:Int))=false,sD w (.ls (lst l0.1 l0.2 2 J fJ)),eA (Value.func (Fn.func 50) #[] #[]),eA (ii (J.length:Int)),eA (ii (i:Int))]):=by kernel_rfl
theorem ijF_ok (hN:cU) (l0:Nat×Nat) (J:List Jb) (hl:J.length<=1000000):uG 57 [pJs l0 J,pF 50] (fun _=>rI (ixP J.length (uq J))):=by
 intro w vs hG hp;refine kM hG hN (ex:=exWj) (exWj_ok hN hG (cb _)) (fn:=Tryz.f57) Tryz.func57 (c:=codeOf Tryz.f57) (by kernel_rfl) (args:=[pJs l0 J,pF 50]) (by kernel_rfl) hp (fun hR _ hA=>?_);refine cZ (ija l0 J) (hR _ rfl) hA (fun a w1 hA=>jw ?_);refine kb (fun i=>ijI l0 J i) (fun i=>i<=J.length/\∀ k,k<i->uq J k=false) (fun i=>J.length-i) (L:=kJob57_n) (ks:=kJob57_nt) (id:=0) (c:=jq kJob57_n) (by kernel_rfl) 0 ⟨cQ _,by omega⟩ hA (fun i a2 w2 hi hA=>?_);rcases cu (decide ((i:Int)<(J.length:Int))) with q9|q9
 ·skip
  have p9:=cH q9;rcases cu (uq J i) with q16|q16
  ·skip
   have e0:=cw (Value.int .i64) (CK (n:=J.length) (p:=uq J) (i:=i) (by omega) q16 hi.2);refine cS (ijb0 l0 J i) (hR _ rfl) hA (by (repeat' (first|exact trivial|apply And.intro))<;>first|exact cE.refl _ _|exact fun _ _=>cL.refl _ _|exact ce rfl|exact cg _ _|exact ci _ _|(with_reducible assumption)|omega|with_reducible rfl|(simp only[cc];omega)|(intro j hj;exact absurd hj (cj _))|exact q16|rfl)
  ·skip
   refine cZ (ijb1 l0 J i) (hR _ rfl) hA (fun aT wT hT=>?_) (by (repeat' (first|exact trivial|apply And.intro))<;>first|exact cE.refl _ _|exact fun _ _=>cL.refl _ _|exact ce rfl|exact cg _ _|exact ci _ _|(with_reducible assumption)|omega|with_reducible rfl|(simp only[cc];omega)|(intro j hj;exact absurd hj (cj _))|exact q16|rfl);exact jc (by kernel_rfl) ⟨i+1,⟨by omega,fun k hk=>by rcases Nat.lt_succ_iff_lt_or_eq.1 hk with h|rfl;exact hi.2 k h;exact q16⟩,hT,by omega⟩
 ·skip
  have p9:=cO q9;refine cZ (ijb2 l0 J i) (hR _ rfl) hA (fun aT wT hT=>?_) (by (repeat' (first|exact trivial|apply And.intro))<;>first|exact cE.refl _ _|exact fun _ _=>cL.refl _ _|exact ce rfl|exact cg _ _|exact ci _ _|(with_reducible assumption)|omega|with_reducible rfl|(simp only[cc];omega)|(intro j hj;exact absurd hj (cj _))|exact q16|rfl);refine jp _ (by kernel_rfl) ?_;refine cS (ije l0 J i) (hR _ rfl) hT ⟨cw (Value.int .i64) (Kl fun k hk=>hi.2 k (by omega)),trivial⟩
abbrev exIj (l0:Nat×Nat) (J:List Jb):List (Nat×Con):=[(57,uc [pJs l0 J,pF 50] (vr (.int .i64 (ixP J.length (uq J)))))]
theorem exIj_ok {lo:Nat}{l0:Nat×Nat}{w0:World}{J:List Jb}(hN:cU) (hG:Gr w0) (hlo:lo<=w0.heap.size) (hl:J.length<=1000000):yf false lo w0 (exIj l0 J):=cV (jO ((ijF_ok hN l0 J hl).val hG hlo (jB Tryz.func57 (by kernel_rfl) rfl))) jF
noncomputable abbrev cjtR (w:World) (l0:Nat×Nat) (J:List Jb)  (o:List (Nat×Nat×Bool)):=runR w ⟨o,[],(exIj l0 J)⟩ 27 9 Tryz.f27 kJob27_ (stA [pJs l0 J,pF 50]) (rB (anyP J.length (uq J)))
theorem cjt0 {w:World}(l0:Nat×Nat) (J:List Jb):cjtR w l0 J [(27,8,true)]=some (.ret,[[Pat.one (Grp.cls (Dx.ls (lst l0.1 l0.2 2 J fJ))),Pat.one (Grp.lit (Value.func (Fn.func 50) #[] #[]))]=[pJs l0 J,pF 50],decide (ixP J.length (uq J)>=0)=true,Value.bool (anyP J.length (uq J))=Value.bool true]):=by kernel_rfl
theorem cjt1 {w:World}(l0:Nat×Nat) (J:List Jb):cjtR w l0 J [(27,8,false)]=some (.ret,[[Pat.one (Grp.cls (Dx.ls (lst l0.1 l0.2 2 J fJ))),Pat.one (Grp.lit (Value.func (Fn.func 50) #[] #[]))]=[pJs l0 J,pF 50],decide (ixP J.length (uq J)>=0)=false,Value.bool (anyP J.length (uq J))=Value.bool false]):=by kernel_rfl
theorem cjF_ok (hN:cU) (l0:Nat×Nat) (J:List Jb) (hl:J.length<=1000000):uG 27 [pJs l0 J,pF 50] (fun _=>rB (anyP J.length (uq J))):=by
 intro w vs hG hp;refine kM hG hN (ex:=(exIj l0 J)) (exIj_ok hN hG (cb _) hl) (fn:=Tryz.f27) Tryz.func27 (c:=codeOf Tryz.f27) (by kernel_rfl) (args:=[pJs l0 J,pF 50]) (by kernel_rfl) hp (fun hR _ hA=>?_);rcases cu (decide (ixP J.length (uq J)>=0)) with q8|q8
 ·skip
  have p8:=cH q8
  first|have e0:=cw Value.bool (Gl.symm.trans q8)|skip
  refine cS (cjt0 l0 J) (hR _ rfl) hA
 ·skip
  have p8:=cO q8
  first|have e0:=cw Value.bool (Gl.symm.trans q8)|skip
  refine cS (cjt1 l0 J) (hR _ rfl) hA
abbrev exCj (l0:Nat×Nat) (J:List Jb):List (Nat×Con):=[(27,uc [pJs l0 J,pF 50] (vr (.bool (anyP J.length (uq J)))))]
theorem exCj_ok {lo:Nat}{l0:Nat×Nat}{w0:World}{J:List Jb}(hN:cU) (hG:Gr w0) (hlo:lo<=w0.heap.size) (hl:J.length<=1000000):yf false lo w0 (exCj l0 J):=cV (jO ((cjF_ok hN l0 J hl).val hG hlo (jB Tryz.func27 (by kernel_rfl) rfl))) jF
noncomputable abbrev ajtR (w:World) (l0:Nat×Nat) (J:List Jb)  (o:List (Nat×Nat×Bool)):=runR w ⟨o,[],(exCj l0 J)⟩ 20 13 Tryz.f20 kareJobs20_ (stA [pJs l0 J]) (rB (kq J))
theorem ajt0 {w:World}(l0:Nat×Nat) (J:List Jb):ajtR w l0 J [(20,6,true),(20,10,true)]=some (.ret,[decide ((J.length:Int)<=30)=true,anyP J.length (uq J)=true,[Pat.one (Grp.cls (Dx.ls (lst l0.1 l0.2 2 J fJ))),Pat.one (Grp.lit (Value.func (Fn.func 50) #[] #[]))]=[pJs l0 J,pF 50],Value.bool (kq J)=Value.bool !true]):=by kernel_rfl
theorem ajt1 {w:World}(l0:Nat×Nat) (J:List Jb):ajtR w l0 J [(20,6,true),(20,10,false)]=some (.ret,[decide ((J.length:Int)<=30)=true,anyP J.length (uq J)=false,[Pat.one (Grp.cls (Dx.ls (lst l0.1 l0.2 2 J fJ))),Pat.one (Grp.lit (Value.func (Fn.func 50) #[] #[]))]=[pJs l0 J,pF 50],Value.bool (kq J)=Value.bool !false]):=by kernel_rfl
theorem ajt2 {w:World}(l0:Nat×Nat) (J:List Jb):ajtR w l0 J [(20,6,false)]=some (.ret,[decide ((J.length:Int)<=30)=false,Value.bool (kq J)=Value.bool false]):=by kernel_rfl
theorem aj_ok (hN:cU) (l0:Nat×Nat) (J:List Jb) (hl:J.length<=1000000):uG 20 [pJs l0 J] (fun _=>rB (kq J)):=by
 intro w vs hG hp;refine kM hG hN (ex:=(exCj l0 J)) (exCj_ok hN hG (cb _) hl) (fn:=Tryz.f20) Tryz.func20 (c:=codeOf Tryz.f20) (by kernel_rfl) (args:=[pJs l0 J]) (by kernel_rfl) hp (fun hR _ hA=>?_);rcases cu (decide ((J.length:Int)<=30)) with q6|q6
 ·skip
  have p6:=cH q6;rcases cu (anyP J.length (uq J)) with q10|q10
  ·skip
   refine cS (ajt0 l0 J) (hR _ rfl) hA (by (repeat' (first|exact trivial|apply And.intro))<;>first|exact cE.refl _ _|exact fun _ _=>cL.refl _ _|exact ce rfl|exact cg _ _|exact ci _ _|(with_reducible assumption)|omega|with_reducible rfl|(simp only[cc];omega)|(intro j hj;exact absurd hj (cj _))|exact cw Value.bool (by unfold kq;rw[q6];first|rfl|(rw[q10];rfl))|rfl)
  ·skip
   refine cS (ajt1 l0 J) (hR _ rfl) hA (by (repeat' (first|exact trivial|apply And.intro))<;>first|exact cE.refl _ _|exact fun _ _=>cL.refl _ _|exact ce rfl|exact cg _ _|exact ci _ _|(with_reducible assumption)|omega|with_reducible rfl|(simp only[cc];omega)|(intro j hj;exact absurd hj (cj _))|exact cw Value.bool (by unfold kq;rw[q6];first|rfl|(rw[q10];rfl))|rfl)
 ·skip
  have p6:=cO q6;refine cS (ajt2 l0 J) (hR _ rfl) hA (by (repeat' (first|exact trivial|apply And.intro))<;>first|exact cE.refl _ _|exact fun _ _=>cL.refl _ _|exact ce rfl|exact cg _ _|exact ci _ _|(with_reducible assumption)|omega|with_reducible rfl|(simp only[cc];omega)|(intro j hj;exact absurd hj (cj _))|exact cw Value.bool (by unfold kq;rw[q6];first|rfl|(rw[q10];rfl))|rfl)
end Pe.F
namespace Pe.F
noncomputable def kareTeams152_:List Kp:=[.code (codeOf Tryz.f52)]
noncomputable def kIndexFunc77_:List Kp:=[.code (codeOf Tryz.f77)]
noncomputable def kIndexFunc77_n:List Kp:=next kIndexFunc77_
noncomputable def kIndexFunc77_nl:List Kp:=[.code (jq kIndexFunc77_n)]
noncomputable def kContainsFunc54_:List Kp:=[.code (codeOf Tryz.f54)]
noncomputable def kcalendar51_:List Kp:=[.code (codeOf Tryz.f51)]
noncomputable def kIndexFunc77_nt:List Kp:=kIndexFunc77_n.tail
noncomputable def kTeam78_:List Kp:=[.code (codeOf Tryz.f78)]
noncomputable def kTeam78_n:List Kp:=next kTeam78_
noncomputable def kTeam78_nt:List Kp:=kTeam78_n.tail
noncomputable def kTeam78_nl:List Kp:=[.code (jq kTeam78_n)]
noncomputable abbrev wntR (w:World) (x:Int) (o:List (Nat×Nat×Bool)):=runR w ⟨o,[],Ys⟩ 52 6 Tryz.f52 kareTeams152_ (stA [pI x]) (rB (caz x))
theorem wnt0 {w:World}(x:Int):wntR w x []=some (.ret,[Value.bool (caz x)=Value.bool !frB 0 x 20]):=by kernel_rfl
theorem wn_ok (hN:cU) (x:Int):uG 52 [pI x] (fun _=>rB (caz x)):=by
 intro w vs hG hp;refine kM hG hN (ex:=Ys) (cbL hN hG (cb _)) (fn:=Tryz.f52) Tryz.func52 (c:=codeOf Tryz.f52) (by kernel_rfl) (args:=[pI x]) (by kernel_rfl) hp (fun hR _ hA=>?_);refine cS (wnt0 x) (hR _ rfl) hA
def conWn:Con
 |[.one (.lit (.int .i64 x))]=>some (vr (.bool (caz x)),[])
 |_=>none
theorem cis {lo:Nat}{w0:World}(hN:cU) (hG:Gr w0) (hlo:lo<=w0.heap.size):∀ l r ob,conWn l=some (r,ob)->cX ob->jL (Cx false lo w0) (.call 52) l r:=by
 intro l r ob h ho;unfold conWn at h;split at h
 ·injection h with h;injection h with h1 h2;subst h1;subst h2
  exact(wn_ok hN _).val hG hlo (jB Tryz.func52 (by kernel_rfl) rfl)
 ·cases h
abbrev exWn:List (Nat×Con):=[(52,conWn)]
theorem exWn_ok {lo:Nat}{w0:World}(hN:cU) (hG:Gr w0) (hlo:lo<=w0.heap.size):yf false lo w0 exWn:=cV (cis hN hG hlo) jF
abbrev fz (i:Int):List (Grp Dx):=[.lit (ii i)]
abbrev pNs (lo:Nat×Nat) (L:List Int):Pat Dx:=.one (.cls (.ls (lst lo.1 lo.2 1 L fz)))
abbrev inI (lo:Nat×Nat) (L:List Int) (i:Nat):St Dx:=⟨1,[(0,.val (.one (.sym 0 0))),(1,.val (.one (.lit (.func (.func 52) #[] #[])))),(7,.val (.one (.lit (ii (L.length:Int))))),(8,.val (.one (.lit (ii (i:Int)))))],[(0,.cls (.ls (lst lo.1 lo.2 1 L fz)))],[]⟩
theorem ina {w:World}(lo:Nat×Nat) (L:List Int):run w ⟨[],[],exWn⟩ 77 19 kIndexFunc77_ (stA [pNs lo L,pF 52]) (inI lo L 0)=some (.normal,[sD w (.ls (lst lo.1 lo.2 1 L fz)),eA (Value.func (Fn.func 52) #[] #[]),ii (L.length:Int)=goInt (L.length:Int),ii (↑0:Int)=Value.int IntKind.i64 0]):=by kernel_rfl
theorem ine {w:World}(lo:Nat×Nat) (L:List Int) (i:Nat):runR w ⟨[],[],exWn⟩ 77 19 Tryz.f77 kIndexFunc77_nt (inI lo L i) (rI (ixP L.length (uj L)))=some (.ret,[Value.int IntKind.i64 (ixP L.length (uj L))=Value.int IntKind.i64 (-1)]):=by kernel_rfl
noncomputable abbrev inbTe0 (w:World) (l0:Nat×Nat) (L:List Int) (i:Nat) (o:List (Nat×Nat×Bool)):=run w ⟨o,[],exWn⟩ 77 19 kIndexFunc77_nl (inI l0 L i) (inI l0 L i)
noncomputable abbrev inbTnal (w:World) (l0:Nat×Nat) (L:List Int) (i:Nat) (o:List (Nat×Nat×Bool)):=run w ⟨o,[],exWn⟩ 77 19 kIndexFunc77_nl (inI l0 L i) (inI l0 L (i+1))
noncomputable abbrev inbR (w:World) (l0:Nat×Nat) (L:List Int) (i:Nat) (o:List (Nat×Nat×Bool)):=runR w ⟨o,[],exWn⟩ 77 19 Tryz.f77 kIndexFunc77_nl (inI l0 L i) (rI (ixP L.length (uj L)))
theorem inb0 {w:World}(l0:Nat×Nat) (L:List Int) (i:Nat):inbR w l0 L i [(77,9,true),(77,16,true)]=some (.ret,[decide ((i:Int)<(L.length:Int))=true,i<L.length,i<L.length,caz (L.getD i default)=true,Value.int IntKind.i64 (ixP L.length (uj L))=ii (i:Int)]):=by kernel_rfl
theorem inb1 {w:World}(l0:Nat×Nat) (L:List Int) (i:Nat):inbTnal w l0 L i [(77,9,true),(77,16,false)]=some (.normal,[decide ((i:Int)<(L.length:Int))=true,i<L.length,i<L.length,caz (L.getD i default)=false,ko ((i:Int)+1),sD w (.ls (lst l0.1 l0.2 1 L fz)),eA (Value.func (Fn.func 52) #[] #[]),eA (ii (L.length:Int)),ii (↑(i+1):Int)=Value.int IntKind.i64 ((i:Int)+1)]):=by kernel_rfl
theorem inb2 {w:World}(l0:Nat×Nat) (L:List Int) (i:Nat):inbTe0 w l0 L i [(77,9,false)]=some (.exit 0,[decide ((i:Int)<(L.length:Int))=false,sD w (.ls (lst l0.1 l0.2 1 L fz)),eA (Value.func (Fn.func 52) #[] #[]),eA (ii (L.length:Int)),eA (ii (i:Int))]):=by kernel_rfl
theorem inF_ok (hN:cU) (l0:Nat×Nat) (L:List Int) (hl:L.length<=1000000):uG 77 [pNs l0 L,pF 52] (fun _=>rI (ixP L.length (uj L))):=by
 intro w vs hG hp;refine kM hG hN (ex:=exWn) (exWn_ok hN hG (cb _)) (fn:=Tryz.f77) Tryz.func77 (c:=codeOf Tryz.f77) (by kernel_rfl) (args:=[pNs l0 L,pF 52]) (by kernel_rfl) hp (fun hR _ hA=>?_);refine cZ (ina l0 L) (hR _ rfl) hA (fun a w1 hA=>jw ?_);refine kb (fun i=>inI l0 L i) (fun i=>i<=L.length/\∀ k,k<i->uj L k=false) (fun i=>L.length-i) (L:=kIndexFunc77_n) (ks:=kIndexFunc77_nt) (id:=0) (c:=jq kIndexFunc77_n) (by kernel_rfl) 0 ⟨cQ _,by omega⟩ hA (fun i a2 w2 hi hA=>?_);rcases cu (decide ((i:Int)<(L.length:Int))) with q9|q9
 ·skip
  have p9:=cH q9;rcases cu (uj L i) with q16|q16
  ·skip
   have e0:=cw (Value.int .i64) (CK (n:=L.length) (p:=uj L) (i:=i) (by omega) q16 hi.2);refine cS (inb0 l0 L i) (hR _ rfl) hA (by (repeat' (first|exact trivial|apply And.intro))<;>first|exact cE.refl _ _|exact fun _ _=>cL.refl _ _|exact ce rfl|exact cg _ _|exact ci _ _|(with_reducible assumption)|omega|with_reducible rfl|(simp only[cc];omega)|(intro j hj;exact absurd hj (cj _))|exact q16|rfl)
  ·skip
   refine cZ (inb1 l0 L i) (hR _ rfl) hA (fun aT wT hT=>?_) (by (repeat' (first|exact trivial|apply And.intro))<;>first|exact cE.refl _ _|exact fun _ _=>cL.refl _ _|exact ce rfl|exact cg _ _|exact ci _ _|(with_reducible assumption)|omega|with_reducible rfl|(simp only[cc];omega)|(intro j hj;exact absurd hj (cj _))|exact q16|rfl);exact jc (by kernel_rfl) ⟨i+1,⟨by omega,fun k hk=>by rcases Nat.lt_succ_iff_lt_or_eq.1 hk with h|rfl;exact hi.2 k h;exact q16⟩,hT,by omega⟩
 ·skip
  have p9:=cO q9;refine cZ (inb2 l0 L i) (hR _ rfl) hA (fun aT wT hT=>?_) (by (repeat' (first|exact trivial|apply And.intro))<;>first|exact cE.refl _ _|exact fun _ _=>cL.refl _ _|exact ce rfl|exact cg _ _|exact ci _ _|(with_reducible assumption)|omega|with_reducible rfl|(simp only[cc];omega)|(intro j hj;exact absurd hj (cj _))|exact q16|rfl);refine jp _ (by kernel_rfl) ?_;refine cS (ine l0 L i) (hR _ rfl) hT ⟨cw (Value.int .i64) (Kl fun k hk=>hi.2 k (by omega)),trivial⟩
abbrev exIn (l0:Nat×Nat) (L:List Int):List (Nat×Con):=[(77,uc [pNs l0 L,pF 52] (vr (.int .i64 (ixP L.length (uj L)))))]
theorem exIn_ok {lo:Nat}{l0:Nat×Nat}{w0:World}{L:List Int}(hN:cU) (hG:Gr w0) (hlo:lo<=w0.heap.size) (hl:L.length<=1000000):yf false lo w0 (exIn l0 L):=cV (jO ((inF_ok hN l0 L hl).val hG hlo (jB Tryz.func77 (by kernel_rfl) rfl))) jF
noncomputable abbrev cntR (w:World) (l0:Nat×Nat) (L:List Int)  (o:List (Nat×Nat×Bool)):=runR w ⟨o,[],(exIn l0 L)⟩ 54 9 Tryz.f54 kContainsFunc54_ (stA [pNs l0 L,pF 52]) (rB (anyP L.length (uj L)))
theorem cnt0 {w:World}(l0:Nat×Nat) (L:List Int):cntR w l0 L [(54,8,true)]=some (.ret,[[Pat.one (Grp.cls (Dx.ls (lst l0.1 l0.2 1 L fz))),Pat.one (Grp.lit (Value.func (Fn.func 52) #[] #[]))]=[pNs l0 L,pF 52],decide (ixP L.length (uj L)>=0)=true,Value.bool (anyP L.length (uj L))=Value.bool true]):=by kernel_rfl
theorem cnt1 {w:World}(l0:Nat×Nat) (L:List Int):cntR w l0 L [(54,8,false)]=some (.ret,[[Pat.one (Grp.cls (Dx.ls (lst l0.1 l0.2 1 L fz))),Pat.one (Grp.lit (Value.func (Fn.func 52) #[] #[]))]=[pNs l0 L,pF 52],decide (ixP L.length (uj L)>=0)=false,Value.bool (anyP L.length (uj L))=Value.bool false]):=by kernel_rfl
theorem cnF_ok (hN:cU) (l0:Nat×Nat) (L:List Int) (hl:L.length<=1000000):uG 54 [pNs l0 L,pF 52] (fun _=>rB (anyP L.length (uj L))):=by
 intro w vs hG hp;refine kM hG hN (ex:=(exIn l0 L)) (exIn_ok hN hG (cb _) hl) (fn:=Tryz.f54) Tryz.func54 (c:=codeOf Tryz.f54) (by kernel_rfl) (args:=[pNs l0 L,pF 52]) (by kernel_rfl) hp (fun hR _ hA=>?_);rcases cu (decide (ixP L.length (uj L)>=0)) with q8|q8
 ·skip
  have p8:=cH q8
  first|have e0:=cw Value.bool (Gl.symm.trans q8)|skip
  refine cS (cnt0 l0 L) (hR _ rfl) hA
 ·skip
  have p8:=cO q8
  first|have e0:=cw Value.bool (Gl.symm.trans q8)|skip
  refine cS (cnt1 l0 L) (hR _ rfl) hA
def JF (L:Lt Dx):List Int:=(List.range L.n).map fun j=>match L.g j with
 |[.lit (.int .i64 x)]=>x
 |_=>0
theorem ceC {lo ty:Nat}{L:List Int}:JF (lst lo ty 1 L fz)=L:=by
 unfold JF;apply yz;intro i;rw[uh];show Option.map _ ((List.range L.length)[i]?)=_;rcases jj i L.length with h|h
 ·rw[List.getElem?_range h,jl h];show some (L.getD i default)=_;rw[uD,jl h];rfl
 ·rw[uC (by simpa using h),uC h];rfl
def conCn:Con
 |[.one (.cls (.ls L)),.one (.lit f)]=>some (vr (.bool (anyP (JF L).length (uj (JF L)))),[L=lst L.lo L.ty 1 (JF L) fz,f=.func (.func 52) #[] #[],(JF L).length<=1000000])
 |_=>none
theorem chM {lo:Nat}{w0:World}(hN:cU) (hG:Gr w0) (hlo:lo<=w0.heap.size):∀ l r ob,conCn l=some (r,ob)->cX ob->jL (Cx false lo w0) (.call 54) l r:=by
 intro l r ob h ho;unfold conCn at h;split at h
 ·rename_i L f;injection h with h;injection h with h1 h2;subst h1;subst h2
  obtain⟨h1,rfl,h2,_⟩:=ho;have:=(cnF_ok hN (L.lo,L.ty) (JF L) h2).val (b:=false) hG hlo (jB Tryz.func54 (by kernel_rfl) rfl);rw[h1,ceC];exact this
 ·cases h
abbrev fTm (l1:Nat×Bool) (t:Tm):List (Grp Dx):=[.lit (.int .u8 (Int.ofNat t.1.1)),.cls (.ls (lst l1.1 (cond l1.2 t.1.2 3) 1 t.2 fz))]
abbrev pTs (l0:Nat×Nat) (l1:Nat×Bool) (T:List Tm):Pat Dx:=.one (.cls (.ls (lst l0.1 l0.2 2 T (fTm l1))))
noncomputable abbrev caltR (w:World) (l0:Nat×Nat) (l1:Nat×Bool) (T:List Tm) (o:List (Nat×Nat×Bool)):=runR w ⟨o,[],[]⟩ 51 11 Tryz.f51 kcalendar51_ (stA [pTs l0 l1 T]) (rI (cal T:Int))
theorem calt0 {w:World}(l0:Nat×Nat) (l1:Nat×Bool) (T:List Tm):caltR w l0 l1 T [(51,5,true)]=some (.ret,[decide ((T.length:Int)=0)=true,Value.int IntKind.i64 (↑(cal T):Int)=Value.int IntKind.i64 0]):=by kernel_rfl
theorem calt1 {w:World}(l0:Nat×Nat) (l1:Nat×Bool) (T:List Tm):caltR w l0 l1 T [(51,5,false)]=some (.ret,[decide ((T.length:Int)=0)=false,0<T.length,0<T.length,Value.int IntKind.i64 (↑(cal T):Int)=goInt (↑(T.getD 0 default).2.length:Int)]):=by kernel_rfl
theorem cal_ok (hN:cU) (l0:Nat×Nat) (l1:Nat×Bool) (T:List Tm):uG 51 [pTs l0 l1 T] (fun _=>rI (cal T:Int)):=by
 intro w vs hG hp;refine kM hG hN (ex:=[]) jF (fn:=Tryz.f51) Tryz.func51 (c:=codeOf Tryz.f51) (by kernel_rfl) (args:=[pTs l0 l1 T]) (by kernel_rfl) hp (fun hR _ hA=>?_);rcases cu (decide ((T.length:Int)=0)) with q5|q5
 ·skip
  have p5:=cH q5;refine cS (calt0 l0 l1 T) (hR _ rfl) hA (by (repeat' (first|exact trivial|apply And.intro))<;>first|exact cE.refl _ _|exact fun _ _=>cL.refl _ _|exact ce rfl|exact cg _ _|exact ci _ _|(with_reducible assumption)|omega|with_reducible rfl|(simp only[cc];omega)|(intro j hj;exact absurd hj (cj _))|(have h0:T=[]:=List.length_eq_zero_iff.1 (by omega);rw[h0];rfl)|rfl)
 ·skip
  have p5:=cO q5;refine cS (calt1 l0 l1 T) (hR _ rfl) hA (by (repeat' (first|exact trivial|apply And.intro))<;>first|exact cE.refl _ _|exact fun _ _=>cL.refl _ _|exact ce rfl|exact cg _ _|exact ci _ _|(with_reducible assumption)|omega|with_reducible rfl|(simp only[cc];omega)|(intro j hj;exact absurd hj (cj _))|(have h0:T=[]:=List.length_eq_zero_iff.1 (by omega);rw[h0];rfl)|rfl)
abbrev pDf (c:Nat):Pat Dx:=.one (.cls (.fn 53 [] [(3,1,[.lit (ii (c:Int))]),(105,1,[.lit (.func (.func 52) #[] #[])])]))
abbrev exCn:List (Nat×Con):=[(54,conCn)]
theorem exCn_ok {lo:Nat}{w0:World}(hN:cU) (hG:Gr w0) (hlo:lo<=w0.heap.size):yf false lo w0 exCn:=cV (chM hN hG hlo) jF
abbrev itI (l0:Nat×Nat) (l1:Nat×Bool) (c:Nat) (T:List Tm) (i:Nat):St Dx:=⟨2,[(0,.val (.one (.sym 0 0))),(1,.val (.one (.sym 1 0))),(7,.val (.one (.lit (ii (T.length:Int))))),(8,.val (.one (.lit (ii (i:Int)))))],[(0,.cls (.ls (lst l0.1 l0.2 2 T (fTm l1)))),(1,.cls (.fn 53 [] [(3,1,[.lit (ii (c:Int))]),(105,1,[.lit (.func (.func 52) #[] #[])])]))],[]⟩
theorem ita {w:World}(l0:Nat×Nat) (l1:Nat×Bool) (c:Nat) (T:List Tm):run w ⟨[],[],exCn⟩ 78 19 kTeam78_ (stA [pTs l0 l1 T,pDf c]) (itI l0 l1 c T 0)=some (.normal,[sD w (.ls (lst l0.1 l0.2 2 T (fTm l1))),sD w (Dx.fn 53 [] [(3,1,[.lit (ii (c:Int))]),(105,1,[.lit (Value.func (Fn.func 52) #[] #[])])]),ii (T.length:Int)=goInt (T.length:Int),ii (↑0:Int)=Value.int IntKind.i64 0]):=by kernel_rfl
theorem ite {w:World}(l0:Nat×Nat) (l1:Nat×Bool) (c:Nat) (T:List Tm) (i:Nat):runR w ⟨[],[],exCn⟩ 78 19 Tryz.f78 kTeam78_nt (itI l0 l1 c T i) (rI (ixP T.length (kF c T)))=some (.ret,[Value.int IntKind.i64 (ixP T.length (kF c T))=Value.int IntKind.i64 (-1)]):=by kernel_rfl
theorem itn {w:World}(l0:Nat×Nat) (l1:Nat×Bool) (c:Nat) (T:List Tm) (i:Nat):run w ⟨[(78,9,true),(53,9,false),(53,14,false)],[],exCn⟩ 78 19 kTeam78_nl (itI l0 l1 c T i) (itI l0 l1 c T (i+1))=some (.normal,[decide ((i:Int)<(T.length:Int))=true,i<T.length,i<T.length,0<1,decide ((↑(T.getD i default).2.length:Int)≠(c:Int))=false,0<1,anyP (JF (lst l1.1 (bif l1.2 then (T.getD i default).1.2 else 3) 1 (T.getD i default).2 fz)).length (uj (JF (lst l1.1 (bif l1.2 then (T.getD i default).1.2 else 3) 1 (T.getD i default).2 fz)))=false,lst l1.1 (bif l1.2 then (T.getD i default).1.2 else 3) 1 (T.getD i default).2 fz=lst l1.1 (bif l1.2 then (T.getD i default).1.2 else 3) 1 (JF (lst l1.1 (bif l1.2 then (T.getD i default).1.2 else 3) 1 (T.getD i default).2 fz)) fz,eA (Value.func (Fn.func 52) #[] #[]),(JF (lst l1.1 (bif l1.2 then (T.getD i default).1.2 else 3) 1 (T.getD i default).2 fz)).length<=1000000,ko ((i:Int)+1),sD w (.ls (lst l0.1 l0.2 2 T (fTm l1))),sD w (Dx.fn 53 [] [(3,1,[.lit (ii (c:Int))]),(105,1,[.lit (Value.func (Fn.func 52) #[] #[])])]),eA (ii (T.length:Int)),ii (↑(i+1):Int)=Value.int IntKind.i64 ((i:Int)+1)]):=by kernel_rfl
theorem itx {w:World}(l0:Nat×Nat) (l1:Nat×Bool) (c:Nat) (T:List Tm) (i:Nat):run w ⟨[(78,9,false)],[],exCn⟩ 78 19 kTeam78_nl (itI l0 l1 c T i) (itI l0 l1 c T i)=some (.exit 0,[decide ((i:Int)<(T.length:Int))=false,sD w (.ls (lst l0.1 l0.2 2 T (fTm l1))),sD w (Dx.fn 53 [] [(3,1,[.lit (ii (c:Int))]),(105,1,[.lit (Value.func (Fn.func 52) #[] #[])])]),eA (ii (T.length:Int)),eA (ii (i:Int))]):=by kernel_rfl
theorem itp {w:World}(l0:Nat×Nat) (l1:Nat×Bool) (c:Nat) (T:List Tm) (i:Nat):runR w ⟨[(78,9,true),(53,9,true)],[],exCn⟩ 78 19 Tryz.f78 kTeam78_nl (itI l0 l1 c T i) (rI (ixP T.length (kF c T)))=some (.ret,[decide ((i:Int)<(T.length:Int))=true,i<T.length,i<T.length,0<1,decide ((↑(T.getD i default).2.length:Int)≠(c:Int))=true,Value.int IntKind.i64 (ixP T.length (kF c T))=ii (i:Int)]):=by kernel_rfl
theorem itq {w:World}(l0:Nat×Nat) (l1:Nat×Bool) (c:Nat) (T:List Tm) (i:Nat):runR w ⟨[(78,9,true),(53,9,false),(53,14,true)],[],exCn⟩ 78 19 Tryz.f78 kTeam78_nl (itI l0 l1 c T i) (rI (ixP T.length (kF c T)))=some (.ret,[decide ((i:Int)<(T.length:Int))=true,i<T.length,i<T.length,0<1,decide ((↑(T.getD i default).2.length:Int)≠(c:Int))=false,0<1,anyP (JF (lst l1.1 (bif l1.2 then (T.getD i default).1.2 else 3) 1 (T.getD i default).2 fz)).length (uj (JF (lst l1.1 (bif l1.2 then (T.getD i default).1.2 else 3) 1 (T.getD i default).2 fz)))=true,lst l1.1 (bif l1.2 then (T.getD i default).1.2 else 3) 1 (T.getD i default).2 fz=lst l1.1 (bif l1.2 then (T.getD i default).1.2 else 3) 1 (JF (lst l1.1 (bif l1.2 then (T.getD i default).1.2 else 3) 1 (T.getD i default).2 fz)) fz,eA (Value.func (Fn.func 52) #[] #[]),(JF (lst l1.1 (bif l1.2 then (T.getD i default).1.2 else 3) 1 (T.getD i default).2 fz)).length<=1000000,Value.int IntKind.i64 (ixP T.length (kF c T))=ii (i:Int)]):=by kernel_rfl
theorem bt_1 {c i:Nat}{T:List Tm}(h:decide (((T.getD i default).2.length:Int)≠(c:Int))=true):kF c T i=true:=by unfold kF badT;rw[h];rfl
theorem bt_2 {c i:Nat}{T:List Tm}(h:decide (((T.getD i default).2.length:Int)≠(c:Int))=false):kF c T i=anyP (T.getD i default).2.length (uj (T.getD i default).2):=by unfold kF badT;rw[h];rfl
theorem itF_ok (hN:cU) (l0:Nat×Nat) (l1:Nat×Bool) (c:Nat) (T:List Tm) (hl:T.length<=1000000) (hs:∀ i,i<T.length->(T.getD i default).2.length<=1000000):uG 78 [pTs l0 l1 T,pDf c] (fun _=>rI (ixP T.length (kF c T))):=by
 intro w vs hG hp;refine kM hG hN (ex:=exCn) (exCn_ok hN hG (cb _)) (fn:=Tryz.f78) Tryz.func78 (c:=codeOf Tryz.f78) (by kernel_rfl) (args:=[pTs l0 l1 T,pDf c]) (by kernel_rfl) hp (fun hR _ hA=>?_);refine cZ (ita l0 l1 c T) (hR _ rfl) hA (fun a w1 hA=>jw ?_);refine kb (fun i=>itI l0 l1 c T i) (fun i=>i<=T.length/\∀ k,k<i->kF c T k=false) (fun i=>T.length-i) (L:=kTeam78_n) (ks:=kTeam78_nt) (id:=0) (c:=jq kTeam78_n) (by kernel_rfl) 0 ⟨cQ _,by omega⟩ hA (fun i a2 w2 hi hA=>?_);rcases cu (decide ((i:Int)<(T.length:Int))) with q9|q9
 ·have p9:=cH q9;have hi1:i<T.length:=by omega
  have hs1:=hs i hi1;rcases cu (decide (((T.getD i default).2.length:Int)≠(c:Int))) with d9|d9
  ·have e0:=cw (Value.int .i64) (CK (n:=T.length) (p:=kF c T) (i:=i) hi1 (bt_1 d9) hi.2);refine cS (itp l0 l1 c T i) (hR _ rfl) hA (by (repeat' (first|exact trivial|apply And.intro))<;>first|exact cE.refl _ _|exact fun _ _=>cL.refl _ _|exact ce rfl|exact cg _ _|exact ci _ _|(with_reducible assumption)|omega|with_reducible rfl|(simp only[cc];omega)|(intro j hj;exact absurd hj (cj _))|exact d9|rfl)
  ·rcases cu (anyP (T.getD i default).2.length (uj (T.getD i default).2)) with d14|d14
   ·have e0:=cw (Value.int .i64) (CK (n:=T.length) (p:=kF c T) (i:=i) hi1 ((bt_2 d9).trans d14) hi.2);refine cS (itq l0 l1 c T i) (hR _ rfl) hA (by (repeat' (first|exact trivial|apply And.intro))<;>first|exact cE.refl _ _|exact fun _ _=>cL.refl _ _|exact ce rfl|exact cg _ _|exact ci _ _|(with_reducible assumption)|omega|with_reducible rfl|(simp only[cc];omega)|(intro j hj;exact absurd hj (cj _))|exact d9|(rw[ceC];first|exact d14|exact hs1|done)|rfl)
   ·refine cZ (itn l0 l1 c T i) (hR _ rfl) hA (fun aT wT hT=>jc (by kernel_rfl) ⟨i+1,⟨hi1,fun k hk=>by rcases Nat.lt_succ_iff_lt_or_eq.1 hk with h|rfl;exact hi.2 k h;exact(bt_2 d9).trans d14⟩,hT,by omega⟩) (by (repeat' (first|exact trivial|apply And.intro))<;>first|exact cE.refl _ _|exact fun _ _=>cL.refl _ _|exact ce rfl|exact cg _ _|exact ci _ _|(with_reducible assumption)|omega|with_reducible rfl|(simp only[cc];omega)|(intro j hj;exact absurd hj (cj _))|exact d9|(rw[ceC];first|exact d14|exact hs1|done)|rfl)
 ·have p9:=cO q9;refine cZ (itx l0 l1 c T i) (hR _ rfl) hA (fun aT wT hT=>jp _ (by kernel_rfl) ?_);refine cS (ite l0 l1 c T i) (hR _ rfl) hT ⟨cw (Value.int .i64) (Kl fun k hk=>hi.2 k (by omega)),trivial⟩
end Pe.F
namespace Pe.F
noncomputable def kTeam55_:List Kp:=[.code (codeOf Tryz.f55)]
noncomputable def kareTeams21_:List Kp:=[.code (codeOf Tryz.f21)]
abbrev Le6 (T:List Tm):Prop:=∀ i,i<T.length->(T.getD i default).2.length<=1000000
abbrev exIt (l0:Nat×Nat) (l1:Nat×Bool) (c:Nat) (T:List Tm):List (Nat×Con):=[(78,uc [pTs l0 l1 T,pDf c] (vr (.int .i64 (ixP T.length (kF c T)))))]
theorem exIt_ok {lo:Nat}{l0:Nat×Nat}{l1:Nat×Bool}{c:Nat}{w0:World}{T:List Tm}(hN:cU) (hG:Gr w0) (hlo:lo<=w0.heap.size) (hl:T.length<=1000000) (hs:Le6 T):yf false lo w0 (exIt l0 l1 c T):=cV (jO ((itF_ok hN l0 l1 c T hl hs).val hG hlo (jB Tryz.func78 (by kernel_rfl) rfl))) jF
noncomputable abbrev cttR (w:World) (l0:Nat×Nat) (l1:Nat×Bool) (c:Nat) (T:List Tm) (o:List (Nat×Nat×Bool)):=runR w ⟨o,[],(exIt l0 l1 c T)⟩ 55 9 Tryz.f55 kTeam55_ (stA [pTs l0 l1 T,pDf c]) (rB (anyP T.length (kF c T)))
theorem ctt0 {w:World}(l0:Nat×Nat) (l1:Nat×Bool) (c:Nat) (T:List Tm):cttR w l0 l1 c T [(55,8,true)]=some (.ret,[[Pat.one (Grp.cls (Dx.ls (lst l0.1 l0.2 2 T (fTm l1)))),Pat.one (Grp.cls (Dx.fn 53 [] [(3,1,[Grp.lit (ii (c:Int))]),(105,1,[Grp.lit (Value.func (Fn.func 52) #[] #[])])]))]=[pTs l0 l1 T,pDf c],decide (ixP T.length (kF c T)>=0)=true,Value.bool (anyP T.length (kF c T))=Value.bool true]):=by kernel_rfl
theorem ctt1 {w:World}(l0:Nat×Nat) (l1:Nat×Bool) (c:Nat) (T:List Tm):cttR w l0 l1 c T [(55,8,false)]=some (.ret,[[Pat.one (Grp.cls (Dx.ls (lst l0.1 l0.2 2 T (fTm l1)))),Pat.one (Grp.cls (Dx.fn 53 [] [(3,1,[Grp.lit (ii (c:Int))]),(105,1,[Grp.lit (Value.func (Fn.func 52) #[] #[])])]))]=[pTs l0 l1 T,pDf c],decide (ixP T.length (kF c T)>=0)=false,Value.bool (anyP T.length (kF c T))=Value.bool false]):=by kernel_rfl
theorem ctF_ok (hN:cU) (l0:Nat×Nat) (l1:Nat×Bool) (c:Nat) (T:List Tm) (hl:T.length<=1000000) (hs:Le6 T):uG 55 [pTs l0 l1 T,pDf c] (fun _=>rB (anyP T.length (kF c T))):=by
 intro w vs hG hp;refine kM hG hN (ex:=(exIt l0 l1 c T)) (exIt_ok hN hG (cb _) hl hs) (fn:=Tryz.f55) Tryz.func55 (c:=codeOf Tryz.f55) (by kernel_rfl) (args:=[pTs l0 l1 T,pDf c]) (by kernel_rfl) hp (fun hR _ hA=>?_);rcases cu (decide (ixP T.length (kF c T)>=0)) with q8|q8
 ·skip
  have p8:=cH q8
  first|have e0:=cw Value.bool (Gl.symm.trans q8)|skip
  refine cS (ctt0 l0 l1 c T) (hR _ rfl) hA
 ·skip
  have p8:=cO q8
  first|have e0:=cw Value.bool (Gl.symm.trans q8)|skip
  refine cS (ctt1 l0 l1 c T) (hR _ rfl) hA
abbrev exAt (l0:Nat×Nat) (l1:Nat×Bool) (T:List Tm):List (Nat×Con):=[(51,uc [pTs l0 l1 T] (vr (ii (cal T:Int)))),(55,uc [pTs l0 l1 T,pDf (cal T)] (vr (.bool (anyP T.length (kF (cal T) T)))))]
theorem cbW {lo:Nat}{l0:Nat×Nat}{l1:Nat×Bool}{w0:World}{T:List Tm}(hN:cU) (hG:Gr w0) (hlo:lo<=w0.heap.size):∀ l r ob,uc [pTs l0 l1 T] (vr (ii (cal T:Int))) l=some (r,ob)->cX ob->jL (Cx false lo w0) (.call 51) l r :=
 jO ((cal_ok hN l0 l1 T).val hG hlo (jB Tryz.func51 (by kernel_rfl) rfl))
theorem exAt_ok {lo:Nat}{l0:Nat×Nat}{l1:Nat×Bool}{w0:World}{T:List Tm}(hN:cU) (hG:Gr w0) (hlo:lo<=w0.heap.size) (hl:T.length<=1000000) (hs:Le6 T):yf false lo w0 (exAt l0 l1 T) :=
 cV (cbW hN hG hlo) (cV (jO ((ctF_ok hN l0 l1 (cal T) T hl hs).val hG hlo (jB Tryz.func55 (by kernel_rfl) rfl))) jF)
noncomputable abbrev attR (w:World) (l0:Nat×Nat) (l1:Nat×Bool) (T:List Tm) (o:List (Nat×Nat×Bool)):=runR w ⟨o,[],(exAt l0 l1 T)⟩ 21 22 Tryz.f21 kareTeams21_ (stA [pTs l0 l1 T]) (rB (jY T))
theorem att0 {w:World}(l0:Nat×Nat) (l1:Nat×Bool) (T:List Tm):attR w l0 l1 T [(21,11,true),(21,14,true),(21,19,true)]=some (.ret,[[Pat.one (Grp.cls (Dx.ls (lst l0.1 l0.2 2 T (fTm l1))))]=[pTs l0 l1 T],decide ((T.length:Int)<=8)=true,decide ((↑(cal T):Int)<=40)=true,anyP T.length (kF (cal T) T)=true,[Pat.one (Grp.cls (Dx.ls (lst l0.1 l0.2 2 T (fTm l1)))),Pat.one (Grp.cls (Dx.fn 53 [] [(3,((List.take 0 (List.map AC.lit [Value.int IntKind.i64 0])).append ((A1.one (AC.lit (ii (↑(cal T):Int)))).cells.append (List.drop (0+(A1.one (AC.lit (ii (↑(cal T):Int)))).cells.length) (List.map AC.lit [Value.int IntKind.i64 0])))).length,[Grp.lit (ii (↑(cal T):Int))]),(105,((List.take 0 (List.map AC.lit [Value.nilFunc])).append ((A1.one (AC.lit (Value.func (Fn.func 52) #[] #[]))).cells.append (List.drop (0+(A1.one (AC.lit (Value.func (Fn.func 52) #[] #[]))).cells.length) (List.map AC.lit [Value.nilFunc])))).length,[Grp.lit (Value.func (Fn.func 52) #[] #[])])]))]=[pTs l0 l1 T,pDf (cal T)],Value.bool (jY T)=Value.bool !true]):=by kernel_rfl
theorem att1 {w:World}(l0:Nat×Nat) (l1:Nat×Bool) (T:List Tm):attR w l0 l1 T [(21,11,true),(21,14,true),(21,19,false)]=some (.ret,[[Pat.one (Grp.cls (Dx.ls (lst l0.1 l0.2 2 T (fTm l1))))]=[pTs l0 l1 T],decide ((T.length:Int)<=8)=true,decide ((↑(cal T):Int)<=40)=true,anyP T.length (kF (cal T) T)=false,[Pat.one (Grp.cls (Dx.ls (lst l0.1 l0.2 2 T (fTm l1)))),Pat.one (Grp.cls (Dx.fn 53 [] [(3,((List.take 0 (List.map AC.lit [Value.int IntKind.i64 0])).append ((A1.one (AC.lit (ii (↑(cal T):Int)))).cells.append (List.drop (0+(A1.one (AC.lit (ii (↑(cal T):Int)))).cells.length) (List.map AC.lit [Value.int IntKind.i64 0])))).length,[Grp.lit (ii (↑(cal T):Int))]),(105,((List.take 0 (List.map AC.lit [Value.nilFunc])).append ((A1.one (AC.lit (Value.func (Fn.func 52) #[] #[]))).cells.append (List.drop (0+(A1.one (AC.lit (Value.func (Fn.func 52) #[] #[]))).cells.length) (List.map AC.lit [Value.nilFunc])))).length,[Grp.lit (Value.func (Fn.func 52) #[] #[])])]))]=[pTs l0 l1 T,pDf (cal T)],Value.bool (jY T)=Value.bool !false]):=by kernel_rfl
theorem att2 {w:World}(l0:Nat×Nat) (l1:Nat×Bool) (T:List Tm):attR w l0 l1 T [(21,11,true),(21,14,false)]=some (.ret,[[Pat.one (Grp.cls (Dx.ls (lst l0.1 l0.2 2 T (fTm l1))))]=[pTs l0 l1 T],decide ((T.length:Int)<=8)=true,decide ((↑(cal T):Int)<=40)=false,Value.bool (jY T)=Value.bool false]):=by kernel_rfl
theorem att3 {w:World}(l0:Nat×Nat) (l1:Nat×Bool) (T:List Tm):attR w l0 l1 T [(21,11,false)]=some (.ret,[[Pat.one (Grp.cls (Dx.ls (lst l0.1 l0.2 2 T (fTm l1))))]=[pTs l0 l1 T],decide ((T.length:Int)<=8)=false,Value.bool (jY T)=Value.bool false]):=by kernel_rfl
theorem at_ok (hN:cU) (l0:Nat×Nat) (l1:Nat×Bool) (T:List Tm) (hl:T.length<=1000000) (hs:Le6 T):uG 21 [pTs l0 l1 T] (fun _=>rB (jY T)):=by
 intro w vs hG hp;refine kM hG hN (ex:=(exAt l0 l1 T)) (exAt_ok hN hG (cb _) hl hs) (fn:=Tryz.f21) Tryz.func21 (c:=codeOf Tryz.f21) (by kernel_rfl) (args:=[pTs l0 l1 T]) (by kernel_rfl) hp (fun hR _ hA=>?_);rcases cu (decide ((T.length:Int)<=8)) with q11|q11
 ·skip
  have p11:=cH q11;rcases cu (decide ((cal T:Int)<=40)) with q14|q14
  ·skip
   have p14:=cH q14;rcases cu (anyP T.length (kF (cal T) T)) with q19|q19
   ·skip
    refine cS (att0 l0 l1 T) (hR _ rfl) hA (by (repeat' (first|exact trivial|apply And.intro))<;>first|exact cE.refl _ _|exact fun _ _=>cL.refl _ _|exact ce rfl|exact cg _ _|exact ci _ _|(with_reducible assumption)|omega|with_reducible rfl|(simp only[cc];omega)|(intro j hj;exact absurd hj (cj _))|exact cw Value.bool (by unfold jY;rw[q11];first|rfl|(rw[q14];first|rfl|(rw[q19];rfl)))|rfl)
   ·skip
    refine cS (att1 l0 l1 T) (hR _ rfl) hA (by (repeat' (first|exact trivial|apply And.intro))<;>first|exact cE.refl _ _|exact fun _ _=>cL.refl _ _|exact ce rfl|exact cg _ _|exact ci _ _|(with_reducible assumption)|omega|with_reducible rfl|(simp only[cc];omega)|(intro j hj;exact absurd hj (cj _))|exact cw Value.bool (by unfold jY;rw[q11];first|rfl|(rw[q14];first|rfl|(rw[q19];rfl)))|rfl)
  ·skip
   have p14:=cO q14;refine cS (att2 l0 l1 T) (hR _ rfl) hA (by (repeat' (first|exact trivial|apply And.intro))<;>first|exact cE.refl _ _|exact fun _ _=>cL.refl _ _|exact ce rfl|exact cg _ _|exact ci _ _|(with_reducible assumption)|omega|with_reducible rfl|(simp only[cc];omega)|(intro j hj;exact absurd hj (cj _))|exact cw Value.bool (by unfold jY;rw[q11];first|rfl|(rw[q14];first|rfl|(rw[q19];rfl)))|rfl)
 ·skip
  have p11:=cO q11;refine cS (att3 l0 l1 T) (hR _ rfl) hA (by (repeat' (first|exact trivial|apply And.intro))<;>first|exact cE.refl _ _|exact fun _ _=>cL.refl _ _|exact ce rfl|exact cg _ _|exact ci _ _|(with_reducible assumption)|omega|with_reducible rfl|(simp only[cc];omega)|(intro j hj;exact absurd hj (cj _))|exact cw Value.bool (by unfold jY;rw[q11];first|rfl|(rw[q14];first|rfl|(rw[q19];rfl)))|rfl)
abbrev pVs (p t:Int):Pat Dx:=.agg [.lit (ii p),.lit (ii t)]
abbrev exSu (l0:Nat×Nat) (l1:Nat×Bool) (T:List Tm):List (Nat×Con):=[(33,cfA),(51,uc [pTs l0 l1 T] (vr (ii (cal T:Int))))]
theorem exSu_ok {lo:Nat}{l0:Nat×Nat}{l1:Nat×Bool}{w0:World}{T:List Tm}(hN:cU) (hG:Gr w0) (hlo:lo<=w0.heap.size):yf false lo w0 (exSu l0 l1 T):=cV (ccn hN hG hlo) (cV (cbW hN hG hlo) jF)
theorem suA {w:World}(l0:Nat×Nat) (l1:Nat×Bool) (T:List Tm) (p t a d:Int):runA w ⟨[(22,19,false)],[],exSu l0 l1 T⟩ 22 39 Tryz.f22 (stA [pTs l0 l1 T,pVs p t,pJb a d]) (rB false)=some (.ret,[[Pat.one (Grp.cls (Dx.ls (lst l0.1 l0.2 2 T (fTm l1))))]=[pTs l0 l1 T],ko ((↑(cal T):Int)-1),ko ((T.length:Int)-1),frB 0 t ((T.length:Int)-1)=false,eA (Value.bool false)]):=by kernel_rfl
theorem suB {w:World}(l0:Nat×Nat) (l1:Nat×Bool) (T:List Tm) (p t a d:Int):runA w ⟨[(22,19,true),(22,24,false)],[],exSu l0 l1 T⟩ 22 39 Tryz.f22 (stA [pTs l0 l1 T,pVs p t,pJb a d]) (rB false)=some (.ret,[[Pat.one (Grp.cls (Dx.ls (lst l0.1 l0.2 2 T (fTm l1))))]=[pTs l0 l1 T],ko ((↑(cal T):Int)-1),ko ((T.length:Int)-1),frB 0 t ((T.length:Int)-1)=true,frB 0 p (if d<(↑(cal T):Int)-1 then d else (↑(cal T):Int)-1)=false,eA (Value.bool false)]):=by kernel_rfl
theorem suC {w:World}(l0:Nat×Nat) (l1:Nat×Bool) (T:List Tm) (p d:Int) (t a:Nat):runA w ⟨[(22,19,true),(22,24,true),(22,37,true)],[],exSu l0 l1 T⟩ 22 39 Tryz.f22 (stA [pTs l0 l1 T,pVs p (Int.ofNat t),pJb (Int.ofNat a) d]) (rB true)=some (.ret,[[Pat.one (Grp.cls (Dx.ls (lst l0.1 l0.2 2 T (fTm l1))))]=[pTs l0 l1 T],ko ((↑(cal T):Int)-1),ko ((T.length:Int)-1),frB 0 (Int.ofNat t) ((T.length:Int)-1)=true,frB 0 p (if d<(↑(cal T):Int)-1 then d else (↑(cal T):Int)-1)=true,t<T.length,t<T.length,a<=8,(T.getD t default).1.1/Nat.pow 2 a<=255,decide (Int.ofNat (((T.getD t default).1.1/Nat.pow 2 a).mod 2)=1)=true,eA (Value.bool true)]):=by kernel_rfl
theorem suD {w:World}(l0:Nat×Nat) (l1:Nat×Bool) (T:List Tm) (p d:Int) (t a:Nat):runA w ⟨[(22,19,true),(22,24,true),(22,37,false)],[],exSu l0 l1 T⟩ 22 39 Tryz.f22 (stA [pTs l0 l1 T,pVs p (Int.ofNat t),pJb (Int.ofNat a) d]) (rB false)=some (.ret,[[Pat.one (Grp.cls (Dx.ls (lst l0.1 l0.2 2 T (fTm l1))))]=[pTs l0 l1 T],ko ((↑(cal T):Int)-1),ko ((T.length:Int)-1),frB 0 (Int.ofNat t) ((T.length:Int)-1)=true,frB 0 p (if d<(↑(cal T):Int)-1 then d else (↑(cal T):Int)-1)=true,t<T.length,t<T.length,a<=8,(T.getD t default).1.1/Nat.pow 2 a<=255,decide (Int.ofNat (((T.getD t default).1.1/Nat.pow 2 a).mod 2)=1)=false,eA (Value.bool false)]):=by kernel_rfl
theorem slA {w:World}(l0:Nat×Nat) (l1:Nat×Bool) (T:List Tm) (p t:Nat):runA w ⟨[],[],[]⟩ 23 15 Tryz.f23 (stA [pTs l0 l1 T,pVs (Int.ofNat p) (Int.ofNat t)]) (rI ((T.getD t default).2.getD p default))=some (.ret,[t<T.length,t<T.length,p<(T.getD t default).2.length,p<(T.getD t default).2.length,Value.int IntKind.i64 ((T.getD t default).2.getD p default)=ii ((T.getD t default).2.getD p default)]):=by kernel_rfl
abbrev Sk8 (T:List Tm):Prop:=∀ i,i<T.length->(T.getD i default).1.1<=255
theorem su_ok (hN:cU) (l0:Nat×Nat) (l1:Nat×Bool) (T:List Tm) (p t a d:Int) (hl:T.length<=1000000) (hc:cal T<=1000000) (hk:Sk8 T) (ha:0<=a) (ha':a<=7):uG 22 [pTs l0 l1 T,pVs p t,pJb a d] (fun _=>rB (kN T p t a d)):=by
 intro w vs hG hp;refine kM hG hN (ex:=(exSu l0 l1 T)) (exSu_ok hN hG (cb _)) (fn:=Tryz.f22) Tryz.func22 (c:=codeOf Tryz.f22) (by kernel_rfl) (args:=[pTs l0 l1 T,pVs p t,pJb a d]) (by kernel_rfl) hp (fun hR _ hA=>?_);have i1:ko (((T.length:Nat):Int)-1):=by constructor<;>omega
 have i2:ko (((cal T:Nat):Int)-1):=by constructor<;>omega
 rcases cu (frB 0 t ((T.length:Int)-1)) with q19|q19
 ·rcases cu (frB 0 p (cbK ((cal T:Int)-1) d)) with q24|q24
  ·have h:=yN.1 q19;obtain⟨t',rfl⟩:∃ n:Nat,t=Int.ofNat n:=⟨t.toNat,(Ev h.1).symm⟩;obtain⟨a',rfl⟩:∃ n:Nat,a=Int.ofNat n:=⟨a.toNat,(Ev ha).symm⟩;have ht:t'<T.length:=by have:=h.2;simp only[cbX] at this;omega
   have ha8:a'<=8:=by simp only[cbX] at ha';omega
   have hs:(T.getD t' default).1.1/Nat.pow 2 a'<=255:=cB (kz _ _) (hk t' ht);rcases cu (cbi (T.getD t' default).1.1 (Int.ofNat a')) with q37|q37
   ·rw[show kN T p (Int.ofNat t') (Int.ofNat a') d=true by unfold kN;rw[q19,q24];exact q37];exact EG (suC l0 l1 T p d t' a') (hR _ rfl) hA (by (repeat' (first|exact trivial|apply And.intro))<;>first|exact cE.refl _ _|exact fun _ _=>cL.refl _ _|exact ce rfl|exact cg _ _|exact ci _ _|(with_reducible assumption)|omega|with_reducible rfl|(simp only[cc];omega)|(intro j hj;exact absurd hj (cj _))|exact q19|exact q24|exact q37|rfl)
   ·rw[show kN T p (Int.ofNat t') (Int.ofNat a') d=false by unfold kN;rw[q19,q24];exact q37];exact EG (suD l0 l1 T p d t' a') (hR _ rfl) hA (by (repeat' (first|exact trivial|apply And.intro))<;>first|exact cE.refl _ _|exact fun _ _=>cL.refl _ _|exact ce rfl|exact cg _ _|exact ci _ _|(with_reducible assumption)|omega|with_reducible rfl|(simp only[cc];omega)|(intro j hj;exact absurd hj (cj _))|exact q19|exact q24|exact q37|rfl)
  ·rw[show kN T p t a d=false by unfold kN;rw[q19,q24];rfl];exact EG (suB l0 l1 T p t a d) (hR _ rfl) hA (by (repeat' (first|exact trivial|apply And.intro))<;>first|exact cE.refl _ _|exact fun _ _=>cL.refl _ _|exact ce rfl|exact cg _ _|exact ci _ _|(with_reducible assumption)|omega|with_reducible rfl|(simp only[cc];omega)|(intro j hj;exact absurd hj (cj _))|exact q19|exact q24|rfl)
 ·rw[show kN T p t a d=false by unfold kN;rw[q19];rfl];exact EG (suA l0 l1 T p t a d) (hR _ rfl) hA (by (repeat' (first|exact trivial|apply And.intro))<;>first|exact cE.refl _ _|exact fun _ _=>cL.refl _ _|exact ce rfl|exact cg _ _|exact ci _ _|(with_reducible assumption)|omega|with_reducible rfl|(simp only[cc];omega)|(intro j hj;exact absurd hj (cj _))|exact q19|rfl)
theorem sl_ok (hN:cU) (l0:Nat×Nat) (l1:Nat×Bool) (T:List Tm) (p t:Int) (hp0:0<=p) (ht0:0<=t) (ht:t.toNat<T.length) (hq:p.toNat<(T.getD t.toNat default).2.length):uG 23 [pTs l0 l1 T,pVs p t] (fun _=>rI (ku T p t)):=by
 intro w vs hG hp;refine kM hG hN (ex:=[]) jF (fn:=Tryz.f23) Tryz.func23 (c:=codeOf Tryz.f23) (by kernel_rfl) (args:=[pTs l0 l1 T,pVs p t]) (by kernel_rfl) hp (fun hR _ hA=>?_);obtain⟨t',rfl⟩:∃ n:Nat,t=Int.ofNat n:=⟨t.toNat,(Ev ht0).symm⟩;obtain⟨p',rfl⟩:∃ n:Nat,p=Int.ofNat n:=⟨p.toNat,(Ev hp0).symm⟩;have ht:t'<T.length:=ht;have hq:p'<(T.getD t' default).2.length:=hq;exact EG (slA l0 l1 T p' t') (hR _ rfl) hA (by (repeat' (first|exact trivial|apply And.intro))<;>first|exact cE.refl _ _|exact fun _ _=>cL.refl _ _|exact ce rfl|exact cg _ _|exact ci _ _|(with_reducible assumption)|omega|with_reducible rfl|(simp only[cc];omega)|(intro j hj;exact absurd hj (cj _))|exact ht|exact hq|rfl)
def cfe (l0:Nat×Nat) (l1:Nat×Bool) (T:List Tm):Con
 |[q,.agg [.lit (.int .i64 p),.lit (.int .i64 t)],.agg [.lit (.int .i64 a),.lit (.int .i64 d)]]=>some (vr (.bool (kN T p t a d)),[q=pTs l0 l1 T,0<=a,a<=7])
 |_=>none
theorem ccC {lo:Nat}{l0:Nat×Nat}{l1:Nat×Bool}{w0:World}{T:List Tm}(hN:cU) (hG:Gr w0) (hlo:lo<=w0.heap.size) (hl:T.length<=1000000) (hc:cal T<=1000000) (hk:Sk8 T):∀ l r ob,cfe l0 l1 T l=some (r,ob)->cX ob->jL (Cx false lo w0) (.call 22) l r:=by
 intro l r ob h ho;unfold cfe at h;split at h
 ·injection h with h;injection h with h1 h2;subst h1;subst h2
  obtain⟨rfl,h3,h4,_⟩:=ho;exact(su_ok hN l0 l1 T _ _ _ _ hl hc hk h3 h4).val hG hlo (jB Tryz.func22 (by kernel_rfl) rfl)
 ·cases h
def cfq (l0:Nat×Nat) (l1:Nat×Bool) (T:List Tm):Con
 |[q,.agg [.lit (.int .i64 p),.lit (.int .i64 t)]]=>some (vr (.int .i64 (ku T p t)),[q=pTs l0 l1 T,0<=p,0<=t,t.toNat<T.length,p.toNat<(T.getD t.toNat default).2.length])
 |_=>none
theorem ccI {lo:Nat}{l0:Nat×Nat}{l1:Nat×Bool}{w0:World}{T:List Tm}(hN:cU) (hG:Gr w0) (hlo:lo<=w0.heap.size):∀ l r ob,cfq l0 l1 T l=some (r,ob)->cX ob->jL (Cx false lo w0) (.call 23) l r:=by
 intro l r ob h ho;unfold cfq at h;split at h
 ·injection h with h;injection h with h1 h2;subst h1;subst h2
  obtain⟨rfl,h3,h4,h5,h6,_⟩:=ho;exact(sl_ok hN l0 l1 T _ _ h3 h4 h5 h6).val hG hlo (jB Tryz.func23 (by kernel_rfl) rfl)
 ·cases h
end Pe.F
end Go.Proofs.YtcgiaclelnmhbabGreatDoor
