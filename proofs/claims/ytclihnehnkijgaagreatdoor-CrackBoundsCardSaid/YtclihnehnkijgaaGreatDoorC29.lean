/- Part 29. -/
import Derived.Test.YtclihnehnkijgaaGreatDoorC28
set_option linter.all false
noncomputable section

namespace Go.Proofs.YtclihnehnkijgaaGreatDoor
open Go Go.RowKit Go.Proofs
namespace Pe
variable {D:Type}
inductive Kp where
 |code (c:Code)
 |endB (id:Nat)
section
variable (F:Fence) (m:Nat) (P:Program)
def after:List Kp->(Exit->Act->World->Prop)->Exit->Act->World->Prop
 |[],Q=>Q
 |.code c::ks,Q=>Exit.then (fun a w=>c.wpIn F m P (after ks Q) a w) (after ks Q)
 |.endB id::ks,Q=>Exit.inBlock id (after ks Q)
end
def Gx:Code->Bool
 |.loop _=>true
 |.seq x y=>match Gx x with
  |true=>true
  |false=>Gx y
 |.block _ c=>Gx c
 |.cond _ c d=>match Gx c with
  |true=>true
  |false=>Gx d
 |_=>false
def isLoop:Code->Bool
 |.loop _=>true
 |_=>false
def uj:Nat->List Kp->List Code×List Kp
 |n+1,.code (.seq x y)::ks=>uj n (.code x::.code y::ks)
 |n+1,.code c::ks=>match Gx c with
  |true=>([],.code c::ks)
  |false=>match uj n ks with
   |(l,r)=>(c::l,r)
 |_,ks=>([],ks)
def cgr (ks:List Kp):List Code:=(uj 1000 ks).1
def ceX (ks:List Kp):List Kp:=(uj 1000 ks).2
def chJ:Nat->List Kp->List Kp
 |n+1,.endB _::ks=>chJ n ks
 |n+1,.code (.block id c)::ks=>match isLoop c with
  |true=>.code (.block id c)::ks
  |false=>match Gx c with
   |true=>chJ n (.code c::.endB id::ks)
   |false=>.code (.block id c)::ks
 |_,ks=>ks
def next (ks:List Kp):List Kp:=chJ 100 (ceX ks)
def zO:List Kp->Code
 |.code (.block _ (.loop c))::_=>c
 |_=>.skip
def popK (j:Nat):List Kp->List Kp
 |.endB id::ks=>match Nat.beq j id with
  |true=>ks
  |false=>popK j ks
 |_::ks=>popK j ks
 |[]=>[]
def cbP (j:Nat):List Kp->Bool
 |.endB id::ks=>match Nat.beq j id with
  |true=>true
  |false=>cbP j ks
 |_::ks=>cbP j ks
 |[]=>false
def EU (S:Stat D) (TT:FuncId->Tab D) (CF YF:cI D) (nt:Nat) (base:cM D) (fid:FuncId) (inR:Bool) (n:Nat):List Code->St D->Ran D
 |[],st=>some (.normal,st,[])
 |c::l,st=>match CG S TT CF YF nt base fid inR n c st with
  |some (.normal,st',ob)=>match EU S TT CF YF nt base fid inR n l st' with
   |some (x,st2,ob2)=>some (x,st2,ob++ob2)
   |none=>none
  |r=>r
def runTo (C:Ctx D) (TT:FuncId->Tab D) (CF YF:cI D) (nt:Nat) (fid:FuncId) (inR:Bool) (n:Nat) (l:List Code) (st st':St D):Option (Xt×List Prop) :=
 match EU C.toStat TT CF YF nt (fun b=>find b st.m) fid inR n l ⟨st.nb,st.sl,[],st.ms⟩ with
 |some (x,s1,ob)=>match fitTo C (st.join s1) st' with
  |some ob2=>some (x,ob++ob2)
  |none=>none
 |none=>none
section
variable {F:Fence}{m:Nat}{C:Ctx D}{TT:FuncId->Tab D}{CF YF:cI D}{nt:Nat}{fid:FuncId}{inR:Bool}{Q:Exit->Act->World->Prop}{a:Act}{w:World}{st st':St D}
theorem ZA:∀ (ks:List Kp) {a:Act}{w:World},Q .ret a w->after F m C.P ks Q .ret a w
 |[],_,_,h=>h
 |.code _::ks,_,_,h=>ZA ks h
 |.endB _::ks,_,_,h=>ZA ks h
theorem yV {j:Nat}:∀ (ks:List Kp) {a:Act}{w:World},cbP j ks=false->Q (.exit j) a w->after F m C.P ks Q (.exit j) a w
 |[],_,_,_,hq=>hq
 |.code _::ks,_,_,h,hq=>yV ks (by simpa [cbP] using h) hq
 |.endB id::ks,_,_,h,hq=>by
  simp only[cbP] at h;simp only[after,Exit.inBlock];split at h
  ·cases h
  ·rename_i hj;rw[cg (fun e=>by subst e;simp at hj)];exact yV ks h hq
theorem chg (hW:Wd F) (hR:inR=false->F=Fence.wide) (hC:C.Ok) (hT:∀ f,(TT f).Ok C) (hF:CF.Ok C) (hFm:CF.Mono) (hY:Ci C YF) (hYm:YF.Mono) {e0:Env}{w0:World}{n0:Nat}{base:cM D}(hb:jn C e0 w0 base) {B:Nat}(hfree:uh n0 B e0) {n:Nat} :
 ∀ (k:Nat) (ks:List Kp) (st:St D) (x:Xt) (st':St D) (ob:List Prop),EU C.toStat TT CF YF nt base fid inR n (uj k ks).1 st=some (x,st',ob)->jS ob->st'.nb<=B->
 ∀ a w,Sat C nt e0 w0 n0 st a w->(∀ a' w',Sat C nt e0 w0 n0 st' a' w'->after F m C.P (uj k ks).2 Q x.to a' w')->after F m C.P ks Q .normal a w:=by
 have stop:∀ (ks:List Kp) (st:St D) (x:Xt) (st':St D) (ob:List Prop),EU C.toStat TT CF YF nt base fid inR n [] st=some (x,st',ob)->∀ a w,Sat C nt e0 w0 n0 st a w->(∀ a' w',Sat C nt e0 w0 n0 st' a' w'->after F m C.P ks Q x.to a' w')->after F m C.P ks Q .normal a w:=by
  intro ks st x st' ob h a w hs hQ;simp only[EU,kG,cr] at h;obtain⟨rfl,rfl,rfl⟩:=h;exact hQ a w hs
 have one:∀ (k:Nat) (c:Code) (ks:List Kp) (ih:∀ (st:St D) (x:Xt) (st':St D) (ob:List Prop),EU C.toStat TT CF YF nt base fid inR n (uj k ks).1 st=some (x,st',ob)->jS ob->st'.nb<=B->
  ∀ a w,Sat C nt e0 w0 n0 st a w->(∀ a' w',Sat C nt e0 w0 n0 st' a' w'->after F m C.P (uj k ks).2 Q x.to a' w')->after F m C.P ks Q .normal a w) (out:∀ (x:Xt) a w,x≠.normal->after F m C.P (uj k ks).2 Q x.to a w->after F m C.P ks Q x.to a w)
  (hle:∀ st x st' ob,EU C.toStat TT CF YF nt base fid inR n (uj k ks).1 st=some (x,st',ob)->st.nb<=st'.nb)
  (st:St D) (x:Xt) (st':St D) (ob:List Prop),EU C.toStat TT CF YF nt base fid inR n (c::(uj k ks).1) st=some (x,st',ob)->jS ob->st'.nb<=B->
  ∀ a w,Sat C nt e0 w0 n0 st a w->(∀ a' w',Sat C nt e0 w0 n0 st' a' w'->after F m C.P (uj k ks).2 Q x.to a' w')->c.wpIn F m C.P (after F m C.P ks Q) a w:=by
  intro k c ks ih out hle st x st' ob h ho hB a w hs hQ;simp only[EU] at h;split at h
  ·rename_i st1 ob1 h1;split at h
   ·rename_i x2 st2 ob2 h2;injection h with h;simp only[cr] at h
    obtain⟨rfl,rfl,rfl⟩:=h;obtain⟨o1,o2⟩:=ho.append;refine EZ (kB hW hR hC hT hF hFm hY hYm hb hfree n c st _ st1 ob1 h1 o1 (cC (hle _ _ _ _ h2) hB) a w hs) ?_;rintro e a' w' ⟨rfl,hs'⟩;exact ih st1 x2 st2 ob2 h2 o2 hB a' w' hs' hQ
   ·cases h
  ·rename_i hne;refine EZ (kB hW hR hC hT hF hFm hY hYm hb hfree n c st _ _ _ h ho hB a w hs) ?_;rintro e a' w' ⟨rfl,hs'⟩;exact out x a' w' (fun hx=>by subst hx;exact hne _ _ h) (hQ a' w' hs')
 have outs:∀ (k:Nat) (ks:List Kp) (x:Xt) a w,x≠.normal->after F m C.P (uj k ks).2 Q x.to a w->after F m C.P ks Q x.to a w:=by
  intro k
  induction k with
  |zero=>intro ks x a w _ h;cases ks<;>exact h
  |succ k ih =>
   intro ks x a w hx h
   match ks with
   |[]=>exact h
   |.endB id::ks=>exact h
   |.code c::ks =>
    have pass:∀ (c:Code) (ks:List Kp),after F m C.P ks Q x.to a w->after F m C.P (.code c::ks) Q x.to a w:=by
     intro c ks h;cases x with
     |normal=>exact absurd rfl hx
     |exit j=>exact h
     |ret=>exact h
    have gen:∀ c:Code,(∀ x y,c≠.seq x y)->after F m C.P (uj (k+1) (.code c::ks)).2 Q x.to a w->after F m C.P (.code c::ks) Q x.to a w:=by
     intro c hc h;have hg:uj (k+1) (.code c::ks)=(match Gx c with
      |true=>([],.code c::ks)
      |false=>match uj k ks with
       |(l,r)=>(c::l,r)):=by
      cases c<;>first|rfl|exact absurd rfl (hc _ _)
     rw[hg] at h;split at h
     ·exact h
     ·exact pass c ks (ih ks x a w hx h)
    cases c with
    |seq y z =>
     have:=ih (.code y::.code z::ks) x a w hx h;cases x with
     |normal=>exact absurd rfl hx
     |exit j=>exact this
     |ret=>exact this
    |_=>exact gen _ (by simp) h
 have les:∀ (l:List Code) (st:St D) (x:Xt) (st':St D) (ob:List Prop),EU C.toStat TT CF YF nt base fid inR n l st=some (x,st',ob)->st.nb<=st'.nb:=by
  intro l
  induction l with
  |nil=>intro st x st' ob h;simp only[EU,kG,cr] at h;rw[h.2.1];exact cb _
  |cons c l ih =>
   intro st x st' ob h;simp only[EU] at h;split at h
   ·rename_i st1 ob1 h1;split at h
    ·rename_i x2 st2 ob2 h2;injection h with h;simp only[cr] at h
     obtain⟨rfl,rfl,rfl⟩:=h;exact cC (ul hFm hYm _ _ _ _ _ _ h1) (ih _ _ _ _ h2)
    ·cases h
   ·exact ul hFm hYm _ _ _ _ _ _ h
 intro k
 induction k with
 |zero=>intro ks st x st' ob h ho hB a w hs hQ;cases ks<;>exact stop _ st x st' ob h a w hs hQ
 |succ k ih =>
  intro ks st x st' ob h ho hB a w hs hQ
  match ks with
  |[]=>exact stop _ st x st' ob h a w hs hQ
  |.endB id::ks=>exact stop _ st x st' ob h a w hs hQ
  |.code c::ks =>
   have gen:∀ c:Code,(∀ x y,c≠.seq x y)->EU C.toStat TT CF YF nt base fid inR n (uj (k+1) (.code c::ks)).1 st=some (x,st',ob)->(∀ a' w',Sat C nt e0 w0 n0 st' a' w'->after F m C.P (uj (k+1) (.code c::ks)).2 Q x.to a' w')->after F m C.P (.code c::ks) Q .normal a w:=by
    intro c hc h hQ;have hg:uj (k+1) (.code c::ks)=(match Gx c with
     |true=>([],.code c::ks)
     |false=>match uj k ks with
      |(l,r)=>(c::l,r)):=by
     cases c<;>first|rfl|exact absurd rfl (hc _ _)
    rw[hg] at h hQ;split at h
    ·rename_i hl;rw[hl] at hQ;exact stop _ st x st' ob h a w hs hQ
    ·rename_i hl;rw[hl] at hQ;exact one k c ks (ih ks) (outs k ks) (les _) st x st' ob h ho hB a w hs hQ
   cases c with
   |seq y z =>
    show (Code.seq y z).wpIn F m C.P (after F m C.P ks Q) a w;apply wpIn_seq;exact ih (.code y::.code z::ks) st x st' ob h ho hB a w hs hQ
   |_=>exact gen _ (by simp) h hQ
theorem run_is (hR:UC C TT) (hW:Wd F) (hI:inR=false->F=Fence.wide) {g d n:Nat}{ks:List Kp}{x:Xt}{ob:List Prop}(h:runTo C TT (Ji C.toStat TT g d).1 (Ji C.toStat TT g d).2 nt fid inR n (cgr ks) st st'=some (x,ob)) (ho:jS ob)
 (hA:At C nt st a w) (hQ:∀ a' w',At C nt st' a' w'->after F m C.P (ceX ks) Q x.to a' w'):after F m C.P ks Q .normal a w:=by
 unfold runTo at h;split at h
 rotate_left
 ·cases h
 rename_i x1 s1 ob1 he;split at h
 rotate_left
 ·cases h
 rename_i ob2 hf;injection h with h;simp only[cr] at h;obtain⟨rfl,rfl⟩:=h
 obtain⟨o1,o2⟩:=ho.append;obtain⟨⟨e,hg,hM,hV,hfr,hmk⟩,hsz⟩:=hA;have hFm:=(kW (S:=C.toStat) (TT:=TT) (g:=g) d).1;have hYm:=(kW (S:=C.toStat) (TT:=TT) (g:=g) d).2;have hle:(⟨st.nb,st.sl,[],st.ms⟩:St D).nb<=s1.nb:=execL_le he;have hle:st.nb<=s1.nb:=hle;refine chg hW hI hR.ok hR.tab (Gy hR.ok hR.name hR.tab d).1 hFm (Gy hR.ok hR.name hR.tab d).2 hYm hM (B:=s1.nb) (fun b h1 _=>hfr b h1) 1000 ks _ x1 s1 ob1 he o1 (cb _) a w ⟨⟨e,uB.refl hg _,hV,hmk⟩,hsz⟩ ?_;rintro a' w' ⟨⟨e',hL,hV',hmk'⟩,hsz'⟩;refine hQ a' w' (cnT hR.ok hf o2 ⟨⟨e',hL.good,fun b o ho=>?_,hV',fun b hb=>?_,hmk'⟩,hsz'⟩)
 ·exact yt hM hL b o (by rw[cej];exact ho)
 ·obtain⟨q1,q2,q3⟩:=hfr b (cC hle hb);have hb:s1.nb<=b:=hb;refine⟨?_,?_,?_⟩
  ·cases hx:e'.ρ b with
   |none=>rfl
   |some y =>
    rcases hL.new.ρ b y hx with h|h
    ·rw[q1] at h;cases h
    ·omega
  ·cases hx:e'.ν b with
   |none=>rfl
   |some y =>
    rcases hL.new.ν b y hx with h|h
    ·rw[q2] at h;cases h
    ·omega
  ·cases hx:e'.φ b with
   |none=>rfl
   |some y =>
    rcases hL.new.φ b y hx with h|h
    ·rw[q3] at h;cases h
    ·omega
where
 execL_le {l:List Code} {base:cM D} {n d g:Nat} {st st':St D} {x:Xt} {ob:List Prop} (h:EU C.toStat TT (Ji C.toStat TT g d).1 (Ji C.toStat TT g d).2 nt base fid inR n l st=some (x,st',ob)):st.nb<=st'.nb:=by
  induction l generalizing st st' x ob with
  |nil=>simp only[EU,kG,cr] at h;rw[h.2.1];exact cb _
  |cons c l ih =>
   simp only[EU] at h;split at h
   ·rename_i st1 ob1 h1;split at h
    ·rename_i x2 st2 ob2 h2;injection h with h;simp only[cr] at h
     obtain⟨rfl,rfl,rfl⟩:=h;exact cC (ul (kW d).1 (kW d).2 _ _ _ _ _ _ h1) (ih h2)
    ·cases h
   ·exact ul (kW d).1 (kW d).2 _ _ _ _ _ _ h
theorem cfU:∀ (n:Nat) (ks:List Kp) {a:Act}{w:World},after F m C.P (chJ n ks) Q .normal a w->after F m C.P ks Q .normal a w
 |0,ks,a,w,h=>by cases ks<;>exact h
 |n+1,[],a,w,h=>h
 |n+1,.endB id::ks,a,w,h=>cfU n ks h
 |n+1,.code c::ks,a,w,h=>by
  cases c with
  |block id c =>
   unfold chJ at h;split at h
   ·exact h
   ·split at h
    ·exact wpIn_block (cfU n (.code c::.endB id::ks) h)
    ·exact h
  |_=>exact h
theorem Gm {ks:List Kp}(h:after F m C.P (next ks) Q .normal a w):after F m C.P (ceX ks) Q .normal a w:=cfU _ _ h
theorem EC {Θ:Type}(I:Θ->St D) (J:Θ->Prop) (μ:Θ->Nat) {id:Nat}{c:Code}{L ks:List Kp}(hL:L=.code (.block id (.loop c))::ks) (θ0:Θ) (h0:J θ0) (hA:At C nt (I θ0) a w)
 (hr:∀ θ a w,J θ->At C nt (I θ) a w->after F m C.P [.code c] (Exit.then (fun a' w'=>∃ θ',J θ'/\At C nt (I θ') a' w'/\μ θ'<μ θ) (Exit.inBlock id (after F m C.P ks Q))) .normal a w):after F m C.P L Q .normal a w:=by
 subst hL;exact loop_at I J μ θ0 h0 hA hr
end
def cjh (C:Ctx D) (TT:FuncId->Tab D) (CF YF:cI D) (nt:Nat) (fid:FuncId) (inR:Bool) (n:Nat) (l:List Code) (rs:List ResultVar) (st:St D) (ps:List (Pat D)):Option (Xt×List Prop) :=
 match EU C.toStat TT CF YF nt (fun b=>find b st.m) fid inR n l ⟨st.nb,st.sl,[],st.ms⟩ with
 |some (.ret,s1,ob)=>match retTo C rs (st.join s1) ps with
  |some ob2=>some (.ret,ob++ob2)
  |none=>none
 |_=>none
section
variable {F:Fence}{m:Nat}{C:Ctx D}{TT:FuncId->Tab D}{CF YF:cI D}{nt:Nat}{fid:FuncId}{inR:Bool}{Q:Exit->Act->World->Prop}{a:Act}{w:World}{st st':St D}
theorem ret_is (hR:UC C TT) (hW:Wd F) (hI:inR=false->F=Fence.wide) {g d n:Nat}{ks:List Kp}{fn:Func}{ps:List (Pat D)}{ob:List Prop}(h:cjh C TT (Ji C.toStat TT g d).1 (Ji C.toStat TT g d).2 nt fid inR n (cgr ks) fn.results.toList st ps=some (.ret,ob)) (ho:jS ob)
 (hA:At C nt st a w) (hQ:∀ a' w',Ret C fn (Res C ps) .ret a' w'->Q .ret a' w'):after F m C.P ks Q .normal a w:=by
 unfold cjh at h;split at h
 rotate_left
 ·cases h
 rename_i s1 ob1 he;split at h
 rotate_left
 ·cases h
 rename_i ob2 hf;injection h with h;simp only[cr] at h;obtain⟨_,rfl⟩:=h
 obtain⟨o1,o2⟩:=ho.append;obtain⟨⟨e,hg,hM,hV,hfr,hmk⟩,hsz⟩:=hA;have hFm:=(kW (S:=C.toStat) (TT:=TT) (g:=g) d).1;have hYm:=(kW (S:=C.toStat) (TT:=TT) (g:=g) d).2;have hle:(⟨st.nb,st.sl,[],st.ms⟩:St D).nb<=s1.nb:=run_is.execL_le he;have hle:st.nb<=s1.nb:=hle;refine chg hW hI hR.ok hR.tab (Gy hR.ok hR.name hR.tab d).1 hFm (Gy hR.ok hR.name hR.tab d).2 hYm hM (B:=s1.nb) (fun b h1 _=>hfr b h1) 1000 ks _ .ret s1 ob1 he o1 (cb _) a w ⟨⟨e,uB.refl hg _,hV,hmk⟩,hsz⟩ ?_;rintro a' w' ⟨⟨e',hL,hV',hmk'⟩,hsz'⟩;refine ZA _ (hQ a' w' (ret_at hR.ok hf o2 (nt:=nt) ⟨⟨e',hL.good,fun b o ho=>?_,hV',fun b hb=>?_,hmk'⟩,hsz'⟩ (.inl rfl)))
 ·exact yt hM hL b o (by rw[cej];exact ho)
 ·obtain⟨q1,q2,q3⟩:=hfr b (cC hle hb);have hb:s1.nb<=b:=hb;refine⟨?_,?_,?_⟩
  ·cases hx:e'.ρ b with
   |none=>rfl
   |some y =>
    rcases hL.new.ρ b y hx with h|h
    ·rw[q1] at h;cases h
    ·omega
  ·cases hx:e'.ν b with
   |none=>rfl
   |some y =>
    rcases hL.new.ν b y hx with h|h
    ·rw[q2] at h;cases h
    ·omega
  ·cases hx:e'.φ b with
   |none=>rfl
   |some y =>
    rcases hL.new.φ b y hx with h|h
    ·rw[q3] at h;cases h
    ·omega
end
end Pe
open Go Go.RowKit Go.Proofs Lim
namespace Pe
section
variable {b b':Bool}{lo lo':Nat}{w0 w0' w:World}
theorem Yz:∀ {gs:List (Grp Dx)}{vs:List Value},cL (Cx b lo w0) w gs vs->cL (Cx b' lo' w0') w gs vs
 |[],_,h=>h
 |.lit _::_,_,h=>⟨h.1,Yz h.2⟩
 |.cls _::_,_,h=>⟨h.1,Yz h.2⟩
theorem ls_cx {L:Lt Dx}{v:Value}(h:cfr (Cx b lo w0) w L v):cfr (Cx b' lo' w0') w L v:=by
 rcases h with h|⟨k,o,c,arr,pre,vs,rest,q1,q2,q3,q4,q5,q6,q7,q8,q9⟩
 ·exact .inl h
 ·exact .inr ⟨k,o,c,arr,pre,vs,rest,q1,q2,q3,q4,q5,q6,q7,q8,fun j hj=>Yz (q9 j hj)⟩
theorem pat_cx {p:Pat Dx}{v:Value}(h:p.is (Cx b lo w0) w v):p.is (Cx b' lo' w0') w v:=by
 cases p with
 |one g=>cases g<;>exact h
 |agg gs=>obtain⟨vs,h1,h2⟩:=h;exact⟨vs,Yz h1,h2⟩
 |slc t n gs=>obtain⟨k,o,c,arr,pre,vs,rest,h1,h2,h3,h4,h5,h6⟩:=h;exact⟨k,o,c,arr,pre,vs,rest,h1,h2,h3,h4,Yz h5,h6⟩
 |cap f ty z gs=>obtain⟨k,o,c,h1,h2⟩:=h;exact⟨k,o,c,ls_cx h1,h2⟩
theorem cfX:∀ {ps:List (Pat Dx)}{vs:List Value},jp (Cx b lo w0) w ps vs->jp (Cx b' lo' w0') w ps vs
 |[],_,h=>h
 |_::_,_,⟨v,ws,h1,h2,h3⟩=>⟨v,ws,h1,pat_cx h2,cfX h3⟩
theorem rpat_cx {p:jE Dx}{v:Value}(h:p.is (Cx b lo w0) w v):p.is (Cx b' lo' w0') w v:=by
 cases p with
 |val p=>exact pat_cx h
 |tup ps=>obtain⟨vs,h1,h2⟩:=h;exact⟨vs,cfX h1,h2⟩
theorem rob_cx {w1 w2:World}{p:jE Dx}{v:Value}(h:caW (Cx b lo w0) w1 w2 p v):caW (Cx b lo' w0') w1 w2 p v:=fun S hS w'' hs hk=>rpat_cx (h S hS w'' hs hk)
theorem ZJ {w':World}(hk:∀ k,k<w.heap.size->w'.heap[k]?=w.heap[k]?):∀ {gs:List (Grp Dx)}{vs:List Value},cL (Cx b lo w0) w gs vs->cL (Cx b lo w0) w' gs vs
 |[],_,h=>h
 |.lit _::_,_,h=>⟨h.1,ZJ hk h.2⟩
 |.cls _::_,_,h=>⟨DIs.grow hk h.1,ZJ hk h.2⟩
theorem cpp {w':World}(hk:∀ k,k<w.heap.size->w'.heap[k]?=w.heap[k]?) {p:Pat Dx}{v:Value}(hn:noSlc p=true) (h:p.is (Cx b lo w0) w v):p.is (Cx b lo w0) w' v:=by
 cases p with
 |one g =>
  cases g with
  |lit x=>exact h
  |cls d=>exact DIs.grow hk h
 |agg gs=>obtain⟨vs,h1,h2⟩:=h;exact⟨vs,ZJ hk h1,h2⟩
 |slc t n gs=>cases hn
 |cap f ty z gs=>cases hn
theorem cex {w':World}(hk:∀ k,k<w.heap.size->w'.heap[k]?=w.heap[k]?):∀ {ps:List (Pat Dx)}{vs:List Value},Ut ps=true->jp (Cx b lo w0) w ps vs->jp (Cx b lo w0) w' ps vs
 |[],_,_,h=>h
 |p::ps,_,hn,⟨v,ws,h1,h2,h3⟩=>by
  unfold Ut at hn;split at hn
  ·rename_i h0;exact⟨v,ws,h1,cpp hk h0 h2,cex hk hn h3⟩
  ·cases hn
theorem ZR:∀ {ps:List (Pat Dx)}{csz:Dx->Nat}{s:Nat}{r:List A1×Ws Dx×Nat},Es csz s ps=some r->Ut ps=true
 |[],_,_,_,_=>rfl
 |p::ps,csz,s,r,h=>by
  have:=Kk h p (by simp);simp only[Es] at h;split at h
  ·split at h
   ·rename_i h2;unfold Ut;cases p with
    |slc t n gs=>cases this
    |cap f ty z gs=>cases this
    |one g=>exact ZR h2
    |agg gs=>exact ZR h2
   ·cases h
  ·cases h
end
noncomputable abbrev W0 (w:World):Ctx Dx:=Cx true w.heap.size w
theorem fn_ok {w : World} (hG : Gr w) (hN : ∀ (f : Nat) (fn : Func), Tryz.prog.funcs[f]? = some fn → (fn.name == "runtime.NumGoroutine") = false) {ex : List (Nat × Con)} (hE : Ef true w.heap.size w ex) {f : FuncId} {fn : Func} {c : Code} (hfn : Tryz.prog.funcs[f]? = some fn) (hbody : fn.body = some c) {args : List (Pat Dx)} {xs : List A1} {ws : Ws Dx} {n0 : Nat} (hm : Es Dx.n 0 args = some (xs, ws, n0)) (hlen : Nat.ble (uQ xs).length fn.ntmps = true)
 {vs:List Value} (hp:jp (W0 w) w args vs) {ps:List (Pat Dx)} (hwp:(∀ o:Opt,o.ex=ex->UC (W0 w) (TY o))->∀ a,At (W0 w) fn.ntmps ⟨n0,JB 0 (uQ xs),ws,[]⟩ a w->after Fence.wide 0 Tryz.prog [.code c] (Ret (W0 w) fn (Res (W0 w) ps)) .normal a w) :
 Enters Tryz.prog f/\Calls Tryz.prog f vs.toArray w (fun en w'=>∃ v,en=.returned v/\Res (W0 w) ps v w'):=by
 have hR:∀ o:Opt,o.ex=ex->UC (W0 w) (TY o):=fun o ho=>run_ok (cb _) hG hN (by rw[ho];exact hE);have hR0:=hR ⟨[],[],ex⟩ rfl;refine EP (C:=W0 w) hR0 hfn hbody hm hlen ?_ (fun a hA=>hwp hR a hA);exact cfL hR0.ok (W:=fun w'=>yj env0 w w') w (yj.refl _ _) (Kk hm) (fun w' hk=>cex (fun k hk'=>hk.block k hk' (fun b=>by simp)) (ZR hm) hp)
theorem uM {F:Fence}{m:Nat}{P:Program}{Q:Exit->Act->World->Prop}{ks:List Kp}{a:Act}{w:World}(h:ks=[]) (hq:Q .normal a w):after F m P ks Q .normal a w:=by
 subst h;exact hq
theorem ent_fn {lo:Nat}{w0:World}(hG:Gr w0) (hlo:lo<=w0.heap.size) {f:FuncId}{args:List (Pat Dx)}(ps:Nat->List (Pat Dx)) (hsub:∀ hi,lo<=hi->∃ ob,CQ (Cx true lo w0) (ps lo) (ps hi)=some ob/\jS ob)
 (h:∀ w vs,Gr w->jp (W0 w) w args vs->Enters Tryz.prog f/\Calls Tryz.prog f vs.toArray w (fun en w'=>∃ v,en=.returned v/\Res (W0 w) (ps w.heap.size) v w')) (hE:Enters Tryz.prog f):jJ (Cx true lo w0) (.call f) args (JC (ps lo)):=by
 refine⟨hE,fun w vs hb hvs=>?_⟩;refine(h w vs (hG.below hb hG.size) (cfX hvs)).2.mono ?_;rintro en w' ⟨v,rfl,h1,h2⟩;refine⟨v,rfl,h1,?_⟩;obtain⟨ob,h3,h4⟩:=hsub w.heap.size (cC hlo hb.size);intro S hS w'' hs hk;have h5:=rob_cx (lo':=lo) (w0':=w0) h2 S hS w'' hs hk;have hC:=cx_ok (b:=true) hlo;revert h3 h5;generalize ps lo=a;generalize ps w.heap.size=c;intro h3 h5;unfold JC at h5 ⊢;split at h5
 ·rename_i p
  match a,h3 with
  |[q],h3 =>
   have:=GN hC h3 h4 (vs:=[v]) ⟨v,[],rfl,h5,rfl⟩;obtain⟨x,y,e1,e2,e3⟩:=this;injection e1 with e1 _
   subst e1;exact e2
  |[],h3=>simp [CQ] at h3
  |_::q::r,h3 =>
   obtain⟨x,y,q1,q2,_⟩:=yd h3;simp [CQ] at q2
 ·rename_i hne
  match a,h3 with
  |[q],h3 =>
   exfalso
   match c,h3,hne with
   |[],h3,_=>simp [CQ] at h3
   |[p],_,hne=>exact hne p rfl
   |_::_::_,h3,_ =>
    obtain⟨x,y,q1,q2,_⟩:=yd h3;simp [CQ] at q2
  |[],h3=>obtain⟨us,q1,q2⟩:=h5;exact⟨us,GN hC h3 h4 q1,q2⟩
  |q1::q2::r,h3=>obtain⟨us,p1,p2⟩:=h5;exact⟨us,GN hC h3 h4 p1,p2⟩
def Cs (args:List (Pat Dx)) (res:jE Dx):Con:=fun l=>some (res,[l=args])
theorem kZ {bb:Bool}{lo:Nat}{w0:World}{f:Nat}{args:List (Pat Dx)}{res:jE Dx}(h:jJ (Cx bb lo w0) (.call f) args res):∀ l r ob,Cs args res l=some (r,ob)->jS ob->jJ (Cx bb lo w0) (.call f) l r:=by
 intro l r ob hl ho;unfold Cs at hl;injection hl with hl;injection hl with h1 h2;subst h1;subst h2
 rw[show l=args from ho.1];exact h
def lst {α:Type}[Inhabited α] (lo ty z:Nat) (xs:List α) (f:α->List (Grp Dx)):Lt Dx:=⟨lo,ty,z,xs.length,fun j=>f (xs.getD j default)⟩
section
variable {C:Ctx Dx}{b:Bool}{lo:Nat}{w0:World}
theorem cX {n:Nat}{g:Nat->List (Grp Dx)}{x:List (Grp Dx)}(h:x=g n):∀ j,j<n+1->kF C (g j) (cdp n g (fun _=>x) j):=by
 intro j hj w vs hv;unfold cdp at hv;split at hv
 ·exact hv
 ·rename_i hn;have:j=n:=by
   rcases jc j n with h1|h1
   ·rw[show Nat.blt j n=true from Jv h1] at hn;cases hn
   ·omega
  rw[h,← this] at hv;exact hv
theorem sub_lo {L:Lt Dx}{a c:Nat}(h:a<=c):jo (Cx b lo w0) (.ls { L with lo:=a }) (.ls { L with lo:=c }):=by
 intro w l hl;have hl:DIs w (.ls { L with lo:=c }) l:=hl;show DIs w (.ls { L with lo:=a }) l;cases hl with
 |nil h1=>exact .nil h1
 |ls k o cp arr pre vs rest h2 h3 h4 h5 h6 h7 h8 h9=>exact .ls k o cp arr pre vs rest h2 h3 h4 h5 h6 (cC h h7) h8 h9
theorem ET {r s:Rat}{j k:Nat}(h:s=r) (hk:k<=j):jo (Cx b lo w0) (.q r j) (.q s k):=by
 intro w l hl;have hl:DIs w (.q s k) l:=hl;subst h;cases hl with
 |q h1 h2 h3=>exact .q h1 h2 (h3.le hk)
theorem clh {r s:Rat}{j k:Nat}(h:s=r) (hk:k<=j):jo (Cx b lo w0) (.rq r j) (.rq s k):=by
 intro w l hl;have hl:DIs w (.rq s k) l:=hl;subst h;cases hl with
 |rq h1 h2 h3=>exact .rq h1 h2 (h3.le hk)
theorem cdK {r:Rat}{k:Nat}(h:r=0) (hk:1<=k):kF (Cx b lo w0) [.cls (.q r k)] [.lit (.bool false),.lit (.int .u64 0),.lit (.int .u64 0),.lit (.pointer none)]:=by
 intro w vs hv;subst h;obtain⟨xs,ys,rfl,h1,h2⟩:=Kg (b:=b) (lo:=lo) (w0:=w0) (gs':=[]) (r:=0) (k:=1) rfl hv;rw[show ys=[] from h2];exact Yt (.cls (ET (b:=b) (lo:=lo) (w0:=w0) (r:=0) (j:=k) rfl hk w xs h1) .nil)
end
end Pe
namespace Pe
abbrev Tx:=List UInt8
abbrev nq (l:Tx):Rat:=(jN l).1
noncomputable abbrev codeOf (fn:Func):Code:=fn.body.getD .skip
abbrev ii (n:Int):Value:=.int .i64 n
abbrev P3:=Tx×Tx×Tx
abbrev f3 (x:P3):List (Grp Dx):=[.lit (str x.1),.lit (str x.2.1),.lit (str x.2.2)]
noncomputable abbrev run (w:World) (o:Opt) (f nt:Nat) (ks:List Kp) (st st':St Dx):Option (Xt×List Prop):=runTo (W0 w) (TY o) (Ji (Sx true w.heap.size) (TY o) 300 30).1 (Ji (Sx true w.heap.size) (TY o) 300 30).2 nt f false 300 (cgr ks) st st'
noncomputable abbrev runR (w:World) (o:Opt) (f nt:Nat) (fn:Func) (ks:List Kp) (st:St Dx) (ps:List (Pat Dx)):Option (Xt×List Prop):=cjh (W0 w) (TY o) (Ji (Sx true w.heap.size) (TY o) 300 30).1 (Ji (Sx true w.heap.size) (TY o) 300 30).2 nt f false 300 (cgr ks) fn.results.toList st ps
abbrev je : Prop := ∀ (f : Nat) (fn : Func), Tryz.prog.funcs[f]? = some fn → (fn.name == "runtime.NumGoroutine") = false
end Pe
namespace Pe
def stA (args:List (Pat Dx)):St Dx:=match Es Dx.n 0 args with
 |some (xs,ws,n0)=>⟨n0,JB 0 (uQ xs),ws,[]⟩
 |none=>⟨0,[],[],[]⟩
def lenA (args:List (Pat Dx)) (n:Nat):Bool:=match Es Dx.n 0 args with
 |some (xs,_,_)=>Nat.ble (uQ xs).length n
 |none=>false
theorem ze {w:World}(hG:Gr w) (hN:je) {ex:List (Nat×Con)}(hE:Ef true w.heap.size w ex) {f:FuncId}{fn:Func}{c:Code}(hfn:Tryz.prog.funcs[f]?=some fn) (hbody:fn.body=some c) {args:List (Pat Dx)}(hm:lenA args fn.ntmps=true)
 {vs:List Value} (hp:jp (W0 w) w args vs) {ps:List (Pat Dx)} (hwp:(∀ o:Opt,o.ex=ex->UC (W0 w) (TY o))->∀ a,At (W0 w) fn.ntmps (stA args) a w->after Fence.wide 0 Tryz.prog [.code c] (Ret (W0 w) fn (Res (W0 w) ps)) .normal a w) :
 Enters Tryz.prog f/\Calls Tryz.prog f vs.toArray w (fun en w'=>∃ v,en=.returned v/\Res (W0 w) ps v w'):=by
 unfold lenA at hm;split at hm
 ·rename_i xs ws n0 h0;refine fn_ok hG hN hE hfn hbody h0 hm hp (fun hR a hA=>hwp hR a ?_);unfold stA;rw[h0];exact hA
 ·cases hm
abbrev CE (f:Nat) (args:List (Pat Dx)) (ps:Nat->List (Pat Dx)):Prop:=∀ w vs,Gr w->jp (W0 w) w args vs->Enters Tryz.prog f/\Calls Tryz.prog f vs.toArray w (fun en w'=>∃ v,en=.returned v/\Res (W0 w) (ps w.heap.size) v w')
section
variable {lo:Nat}{w0:World}{f:Nat}{args:List (Pat Dx)}
theorem CE.ent {ps:Nat->List (Pat Dx)}(h:CE f args ps) (hG:Gr w0) (hlo:lo<=w0.heap.size) (hE:Enters Tryz.prog f) (hsub:∀ hi,lo<=hi->∃ ob,CQ (Cx true lo w0) (ps lo) (ps hi)=some ob/\jS ob):jJ (Cx true lo w0) (.call f) args (JC (ps lo)):=ent_fn hG hlo ps hsub h hE
theorem CE.val {v:Value}(h:CE f args (fun _=>[.one (.lit v)])) (hG:Gr w0) (hlo:lo<=w0.heap.size) (hE:Enters Tryz.prog f):jJ (Cx true lo w0) (.call f) args (vr v) :=
 h.ent hG hlo hE (fun _ _=>⟨_,rfl,rfl,trivial⟩)
theorem CE.num {r:Rat}{k:Nat}(h:CE f args (fun _=>[.agg [.cls (.q r k)]])) (hG:Gr w0) (hlo:lo<=w0.heap.size) (hE:Enters Tryz.prog f):jJ (Cx true lo w0) (.call f) args (qr r k) :=
 h.ent hG hlo hE (fun _ _=>⟨_,rfl,jo.refl _ _,trivial⟩)
end
abbrev R2:=Rat×Rat
abbrev pQ (r:Rat) (k:Nat):Pat Dx:=.agg [.cls (.q r k)]
abbrev pR (r:Rat) (k:Nat):Pat Dx:=.agg [.cls (.rq r k)]
abbrev pI (i:Int):Pat Dx:=.one (.lit (.int .i64 i))
abbrev pF (f:Nat):Pat Dx:=.one (.lit (.func (.func f) #[] #[]))
abbrev rB (b:Bool):List (Pat Dx):=[.one (.lit (.bool b))]
abbrev rI (i:Int):List (Pat Dx):=[.one (.lit (.int .i64 i))]
abbrev sD (w:World) (d:Dx):Prop:=jo (W0 w) d d
abbrev sG (w:World) (n:Nat) (g:Nat->List (Grp Dx)):Prop:=∀ j,j<n->kF (W0 w) (g j) (g j)
abbrev sN (w:World) (n:Nat) (g:Nat->List (Grp Dx)) (x:List (Grp Dx)):Prop:=∀ j,j<n+1->kF (W0 w) (g j) (cdp n g (fun _=>x) j)
abbrev eA {α:Type}(a:α):Prop:=a=a
abbrev zV:List Prop:=[Value.bool false=Value.bool false,Value.int .u64 0=Value.int .u64 0,Value.int .u64 0=Value.int .u64 0,Value.pointer none=Value.pointer none]
theorem cO (n:Nat):Int.ofNat n=(n:Int):=rfl
theorem ckn {b:Bool}{lo:Nat}{w0:World}{r s:Rat}(h1:r=0) (h2:s=0):kF (Cx b lo w0) [.cls (.q r 1),.cls (.q s 1)] [.lit (.bool false),.lit (.int .u64 0),.lit (.int .u64 0),.lit (.pointer none),.lit (.bool false),.lit (.int .u64 0),.lit (.int .u64 0),.lit (.pointer none)]:=by
 intro w vs hv;subst h1;subst h2;obtain⟨xs,ys,rfl,h3,h4⟩:=Kg (b:=b) (lo:=lo) (w0:=w0) (gs':=[.lit (.bool false),.lit (.int .u64 0),.lit (.int .u64 0),.lit (.pointer none)]) (r:=0) (k:=1) rfl hv;obtain⟨xs',ys',rfl,h5,h6⟩:=Kg (b:=b) (lo:=lo) (w0:=w0) (gs':=[]) (r:=0) (k:=1) rfl h4;rw[show ys'=[] from h6];exact Yt (.cls h3 (.cls h5 .nil))
section
variable {w w1:World}{o:Opt}{f nt:Nat}{ks:List Kp}{st st':St Dx}{x:Xt}{ob:List Prop}{a:Act}{Q:Exit->Act->World->Prop}
theorem uX (h:run w o f nt ks st st'=some (x,ob)) (hR:UC (W0 w) (TY o)) (hA:At (W0 w) nt st a w1) (hQ:∀ a' w',At (W0 w) nt st' a' w'->after Fence.wide 0 (W0 w).P (ceX ks) Q x.to a' w') (ho:jS ob:=by (repeat' (first|exact trivial|apply And.intro))<;>first|exact jo.refl _ _|exact fun _ _=>kF.refl _ _|exact cX rfl|exact cX (by assumption)|exact cZ _ _|exact jb _ _|(with_reducible assumption)|omega|with_reducible rfl|(simp only[cO];omega)|(intro j hj;exact absurd hj (cW _))|exact ET rfl (by omega)|exact clh rfl (by omega)|exact ET (by assumption) (by omega)|exact clh (by assumption) (by omega)|exact cdK rfl (by omega)|exact ckn rfl rfl|exact cH rfl|exact cH (by omega)|assumption|rfl):after Fence.wide 0 (W0 w).P ks Q .normal a w1:=run_is hR (.inl rfl) (fun _=>rfl) h ho hA hQ
theorem kj {fn:Func}{ps:List (Pat Dx)}(h:runR w o f nt fn ks st ps=some (.ret,ob)) (hR:UC (W0 w) (TY o)) (hA:At (W0 w) nt st a w1) (ho:jS ob:=by (repeat' (first|exact trivial|apply And.intro))<;>first|exact jo.refl _ _|exact fun _ _=>kF.refl _ _|exact cX rfl|exact cX (by assumption)|exact cZ _ _|exact jb _ _|(with_reducible assumption)|omega|with_reducible rfl|(simp only[cO];omega)|(intro j hj;exact absurd hj (cW _))|exact ET rfl (by omega)|exact clh rfl (by omega)|exact ET (by assumption) (by omega)|exact clh (by assumption) (by omega)|exact cdK rfl (by omega)|exact ckn rfl rfl|exact cH rfl|exact cH (by omega)|assumption|rfl) (hQ:∀ a' w',Ret (W0 w) fn (Res (W0 w) ps) .ret a' w'->Q .ret a' w':=by exact fun _ _ h=>h):after Fence.wide 0 (W0 w).P ks Q .normal a w1:=ret_is hR (.inl rfl) (fun _=>rfl) h ho hA hQ
end
theorem sub_ext {C:Ctx Dx}{b:Bool}{lo:Nat}{w0:World}(hC:C=Cx b lo w0) {L L':Lt Dx}(h1:L'.lo<=L.lo) (h2:L'.ty=L.ty) (h3:L'.z=L.z) (h4:L'.n=L.n) (h5:∀ j,j<L.n->L'.g j=L.g j):jo C (.ls L') (.ls L):=by
 subst hC;intro w l hl;have hl:DIs w (.ls L) l:=hl;show DIs w (.ls L') l;obtain⟨lo',ty',z',n',g'⟩:=L';obtain⟨lo1,ty1,z1,n1,g1⟩:=L;simp only at h1 h2 h3 h4 h5;subst h2;subst h3;subst h4;cases hl with
 |nil h=>exact .nil h
 |ls k o c arr pre vs rest q2 q3 q4 q5 q6 q7 q8 q9=>exact .ls k o c arr pre vs rest q2 q3 q4 q5 q6 (cC h1 q7) q8 (fun j hj=>by rw[show (Lt.mk lo' ty' z' n' g').g j=g1 j from h5 j hj];exact q9 j hj)
theorem sub_map {b:Bool}{lo:Nat}{w0:World}{α β:Type}[Inhabited α] [Inhabited β] {a ty z:Nat}{xs:List α}{h:α->β}{f:α->List (Grp Dx)}{f':β->List (Grp Dx)}(hf:∀ x,f' (h x)=f x):jo (Cx b lo w0) (.ls (lst a ty z (xs.map h) f')) (.ls (lst a ty z xs f)):=by
 refine sub_ext rfl (cb _) rfl rfl (by simp [lst]) (fun j hj=>?_);have hj:j<xs.length:=hj;show f' ((xs.map h).getD j default)=f (xs.getD j default);rw[← hf,zQ,zQ,KE,kf hj];rfl
end Pe
namespace Pe
def anyP (n:Nat) (p:Nat->Bool):Bool:=(List.range n).any p
section
variable {n:Nat}{p:Nat->Bool}
theorem Zu {i:Nat}(hi:i<n) (h:p i=true):anyP n p=true:=List.any_eq_true.2 ⟨i,List.mem_range.2 hi,h⟩
theorem Yf (h:∀ i,i<n->p i=false):anyP n p=false:=List.any_eq_false.2 fun i hi=>by rw[h i (List.mem_range.1 hi)];exact Bool.false_ne_true
end
abbrev pS (r:Rat) (j:Nat) (s:Rat) (k:Nat):Pat Dx:=.agg [.cls (.q r j),.cls (.q s k)]
theorem cfz {r s:Rat}:jh r s>0↔s<r:=by
 unfold jh;by_cases h:r<s
 ·rw[cq h];exact⟨fun x=>absurd x (by decide),fun x=>absurd x (by grind)⟩
 ·rw[cg h];by_cases h2:s<r
  ·rw[cq h2];exact⟨fun _=>h2,fun _=>by decide⟩
  ·rw[cg h2];exact⟨fun x=>absurd x (by decide),fun x=>absurd x h2⟩
abbrev E2:=Tx×Tx
abbrev fT (t:Tx):List (Grp Dx):=[.lit (str t)]
theorem cfV {n:Nat}{p:Nat->Bool}(h:anyP n p=false) {i:Nat}(hi:i<n):p i=false:=by
 unfold anyP at h;exact Bool.eq_false_iff.2 (List.any_eq_false.1 h i (List.mem_range.2 hi))
theorem ckF {r:Rat}(h:¬ sign r<0):0<=r:=by
 rw[Wz] at h;split at h
 ·exact absurd (by decide) h
 ·rename_i h1;exact Rat.not_lt.1 h1
end Pe
namespace Pe
theorem clt {r s:Rat}:jh r s<0↔r<s:=by
 unfold jh;by_cases h:r<s
 ·rw[cq h];exact⟨fun _=>h,fun _=>by decide⟩
 ·rw[cg h];by_cases h2:s<r
  ·rw[cq h2];exact⟨fun x=>absurd x (by decide),fun x=>absurd x h⟩
  ·rw[cg h2];exact⟨fun x=>absurd x (by decide),fun x=>absurd x h⟩
theorem czero {r s:Rat}:jh r s=0↔r=s:=⟨fun h=>by
 have h1:=cbj.1 (show jh r s<=0 by omega);have h2:¬ r<s:=fun x=>by have:=clt.2 x;omega
 exact Rat.le_antisymm h1 (Rat.not_lt.1 h2),fun h=>by subst h;unfold jh;rw[cg Rat.lt_irrefl,cg Rat.lt_irrefl]⟩
theorem cle {r s:Rat}:jh r s<=0↔r<=s:=cbj
abbrev R3:=Rat×Rat×Rat
abbrev fm (L:List R3) (i:Nat):Rat:=(L.getD i default).1
abbrev gl (L:List R3) (i:Nat):Rat:=(L.getD i default).2.1
abbrev gh (L:List R3) (i:Nat):Rat:=(L.getD i default).2.2
def okSp (a b:Rat):Bool:=!(decide (sign a<0))&&decide (jh a b<=0)
theorem ceT {a b:Rat}:okSp a b=true↔0<=a/\a<=b:=by
 unfold okSp;rw[zq,Bool.not_eq_true',decide_eq_false_iff_not,EA,cle];refine and_congr ⟨ckF,fun h h1=>?_⟩ Iff.rfl;rw[Wz] at h1;split at h1
 ·rename_i h2;grind
 ·split at h1<;>exact absurd h1 (by decide)
def mayF (p s:R3):Bool:=decide (jh p.1 s.1<0)&&decide (jh p.2.1 s.2.1<=0)&&decide (jh p.2.2 s.2.2<=0)
def ZV (L:List R3) (i:Nat):Bool:=!okSp (gl L i) (gh L i)||(decide (0<i)&&!mayF (L.getD (i-1) default) (L.getD i default))
def uz (L:List R3):Bool:=decide (1<=L.length)&&decide (L.length<=30)&&decide (sign (fm L 0)=0)&&!anyP L.length (ZV L)
structure Law (L:List R3):Prop where
 ne:1<=L.length
 le:L.length<=30
 zero:fm L 0=0
 sp:∀ i,i<L.length->0<=gl L i/\gl L i<=gh L i
 up:∀ i,i+1<L.length->fm L i<fm L (i+1)/\gl L i<=gl L (i+1)/\gh L i<=gh L (i+1)
theorem sgn0 {r:Rat}(h:sign r=0):r=0:=by
 rw[Wz] at h;split at h
 ·cases h
 ·split at h
  ·cases h
  ·rename_i h1 h2;exact Rat.le_antisymm (Rat.not_lt.1 h2) (Rat.not_lt.1 h1)
theorem cbR {L:List R3}(h:uz L=true):Law L:=by
 unfold uz at h;simp only[zq,EA,Bool.not_eq_true'] at h;obtain⟨⟨⟨h1,h2⟩,h3⟩,h4⟩:=h;have hb:∀ i,i<L.length->ZV L i=false:=fun i hi=>cfV h4 hi;have hs:∀ i,i<L.length->okSp (gl L i) (gh L i)=true:=fun i hi=>by
  have:=hb i hi;unfold ZV at this;rw[cgf] at this;simpa using this.1
 refine⟨h1,h2,?_,fun i hi=>ceT.1 (hs i hi),fun i hi=>?_⟩
 ·exact sgn0 h3
 ·have:=hb (i+1) hi;unfold ZV at this;rw[cgf] at this;have h5:=this.2;rw[cH (by omega),UL,cbq] at h5;have h5:mayF (L.getD i default) (L.getD (i+1) default)=true:=by simpa using h5
  unfold mayF at h5;simp only[zq,EA] at h5;exact⟨clt.1 h5.1.1,cle.1 h5.1.2,cle.1 h5.2⟩
section
variable {L:List R3}(h:Law L)
include h
theorem Law.lt {i:Nat}:∀ {j:Nat},i<j->j<L.length->fm L i<fm L j
 |0,h1,_=>absurd h1 (cW _)
 |j+1,h1,h2=>by
  have h3:=(h.up j h2).1;rcases Nat.lt_succ_iff_lt_or_eq.1 h1 with h4|rfl
  ·have:=Law.lt h4 (by omega);grind
  ·exact h3
theorem Law.mono {i : Nat} : ∀ {j : Nat}, i ≤ j → j < L.length → gl L i ≤ gl L j ∧ gh L i ≤ gh L j
  | 0, h1, _ => by obtain rfl : i = 0 := by omega
                   exact ⟨yI, yI⟩
  | j + 1, h1, h2 => by
    rcases cbs h1 with h4 | rfl
    · have := Law.mono (show i ≤ j by omega) (by omega)
      have h3 := h.up j h2
      exact ⟨by grind, by grind⟩
    · exact ⟨yI, yI⟩
end
def psS (L:List R3) (x:Rat):Nat:=L.findIdx fun p=>decide (¬ jh p.1 x<0)
theorem YT {α:Type}[Inhabited α] {L:List α}{i:Nat}(h:i<L.length):L.getD i default=L[i]:=by
 rw[zQ,kf h];rfl
theorem psS_is {L:List R3}{x:Rat}{i:Nat}(hi:i<=L.length) (h1:∀ k,k<i->jh (fm L k) x<0) (h2:i<L.length->¬ jh (fm L i) x<0):psS L x=i:=by
 rcases cbs hi with h3|rfl
 ·refine(List.findIdx_eq h3).2 ⟨?_,fun j hj=>?_⟩
  ·have:=h2 h3;rw[fm,YT h3] at this;exact cH this
  ·have:=h1 j hj;rw[fm,YT (by omega)] at this;exact cJ (fun h=>h this)
 ·refine List.findIdx_eq_length.2 fun p hp=>?_;obtain⟨j,hj,rfl⟩:=List.mem_iff_getElem.1 hp;have:=h1 j hj;rw[fm,YT hj] at this;exact cJ (fun h=>h this)
theorem cjS {L:List R3}{x:Rat}{k:Nat}(hk:k<psS L x):fm L k<x/\k<L.length:=by
 have hl:k<L.length:=cF hk List.findIdx_le_length;have:=List.not_of_lt_findIdx hk;simp only[decide_not,Bool.not_eq_false',EA] at this;refine⟨clt.1 ?_,hl⟩;rw[fm,YT hl];simpa using this
theorem psS_at {L:List R3}{x:Rat}(hk:psS L x<L.length):x<=fm L (psS L x):=by
 rw[fm,YT hk];unfold psS at hk ⊢;have h1:=List.findIdx_getElem (w:=hk);have h2:=ji h1;exact Rat.not_lt.1 (fun h=>h2 (clt.2 h))
def fdS (L:List R3) (x:Rat):Bool:=decide (psS L x<L.length)&&decide (jh (fm L (psS L x)) x=0)
def gIx (L:List R3) (x:Rat):Nat:=psS L x-(bif fdS L x then 0 else 1)
def IsIx (L:List R3) (x:Rat) (i:Nat):Prop:=i<L.length/\fm L i<=x/\∀ k,i<k->k<L.length->x<fm L k
theorem IsIx.uniq {L:List R3}{x:Rat}{i j:Nat}(h1:IsIx L x i) (h2:IsIx L x j):i=j:=by
 rcases Kh i j with h|h|h
 ·have a:=h1.2.2 j h h2.1;have b:=h2.2.1;exact absurd b (by grind)
 ·exact h
 ·have a:=h2.2.2 i h h1.1;have b:=h1.2.1;exact absurd b (by grind)
section
variable {L:List R3}{x:Rat}(h:Law L) (hx:0<=x)
include h hx
theorem ps_pos (hf:fdS L x=false):0<psS L x:=by
 rcases kx (psS L x) with h0|h0
 ·exfalso;have hl:psS L x<L.length:=by have:=h.ne;omega
  have h1:=psS_at hl;rw[h0,h.zero] at h1;obtain rfl:x=0:=Rat.le_antisymm h1 hx;unfold fdS at hf;rw[cH hl,UL] at hf;have:=ju hf;rw[h0,h.zero] at this;exact this (czero.2 rfl)
 ·exact h0
theorem Jf:IsIx L x (gIx L x):=by
 unfold gIx;cases hf:fdS L x with
 |true =>
  unfold fdS at hf;rw[zq] at hf;have h1:=ji hf.1;have h2:=czero.1 (ji hf.2);simp only[cond_true,Nat.sub_zero];refine⟨h1,by rw[h2];exact yI,fun k hk hl=>?_⟩;have:=h.lt hk hl;rw[h2] at this;exact this
 |false =>
  have h0:=ps_pos h hx hf;simp only[cond_false];obtain⟨h1,h2⟩:=cjS (L:=L) (x:=x) (k:=psS L x-1) (by omega);refine⟨h2,Jx h1,fun k hk hl=>?_⟩;have hl':psS L x<L.length:=by omega
  have h3:=psS_at hl';have h4:x≠fm L (psS L x):=by
   intro he;unfold fdS at hf;rw[cH hl',UL] at hf;exact ju hf (czero.2 he.symm)
  have h5:x<fm L (psS L x):=by grind
  rcases cbs (show psS L x<=k by omega) with h6|h6
  ·have:=h.lt h6 hl;grind
  ·rw[← h6];exact h5
end
theorem chP {L:List R3}(h:Law L) {x y:Rat}(hx:0<=x) (hxy:x<=y):gIx L x<=gIx L y:=by
 have h1:=Jf h hx;have h2:=Jf h (Cj hx hxy);rcases jc (gIx L y) (gIx L x) with h3|h3
 ·have:=h2.2.2 _ h3 h1.1;have:=h1.2.1;exact absurd hxy (by grind)
 ·exact h3
def stx (L:List R3) (a b:Rat):Rat×Rat:=(a+gl L (gIx L a),b+gh L (gIx L b))
def onG (g:Rat) (s:Rat×Rat):Rat×Rat:=(((s.1*g⁻¹).floor:Int)*g,((s.2*g⁻¹).ceil:Int)*g)
def stp (L:List R3) (g a b:Rat):Rat×Rat:=bif decide (sign g=0) then stx L a b else onG g (stx L a b)
def itr (L:List R3) (g a b:Rat):Nat->Rat×Rat
 |0=>(a,b)
 |n+1=>stp L g (itr L g a b n).1 (itr L g a b n).2
theorem onG_out {g:Rat}(hg:0<g) (s:Rat×Rat):(onG g s).1<=s.1/\s.2<=(onG g s).2:=by
 have h1:g⁻¹*g=1:=Rat.inv_mul_cancel g (by grind);have h2:s.1*g⁻¹*g=s.1:=by rw[Rat.mul_assoc,h1,Rat.mul_one]
 have h3:s.2*g⁻¹*g=s.2:=by rw[Rat.mul_assoc,h1,Rat.mul_one]
 constructor
 ·have:=cgs (Rat.floor_le (s.1*g⁻¹)) (Jx hg);rw[h2] at this;exact this
 ·have:=cgs ((Rat.le_ceil:s.2*g⁻¹<=_)) (Jx hg);rw[h3] at this;exact this
theorem onG_nn {g:Rat}(hg:0<g) {s:Rat×Rat}(hs:0<=s.1):0<=(onG g s).1:=by
 have hi:0<=g⁻¹:=Jx (Rat.inv_pos.2 hg);have h1:0<=s.1*g⁻¹:=Rat.mul_nonneg hs hi;have h2:(0:Int)<=(s.1*g⁻¹).floor:=Rat.le_floor_iff.2 (by simpa using h1);exact Rat.mul_nonneg (by exact_mod_cast h2) (Jx hg)
theorem ckZ {g:Rat}(hg:0<=g):(sign g=0/\g=0)\/(sign g≠0/\0<g):=by
 by_cases h:g=0
 ·subst h;exact .inl ⟨rfl,rfl⟩
 ·exact .inr ⟨fun h0=>h (sgn0 h0),by grind⟩
theorem clx {L:List R3}(h:Law L) {g a b x d:Rat}(hg:0<=g) (ha:0<=a) (hax:a<=x) (hxb:x<=b) (h1:gl L (gIx L x)<=d) (h2:d<=gh L (gIx L x)) :
 0<=(stp L g a b).1/\(stp L g a b).1<=x+d/\x+d<=(stp L g a b).2:=by
 have hx:=Cj ha hax;have m1:=(h.mono (chP h ha hax) (Jf h hx).1).1;have m2:=(h.mono (chP h hx hxb) (Jf h (Cj hx hxb)).1).2;have n1:=(h.sp _ (Jf h ha).1).1;have e1:(stx L a b).1<=x+d:=by show a+gl L (gIx L a)<=x+d;grind
 have e2:x+d<=(stx L a b).2:=by show x+d<=b+gh L (gIx L b);grind
 have e3:0<=(stx L a b).1:=by show 0<=a+gl L (gIx L a);grind
 unfold stp;rcases ckZ hg with⟨h0,_⟩|⟨h0,hp⟩
 ·rw[cH h0];exact⟨e3,e1,e2⟩
 ·rw[cJ h0];obtain⟨o1,o2⟩:=onG_out hp (stx L a b);exact⟨onG_nn hp e3,Cj o1 e1,Cj e2 o2⟩
theorem stp_ok {L:List R3}(h:Law L) {g a b:Rat}(hg:0<=g) (ha:0<=a) (hab:a<=b):0<=(stp L g a b).1/\(stp L g a b).1<=(stp L g a b).2:=by
 have h1:=h.sp _ (Jf h ha).1;obtain⟨q1,q2,q3⟩:=clx h (x:=a) (d:=gl L (gIx L a)) hg ha yI hab yI h1.2;exact⟨q1,Cj q2 q3⟩
theorem stx_ok {L:List R3}(h:Law L) {a b:Rat}(ha:0<=a) (hab:a<=b):0<=(stx L a b).1/\(stx L a b).1<=(stx L a b).2:=stp_ok h (g:=0) yI ha hab
theorem Uq {L:List R3}(h:Law L) {g a b:Rat}(hg:0<=g) (ha:0<=a) (hab:a<=b):∀ n,0<=(itr L g a b n).1/\(itr L g a b n).1<=(itr L g a b n).2
 |0=>⟨ha,hab⟩
 |n+1=>stp_ok h hg (Uq h hg ha hab n).1 (Uq h hg ha hab n).2
def Orb (L:List R3) (x:Nat->Rat) (n:Nat):Prop:=∀ i,i<n->gl L (gIx L (x i))<=x (i+1)-x i/\x (i+1)-x i<=gh L (gIx L (x i))
theorem cbv {L:List R3}(h:Law L) {g a b:Rat}{x:Nat->Rat}(hg:0<=g) (ha:0<=a) (hax:a<=x 0) (hxb:x 0<=b):∀ n,Orb L x n->0<=(itr L g a b n).1/\(itr L g a b n).1<=x n/\x n<=(itr L g a b n).2
 |0,_=>⟨ha,hax,hxb⟩
 |n+1,ho=>by
  obtain⟨q1,q2,q3⟩:=cbv h hg ha hax hxb n (fun i hi=>ho i (by omega));obtain⟨o1,o2⟩:=ho n (by omega);have:=clx h (g:=g) hg q1 q2 q3 o1 o2;have e:x n+(x (n+1)-x n)=x (n+1):=by grind
  rw[e] at this;exact this
theorem orb_low {L:List R3}(h:Law L) {a b:Rat}(ha:0<=a) (hab:a<=b) (n:Nat):Orb L (fun i=>(itr L 0 a b i).1) n:=fun i _=>by
 have h1:=Uq h (g:=0) yI ha hab i;have h2:=h.sp _ (Jf h h1.1).1;have e:(itr L 0 a b (i+1)).1=(itr L 0 a b i).1+gl L (gIx L (itr L 0 a b i).1):=rfl;show gl L (gIx L (itr L 0 a b i).1)<=(itr L 0 a b (i+1)).1-(itr L 0 a b i).1/\(itr L 0 a b (i+1)).1-(itr L 0 a b i).1<=gh L (gIx L (itr L 0 a b i).1);rw[e];generalize (itr L 0 a b i).1=y at *;exact⟨by grind,by grind⟩
theorem cow {L:List R3}(h:Law L) {a b:Rat}(ha:0<=a) (hab:a<=b) (n:Nat):Orb L (fun i=>(itr L 0 a b i).2) n:=fun i _=>by
 have h1:=Uq h (g:=0) yI ha hab i;have h2:=h.sp _ (Jf h (Cj h1.1 h1.2)).1;have e:(itr L 0 a b (i+1)).2=(itr L 0 a b i).2+gh L (gIx L (itr L 0 a b i).2):=rfl;show gl L (gIx L (itr L 0 a b i).2)<=(itr L 0 a b (i+1)).2-(itr L 0 a b i).2/\(itr L 0 a b (i+1)).2-(itr L 0 a b i).2<=gh L (gIx L (itr L 0 a b i).2);rw[e];generalize (itr L 0 a b i).2=y at *;exact⟨by grind,by grind⟩
def atV (a b:Rat) (p:Nat):Rat:=a+(b-a)*(((p:Int):Rat)/((255:Int):Rat))
theorem atV_in {a b:Rat}{p:Nat}(hab:a<=b) (hp:p<=255):a<=atV a b p/\atV a b p<=b:=by
 have h1:(0:Rat)<=((p:Int):Rat):=by exact_mod_cast Zo p
 have h2:((p:Int):Rat)<=((255:Int):Rat):=Rat.intCast_le_intCast.2 (by omega);have h3:(0:Rat)<((255:Int):Rat):=by decide
 have hi:(0:Rat)<=(((255:Int):Rat))⁻¹:=Jx (Rat.inv_pos.2 h3);have h4:(0:Rat)<=((p:Int):Rat)/((255:Int):Rat):=by
  rw[Rat.div_def];exact Rat.mul_nonneg h1 hi
 have h5:((p:Int):Rat)/((255:Int):Rat)<=1:=by
  rw[Rat.div_def];have:=cgs h2 hi
  rwa [Rat.mul_inv_cancel _ (by grind)] at this
 have h6:0<=b-a:=by grind
 unfold atV;generalize ((p:Int):Rat)/((255:Int):Rat)=t at *;have h7:=Rat.mul_nonneg h6 h4;have h8:=Rat.mul_le_mul_of_nonneg_left h5 h6;rw[Rat.mul_one] at h8;exact⟨by grind,by grind⟩
def grw (L:List R3) (x:Rat) (p:Nat):Rat:=x+atV (gl L (gIx L x)) (gh L (gIx L x)) p
def szs (L:List R3) (x:Rat) (ps:List Nat):Nat->Rat
 |0=>x
 |i+1=>grw L (szs L x ps i) (ps.getD i 0)
theorem cff {L:List R3}(h:Law L) {x:Rat}(hx:0<=x) {ps:List Nat}(hp:∀ p∈ps,p<=255):∀ n,0<=szs L x ps n/\Orb L (szs L x ps) n
 |0=>⟨hx,fun i hi=>by omega⟩
 |n+1=>by
  obtain⟨h1,h2⟩:=cff h hx hp n;have h3:=h.sp _ (Jf h h1).1;have h4:ps.getD n 0<=255:=by
   rw[zQ];cases hq:ps[n]? with
   |none=>simp
   |some y=>exact hp y (KO hq)
  have h5:=atV_in h3.2 h4;have e:szs L x ps (n+1)=szs L x ps n+atV (gl L (gIx L (szs L x ps n))) (gh L (gIx L (szs L x ps n))) (ps.getD n 0):=rfl;refine⟨?_,fun i hi=>?_⟩
  ·rw[e];grind
  ·rcases Nat.lt_succ_iff_lt_or_eq.1 hi with hi|rfl
   ·exact h2 i hi
   ·rw[e];generalize szs L x ps i=y at *;exact⟨by grind,by grind⟩
def ddl (L:List R3) (g a b c:Rat):Nat:=match (List.range 200).find? (fun p=>decide (jh (itr L g a b (p+1)).2 c>0)) with
 |some p=>p
 |none=>200
theorem coG {L:List R3}{g a b c:Rat}{p:Nat}(hp:p<200) (h:decide (jh (itr L g a b (p+1)).2 c>0)=true) (hb:∀ k,k<p->decide (jh (itr L g a b (k+1)).2 c>0)=false):ddl L g a b c=p:=by
 have:(List.range 200).find? (fun p=>decide (jh (itr L g a b (p+1)).2 c>0))=some p:=by
  rw[List.find?_range_eq_some];exact⟨h,List.mem_range.2 hp,fun j hj=>by simp only[hb j hj];rfl⟩
 unfold ddl;rw[this]
theorem coP {L:List R3}{g a b c:Rat}(hb:∀ k,k<200->decide (jh (itr L g a b (k+1)).2 c>0)=false):ddl L g a b c=200:=by
 have:(List.range 200).find? (fun p=>decide (jh (itr L g a b (p+1)).2 c>0))=none:=by
  rw[List.find?_eq_none];intro i hi;rw[hb i (List.mem_range.1 hi)];exact Bool.false_ne_true
 unfold ddl;rw[this]
theorem ddl_le (L:List R3) (g a b c:Rat):ddl L g a b c<=200:=by
 unfold ddl;split
 ·rename_i p h;have:=List.mem_range.1 (List.mem_of_find?_eq_some h);omega
 ·exact cb _
theorem cix {L:List R3}{g a b c:Rat}{k:Nat}(hk:k<ddl L g a b c):(itr L g a b (k+1)).2<=c:=by
 have hle:=ddl_le L g a b c;have key:decide (jh (itr L g a b (k+1)).2 c>0)=false:=by
  unfold ddl at hk;split at hk
  ·rename_i p h;have:=(List.find?_range_eq_some.1 h).2.2 k hk;simpa using this
  ·rename_i h;have:=List.find?_eq_none.1 h k (List.mem_range.2 hk);simpa using this
 have:=ju key;exact Rat.not_lt.1 (fun h=>this (cfz.2 h))
theorem ddl_at {L:List R3}{g a b c:Rat}(hk:ddl L g a b c<200):c<(itr L g a b (ddl L g a b c+1)).2:=by
 cases hf:(List.range 200).find? (fun p=>decide (jh (itr L g a b (p+1)).2 c>0)) with
 |some p =>
  have e:ddl L g a b c=p:=by unfold ddl;rw[hf]
  rw[e];have h0:=List.find?_some hf;exact cfz.1 (ji h0)
 |none =>
  have e:ddl L g a b c=200:=by unfold ddl;rw[hf]
  omega
end Pe
namespace Pe
noncomputable def kisFrom19_:List Kp:=[.code (codeOf Tryz.f19)]
noncomputable def kisNegative31_:List Kp:=[.code (codeOf Tryz.f31)]
noncomputable def kisValid20_:List Kp:=[.code (codeOf Tryz.f20)]
noncomputable def kmayFollow21_:List Kp:=[.code (codeOf Tryz.f21)]
noncomputable def kgrowth1113_:List Kp:=[.code (codeOf Tryz.f113)]
noncomputable def kCheckLaw6_:List Kp:=[.code (codeOf Tryz.f6)]
noncomputable def kCheckLaw6_n:List Kp:=next kCheckLaw6_
noncomputable def kCheckLaw6_nl:List Kp:=[.code (zO kCheckLaw6_n)]
noncomputable def kOut69_:List Kp:=[.code (codeOf Tryz.f69)]
noncomputable def kCheckLaw6_nt:List Kp:=kCheckLaw6_n.tail
theorem uP {w:World}{ex:List (Nat×Con)}(hG:Gr w) (hN:je) (hE:Ef true w.heap.size w ex):∀ o:Opt,o.ex=ex->UC (W0 w) (TY o):=fun _ ho=>run_ok (cb _) hG hN (by rw[ho];exact hE)
abbrev s3q (x:R3):List (Grp Dx):=[.cls (.q x.1 4),.cls (.q x.2.1 4),.cls (.q x.2.2 4)]
abbrev pSt (x:R3):Pat Dx:=.agg (s3q x)
abbrev pC (lo:Nat) (L:List R3):Pat Dx:=.one (.cls (.ls (lst lo 64 12 L s3q)))
def conSo:Con
 |[p]=>match spOf p with
  |some ((a,j),(b,k))=>ck false (a<=b/\j<=1000000/\k<=1000000) (sr a j b k)
  |none=>none
 |_=>none
def conRe:Con:=q1 fun r k=>ck false (r.num≠0) (qr r⁻¹ k)
theorem cjg {a b:Rat}(h:a<=b):CB a [b]=a:=by
 show (if b<a then b else a)=a;rw[cg (Rat.not_lt.2 h)]
theorem cfI {a b:Rat}(h:a<=b):yy a [b]=b:=by
 show (if a<b then b else a)=b;by_cases h1:a<b
 ·rw[cq h1]
 ·rw[cg h1];exact Rat.le_antisymm h (Rat.not_lt.1 h1)
theorem cnZ {lo:Nat}{w0:World}:∀ l r ob,conSo l=some (r,ob)->jS ob->jJ (Cx true lo w0) (.call 40) l r:=by
 intro l res ob h ho;unfold conSo at h;split at h
 ·split at h
  ·rename_i p a j b k hq;obtain⟨⟨hk,hj,hk'⟩,rfl⟩:=EL h ho;refine⟨ja Tryz.func40 (by kernel_rfl) rfl,fun w vs hb hvs=>?_⟩;obtain⟨v,_,rfl,h1,rfl⟩:=hvs;obtain⟨h1,z1,z2⟩:=cla hq h1;refine(cda v a b (j+k) w h1 (z1.le (by omega)) (z2.le (by omega)) (by omega)).mono fun _ _ h=>?_;rw[cjg hk,cfI hk] at h;exact res_s z1 z2 h
  ·cases h
 ·cases h
theorem cpl {lo:Nat}{w0:World}:∀ l r ob,conRe l=some (r,ob)->jS ob->jJ (Cx true lo w0) (.call 67) l r:=by
 intro l res ob h ho;refine cbS h (ja Tryz.func67 (by kernel_rfl) rfl) (fun r k h w v hb a1 z1=>?_);obtain⟨hk,rfl⟩:=EL h ho;exact(cbF v r w a1 hk).mono fun _ _ h=>caJ (z1.inv hk) h
abbrev exOu:List (Nat×Con):=[(40,conSo),(67,conRe)]
theorem exOu_ok {lo:Nat}{w0:World}:Ef true lo w0 exOu:=jm cnZ (jm cpl jT)
theorem num_pos {g:Rat}(h:0<g):g.num≠0:=fun h0=>by
 have:g=0:=Rat.num_eq_zero.1 h0;subst this;exact absurd h (by decide)
theorem outa {w:World}(a b g:Rat) (j k:Nat):runR w ⟨[(69,11,false)],[],exOu⟩ 69 34 Tryz.f69 kOut69_ (stA [pS a j b k,pQ g 4]) [pS (((a*g⁻¹).floor:Int)*g) (j+10) (((b*g⁻¹).ceil:Int)*g) (k+10),pI 0]=some (.ret,[decide (sign g<=0)=false,a<=b/\j<=1000000/\k<=1000000,g.1≠0,j+4<=1000000,1<=j+4/\j+4<=100000,k+4<=1000000,1<=k+4/\k+4<=100000,j+4+2+4<=1000000,k+4+2+4<=1000000,jo (W0 w) (.q ((↑(a*g.inv).floor:Rat)*g) (j+10)) (.q ((↑(a*g.inv).floor:Rat)*g) (j+4+2+4)),jo (W0 w) (.q ((↑(b*g.inv).ceil:Rat)*g) (k+10)) (.q ((↑(b*g.inv).ceil:Rat)*g) (k+4+2+4)),eA (Value.int IntKind.i64 0),kN (W0 w) (.q ((↑(a*g.inv).floor:Rat)*g) (j+10)),kN (W0 w) (.q ((↑(b*g.inv).ceil:Rat)*g) (k+10))]):=by kernel_rfl
theorem out_ok (hN:je) (a b g:Rat) (j k:Nat) (hab:a<=b) (hg:0<g) (hj:j<=50000) (hk:k<=50000):CE 69 [pS a j b k,pQ g 4] (fun _=>[pS (((a*g⁻¹).floor:Int)*g) (j+10) (((b*g⁻¹).ceil:Int)*g) (k+10),pI 0]):=by
 intro w vs hG hp;refine ze hG hN (ex:=exOu) exOu_ok (fn:=Tryz.f69) Tryz.func69 (c:=codeOf Tryz.f69) (by kernel_rfl) (args:=[pS a j b k,pQ g 4]) (by kernel_rfl) hp (fun hR _ hA=>?_);exact kj (outa a b g j k) (hR _ rfl) hA (by (repeat' (first|exact trivial|apply And.intro))<;>first|exact jo.refl _ _|exact fun _ _=>kF.refl _ _|exact cX rfl|exact cZ _ _|exact jb _ _|(with_reducible assumption)|omega|with_reducible rfl|(simp only[cO];omega)|(intro j hj;exact absurd hj (cW _))|exact cJ (by rw[Wz,cg (by grind),cq hg];decide)|exact num_pos hg|exact⟨hab,by omega,by omega⟩|exact⟨by omega,by omega⟩|exact cZ _ _|exact ET rfl (by omega)|rfl)
theorem out_ent {lo:Nat}{w0:World}{a b g:Rat}{j k:Nat}(hN:je) (hG:Gr w0) (hlo:lo<=w0.heap.size) (hab:a<=b) (hg:0<g) (hj:j<=50000) (hk:k<=50000):jJ (Cx true lo w0) (.call 69) [pS a j b k,pQ g 4] (JC [pS (onG g (a,b)).1 (j+10) (onG g (a,b)).2 (k+10),pI 0]) :=
 (out_ok hN a b g j k hab hg hj hk).ent hG hlo (ja Tryz.func69 (by kernel_rfl) rfl) (fun hi h=>⟨_,rfl,jo.refl _ _,jo.refl _ _,rfl,trivial⟩)
def cir:Con
 |[.one (.lit (.int .i64 a)),.one (.lit (.int .i64 n)),.one (.lit (.int .i64 b))]=>some (vr (.bool (decide (a<=n)&&decide (n<=b))),[])
 |_=>none
def cjx:Con
 |[.agg [.cls (.q r _)]]=>some (vr (.bool (decide (sign r<0))),[])
 |_=>none
def conVa:Con
 |[.agg [.cls (.q a j),.cls (.q b k)]]=>some (vr (.bool (okSp a b)),[j+k<=10000])
 |_=>none
def conMf:Con
 |[.agg [.cls (.q a 4),.cls (.q b 4),.cls (.q c 4)],.agg [.cls (.q d 4),.cls (.q e 4),.cls (.q f 4)]]=>some (vr (.bool (mayF (d,e,f) (a,b,c))),[])
 |_=>none
def conKy:Con
 |[.agg [.cls (.q r j),.cls (.q _ _),.cls (.q _ _)],.agg [.cls (.q x m)]]=>some (vr (.int .i64 (jh r x)),[j+m<=10000])
 |_=>none
noncomputable abbrev frcR (w:World) (a n b:Int) (o:List (Nat×Nat×Bool)):=runR w ⟨o,[],[]⟩ 19 15 Tryz.f19 kisFrom19_ (stA [pI a,pI n,pI b]) (rB (decide (a<=n)&&decide (n<=b)))
theorem frc0 {w:World}(a n b:Int):frcR w a n b [(19,9,true),(19,13,true)]=some (.ret,[decide (a<=n)=true,decide (n<=b)=true,Value.bool (decide (a<=n)&&decide (n<=b))=Value.bool true]):=by kernel_rfl
theorem frc1 {w:World}(a n b:Int):frcR w a n b [(19,9,true),(19,13,false)]=some (.ret,[decide (a<=n)=true,decide (n<=b)=false,Value.bool (decide (a<=n)&&decide (n<=b))=Value.bool false]):=by kernel_rfl
theorem frc2 {w:World}(a n b:Int):frcR w a n b [(19,9,false)]=some (.ret,[decide (a<=n)=false,Value.bool (decide (a<=n)&&decide (n<=b))=Value.bool false]):=by kernel_rfl
theorem frC_ok (hN:je) (a n b:Int):CE 19 [pI a,pI n,pI b] (fun _=>rB (decide (a<=n)&&decide (n<=b))):=by
 intro w vs hG hp;refine ze hG hN (ex:=[]) jT (fn:=Tryz.f19) Tryz.func19 (c:=codeOf Tryz.f19) (by kernel_rfl) (args:=[pI a,pI n,pI b]) (by kernel_rfl) hp (fun hR _ hA=>?_);rcases jZ (decide (a<=n)) with q9|q9
 ·skip
  have p9:=ji q9;rcases jZ (decide (n<=b)) with q13|q13
  ·skip
   have p13:=ji q13;refine kj (frc0 a n b) (hR _ rfl) hA (by (repeat' (first|exact trivial|apply And.intro))<;>first|exact jo.refl _ _|exact fun _ _=>kF.refl _ _|exact cX rfl|exact cZ _ _|exact jb _ _|(with_reducible assumption)|omega|with_reducible rfl|(simp only[cO];omega)|(intro j hj;exact absurd hj (cW _))|exact cu Value.bool (by rw[q9];first|rfl|(rw[q13];rfl))|rfl)
  ·skip
   have p13:=ju q13;refine kj (frc1 a n b) (hR _ rfl) hA (by (repeat' (first|exact trivial|apply And.intro))<;>first|exact jo.refl _ _|exact fun _ _=>kF.refl _ _|exact cX rfl|exact cZ _ _|exact jb _ _|(with_reducible assumption)|omega|with_reducible rfl|(simp only[cO];omega)|(intro j hj;exact absurd hj (cW _))|exact cu Value.bool (by rw[q9];first|rfl|(rw[q13];rfl))|rfl)
 ·skip
  have p9:=ju q9;refine kj (frc2 a n b) (hR _ rfl) hA (by (repeat' (first|exact trivial|apply And.intro))<;>first|exact jo.refl _ _|exact fun _ _=>kF.refl _ _|exact cX rfl|exact cZ _ _|exact jb _ _|(with_reducible assumption)|omega|with_reducible rfl|(simp only[cO];omega)|(intro j hj;exact absurd hj (cW _))|exact cu Value.bool (by rw[q9];first|rfl|(rw[q13];rfl))|rfl)
noncomputable abbrev ngcR (w:World) (r:Rat) (k:Nat) (o:List (Nat×Nat×Bool)):=runR w ⟨o,[],[]⟩ 31 6 Tryz.f31 kisNegative31_ (stA [pQ r k]) (rB (decide (sign r<0)))
theorem ngc0 {w:World}(r:Rat) (k:Nat):ngcR w r k [(31,5,true)]=some (.ret,[decide (sign r<0)=true,Value.bool (decide (sign r<0))=Value.bool true]):=by kernel_rfl
theorem ngc1 {w:World}(r:Rat) (k:Nat):ngcR w r k [(31,5,false)]=some (.ret,[decide (sign r<0)=false,Value.bool (decide (sign r<0))=Value.bool false]):=by kernel_rfl
theorem ngC_ok (hN:je) (r:Rat) (k:Nat):CE 31 [pQ r k] (fun _=>rB (decide (sign r<0))):=by
 intro w vs hG hp;refine ze hG hN (ex:=[]) jT (fn:=Tryz.f31) Tryz.func31 (c:=codeOf Tryz.f31) (by kernel_rfl) (args:=[pQ r k]) (by kernel_rfl) hp (fun hR _ hA=>?_);rcases jZ (decide (sign r<0)) with q5|q5
 ·skip
  have p5:=ji q5
  first|have e0:=cu Value.bool q5|skip
  refine kj (ngc0 r k) (hR _ rfl) hA
 ·skip
  have p5:=ju q5
  first|have e0:=cu Value.bool q5|skip
  refine kj (ngc1 r k) (hR _ rfl) hA
theorem cdJ {lo:Nat}{w0:World}(hN:je) (hG:Gr w0) (hlo:lo<=w0.heap.size):∀ l r ob,cir l=some (r,ob)->jS ob->jJ (Cx true lo w0) (.call 19) l r:=by
 intro l r ob h ho;unfold cir at h;split at h
 ·injection h with h;injection h with h1 h2;subst h1;subst h2
  exact(frC_ok hN _ _ _).val hG hlo (ja Tryz.func19 (by kernel_rfl) rfl)
 ·cases h
theorem ceL {lo:Nat}{w0:World}(hN:je) (hG:Gr w0) (hlo:lo<=w0.heap.size):∀ l r ob,cjx l=some (r,ob)->jS ob->jJ (Cx true lo w0) (.call 31) l r:=by
 intro l r ob h ho;unfold cjx at h;split at h
 ·injection h with h;injection h with h1 h2;subst h1;subst h2
  exact(ngC_ok hN _ _).val hG hlo (ja Tryz.func31 (by kernel_rfl) rfl)
 ·cases h
abbrev exNg:List (Nat×Con):=[(31,cjx)]
theorem exNg_ok {lo:Nat}{w0:World}(hN:je) (hG:Gr w0) (hlo:lo<=w0.heap.size):Ef true lo w0 exNg:=jm (ceL hN hG hlo) jT
noncomputable abbrev vacR (w:World) (a b:Rat) (j k:Nat)  (o:List (Nat×Nat×Bool)):=runR w ⟨o,[],exNg⟩ 20 15 Tryz.f20 kisValid20_ (stA [pS a j b k]) (rB (okSp a b))
theorem vac0 {w:World}(a b:Rat) (j k:Nat):vacR w a b j k [(20,5,true)]=some (.ret,[decide (sign a<0)=true,Value.bool (okSp a b)=Value.bool false]):=by kernel_rfl
theorem vac1 {w:World}(a b:Rat) (j k:Nat):vacR w a b j k [(20,5,false),(20,13,true)]=some (.ret,[decide (sign a<0)=false,j+k<=1000000,decide (jh a b<=0)=true,Value.bool (okSp a b)=Value.bool true]):=by kernel_rfl
theorem vac2 {w:World}(a b:Rat) (j k:Nat):vacR w a b j k [(20,5,false),(20,13,false)]=some (.ret,[decide (sign a<0)=false,j+k<=1000000,decide (jh a b<=0)=false,Value.bool (okSp a b)=Value.bool false]):=by kernel_rfl
theorem va_ok (hN:je) (a b:Rat) (j k:Nat) (hj:j+k<=10000):CE 20 [pS a j b k] (fun _=>rB (okSp a b)):=by
 intro w vs hG hp;refine ze hG hN (ex:=exNg) (exNg_ok hN hG (cb _)) (fn:=Tryz.f20) Tryz.func20 (c:=codeOf Tryz.f20) (by kernel_rfl) (args:=[pS a j b k]) (by kernel_rfl) hp (fun hR _ hA=>?_);rcases jZ (decide (sign a<0)) with q5|q5
 ·skip
  have p5:=ji q5;refine kj (vac0 a b j k) (hR _ rfl) hA (by (repeat' (first|exact trivial|apply And.intro))<;>first|exact jo.refl _ _|exact fun _ _=>kF.refl _ _|exact cX rfl|exact cZ _ _|exact jb _ _|(with_reducible assumption)|omega|with_reducible rfl|(simp only[cO];omega)|(intro j hj;exact absurd hj (cW _))|exact cu Value.bool (by unfold okSp;rw[q5];first|rfl|(rw[q13];rfl))|rfl)
 ·skip
  have p5:=ju q5;rcases jZ (decide (jh a b<=0)) with q13|q13
  ·skip
   have p13:=ji q13;refine kj (vac1 a b j k) (hR _ rfl) hA (by (repeat' (first|exact trivial|apply And.intro))<;>first|exact jo.refl _ _|exact fun _ _=>kF.refl _ _|exact cX rfl|exact cZ _ _|exact jb _ _|(with_reducible assumption)|omega|with_reducible rfl|(simp only[cO];omega)|(intro j hj;exact absurd hj (cW _))|exact cu Value.bool (by unfold okSp;rw[q5];first|rfl|(rw[q13];rfl))|rfl)
  ·skip
   have p13:=ju q13;refine kj (vac2 a b j k) (hR _ rfl) hA (by (repeat' (first|exact trivial|apply And.intro))<;>first|exact jo.refl _ _|exact fun _ _=>kF.refl _ _|exact cX rfl|exact cZ _ _|exact jb _ _|(with_reducible assumption)|omega|with_reducible rfl|(simp only[cO];omega)|(intro j hj;exact absurd hj (cW _))|exact cu Value.bool (by unfold okSp;rw[q5];first|rfl|(rw[q13];rfl))|rfl)
theorem chC {lo:Nat}{w0:World}(hN:je) (hG:Gr w0) (hlo:lo<=w0.heap.size):∀ l r ob,conVa l=some (r,ob)->jS ob->jJ (Cx true lo w0) (.call 20) l r:=by
 intro l r ob h ho;unfold conVa at h;split at h
 ·injection h with h;injection h with h1 h2;subst h1;subst h2
  exact(va_ok hN _ _ _ _ ho.1).val hG hlo (ja Tryz.func20 (by kernel_rfl) rfl)
 ·cases h
noncomputable abbrev mfcR (w:World) (a b c d e f:Rat) (o:List (Nat×Nat×Bool)):=runR w ⟨o,[],[]⟩ 21 31 Tryz.f21 kmayFollow21_ (stA [pSt (a,b,c),pSt (d,e,f)]) (rB (mayF (d,e,f) (a,b,c)))
theorem mfc0 {w:World}(a b c d e f:Rat):mfcR w a b c d e f [(21,10,true),(21,19,true),(21,29,true)]=some (.ret,[4+4<=1000000,decide (jh d a<0)=true,4+4<=1000000,decide (jh e b<=0)=true,4+4<=1000000,decide (jh f c<=0)=true,Value.bool (mayF (d,e,f) (a,b,c))=Value.bool true]):=by kernel_rfl
theorem mfc1 {w:World}(a b c d e f:Rat):mfcR w a b c d e f [(21,10,true),(21,19,true),(21,29,false)]=some (.ret,[4+4<=1000000,decide (jh d a<0)=true,4+4<=1000000,decide (jh e b<=0)=true,4+4<=1000000,decide (jh f c<=0)=false,Value.bool (mayF (d,e,f) (a,b,c))=Value.bool false]):=by kernel_rfl
theorem mfc2 {w:World}(a b c d e f:Rat):mfcR w a b c d e f [(21,10,true),(21,19,false)]=some (.ret,[4+4<=1000000,decide (jh d a<0)=true,4+4<=1000000,decide (jh e b<=0)=false,Value.bool (mayF (d,e,f) (a,b,c))=Value.bool false]):=by kernel_rfl
theorem mfc3 {w:World}(a b c d e f:Rat):mfcR w a b c d e f [(21,10,false)]=some (.ret,[4+4<=1000000,decide (jh d a<0)=false,Value.bool (mayF (d,e,f) (a,b,c))=Value.bool false]):=by kernel_rfl
theorem mf_ok (hN:je) (a b c d e f:Rat):CE 21 [pSt (a,b,c),pSt (d,e,f)] (fun _=>rB (mayF (d,e,f) (a,b,c))):=by
 intro w vs hG hp;refine ze hG hN (ex:=[]) jT (fn:=Tryz.f21) Tryz.func21 (c:=codeOf Tryz.f21) (by kernel_rfl) (args:=[pSt (a,b,c),pSt (d,e,f)]) (by kernel_rfl) hp (fun hR _ hA=>?_);rcases jZ (decide (jh d a<0)) with q10|q10
 ·skip
  have p10:=ji q10;rcases jZ (decide (jh e b<=0)) with q19|q19
  ·skip
   have p19:=ji q19;rcases jZ (decide (jh f c<=0)) with q29|q29
   ·skip
    have p29:=ji q29;refine kj (mfc0 a b c d e f) (hR _ rfl) hA (by (repeat' (first|exact trivial|apply And.intro))<;>first|exact jo.refl _ _|exact fun _ _=>kF.refl _ _|exact cX rfl|exact cZ _ _|exact jb _ _|(with_reducible assumption)|omega|with_reducible rfl|(simp only[cO];omega)|(intro j hj;exact absurd hj (cW _))|exact cu Value.bool (by unfold mayF;simp only[];rw[q10];first|rfl|(rw[q19];first|rfl|(rw[q29];rfl)))|rfl)
   ·skip
    have p29:=ju q29;refine kj (mfc1 a b c d e f) (hR _ rfl) hA (by (repeat' (first|exact trivial|apply And.intro))<;>first|exact jo.refl _ _|exact fun _ _=>kF.refl _ _|exact cX rfl|exact cZ _ _|exact jb _ _|(with_reducible assumption)|omega|with_reducible rfl|(simp only[cO];omega)|(intro j hj;exact absurd hj (cW _))|exact cu Value.bool (by unfold mayF;simp only[];rw[q10];first|rfl|(rw[q19];first|rfl|(rw[q29];rfl)))|rfl)
  ·skip
   have p19:=ju q19;refine kj (mfc2 a b c d e f) (hR _ rfl) hA (by (repeat' (first|exact trivial|apply And.intro))<;>first|exact jo.refl _ _|exact fun _ _=>kF.refl _ _|exact cX rfl|exact cZ _ _|exact jb _ _|(with_reducible assumption)|omega|with_reducible rfl|(simp only[cO];omega)|(intro j hj;exact absurd hj (cW _))|exact cu Value.bool (by unfold mayF;simp only[];rw[q10];first|rfl|(rw[q19];first|rfl|(rw[q29];rfl)))|rfl)
 ·skip
  have p10:=ju q10;refine kj (mfc3 a b c d e f) (hR _ rfl) hA (by (repeat' (first|exact trivial|apply And.intro))<;>first|exact jo.refl _ _|exact fun _ _=>kF.refl _ _|exact cX rfl|exact cZ _ _|exact jb _ _|(with_reducible assumption)|omega|with_reducible rfl|(simp only[cO];omega)|(intro j hj;exact absurd hj (cW _))|exact cu Value.bool (by unfold mayF;simp only[];rw[q10];first|rfl|(rw[q19];first|rfl|(rw[q29];rfl)))|rfl)
theorem cpc {lo:Nat}{w0:World}(hN:je) (hG:Gr w0) (hlo:lo<=w0.heap.size):∀ l r ob,conMf l=some (r,ob)->jS ob->jJ (Cx true lo w0) (.call 21) l r:=by
 intro l r ob h ho;unfold conMf at h;split at h
 ·injection h with h;injection h with h1 h2;subst h1;subst h2
  exact(mf_ok hN _ _ _ _ _ _).val hG hlo (ja Tryz.func21 (by kernel_rfl) rfl)
 ·cases h
noncomputable abbrev kycR (w:World) (r s t x:Rat) (j k l m:Nat)  (o:List (Nat×Nat×Bool)):=runR w ⟨o,[],[]⟩ 113 9 Tryz.f113 kgrowth1113_ (stA [.agg [.cls (.q r j),.cls (.q s k),.cls (.q t l)],pQ x m]) (rI (jh r x))
theorem kyc0 {w:World}(r s t x:Rat) (j k l m:Nat):kycR w r s t x j k l m []=some (.ret,[j+m<=1000000,eA (Value.int IntKind.i64 (jh r x))]):=by kernel_rfl
theorem ky_ok (hN:je) (r s t x:Rat) (j k l m:Nat) (hj:j+m<=10000):CE 113 [.agg [.cls (.q r j),.cls (.q s k),.cls (.q t l)],pQ x m] (fun _=>rI (jh r x)):=by
 intro w vs hG hp;refine ze hG hN (ex:=[]) jT (fn:=Tryz.f113) Tryz.func113 (c:=codeOf Tryz.f113) (by kernel_rfl) (args:=[.agg [.cls (.q r j),.cls (.q s k),.cls (.q t l)],pQ x m]) (by kernel_rfl) hp (fun hR _ hA=>?_);refine kj (kyc0 r s t x j k l m) (hR _ rfl) hA
theorem cnG {lo:Nat}{w0:World}(hN:je) (hG:Gr w0) (hlo:lo<=w0.heap.size):∀ l r ob,conKy l=some (r,ob)->jS ob->jJ (Cx true lo w0) (.call 113) l r:=by
 intro l r ob h ho;unfold conKy at h;split at h
 ·injection h with h;injection h with h1 h2;subst h1;subst h2
  exact(ky_ok hN _ _ _ _ _ _ _ _ ho.1).val hG hlo (ja Tryz.func113 (by kernel_rfl) rfl)
 ·cases h
abbrev exCl:List (Nat×Con):=[(19,cir),(20,conVa),(21,conMf)]
theorem exCl_ok {lo:Nat}{w0:World}(hN:je) (hG:Gr w0) (hlo:lo<=w0.heap.size):Ef true lo w0 exCl:=jm (cdJ hN hG hlo) (jm (chC hN hG hlo) (jm (cpc hN hG hlo) jT))
def erC (b:Bool):Int:=bif b then 0 else 2
theorem er2 {L:List R3}(h:uz L=false):Value.int .i64 (erC (uz L))=Value.int .i64 2:=by rw[h];rfl
theorem ces {L:List R3}{i:Nat}(hi:i<L.length) (h:ZV L i=true):uz L=false:=by
 unfold uz;rw[Zu hi h,Bool.not_true,GV]
theorem cmY {L:List R3}(h:(decide ((1:Int)<=(L.length:Int))&&decide ((L.length:Int)<=30))=false):uz L=false:=by
 unfold uz;have:(decide (1<=L.length)&&decide (L.length<=30))=false:=by
  rw[Bool.and_eq_false_iff] at h ⊢;refine h.imp (fun h=>cJ (by have:=ju h;omega)) (fun h=>cJ (by have:=ju h;omega))
 rw[this];rfl
theorem cmT {L:List R3}(h:decide (sign (fm L 0)≠0)=true):uz L=false:=by
 unfold uz;rw[cJ (ji h),GV];rfl
theorem cnu {L:List R3}(h1:(decide ((1:Int)<=(L.length:Int))&&decide ((L.length:Int)<=30))=true) (h2:decide (sign (fm L 0)≠0)=false) (h3:∀ k,k<L.length->ZV L k=false):uz L=true:=by
 unfold uz;rw[zq] at h1;have a1:=ji h1.1;have a2:=ji h1.2;have a3:=ju h2;rw[cH (by omega:1<=L.length),cH (by omega:L.length<=30),cH (by simpa using a3),Yf h3];rfl
abbrev clI (lo:Nat) (L:List R3) (i:Nat):St Dx:=⟨1,[(0,.val (.one (.sym 0 0))),(17,.val (.one (.sym 0 0))),(18,.val (.one (.lit (ii (L.length:Int))))),(19,.val (.one (.lit (ii (i:Int)))))],[(0,.cls (.ls (lst lo 64 12 L s3q)))],[]⟩
theorem clz {w:World}(l0:Nat) (L:List R3) (i:Nat):runR w ⟨[],[],exCl⟩ 6 43 Tryz.f6 kCheckLaw6_nt (clI l0 L i) (rI 0)=some (.ret,[eA (Value.int IntKind.i64 0)]):=by kernel_rfl
noncomputable abbrev clbTe0 (w:World) (l0:Nat) (L:List R3) (i:Nat) (o:List (Nat×Nat×Bool)):=run w ⟨o,[],exCl⟩ 6 43 kCheckLaw6_nl (clI l0 L i) (clI l0 L i)
noncomputable abbrev clbR (w:World) (l0:Nat) (L:List R3) (i:Nat) (o:List (Nat×Nat×Bool)):=runR w ⟨o,[],exCl⟩ 6 43 Tryz.f6 kCheckLaw6_nl (clI l0 L i) (rI (erC (uz L)))
noncomputable abbrev clbTnal (w:World) (l0:Nat) (L:List R3) (i:Nat) (o:List (Nat×Nat×Bool)):=run w ⟨o,[],exCl⟩ 6 43 kCheckLaw6_nl (clI l0 L i) (clI l0 L (i+1))
theorem clb0 {w:World}(l0:Nat) (L:List R3) (i:Nat):clbTnal w l0 L i [(6,20,true),(6,26,true),(6,30,true),(6,38,true),(6,35,true)]=some (.normal,[decide ((i:Int)<(L.length:Int))=true,i<L.length,i<L.length,okSp (L.getD i default).2.1 (L.getD i default).2.2=true,4+4<=10000,decide ((i:Int)>0)=true,1<=i,i<=1000000000,i-1<L.length,i-1<L.length,mayF ((L.getD (i-1) default).1,(L.getD (i-1) default).2.1,(L.getD (i-1) default).2.2) ((L.getD i default).1,(L.getD i default).2.1,(L.getD i default).2.2)=true,yZ ((i:Int)+1),sD w (.ls (lst l0 64 12 L s3q)),eA (ii (L.length:Int)),ii (↑(i+1):Int)=Value.int IntKind.i64 ((i:Int)+1)]):=by kernel_rfl
theorem clb1 {w:World}(l0:Nat) (L:List R3) (i:Nat):clbR w l0 L i [(6,20,true),(6,26,true),(6,30,true),(6,38,false),(6,35,true)]=some (.ret,[decide ((i:Int)<(L.length:Int))=true,i<L.length,i<L.length,okSp (L.getD i default).2.1 (L.getD i default).2.2=true,4+4<=10000,decide ((i:Int)>0)=true,1<=i,i<=1000000000,i-1<L.length,i-1<L.length,mayF ((L.getD (i-1) default).1,(L.getD (i-1) default).2.1,(L.getD (i-1) default).2.2) ((L.getD i default).1,(L.getD i default).2.1,(L.getD i default).2.2)=false,Value.int IntKind.i64 (erC (uz L))=Value.int IntKind.i64 2]):=by kernel_rfl
theorem clb2 {w:World}(l0:Nat) (L:List R3) (i:Nat):clbTnal w l0 L i [(6,20,true),(6,26,true),(6,30,false),(6,35,true)]=some (.normal,[decide ((i:Int)<(L.length:Int))=true,i<L.length,i<L.length,okSp (L.getD i default).2.1 (L.getD i default).2.2=true,4+4<=10000,decide ((i:Int)>0)=false,yZ ((i:Int)+1),sD w (.ls (lst l0 64 12 L s3q)),eA (ii (L.length:Int)),ii (↑(i+1):Int)=Value.int IntKind.i64 ((i:Int)+1)]):=by kernel_rfl
theorem clb3 {w:World}(l0:Nat) (L:List R3) (i:Nat):clbR w l0 L i [(6,20,true),(6,26,false),(6,35,true)]=some (.ret,[decide ((i:Int)<(L.length:Int))=true,i<L.length,i<L.length,okSp (L.getD i default).2.1 (L.getD i default).2.2=false,4+4<=10000,Value.int IntKind.i64 (erC (uz L))=Value.int IntKind.i64 2]):=by kernel_rfl
theorem clb4 {w:World}(l0:Nat) (L:List R3) (i:Nat):clbTe0 w l0 L i [(6,20,false),(6,35,true)]=some (.exit 0,[decide ((i:Int)<(L.length:Int))=false,sD w (.ls (lst l0 64 12 L s3q)),eA (ii (L.length:Int)),eA (ii (i:Int))]):=by kernel_rfl
noncomputable abbrev claTnal (w:World) (l0:Nat) (L:List R3)  (o:List (Nat×Nat×Bool)):=run w ⟨o,[],exCl⟩ 6 43 kCheckLaw6_ (stA [pC l0 L]) (clI l0 L 0)
noncomputable abbrev claR (w:World) (l0:Nat) (L:List R3)  (o:List (Nat×Nat×Bool)):=runR w ⟨o,[],exCl⟩ 6 43 Tryz.f6 kCheckLaw6_ (stA [pC l0 L]) (rI (erC (uz L)))
theorem cla0 {w:World}(l0:Nat) (L:List R3):claR w l0 L [(6,7,true),(6,15,true)]=some (.ret,[(decide (1<=(L.length:Int))&&decide ((L.length:Int)<=30))=true,0<L.length,0<L.length,decide (sign (L.getD 0 default).1≠0)=true,Value.int IntKind.i64 (erC (uz L))=Value.int IntKind.i64 2]):=by kernel_rfl
theorem cla1 {w:World}(l0:Nat) (L:List R3):claTnal w l0 L [(6,7,true),(6,15,false)]=some (.normal,[(decide (1<=(L.length:Int))&&decide ((L.length:Int)<=30))=true,0<L.length,0<L.length,decide (sign (L.getD 0 default).1≠0)=false,sD w (.ls (lst l0 64 12 L s3q)),ii (L.length:Int)=goInt (L.length:Int),ii (↑0:Int)=Value.int IntKind.i64 0]):=by kernel_rfl
theorem cla2 {w:World}(l0:Nat) (L:List R3):claR w l0 L [(6,7,false)]=some (.ret,[(decide (1<=(L.length:Int))&&decide ((L.length:Int)<=30))=false,Value.int IntKind.i64 (erC (uz L))=Value.int IntKind.i64 2]):=by kernel_rfl
theorem cgS (hN:je) (l0:Nat) (L:List R3) (hl:L.length<=1000000):CE 6 [pC l0 L] (fun _=>rI (erC (uz L))):=by
 intro w vs hG hp;refine ze hG hN (ex:=exCl) (exCl_ok hN hG (cb _)) (fn:=Tryz.f6) Tryz.func6 (c:=codeOf Tryz.f6) (by kernel_rfl) (args:=[pC l0 L]) (by kernel_rfl) hp (fun hR _ hA=>?_);have body:∀ a w1,At (W0 w) 43 (clI l0 L 0) a w1->(decide ((1:Int)<=(L.length:Int))&&decide ((L.length:Int)<=30))=true->decide (sign (fm L 0)≠0)=false->after Fence.wide 0 Tryz.prog kCheckLaw6_n (Ret (W0 w) Tryz.f6 (Res (W0 w) (rI (erC (uz L))))) .normal a w1:=by
  intro a w1 hA q7 q15;refine EC (fun i=>clI l0 L i) (fun i=>i<=L.length/\∀ k,k<i->ZV L k=false) (fun i=>L.length-i) (L:=kCheckLaw6_n) (ks:=kCheckLaw6_nt) (id:=0) (c:=zO kCheckLaw6_n) (by kernel_rfl) 0 ⟨jB _,by omega⟩ hA (fun i a2 w2 hi hA=>?_);rcases jZ (decide ((i:Int)<(L.length:Int))) with q20|q20
  ·skip
   have p20:=ji q20;rcases jZ (okSp (gl L i) (gh L i)) with q26|q26
   ·skip
    rcases jZ (decide ((i:Int)>0)) with q30|q30
    ·skip
     have p30:=ji q30;rcases jZ (mayF (L.getD (i-1) default) (L.getD i default)) with q38|q38
     ·skip
      refine uX (clb0 l0 L i) (hR _ rfl) hA (fun aT wT hT=>?_) (by (repeat' (first|exact trivial|apply And.intro))<;>first|exact jo.refl _ _|exact fun _ _=>kF.refl _ _|exact cX rfl|exact cZ _ _|exact jb _ _|(with_reducible assumption)|omega|with_reducible rfl|(simp only[cO];omega)|(intro j hj;exact absurd hj (cW _))|exact e0|exact e0.symm|rfl);have eb:ZV L i=false:=by unfold ZV;rw[q26];first|(rw[q38,Bool.not_true,GV];rfl)|(rw[cJ (by omega:¬ 0<i)];rfl)
      exact uM (by kernel_rfl) ⟨i+1,⟨by omega,fun k hk=>by rcases Nat.lt_succ_iff_lt_or_eq.1 hk with h|rfl;exact hi.2 k h;exact eb⟩,hT,by omega⟩
     ·skip
      have e0:=er2 (L:=L) (ces (L:=L) (i:=i) (by omega) (by unfold ZV;rw[q26,q38,cH (by omega:0<i)];rfl));refine kj (clb1 l0 L i) (hR _ rfl) hA (by (repeat' (first|exact trivial|apply And.intro))<;>first|exact jo.refl _ _|exact fun _ _=>kF.refl _ _|exact cX rfl|exact cZ _ _|exact jb _ _|(with_reducible assumption)|omega|with_reducible rfl|(simp only[cO];omega)|(intro j hj;exact absurd hj (cW _))|exact e0|exact e0.symm|rfl)
    ·skip
     have p30:=ju q30;refine uX (clb2 l0 L i) (hR _ rfl) hA (fun aT wT hT=>?_) (by (repeat' (first|exact trivial|apply And.intro))<;>first|exact jo.refl _ _|exact fun _ _=>kF.refl _ _|exact cX rfl|exact cZ _ _|exact jb _ _|(with_reducible assumption)|omega|with_reducible rfl|(simp only[cO];omega)|(intro j hj;exact absurd hj (cW _))|exact e0|exact e0.symm|rfl);have eb:ZV L i=false:=by unfold ZV;rw[q26];first|(rw[q38,Bool.not_true,GV];rfl)|(rw[cJ (by omega:¬ 0<i)];rfl)
     exact uM (by kernel_rfl) ⟨i+1,⟨by omega,fun k hk=>by rcases Nat.lt_succ_iff_lt_or_eq.1 hk with h|rfl;exact hi.2 k h;exact eb⟩,hT,by omega⟩
   ·skip
    have e0:=er2 (L:=L) (ces (L:=L) (i:=i) (by omega) (by unfold ZV;rw[q26];rfl));refine kj (clb3 l0 L i) (hR _ rfl) hA (by (repeat' (first|exact trivial|apply And.intro))<;>first|exact jo.refl _ _|exact fun _ _=>kF.refl _ _|exact cX rfl|exact cZ _ _|exact jb _ _|(with_reducible assumption)|omega|with_reducible rfl|(simp only[cO];omega)|(intro j hj;exact absurd hj (cW _))|exact e0|exact e0.symm|rfl)
  ·skip
   have p20:=ju q20;refine uX (clb4 l0 L i) (hR _ rfl) hA (fun aT wT hT=>?_) (by (repeat' (first|exact trivial|apply And.intro))<;>first|exact jo.refl _ _|exact fun _ _=>kF.refl _ _|exact cX rfl|exact cZ _ _|exact jb _ _|(with_reducible assumption)|omega|with_reducible rfl|(simp only[cO];omega)|(intro j hj;exact absurd hj (cW _))|exact e0|exact e0.symm|rfl);refine yV _ (by kernel_rfl) ?_;have e1:uz L=true:=cnu q7 q15 (fun k hk=>hi.2 k (by omega));rw[e1];exact kj (clz l0 L i) (hR _ rfl) hT
 rcases jZ ((decide ((1:Int)<=(L.length:Int))&&decide ((L.length:Int)<=30))) with q7|q7
 ·skip
  have b7:1<=L.length:=by rw[zq] at q7;have:=ji q7.1;omega
  rcases jZ (decide (sign (fm L 0)≠0)) with q15|q15
  ·skip
   have p15:=ji q15;have e0:=er2 (cmT q15);refine kj (cla0 l0 L) (hR _ rfl) hA (by (repeat' (first|exact trivial|apply And.intro))<;>first|exact jo.refl _ _|exact fun _ _=>kF.refl _ _|exact cX rfl|exact cZ _ _|exact jb _ _|(with_reducible assumption)|omega|with_reducible rfl|(simp only[cO];omega)|(intro j hj;exact absurd hj (cW _))|exact e0|exact e0.symm|rfl)
  ·skip
   have p15:=ju q15;refine uX (cla1 l0 L) (hR _ rfl) hA (fun aT wT hT=>?_) (by (repeat' (first|exact trivial|apply And.intro))<;>first|exact jo.refl _ _|exact fun _ _=>kF.refl _ _|exact cX rfl|exact cZ _ _|exact jb _ _|(with_reducible assumption)|omega|with_reducible rfl|(simp only[cO];omega)|(intro j hj;exact absurd hj (cW _))|exact e0|exact e0.symm|rfl);exact Gm (body _ _ hT q7 q15)
 ·skip
  have e0:=er2 (cmY q7);refine kj (cla2 l0 L) (hR _ rfl) hA (by (repeat' (first|exact trivial|apply And.intro))<;>first|exact jo.refl _ _|exact fun _ _=>kF.refl _ _|exact cX rfl|exact cZ _ _|exact jb _ _|(with_reducible assumption)|omega|with_reducible rfl|(simp only[cO];omega)|(intro j hj;exact absurd hj (cW _))|exact e0|exact e0.symm|rfl)
theorem YO {lo l0:Nat}{w0:World}{L:List R3}(hN:je) (hG:Gr w0) (hlo:lo<=w0.heap.size) (hl:L.length<=1000000):jJ (Cx true lo w0) (.call 6) [pC l0 L] (vr (.int .i64 (erC (uz L)))) :=
 (cgS hN l0 L hl).val hG hlo (ja Tryz.func6 (by kernel_rfl) rfl)
end Pe
namespace Pe
noncomputable def klong5_:List Kp:=[.code (codeOf Tryz.f5)]
noncomputable def klong5_n:List Kp:=next klong5_
noncomputable def klong5_nl:List Kp:=[.code (zO klong5_n)]
noncomputable def klong5_nt:List Kp:=klong5_n.tail
def txts:List (Grp Dx)->Option (List Tx)
 |[]=>some []
 |.lit (.string ⟨⟨l⟩⟩)::r=>match txts r with
  |some T=>some (l::T)
  |none=>none
 |_=>none
theorem ckN:∀ {gs:List (Grp Dx)}{T:List Tx},txts gs=some T->gs=T.map (fun t=>.lit (str t))
 |[],T,h=>by simp [txts] at h;subst h;rfl
 |g::r,T,h=>by
  unfold txts at h;split at h
  ·rename_i he;cases he
  ·rename_i l r' he;injection he with he1 he2;subst he1;subst he2
   split at h
   ·rename_i T' hT;injection h with h;subst h
    rw[ckN hT];rfl
   ·cases h
  ·cases h
theorem chK {C:Ctx Dx}{w:World}:∀ {T:List Tx}{vs:List Value},cL C w (T.map (fun t=>Grp.lit (str t))) vs->vs=T.map str
 |[],vs,h=>h
 |t::T,vs,h=>by
  obtain⟨h1,h2⟩:=h;have h1:vs.take 1=[str t]:=h1;have h2:=chK (T:=T) h2;cases vs with
  |nil=>cases h1
  |cons v vs =>
   injection h1 with h1 _
   subst h1;show str t::vs=str t::T.map str;rw[show vs=T.map str from h2]
theorem slc_txt {lo lo' ty n:Nat}{w0 w0' w:World}{T:List Tx}{v:Value}(h:Pat.is (Cx true lo w0) w (.slc ty n (T.map (fun t=>Grp.lit (str t)))) v) (hn:n=T.length):Pat.is (Cx true lo' w0') w (.one (.cls (.ls (lst 0 ty 1 T fT)))) v:=by
 obtain⟨k,o,c,arr,pre,vs,rest,rfl,h1,h2,h3,h4,h5⟩:=h;obtain rfl:=chK h4;subst hn;refine DIs.ls k o c arr pre _ rest h5 ⟨_,h1⟩ h2 h3 (by simp [lst]) (jB _) (fun v hv=>?_) (fun j hj=>?_)
 ·obtain⟨t,_,rfl⟩:=List.mem_map.1 hv;rfl
 ·have hj:j<T.length:=hj;have e:((T.map str).drop (j*1)).take 1=[str (T.getD j default)]:=by
   rw[Cf,KA (by simpa using hj),WI,List.take_zero,List.getElem_map,YT hj]
  show GsI w (fT (T.getD j default)) (((T.map str).drop (j*1)).take 1);rw[e];exact .lit .nil
def lgB (T:List Tx):Bool:=anyP T.length (fun i=>decide (((T.getD i default).length:Int)>30))
abbrev pTx (lo:Nat) (T:List Tx):Pat Dx:=.one (.cls (.ls (lst lo 9 1 T fT)))
abbrev lgI (lo:Nat) (T:List Tx) (i:Nat):St Dx:=⟨1,[(0,.val (.one (.sym 0 0))),(3,.val (.one (.lit (ii (i:Int)))))],[(0,.cls (.ls (lst lo 9 1 T fT)))],[]⟩
theorem lga {w:World}(lo:Nat) (T:List Tx):run w ⟨[],[],[]⟩ 5 16 klong5_ (stA [pTx lo T]) (lgI lo T 0)=some (.normal,[sD w (.ls (lst lo 9 1 T fT)),ii (↑0:Int)=Value.int IntKind.i64 0]):=by kernel_rfl
theorem lge {w:World}(lo:Nat) (T:List Tx) (i:Nat):runR w ⟨[],[],[]⟩ 5 16 Tryz.f5 klong5_nt (lgI lo T i) (rB false)=some (.ret,[eA (Value.bool false)]):=by kernel_rfl
noncomputable abbrev lgbTe0 (w:World) (l0:Nat) (T:List Tx) (i:Nat) (o:List (Nat×Nat×Bool)):=run w ⟨o,[],[]⟩ 5 16 klong5_nl (lgI l0 T i) (lgI l0 T i)
noncomputable abbrev lgbTnal (w:World) (l0:Nat) (T:List Tx) (i:Nat) (o:List (Nat×Nat×Bool)):=run w ⟨o,[],[]⟩ 5 16 klong5_nl (lgI l0 T i) (lgI l0 T (i+1))
noncomputable abbrev lgbR (w:World) (l0:Nat) (T:List Tx) (i:Nat) (o:List (Nat×Nat×Bool)):=runR w ⟨o,[],[]⟩ 5 16 Tryz.f5 klong5_nl (lgI l0 T i) (rB (lgB T))
theorem lgb0 {w:World}(l0:Nat) (T:List Tx) (i:Nat):lgbR w l0 T i [(5,7,true),(5,15,true)]=some (.ret,[decide ((i:Int)<(T.length:Int))=true,i<T.length,i<T.length,decide ((↑(T.getD i default).length:Int)>30)=true,Value.bool (lgB T)=Value.bool true]):=by kernel_rfl
theorem lgb1 {w:World}(l0:Nat) (T:List Tx) (i:Nat):lgbTnal w l0 T i [(5,7,true),(5,15,false)]=some (.normal,[decide ((i:Int)<(T.length:Int))=true,i<T.length,i<T.length,decide ((↑(T.getD i default).length:Int)>30)=false,yZ ((i:Int)+1),sD w (.ls (lst l0 9 1 T fT)),ii (↑(i+1):Int)=Value.int IntKind.i64 ((i:Int)+1)]):=by kernel_rfl
theorem lgb2 {w:World}(l0:Nat) (T:List Tx) (i:Nat):lgbTe0 w l0 T i [(5,7,false)]=some (.exit 0,[decide ((i:Int)<(T.length:Int))=false,sD w (.ls (lst l0 9 1 T fT)),eA (ii (i:Int))]):=by kernel_rfl
theorem coI (hN:je) (l0:Nat) (T:List Tx) (hl:T.length<=1000000):CE 5 [pTx l0 T] (fun _=>rB (lgB T)):=by
 intro w vs hG hp;refine ze hG hN (ex:=[]) jT (fn:=Tryz.f5) Tryz.func5 (c:=codeOf Tryz.f5) (by kernel_rfl) (args:=[pTx l0 T]) (by kernel_rfl) hp (fun hR _ hA=>?_);refine uX (lga l0 T) (hR _ rfl) hA (fun a1 w1 hA=>Gm ?_);refine EC (fun i=>lgI l0 T i) (fun i=>i<=T.length/\∀ k,k<i->decide (((T.getD k default).length:Int)>30)=false) (fun i=>T.length-i) (L:=klong5_n) (ks:=klong5_nt) (id:=0) (c:=zO klong5_n) (by kernel_rfl) 0 ⟨jB _,by omega⟩ hA (fun i a2 w2 hi hA=>?_);rcases jZ (decide ((i:Int)<(T.length:Int))) with q7|q7
 ·skip
  have p7:=ji q7;rcases jZ (decide (((T.getD i default).length:Int)>30)) with q15|q15
  ·skip
   have p15:=ji q15;have e0:=cu Value.bool (show lgB T=true from Zu (by omega) q15);refine kj (lgb0 l0 T i) (hR _ rfl) hA (by (repeat' (first|exact trivial|apply And.intro))<;>first|exact jo.refl _ _|exact fun _ _=>kF.refl _ _|exact cX rfl|exact cZ _ _|exact jb _ _|(with_reducible assumption)|omega|with_reducible rfl|(simp only[cO];omega)|(intro j hj;exact absurd hj (cW _))|exact e0|exact e0.symm|exact q15|rfl)
  ·skip
   have p15:=ju q15;refine uX (lgb1 l0 T i) (hR _ rfl) hA (fun aT wT hT=>?_) (by (repeat' (first|exact trivial|apply And.intro))<;>first|exact jo.refl _ _|exact fun _ _=>kF.refl _ _|exact cX rfl|exact cZ _ _|exact jb _ _|(with_reducible assumption)|omega|with_reducible rfl|(simp only[cO];omega)|(intro j hj;exact absurd hj (cW _))|exact e0|exact e0.symm|exact q15|rfl);exact uM (by kernel_rfl) ⟨i+1,⟨by omega,fun k hk=>by rcases Nat.lt_succ_iff_lt_or_eq.1 hk with h|rfl;exact hi.2 k h;exact q15⟩,hT,by omega⟩
 ·skip
  have p7:=ju q7;refine uX (lgb2 l0 T i) (hR _ rfl) hA (fun aT wT hT=>?_) (by (repeat' (first|exact trivial|apply And.intro))<;>first|exact jo.refl _ _|exact fun _ _=>kF.refl _ _|exact cX rfl|exact cZ _ _|exact jb _ _|(with_reducible assumption)|omega|with_reducible rfl|(simp only[cO];omega)|(intro j hj;exact absurd hj (cW _))|exact e0|exact e0.symm|exact q15|rfl);refine yV _ (by kernel_rfl) ?_;have e1:lgB T=false:=Yf (fun k hk=>hi.2 k (by omega));rw[e1];exact kj (lge l0 T i) (hR _ rfl) hT
def clu:Con
 |[.slc 9 n gs]=>match txts gs with
  |some T=>some (vr (.bool (lgB T)),[n=T.length,T.length<=1000000])
  |none=>none
 |_=>none
theorem cim {C:Ctx Dx}{f:Nat}{args args':List (Pat Dx)}{res:jE Dx}(h:jJ C (.call f) args res) (hi:∀ w vs,jp C w args' vs->jp C w args vs):jJ C (.call f) args' res :=
 ⟨h.1,fun w vs hb hv=>h.2 w vs hb (hi w vs hv)⟩
theorem cgU {lo:Nat}{w0:World}(hN:je) (hG:Gr w0) (hlo:lo<=w0.heap.size):∀ l r ob,clu l=some (r,ob)->jS ob->jJ (Cx true lo w0) (.call 5) l r:=by
 intro l r ob h ho;unfold clu at h;split at h
 ·rename_i n gs;split at h
  ·rename_i T hT;injection h with h;injection h with h1 h2;subst h1;subst h2
   obtain⟨hn,hl,_⟩:=ho;obtain rfl:=ckN hT;refine cim ((coI hN 0 T hl).val hG hlo (ja Tryz.func5 (by kernel_rfl) rfl)) (fun w vs hv=>?_);obtain⟨v,ws,rfl,h1,h2⟩:=hv;exact⟨v,ws,rfl,slc_txt h1 hn,h2⟩
  ·cases h
 ·cases h
end Pe
namespace Pe
noncomputable def kQ112_:List Kp:=[.code (codeOf Tryz.f112)]
noncomputable def kQ112_n:List Kp:=next kQ112_
noncomputable def kQ112_nt:List Kp:=kQ112_n.tail
noncomputable def kQ112_nl:List Kp:=[.code (zO kQ112_n)]
noncomputable def kgrowth68_:List Kp:=[.code (codeOf Tryz.f68)]
noncomputable def kgrown32_:List Kp:=[.code (codeOf Tryz.f32)]
abbrev exKy:List (Nat×Con):=[(113,conKy)]
theorem exKy_ok {lo:Nat}{w0:World}(hN:je) (hG:Gr w0) (hlo:lo<=w0.heap.size):Ef true lo w0 exKy:=jm (cnG hN hG hlo) jT
abbrev bcI (lo:Nat) (L:List R3) (x:Rat) (m i j:Nat):St Dx:=⟨3,[(0,.val (.one (.sym 0 0))),(2,.val (.one (.lit (.func (.func 113) #[] #[])))),(4,.val (.one (.ptr 2 0))),(8,.val (.one (.lit (ii (L.length:Int))))),(9,.val (.one (.lit (ii (i:Int))))),(10,.val (.one (.lit (ii (j:Int)))))],[(0,.cls (.ls (lst lo 64 12 L s3q))),(1,.cls (.q x m)),(2,.blk 39 [.sym 1 0,.sym 1 1,.sym 1 2,.sym 1 3] none)],[]⟩
abbrev bcInv (L:List R3) (x:Rat) (t:Nat×Nat):Prop:=t.1<=t.2/\t.2<=L.length/\(∀ k,k<t.1->jh (fm L k) x<0)/\(t.2<L.length->¬ jh (fm L t.2) x<0)
section
variable {L:List R3}{x:Rat}{i j:Nat}{A:Nat->Nat->Prop}
theorem bc_true (ha:Law L) (h1:i<=j) (h2:j<=L.length) (h3:∀ k,k<i->jh (fm L k) x<0) (h4:j<L.length->¬ jh (fm L j) x<0) (hij:(i:Int)<(j:Int)) (hc:jh (fm L ((i+j)/2)) x<0) (hT:A ((i+j)/2+1) j):∃ t:Nat×Nat,bcInv L x t/\A t.1 t.2/\t.2-t.1<j-i :=
 ⟨((i+j)/2+1,j),⟨by simp only;omega,h2,fun k hk=>clt.2 (by
  have h5:=clt.1 hc;rcases cbs (show k<=(i+j)/2 by simp only at hk;omega) with h6|h6
  ·have:=ha.lt h6 (by omega);grind
  ·rw[h6];exact h5),h4⟩,hT,by simp only;omega⟩
theorem coz (_:Law L) (h1:i<=j) (h2:j<=L.length) (h3:∀ k,k<i->jh (fm L k) x<0) (_:j<L.length->¬ jh (fm L j) x<0) (hij:(i:Int)<(j:Int)) (hc:¬ jh (fm L ((i+j)/2)) x<0) (hT:A i ((i+j)/2)):∃ t:Nat×Nat,bcInv L x t/\A t.1 t.2/\t.2-t.1<j-i :=
 ⟨(i,(i+j)/2),⟨by simp only;omega,by simp only;omega,h3,fun _=>hc⟩,hT,by simp only;omega⟩
end
theorem bca {w:World}(lo:Nat) (L:List R3) (x:Rat) (m:Nat):run w ⟨[],[],exKy⟩ 112 49 kQ112_ (stA [pC lo L,pQ x m,pF 113]) (bcI lo L x m 0 L.length)=some (.normal,[sD w (.ls (lst lo 64 12 L s3q)),sD w (.q x m),eA (Value.func (Fn.func 113) #[] #[]),0=0,ii (L.length:Int)=goInt (L.length:Int),ii (↑0:Int)=Value.int IntKind.i64 0,ii (L.length:Int)=goInt (L.length:Int)]):=by kernel_rfl
noncomputable abbrev bceR (w:World) (l0:Nat) (L:List R3) (x:Rat) (m i:Nat) (o:List (Nat×Nat×Bool)):=runR w ⟨o,[],exKy⟩ 112 49 Tryz.f112 kQ112_nt (bcI l0 L x m i i) [pI (psS L x:Nat),.one (.lit (.bool (fdS L x)))]
theorem bce0 {w:World}(l0:Nat) (L:List R3) (x:Rat) (m i:Nat):bceR w l0 L x m i [(112,38,true),(112,47,true)]=some (.ret,[decide ((i:Int)<(L.length:Int))=true,i<L.length,i<L.length,4+m<=10000,decide (jh (L.getD i default).1 x=0)=true,Value.int IntKind.i64 (↑(psS L x):Int)=ii (i:Int),Value.bool (fdS L x)=Value.bool true]):=by kernel_rfl
theorem bce1 {w:World}(l0:Nat) (L:List R3) (x:Rat) (m i:Nat):bceR w l0 L x m i [(112,38,true),(112,47,false)]=some (.ret,[decide ((i:Int)<(L.length:Int))=true,i<L.length,i<L.length,4+m<=10000,decide (jh (L.getD i default).1 x=0)=false,Value.int IntKind.i64 (↑(psS L x):Int)=ii (i:Int),Value.bool (fdS L x)=Value.bool false]):=by kernel_rfl
theorem bce2 {w:World}(l0:Nat) (L:List R3) (x:Rat) (m i:Nat):bceR w l0 L x m i [(112,38,false)]=some (.ret,[decide ((i:Int)<(L.length:Int))=false,Value.int IntKind.i64 (↑(psS L x):Int)=ii (i:Int),Value.bool (fdS L x)=Value.bool false]):=by kernel_rfl
noncomputable abbrev bcbTe0 (w:World) (l0:Nat) (L:List R3) (x:Rat) (m i j:Nat) (o:List (Nat×Nat×Bool)):=run w ⟨o,[],exKy⟩ 112 49 kQ112_nl (bcI l0 L x m i j) (bcI l0 L x m i j)
noncomputable abbrev bcbTnal (w:World) (l0:Nat) (L:List R3) (x:Rat) (m i j:Nat) (o:List (Nat×Nat×Bool)):=run w ⟨o,[],exKy⟩ 112 49 kQ112_nl (bcI l0 L x m i j) (bcI l0 L x m (bif true then (i+j)/2+1 else i) (bif true then j else (i+j)/2))
theorem bcb0 {w:World}(l0:Nat) (L:List R3) (x:Rat) (m i j:Nat):bcbTnal w l0 L x m i j [(112,17,true),(112,31,true)]=some (.normal,[decide ((i:Int)<(j:Int))=true,yZ ((i:Int)+(j:Int)),i+j<=4000000000,(i+j)/2<=4000000000,(i+j)/2<L.length,(i+j)/2<L.length,4+m<=10000,decide (jh (L.getD ((i+j)/2) default).1 x<0)=true,yZ (Int.ofNat ((i+j)/2)+1),sD w (.ls (lst l0 64 12 L s3q)),sD w (.q x m),eA (Value.func (Fn.func 113) #[] #[]),0=0,eA (ii (L.length:Int)),ii (↑(bif true then (i+j)/2+1 else i):Int)=Value.int IntKind.i64 (Int.ofNat ((i+j)/2)+1),ii (↑(bif true then j else (i+j)/2):Int)=ii (j:Int)]):=by kernel_rfl
theorem bcb1 {w:World}(l0:Nat) (L:List R3) (x:Rat) (m i j:Nat):run w ⟨[(112,17,true),(112,31,false)],[],exKy⟩ 112 49 kQ112_nl (bcI l0 L x m i j) (bcI l0 L x m (bif false then (i+j)/2+1 else i) (bif false then j else (i+j)/2))=some (.normal,[decide ((i:Int)<(j:Int))=true,yZ ((i:Int)+(j:Int)),i+j<=4000000000,(i+j)/2<=4000000000,(i+j)/2<L.length,(i+j)/2<L.length,4+m<=10000,decide (jh (L.getD ((i+j)/2) default).1 x<0)=false,sD w (.ls (lst l0 64 12 L s3q)),sD w (.q x m),eA (Value.func (Fn.func 113) #[] #[]),0=0,eA (ii (L.length:Int)),ii (↑(bif false then (i+j)/2+1 else i):Int)=ii (i:Int),ii (↑(bif false then j else (i+j)/2):Int)=Value.int IntKind.i64 (Int.ofNat ((i+j)/2))]):=by kernel_rfl
theorem bcb2 {w:World}(l0:Nat) (L:List R3) (x:Rat) (m i j:Nat):bcbTe0 w l0 L x m i j [(112,17,false)]=some (.exit 0,[decide ((i:Int)<(j:Int))=false,sD w (.ls (lst l0 64 12 L s3q)),sD w (.q x m),eA (Value.func (Fn.func 113) #[] #[]),0=0,eA (ii (L.length:Int)),eA (ii (i:Int)),eA (ii (j:Int))]):=by kernel_rfl
theorem bsC_ok (hN:je) (l0:Nat) (L:List R3) (x:Rat) (m:Nat) (hl:L.length<=1000000) (hm:m<=9000) (ha:Law L):CE 112 [pC l0 L,pQ x m,pF 113] (fun _=>[pI (psS L x:Nat),.one (.lit (.bool (fdS L x)))]):=by
 intro w vs hG hp;refine ze hG hN (ex:=exKy) (exKy_ok hN hG (cb _)) (fn:=Tryz.f112) Tryz.func112 (c:=codeOf Tryz.f112) (by kernel_rfl) (args:=[pC l0 L,pQ x m,pF 113]) (by kernel_rfl) hp (fun hR _ hA=>?_);refine uX (bca l0 L x m) (hR _ rfl) hA (fun a w1 hA=>Gm ?_);have rest:∀ a w1 i,At (W0 w) 49 (bcI l0 L x m i i) a w1->i<=L.length->(∀ k,k<i->jh (fm L k) x<0)->(i<L.length->¬ jh (fm L i) x<0)->after Fence.wide 0 Tryz.prog kQ112_nt (Ret (W0 w) Tryz.f112 (Res (W0 w) [pI (psS L x:Nat),.one (.lit (.bool (fdS L x)))])) .normal a w1:=by
  intro a w1 i hA h1 h2 h3;have hp:=psS_is h1 h2 h3;rcases jZ (decide ((i:Int)<(L.length:Int))) with q38|q38
  ·skip
   have p38:=ji q38;rcases jZ (decide (jh (fm L i) x=0)) with q47|q47
   ·skip
    have p47:=ji q47;refine kj (bce0 l0 L x m i) (hR _ rfl) hA (by (repeat' (first|exact trivial|apply And.intro))<;>first|exact jo.refl _ _|exact fun _ _=>kF.refl _ _|exact cX rfl|exact cZ _ _|exact jb _ _|(with_reducible assumption)|omega|with_reducible rfl|(simp only[cO];omega)|(intro j hj;exact absurd hj (cW _))|exact cu (fun n:Nat=>Value.int .i64 (n:Int)) hp|(refine cu Value.bool ?_;unfold fdS;rw[hp];first|(rw[q47,Bool.and_true];exact cH (by omega))|(rw[q47,GV])|(rw[cJ (by omega),CR]))|rfl)
   ·skip
    have p47:=ju q47;refine kj (bce1 l0 L x m i) (hR _ rfl) hA (by (repeat' (first|exact trivial|apply And.intro))<;>first|exact jo.refl _ _|exact fun _ _=>kF.refl _ _|exact cX rfl|exact cZ _ _|exact jb _ _|(with_reducible assumption)|omega|with_reducible rfl|(simp only[cO];omega)|(intro j hj;exact absurd hj (cW _))|exact cu (fun n:Nat=>Value.int .i64 (n:Int)) hp|(refine cu Value.bool ?_;unfold fdS;rw[hp];first|(rw[q47,Bool.and_true];exact cH (by omega))|(rw[q47,GV])|(rw[cJ (by omega),CR]))|rfl)
  ·skip
   have p38:=ju q38;refine kj (bce2 l0 L x m i) (hR _ rfl) hA (by (repeat' (first|exact trivial|apply And.intro))<;>first|exact jo.refl _ _|exact fun _ _=>kF.refl _ _|exact cX rfl|exact cZ _ _|exact jb _ _|(with_reducible assumption)|omega|with_reducible rfl|(simp only[cO];omega)|(intro j hj;exact absurd hj (cW _))|exact cu (fun n:Nat=>Value.int .i64 (n:Int)) hp|(refine cu Value.bool ?_;unfold fdS;rw[hp];first|(rw[q47,Bool.and_true];exact cH (by omega))|(rw[q47,GV])|(rw[cJ (by omega),CR]))|rfl)
 refine EC (fun t:Nat×Nat=>bcI l0 L x m t.1 t.2) (bcInv L x) (fun t=>t.2-t.1) (L:=kQ112_n) (ks:=kQ112_nt) (id:=0) (c:=zO kQ112_n) (by kernel_rfl) (0,L.length) ⟨jB _,cb _,fun k hk=>absurd hk (cW _),fun h=>absurd h (Nat.lt_irrefl _)⟩ hA ?_;rintro⟨i,j⟩ a2 w2 ⟨h1,h2,h3,h4⟩ hA;simp only at h1 h2 h3 h4 hA;rcases jZ (decide ((i:Int)<(j:Int))) with q17|q17
 ·skip
  have p17:=ji q17;rcases jZ (decide (jh (fm L ((i+j)/2)) x<0)) with q31|q31
  ·skip
   have p31:=ji q31;refine uX (bcb0 l0 L x m i j) (hR _ rfl) hA (fun aT wT hT=>?_);refine uM (by kernel_rfl) ?_;exact bc_true (A:=fun i j=>At (W0 w) 49 (bcI l0 L x m i j) aT wT) ha h1 h2 h3 h4 p17 p31 hT
  ·skip
   have p31:=ju q31;refine uX (bcb1 l0 L x m i j) (hR _ rfl) hA (fun aT wT hT=>?_);refine uM (by kernel_rfl) ?_;exact coz (A:=fun i j=>At (W0 w) 49 (bcI l0 L x m i j) aT wT) ha h1 h2 h3 h4 p17 p31 hT
 ·skip
  have p17:=ju q17;refine uX (bcb2 l0 L x m i j) (hR _ rfl) hA (fun aT wT hT=>?_);refine yV _ (by kernel_rfl) ?_;obtain rfl:i=j:=by omega
  exact rest _ _ i hT h2 h3 h4
theorem bsC_ent {lo l0:Nat}{w0:World}{L:List R3}{x:Rat}{m:Nat}(hN:je) (hG:Gr w0) (hlo:lo<=w0.heap.size) (hl:L.length<=1000000) (hm:m<=9000) (ha:Law L):jJ (Cx true lo w0) (.call 112) [pC l0 L,pQ x m,pF 113] (.tup [pI (psS L x:Nat),.one (.lit (.bool (fdS L x)))]) :=
 (bsC_ok hN l0 L x m hl hm ha).ent hG hlo (ja Tryz.func112 (by kernel_rfl) rfl) (fun _ _=>⟨_,rfl,rfl,rfl,trivial⟩)
noncomputable abbrev exGr (l0:Nat) (L:List R3) (x:Rat) (m p:Nat) (b:Bool):List (Nat×Con):=[(112,Cs [pC l0 L,pQ x m,pF 113] (.tup [pI (p:Nat),.one (.lit (.bool b))]))]
theorem clm {lo l0:Nat}{w0:World}{L:List R3}{x:Rat}{m:Nat}{b:Bool}(hN:je) (hG:Gr w0) (hlo:lo<=w0.heap.size) (hm:m<=9000) (ha:Law L) (hb:fdS L x=b):Ef true lo w0 (exGr l0 L x m (psS L x) b):=by
 subst hb;have:=ha.le;exact jm (kZ (bsC_ent hN hG hlo (by omega) hm ha)) jT
noncomputable abbrev gwtR (w:World) (l0:Nat) (L:List R3) (x:Rat) (m:Nat)     (o:List (Nat×Nat×Bool)):=runR w ⟨o,[],(exGr l0 L x m (psS L x) true)⟩ 68 22 Tryz.f68 kgrowth68_ (stA [pC l0 L,pQ x m]) [pS (gl L (psS L x)) 4 (gh L (psS L x)) 4]
theorem gwt0 {w:World}(l0:Nat) (L:List R3) (x:Rat) (m:Nat):gwtR w l0 L x m []=some (.ret,[[Pat.one (Grp.cls (Dx.ls (lst l0 64 12 L s3q))),Pat.agg [Grp.cls (Dx.q x m)],Pat.one (Grp.lit (Value.func (Fn.func 113) #[] #[]))]=[pC l0 L,pQ x m,pF 113],psS L x<L.length,psS L x<L.length,jo (W0 w) (.q (gl L (psS L x)) 4) (.q (L.getD (psS L x) default).2.1 4),jo (W0 w) (.q (gh L (psS L x)) 4) (.q (L.getD (psS L x) default).2.2 4),kN (W0 w) (.q (gl L (psS L x)) 4),kN (W0 w) (.q (gh L (psS L x)) 4)]):=by kernel_rfl
theorem gwt_ok (hN:je) (l0:Nat) (L:List R3) (x:Rat) (m:Nat) (hm:m<=9000) (ha:Law L) (hf:fdS L x=true) (hi:psS L x<L.length):CE 68 [pC l0 L,pQ x m] (fun _=>[pS (gl L (psS L x)) 4 (gh L (psS L x)) 4]):=by
 intro w vs hG hp;refine ze hG hN (ex:=(exGr l0 L x m (psS L x) true)) (clm hN hG (cb _) hm ha hf) (fn:=Tryz.f68) Tryz.func68 (c:=codeOf Tryz.f68) (by kernel_rfl) (args:=[pC l0 L,pQ x m]) (by kernel_rfl) hp (fun hR _ hA=>?_);refine kj (gwt0 l0 L x m) (hR _ rfl) hA
noncomputable abbrev gwfR (w:World) (l0:Nat) (L:List R3) (x:Rat) (m:Nat)       (o:List (Nat×Nat×Bool)):=runR w ⟨o,[],(exGr l0 L x m (psS L x) false)⟩ 68 22 Tryz.f68 kgrowth68_ (stA [pC l0 L,pQ x m]) [pS (gl L (psS L x-1)) 4 (gh L (psS L x-1)) 4]
theorem gwf0 {w:World}(l0:Nat) (L:List R3) (x:Rat) (m:Nat):gwfR w l0 L x m [(68,16,true)]=some (.ret,[[Pat.one (Grp.cls (Dx.ls (lst l0 64 12 L s3q))),Pat.agg [Grp.cls (Dx.q x m)],Pat.one (Grp.lit (Value.func (Fn.func 113) #[] #[]))]=[pC l0 L,pQ x m,pF 113],1<=psS L x,psS L x<=1000000000,psS L x-1<L.length,psS L x-1<L.length,jo (W0 w) (.q (gl L (psS L x-1)) 4) (.q (L.getD (psS L x-1) default).2.1 4),jo (W0 w) (.q (gh L (psS L x-1)) 4) (.q (L.getD (psS L x-1) default).2.2 4),kN (W0 w) (.q (gl L (psS L x-1)) 4),kN (W0 w) (.q (gh L (psS L x-1)) 4)]):=by kernel_rfl
theorem gwf_ok (hN:je) (l0:Nat) (L:List R3) (x:Rat) (m:Nat) (hm:m<=9000) (ha:Law L) (hf:fdS L x=false) (hi:1<=psS L x) (hi2:psS L x<=L.length) (hi3:psS L x<=1000000):CE 68 [pC l0 L,pQ x m] (fun _=>[pS (gl L (psS L x-1)) 4 (gh L (psS L x-1)) 4]):=by
 intro w vs hG hp;refine ze hG hN (ex:=(exGr l0 L x m (psS L x) false)) (clm hN hG (cb _) hm ha hf) (fn:=Tryz.f68) Tryz.func68 (c:=codeOf Tryz.f68) (by kernel_rfl) (args:=[pC l0 L,pQ x m]) (by kernel_rfl) hp (fun hR _ hA=>?_);refine kj (gwf0 l0 L x m) (hR _ rfl) hA
theorem gw_ent {lo l0:Nat}{w0:World}{L:List R3}{x:Rat}{m:Nat}(hN:je) (hG:Gr w0) (hlo:lo<=w0.heap.size) (hm:m<=9000) (ha:Law L) (hx:0<=x):jJ (Cx true lo w0) (.call 68) [pC l0 L,pQ x m] (sr (gl L (gIx L x)) 4 (gh L (gIx L x)) 4):=by
 have he:=ja Tryz.func68 (by kernel_rfl) rfl;have hix:=Jf ha hx;have hle:=ha.le;cases hf:fdS L x with
 |true =>
  have e:gIx L x=psS L x:=by unfold gIx;rw[hf];rfl
  rw[e] at hix ⊢;exact(gwt_ok hN l0 L x m hm ha hf hix.1).ent hG hlo he (fun _ _=>⟨_,rfl,jo.refl _ _,jo.refl _ _,trivial⟩)
 |false =>
  have e:gIx L x=psS L x-1:=by unfold gIx;rw[hf];rfl
  have hp:=ps_pos ha hx hf;have hp2:psS L x<=L.length:=List.findIdx_le_length;rw[e] at hix ⊢;exact(gwf_ok hN l0 L x m hm ha hf hp hp2 (by omega)).ent hG hlo he (fun _ _=>⟨_,rfl,jo.refl _ _,jo.refl _ _,trivial⟩)
def ckx (l0:Nat) (L:List R3):Con
 |[.one (.cls (.ls L')),.agg [.cls (.q x m)]]=>some (sr (gl L (gIx L x)) 4 (gh L (gIx L x)) 4,[L'=lst l0 64 12 L s3q,0<=x,m<=9000])
 |_=>none
theorem cio {lo l0:Nat}{w0:World}{L:List R3}(hN:je) (hG:Gr w0) (hlo:lo<=w0.heap.size) (ha:Law L):∀ l r ob,ckx l0 L l=some (r,ob)->jS ob->jJ (Cx true lo w0) (.call 68) l r:=by
 intro l r ob h ho;unfold ckx at h;split at h
 ·injection h with h;injection h with h1 h2;subst h1;subst h2
  obtain⟨rfl,hx,hm,_⟩:=ho;exact gw_ent hN hG hlo hm ha hx
 ·cases h
noncomputable abbrev exPe (l0:Nat) (L:List R3) (g a b:Rat) (j k:Nat):List (Nat×Con):=[(68,ckx l0 L),(69,Cs [pS (stx L a b).1 (j+5) (stx L a b).2 (k+5),pQ g 4] (JC [pS (onG g (stx L a b)).1 (j+15) (onG g (stx L a b)).2 (k+15),pI 0]))]
theorem exPe_ok {lo l0:Nat}{w0:World}{L:List R3}{g a b:Rat}{j k:Nat}(hN:je) (hG:Gr w0) (hlo:lo<=w0.heap.size) (ha:Law L) (h0:0<=a) (hab:a<=b) (hg:0<g) (hj:j<=8000) (hk:k<=8000):Ef true lo w0 (exPe l0 L g a b j k) :=
 jm (cio hN hG hlo ha) (jm (kZ (out_ent hN hG hlo (stx_ok ha h0 hab).2 hg (by omega) (by omega))) jT)
noncomputable abbrev exPz (l0:Nat) (L:List R3):List (Nat×Con):=[(68,ckx l0 L)]
theorem grza {w:World}(l0:Nat) (L:List R3) (a b g:Rat) (j k:Nat):runR w ⟨[(32,29,true)],[],exPz l0 L⟩ 32 38 Tryz.f32 kgrown32_ (stA [pC l0 L,pS a j b k,pQ g 4]) [pS (stx L a b).1 (j+15) (stx L a b).2 (k+15)]=some (.ret,[eA (lst l0 64 12 L s3q),0<=a,j<=9000,j+4+1<=1000000,eA (lst l0 64 12 L s3q),0<=b,k<=9000,k+4+1<=1000000,decide (sign g=0)=true,jo (W0 w) (.q (a+gl L (gIx L a)) (j+15)) (.q (a+gl L (gIx L a)) (j+4+1)),jo (W0 w) (.q (b+gh L (gIx L b)) (k+15)) (.q (b+gh L (gIx L b)) (k+4+1)),kN (W0 w) (.q (a+gl L (gIx L a)) (j+15)),kN (W0 w) (.q (b+gh L (gIx L b)) (k+15))]):=by kernel_rfl
theorem grna {w:World}(l0:Nat) (L:List R3) (a b g:Rat) (j k:Nat):runR w ⟨[(32,29,false)],[],exPe l0 L g a b j k⟩ 32 38 Tryz.f32 kgrown32_ (stA [pC l0 L,pS a j b k,pQ g 4]) [pS (onG g (stx L a b)).1 (j+15) (onG g (stx L a b)).2 (k+15)]=some (.ret,[eA (lst l0 64 12 L s3q),0<=a,j<=9000,j+4+1<=1000000,eA (lst l0 64 12 L s3q),0<=b,k<=9000,k+4+1<=1000000,decide (sign g=0)=false,[Pat.agg [Grp.cls (Dx.q (a+gl L (gIx L a)) (j+4+1)),Grp.cls (Dx.q (b+gh L (gIx L b)) (k+4+1))],Pat.agg [Grp.cls (Dx.q g 4)]]=[pS (a+gl L (gIx L a)) (j+5) (b+gh L (gIx L b)) (k+5),pQ g 4],sD w (.q ((↑((a+gl L (gIx L a))*g.inv).floor:Rat)*g) (j+15)),sD w (.q ((↑((b+gh L (gIx L b))*g.inv).ceil:Rat)*g) (k+15)),kN (W0 w) (.q ((↑((a+gl L (gIx L a))*g.inv).floor:Rat)*g) (j+15)),kN (W0 w) (.q ((↑((b+gh L (gIx L b))*g.inv).ceil:Rat)*g) (k+15))]):=by kernel_rfl
theorem grz_ok (hN:je) (l0:Nat) (L:List R3) (a b g:Rat) (j k:Nat) (ha:Law L) (h0:0<=a) (hab:a<=b) (hg:sign g=0) (hj:j<=8000) (hk:k<=8000):CE 32 [pC l0 L,pS a j b k,pQ g 4] (fun _=>[pS (stx L a b).1 (j+15) (stx L a b).2 (k+15)]):=by
 intro w vs hG hp;refine ze hG hN (ex:=(exPz l0 L)) (jm (cio hN hG (cb _) ha) jT) (fn:=Tryz.f32) Tryz.func32 (c:=codeOf Tryz.f32) (by kernel_rfl) (args:=[pC l0 L,pS a j b k,pQ g 4]) (by kernel_rfl) hp (fun hR _ hA=>?_);exact kj (grza l0 L a b g j k) (hR _ rfl) hA (by (repeat' (first|exact trivial|apply And.intro))<;>first|exact jo.refl _ _|exact fun _ _=>kF.refl _ _|exact cX rfl|exact cZ _ _|exact jb _ _|(with_reducible assumption)|omega|with_reducible rfl|(simp only[cO];omega)|(intro j hj;exact absurd hj (cW _))|exact cH hg|exact h0|exact Cj h0 hab|exact ET rfl (by omega)|rfl)
theorem grn_ok (hN:je) (l0:Nat) (L:List R3) (a b g:Rat) (j k:Nat) (ha:Law L) (h0:0<=a) (hab:a<=b) (hg:0<g) (hj:j<=8000) (hk:k<=8000):CE 32 [pC l0 L,pS a j b k,pQ g 4] (fun _=>[pS (onG g (stx L a b)).1 (j+15) (onG g (stx L a b)).2 (k+15)]):=by
 intro w vs hG hp;refine ze hG hN (ex:=(exPe l0 L g a b j k)) (exPe_ok hN hG (cb _) ha h0 hab hg hj hk) (fn:=Tryz.f32) Tryz.func32 (c:=codeOf Tryz.f32) (by kernel_rfl) (args:=[pC l0 L,pS a j b k,pQ g 4]) (by kernel_rfl) hp (fun hR _ hA=>?_);exact kj (grna l0 L a b g j k) (hR _ rfl) hA (by (repeat' (first|exact trivial|apply And.intro))<;>first|exact jo.refl _ _|exact fun _ _=>kF.refl _ _|exact cX rfl|exact cZ _ _|exact jb _ _|(with_reducible assumption)|omega|with_reducible rfl|(simp only[cO];omega)|(intro j hj;exact absurd hj (cW _))|exact cJ (by rw[Wz,cg (by grind),cq hg];decide)|exact h0|exact Cj h0 hab|exact ET rfl (by omega)|rfl)
theorem gn_ent {lo l0:Nat}{w0:World}{L:List R3}{a b g:Rat}{j k:Nat}(hN:je) (hG:Gr w0) (hlo:lo<=w0.heap.size) (ha:Law L) (h0:0<=a) (hab:a<=b) (hg:0<=g) (hj:j<=8000) (hk:k<=8000):jJ (Cx true lo w0) (.call 32) [pC l0 L,pS a j b k,pQ g 4] (sr (stp L g a b).1 (j+15) (stp L g a b).2 (k+15)):=by
 have he:=ja Tryz.func32 (by kernel_rfl) rfl;unfold stp;rcases ckZ hg with⟨h1,_⟩|⟨h1,hp⟩
 ·rw[cH h1];exact(grz_ok hN l0 L a b g j k ha h0 hab h1 hj hk).ent hG hlo he (fun _ _=>⟨_,rfl,jo.refl _ _,jo.refl _ _,trivial⟩)
 ·rw[cJ h1];exact(grn_ok hN l0 L a b g j k ha h0 hab hp hj hk).ent hG hlo he (fun _ _=>⟨_,rfl,jo.refl _ _,jo.refl _ _,trivial⟩)
end Pe
end Go.Proofs.YtclihnehnkijgaaGreatDoor
