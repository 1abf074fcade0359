/- Part 29. -/
import Derived.Test.YtdopipkmcnkdjaaGreatDoorE28
set_option linter.all false
noncomputable section

namespace Go.Proofs.YtdopipkmcnkdjaaGreatDoor
open Go Go.RowKit Go.Proofs
namespace Pe
variable {D:Type}
inductive Kp where
 |code (c:Code)
 |endB (id:Nat)
section
variable (F:Fence) (m:Nat) (P:Program)
def after:List Kp->(Exit->Act->World->Prop)->Exit->Act->World->Prop
 |[],Q=>Q
 |.code c::ks,Q=>Exit.then (fun a w=>c.wpIn F m P (after ks Q) a w) (after ks Q)
 |.endB id::ks,Q=>Exit.inBlock id (after ks Q)
end
def Gp:Code->Bool
 |.loop _=>true
 |.seq x y=>match Gp x with
  |true=>true
  |false=>Gp y
 |.block _ c=>Gp c
 |.cond _ c d=>match Gp c with
  |true=>true
  |false=>Gp d
 |_=>false
def isLoop:Code->Bool
 |.loop _=>true
 |_=>false
def ur:Nat->List Kp->List Code×List Kp
 |n+1,.code (.seq x y)::ks=>ur n (.code x::.code y::ks)
 |n+1,.code c::ks=>match Gp c with
  |true=>([],.code c::ks)
  |false=>match ur n ks with
   |(l,r)=>(c::l,r)
 |_,ks=>([],ks)
def UJ (ks:List Kp):List Code:=(ur 1000 ks).1
def caF (ks:List Kp):List Kp:=(ur 1000 ks).2
def chM:Nat->List Kp->List Kp
 |n+1,.endB _::ks=>chM n ks
 |n+1,.code (.block id c)::ks=>match isLoop c with
  |true=>.code (.block id c)::ks
  |false=>match Gp c with
   |true=>chM n (.code c::.endB id::ks)
   |false=>.code (.block id c)::ks
 |_,ks=>ks
def next (ks:List Kp):List Kp:=chM 100 (caF ks)
def yE:List Kp->Code
 |.code (.block _ (.loop c))::_=>c
 |_=>.skip
def popK (j:Nat):List Kp->List Kp
 |.endB id::ks=>match Nat.beq j id with
  |true=>ks
  |false=>popK j ks
 |_::ks=>popK j ks
 |[]=>[]
def Uc (j:Nat):List Kp->Bool
 |.endB id::ks=>match Nat.beq j id with
  |true=>true
  |false=>Uc j ks
 |_::ks=>Uc j ks
 |[]=>false
def Eu (S:Stat D) (TT:FuncId->Tab D) (CF YF:cN D) (nt:Nat) (base:cR D) (fid:FuncId) (inR:Bool) (n:Nat):List Code->St D->Ran D
 |[],st=>some (.normal,st,[])
 |c::l,st=>match Cg S TT CF YF nt base fid inR n c st with
  |some (.normal,st',ob)=>match Eu S TT CF YF nt base fid inR n l st' with
   |some (x,st2,ob2)=>some (x,st2,ob++ob2)
   |none=>none
  |r=>r
def clE (C:Ctx D) (TT:FuncId->Tab D) (CF YF:cN D) (nt:Nat) (fid:FuncId) (inR:Bool) (n:Nat) (l:List Code) (st st':St D):Option (Xt×List Prop) :=
 match Eu C.toStat TT CF YF nt (fun b=>find b st.m) fid inR n l ⟨st.nb,st.sl,[],st.ms⟩ with
 |some (x,s1,ob)=>match fitTo C (st.join s1) st' with
  |some ob2=>some (x,ob++ob2)
  |none=>none
 |none=>none
section
variable {F:Fence}{m:Nat}{C:Ctx D}{TT:FuncId->Tab D}{CF YF:cN D}{nt:Nat}{fid:FuncId}{inR:Bool}{Q:Exit->Act->World->Prop}{a:Act}{w:World}{st st':St D}
theorem WI:∀ (ks:List Kp) {a:Act}{w:World},Q .ret a w->after F m C.P ks Q .ret a w
 |[],_,_,h=>h
 |.code _::ks,_,_,h=>WI ks h
 |.endB _::ks,_,_,h=>WI ks h
theorem KT {j:Nat}:∀ (ks:List Kp) {a:Act}{w:World},Uc j ks=true->after F m C.P (popK j ks) Q .normal a w->after F m C.P ks Q (.exit j) a w
 |[],_,_,h,_=>by simp [Uc] at h
 |.code _::ks,_,_,h,hq=>KT ks (by simpa [Uc] using h) (by simpa [popK] using hq)
 |.endB id::ks,_,_,h,hq=>by
  simp only[Uc] at h;simp only[popK] at hq;simp only[after,Exit.inBlock];split at h
  ·rename_i hj;rw[hj] at hq;rw[co (ct hj)];exact hq
  ·rename_i hj;rw[hj] at hq;rw[cg (fun e=>by subst e;simp at hj)];exact KT ks h hq
theorem kO {j:Nat}:∀ (ks:List Kp) {a:Act}{w:World},Uc j ks=false->Q (.exit j) a w->after F m C.P ks Q (.exit j) a w
 |[],_,_,_,hq=>hq
 |.code _::ks,_,_,h,hq=>kO ks (by simpa [Uc] using h) hq
 |.endB id::ks,_,_,h,hq=>by
  simp only[Uc] at h;simp only[after,Exit.inBlock];split at h
  ·cases h
  ·rename_i hj;rw[cg (fun e=>by subst e;simp at hj)];exact kO ks h hq
theorem ccY (hW:Wd F) (hR:inR=false->F=Fence.wide) (hC:C.Ok) (hT:∀ f,(TT f).Ok C) (hF:CF.Ok C) (hFm:CF.Mono) (hY:zQ C YF) (hYm:YF.Mono) {e0:Env}{w0:World}{n0:Nat}{base:cR D}(hb:jm C e0 w0 base) {B:Nat}(hfree:um n0 B e0) {n:Nat} :
 ∀ (k:Nat) (ks:List Kp) (st:St D) (x:Xt) (st':St D) (ob:List Prop),Eu C.toStat TT CF YF nt base fid inR n (ur k ks).1 st=some (x,st',ob)->jE ob->st'.nb<=B->
 ∀ a w,Sat C nt e0 w0 n0 st a w->(∀ a' w',Sat C nt e0 w0 n0 st' a' w'->after F m C.P (ur k ks).2 Q x.to a' w')->after F m C.P ks Q .normal a w:=by
 have stop:∀ (ks:List Kp) (st:St D) (x:Xt) (st':St D) (ob:List Prop),Eu C.toStat TT CF YF nt base fid inR n [] st=some (x,st',ob)->∀ a w,Sat C nt e0 w0 n0 st a w->(∀ a' w',Sat C nt e0 w0 n0 st' a' w'->after F m C.P ks Q x.to a' w')->after F m C.P ks Q .normal a w:=by
  intro ks st x st' ob h a w hs hQ;simp only[Eu,kJ,cr] at h;obtain⟨rfl,rfl,rfl⟩:=h;exact hQ a w hs
 have one:∀ (k:Nat) (c:Code) (ks:List Kp) (ih:∀ (st:St D) (x:Xt) (st':St D) (ob:List Prop),Eu C.toStat TT CF YF nt base fid inR n (ur k ks).1 st=some (x,st',ob)->jE ob->st'.nb<=B->
  ∀ a w,Sat C nt e0 w0 n0 st a w->(∀ a' w',Sat C nt e0 w0 n0 st' a' w'->after F m C.P (ur k ks).2 Q x.to a' w')->after F m C.P ks Q .normal a w) (out:∀ (x:Xt) a w,x≠.normal->after F m C.P (ur k ks).2 Q x.to a w->after F m C.P ks Q x.to a w)
  (hle:∀ st x st' ob,Eu C.toStat TT CF YF nt base fid inR n (ur k ks).1 st=some (x,st',ob)->st.nb<=st'.nb)
  (st:St D) (x:Xt) (st':St D) (ob:List Prop),Eu C.toStat TT CF YF nt base fid inR n (c::(ur k ks).1) st=some (x,st',ob)->jE ob->st'.nb<=B->
  ∀ a w,Sat C nt e0 w0 n0 st a w->(∀ a' w',Sat C nt e0 w0 n0 st' a' w'->after F m C.P (ur k ks).2 Q x.to a' w')->c.wpIn F m C.P (after F m C.P ks Q) a w:=by
  intro k c ks ih out hle st x st' ob h ho hB a w hs hQ;simp only[Eu] at h;split at h
  ·rename_i st1 ob1 h1;split at h
   ·rename_i x2 st2 ob2 h2;injection h with h;simp only[cr] at h
    obtain⟨rfl,rfl,rfl⟩:=h;obtain⟨o1,o2⟩:=ho.append;refine Ex (kC hW hR hC hT hF hFm hY hYm hb hfree n c st _ st1 ob1 h1 o1 (cA (hle _ _ _ _ h2) hB) a w hs) ?_;rintro e a' w' ⟨rfl,hs'⟩;exact ih st1 x2 st2 ob2 h2 o2 hB a' w' hs' hQ
   ·cases h
  ·rename_i hne;refine Ex (kC hW hR hC hT hF hFm hY hYm hb hfree n c st _ _ _ h ho hB a w hs) ?_;rintro e a' w' ⟨rfl,hs'⟩;exact out x a' w' (fun hx=>by subst hx;exact hne _ _ h) (hQ a' w' hs')
 have outs:∀ (k:Nat) (ks:List Kp) (x:Xt) a w,x≠.normal->after F m C.P (ur k ks).2 Q x.to a w->after F m C.P ks Q x.to a w:=by
  intro k
  induction k with
  |zero=>intro ks x a w _ h;cases ks<;>exact h
  |succ k ih =>
   intro ks x a w hx h
   match ks with
   |[]=>exact h
   |.endB id::ks=>exact h
   |.code c::ks =>
    have pass:∀ (c:Code) (ks:List Kp),after F m C.P ks Q x.to a w->after F m C.P (.code c::ks) Q x.to a w:=by
     intro c ks h;cases x with
     |normal=>exact absurd rfl hx
     |exit j=>exact h
     |ret=>exact h
    have gen:∀ c:Code,(∀ x y,c≠.seq x y)->after F m C.P (ur (k+1) (.code c::ks)).2 Q x.to a w->after F m C.P (.code c::ks) Q x.to a w:=by
     intro c hc h;have hg:ur (k+1) (.code c::ks)=(match Gp c with
      |true=>([],.code c::ks)
      |false=>match ur k ks with
       |(l,r)=>(c::l,r)):=by
      cases c<;>first|rfl|exact absurd rfl (hc _ _)
     rw[hg] at h;split at h
     ·exact h
     ·exact pass c ks (ih ks x a w hx h)
    cases c with
    |seq y z =>
     have:=ih (.code y::.code z::ks) x a w hx h;cases x with
     |normal=>exact absurd rfl hx
     |exit j=>exact this
     |ret=>exact this
    |_=>exact gen _ (by simp) h
 have les:∀ (l:List Code) (st:St D) (x:Xt) (st':St D) (ob:List Prop),Eu C.toStat TT CF YF nt base fid inR n l st=some (x,st',ob)->st.nb<=st'.nb:=by
  intro l
  induction l with
  |nil=>intro st x st' ob h;simp only[Eu,kJ,cr] at h;rw[h.2.1];exact cb _
  |cons c l ih =>
   intro st x st' ob h;simp only[Eu] at h;split at h
   ·rename_i st1 ob1 h1;split at h
    ·rename_i x2 st2 ob2 h2;injection h with h;simp only[cr] at h
     obtain⟨rfl,rfl,rfl⟩:=h;exact cA (uh hFm hYm _ _ _ _ _ _ h1) (ih _ _ _ _ h2)
    ·cases h
   ·exact uh hFm hYm _ _ _ _ _ _ h
 intro k
 induction k with
 |zero=>intro ks st x st' ob h ho hB a w hs hQ;cases ks<;>exact stop _ st x st' ob h a w hs hQ
 |succ k ih =>
  intro ks st x st' ob h ho hB a w hs hQ
  match ks with
  |[]=>exact stop _ st x st' ob h a w hs hQ
  |.endB id::ks=>exact stop _ st x st' ob h a w hs hQ
  |.code c::ks =>
   have gen:∀ c:Code,(∀ x y,c≠.seq x y)->Eu C.toStat TT CF YF nt base fid inR n (ur (k+1) (.code c::ks)).1 st=some (x,st',ob)->(∀ a' w',Sat C nt e0 w0 n0 st' a' w'->after F m C.P (ur (k+1) (.code c::ks)).2 Q x.to a' w')->after F m C.P (.code c::ks) Q .normal a w:=by
    intro c hc h hQ;have hg:ur (k+1) (.code c::ks)=(match Gp c with
     |true=>([],.code c::ks)
     |false=>match ur k ks with
      |(l,r)=>(c::l,r)):=by
     cases c<;>first|rfl|exact absurd rfl (hc _ _)
    rw[hg] at h hQ;split at h
    ·rename_i hl;rw[hl] at hQ;exact stop _ st x st' ob h a w hs hQ
    ·rename_i hl;rw[hl] at hQ;exact one k c ks (ih ks) (outs k ks) (les _) st x st' ob h ho hB a w hs hQ
   cases c with
   |seq y z =>
    show (Code.seq y z).wpIn F m C.P (after F m C.P ks Q) a w;apply wpIn_seq;exact ih (.code y::.code z::ks) st x st' ob h ho hB a w hs hQ
   |_=>exact gen _ (by simp) h hQ
theorem cgF (hR:zt C TT) (hW:Wd F) (hI:inR=false->F=Fence.wide) {g d n:Nat}{ks:List Kp}{x:Xt}{ob:List Prop}(h:clE C TT (zB C.toStat TT g d).1 (zB C.toStat TT g d).2 nt fid inR n (UJ ks) st st'=some (x,ob)) (ho:jE ob)
 (hA:At C nt st a w) (hQ:∀ a' w',At C nt st' a' w'->after F m C.P (caF ks) Q x.to a' w'):after F m C.P ks Q .normal a w:=by
 unfold clE at h;split at h
 rotate_left
 ·cases h
 rename_i x1 s1 ob1 he;split at h
 rotate_left
 ·cases h
 rename_i ob2 hf;injection h with h;simp only[cr] at h;obtain⟨rfl,rfl⟩:=h
 obtain⟨o1,o2⟩:=ho.append;obtain⟨⟨e,hg,hM,hV,hfr,hmk⟩,hsz⟩:=hA;have hFm:=(kz (S:=C.toStat) (TT:=TT) (g:=g) d).1;have hYm:=(kz (S:=C.toStat) (TT:=TT) (g:=g) d).2;have hle:(⟨st.nb,st.sl,[],st.ms⟩:St D).nb<=s1.nb:=execL_le he;have hle:st.nb<=s1.nb:=hle;refine ccY hW hI hR.ok hR.tab (zK hR.ok hR.name hR.tab d).1 hFm (zK hR.ok hR.name hR.tab d).2 hYm hM (B:=s1.nb) (fun b h1 _=>hfr b h1) 1000 ks _ x1 s1 ob1 he o1 (cb _) a w ⟨⟨e,ut.refl hg _,hV,hmk⟩,hsz⟩ ?_;rintro a' w' ⟨⟨e',hL,hV',hmk'⟩,hsz'⟩;refine hQ a' w' (cod hR.ok hf o2 ⟨⟨e',hL.good,fun b o ho=>?_,hV',fun b hb=>?_,hmk'⟩,hsz'⟩)
 ·exact uD hM hL b o (by rw[WE];exact ho)
 ·obtain⟨q1,q2,q3⟩:=hfr b (cA hle hb);have hb:s1.nb<=b:=hb;refine⟨?_,?_,?_⟩
  ·cases hx:e'.ρ b with
   |none=>rfl
   |some y =>
    rcases hL.new.ρ b y hx with h|h
    ·rw[q1] at h;cases h
    ·omega
  ·cases hx:e'.ν b with
   |none=>rfl
   |some y =>
    rcases hL.new.ν b y hx with h|h
    ·rw[q2] at h;cases h
    ·omega
  ·cases hx:e'.φ b with
   |none=>rfl
   |some y =>
    rcases hL.new.φ b y hx with h|h
    ·rw[q3] at h;cases h
    ·omega
where
 execL_le {l:List Code} {base:cR D} {n d g:Nat} {st st':St D} {x:Xt} {ob:List Prop} (h:Eu C.toStat TT (zB C.toStat TT g d).1 (zB C.toStat TT g d).2 nt base fid inR n l st=some (x,st',ob)):st.nb<=st'.nb:=by
  induction l generalizing st st' x ob with
  |nil=>simp only[Eu,kJ,cr] at h;rw[h.2.1];exact cb _
  |cons c l ih =>
   simp only[Eu] at h;split at h
   ·rename_i st1 ob1 h1;split at h
    ·rename_i x2 st2 ob2 h2;injection h with h;simp only[cr] at h
     obtain⟨rfl,rfl,rfl⟩:=h;exact cA (uh (kz d).1 (kz d).2 _ _ _ _ _ _ h1) (ih h2)
    ·cases h
   ·exact uh (kz d).1 (kz d).2 _ _ _ _ _ _ h
theorem cfj:∀ (n:Nat) (ks:List Kp) {a:Act}{w:World},after F m C.P (chM n ks) Q .normal a w->after F m C.P ks Q .normal a w
 |0,ks,a,w,h=>by cases ks<;>exact h
 |n+1,[],a,w,h=>h
 |n+1,.endB id::ks,a,w,h=>cfj n ks h
 |n+1,.code c::ks,a,w,h=>by
  cases c with
  |block id c =>
   unfold chM at h;split at h
   ·exact h
   ·split at h
    ·exact wpIn_block (cfj n (.code c::.endB id::ks) h)
    ·exact h
  |_=>exact h
theorem yu {ks:List Kp}(h:after F m C.P (next ks) Q .normal a w):after F m C.P (caF ks) Q .normal a w:=cfj _ _ h
theorem Ct {Θ:Type}(I:Θ->St D) (J:Θ->Prop) (μ:Θ->Nat) {id:Nat}{c:Code}{L ks:List Kp}(hL:L=.code (.block id (.loop c))::ks) (θ0:Θ) (h0:J θ0) (hA:At C nt (I θ0) a w)
 (hr:∀ θ a w,J θ->At C nt (I θ) a w->after F m C.P [.code c] (Exit.then (fun a' w'=>∃ θ',J θ'/\At C nt (I θ') a' w'/\μ θ'<μ θ) (Exit.inBlock id (after F m C.P ks Q))) .normal a w):after F m C.P L Q .normal a w:=by
 subst hL;exact loop_at I J μ θ0 h0 hA hr
end
def UZ (C:Ctx D) (TT:FuncId->Tab D) (CF YF:cN D) (nt:Nat) (fid:FuncId) (inR:Bool) (n:Nat) (l:List Code) (rs:List ResultVar) (st:St D) (ps:List (Pat D)):Option (Xt×List Prop) :=
 match Eu C.toStat TT CF YF nt (fun b=>find b st.m) fid inR n l ⟨st.nb,st.sl,[],st.ms⟩ with
 |some (.ret,s1,ob)=>match cbc C rs (st.join s1) ps with
  |some ob2=>some (.ret,ob++ob2)
  |none=>none
 |_=>none
section
variable {F:Fence}{m:Nat}{C:Ctx D}{TT:FuncId->Tab D}{CF YF:cN D}{nt:Nat}{fid:FuncId}{inR:Bool}{Q:Exit->Act->World->Prop}{a:Act}{w:World}{st st':St D}
theorem cfO (hR:zt C TT) (hW:Wd F) (hI:inR=false->F=Fence.wide) {g d n:Nat}{ks:List Kp}{fn:Func}{ps:List (Pat D)}{ob:List Prop}(h:UZ C TT (zB C.toStat TT g d).1 (zB C.toStat TT g d).2 nt fid inR n (UJ ks) fn.results.toList st ps=some (.ret,ob)) (ho:jE ob)
 (hA:At C nt st a w) (hQ:∀ a' w',Ret C fn (Res C ps) .ret a' w'->Q .ret a' w'):after F m C.P ks Q .normal a w:=by
 unfold UZ at h;split at h
 rotate_left
 ·cases h
 rename_i s1 ob1 he;split at h
 rotate_left
 ·cases h
 rename_i ob2 hf;injection h with h;simp only[cr] at h;obtain⟨_,rfl⟩:=h
 obtain⟨o1,o2⟩:=ho.append;obtain⟨⟨e,hg,hM,hV,hfr,hmk⟩,hsz⟩:=hA;have hFm:=(kz (S:=C.toStat) (TT:=TT) (g:=g) d).1;have hYm:=(kz (S:=C.toStat) (TT:=TT) (g:=g) d).2;have hle:(⟨st.nb,st.sl,[],st.ms⟩:St D).nb<=s1.nb:=cgF.execL_le he;have hle:st.nb<=s1.nb:=hle;refine ccY hW hI hR.ok hR.tab (zK hR.ok hR.name hR.tab d).1 hFm (zK hR.ok hR.name hR.tab d).2 hYm hM (B:=s1.nb) (fun b h1 _=>hfr b h1) 1000 ks _ .ret s1 ob1 he o1 (cb _) a w ⟨⟨e,ut.refl hg _,hV,hmk⟩,hsz⟩ ?_;rintro a' w' ⟨⟨e',hL,hV',hmk'⟩,hsz'⟩;refine WI _ (hQ a' w' (cgw hR.ok hf o2 (nt:=nt) ⟨⟨e',hL.good,fun b o ho=>?_,hV',fun b hb=>?_,hmk'⟩,hsz'⟩ (.inl rfl)))
 ·exact uD hM hL b o (by rw[WE];exact ho)
 ·obtain⟨q1,q2,q3⟩:=hfr b (cA hle hb);have hb:s1.nb<=b:=hb;refine⟨?_,?_,?_⟩
  ·cases hx:e'.ρ b with
   |none=>rfl
   |some y =>
    rcases hL.new.ρ b y hx with h|h
    ·rw[q1] at h;cases h
    ·omega
  ·cases hx:e'.ν b with
   |none=>rfl
   |some y =>
    rcases hL.new.ν b y hx with h|h
    ·rw[q2] at h;cases h
    ·omega
  ·cases hx:e'.φ b with
   |none=>rfl
   |some y =>
    rcases hL.new.φ b y hx with h|h
    ·rw[q3] at h;cases h
    ·omega
def ciw (C:Ctx D) (TT:FuncId->Tab D) (CF YF:cN D) (nt:Nat) (fid:FuncId) (n:Nat) (c:Code) (rs:List ResultVar) (st:St D) (ps:List (Pat D)):Option (Xt×List Prop) :=
 match Cg C.toStat TT CF YF nt (fun b=>find b st.m) fid false n c ⟨st.nb,st.sl,[],st.ms⟩ with
 |some (.ret,s1,ob)=>match cbc C rs (st.join s1) ps with
  |some ob2=>some (.ret,ob++ob2)
  |none=>none
 |_=>none
theorem all_is (hR:zt C TT) {g d n:Nat}{c:Code}{fn:Func}{ps:List (Pat D)}{ob:List Prop}(h:ciw C TT (zB C.toStat TT g d).1 (zB C.toStat TT g d).2 nt fid n c fn.results.toList st ps=some (.ret,ob)) (ho:jE ob)
 (hA:At C nt st a w):c.wpIn Fence.wide m C.P (Ret C fn (Res C ps)) a w:=by
 unfold ciw at h;split at h
 rotate_left
 ·cases h
 rename_i s1 ob1 he;split at h
 rotate_left
 ·cases h
 rename_i ob2 hf;injection h with h;simp only[cr] at h;obtain⟨_,rfl⟩:=h
 obtain⟨o1,o2⟩:=ho.append;exact kf (.inl rfl) (fun _=>rfl) hR.ok hR.tab (zK hR.ok hR.name hR.tab d).1 (kz d).1 (zK hR.ok hR.name hR.tab d).2 (kz d).2 he o1 hA (fun a' w' hA'=>cgw hR.ok hf o2 hA' (.inl rfl))
end
end Pe
open Go Go.RowKit Go.Proofs Lim
namespace Pe
section
variable {b b':Bool}{lo lo':Nat}{w0 w0' w:World}
theorem ZB:∀ {gs:List (Grp Dx)}{vs:List Value},cO (Cx b lo w0) w gs vs->cO (Cx b' lo' w0') w gs vs
 |[],_,h=>h
 |.lit _::_,_,h=>⟨h.1,ZB h.2⟩
 |.cls _::_,_,h=>⟨h.1,ZB h.2⟩
theorem ls_cx {L:Lt Dx}{v:Value}(h:cfP (Cx b lo w0) w L v):cfP (Cx b' lo' w0') w L v:=by
 rcases h with h|⟨k,o,c,arr,pre,vs,rest,q1,q2,q3,q4,q5,q6,q7,q8,q9⟩
 ·exact .inl h
 ·exact .inr ⟨k,o,c,arr,pre,vs,rest,q1,q2,q3,q4,q5,q6,q7,q8,fun j hj=>ZB (q9 j hj)⟩
theorem pat_cx {p:Pat Dx}{v:Value}(h:p.is (Cx b lo w0) w v):p.is (Cx b' lo' w0') w v:=by
 cases p with
 |one g=>cases g<;>exact h
 |agg gs=>obtain⟨vs,h1,h2⟩:=h;exact⟨vs,ZB h1,h2⟩
 |slc t n gs=>obtain⟨k,o,c,arr,pre,vs,rest,h1,h2,h3,h4,h5,h6⟩:=h;exact⟨k,o,c,arr,pre,vs,rest,h1,h2,h3,h4,ZB h5,h6⟩
 |cap f ty z gs=>obtain⟨k,o,c,h1,h2⟩:=h;exact⟨k,o,c,ls_cx h1,h2⟩
theorem WC:∀ {ps:List (Pat Dx)}{vs:List Value},jb (Cx b lo w0) w ps vs->jb (Cx b' lo' w0') w ps vs
 |[],_,h=>h
 |_::_,_,⟨v,ws,h1,h2,h3⟩=>⟨v,ws,h1,pat_cx h2,WC h3⟩
theorem clw {p:jH Dx}{v:Value}(h:p.is (Cx b lo w0) w v):p.is (Cx b' lo' w0') w v:=by
 cases p with
 |val p=>exact pat_cx h
 |tup ps=>obtain⟨vs,h1,h2⟩:=h;exact⟨vs,WC h1,h2⟩
theorem rob_cx {w1 w2:World}{p:jH Dx}{v:Value}(h:cdj (Cx b lo w0) w1 w2 p v):cdj (Cx b lo' w0') w1 w2 p v:=fun S hS w'' hs hk=>clw (h S hS w'' hs hk)
theorem ZF {w':World}(hk:∀ k,k<w.heap.size->w'.heap[k]?=w.heap[k]?):∀ {gs:List (Grp Dx)}{vs:List Value},cO (Cx b lo w0) w gs vs->cO (Cx b lo w0) w' gs vs
 |[],_,h=>h
 |.lit _::_,_,h=>⟨h.1,ZF hk h.2⟩
 |.cls _::_,_,h=>⟨DIs.grow hk h.1,ZF hk h.2⟩
theorem cnF {w':World}(hk:∀ k,k<w.heap.size->w'.heap[k]?=w.heap[k]?) {p:Pat Dx}{v:Value}(hn:noSlc p=true) (h:p.is (Cx b lo w0) w v):p.is (Cx b lo w0) w' v:=by
 cases p with
 |one g =>
  cases g with
  |lit x=>exact h
  |cls d=>exact DIs.grow hk h
 |agg gs=>obtain⟨vs,h1,h2⟩:=h;exact⟨vs,ZF hk h1,h2⟩
 |slc t n gs=>cases hn
 |cap f ty z gs=>cases hn
theorem WJ {w':World}(hk:∀ k,k<w.heap.size->w'.heap[k]?=w.heap[k]?):∀ {ps:List (Pat Dx)}{vs:List Value},KN ps=true->jb (Cx b lo w0) w ps vs->jb (Cx b lo w0) w' ps vs
 |[],_,_,h=>h
 |p::ps,_,hn,⟨v,ws,h1,h2,h3⟩=>by
  unfold KN at hn;split at hn
  ·rename_i h0;exact⟨v,ws,h1,cnF hk h0 h2,WJ hk hn h3⟩
  ·cases hn
theorem Ke:∀ {ps:List (Pat Dx)}{csz:Dx->Nat}{s:Nat}{r:List A1×Ws Dx×Nat},Er csz s ps=some r->KN ps=true
 |[],_,_,_,_=>rfl
 |p::ps,csz,s,r,h=>by
  have:=EH h p (by simp);simp only[Er] at h;split at h
  ·split at h
   ·rename_i h2;unfold KN;cases p with
    |slc t n gs=>cases this
    |cap f ty z gs=>cases this
    |one g=>exact Ke h2
    |agg gs=>exact Ke h2
   ·cases h
  ·cases h
end
noncomputable abbrev W0 (w:World):Ctx Dx:=Cx true w.heap.size w
theorem fn_ok {w : World} (hG : Gr w) (hN : ∀ (f : Nat) (fn : Func), Tryz.prog.funcs[f]? = some fn → (fn.name == "runtime.NumGoroutine") = false) {ex : List (Nat × Con)} (hE : zv true w.heap.size w ex) {f : FuncId} {fn : Func} {c : Code} (hfn : Tryz.prog.funcs[f]? = some fn) (hbody : fn.body = some c) {args : List (Pat Dx)} {xs : List A1} {ws : Ws Dx} {n0 : Nat} (hm : Er Dx.n 0 args = some (xs, ws, n0)) (hlen : Nat.ble (uB xs).length fn.ntmps = true)
 {vs:List Value} (hp:jb (W0 w) w args vs) {ps:List (Pat Dx)} (hwp:(∀ o:Opt,o.ex=ex->zt (W0 w) (TY o))->∀ a,At (W0 w) fn.ntmps ⟨n0,Je 0 (uB xs),ws,[]⟩ a w->after Fence.wide 0 Tryz.prog [.code c] (Ret (W0 w) fn (Res (W0 w) ps)) .normal a w) :
 Enters Tryz.prog f/\Calls Tryz.prog f vs.toArray w (fun en w'=>∃ v,en=.returned v/\Res (W0 w) ps v w'):=by
 have hR:∀ o:Opt,o.ex=ex->zt (W0 w) (TY o):=fun o ho=>ZL (cb _) hG hN (by rw[ho];exact hE);have hR0:=hR ⟨[],[],ex⟩ rfl;refine Cc (C:=W0 w) hR0 hfn hbody hm hlen ?_ (fun a hA=>hwp hR a hA);exact Zm hR0.ok (W:=fun w'=>uH env0 w w') w (uH.refl _ _) (EH hm) (fun w' hk=>WJ (fun k hk'=>hk.block k hk' (fun b=>by simp)) (Ke hm) hp)
theorem jX {F:Fence}{m:Nat}{P:Program}{Q:Exit->Act->World->Prop}{ks:List Kp}{a:Act}{w:World}(h:ks=[]) (hq:Q .normal a w):after F m P ks Q .normal a w:=by
 subst h;exact hq
theorem cjW {lo:Nat}{w0:World}(hG:Gr w0) (hlo:lo<=w0.heap.size) {f:FuncId}{args:List (Pat Dx)}(ps:Nat->List (Pat Dx)) (hsub:∀ hi,lo<=hi->∃ ob,yd (Cx true lo w0) (ps lo) (ps hi)=some ob/\jE ob)
 (h:∀ w vs,Gr w->jb (W0 w) w args vs->Enters Tryz.prog f/\Calls Tryz.prog f vs.toArray w (fun en w'=>∃ v,en=.returned v/\Res (W0 w) (ps w.heap.size) v w')) (hE:Enters Tryz.prog f):jG (Cx true lo w0) (.call f) args (Cd (ps lo)):=by
 refine⟨hE,fun w vs hb hvs=>?_⟩;refine(h w vs (hG.below hb hG.size) (WC hvs)).2.mono ?_;rintro en w' ⟨v,rfl,h1,h2⟩;refine⟨v,rfl,h1,?_⟩;obtain⟨ob,h3,h4⟩:=hsub w.heap.size (cA hlo hb.size);intro S hS w'' hs hk;have h5:=rob_cx (lo':=lo) (w0':=w0) h2 S hS w'' hs hk;have hC:=ceD (b:=true) hlo;revert h3 h5;generalize ps lo=a;generalize ps w.heap.size=c;intro h3 h5;unfold Cd at h5 ⊢;split at h5
 ·rename_i p
  match a,h3 with
  |[q],h3 =>
   have:=yV hC h3 h4 (vs:=[v]) ⟨v,[],rfl,h5,rfl⟩;obtain⟨x,y,e1,e2,e3⟩:=this;injection e1 with e1 _
   subst e1;exact e2
  |[],h3=>simp [yd] at h3
  |_::q::r,h3 =>
   obtain⟨x,y,q1,q2,_⟩:=uf h3;simp [yd] at q2
 ·rename_i hne
  match a,h3 with
  |[q],h3 =>
   exfalso
   match c,h3,hne with
   |[],h3,_=>simp [yd] at h3
   |[p],_,hne=>exact hne p rfl
   |_::_::_,h3,_ =>
    obtain⟨x,y,q1,q2,_⟩:=uf h3;simp [yd] at q2
  |[],h3=>obtain⟨us,q1,q2⟩:=h5;exact⟨us,yV hC h3 h4 q1,q2⟩
  |q1::q2::r,h3=>obtain⟨us,p1,p2⟩:=h5;exact⟨us,yV hC h3 h4 p1,p2⟩
def CN (args:List (Pat Dx)) (res:jH Dx):Con:=fun l=>some (res,[l=args])
theorem kV {bb:Bool}{lo:Nat}{w0:World}{f:Nat}{args:List (Pat Dx)}{res:jH Dx}(h:jG (Cx bb lo w0) (.call f) args res):∀ l r ob,CN args res l=some (r,ob)->jE ob->jG (Cx bb lo w0) (.call f) l r:=by
 intro l r ob hl ho;unfold CN at hl;injection hl with hl;injection hl with h1 h2;subst h1;subst h2
 rw[show l=args from ho.1];exact h
def lst {α:Type}[Inhabited α] (lo ty z:Nat) (xs:List α) (f:α->List (Grp Dx)):Lt Dx:=⟨lo,ty,z,xs.length,fun j=>f (xs.getD j default)⟩
section
variable {C:Ctx Dx}{b:Bool}{lo:Nat}{w0:World}
theorem cD {n:Nat}{g:Nat->List (Grp Dx)}{x:List (Grp Dx)}(h:x=g n):∀ j,j<n+1->jW C (g j) (cdO n g (fun _=>x) j):=by
 intro j hj w vs hv;unfold cdO at hv;split at hv
 ·exact hv
 ·rename_i hn;have:j=n:=by
   rcases jd j n with h1|h1
   ·rw[show Nat.blt j n=true from Jp h1] at hn;cases hn
   ·omega
  rw[h,← this] at hv;exact hv
theorem ccU {L:Lt Dx}{a c:Nat}(h:a<=c):jq (Cx b lo w0) (.ls { L with lo:=a }) (.ls { L with lo:=c }):=by
 intro w l hl;have hl:DIs w (.ls { L with lo:=c }) l:=hl;show DIs w (.ls { L with lo:=a }) l;cases hl with
 |nil h1=>exact .nil h1
 |ls k o cp arr pre vs rest h2 h3 h4 h5 h6 h7 h8 h9=>exact .ls k o cp arr pre vs rest h2 h3 h4 h5 h6 (cA h h7) h8 h9
theorem Kg {r s:Rat}{j k:Nat}(h:s=r) (hk:k<=j):jq (Cx b lo w0) (.q r j) (.q s k):=by
 intro w l hl;have hl:DIs w (.q s k) l:=hl;subst h;cases hl with
 |q h1 h2 h3=>exact .q h1 h2 (h3.le hk)
theorem CK {r s:Rat}{j k:Nat}(h:s=r) (hk:k<=j):jq (Cx b lo w0) (.rq r j) (.rq s k):=by
 intro w l hl;have hl:DIs w (.rq s k) l:=hl;subst h;cases hl with
 |rq h1 h2 h3=>exact .rq h1 h2 (h3.le hk)
theorem GM {r:Rat}{k:Nat}(h:r=0) (hk:1<=k):jW (Cx b lo w0) [.cls (.q r k)] [.lit (.bool false),.lit (.int .u64 0),.lit (.int .u64 0),.lit (.pointer none)]:=by
 intro w vs hv;subst h;obtain⟨xs,ys,rfl,h1,h2⟩:=KP (b:=b) (lo:=lo) (w0:=w0) (gs':=[]) (r:=0) (k:=1) rfl hv;rw[show ys=[] from h2];exact YG (.cls (Kg (b:=b) (lo:=lo) (w0:=w0) (r:=0) (j:=k) rfl hk w xs h1) .nil)
end
end Pe
namespace Pe
abbrev Tx:=List UInt8
abbrev nq (l:Tx):Rat:=(kG l).1
noncomputable abbrev codeOf (fn:Func):Code:=fn.body.getD .skip
abbrev ii (n:Int):Value:=.int .i64 n
noncomputable abbrev run (w:World) (o:Opt) (f nt:Nat) (ks:List Kp) (st st':St Dx):Option (Xt×List Prop):=clE (W0 w) (TY o) (zB (Sx true w.heap.size) (TY o) 300 30).1 (zB (Sx true w.heap.size) (TY o) 300 30).2 nt f false 300 (UJ ks) st st'
noncomputable abbrev runR (w:World) (o:Opt) (f nt:Nat) (fn:Func) (ks:List Kp) (st:St Dx) (ps:List (Pat Dx)):Option (Xt×List Prop):=UZ (W0 w) (TY o) (zB (Sx true w.heap.size) (TY o) 300 30).1 (zB (Sx true w.heap.size) (TY o) 300 30).2 nt f false 300 (UJ ks) fn.results.toList st ps
abbrev cU : Prop := ∀ (f : Nat) (fn : Func), Tryz.prog.funcs[f]? = some fn → (fn.name == "runtime.NumGoroutine") = false
end Pe
namespace Pe
def stA (args:List (Pat Dx)):St Dx:=match Er Dx.n 0 args with
 |some (xs,ws,n0)=>⟨n0,Je 0 (uB xs),ws,[]⟩
 |none=>⟨0,[],[],[]⟩
def lenA (args:List (Pat Dx)) (n:Nat):Bool:=match Er Dx.n 0 args with
 |some (xs,_,_)=>Nat.ble (uB xs).length n
 |none=>false
theorem ym {w:World}(hG:Gr w) (hN:cU) {ex:List (Nat×Con)}(hE:zv true w.heap.size w ex) {f:FuncId}{fn:Func}{c:Code}(hfn:Tryz.prog.funcs[f]?=some fn) (hbody:fn.body=some c) {args:List (Pat Dx)}(hm:lenA args fn.ntmps=true)
 {vs:List Value} (hp:jb (W0 w) w args vs) {ps:List (Pat Dx)} (hwp:(∀ o:Opt,o.ex=ex->zt (W0 w) (TY o))->∀ a,At (W0 w) fn.ntmps (stA args) a w->after Fence.wide 0 Tryz.prog [.code c] (Ret (W0 w) fn (Res (W0 w) ps)) .normal a w) :
 Enters Tryz.prog f/\Calls Tryz.prog f vs.toArray w (fun en w'=>∃ v,en=.returned v/\Res (W0 w) ps v w'):=by
 unfold lenA at hm;split at hm
 ·rename_i xs ws n0 h0;refine fn_ok hG hN hE hfn hbody h0 hm hp (fun hR a hA=>hwp hR a ?_);unfold stA;rw[h0];exact hA
 ·cases hm
abbrev Says (f:Nat) (args:List (Pat Dx)) (ps:Nat->List (Pat Dx)):Prop:=∀ w vs,Gr w->jb (W0 w) w args vs->Enters Tryz.prog f/\Calls Tryz.prog f vs.toArray w (fun en w'=>∃ v,en=.returned v/\Res (W0 w) (ps w.heap.size) v w')
section
variable {lo:Nat}{w0:World}{f:Nat}{args:List (Pat Dx)}
theorem Says.ent {ps:Nat->List (Pat Dx)}(h:Says f args ps) (hG:Gr w0) (hlo:lo<=w0.heap.size) (hE:Enters Tryz.prog f) (hsub:∀ hi,lo<=hi->∃ ob,yd (Cx true lo w0) (ps lo) (ps hi)=some ob/\jE ob):jG (Cx true lo w0) (.call f) args (Cd (ps lo)):=cjW hG hlo ps hsub h hE
theorem Says.val {v:Value}(h:Says f args (fun _=>[.one (.lit v)])) (hG:Gr w0) (hlo:lo<=w0.heap.size) (hE:Enters Tryz.prog f):jG (Cx true lo w0) (.call f) args (vr v) :=
 h.ent hG hlo hE (fun _ _=>⟨_,rfl,rfl,trivial⟩)
end
abbrev R2:=Rat×Rat
abbrev fQ (x:R2):List (Grp Dx):=[.cls (.q x.1 4),.cls (.q x.2 4)]
abbrev fR (x:R2):List (Grp Dx):=[.cls (.rq x.1 4),.cls (.rq x.2 4)]
abbrev pQ (r:Rat) (k:Nat):Pat Dx:=.agg [.cls (.q r k)]
abbrev pR (r:Rat) (k:Nat):Pat Dx:=.agg [.cls (.rq r k)]
abbrev pI (i:Int):Pat Dx:=.one (.lit (.int .i64 i))
abbrev pF (f:Nat):Pat Dx:=.one (.lit (.func (.func f) #[] #[]))
abbrev rB (b:Bool):List (Pat Dx):=[.one (.lit (.bool b))]
abbrev rI (i:Int):List (Pat Dx):=[.one (.lit (.int .i64 i))]
abbrev sD (w:World) (d:Dx):Prop:=jq (W0 w) d d
abbrev sG (w:World) (n:Nat) (g:Nat->List (Grp Dx)):Prop:=∀ j,j<n->jW (W0 w) (g j) (g j)
abbrev sN (w:World) (n:Nat) (g:Nat->List (Grp Dx)) (x:List (Grp Dx)):Prop:=∀ j,j<n+1->jW (W0 w) (g j) (cdO n g (fun _=>x) j)
abbrev eA {α:Type}(a:α):Prop:=a=a
abbrev zV:List Prop:=[Value.bool false=Value.bool false,Value.int .u64 0=Value.int .u64 0,Value.int .u64 0=Value.int .u64 0,Value.pointer none=Value.pointer none]
theorem cC (n:Nat):Int.ofNat n=(n:Int):=rfl
theorem WW {b:Bool}{lo:Nat}{w0:World}{r s:Rat}(h1:r=0) (h2:s=0):jW (Cx b lo w0) [.cls (.q r 1),.cls (.q s 1)] [.lit (.bool false),.lit (.int .u64 0),.lit (.int .u64 0),.lit (.pointer none),.lit (.bool false),.lit (.int .u64 0),.lit (.int .u64 0),.lit (.pointer none)]:=by
 intro w vs hv;subst h1;subst h2;obtain⟨xs,ys,rfl,h3,h4⟩:=KP (b:=b) (lo:=lo) (w0:=w0) (gs':=[.lit (.bool false),.lit (.int .u64 0),.lit (.int .u64 0),.lit (.pointer none)]) (r:=0) (k:=1) rfl hv;obtain⟨xs',ys',rfl,h5,h6⟩:=KP (b:=b) (lo:=lo) (w0:=w0) (gs':=[]) (r:=0) (k:=1) rfl h4;rw[show ys'=[] from h6];exact YG (.cls h3 (.cls h5 .nil))
section
variable {w w1:World}{o:Opt}{f nt:Nat}{ks:List Kp}{st st':St Dx}{x:Xt}{ob:List Prop}{a:Act}{Q:Exit->Act->World->Prop}
theorem jT (h:run w o f nt ks st st'=some (x,ob)) (hR:zt (W0 w) (TY o)) (hA:At (W0 w) nt st a w1) (hQ:∀ a' w',At (W0 w) nt st' a' w'->after Fence.wide 0 (W0 w).P (caF ks) Q x.to a' w') (ho:jE ob:=by (repeat' (first|exact trivial|apply And.intro))<;>first|exact jq.refl _ _|exact fun _ _=>jW.refl _ _|exact cD rfl|exact cD (by assumption)|exact cL _ _|exact cM _ _|(with_reducible assumption)|omega|with_reducible rfl|(simp only[cC];omega)|(intro j hj;exact absurd hj (cH _))|exact Kg rfl (by omega)|exact CK rfl (by omega)|exact Kg (by assumption) (by omega)|exact CK (by assumption) (by omega)|exact GM rfl (by omega)|exact WW rfl rfl|exact cF rfl|exact cF (by omega)|assumption|rfl):after Fence.wide 0 (W0 w).P ks Q .normal a w1:=cgF hR (.inl rfl) (fun _=>rfl) h ho hA hQ
theorem kj {fn:Func}{ps:List (Pat Dx)}(h:runR w o f nt fn ks st ps=some (.ret,ob)) (hR:zt (W0 w) (TY o)) (hA:At (W0 w) nt st a w1) (ho:jE ob:=by (repeat' (first|exact trivial|apply And.intro))<;>first|exact jq.refl _ _|exact fun _ _=>jW.refl _ _|exact cD rfl|exact cD (by assumption)|exact cL _ _|exact cM _ _|(with_reducible assumption)|omega|with_reducible rfl|(simp only[cC];omega)|(intro j hj;exact absurd hj (cH _))|exact Kg rfl (by omega)|exact CK rfl (by omega)|exact Kg (by assumption) (by omega)|exact CK (by assumption) (by omega)|exact GM rfl (by omega)|exact WW rfl rfl|exact cF rfl|exact cF (by omega)|assumption|rfl) (hQ:∀ a' w',Ret (W0 w) fn (Res (W0 w) ps) .ret a' w'->Q .ret a' w':=by exact fun _ _ h=>h):after Fence.wide 0 (W0 w).P ks Q .normal a w1:=cfO hR (.inl rfl) (fun _=>rfl) h ho hA hQ
end
theorem sub_ext {C:Ctx Dx}{b:Bool}{lo:Nat}{w0:World}(hC:C=Cx b lo w0) {L L':Lt Dx}(h1:L'.lo<=L.lo) (h2:L'.ty=L.ty) (h3:L'.z=L.z) (h4:L'.n=L.n) (h5:∀ j,j<L.n->L'.g j=L.g j):jq C (.ls L') (.ls L):=by
 subst hC;intro w l hl;have hl:DIs w (.ls L) l:=hl;show DIs w (.ls L') l;obtain⟨lo',ty',z',n',g'⟩:=L';obtain⟨lo1,ty1,z1,n1,g1⟩:=L;simp only at h1 h2 h3 h4 h5;subst h2;subst h3;subst h4;cases hl with
 |nil h=>exact .nil h
 |ls k o c arr pre vs rest q2 q3 q4 q5 q6 q7 q8 q9=>exact .ls k o c arr pre vs rest q2 q3 q4 q5 q6 (cA h1 q7) q8 (fun j hj=>by rw[show (Lt.mk lo' ty' z' n' g').g j=g1 j from h5 j hj];exact q9 j hj)
theorem ckx {b:Bool}{lo:Nat}{w0:World}{α β:Type}[Inhabited α] [Inhabited β] {a ty z:Nat}{xs:List α}{h:α->β}{f:α->List (Grp Dx)}{f':β->List (Grp Dx)}(hf:∀ x,f' (h x)=f x):jq (Cx b lo w0) (.ls (lst a ty z (xs.map h) f')) (.ls (lst a ty z xs f)):=by
 refine sub_ext rfl (cb _) rfl rfl (by simp [lst]) (fun j hj=>?_);have hj:j<xs.length:=hj;show f' ((xs.map h).getD j default)=f (xs.getD j default);rw[← hf,yR,yR,JF,kb hj];rfl
end Pe
namespace Pe
def ixP (n:Nat) (p:Nat->Bool):Int:=match (List.range n).find? p with
 |some i=>(i:Int)
 |none=>-1
def anyP (n:Nat) (p:Nat->Bool):Bool:=(List.range n).any p
section
variable {n:Nat}{p:Nat->Bool}
theorem cpo {i:Nat}(hi:i<n) (h:p i=true) (hb:∀ k,k<i->p k=false):ixP n p=(i:Int):=by
 have:(List.range n).find? p=some i:=by
  rw[List.find?_range_eq_some];exact⟨h,List.mem_range.2 hi,fun j hj=>by simp [hb j hj]⟩
 unfold ixP;rw[this]
theorem coA (h:∀ i,i<n->p i=false):ixP n p=-1:=by
 have:(List.range n).find? p=none:=by
  rw[List.find?_eq_none];intro i hi;rw[h i (List.mem_range.1 hi)];exact ccj
 unfold ixP;rw[this]
theorem ixP_ge:decide (ixP n p>=0)=anyP n p:=by
 unfold ixP anyP;split
 ·rename_i i h;have h1:=List.find?_some h;have h2:=List.mem_of_find?_eq_some h;rw[List.any_eq_true.2 ⟨i,h2,h1⟩];exact cF (by omega)
 ·rename_i h;rw[List.find?_eq_none] at h;rw[List.any_eq_false.2 h];rfl
theorem ZG {i:Nat}(hi:i<n) (h:p i=true):anyP n p=true:=List.any_eq_true.2 ⟨i,List.mem_range.2 hi,h⟩
theorem Ub (h:∀ i,i<n->p i=false):anyP n p=false:=List.any_eq_false.2 fun i hi=>by rw[h i (List.mem_range.1 hi)];exact ccj
end
abbrev pS (r:Rat) (j:Nat) (s:Rat) (k:Nat):Pat Dx:=.agg [.cls (.q r j),.cls (.q s k)]
theorem zZ {r s:Rat}:jk r s>0↔s<r:=by
 unfold jk;by_cases h:r<s
 ·rw[co h];exact⟨fun x=>absurd x (by decide),fun x=>absurd x (by grind)⟩
 ·rw[cg h];by_cases h2:s<r
  ·rw[co h2];exact⟨fun _=>h2,fun _=>by decide⟩
  ·rw[cg h2];exact⟨fun x=>absurd x (by decide),fun x=>absurd x h2⟩
abbrev E2:=Tx×Tx
abbrev fE (x:E2):List (Grp Dx):=[.lit (str x.1),.lit (str x.2)]
abbrev fT (t:Tx):List (Grp Dx):=[.lit (str t)]
theorem mapD {α β:Type}[Inhabited α] [Inhabited β] {xs:List α}{f:α->β}{i:Nat}(h:i<xs.length):(xs.map f).getD i default=f (xs.getD i default):=by
 rw[yR,JF,yR,kb h];rfl
theorem Zb {n:Nat}{p:Nat->Bool}(h:anyP n p=false) {i:Nat}(hi:i<n):p i=false:=by
 unfold anyP at h;exact Bool.eq_false_iff.2 (List.any_eq_false.1 h i (List.mem_range.2 hi))
theorem sign_nn {r:Rat}(h:¬ yK r<0):0<=r:=by
 rw[clL] at h;split at h
 ·exact absurd (by decide) h
 ·rename_i h1;exact Rat.not_lt.1 h1
end Pe
namespace Pe
theorem clt {r s:Rat}:jk r s<0↔r<s:=by
 unfold jk;by_cases h:r<s
 ·rw[co h];exact⟨fun _=>h,fun _=>by decide⟩
 ·rw[cg h];by_cases h2:s<r
  ·rw[co h2];exact⟨fun x=>absurd x (by decide),fun x=>absurd x h⟩
  ·rw[cg h2];exact⟨fun x=>absurd x (by decide),fun x=>absurd x h⟩
theorem cle {r s:Rat}:jk r s<=0↔r<=s:=cgI
def okSp (a b:Rat):Bool:=!(decide (yK a<0))&&decide (jk a b<=0)
theorem cgD {a b:Rat}:okSp a b=true↔0<=a/\a<=b:=by
 unfold okSp;rw[EL,Bool.not_eq_true',Zk,Ju,cle];refine and_congr ⟨sign_nn,fun h h1=>?_⟩ Iff.rfl;rw[clL] at h1;split at h1
 ·rename_i h2;grind
 ·split at h1<;>exact absurd h1 (by decide)
theorem gD_is {α:Type}[Inhabited α] {L:List α}{i:Nat}(h:i<L.length):L.getD i default=L[i]:=by
 rw[yR,kb h];rfl
end Pe
namespace Pe
theorem Eb {w:World}{ex:List (Nat×Con)}(hG:Gr w) (hN:cU) (hE:zv true w.heap.size w ex):∀ o:Opt,o.ex=ex->zt (W0 w) (TY o):=fun _ ho=>ZL (cb _) hG hN (by rw[ho];exact hE)
def conSo:Con
 |[p]=>match spOf p with
  |some ((a,j),(b,k))=>ck false (a<=b/\j<=1000000/\k<=1000000) (sr a j b k)
  |none=>none
 |_=>none
theorem low_le {a b:Rat}(h:a<=b):Ej a [b]=a:=by
 show (if b<a then b else a)=a;rw[cg (Rat.not_lt.2 h)]
theorem cll {a b:Rat}(h:a<=b):yN a [b]=b:=by
 show (if a<b then b else a)=b;by_cases h1:a<b
 ·rw[co h1]
 ·rw[cg h1];exact Rat.le_antisymm h (Rat.not_lt.1 h1)
theorem cow {bb:Bool}{lo:Nat}{w0:World}:∀ l r ob,conSo l=some (r,ob)->jE ob->jG (Cx bb lo w0) (.call 56) l r:=by
 intro l res ob h ho;unfold conSo at h;split at h
 ·split at h
  ·rename_i p a j b k hq;obtain⟨⟨hk,hj,hk'⟩,rfl⟩:=Ug h ho;refine⟨cY Tryz.func56 (by kernel_rfl) rfl,fun w vs hb hvs=>?_⟩;obtain⟨v,_,rfl,h1,rfl⟩:=hvs;obtain⟨h1,z1,z2⟩:=ckm hq h1;refine(ccm v a b (j+k) w h1 (z1.le (by omega)) (z2.le (by omega)) (by omega)).mono fun _ _ h=>?_;rw[low_le hk,cll hk] at h;exact res_s z1 z2 h
  ·cases h
 ·cases h
def ciV:Con
 |[.agg [.cls (.q r _)]]=>some (vr (.bool (decide (yK r<0))),[])
 |_=>none
def conVa:Con
 |[.agg [.cls (.q a j),.cls (.q b k)]]=>some (vr (.bool (okSp a b)),[j+k<=10000])
 |_=>none
end Pe
namespace Pe
noncomputable def klong5_:List Kp:=[.code (codeOf Tryz.f5)]
noncomputable def klong5_n:List Kp:=next klong5_
noncomputable def klong5_nl:List Kp:=[.code (yE klong5_n)]
noncomputable def klong5_nt:List Kp:=klong5_n.tail
def txts:List (Grp Dx)->Option (List Tx)
 |[]=>some []
 |.lit (.string ⟨⟨l⟩⟩)::r=>match txts r with
  |some T=>some (l::T)
  |none=>none
 |_=>none
theorem ckX:∀ {gs:List (Grp Dx)}{T:List Tx},txts gs=some T->gs=T.map (fun t=>.lit (str t))
 |[],T,h=>by simp [txts] at h;subst h;rfl
 |g::r,T,h=>by
  unfold txts at h;split at h
  ·rename_i he;cases he
  ·rename_i l r' he;injection he with he1 he2;subst he1;subst he2
   split at h
   ·rename_i T' hT;injection h with h;subst h
    rw[ckX hT];rfl
   ·cases h
  ·cases h
theorem cgV {C:Ctx Dx}{w:World}:∀ {T:List Tx}{vs:List Value},cO C w (T.map (fun t=>Grp.lit (str t))) vs->vs=T.map str
 |[],vs,h=>h
 |t::T,vs,h=>by
  obtain⟨h1,h2⟩:=h;have h1:vs.take 1=[str t]:=h1;have h2:=cgV (T:=T) h2;cases vs with
  |nil=>cases h1
  |cons v vs =>
   injection h1 with h1 _
   subst h1;show str t::vs=str t::T.map str;rw[show vs=T.map str from h2]
theorem slc_txt {lo lo' ty n:Nat}{w0 w0' w:World}{T:List Tx}{v:Value}(h:Pat.is (Cx true lo w0) w (.slc ty n (T.map (fun t=>Grp.lit (str t)))) v) (hn:n=T.length):Pat.is (Cx true lo' w0') w (.one (.cls (.ls (lst 0 ty 1 T fT)))) v:=by
 obtain⟨k,o,c,arr,pre,vs,rest,rfl,h1,h2,h3,h4,h5⟩:=h;obtain rfl:=cgV h4;subst hn;refine DIs.ls k o c arr pre _ rest h5 ⟨_,h1⟩ h2 h3 (by simp [lst]) (ju _) (fun v hv=>?_) (fun j hj=>?_)
 ·obtain⟨t,_,rfl⟩:=List.mem_map.1 hv;rfl
 ·have hj:j<T.length:=hj;have e:((T.map str).drop (j*1)).take 1=[str (T.getD j default)]:=by
   rw[Cm,KM (by simpa using hj),Ya,List.take_zero,List.getElem_map,gD_is hj]
  show GsI w (fT (T.getD j default)) (((T.map str).drop (j*1)).take 1);rw[e];exact .lit .nil
def lgB (T:List Tx):Bool:=anyP T.length (fun i=>decide (((T.getD i default).length:Int)>30))
abbrev pTx (lo:Nat) (T:List Tx):Pat Dx:=.one (.cls (.ls (lst lo 9 1 T fT)))
abbrev lgI (lo:Nat) (T:List Tx) (i:Nat):St Dx:=⟨1,[(0,.val (.one (.sym 0 0))),(3,.val (.one (.lit (ii (i:Int)))))],[(0,.cls (.ls (lst lo 9 1 T fT)))],[]⟩
theorem lga {w:World}(lo:Nat) (T:List Tx):run w ⟨[],[],[]⟩ 5 16 klong5_ (stA [pTx lo T]) (lgI lo T 0)=some (.normal,[sD w (.ls (lst lo 9 1 T fT)),ii (↑0:Int)=Value.int IntKind.i64 0]):=by kernel_rfl
theorem lge {w:World}(lo:Nat) (T:List Tx) (i:Nat):runR w ⟨[],[],[]⟩ 5 16 Tryz.f5 klong5_nt (lgI lo T i) (rB false)=some (.ret,[eA (Value.bool false)]):=by kernel_rfl
noncomputable abbrev lgbTe0 (w:World) (l0:Nat) (T:List Tx) (i:Nat) (o:List (Nat×Nat×Bool)):=run w ⟨o,[],[]⟩ 5 16 klong5_nl (lgI l0 T i) (lgI l0 T i)
noncomputable abbrev lgbTnal (w:World) (l0:Nat) (T:List Tx) (i:Nat) (o:List (Nat×Nat×Bool)):=run w ⟨o,[],[]⟩ 5 16 klong5_nl (lgI l0 T i) (lgI l0 T (i+1))
noncomputable abbrev lgbR (w:World) (l0:Nat) (T:List Tx) (i:Nat) (o:List (Nat×Nat×Bool)):=runR w ⟨o,[],[]⟩ 5 16 Tryz.f5 klong5_nl (lgI l0 T i) (rB (lgB T))
theorem lgb0 {w:World}(l0:Nat) (T:List Tx) (i:Nat):lgbR w l0 T i [(5,7,true),(5,15,true)]=some (.ret,[decide ((i:Int)<(T.length:Int))=true,i<T.length,i<T.length,decide ((↑(T.getD i default).length:Int)>30)=true,Value.bool (lgB T)=Value.bool true]):=by kernel_rfl
theorem lgb1 {w:World}(l0:Nat) (T:List Tx) (i:Nat):lgbTnal w l0 T i [(5,7,true),(5,15,false)]=some (.normal,[decide ((i:Int)<(T.length:Int))=true,i<T.length,i<T.length,decide ((↑(T.getD i default).length:Int)>30)=false,Gd ((i:Int)+1),sD w (.ls (lst l0 9 1 T fT)),ii (↑(i+1):Int)=Value.int IntKind.i64 ((i:Int)+1)]):=by kernel_rfl
theorem lgb2 {w:World}(l0:Nat) (T:List Tx) (i:Nat):lgbTe0 w l0 T i [(5,7,false)]=some (.exit 0,[decide ((i:Int)<(T.length:Int))=false,sD w (.ls (lst l0 9 1 T fT)),eA (ii (i:Int))]):=by kernel_rfl
theorem cnD (hN:cU) (l0:Nat) (T:List Tx) (hl:T.length<=1000000):Says 5 [pTx l0 T] (fun _=>rB (lgB T)):=by
 intro w vs hG hp;refine ym hG hN (ex:=[]) kg (fn:=Tryz.f5) Tryz.func5 (c:=codeOf Tryz.f5) (by kernel_rfl) (args:=[pTx l0 T]) (by kernel_rfl) hp (fun hR _ hA=>?_);refine jT (lga l0 T) (hR _ rfl) hA (fun a1 w1 hA=>yu ?_);refine Ct (fun i=>lgI l0 T i) (fun i=>i<=T.length/\∀ k,k<i->decide (((T.getD k default).length:Int)>30)=false) (fun i=>T.length-i) (L:=klong5_n) (ks:=klong5_nt) (id:=0) (c:=yE klong5_n) (by kernel_rfl) 0 ⟨ju _,by omega⟩ hA (fun i a2 w2 hi hA=>?_);rcases jA (decide ((i:Int)<(T.length:Int))) with q7|q7
 ·skip
  have p7:=jh q7;rcases jA (decide (((T.getD i default).length:Int)>30)) with q15|q15
  ·skip
   have p15:=jh q15;have e0:=cQ Value.bool (show lgB T=true from ZG (by omega) q15);refine kj (lgb0 l0 T i) (hR _ rfl) hA (by (repeat' (first|exact trivial|apply And.intro))<;>first|exact jq.refl _ _|exact fun _ _=>jW.refl _ _|exact cD rfl|exact cL _ _|exact cM _ _|(with_reducible assumption)|omega|with_reducible rfl|(simp only[cC];omega)|(intro j hj;exact absurd hj (cH _))|exact e0|exact e0.symm|exact q15|rfl)
  ·skip
   have p15:=jn q15;refine jT (lgb1 l0 T i) (hR _ rfl) hA (fun aT wT hT=>?_) (by (repeat' (first|exact trivial|apply And.intro))<;>first|exact jq.refl _ _|exact fun _ _=>jW.refl _ _|exact cD rfl|exact cL _ _|exact cM _ _|(with_reducible assumption)|omega|with_reducible rfl|(simp only[cC];omega)|(intro j hj;exact absurd hj (cH _))|exact e0|exact e0.symm|exact q15|rfl);exact jX (by kernel_rfl) ⟨i+1,⟨by omega,fun k hk=>by rcases Nat.lt_succ_iff_lt_or_eq.1 hk with h|rfl;exact hi.2 k h;exact q15⟩,hT,by omega⟩
 ·skip
  have p7:=jn q7;refine jT (lgb2 l0 T i) (hR _ rfl) hA (fun aT wT hT=>?_) (by (repeat' (first|exact trivial|apply And.intro))<;>first|exact jq.refl _ _|exact fun _ _=>jW.refl _ _|exact cD rfl|exact cL _ _|exact cM _ _|(with_reducible assumption)|omega|with_reducible rfl|(simp only[cC];omega)|(intro j hj;exact absurd hj (cH _))|exact e0|exact e0.symm|exact q15|rfl);refine kO _ (by kernel_rfl) ?_;have e1:lgB T=false:=Ub (fun k hk=>hi.2 k (by omega));rw[e1];exact kj (lge l0 T i) (hR _ rfl) hT
def cki:Con
 |[.slc 9 n gs]=>match txts gs with
  |some T=>some (vr (.bool (lgB T)),[n=T.length,T.length<=1000000])
  |none=>none
 |_=>none
theorem ccW {C:Ctx Dx}{f:Nat}{args args':List (Pat Dx)}{res:jH Dx}(h:jG C (.call f) args res) (hi:∀ w vs,jb C w args' vs->jb C w args vs):jG C (.call f) args' res :=
 ⟨h.1,fun w vs hb hv=>h.2 w vs hb (hi w vs hv)⟩
theorem chL {lo:Nat}{w0:World}(hN:cU) (hG:Gr w0) (hlo:lo<=w0.heap.size):∀ l r ob,cki l=some (r,ob)->jE ob->jG (Cx true lo w0) (.call 5) l r:=by
 intro l r ob h ho;unfold cki at h;split at h
 ·rename_i n gs;split at h
  ·rename_i T hT;injection h with h;injection h with h1 h2;subst h1;subst h2
   obtain⟨hn,hl,_⟩:=ho;obtain rfl:=ckX hT;refine ccW ((cnD hN 0 T hl).val hG hlo (cY Tryz.func5 (by kernel_rfl) rfl)) (fun w vs hv=>?_);obtain⟨v,ws,rfl,h1,h2⟩:=hv;exact⟨v,ws,rfl,slc_txt h1 hn,h2⟩
  ·cases h
 ·cases h
end Pe
namespace Pe
noncomputable def kSize21_:List Kp:=[.code (codeOf Tryz.f21)]
noncomputable def kspan7_:List Kp:=[.code (codeOf Tryz.f7)]
abbrev pEn (a b:Tx):Pat Dx:=.agg [.lit (str a),.lit (str b)]
abbrev pRS (r s:Rat):Pat Dx:=.agg [.cls (.rq r 4),.cls (.rq s 4)]
def conSz:Con
 |[.agg [.cls (.rq r j)],.agg [.cls (.rq s k)]]=>some (vr (.bool (okSp r s)),[j+k<=10000])
 |_=>none
theorem cjR (a:Rat):decide (yK a>=0)=!decide (yK a<0):=by
 by_cases h:yK a<0
 ·rw[cF h,cK (by omega)];rfl
 ·rw[cK h,cF (by omega)];rfl
noncomputable abbrev szcR (w:World) (a b:Rat) (j k:Nat)  (o:List (Nat×Nat×Bool)):=runR w ⟨o,[],[]⟩ 21 14 Tryz.f21 kSize21_ (stA [pR a j,pR b k]) (rB (okSp a b))
theorem szc0 {w:World}(a b:Rat) (j k:Nat):szcR w a b j k [(21,7,true),(21,12,true)]=some (.ret,[decide (yK a>=0)=true,j+k<=10000,decide (jk a b<=0)=true,Value.bool (okSp a b)=Value.bool true]):=by kernel_rfl
theorem szc1 {w:World}(a b:Rat) (j k:Nat):szcR w a b j k [(21,7,true),(21,12,false)]=some (.ret,[decide (yK a>=0)=true,j+k<=10000,decide (jk a b<=0)=false,Value.bool (okSp a b)=Value.bool false]):=by kernel_rfl
theorem szc2 {w:World}(a b:Rat) (j k:Nat):szcR w a b j k [(21,7,false)]=some (.ret,[decide (yK a>=0)=false,Value.bool (okSp a b)=Value.bool false]):=by kernel_rfl
theorem sz_ok (hN:cU) (a b:Rat) (j k:Nat) (hj:j+k<=10000):Says 21 [pR a j,pR b k] (fun _=>rB (okSp a b)):=by
 intro w vs hG hp;refine ym hG hN (ex:=[]) kg (fn:=Tryz.f21) Tryz.func21 (c:=codeOf Tryz.f21) (by kernel_rfl) (args:=[pR a j,pR b k]) (by kernel_rfl) hp (fun hR _ hA=>?_);rcases jA (decide (yK a>=0)) with q7|q7
 ·skip
  have p7:=jh q7;rcases jA (decide (jk a b<=0)) with q12|q12
  ·skip
   have p12:=jh q12;refine kj (szc0 a b j k) (hR _ rfl) hA (by (repeat' (first|exact trivial|apply And.intro))<;>first|exact jq.refl _ _|exact fun _ _=>jW.refl _ _|exact cD rfl|exact cL _ _|exact cM _ _|(with_reducible assumption)|omega|with_reducible rfl|(simp only[cC];omega)|(intro j hj;exact absurd hj (cH _))|exact cQ Value.bool (by unfold okSp;rw[← cjR,q7];first|rfl|(rw[q12];rfl))|rfl)
  ·skip
   have p12:=jn q12;refine kj (szc1 a b j k) (hR _ rfl) hA (by (repeat' (first|exact trivial|apply And.intro))<;>first|exact jq.refl _ _|exact fun _ _=>jW.refl _ _|exact cD rfl|exact cL _ _|exact cM _ _|(with_reducible assumption)|omega|with_reducible rfl|(simp only[cC];omega)|(intro j hj;exact absurd hj (cH _))|exact cQ Value.bool (by unfold okSp;rw[← cjR,q7];first|rfl|(rw[q12];rfl))|rfl)
 ·skip
  have p7:=jn q7;refine kj (szc2 a b j k) (hR _ rfl) hA (by (repeat' (first|exact trivial|apply And.intro))<;>first|exact jq.refl _ _|exact fun _ _=>jW.refl _ _|exact cD rfl|exact cL _ _|exact cM _ _|(with_reducible assumption)|omega|with_reducible rfl|(simp only[cC];omega)|(intro j hj;exact absurd hj (cH _))|exact cQ Value.bool (by unfold okSp;rw[← cjR,q7];first|rfl|(rw[q12];rfl))|rfl)
theorem coI {lo:Nat}{w0:World}(hN:cU) (hG:Gr w0) (hlo:lo<=w0.heap.size):∀ l r ob,conSz l=some (r,ob)->jE ob->jG (Cx true lo w0) (.call 21) l r:=by
 intro l r ob h ho;unfold conSz at h;split at h
 ·injection h with h;injection h with h1 h2;subst h1;subst h2
  exact(sz_ok hN _ _ _ _ ho.1).val hG hlo (cY Tryz.func21 (by kernel_rfl) rfl)
 ·cases h
abbrev exSz:List (Nat×Con):=[(21,conSz)]
noncomputable abbrev spaR (w:World) (a b:Tx)   (o:List (Nat×Nat×Bool)):=runR w ⟨o,[],exSz⟩ 7 26 Tryz.f7 kspan7_ (stA [pEn a b]) [pS (nq a) 4 (nq b) 4,pRS (nq a) (nq b),.one (.lit (.bool (okSp (nq a) (nq b))))]
theorem spa0 {w:World}(a b:Tx):spaR w a b []=some (.ret,[List.length a<=60,List.length b<=60,List.length a<=60,List.length b<=60,4+4<=10000,jq (W0 w) (.q (nq a) 4) (.q (kG a).1 4),jq (W0 w) (.q (nq b) 4) (.q (kG b).1 4),jq (W0 w) (.rq (nq a) 4) (.rq (kG a).1 4),jq (W0 w) (.rq (nq b) 4) (.rq (kG b).1 4),Value.bool (okSp (nq a) (nq b))=Value.bool (okSp (kG a).1 (kG b).1),kE (W0 w) (.q (nq a) 4),kE (W0 w) (.q (nq b) 4),kE (W0 w) (.rq (nq a) 4),kE (W0 w) (.rq (nq b) 4)]):=by kernel_rfl
theorem span_ok (hN:cU) (a b:Tx) (ha:a.length<=60) (hb:b.length<=60):Says 7 [pEn a b] (fun _=>[pS (nq a) 4 (nq b) 4,pRS (nq a) (nq b),.one (.lit (.bool (okSp (nq a) (nq b))))]):=by
 intro w vs hG hp;refine ym hG hN (ex:=exSz) (jg (coI hN hG (cb _)) kg) (fn:=Tryz.f7) Tryz.func7 (c:=codeOf Tryz.f7) (by kernel_rfl) (args:=[pEn a b]) (by kernel_rfl) hp (fun hR _ hA=>?_);refine kj (spa0 a b) (hR _ rfl) hA
theorem chl {lo:Nat}{w0:World}{a b:Tx}(hN:cU) (hG:Gr w0) (hlo:lo<=w0.heap.size) (ha:a.length<=60) (hb:b.length<=60):jG (Cx true lo w0) (.call 7) [pEn a b] (Cd [pS (nq a) 4 (nq b) 4,pRS (nq a) (nq b),.one (.lit (.bool (okSp (nq a) (nq b))))]) :=
 (span_ok hN a b ha hb).ent hG hlo (cY Tryz.func7 (by kernel_rfl) rfl) (fun _ _=>⟨_,rfl,jq.refl _ _,jq.refl _ _,jq.refl _ _,jq.refl _ _,rfl,trivial⟩)
theorem cgr {T:List Tx}(h:lgB T=false):∀ t∈T,t.length<=30:=by
 intro t ht;obtain⟨i,hi,rfl⟩:=List.mem_iff_getElem.1 ht;have:=jn (Zb h hi);rw[gD_is hi] at this;omega
end Pe
namespace Pe
def kL (s:R2) (x:Rat):Bool:=decide (s.1<=x)&&decide (x<=s.2)
theorem Cq {s:R2}{x:Rat}:kL s x=true↔s.1<=x/\x<=s.2:=by unfold kL;simp
def mx (a c:Rat):Rat:=if a<c then c else a
def mn (b d:Rat):Rat:=if d<b then d else b
def uS (L:List R2) (x:Rat):Nat->List Nat
 |0=>[]
 |n+1=>if kL (L.getD n default) x then uS L x n++[n] else uS L x n
def zS (e:R2) (L:List R2) (x:Rat):Nat->R2
 |0=>e
 |n+1=>if kL (L.getD n default) x then (mx (zS e L x n).1 (L.getD n default).1,mn (zS e L x n).2 (L.getD n default).2) else zS e L x n
section
variable {e:R2}{L:List R2}{x y:Rat}
theorem mem_u:∀ {n i:Nat},i∈uS L x n↔i<n/\kL (L.getD i default) x=true
 |0,i=>by simp [uS]
 |n+1,i=>by
  have h:=mem_u (n:=n) (i:=i);unfold uS;split
  ·rename_i hh;rw[List.mem_append,h,List.mem_singleton];constructor
   ·rintro(⟨h1,h2⟩|rfl)
    ·exact⟨by omega,h2⟩
    ·exact⟨by omega,hh⟩
   ·rintro⟨h1,h2⟩;rcases Nat.lt_succ_iff_lt_or_eq.1 h1 with h3|rfl
    ·exact .inl ⟨h3,h2⟩
    ·exact .inr rfl
  ·rename_i hh;rw[h];constructor
   ·rintro⟨h1,h2⟩;exact⟨by omega,h2⟩
   ·rintro⟨h1,h2⟩;rcases Nat.lt_succ_iff_lt_or_eq.1 h1 with h3|rfl
    ·exact⟨h3,h2⟩
    ·exact absurd h2 hh
theorem u_len:∀ n,(uS L x n).length<=n
 |0=>by simp [uS]
 |n+1=>by
  have:=u_len n;unfold uS;split
  ·rw[kI];simp;omega
  ·omega
theorem u_sub:∀ n,(∀ i,i<n->kL (L.getD i default) x=true->kL (L.getD i default) y=true)->(uS L x n).length<=(uS L y n).length/\((uS L x n).length=(uS L y n).length->∀ i,i<n->kL (L.getD i default) y=true->kL (L.getD i default) x=true)
 |0,_=>⟨cb _,fun _ i hi=>absurd hi (cH _)⟩
 |n+1,h=>by
  obtain⟨h1,h2⟩:=u_sub n (fun i hi=>h i (by omega));have h3:=h n (by omega);unfold uS;by_cases hx:kL (L.getD n default) x=true
  ·have hy:=h3 hx;rw[co hx,co hy];simp only[kI,Ud];refine⟨by omega,fun he i hi hh=>?_⟩;rcases Nat.lt_succ_iff_lt_or_eq.1 hi with h4|rfl
   ·exact h2 (by omega) i h4 hh
   ·exact hx
  ·rw[cg hx];by_cases hy:kL (L.getD n default) y=true
   ·rw[co hy];simp only[kI,Ud];exact⟨by omega,fun he=>absurd he (by omega)⟩
   ·rw[cg hy];refine⟨h1,fun he i hi hh=>?_⟩;rcases Nat.lt_succ_iff_lt_or_eq.1 hi with h4|rfl
    ·exact h2 he i h4 hh
    ·exact absurd hh hy
theorem z_has (he:kL e y=true):∀ n,(∀ i,i<n->kL (L.getD i default) x=true->kL (L.getD i default) y=true)->kL (zS e L x n) y=true
 |0,_=>he
 |n+1,h=>by
  have h1:=Cq.1 (z_has he n (fun i hi=>h i (by omega)));unfold zS;split
  ·rename_i hh;have h2:=Cq.1 (h n (by omega) hh);refine Cq.2 ⟨?_,?_⟩
   ·show mx _ _<=y;unfold mx;split
    ·exact h2.1
    ·exact h1.1
   ·show y<=mn _ _;unfold mn;split
    ·exact h2.2
    ·exact h1.2
  ·exact Cq.2 h1
theorem z_in:∀ n,e.1<=(zS e L x n).1/\(zS e L x n).2<=e.2/\∀ i,i<n->kL (L.getD i default) x=true->(L.getD i default).1<=(zS e L x n).1/\(zS e L x n).2<=(L.getD i default).2
 |0=>⟨GF,GF,fun i hi=>absurd hi (cH _)⟩
 |n+1=>by
  obtain⟨h1,h2,h3⟩:=z_in n;unfold zS;split
  ·rename_i hh;have a1:(zS e L x n).1<=mx (zS e L x n).1 (L.getD n default).1/\(L.getD n default).1<=mx (zS e L x n).1 (L.getD n default).1:=by unfold mx;split<;>grind
   have a2:mn (zS e L x n).2 (L.getD n default).2<=(zS e L x n).2/\mn (zS e L x n).2 (L.getD n default).2<=(L.getD n default).2:=by unfold mn;split<;>grind
   refine⟨zq h1 a1.1,zq a2.1 h2,fun i hi hx=>?_⟩;rcases Nat.lt_succ_iff_lt_or_eq.1 hi with h4|rfl
   ·exact⟨zq (h3 i h4 hx).1 a1.1,zq a2.1 (h3 i h4 hx).2⟩
   ·exact⟨a1.2,a2.2⟩
  ·rename_i hh;refine⟨h1,h2,fun i hi hx=>?_⟩;rcases Nat.lt_succ_iff_lt_or_eq.1 hi with h4|rfl
   ·exact h3 i h4 hx
   ·exact absurd hx hh
theorem z_le (he:kL e x=true) (n:Nat):(zS e L x n).1<=(zS e L x n).2:=by
 have:=Cq.1 (z_has (L:=L) (x:=x) he n (fun _ _ h=>h));exact zq this.1 this.2
theorem z_yes {n:Nat}(h:kL (L.getD n default) x=true):zS e L x (n+1)=(mx (zS e L x n).1 (L.getD n default).1,mn (zS e L x n).2 (L.getD n default).2):=by rw[zS,co h]
theorem z_no {n:Nat}(h:kL (L.getD n default) x=false):zS e L x (n+1)=zS e L x n:=by rw[zS,cg (by rw[h];exact ccj)]
theorem clJ {n:Nat}(h:kL (L.getD n default) x=true):uS L x (n+1)=uS L x n++[n]:=by rw[uS,co h]
theorem u_no {n:Nat}(h:kL (L.getD n default) x=false):uS L x (n+1)=uS L x n:=by rw[uS,cg (by rw[h];exact ccj)]
theorem u_pre {n:Nat}:∀ k,∃ r,uS L x (n+k)=uS L x n++r
 |0=>⟨[],(ug _).symm⟩
 |k+1=>by
  obtain⟨r,h⟩:=u_pre (n:=n) k;rw[← zO];by_cases hh:kL (L.getD (n+k) default) x=true
  ·exact⟨r++[n+k],by rw[clJ hh,h,uM]⟩
  ·exact⟨r,by rw[u_no (Bool.eq_false_iff.2 hh),h]⟩
theorem u_at {n i:Nat}(hi:i<n) (h:kL (L.getD i default) x=true):(uS L x n).getD (uS L x i).length default=i:=by
 obtain⟨r,hr⟩:=u_pre (L:=L) (x:=x) (n:=i+1) (n-(i+1));rw[show i+1+(n-(i+1))=n by omega,clJ h,uM] at hr;rw[hr,yR,YL (cb _),WF];rfl
abbrev nU (L:List R2) (x:Rat):Nat:=(uS L x L.length).length
abbrev hU (e:R2) (L:List R2) (x:Rat):Rat:=(zS e L x L.length).2
def leA (e:R2) (L:List R2) (y x:Rat):Prop:=nU L y<nU L x\/(nU L y=nU L x/\hU e L y<=hU e L x)
theorem chE:leA e L x x:=.inr ⟨rfl,GF⟩
theorem cew {z:Rat}(h1:leA e L x y) (h2:leA e L y z):leA e L x z:=by
 rcases h1 with h1|⟨h1,h1'⟩<;>rcases h2 with h2|⟨h2,h2'⟩
 ·exact .inl (by omega)
 ·exact .inl (by omega)
 ·exact .inl (by omega)
 ·exact .inr ⟨by omega,zq h1' h2'⟩
def gtA (e:R2) (L:List R2) (y x:Rat):Bool:=decide (nU L x<nU L y)||(decide (nU L x=nU L y)&&decide (hU e L x<hU e L y))
theorem ciq (h:gtA e L y x=true):leA e L x y:=by
 unfold gtA at h;simp only[Wj,EL,Ju] at h;rcases h with h|⟨h1,h2⟩
 ·exact .inl h
 ·exact .inr ⟨h1,Rat.le_of_lt h2⟩
theorem cmB (h:gtA e L y x=false):leA e L y x:=by
 unfold gtA at h;simp only[cgp,Bool.and_eq_false_iff,Zk] at h;obtain⟨h1,h2⟩:=h;by_cases h3:nU L y<nU L x
 ·exact .inl h3
 ·refine .inr ⟨by omega,Rat.not_lt.1 (h2.resolve_left (fun h=>h (by omega)))⟩
structure Yw (e:R2) (L:List R2) (n:Nat) (x:Rat):Prop where
 has:kL e x=true
 top:leA e L e.2 x
 all:∀ i,i<n->kL e (L.getD i default).2=true->leA e L (L.getD i default).2 x
theorem clZ (h:e.1<=e.2):Yw e L 0 e.2:=⟨Cq.2 ⟨h,GF⟩,chE,fun _ hi=>absurd hi (cH _)⟩
theorem Yw.skip {n:Nat}(h:Yw e L n x) (hs:kL e (L.getD n default).2=false):Yw e L (n+1) x :=
 ⟨h.has,h.top,fun i hi hh=>by
  rcases Nat.lt_succ_iff_lt_or_eq.1 hi with h4|rfl
  ·exact h.all i h4 hh
  ·rw[hs] at hh;cases hh⟩
theorem Yw.stay {n:Nat}(h:Yw e L n x) (hs:gtA e L (L.getD n default).2 x=false):Yw e L (n+1) x :=
 ⟨h.has,h.top,fun i hi hh=>by
  rcases Nat.lt_succ_iff_lt_or_eq.1 hi with h4|rfl
  ·exact h.all i h4 hh
  ·exact cmB hs⟩
theorem Yw.go {n:Nat}(h:Yw e L n x) (hs:gtA e L (L.getD n default).2 x=true) (hh:kL e (L.getD n default).2=true):Yw e L (n+1) (L.getD n default).2 :=
 ⟨hh,cew h.top (ciq hs),fun i hi h1=>by
  rcases Nat.lt_succ_iff_lt_or_eq.1 hi with h4|rfl
  ·exact cew (h.all i h4 h1) (ciq hs)
  ·exact chE⟩
theorem Yw.cand (h:Yw e L L.length x) {y:Rat}(hy:kL e y=true) (hc:y=e.2\/∃ i,i<L.length/\y=(L.getD i default).2):leA e L y x:=by
 rcases hc with rfl|⟨i,hi,rfl⟩
 ·exact h.top
 ·exact h.all i hi hy
def kN (e:R2) (L:List R2):Nat->Rat
 |0=>e.2
 |n+1=>if kL e (L.getD n default).2&&gtA e L (L.getD n default).2 (kN e L n) then (L.getD n default).2 else kN e L n
theorem clz (h:e.1<=e.2):∀ n,Yw e L n (kN e L n)
 |0=>clZ h
 |n+1=>by
  have hb:=clz h n;unfold kN;by_cases h1:kL e (L.getD n default).2=true
  ·by_cases h2:gtA e L (L.getD n default).2 (kN e L n)=true
   ·rw[co (by rw[h1,h2];rfl)];exact hb.go h2 h1
   ·rw[cg (by rw[h1];exact h2)];exact hb.stay (Bool.eq_false_iff.2 h2)
  ·rw[cg (by rw[Bool.eq_false_iff.2 h1];exact ccj)];exact hb.skip (Bool.eq_false_iff.2 h1)
theorem cnH {n:Nat}(h:kL e (L.getD n default).2=false):kN e L (n+1)=kN e L n:=by rw[kN,h];rfl
theorem ciQ {n:Nat}(h:gtA e L (L.getD n default).2 (kN e L n)=false):kN e L (n+1)=kN e L n:=by rw[kN,h,Bool.and_false];rfl
theorem cnW {n:Nat}(h1:kL e (L.getD n default).2=true) (h:gtA e L (L.getD n default).2 (kN e L n)=true):kN e L (n+1)=(L.getD n default).2:=by rw[kN,h,h1];rfl
end
end Pe
namespace Pe.F
noncomputable def TY (o:Opt):FuncId->Tab Dx:=fun fid d h=>match h with
 |.call f=>match (match find f o.ex with
  |some F=>match Nat.ble 1000000 f with
   |true=>none
   |false=>some F
  |none=>find f (tabX false)) with
  |some F=>match cej fid d o.ors with
   |some b=>some (cfm b F)
   |none=>some F
  |none=>none
 |.gl=>match clB fid d o.gls with
  |true=>some (fun _=>none)
  |false=>none
 |.bin op t=>match cej fid d o.ors with
  |some b=>some (cfS op b)
  |none=>match op with
   |.add=>some (cds .add)
   |.sub=>some (cds .sub)
   |.shr=>some ccx
   |.shl=>some cgA
   |.and=>some cgq
   |_=>none
 |.cv s t=>match Nat.beq s 3 with
  |true=>match Nat.beq t 87 with
   |true=>some cgf
   |false=>none
  |false=>none
 |_=>none
theorem cnw {bb:Bool}{lo:Nat}{w0:World}{t:Nat}{args:List (Pat Dx)}{res:jH Dx}{ob:List Prop}(h:ccx args=some (res,ob)) (ho:jE ob):jG (Cx bb lo w0) (.bin .shr t) args res:=by
 unfold ccx at h;split at h
 ·injection h with h;injection h with h1 h2;subst h1;subst h2
  exact cdg (.inl rfl) (fun w=>cad ho.1 (.inl ⟨rfl,rfl⟩))
 ·cases h
section
variable {lo:Nat}{w0:World}
theorem ty_ok (hG:Gr w0) {o:Opt}(hE:zv false lo w0 o.ex) (g:FuncId):(TY o g).Ok (Cx false lo w0):=by
 intro n hd F args res ob hF hres ho;unfold TY at hF;split at hF
 ·rename_i f;have key:∀ F,(match find f o.ex with
   |some F=>match Nat.ble 1000000 f with
    |true=>none
    |false=>some F
   |none=>find f (tabX false))=some F->∀ res ob,F args=some (res,ob)->jE ob->jG (Cx false lo w0) (.call f) args res:=by
   intro F hF res ob hr ho;split at hF
   ·rename_i h1;split at hF
    ·cases hF
    ·rename_i hg;injection hF with hF;subst hF
     exact hE _ _ h1 _ (ZN hg) _ _ _ hr ho
   ·exact cfp hG hF hr ho
  split at hF
  ·rename_i G hG;split at hF
   ·rename_i b hb;injection hF with hF;subst hF
    unfold cfm at hres;split at hres
    ·rename_i x ob' hx;injection hres with hres;injection hres with h1 h2;subst h1;subst h2
     have:=key G hG _ _ hx ho.2;rw[show x=b from ho.1] at this;exact this
    ·exact key G hG _ _ hres ho
   ·injection hF with hF;subst hF
    exact key _ hG _ _ hres ho
  ·cases hF
 ·split at hF
  ·injection hF with hF;subst hF
   cases hres
  ·cases hF
 ·split at hF
  ·injection hF with hF;subst hF
   exact cek hres ho
  ·split at hF
   ·injection hF with hF;subst hF
    exact UX hres ho rfl
   ·injection hF with hF;subst hF
    exact UX hres ho rfl
   ·injection hF with hF;subst hF
    exact cnw hres ho
   ·injection hF with hF;subst hF
    exact cfd hres ho
   ·injection hF with hF;subst hF
    exact ceu hres ho
   ·cases hF
 ·rename_i s t;split at hF
  ·rename_i h1;split at hF
   ·rename_i h2;injection hF with hF;subst hF
    rw[ct h1,ct h2];exact cev hres ho
   ·cases hF
  ·cases hF
 ·cases hF
theorem ZL (hlo : lo ≤ w0.heap.size) (hG : Gr w0) (hN : ∀ (f : Nat) (fn : Func), Tryz.prog.funcs[f]? = some fn → (fn.name == "runtime.NumGoroutine") = false) {o : Opt} (hE : zv false lo w0 o.ex) : zt (Cx false lo w0) (TY o) := ⟨ceD hlo, hN, ty_ok hG hE⟩
end
noncomputable abbrev W0 (w:World):Ctx Dx:=Cx false w.heap.size w
theorem fn_ok {w : World} (hG : Gr w) (hN : ∀ (f : Nat) (fn : Func), Tryz.prog.funcs[f]? = some fn → (fn.name == "runtime.NumGoroutine") = false) {ex : List (Nat × Con)} (hE : zv false w.heap.size w ex) {f : FuncId} {fn : Func} {c : Code} (hfn : Tryz.prog.funcs[f]? = some fn) (hbody : fn.body = some c) {args : List (Pat Dx)} {xs : List A1} {ws : Ws Dx} {n0 : Nat} (hm : Er Dx.n 0 args = some (xs, ws, n0)) (hlen : Nat.ble (uB xs).length fn.ntmps = true)
 {vs:List Value} (hp:jb (W0 w) w args vs) {ps:List (Pat Dx)} (hwp:(∀ o:Opt,o.ex=ex->zt (W0 w) (TY o))->∀ a,At (W0 w) fn.ntmps ⟨n0,Je 0 (uB xs),ws,[]⟩ a w->after Fence.wide 0 Tryz.prog [.code c] (Ret (W0 w) fn (Res (W0 w) ps)) .normal a w) :
 Enters Tryz.prog f/\Calls Tryz.prog f vs.toArray w (fun en w'=>∃ v,en=.returned v/\Res (W0 w) ps v w'):=by
 have hR:∀ o:Opt,o.ex=ex->zt (W0 w) (TY o):=fun o ho=>ZL (cb _) hG hN (by rw[ho];exact hE);have hR0:=hR ⟨[],[],ex⟩ rfl;refine Cc (C:=W0 w) hR0 hfn hbody hm hlen ?_ (fun a hA=>hwp hR a hA);exact Zm hR0.ok (W:=fun w'=>uH env0 w w') w (uH.refl _ _) (EH hm) (fun w' hk=>WJ (fun k hk'=>hk.block k hk' (fun b=>by simp)) (Ke hm) hp)
noncomputable abbrev run (w:World) (o:Opt) (f nt:Nat) (ks:List Kp) (st st':St Dx):Option (Xt×List Prop):=clE (W0 w) (TY o) (zB (Sx false w.heap.size) (TY o) 300 30).1 (zB (Sx false w.heap.size) (TY o) 300 30).2 nt f false 300 (UJ ks) st st'
noncomputable abbrev runR (w:World) (o:Opt) (f nt:Nat) (fn:Func) (ks:List Kp) (st:St Dx) (ps:List (Pat Dx)):Option (Xt×List Prop):=UZ (W0 w) (TY o) (zB (Sx false w.heap.size) (TY o) 300 30).1 (zB (Sx false w.heap.size) (TY o) 300 30).2 nt f false 300 (UJ ks) fn.results.toList st ps
theorem okX_le {b:Bool}{t:Nat}(h:okX b t=true):okX false t=true:=by
 unfold okX at h ⊢;split at h
 ·cases h
 ·rename_i h1;split at h
  ·cases h
  ·rename_i h2;split<;>rfl
theorem ok_le {b:Bool}{lo:Nat}{w0:World}{o:Obj}(h:CD (Cx b lo w0) o):CD (Cx false lo w0) o:=h.imp (fun⟨cs,t,h1,h2⟩=>⟨cs,t,h1,okX_le h2⟩) id
theorem cjW {lo:Nat}{w0:World}{b:Bool}(hG:Gr w0) (hlo:lo<=w0.heap.size) {f:FuncId}{args:List (Pat Dx)}(ps:Nat->List (Pat Dx)) (hsub:∀ hi,lo<=hi->∃ ob,yd (Cx b lo w0) (ps lo) (ps hi)=some ob/\jE ob)
 (h:∀ w vs,Gr w->jb (W0 w) w args vs->Enters Tryz.prog f/\Calls Tryz.prog f vs.toArray w (fun en w'=>∃ v,en=.returned v/\Res (W0 w) (ps w.heap.size) v w')) (hE:Enters Tryz.prog f):jG (Cx b lo w0) (.call f) args (Cd (ps lo)):=by
 refine⟨hE,fun w vs hb hvs=>?_⟩;refine(h w vs (hG.below hb hG.size) (WC hvs)).2.mono ?_;rintro en w' ⟨v,rfl,h1,h2⟩;refine⟨v,rfl,h1,?_⟩;obtain⟨ob,h3,h4⟩:=hsub w.heap.size (cA hlo hb.size);intro S hS w'' hs hk;have h5:=clw (b':=b) (lo':=lo) (w0':=w0) (rob_cx (lo':=lo) (w0':=w0) h2 S (fun k h=>⟨(hS k h).1,(hS k h).2.elim fun o ho=>⟨o,ho.1,ok_le ho.2⟩⟩) w'' hs hk);have hC:=ceD (b:=b) hlo;revert h3 h5;generalize ps lo=a;generalize ps w.heap.size=c;intro h3 h5;unfold Cd at h5 ⊢;split at h5
 ·rename_i p
  match a,h3 with
  |[q],h3 =>
   have:=yV hC h3 h4 (vs:=[v]) ⟨v,[],rfl,h5,rfl⟩;obtain⟨x,y,e1,e2,e3⟩:=this;injection e1 with e1 _
   subst e1;exact e2
  |[],h3=>simp [yd] at h3
  |_::q::r,h3 =>
   obtain⟨x,y,q1,q2,_⟩:=uf h3;simp [yd] at q2
 ·rename_i hne
  match a,h3 with
  |[q],h3 =>
   exfalso
   match c,h3,hne with
   |[],h3,_=>simp [yd] at h3
   |[p],_,hne=>exact hne p rfl
   |_::_::_,h3,_ =>
    obtain⟨x,y,q1,q2,_⟩:=uf h3;simp [yd] at q2
  |[],h3=>obtain⟨us,q1,q2⟩:=h5;exact⟨us,yV hC h3 h4 q1,q2⟩
  |q1::q2::r,h3=>obtain⟨us,p1,p2⟩:=h5;exact⟨us,yV hC h3 h4 p1,p2⟩
theorem ym {w:World}(hG:Gr w) (hN:cU) {ex:List (Nat×Con)}(hE:zv false w.heap.size w ex) {f:FuncId}{fn:Func}{c:Code}(hfn:Tryz.prog.funcs[f]?=some fn) (hbody:fn.body=some c) {args:List (Pat Dx)}(hm:lenA args fn.ntmps=true)
 {vs:List Value} (hp:jb (W0 w) w args vs) {ps:List (Pat Dx)} (hwp:(∀ o:Opt,o.ex=ex->zt (W0 w) (TY o))->∀ a,At (W0 w) fn.ntmps (stA args) a w->after Fence.wide 0 Tryz.prog [.code c] (Ret (W0 w) fn (Res (W0 w) ps)) .normal a w) :
 Enters Tryz.prog f/\Calls Tryz.prog f vs.toArray w (fun en w'=>∃ v,en=.returned v/\Res (W0 w) ps v w'):=by
 unfold lenA at hm;split at hm
 ·rename_i xs ws n0 h0;refine fn_ok hG hN hE hfn hbody h0 hm hp (fun hR a hA=>hwp hR a ?_);unfold stA;rw[h0];exact hA
 ·cases hm
abbrev Says (f:Nat) (args:List (Pat Dx)) (ps:Nat->List (Pat Dx)):Prop:=∀ w vs,Gr w->jb (W0 w) w args vs->Enters Tryz.prog f/\Calls Tryz.prog f vs.toArray w (fun en w'=>∃ v,en=.returned v/\Res (W0 w) (ps w.heap.size) v w')
section
variable {b:Bool}{lo:Nat}{w0:World}{f:Nat}{args:List (Pat Dx)}
theorem Says.ent {ps:Nat->List (Pat Dx)}(h:Says f args ps) (hG:Gr w0) (hlo:lo<=w0.heap.size) (hE:Enters Tryz.prog f) (hsub:∀ hi,lo<=hi->∃ ob,yd (Cx b lo w0) (ps lo) (ps hi)=some ob/\jE ob):jG (Cx b lo w0) (.call f) args (Cd (ps lo)):=cjW hG hlo ps hsub h hE
theorem Says.val {v:Value}(h:Says f args (fun _=>[.one (.lit v)])) (hG:Gr w0) (hlo:lo<=w0.heap.size) (hE:Enters Tryz.prog f):jG (Cx b lo w0) (.call f) args (vr v) :=
 h.ent hG hlo hE (fun _ _=>⟨_,rfl,rfl,trivial⟩)
end
section
variable {w w1:World}{o:Opt}{f nt:Nat}{ks:List Kp}{st st':St Dx}{x:Xt}{ob:List Prop}{a:Act}{Q:Exit->Act->World->Prop}
theorem jT (h:run w o f nt ks st st'=some (x,ob)) (hR:zt (W0 w) (TY o)) (hA:At (W0 w) nt st a w1) (hQ:∀ a' w',At (W0 w) nt st' a' w'->after Fence.wide 0 (W0 w).P (caF ks) Q x.to a' w') (ho:jE ob:=by (repeat' (first|exact trivial|apply And.intro))<;>first|exact jq.refl _ _|exact fun _ _=>jW.refl _ _|exact cD rfl|exact cD (by assumption)|exact cL _ _|exact cM _ _|(with_reducible assumption)|omega|with_reducible rfl|(simp only[cC];omega)|(intro j hj;exact absurd hj (cH _))|exact Kg rfl (by omega)|exact CK rfl (by omega)|exact Kg (by assumption) (by omega)|exact CK (by assumption) (by omega)|exact GM rfl (by omega)|exact WW rfl rfl|exact cF rfl|exact cF (by omega)|assumption|rfl):after Fence.wide 0 (W0 w).P ks Q .normal a w1:=cgF hR (.inl rfl) (fun _=>rfl) h ho hA hQ
noncomputable abbrev runA (w:World) (o:Opt) (f nt:Nat) (fn:Func) (st:St Dx) (ps:List (Pat Dx)):Option (Xt×List Prop):=ciw (W0 w) (TY o) (zB (Sx false w.heap.size) (TY o) 300 30).1 (zB (Sx false w.heap.size) (TY o) 300 30).2 nt f 300 (codeOf fn) fn.results.toList st ps
theorem all_o {fn:Func}{ps:List (Pat Dx)}(h:runA w o f nt fn st ps=some (.ret,ob)) (hR:zt (W0 w) (TY o)) (hA:At (W0 w) nt st a w1) (ho:jE ob:=by (repeat' (first|exact trivial|apply And.intro))<;>first|exact jq.refl _ _|exact fun _ _=>jW.refl _ _|exact cD rfl|exact cD (by assumption)|exact cL _ _|exact cM _ _|(with_reducible assumption)|omega|with_reducible rfl|(simp only[cC];omega)|(intro j hj;exact absurd hj (cH _))|exact Kg rfl (by omega)|exact CK rfl (by omega)|exact Kg (by assumption) (by omega)|exact CK (by assumption) (by omega)|exact GM rfl (by omega)|exact WW rfl rfl|exact cF rfl|exact cF (by omega)|assumption|rfl):after Fence.wide 0 (W0 w).P [.code (codeOf fn)] (Ret (W0 w) fn (Res (W0 w) ps)) .normal a w1:=all_is hR h ho hA
theorem kj {fn:Func}{ps:List (Pat Dx)}(h:runR w o f nt fn ks st ps=some (.ret,ob)) (hR:zt (W0 w) (TY o)) (hA:At (W0 w) nt st a w1) (ho:jE ob:=by (repeat' (first|exact trivial|apply And.intro))<;>first|exact jq.refl _ _|exact fun _ _=>jW.refl _ _|exact cD rfl|exact cD (by assumption)|exact cL _ _|exact cM _ _|(with_reducible assumption)|omega|with_reducible rfl|(simp only[cC];omega)|(intro j hj;exact absurd hj (cH _))|exact Kg rfl (by omega)|exact CK rfl (by omega)|exact Kg (by assumption) (by omega)|exact CK (by assumption) (by omega)|exact GM rfl (by omega)|exact WW rfl rfl|exact cF rfl|exact cF (by omega)|assumption|rfl) (hQ:∀ a' w',Ret (W0 w) fn (Res (W0 w) ps) .ret a' w'->Q .ret a' w':=by exact fun _ _ h=>h):after Fence.wide 0 (W0 w).P ks Q .normal a w1:=cfO hR (.inl rfl) (fun _=>rfl) h ho hA hQ
end
theorem Eb {w:World}{ex:List (Nat×Con)}(hG:Gr w) (hN:cU) (hE:zv false w.heap.size w ex):∀ o:Opt,o.ex=ex->zt (W0 w) (TY o):=fun _ ho=>ZL (cb _) hG hN (by rw[ho];exact hE)
end Pe.F
namespace Pe.F
noncomputable def kisNegative37_:List Kp:=[.code (codeOf Tryz.f37)]
noncomputable def kisValid23_:List Kp:=[.code (codeOf Tryz.f23)]
noncomputable def kReconcile122_:List Kp:=[.code (codeOf Tryz.f22)]
noncomputable def kSpan54_:List Kp:=[.code (codeOf Tryz.f54)]
noncomputable def kSpan54_n:List Kp:=next kSpan54_
noncomputable def kSpan54_nl:List Kp:=[.code (yE kSpan54_n)]
noncomputable def kSpan24_:List Kp:=[.code (codeOf Tryz.f24)]
noncomputable def kMeet55_:List Kp:=[.code (codeOf Tryz.f55)]
noncomputable def kSpan54_nt:List Kp:=kSpan54_n.tail
abbrev fq1 (x:Rat):List (Grp Dx):=[.cls (.q x 4)]
abbrev pQ1 (lo:Nat) (y:Rat):Pat Dx:=.one (.cls (.ls (lst lo 34 4 [y] fq1)))
theorem slc_q {bb bb':Bool}{lo lo' ty:Nat}{w0 w0' w:World}{y:Rat}{v:Value}(h:Pat.is (Cx bb lo w0) w (.slc ty 1 [.cls (.q y 4)]) v):Pat.is (Cx bb' lo' w0') w (.one (.cls (.ls (lst 0 ty 4 [y] fq1)))) v:=by
 obtain⟨k,o,c,arr,pre,vs,rest,rfl,h1,h2,h3,h4,h5⟩:=h;obtain⟨xs,ys,rfl,q2,q3⟩:=KP (b:=bb) (lo:=lo) (w0:=w0) (r:=y) (k:=4) (gs':=[]) rfl h4;obtain rfl:ys=[]:=q3;rw[ug] at h2;obtain⟨q4,q5,_⟩:=ckb q2;have hc:∀ v∈xs,v.oneCell'=true:=by
  obtain⟨s1,a1,b1,p1,e1⟩:=q5.form;have e2:xs=[.bool s1,u a1,u b1,.pointer p1]:=by
   have:=cQ (fun x=>match x with|Value.agg a=>a.toList|_=>[]) e1;simpa using this
  subst e2;intro v hv;simp at hv;rcases hv with rfl|rfl|rfl|rfl<;>rfl
 refine DIs.ls k o c arr pre xs rest h5 ⟨_,h1⟩ h2 h3 (by simp [lst,q4]) (ju _) hc (fun j hj=>?_);have hj:j<1:=hj;obtain rfl:j=0:=by omega
 show GsI w (fq1 y) ((xs.drop (0*4)).take 4);rw[Jr,ux,kA (by omega)];have:=GsI.cls q2 (GsI.nil (w:=w))
 rwa [ug] at this
theorem aru1 {w:World}(l0:Nat) (a y:Rat):runA w ⟨[(97,21,true),(97,28,false)],[],[]⟩ 97 33 Tryz.f97 (stA [pQ a 4,pQ1 l0 y]) [pS y 4 a 4]=some (.ret,[0<[y].length,0<[y].length,4+4<=1000000,decide (jk ([y].getD 0 default) a<0)=true,4+4<=1000000,decide (jk ([y].getD 0 default) a>0)=false,Gd (0+1),jq (W0 w) (.q y 4) (.q ([y].getD 0 default) 4),sD w (.q a 4),kE (W0 w) (.q y 4),kE (W0 w) (.q a 4)]):=by kernel_rfl
theorem aru2 {w:World}(l0:Nat) (a y:Rat):runA w ⟨[(97,21,false),(97,28,true)],[],[]⟩ 97 33 Tryz.f97 (stA [pQ a 4,pQ1 l0 y]) [pS a 4 y 4]=some (.ret,[0<[y].length,0<[y].length,4+4<=1000000,decide (jk ([y].getD 0 default) a<0)=false,4+4<=1000000,decide (jk ([y].getD 0 default) a>0)=true,Gd (0+1),sD w (.q a 4),jq (W0 w) (.q y 4) (.q ([y].getD 0 default) 4),kE (W0 w) (.q a 4),kE (W0 w) (.q y 4)]):=by kernel_rfl
theorem aru3 {w:World}(l0:Nat) (a y:Rat):runA w ⟨[(97,21,false),(97,28,false)],[],[]⟩ 97 33 Tryz.f97 (stA [pQ a 4,pQ1 l0 y]) [pS a 4 a 4]=some (.ret,[0<[y].length,0<[y].length,4+4<=1000000,decide (jk ([y].getD 0 default) a<0)=false,4+4<=1000000,decide (jk ([y].getD 0 default) a>0)=false,Gd (0+1),sD w (.q a 4),sD w (.q a 4),kE (W0 w) (.q a 4),kE (W0 w) (.q a 4)]):=by kernel_rfl
theorem ar_ok (hN:cU) (l0:Nat) (a y:Rat):Says 97 [pQ a 4,pQ1 l0 y] (fun _=>[pS (mn a y) 4 (mx a y) 4]):=by
 intro w vs hG hp;refine ym hG hN (ex:=[]) kg (fn:=Tryz.f97) Tryz.func97 (c:=codeOf Tryz.f97) (by kernel_rfl) (args:=[pQ a 4,pQ1 l0 y]) (by kernel_rfl) hp (fun hR _ hA=>?_);by_cases h1:y<a
 ·have h2:¬ a<y:=Rat.not_lt.2 (Rat.le_of_lt h1);rw[show mn a y=y from co h1,show mx a y=a from cg h2];exact all_o (aru1 l0 a y) (hR _ rfl) hA (by (repeat' (first|exact trivial|apply And.intro))<;>first|exact jq.refl _ _|exact fun _ _=>jW.refl _ _|exact cD rfl|exact cL _ _|exact cM _ _|(with_reducible assumption)|omega|with_reducible rfl|(simp only[cC];omega)|(intro j hj;exact absurd hj (cH _))|exact Nat.zero_lt_one|exact cF (clt.2 h1)|exact cK (fun h=>h2 (zZ.1 h))|rfl)
 ·by_cases h2:a<y
  ·rw[show mn a y=a from cg h1,show mx a y=y from co h2];exact all_o (aru2 l0 a y) (hR _ rfl) hA (by (repeat' (first|exact trivial|apply And.intro))<;>first|exact jq.refl _ _|exact fun _ _=>jW.refl _ _|exact cD rfl|exact cL _ _|exact cM _ _|(with_reducible assumption)|omega|with_reducible rfl|(simp only[cC];omega)|(intro j hj;exact absurd hj (cH _))|exact Nat.zero_lt_one|exact cF (zZ.2 h2)|exact cK (fun h=>h1 (clt.1 h))|rfl)
  ·rw[show mn a y=a from cg h1,show mx a y=a from cg h2];exact all_o (aru3 l0 a y) (hR _ rfl) hA (by (repeat' (first|exact trivial|apply And.intro))<;>first|exact jq.refl _ _|exact fun _ _=>jW.refl _ _|exact cD rfl|exact cL _ _|exact cM _ _|(with_reducible assumption)|omega|with_reducible rfl|(simp only[cC];omega)|(intro j hj;exact absurd hj (cH _))|exact Nat.zero_lt_one|exact cK (fun h=>h1 (clt.1 h))|exact cK (fun h=>h2 (zZ.1 h))|rfl)
def cjB:Con
 |[.agg [.cls (.q a 4)],.slc 34 1 [.cls (.q y 4)]]=>some (Cd [pS (mn a y) 4 (mx a y) 4],[])
 |_=>none
theorem cmL {lo:Nat}{w0:World}(hN:cU) (hG:Gr w0) (hlo:lo<=w0.heap.size):∀ l r ob,cjB l=some (r,ob)->jE ob->jG (Cx false lo w0) (.call 97) l r:=by
 intro l r ob h ho;unfold cjB at h;split at h
 ·injection h with h;injection h with h1 h2;subst h1;subst h2
  refine ccW ((ar_ok hN 0 _ _).ent hG hlo (cY Tryz.func97 (by kernel_rfl) rfl) (fun _ _=>⟨_,rfl,jq.refl _ _,jq.refl _ _,trivial⟩)) (fun w vs hv=>?_);obtain⟨v,_,rfl,h1,v2,_,rfl,h2,h3⟩:=hv;exact⟨v,_,rfl,h1,v2,_,rfl,slc_q h2,h3⟩
 ·cases h
abbrev exMe:List (Nat×Con):=[(56,conSo),(97,cjB)]
theorem exMe_ok {lo:Nat}{w0:World}(hN:cU) (hG:Gr w0) (hlo:lo<=w0.heap.size):zv false lo w0 exMe:=jg cow (jg (cmL hN hG hlo) kg)
theorem mea {w:World}(a b c d:Rat):runR w ⟨[(55,29,false)],[],exMe⟩ 55 34 Tryz.f55 kMeet55_ (stA [pS a 4 b 4,pS c 4 d 4]) [pS (mx a c) 4 (mn b d) 4,.one (.lit (.bool true))]=some (.ret,[a<=b/\4<=1000000/\4<=1000000,c<=d/\4<=1000000/\4<=1000000,4+4<=1000000,decide (jk (mx a c) (mn b d)>0)=false,sD w (.q (mx a c) 4),sD w (.q (mn b d) 4),eA (Value.bool true),kE (W0 w) (.q (mx a c) 4),kE (W0 w) (.q (mn b d) 4)]):=by kernel_rfl
theorem me_ok (hN:cU) (a b c d:Rat) (hab:a<=b) (hcd:c<=d) (hx:mx a c<=mn b d):Says 55 [pS a 4 b 4,pS c 4 d 4] (fun _=>[pS (mx a c) 4 (mn b d) 4,.one (.lit (.bool true))]):=by
 intro w vs hG hp;refine ym hG hN (ex:=exMe) (exMe_ok hN hG (cb _)) (fn:=Tryz.f55) Tryz.func55 (c:=codeOf Tryz.f55) (by kernel_rfl) (args:=[pS a 4 b 4,pS c 4 d 4]) (by kernel_rfl) hp (fun hR _ hA=>?_);exact kj (mea a b c d) (hR _ rfl) hA (by (repeat' (first|exact trivial|apply And.intro))<;>first|exact jq.refl _ _|exact fun _ _=>jW.refl _ _|exact cD rfl|exact cL _ _|exact cM _ _|(with_reducible assumption)|omega|with_reducible rfl|(simp only[cC];omega)|(intro j hj;exact absurd hj (cH _))|exact⟨hab,by decide,by decide⟩|exact⟨hcd,by decide,by decide⟩|exact cK (fun h=>absurd (zZ.1 h) (Rat.not_lt.2 hx))|rfl)
theorem me_ent {lo:Nat}{w0:World}{a b c d:Rat}(hN:cU) (hG:Gr w0) (hlo:lo<=w0.heap.size) (hab:a<=b) (hcd:c<=d) (hx:mx a c<=mn b d):jG (Cx false lo w0) (.call 55) [pS a 4 b 4,pS c 4 d 4] (Cd [pS (mx a c) 4 (mn b d) 4,.one (.lit (.bool true))]) :=
 (me_ok hN a b c d hab hcd hx).ent hG hlo (cY Tryz.func55 (by kernel_rfl) rfl) (fun _ _=>⟨_,rfl,jq.refl _ _,jq.refl _ _,rfl,trivial⟩)
noncomputable abbrev ngcR (w:World) (r:Rat) (k:Nat) (o:List (Nat×Nat×Bool)):=runR w ⟨o,[],[]⟩ 37 6 Tryz.f37 kisNegative37_ (stA [pQ r k]) (rB (decide (yK r<0)))
theorem ngc0 {w:World}(r:Rat) (k:Nat):ngcR w r k [(37,5,true)]=some (.ret,[decide (yK r<0)=true,Value.bool (decide (yK r<0))=Value.bool true]):=by kernel_rfl
theorem ngc1 {w:World}(r:Rat) (k:Nat):ngcR w r k [(37,5,false)]=some (.ret,[decide (yK r<0)=false,Value.bool (decide (yK r<0))=Value.bool false]):=by kernel_rfl
theorem ngC_ok (hN:cU) (r:Rat) (k:Nat):Says 37 [pQ r k] (fun _=>rB (decide (yK r<0))):=by
 intro w vs hG hp;refine ym hG hN (ex:=[]) kg (fn:=Tryz.f37) Tryz.func37 (c:=codeOf Tryz.f37) (by kernel_rfl) (args:=[pQ r k]) (by kernel_rfl) hp (fun hR _ hA=>?_);rcases jA (decide (yK r<0)) with q5|q5
 ·skip
  have p5:=jh q5
  first|have e0:=cQ Value.bool q5|skip
  refine kj (ngc0 r k) (hR _ rfl) hA
 ·skip
  have p5:=jn q5
  first|have e0:=cQ Value.bool q5|skip
  refine kj (ngc1 r k) (hR _ rfl) hA
theorem cmU {lo:Nat}{w0:World}(hN:cU) (hG:Gr w0) (hlo:lo<=w0.heap.size):∀ l r ob,ciV l=some (r,ob)->jE ob->jG (Cx false lo w0) (.call 37) l r:=by
 intro l r ob h ho;unfold ciV at h;split at h
 ·injection h with h;injection h with h1 h2;subst h1;subst h2
  exact(ngC_ok hN _ _).val hG hlo (cY Tryz.func37 (by kernel_rfl) rfl)
 ·cases h
abbrev exNg:List (Nat×Con):=[(37,ciV)]
theorem exNg_ok {lo:Nat}{w0:World}(hN:cU) (hG:Gr w0) (hlo:lo<=w0.heap.size):zv false lo w0 exNg:=jg (cmU hN hG hlo) kg
noncomputable abbrev vacR (w:World) (a b:Rat) (j k:Nat)  (o:List (Nat×Nat×Bool)):=runR w ⟨o,[],exNg⟩ 23 15 Tryz.f23 kisValid23_ (stA [pS a j b k]) (rB (okSp a b))
theorem vac0 {w:World}(a b:Rat) (j k:Nat):vacR w a b j k [(23,5,true)]=some (.ret,[decide (yK a<0)=true,Value.bool (okSp a b)=Value.bool false]):=by kernel_rfl
theorem vac1 {w:World}(a b:Rat) (j k:Nat):vacR w a b j k [(23,5,false),(23,13,true)]=some (.ret,[decide (yK a<0)=false,j+k<=1000000,decide (jk a b<=0)=true,Value.bool (okSp a b)=Value.bool true]):=by kernel_rfl
theorem vac2 {w:World}(a b:Rat) (j k:Nat):vacR w a b j k [(23,5,false),(23,13,false)]=some (.ret,[decide (yK a<0)=false,j+k<=1000000,decide (jk a b<=0)=false,Value.bool (okSp a b)=Value.bool false]):=by kernel_rfl
theorem va_ok (hN:cU) (a b:Rat) (j k:Nat) (hj:j+k<=10000):Says 23 [pS a j b k] (fun _=>rB (okSp a b)):=by
 intro w vs hG hp;refine ym hG hN (ex:=exNg) (exNg_ok hN hG (cb _)) (fn:=Tryz.f23) Tryz.func23 (c:=codeOf Tryz.f23) (by kernel_rfl) (args:=[pS a j b k]) (by kernel_rfl) hp (fun hR _ hA=>?_);rcases jA (decide (yK a<0)) with q5|q5
 ·skip
  have p5:=jh q5;refine kj (vac0 a b j k) (hR _ rfl) hA (by (repeat' (first|exact trivial|apply And.intro))<;>first|exact jq.refl _ _|exact fun _ _=>jW.refl _ _|exact cD rfl|exact cL _ _|exact cM _ _|(with_reducible assumption)|omega|with_reducible rfl|(simp only[cC];omega)|(intro j hj;exact absurd hj (cH _))|exact cQ Value.bool (by unfold okSp;rw[q5];first|rfl|(rw[q13];rfl))|rfl)
 ·skip
  have p5:=jn q5;rcases jA (decide (jk a b<=0)) with q13|q13
  ·skip
   have p13:=jh q13;refine kj (vac1 a b j k) (hR _ rfl) hA (by (repeat' (first|exact trivial|apply And.intro))<;>first|exact jq.refl _ _|exact fun _ _=>jW.refl _ _|exact cD rfl|exact cL _ _|exact cM _ _|(with_reducible assumption)|omega|with_reducible rfl|(simp only[cC];omega)|(intro j hj;exact absurd hj (cH _))|exact cQ Value.bool (by unfold okSp;rw[q5];first|rfl|(rw[q13];rfl))|rfl)
  ·skip
   have p13:=jn q13;refine kj (vac2 a b j k) (hR _ rfl) hA (by (repeat' (first|exact trivial|apply And.intro))<;>first|exact jq.refl _ _|exact fun _ _=>jW.refl _ _|exact cD rfl|exact cL _ _|exact cM _ _|(with_reducible assumption)|omega|with_reducible rfl|(simp only[cC];omega)|(intro j hj;exact absurd hj (cH _))|exact cQ Value.bool (by unfold okSp;rw[q5];first|rfl|(rw[q13];rfl))|rfl)
theorem cnC {lo:Nat}{w0:World}(hN:cU) (hG:Gr w0) (hlo:lo<=w0.heap.size):∀ l r ob,conVa l=some (r,ob)->jE ob->jG (Cx false lo w0) (.call 23) l r:=by
 intro l r ob h ho;unfold conVa at h;split at h
 ·injection h with h;injection h with h1 h2;subst h1;subst h2
  exact(va_ok hN _ _ _ _ ho.1).val hG hlo (cY Tryz.func23 (by kernel_rfl) rfl)
 ·cases h
abbrev pSl (lo:Nat) (L:List R2):Pat Dx:=.one (.cls (.ls (lst lo 36 8 L fQ)))
def ckn:Con
 |[.agg [.cls (.q a 4),.cls (.q b 4)]]=>some (vr (.bool (!okSp a b)),[])
 |_=>none
abbrev exVa:List (Nat×Con):=[(23,conVa)]
theorem exVa_ok {lo:Nat}{w0:World}(hN:cU) (hG:Gr w0) (hlo:lo<=w0.heap.size):zv false lo w0 exVa:=jg (cnC hN hG hlo) kg
noncomputable abbrev wrtR (w:World) (a b:Rat) (o:List (Nat×Nat×Bool)):=runR w ⟨o,[],exVa⟩ 22 6 Tryz.f22 kReconcile122_ (stA [pS a 4 b 4]) (rB (!okSp a b))
theorem wrt0 {w:World}(a b:Rat):wrtR w a b []=some (.ret,[4+4<=10000,(Value.bool !okSp a b)=Value.bool !okSp a b]):=by kernel_rfl
theorem wr_ok (hN:cU) (a b:Rat):Says 22 [pS a 4 b 4] (fun _=>rB (!okSp a b)):=by
 intro w vs hG hp;refine ym hG hN (ex:=exVa) (exVa_ok hN hG (cb _)) (fn:=Tryz.f22) Tryz.func22 (c:=codeOf Tryz.f22) (by kernel_rfl) (args:=[pS a 4 b 4]) (by kernel_rfl) hp (fun hR _ hA=>?_);refine kj (wrt0 a b) (hR _ rfl) hA
theorem chs {lo:Nat}{w0:World}(hN:cU) (hG:Gr w0) (hlo:lo<=w0.heap.size):∀ l r ob,ckn l=some (r,ob)->jE ob->jG (Cx false lo w0) (.call 22) l r:=by
 intro l r ob h ho;unfold ckn at h;split at h
 ·injection h with h;injection h with h1 h2;subst h1;subst h2
  exact(wr_ok hN _ _).val hG hlo (cY Tryz.func22 (by kernel_rfl) rfl)
 ·cases h
abbrev exWr:List (Nat×Con):=[(22,ckn)]
theorem exWr_ok {lo:Nat}{w0:World}(hN:cU) (hG:Gr w0) (hlo:lo<=w0.heap.size):zv false lo w0 exWr:=jg (chs hN hG hlo) kg
def badF (L:List R2) (i:Nat):Bool:=!okSp (L.getD i default).1 (L.getD i default).2
abbrev ixI (lo:Nat) (L:List R2) (i:Nat):St Dx:=⟨1,[(0,.val (.one (.sym 0 0))),(1,.val (.one (.lit (.func (.func 22) #[] #[])))),(7,.val (.one (.lit (ii (L.length:Int))))),(8,.val (.one (.lit (ii (i:Int)))))],[(0,.cls (.ls (lst lo 36 8 L fQ)))],[]⟩
theorem ixa {w:World}(lo:Nat) (L:List R2):run w ⟨[],[],exWr⟩ 54 19 kSpan54_ (stA [pSl lo L,pF 22]) (ixI lo L 0)=some (.normal,[sD w (.ls (lst lo 36 8 L fQ)),eA (Value.func (Fn.func 22) #[] #[]),ii (L.length:Int)=goInt (L.length:Int),ii (↑0:Int)=Value.int IntKind.i64 0]):=by kernel_rfl
theorem ixe {w:World}(lo:Nat) (L:List R2) (i:Nat):runR w ⟨[],[],exWr⟩ 54 19 Tryz.f54 kSpan54_nt (ixI lo L i) (rI (ixP L.length (badF L)))=some (.ret,[Value.int IntKind.i64 (ixP L.length (badF L))=Value.int IntKind.i64 (-1)]):=by kernel_rfl
noncomputable abbrev ixbTe0 (w:World) (l0:Nat) (L:List R2) (i:Nat) (o:List (Nat×Nat×Bool)):=run w ⟨o,[],exWr⟩ 54 19 kSpan54_nl (ixI l0 L i) (ixI l0 L i)
noncomputable abbrev ixbTnal (w:World) (l0:Nat) (L:List R2) (i:Nat) (o:List (Nat×Nat×Bool)):=run w ⟨o,[],exWr⟩ 54 19 kSpan54_nl (ixI l0 L i) (ixI l0 L (i+1))
noncomputable abbrev ixbR (w:World) (l0:Nat) (L:List R2) (i:Nat) (o:List (Nat×Nat×Bool)):=runR w ⟨o,[],exWr⟩ 54 19 Tryz.f54 kSpan54_nl (ixI l0 L i) (rI (ixP L.length (badF L)))
theorem ixb0 {w:World}(l0:Nat) (L:List R2) (i:Nat):ixbR w l0 L i [(54,9,true),(54,16,true)]=some (.ret,[decide ((i:Int)<(L.length:Int))=true,i<L.length,i<L.length,(!okSp (L.getD i default).1 (L.getD i default).2)=true,Value.int IntKind.i64 (ixP L.length (badF L))=ii (i:Int)]):=by kernel_rfl
theorem ixb1 {w:World}(l0:Nat) (L:List R2) (i:Nat):ixbTnal w l0 L i [(54,9,true),(54,16,false)]=some (.normal,[decide ((i:Int)<(L.length:Int))=true,i<L.length,i<L.length,(!okSp (L.getD i default).1 (L.getD i default).2)=false,Gd ((i:Int)+1),sD w (.ls (lst l0 36 8 L fQ)),eA (Value.func (Fn.func 22) #[] #[]),eA (ii (L.length:Int)),ii (↑(i+1):Int)=Value.int IntKind.i64 ((i:Int)+1)]):=by kernel_rfl
theorem ixb2 {w:World}(l0:Nat) (L:List R2) (i:Nat):ixbTe0 w l0 L i [(54,9,false)]=some (.exit 0,[decide ((i:Int)<(L.length:Int))=false,sD w (.ls (lst l0 36 8 L fQ)),eA (Value.func (Fn.func 22) #[] #[]),eA (ii (L.length:Int)),eA (ii (i:Int))]):=by kernel_rfl
theorem ixF_ok (hN:cU) (l0:Nat) (L:List R2) (hl:L.length<=1000000):Says 54 [pSl l0 L,pF 22] (fun _=>rI (ixP L.length (badF L))):=by
 intro w vs hG hp;refine ym hG hN (ex:=exWr) (exWr_ok hN hG (cb _)) (fn:=Tryz.f54) Tryz.func54 (c:=codeOf Tryz.f54) (by kernel_rfl) (args:=[pSl l0 L,pF 22]) (by kernel_rfl) hp (fun hR _ hA=>?_);refine jT (ixa l0 L) (hR _ rfl) hA (fun a w1 hA=>yu ?_);refine Ct (fun i=>ixI l0 L i) (fun i=>i<=L.length/\∀ k,k<i->badF L k=false) (fun i=>L.length-i) (L:=kSpan54_n) (ks:=kSpan54_nt) (id:=0) (c:=yE kSpan54_n) (by kernel_rfl) 0 ⟨ju _,by omega⟩ hA (fun i a2 w2 hi hA=>?_);rcases jA (decide ((i:Int)<(L.length:Int))) with q9|q9
 ·skip
  have p9:=jh q9;rcases jA (badF L i) with q16|q16
  ·skip
   have e0:=cQ (Value.int .i64) (cpo (n:=L.length) (p:=badF L) (i:=i) (by omega) q16 hi.2);refine kj (ixb0 l0 L i) (hR _ rfl) hA (by (repeat' (first|exact trivial|apply And.intro))<;>first|exact jq.refl _ _|exact fun _ _=>jW.refl _ _|exact cD rfl|exact cL _ _|exact cM _ _|(with_reducible assumption)|omega|with_reducible rfl|(simp only[cC];omega)|(intro j hj;exact absurd hj (cH _))|exact q16|rfl)
  ·skip
   refine jT (ixb1 l0 L i) (hR _ rfl) hA (fun aT wT hT=>?_) (by (repeat' (first|exact trivial|apply And.intro))<;>first|exact jq.refl _ _|exact fun _ _=>jW.refl _ _|exact cD rfl|exact cL _ _|exact cM _ _|(with_reducible assumption)|omega|with_reducible rfl|(simp only[cC];omega)|(intro j hj;exact absurd hj (cH _))|exact q16|rfl);exact jX (by kernel_rfl) ⟨i+1,⟨by omega,fun k hk=>by rcases Nat.lt_succ_iff_lt_or_eq.1 hk with h|rfl;exact hi.2 k h;exact q16⟩,hT,by omega⟩
 ·skip
  have p9:=jn q9;refine jT (ixb2 l0 L i) (hR _ rfl) hA (fun aT wT hT=>?_) (by (repeat' (first|exact trivial|apply And.intro))<;>first|exact jq.refl _ _|exact fun _ _=>jW.refl _ _|exact cD rfl|exact cL _ _|exact cM _ _|(with_reducible assumption)|omega|with_reducible rfl|(simp only[cC];omega)|(intro j hj;exact absurd hj (cH _))|exact q16|rfl);refine kO _ (by kernel_rfl) ?_;refine kj (ixe l0 L i) (hR _ rfl) hT ⟨cQ (Value.int .i64) (coA fun k hk=>hi.2 k (by omega)),trivial⟩
abbrev exIx (l0:Nat) (L:List R2):List (Nat×Con):=[(54,CN [pSl l0 L,pF 22] (vr (.int .i64 (ixP L.length (badF L)))))]
theorem exIx_ok {lo l0:Nat}{w0:World}{L:List R2}(hN:cU) (hG:Gr w0) (hlo:lo<=w0.heap.size) (hl:L.length<=1000000):zv false lo w0 (exIx l0 L):=jg (kV ((ixF_ok hN l0 L hl).val hG hlo (cY Tryz.func54 (by kernel_rfl) rfl))) kg
noncomputable abbrev coiR (w:World) (l0:Nat) (L:List R2)  (o:List (Nat×Nat×Bool)):=runR w ⟨o,[],(exIx l0 L)⟩ 24 9 Tryz.f24 kSpan24_ (stA [pSl l0 L,pF 22]) (rB (anyP L.length (badF L)))
theorem coi0 {w:World}(l0:Nat) (L:List R2):coiR w l0 L [(24,8,true)]=some (.ret,[[Pat.one (Grp.cls (Dx.ls (lst l0 36 8 L fQ))),Pat.one (Grp.lit (Value.func (Fn.func 22) #[] #[]))]=[pSl l0 L,pF 22],decide (ixP L.length (badF L)>=0)=true,Value.bool (anyP L.length (badF L))=Value.bool true]):=by kernel_rfl
theorem coi1 {w:World}(l0:Nat) (L:List R2):coiR w l0 L [(24,8,false)]=some (.ret,[[Pat.one (Grp.cls (Dx.ls (lst l0 36 8 L fQ))),Pat.one (Grp.lit (Value.func (Fn.func 22) #[] #[]))]=[pSl l0 L,pF 22],decide (ixP L.length (badF L)>=0)=false,Value.bool (anyP L.length (badF L))=Value.bool false]):=by kernel_rfl
theorem coF_ok (hN:cU) (l0:Nat) (L:List R2) (hl:L.length<=1000000):Says 24 [pSl l0 L,pF 22] (fun _=>rB (anyP L.length (badF L))):=by
 intro w vs hG hp;refine ym hG hN (ex:=(exIx l0 L)) (exIx_ok hN hG (cb _) hl) (fn:=Tryz.f24) Tryz.func24 (c:=codeOf Tryz.f24) (by kernel_rfl) (args:=[pSl l0 L,pF 22]) (by kernel_rfl) hp (fun hR _ hA=>?_);rcases jA (decide (ixP L.length (badF L)>=0)) with q8|q8
 ·skip
  have p8:=jh q8
  first|have e0:=cQ Value.bool (ixP_ge.symm.trans q8)|skip
  refine kj (coi0 l0 L) (hR _ rfl) hA
 ·skip
  have p8:=jn q8
  first|have e0:=cQ Value.bool (ixP_ge.symm.trans q8)|skip
  refine kj (coi1 l0 L) (hR _ rfl) hA
end Pe.F
namespace Pe.F
noncomputable def kCompare58_:List Kp:=[.code (codeOf Tryz.f58)]
noncomputable def kOr57_:List Kp:=[.code (codeOf Tryz.f57)]
noncomputable def kOr57_n:List Kp:=next kOr57_
noncomputable def kOr57_nl:List Kp:=[.code (yE kOr57_n)]
noncomputable def kcompare27_:List Kp:=[.code (codeOf Tryz.f27)]
noncomputable def kOr57_nt:List Kp:=kOr57_n.tail
def JV (a b:Int):Int:=if a<b then -1 else if b<a then 1 else 0
def orZ (a b:Int):Int:=if a=0 then b else a
theorem lssZ {a b:Int}(h:decide (a<b)=true):Value.int .i64 (JV a b)=Value.int .i64 (-1):=by unfold JV;rw[co (jh h)]
theorem gtrZ {a b:Int}(h:decide (a<b)=false) (h2:decide (a>b)=true):Value.int .i64 (JV a b)=Value.int .i64 1:=by unfold JV;rw[cg (jn h),co (jh h2)]
theorem eqlZ {a b:Int}(h:decide (a<b)=false) (h2:decide (a>b)=false):Value.int .i64 (JV a b)=Value.int .i64 0:=by unfold JV;rw[cg (jn h),cg (jn h2)]
noncomputable abbrev cztR (w:World) (a b:Int) (o:List (Nat×Nat×Bool)):=runR w ⟨o,[],[]⟩ 58 20 Tryz.f58 kCompare58_ (stA [pI a,pI b]) (rI (JV a b))
theorem czt0 {w:World}(a b:Int):cztR w a b [(58,16,true),(98,5,false)]=some (.ret,[decide (a≠a)=false,decide (b≠b)=false,decide (a<b)=true,Value.int IntKind.i64 (JV a b)=Value.int IntKind.i64 (-1)]):=by kernel_rfl
theorem czt1 {w:World}(a b:Int):cztR w a b [(58,16,false),(58,19,true),(98,5,false)]=some (.ret,[decide (a≠a)=false,decide (b≠b)=false,decide (a<b)=false,decide (a>b)=true,Value.int IntKind.i64 (JV a b)=Value.int IntKind.i64 1]):=by kernel_rfl
theorem czt2 {w:World}(a b:Int):cztR w a b [(58,16,false),(58,19,false),(98,5,false)]=some (.ret,[decide (a≠a)=false,decide (b≠b)=false,decide (a<b)=false,decide (a>b)=false,Value.int IntKind.i64 (JV a b)=Value.int IntKind.i64 0]):=by kernel_rfl
theorem cz_ok (hN:cU) (a b:Int):Says 58 [pI a,pI b] (fun _=>rI (JV a b)):=by
 intro w vs hG hp;refine ym hG hN (ex:=[]) kg (fn:=Tryz.f58) Tryz.func58 (c:=codeOf Tryz.f58) (by kernel_rfl) (args:=[pI a,pI b]) (by kernel_rfl) hp (fun hR _ hA=>?_);rcases jA (decide (a<b)) with q16|q16
 ·skip
  have p16:=jh q16;refine kj (czt0 a b) (hR _ rfl) hA (by (repeat' (first|exact trivial|apply And.intro))<;>first|exact jq.refl _ _|exact fun _ _=>jW.refl _ _|exact cD rfl|exact cL _ _|exact cM _ _|(with_reducible assumption)|omega|with_reducible rfl|(simp only[cC];omega)|(intro j hj;exact absurd hj (cH _))|exact lssZ q16|exact(lssZ q16).symm|exact gtrZ q16 q19|exact(gtrZ q16 q19).symm|exact eqlZ q16 q19|exact(eqlZ q16 q19).symm|exact cK (fun h=>h rfl)|rfl)
 ·skip
  have p16:=jn q16;rcases jA (decide (a>b)) with q19|q19
  ·skip
   have p19:=jh q19;refine kj (czt1 a b) (hR _ rfl) hA (by (repeat' (first|exact trivial|apply And.intro))<;>first|exact jq.refl _ _|exact fun _ _=>jW.refl _ _|exact cD rfl|exact cL _ _|exact cM _ _|(with_reducible assumption)|omega|with_reducible rfl|(simp only[cC];omega)|(intro j hj;exact absurd hj (cH _))|exact lssZ q16|exact(lssZ q16).symm|exact gtrZ q16 q19|exact(gtrZ q16 q19).symm|exact eqlZ q16 q19|exact(eqlZ q16 q19).symm|exact cK (fun h=>h rfl)|rfl)
  ·skip
   have p19:=jn q19;refine kj (czt2 a b) (hR _ rfl) hA (by (repeat' (first|exact trivial|apply And.intro))<;>first|exact jq.refl _ _|exact fun _ _=>jW.refl _ _|exact cD rfl|exact cL _ _|exact cM _ _|(with_reducible assumption)|omega|with_reducible rfl|(simp only[cC];omega)|(intro j hj;exact absurd hj (cH _))|exact lssZ q16|exact(lssZ q16).symm|exact gtrZ q16 q19|exact(gtrZ q16 q19).symm|exact eqlZ q16 q19|exact(eqlZ q16 q19).symm|exact cK (fun h=>h rfl)|rfl)
def conCz:Con
 |[.one (.lit (.int .i64 a)),.one (.lit (.int .i64 b))]=>some (vr (.int .i64 (JV a b)),[])
 |_=>none
theorem cnP {lo:Nat}{w0:World}(hN:cU) (hG:Gr w0) (hlo:lo<=w0.heap.size):∀ l r ob,conCz l=some (r,ob)->jE ob->jG (Cx false lo w0) (.call 58) l r:=by
 intro l r ob h ho;unfold conCz at h;split at h
 ·injection h with h;injection h with h1 h2;subst h1;subst h2
  exact(cz_ok hN _ _).val hG hlo (cY Tryz.func58 (by kernel_rfl) rfl)
 ·cases h
abbrev fz (i:Int):List (Grp Dx):=[.lit (ii i)]
abbrev pZ2 (lo:Nat) (a b:Int):Pat Dx:=.one (.cls (.ls (lst lo 3 1 [a,b] fz)))
abbrev orI (lo:Nat) (a b:Int) (i:Nat):St Dx:=⟨1,[(3,.val (.one (.lit (ii 0)))),(6,.val (.one (.sym 0 0))),(7,.val (.one (.lit (ii 2)))),(8,.val (.one (.lit (ii (i:Int)))))],[(0,.cls (.ls (lst lo 3 1 [a,b] fz)))],[]⟩
theorem ora {w:World}(lo:Nat) (a b:Int):run w ⟨[],[],[]⟩ 57 18 kOr57_ (stA [pZ2 lo a b]) (orI lo a b 0)=some (.normal,[sD w (.ls (lst lo 3 1 [a,b] fz)),ii 0=Value.int IntKind.i64 0,ii 2=goInt (↑[a,b].length:Int),ii (↑0:Int)=Value.int IntKind.i64 0]):=by kernel_rfl
theorem ore {w:World}(lo:Nat) (a b:Int) (i:Nat):runR w ⟨[],[],[]⟩ 57 18 Tryz.f57 kOr57_nt (orI lo a b i) (rI 0)=some (.ret,[Value.int IntKind.i64 0=ii 0]):=by kernel_rfl
theorem or_at {a b:Int}{i:Nat}(hi:i<2) (hb:∀ k,k<i->([a,b]:List Int).getD k default=0) (h:([a,b]:List Int).getD i default≠0):orZ a b=([a,b]:List Int).getD i default:=by
 unfold orZ
 match i,hi with
 |0,_=>rw[cg (show ¬ a=0 from h)];rfl
 |1,_ =>
  have:a=0:=hb 0 (by omega);rw[co this];rfl
theorem or_end {a b:Int}(hb:∀ k,k<2->([a,b]:List Int).getD k default=0):orZ a b=0:=by
 unfold orZ;rw[co (show a=0 from hb 0 (by omega))];exact hb 1 (by omega)
noncomputable abbrev orbTe0 (w:World) (l0:Nat) (a b:Int) (i:Nat) (o:List (Nat×Nat×Bool)):=run w ⟨o,[],[]⟩ 57 18 kOr57_nl (orI l0 a b i) (orI l0 a b i)
noncomputable abbrev orbTnal (w:World) (l0:Nat) (a b:Int) (i:Nat) (o:List (Nat×Nat×Bool)):=run w ⟨o,[],[]⟩ 57 18 kOr57_nl (orI l0 a b i) (orI l0 a b (i+1))
noncomputable abbrev orbR (w:World) (l0:Nat) (a b:Int) (i:Nat) (o:List (Nat×Nat×Bool)):=runR w ⟨o,[],[]⟩ 57 18 Tryz.f57 kOr57_nl (orI l0 a b i) (rI (orZ a b))
theorem orb0 {w:World}(l0:Nat) (a b:Int) (i:Nat):orbR w l0 a b i [(57,9,true),(57,14,true)]=some (.ret,[decide ((i:Int)<2)=true,i<[a,b].length,i<[a,b].length,decide ([a,b].getD i default≠0)=true,Value.int IntKind.i64 (orZ a b)=ii ([a,b].getD i default)]):=by kernel_rfl
theorem orb1 {w:World}(l0:Nat) (a b:Int) (i:Nat):orbTnal w l0 a b i [(57,9,true),(57,14,false)]=some (.normal,[decide ((i:Int)<2)=true,i<[a,b].length,i<[a,b].length,decide ([a,b].getD i default≠0)=false,Gd ((i:Int)+1),sD w (.ls (lst l0 3 1 [a,b] fz)),ii 0=ii 0,ii 2=ii 2,ii (↑(i+1):Int)=Value.int IntKind.i64 ((i:Int)+1)]):=by kernel_rfl
theorem orb2 {w:World}(l0:Nat) (a b:Int) (i:Nat):orbTe0 w l0 a b i [(57,9,false)]=some (.exit 0,[decide ((i:Int)<2)=false,sD w (.ls (lst l0 3 1 [a,b] fz)),ii 0=ii 0,ii 2=ii 2,eA (ii (i:Int))]):=by kernel_rfl
theorem or_ok (hN:cU) (l0:Nat) (a b:Int):Says 57 [pZ2 l0 a b] (fun _=>rI (orZ a b)):=by
 intro w vs hG hp;refine ym hG hN (ex:=[]) kg (fn:=Tryz.f57) Tryz.func57 (c:=codeOf Tryz.f57) (by kernel_rfl) (args:=[pZ2 l0 a b]) (by kernel_rfl) hp (fun hR _ hA=>?_);refine jT (ora l0 a b) (hR _ rfl) hA (fun a1 w1 hA=>yu ?_);refine Ct (fun i=>orI l0 a b i) (fun i=>i<=2/\∀ k,k<i->([a,b]:List Int).getD k default=0) (fun i=>2-i) (L:=kOr57_n) (ks:=kOr57_nt) (id:=0) (c:=yE kOr57_n) (by kernel_rfl) 0 ⟨ju _,by omega⟩ hA (fun i a2 w2 hi hA=>?_);rcases jA (decide ((i:Int)<2)) with q9|q9
 ·skip
  have p9:=jh q9;rcases jA (decide (([a,b]:List Int).getD i default≠0)) with q14|q14
  ·skip
   have p14:=jh q14;have e0:=cQ (Value.int .i64) (or_at (a:=a) (b:=b) (i:=i) (by omega) hi.2 p14);refine kj (orb0 l0 a b i) (hR _ rfl) hA (by (repeat' (first|exact trivial|apply And.intro))<;>first|exact jq.refl _ _|exact fun _ _=>jW.refl _ _|exact cD rfl|exact cL _ _|exact cM _ _|(with_reducible assumption)|omega|with_reducible rfl|(simp only[cC];omega)|(intro j hj;exact absurd hj (cH _))|exact(show i<2 by omega)|exact e0|exact e0.symm|rfl)
  ·skip
   have p14:=jn q14;refine jT (orb1 l0 a b i) (hR _ rfl) hA (fun aT wT hT=>?_) (by (repeat' (first|exact trivial|apply And.intro))<;>first|exact jq.refl _ _|exact fun _ _=>jW.refl _ _|exact cD rfl|exact cL _ _|exact cM _ _|(with_reducible assumption)|omega|with_reducible rfl|(simp only[cC];omega)|(intro j hj;exact absurd hj (cH _))|exact(show i<2 by omega)|exact e0|exact e0.symm|rfl);exact jX (by kernel_rfl) ⟨i+1,⟨by omega,fun k hk=>by rcases Nat.lt_succ_iff_lt_or_eq.1 hk with h|rfl;exact hi.2 k h;simpa using p14⟩,hT,by omega⟩
 ·skip
  have p9:=jn q9;refine jT (orb2 l0 a b i) (hR _ rfl) hA (fun aT wT hT=>?_) (by (repeat' (first|exact trivial|apply And.intro))<;>first|exact jq.refl _ _|exact fun _ _=>jW.refl _ _|exact cD rfl|exact cL _ _|exact cM _ _|(with_reducible assumption)|omega|with_reducible rfl|(simp only[cC];omega)|(intro j hj;exact absurd hj (cH _))|exact(show i<2 by omega)|exact e0|exact e0.symm|rfl);refine kO _ (by kernel_rfl) ?_;rw[or_end (a:=a) (b:=b) (fun k hk=>hi.2 k (by omega))];exact kj (ore l0 a b i) (hR _ rfl) hT
theorem slc_z {lo lo' ty:Nat}{w0 w0' w:World}{a b:Int}{v:Value}(h:Pat.is (Cx false lo w0) w (.slc ty 2 [.lit (ii a),.lit (ii b)]) v):Pat.is (Cx false lo' w0') w (.one (.cls (.ls (lst 0 ty 1 [a,b] fz)))) v:=by
 obtain⟨k,o,c,arr,pre,vs,rest,rfl,h1,h2,h3,h4,h5⟩:=h;obtain⟨q1,q2,q3⟩:=h4;have q1:vs.take 1=[ii a]:=q1;have q2:(vs.drop 1).take 1=[ii b]:=q2;have q3:(vs.drop 1).drop 1=[]:=q3;have e:vs=[ii a,ii b]:=by
  rw[← kv 1 vs,q1,← kv 1 (vs.drop 1),q2,q3];rfl
 subst e;refine DIs.ls k o c arr pre _ rest h5 ⟨_,h1⟩ h2 h3 (by simp [lst]) (ju _) (fun v hv=>?_) (fun j hj=>?_)
 ·simp at hv;rcases hv with rfl|rfl<;>rfl
 ·have hj:j<2:=hj
  match j,hj with
  |0,_=>exact .lit .nil
  |1,_=>exact .lit .nil
def conOr:Con
 |[.slc 3 2 [.lit (.int .i64 a),.lit (.int .i64 b)]]=>some (vr (.int .i64 (orZ a b)),[])
 |_=>none
theorem cnY {lo:Nat}{w0:World}(hN:cU) (hG:Gr w0) (hlo:lo<=w0.heap.size):∀ l r ob,conOr l=some (r,ob)->jE ob->jG (Cx false lo w0) (.call 57) l r:=by
 intro l r ob h ho;unfold conOr at h;split at h
 ·injection h with h;injection h with h1 h2;subst h1;subst h2
  refine ccW ((or_ok hN 0 _ _).val hG hlo (cY Tryz.func57 (by kernel_rfl) rfl)) (fun w vs hv=>?_);obtain⟨v,_,rfl,h1,h2⟩:=hv;exact⟨v,_,rfl,slc_z h1,h2⟩
 ·cases h
abbrev fn1 (i:Nat):List (Grp Dx):=[.lit (ii (i:Int))]
abbrev pAg (lo:Nat) (s:R2) (U:List Nat) (d:Bool):Pat Dx:=.agg [.cls (.q s.1 4),.cls (.q s.2 4),.cls (.ls (lst lo 3 1 U fn1)),.lit (.bool d)]
abbrev exCp:List (Nat×Con):=[(58,conCz),(57,conOr)]
theorem exCp_ok {lo:Nat}{w0:World}(hN:cU) (hG:Gr w0) (hlo:lo<=w0.heap.size):zv false lo w0 exCp:=jg (cnP hN hG hlo) (jg (cnY hN hG hlo) kg)
noncomputable abbrev cptR (w:World) (l0 l1:Nat) (s t:R2) (U V:List Nat) (d d':Bool) (o:List (Nat×Nat×Bool)):=runR w ⟨o,[],exCp⟩ 27 21 Tryz.f27 kcompare27_ (stA [pAg l0 s U d,pAg l1 t V d']) (rI (orZ (JV U.length V.length) (jk s.2 t.2)))
theorem cpt0 {w:World}(l0 l1:Nat) (s t:R2) (U V:List Nat) (d d':Bool):cptR w l0 l1 s t U V d d' []=some (.ret,[4+4<=1000000,eA (Value.int IntKind.i64 (orZ (JV (U.length:Int) (V.length:Int)) (jk s.2 t.2)))]):=by kernel_rfl
theorem cp_ok (hN:cU) (l0 l1:Nat) (s t:R2) (U V:List Nat) (d d':Bool):Says 27 [pAg l0 s U d,pAg l1 t V d'] (fun _=>rI (orZ (JV U.length V.length) (jk s.2 t.2))):=by
 intro w vs hG hp;refine ym hG hN (ex:=exCp) (exCp_ok hN hG (cb _)) (fn:=Tryz.f27) Tryz.func27 (c:=codeOf Tryz.f27) (by kernel_rfl) (args:=[pAg l0 s U d,pAg l1 t V d']) (by kernel_rfl) hp (fun hR _ hA=>?_);refine kj (cpt0 l0 l1 s t U V d d') (hR _ rfl) hA
end Pe.F
namespace Pe.F
noncomputable def kagreed25_:List Kp:=[.code (codeOf Tryz.f25)]
noncomputable def kagreed25_n:List Kp:=next kagreed25_
noncomputable def kagreed25_nl:List Kp:=[.code (yE kagreed25_n)]
noncomputable def kagreed25_nt:List Kp:=kagreed25_n.tail
def chX:Con
 |[.agg [.cls (.q a j),.cls (.q b k)],.agg [.cls (.q x m)]]=>some (vr (.bool (kL (a,b) x)),[a<=b,j+k+m<=1000000])
 |_=>none
theorem ccL {bb:Bool}{lo:Nat}{w0:World}:∀ l r ob,chX l=some (r,ob)->jE ob->jG (Cx bb lo w0) (.call 26) l r:=by
 intro l res ob h ho;unfold chX at h;split at h
 ·rename_i a j b k x m;injection h with h;injection h with h1 h2;subst h1;subst h2
  obtain⟨hab,hk,_⟩:=ho;refine⟨cY Tryz.func26 (by kernel_rfl) rfl,fun w vs hb hvs=>?_⟩;obtain⟨v1,_,rfl,h1,v2,_,rfl,h2,rfl⟩:=hvs;obtain⟨h1,z1,z2⟩:=ckm (x:=a) (y:=b) (j:=j) (k:=k) rfl h1;obtain⟨h2,z3⟩:=ccQ (r:=x) (k:=m) rfl h2;refine(has_any v1 v2 a b x (j+k+m) w h1 h2 (z1.le (by omega)) (z2.le (by omega)) (z3.le (by omega)) (by omega)).mono fun _ _ h=>?_;have e:hasQ a b x=kL (a,b) x:=by unfold hasQ kL;rw[low_le hab,cll hab]
  rw[e] at h;exact res_v h
 ·cases h
def conMe:Con
 |[.agg [.cls (.q a 4),.cls (.q b 4)],.agg [.cls (.q c 4),.cls (.q d 4)]]=>some (Cd [pS (mx a c) 4 (mn b d) 4,.one (.lit (.bool true))],[a<=b,c<=d,mx a c<=mn b d])
 |_=>none
theorem con {lo:Nat}{w0:World}(hN:cU) (hG:Gr w0) (hlo:lo<=w0.heap.size):∀ l r ob,conMe l=some (r,ob)->jE ob->jG (Cx false lo w0) (.call 55) l r:=by
 intro l r ob h ho;unfold conMe at h;split at h
 ·injection h with h;injection h with h1 h2;subst h1;subst h2
  exact me_ent hN hG hlo ho.1 ho.2.1 ho.2.2.1
 ·cases h
abbrev exAg:List (Nat×Con):=[(26,chX),(55,conMe)]
theorem exAg_ok {lo:Nat}{w0:World}(hN:cU) (hG:Gr w0) (hlo:lo<=w0.heap.size):zv false lo w0 exAg:=jg ccL (jg (con hN hG hlo) kg)
abbrev agI (l0:Nat) (x zl zh:Rat) (L:List R2) (U:List Nat) (c i:Nat):St Dx:=⟨8,[(2,.val (.one (.sym 0 0))),(3,.val (.one (.ptr 4 0))),(6,.val (.one (.ptr 5 0))),(7,.val (.one (.ptr 6 0))),(12,.val (.one (.sym 0 0))),(13,.val (.one (.lit (ii (L.length:Int))))),(14,.val (.one (.lit (ii (i:Int)))))],[(0,.cls (.ls (lst l0 36 8 L fQ))),(1,.cls (.q x 4)),(2,.cls (.q zl 4)),(3,.cls (.q zh 4)),(4,.blk 34 [.sym 1 0,.sym 1 1,.sym 1 2,.sym 1 3] none),(5,.blk 46 [.lit (.bool false),.lit (.int .u64 0),.lit (.int .u64 0),.lit (.pointer none),.lit (.bool false),.lit (.int .u64 0),.lit (.int .u64 0),.lit (.pointer none),.lit (.slice none 0 0),.lit (.bool false)] none),(6,.blk 46 [.sym 2 0,.sym 2 1,.sym 2 2,.sym 2 3,.sym 3 0,.sym 3 1,.sym 3 2,.sym 3 3,.fn 7,.lit (.bool false)] none),(7,.gl 3 1 c (fun j=>fn1 (U.getD j default)))],[]⟩
theorem aga {w:World}(l0:Nat) (x:Rat) (e:R2) (L:List R2) (U:List Nat):run w ⟨[],[],exAg⟩ 25 45 kagreed25_ (stA [pQ x 4,pS e.1 4 e.2 4,pSl l0 L]) (agI l0 x e.1 e.2 L U 0 0)=some (.normal,[sD w (.ls (lst l0 36 8 L fQ)),sD w (.q x 4),sD w (.q e.1 4),sD w (.q e.2 4)]++(zV++(zV++[eA (Value.slice none 0 0),eA (Value.bool false),eA (Value.bool false),0=0,0=0,0=0,0=0,ii (L.length:Int)=goInt (L.length:Int),ii (↑0:Int)=Value.int IntKind.i64 0]))):=by kernel_rfl
theorem agb1 {w:World}(l0:Nat) (x zl zh:Rat) (L:List R2) (U:List Nat) (c i:Nat):run w ⟨[(25,15,true),(25,21,true)],[(25,34)],exAg⟩ 25 45 kagreed25_nl (agI l0 x zl zh L U c i) (agI l0 x (mx zl (L.getD i default).1) (mn zh (L.getD i default).2) L U (c+1) (i+1))=some (.normal,[decide ((i:Int)<(L.length:Int))=true,i<L.length,i<L.length,kL ((L.getD i default).1,(L.getD i default).2) x=true,(L.getD i default).1<=(L.getD i default).2,4+4+4<=1000000,zl<=zh,(L.getD i default).1<=(L.getD i default).2,mx zl (L.getD i default).1<=mn zh (L.getD i default).2,c+1<=1000000,Gd ((i:Int)+1),sD w (.ls (lst l0 36 8 L fQ)),sD w (.q x 4),sD w (.q (mx zl (L.getD i default).1) 4),sD w (.q (mn zh (L.getD i default).2) 4)]++(zV++(zV++[eA (Value.slice none 0 0),eA (Value.bool false),eA (Value.bool false),c+1=c+1,sN w c (fun j=>fn1 (U.getD j default)) [Grp.lit (ii (i:Int))],0=0,0=0,0=0,eA (ii (L.length:Int)),ii (↑(i+1):Int)=Value.int IntKind.i64 ((i:Int)+1)]))):=by kernel_rfl
theorem agb2 {w:World}(l0:Nat) (x zl zh:Rat) (L:List R2) (U:List Nat) (c i:Nat):run w ⟨[(25,15,true),(25,21,false)],[],exAg⟩ 25 45 kagreed25_nl (agI l0 x zl zh L U c i) (agI l0 x zl zh L U c (i+1))=some (.normal,[decide ((i:Int)<(L.length:Int))=true,i<L.length,i<L.length,kL ((L.getD i default).1,(L.getD i default).2) x=false,(L.getD i default).1<=(L.getD i default).2,4+4+4<=1000000,Gd ((i:Int)+1),sD w (.ls (lst l0 36 8 L fQ)),sD w (.q x 4),sD w (.q zl 4),sD w (.q zh 4)]++(zV++(zV++[eA (Value.slice none 0 0),eA (Value.bool false),eA (Value.bool false),c=c,sG w c (fun j=>fn1 (U.getD j default)),0=0,0=0,0=0,eA (ii (L.length:Int)),ii (↑(i+1):Int)=Value.int IntKind.i64 ((i:Int)+1)]))):=by kernel_rfl
theorem agc {w:World}(l0:Nat) (x zl zh:Rat) (L:List R2) (U:List Nat) (c i:Nat):run w ⟨[(25,15,false)],[],exAg⟩ 25 45 kagreed25_nl (agI l0 x zl zh L U c i) (agI l0 x zl zh L U c i)=some (.exit 0,[decide ((i:Int)<(L.length:Int))=false,sD w (.ls (lst l0 36 8 L fQ)),sD w (.q x 4),sD w (.q zl 4),sD w (.q zh 4)]++(zV++(zV++[eA (Value.slice none 0 0),eA (Value.bool false),eA (Value.bool false),c=c,sG w c (fun j=>fn1 (U.getD j default)),0=0,0=0,0=0,eA (ii (L.length:Int)),eA (ii (i:Int))]))):=by kernel_rfl
theorem agd1 {w:World}(l0:Nat) (x zl zh:Rat) (L:List R2) (U:List Nat) (i:Nat):runR w ⟨[(25,42,true)],[],exAg⟩ 25 45 Tryz.f25 kagreed25_nt (agI l0 x zl zh L U U.length i) [pAg w.heap.size (zl,zh) U true]=some (.ret,[decide ((U.length:Int)<(L.length:Int))=true,sD w (.q zl 4),sD w (.q zh 4),jq (W0 w) (.ls (lst w.1.size 3 1 U fn1)) (.ls { lo:=w.1.size,ty:=3,z:=1,n:=U.length,g:=fun(j:Nat)=>fn1 (U.getD j default) }),eA (Value.bool true),kE (W0 w) (.q zl 4),kE (W0 w) (.q zh 4),kE (W0 w) (.ls (lst w.1.size 3 1 U fn1))]):=by kernel_rfl
theorem agd2 {w:World}(l0:Nat) (x zl zh:Rat) (L:List R2) (U:List Nat) (i:Nat):runR w ⟨[(25,42,false)],[],exAg⟩ 25 45 Tryz.f25 kagreed25_nt (agI l0 x zl zh L U U.length i) [pAg w.heap.size (zl,zh) U false]=some (.ret,[decide ((U.length:Int)<(L.length:Int))=false,sD w (.q zl 4),sD w (.q zh 4),jq (W0 w) (.ls (lst w.1.size 3 1 U fn1)) (.ls { lo:=w.1.size,ty:=3,z:=1,n:=U.length,g:=fun(j:Nat)=>fn1 (U.getD j default) }),eA (Value.bool false),kE (W0 w) (.q zl 4),kE (W0 w) (.q zh 4),kE (W0 w) (.ls (lst w.1.size 3 1 U fn1))]):=by kernel_rfl
abbrev dA (L:List R2) (x:Rat):Bool:=decide ((nU L x:Int)<(L.length:Int))
theorem cmh (hN:cU) (l0:Nat) (x:Rat) (e:R2) (L:List R2) (hl:L.length<=100000) (he:kL e x=true) (hL:∀ i,i<L.length->(L.getD i default).1<=(L.getD i default).2):Says 25 [pQ x 4,pS e.1 4 e.2 4,pSl l0 L] (fun lo=>[pAg lo (zS e L x L.length) (uS L x L.length) (dA L x)]):=by
 intro w vs hG hp;refine ym hG hN (ex:=exAg) (exAg_ok hN hG (cb _)) (fn:=Tryz.f25) Tryz.func25 (c:=codeOf Tryz.f25) (by kernel_rfl) (args:=[pQ x 4,pS e.1 4 e.2 4,pSl l0 L]) (by kernel_rfl) hp (fun hR _ hA=>?_);refine jT (aga l0 x e L (uS L x L.length)) (hR _ rfl) hA (fun a1 w1 hA=>yu ?_);refine Ct (fun i=>agI l0 x (zS e L x i).1 (zS e L x i).2 L (uS L x L.length) (uS L x i).length i) (fun i=>i<=L.length) (fun i=>L.length-i) (L:=kagreed25_n) (ks:=kagreed25_nt) (id:=0) (c:=yE kagreed25_n) (by kernel_rfl) 0 (ju _) hA (fun i a2 w2 hi hA=>?_);rcases jA (decide ((i:Int)<(L.length:Int))) with q15|q15
 ·have p15:=jh q15;have hlt:i<L.length:=by omega
  have hu:=u_len (L:=L) (x:=x) i;have hf:=hL i hlt;rcases jA (kL (L.getD i default) x) with q21|q21
  ·have hz:=z_le (L:=L) he i;have hz2:=z_le (L:=L) he (i+1);rw[z_yes q21] at hz2;have hs:=cQ fn1 (u_at hlt q21);refine jT (agb1 l0 x (zS e L x i).1 (zS e L x i).2 L (uS L x L.length) (uS L x i).length i) (hR _ rfl) hA (fun a3 w3 hA=>jX (by kernel_rfl) ⟨i+1,hlt,?_,by omega⟩) (by (repeat' (first|exact trivial|apply And.intro))<;>first|exact jq.refl _ _|exact fun _ _=>jW.refl _ _|exact cD rfl|exact cL _ _|exact cM _ _|(with_reducible assumption)|omega|with_reducible rfl|(simp only[cC];omega)|(intro j hj;exact absurd hj (cH _))|exact q21|exact hf|exact hz|exact hz2|exact cD hs.symm|rfl);have hk:(uS L x (i+1)).length=(uS L x i).length+1:=by rw[clJ q21];simp
   rw[z_yes q21,hk];exact hA
  ·refine jT (agb2 l0 x (zS e L x i).1 (zS e L x i).2 L (uS L x L.length) (uS L x i).length i) (hR _ rfl) hA (fun a3 w3 hA=>jX (by kernel_rfl) ⟨i+1,hlt,?_,by omega⟩) (by (repeat' (first|exact trivial|apply And.intro))<;>first|exact jq.refl _ _|exact fun _ _=>jW.refl _ _|exact cD rfl|exact cL _ _|exact cM _ _|(with_reducible assumption)|omega|with_reducible rfl|(simp only[cC];omega)|(intro j hj;exact absurd hj (cH _))|exact q21|exact hf|rfl);rw[z_no q21,u_no q21];exact hA
 ·have p15:=jn q15;obtain rfl:i=L.length:=by omega
  refine jT (agc l0 x (zS e L x L.length).1 (zS e L x L.length).2 L (uS L x L.length) (uS L x L.length).length L.length) (hR _ rfl) hA (fun a3 w3 hA=>kO _ (by kernel_rfl) ?_);rcases jA (dA L x) with q42|q42
  ·rw[q42];exact kj (agd1 l0 x (zS e L x L.length).1 (zS e L x L.length).2 L (uS L x L.length) L.length) (hR _ rfl) hA (by (repeat' (first|exact trivial|apply And.intro))<;>first|exact jq.refl _ _|exact fun _ _=>jW.refl _ _|exact cD rfl|exact cL _ _|exact cM _ _|(with_reducible assumption)|omega|with_reducible rfl|(simp only[cC];omega)|(intro j hj;exact absurd hj (cH _))|exact q42|(refine Wu (cb _) ?_;intro j hj d hd;simp [lst,zC] at hd)|rfl)
  ·rw[q42];exact kj (agd2 l0 x (zS e L x L.length).1 (zS e L x L.length).2 L (uS L x L.length) L.length) (hR _ rfl) hA (by (repeat' (first|exact trivial|apply And.intro))<;>first|exact jq.refl _ _|exact fun _ _=>jW.refl _ _|exact cD rfl|exact cL _ _|exact cM _ _|(with_reducible assumption)|omega|with_reducible rfl|(simp only[cC];omega)|(intro j hj;exact absurd hj (cH _))|exact q42|(refine Wu (cb _) ?_;intro j hj d hd;simp [lst,zC] at hd)|rfl)
theorem ccy {lo l0:Nat}{w0:World}{x:Rat}{e:R2}{L:List R2}(hN:cU) (hG:Gr w0) (hlo:lo<=w0.heap.size) (hl:L.length<=100000) (he:kL e x=true) (hL:∀ i,i<L.length->(L.getD i default).1<=(L.getD i default).2):jG (Cx false lo w0) (.call 25) [pQ x 4,pS e.1 4 e.2 4,pSl l0 L] (Cd [pAg lo (zS e L x L.length) (uS L x L.length) (dA L x)]) :=
 (cmh hN l0 x e L hl he hL).ent hG hlo (cY Tryz.func25 (by kernel_rfl) rfl) (fun hi h=>⟨_,rfl,jq.refl _ _,jq.refl _ _,ccU (L:=lst lo _ 1 _ fn1) h,rfl,trivial⟩)
end Pe.F
end Go.Proofs.YtdopipkmcnkdjaaGreatDoor
