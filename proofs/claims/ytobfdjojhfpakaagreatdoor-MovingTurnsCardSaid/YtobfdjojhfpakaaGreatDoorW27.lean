/- Part 27. -/
import Derived.Test.YtobfdjojhfpakaaGreatDoorW26
set_option linter.all false
open Bool (and_eq_true eq_false_or_eq_true or_eq_false_iff or_eq_true)
open List (take_length)
open Nat (le_refl le_trans lt_or_ge not_lt_zero zero_le)
noncomputable section

namespace Go.Proofs.YtobfdjojhfpakaaGreatDoor
open Go Go.RowKit Go.Proofs
namespace Pe
variable {D:Type}
inductive Kp where
 |code (c:Code)
 |endB (id:Nat)
section
variable (F:Fence) (m:Nat) (P:Program)
def after:List Kp->(Exit->Act->World->Prop)->Exit->Act->World->Prop
 |[],Q=>Q
 |.code c::ks,Q=>Exit.then (fun a w=>c.wpIn F m P (after ks Q) a w) (after ks Q)
 |.endB id::ks,Q=>Exit.inBlock id (after ks Q)
end
def Cf:Code->Bool
 |.loop _=>true
 |.seq x y=>match Cf x with
  |true=>true
  |false=>Cf y
 |.block _ c=>Cf c
 |.cond _ c d=>match Cf c with
  |true=>true
  |false=>Cf d
 |_=>false
def isLoop:Code->Bool
 |.loop _=>true
 |_=>false
def kq:Nat->List Kp->List Code×List Kp
 |n+1,.code (.seq x y)::ks=>kq n (.code x::.code y::ks)
 |n+1,.code c::ks=>match Cf c with
  |true=>([],.code c::ks)
  |false=>match kq n ks with
   |(l,r)=>(c::l,r)
 |_,ks=>([],ks)
def ccb (ks:List Kp):List Code:=(kq 1000 ks).1
def cbA (ks:List Kp):List Kp:=(kq 1000 ks).2
def cco:Nat->List Kp->List Kp
 |n+1,.endB _::ks=>cco n ks
 |n+1,.code (.block id c)::ks=>match isLoop c with
  |true=>.code (.block id c)::ks
  |false=>match Cf c with
   |true=>cco n (.code c::.endB id::ks)
   |false=>.code (.block id c)::ks
 |_,ks=>ks
def next (ks:List Kp):List Kp:=cco 100 (cbA ks)
def ug:List Kp->Code
 |.code (.block _ (.loop c))::_=>c
 |_=>.skip
def popK (j:Nat):List Kp->List Kp
 |.endB id::ks=>match Nat.beq j id with
  |true=>ks
  |false=>popK j ks
 |_::ks=>popK j ks
 |[]=>[]
def Yk (j:Nat):List Kp->Bool
 |.endB id::ks=>match Nat.beq j id with
  |true=>true
  |false=>Yk j ks
 |_::ks=>Yk j ks
 |[]=>false
def zN (S:Stat D) (TT:FuncId->Tab D) (CF YF:cr D) (nt:Nat) (base:cH D) (fid:FuncId) (inR:Bool) (n:Nat):List Code->St D->Ran D
 |[],st=>some (.normal,st,[])
 |c::l,st=>match kV S TT CF YF nt base fid inR n c st with
  |some (.normal,st',ob)=>match zN S TT CF YF nt base fid inR n l st' with
   |some (x,st2,ob2)=>some (x,st2,ob++ob2)
   |none=>none
  |r=>r
def runTo (C:Ctx D) (TT:FuncId->Tab D) (CF YF:cr D) (nt:Nat) (fid:FuncId) (inR:Bool) (n:Nat) (l:List Code) (st st':St D):Option (Xt×List Prop) :=
 match zN C.toStat TT CF YF nt (fun b=>find b st.m) fid inR n l ⟨st.nb,st.sl,[],st.ms⟩ with
 |some (x,s1,ob)=>match fitTo C (st.join s1) st' with
  |some ob2=>some (x,ob++ob2)
  |none=>none
 |none=>none
section
variable {F:Fence}{m:Nat}{C:Ctx D}{TT:FuncId->Tab D}{CF YF:cr D}{nt:Nat}{fid:FuncId}{inR:Bool}{Q:Exit->Act->World->Prop}{a:Act}{w:World}{st st':St D}
theorem UA:∀ (ks:List Kp) {a:Act}{w:World},Q .ret a w->after F m C.P ks Q .ret a w
 |[],_,_,h=>h
 |.code _::ks,_,_,h=>UA ks h
 |.endB _::ks,_,_,h=>UA ks h
theorem kT {j:Nat}:∀ (ks:List Kp) {a:Act}{w:World},Yk j ks=false->Q (.exit j) a w->after F m C.P ks Q (.exit j) a w
 |[],_,_,_,hq=>hq
 |.code _::ks,_,_,h,hq=>kT ks (by simpa [Yk] using h) hq
 |.endB id::ks,_,_,h,hq=>by
  simp only[Yk] at h;simp only[after,Exit.inBlock];split at h
  ·cases h
  ·rename_i hj;rw[if_neg (fun e=>by subst e;simp at hj)];exact kT ks h hq
theorem ccj (hW:Wd F) (hR:inR=false->F=Fence.wide) (hC:C.Ok) (hT:∀ f,(TT f).Ok C) (hF:CF.Ok C) (hFm:CF.Mono) (hY:uT C YF) (hYm:YF.Mono) {e0:Env}{w0:World}{n0:Nat}{base:cH D}(hb:cX C e0 w0 base) {B:Nat}(hfree:kF n0 B e0) {n:Nat} :
 ∀ (k:Nat) (ks:List Kp) (st:St D) (x:Xt) (st':St D) (ob:List Prop),zN C.toStat TT CF YF nt base fid inR n (kq k ks).1 st=some (x,st',ob)->jr ob->st'.nb<=B->
 ∀ a w,Sat C nt e0 w0 n0 st a w->(∀ a' w',Sat C nt e0 w0 n0 st' a' w'->after F m C.P (kq k ks).2 Q x.to a' w')->after F m C.P ks Q .normal a w:=by
 have stop:∀ (ks:List Kp) (st:St D) (x:Xt) (st':St D) (ob:List Prop),zN C.toStat TT CF YF nt base fid inR n [] st=some (x,st',ob)->∀ a w,Sat C nt e0 w0 n0 st a w->(∀ a' w',Sat C nt e0 w0 n0 st' a' w'->after F m C.P ks Q x.to a' w')->after F m C.P ks Q .normal a w:=by
  intro ks st x st' ob h a w hs hQ;simp only[zN,Option.some.injEq,Prod.mk.injEq] at h;obtain⟨rfl,rfl,rfl⟩:=h;exact hQ a w hs
 have one:∀ (k:Nat) (c:Code) (ks:List Kp) (ih:∀ (st:St D) (x:Xt) (st':St D) (ob:List Prop),zN C.toStat TT CF YF nt base fid inR n (kq k ks).1 st=some (x,st',ob)->jr ob->st'.nb<=B->
  ∀ a w,Sat C nt e0 w0 n0 st a w->(∀ a' w',Sat C nt e0 w0 n0 st' a' w'->after F m C.P (kq k ks).2 Q x.to a' w')->after F m C.P ks Q .normal a w) (out:∀ (x:Xt) a w,x≠.normal->after F m C.P (kq k ks).2 Q x.to a w->after F m C.P ks Q x.to a w)
  (hle:∀ st x st' ob,zN C.toStat TT CF YF nt base fid inR n (kq k ks).1 st=some (x,st',ob)->st.nb<=st'.nb)
  (st:St D) (x:Xt) (st':St D) (ob:List Prop),zN C.toStat TT CF YF nt base fid inR n (c::(kq k ks).1) st=some (x,st',ob)->jr ob->st'.nb<=B->
  ∀ a w,Sat C nt e0 w0 n0 st a w->(∀ a' w',Sat C nt e0 w0 n0 st' a' w'->after F m C.P (kq k ks).2 Q x.to a' w')->c.wpIn F m C.P (after F m C.P ks Q) a w:=by
  intro k c ks ih out hle st x st' ob h ho hB a w hs hQ;simp only[zN] at h;split at h
  ·rename_i st1 ob1 h1;split at h
   ·rename_i x2 st2 ob2 h2;injection h with h;simp only[Prod.mk.injEq] at h
    obtain⟨rfl,rfl,rfl⟩:=h;obtain⟨o1,o2⟩:=ho.append;refine wpIn_mono (jJ hW hR hC hT hF hFm hY hYm hb hfree n c st _ st1 ob1 h1 o1 (le_trans (hle _ _ _ _ h2) hB) a w hs) ?_;rintro e a' w' ⟨rfl,hs'⟩;exact ih st1 x2 st2 ob2 h2 o2 hB a' w' hs' hQ
   ·cases h
  ·rename_i hne;refine wpIn_mono (jJ hW hR hC hT hF hFm hY hYm hb hfree n c st _ _ _ h ho hB a w hs) ?_;rintro e a' w' ⟨rfl,hs'⟩;exact out x a' w' (fun hx=>by subst hx;exact hne _ _ h) (hQ a' w' hs')
 have outs:∀ (k:Nat) (ks:List Kp) (x:Xt) a w,x≠.normal->after F m C.P (kq k ks).2 Q x.to a w->after F m C.P ks Q x.to a w:=by
  intro k
  induction k with
  |zero=>intro ks x a w _ h;cases ks<;>exact h
  |succ k ih =>
   intro ks x a w hx h
   match ks with
   |[]=>exact h
   |.endB id::ks=>exact h
   |.code c::ks =>
    have pass:∀ (c:Code) (ks:List Kp),after F m C.P ks Q x.to a w->after F m C.P (.code c::ks) Q x.to a w:=by
     intro c ks h;cases x with
     |normal=>exact absurd rfl hx
     |exit j=>exact h
     |ret=>exact h
    have gen:∀ c:Code,(∀ x y,c≠.seq x y)->after F m C.P (kq (k+1) (.code c::ks)).2 Q x.to a w->after F m C.P (.code c::ks) Q x.to a w:=by
     intro c hc h;have hg:kq (k+1) (.code c::ks)=(match Cf c with
      |true=>([],.code c::ks)
      |false=>match kq k ks with
       |(l,r)=>(c::l,r)):=by
      cases c<;>first|rfl|exact absurd rfl (hc _ _)
     rw[hg] at h;split at h
     ·exact h
     ·exact pass c ks (ih ks x a w hx h)
    cases c with
    |seq y z =>
     have:=ih (.code y::.code z::ks) x a w hx h;cases x with
     |normal=>exact absurd rfl hx
     |exit j=>exact this
     |ret=>exact this
    |_=>exact gen _ (by simp) h
 have les:∀ (l:List Code) (st:St D) (x:Xt) (st':St D) (ob:List Prop),zN C.toStat TT CF YF nt base fid inR n l st=some (x,st',ob)->st.nb<=st'.nb:=by
  intro l
  induction l with
  |nil=>intro st x st' ob h;simp only[zN,Option.some.injEq,Prod.mk.injEq] at h;rw[h.2.1];exact le_refl _
  |cons c l ih =>
   intro st x st' ob h;simp only[zN] at h;split at h
   ·rename_i st1 ob1 h1;split at h
    ·rename_i x2 st2 ob2 h2;injection h with h;simp only[Prod.mk.injEq] at h
     obtain⟨rfl,rfl,rfl⟩:=h;exact le_trans (kj hFm hYm _ _ _ _ _ _ h1) (ih _ _ _ _ h2)
    ·cases h
   ·exact kj hFm hYm _ _ _ _ _ _ h
 intro k
 induction k with
 |zero=>intro ks st x st' ob h ho hB a w hs hQ;cases ks<;>exact stop _ st x st' ob h a w hs hQ
 |succ k ih =>
  intro ks st x st' ob h ho hB a w hs hQ
  match ks with
  |[]=>exact stop _ st x st' ob h a w hs hQ
  |.endB id::ks=>exact stop _ st x st' ob h a w hs hQ
  |.code c::ks =>
   have gen:∀ c:Code,(∀ x y,c≠.seq x y)->zN C.toStat TT CF YF nt base fid inR n (kq (k+1) (.code c::ks)).1 st=some (x,st',ob)->(∀ a' w',Sat C nt e0 w0 n0 st' a' w'->after F m C.P (kq (k+1) (.code c::ks)).2 Q x.to a' w')->after F m C.P (.code c::ks) Q .normal a w:=by
    intro c hc h hQ;have hg:kq (k+1) (.code c::ks)=(match Cf c with
     |true=>([],.code c::ks)
     |false=>match kq k ks with
      |(l,r)=>(c::l,r)):=by
     cases c<;>first|rfl|exact absurd rfl (hc _ _)
    rw[hg] at h hQ;split at h
    ·rename_i hl;rw[hl] at hQ;exact stop _ st x st' ob h a w hs hQ
    ·rename_i hl;rw[hl] at hQ;exact one k c ks (ih ks) (outs k ks) (les _) st x st' ob h ho hB a w hs hQ
   cases c with
   |seq y z =>
    show (Code.seq y z).wpIn F m C.P (after F m C.P ks Q) a w;apply wpIn_seq;exact ih (.code y::.code z::ks) st x st' ob h ho hB a w hs hQ
   |_=>exact gen _ (by simp) h hQ
theorem Jb (hR:Gg C TT) (hW:Wd F) (hI:inR=false->F=Fence.wide) {g d n:Nat}{ks:List Kp}{x:Xt}{ob:List Prop}(h:runTo C TT (yy C.toStat TT g d).1 (yy C.toStat TT g d).2 nt fid inR n (ccb ks) st st'=some (x,ob)) (ho:jr ob)
 (hA:At C nt st a w) (hQ:∀ a' w',At C nt st' a' w'->after F m C.P (cbA ks) Q x.to a' w'):after F m C.P ks Q .normal a w:=by
 unfold runTo at h;split at h
 rotate_left
 ·cases h
 rename_i x1 s1 ob1 he;split at h
 rotate_left
 ·cases h
 rename_i ob2 hf;injection h with h;simp only[Prod.mk.injEq] at h;obtain⟨rfl,rfl⟩:=h
 obtain⟨o1,o2⟩:=ho.append;obtain⟨⟨e,hg,hM,hV,hfr,hmk⟩,hsz⟩:=hA;have hFm:=(jQ (S:=C.toStat) (TT:=TT) (g:=g) d).1;have hYm:=(jQ (S:=C.toStat) (TT:=TT) (g:=g) d).2;have hle:(⟨st.nb,st.sl,[],st.ms⟩:St D).nb<=s1.nb:=execL_le he;have hle:st.nb<=s1.nb:=hle;refine ccj hW hI hR.ok hR.tab (zd hR.ok hR.name hR.tab d).1 hFm (zd hR.ok hR.name hR.tab d).2 hYm hM (B:=s1.nb) (fun b h1 _=>hfr b h1) 1000 ks _ x1 s1 ob1 he o1 (le_refl _) a w ⟨⟨e,kR.refl hg _,hV,hmk⟩,hsz⟩ ?_;rintro a' w' ⟨⟨e',hL,hV',hmk'⟩,hsz'⟩;refine hQ a' w' (cip hR.ok hf o2 ⟨⟨e',hL.good,fun b o ho=>?_,hV',fun b hb=>?_,hmk'⟩,hsz'⟩)
 ·exact kK hM hL b o (by rw[UE];exact ho)
 ·obtain⟨q1,q2,q3⟩:=hfr b (le_trans hle hb);have hb:s1.nb<=b:=hb;refine⟨?_,?_,?_⟩
  ·cases hx:e'.ρ b with
   |none=>rfl
   |some y =>
    rcases hL.new.ρ b y hx with h|h
    ·rw[q1] at h;cases h
    ·omega
  ·cases hx:e'.ν b with
   |none=>rfl
   |some y =>
    rcases hL.new.ν b y hx with h|h
    ·rw[q2] at h;cases h
    ·omega
  ·cases hx:e'.φ b with
   |none=>rfl
   |some y =>
    rcases hL.new.φ b y hx with h|h
    ·rw[q3] at h;cases h
    ·omega
where
 execL_le {l:List Code} {base:cH D} {n d g:Nat} {st st':St D} {x:Xt} {ob:List Prop} (h:zN C.toStat TT (yy C.toStat TT g d).1 (yy C.toStat TT g d).2 nt base fid inR n l st=some (x,st',ob)):st.nb<=st'.nb:=by
  induction l generalizing st st' x ob with
  |nil=>simp only[zN,Option.some.injEq,Prod.mk.injEq] at h;rw[h.2.1];exact le_refl _
  |cons c l ih =>
   simp only[zN] at h;split at h
   ·rename_i st1 ob1 h1;split at h
    ·rename_i x2 st2 ob2 h2;injection h with h;simp only[Prod.mk.injEq] at h
     obtain⟨rfl,rfl,rfl⟩:=h;exact le_trans (kj (jQ d).1 (jQ d).2 _ _ _ _ _ _ h1) (ih h2)
    ·cases h
   ·exact kj (jQ d).1 (jQ d).2 _ _ _ _ _ _ h
theorem cbE:∀ (n:Nat) (ks:List Kp) {a:Act}{w:World},after F m C.P (cco n ks) Q .normal a w->after F m C.P ks Q .normal a w
 |0,ks,a,w,h=>by cases ks<;>exact h
 |n+1,[],a,w,h=>h
 |n+1,.endB id::ks,a,w,h=>cbE n ks h
 |n+1,.code c::ks,a,w,h=>by
  cases c with
  |block id c =>
   unfold cco at h;split at h
   ·exact h
   ·split at h
    ·exact wpIn_block (cbE n (.code c::.endB id::ks) h)
    ·exact h
  |_=>exact h
theorem ki {ks:List Kp}(h:after F m C.P (next ks) Q .normal a w):after F m C.P (cbA ks) Q .normal a w:=cbE _ _ h
theorem yw {Θ:Type}(I:Θ->St D) (J:Θ->Prop) (μ:Θ->Nat) {id:Nat}{c:Code}{L ks:List Kp}(hL:L=.code (.block id (.loop c))::ks) (θ0:Θ) (h0:J θ0) (hA:At C nt (I θ0) a w)
 (hr:∀ θ a w,J θ->At C nt (I θ) a w->after F m C.P [.code c] (Exit.then (fun a' w'=>∃ θ',J θ'/\At C nt (I θ') a' w'/\μ θ'<μ θ) (Exit.inBlock id (after F m C.P ks Q))) .normal a w):after F m C.P L Q .normal a w:=by
 subst hL;exact loop_at I J μ θ0 h0 hA hr
end
def ced (C:Ctx D) (TT:FuncId->Tab D) (CF YF:cr D) (nt:Nat) (fid:FuncId) (inR:Bool) (n:Nat) (l:List Code) (rs:List ResultVar) (st:St D) (ps:List (Pat D)):Option (Xt×List Prop) :=
 match zN C.toStat TT CF YF nt (fun b=>find b st.m) fid inR n l ⟨st.nb,st.sl,[],st.ms⟩ with
 |some (.ret,s1,ob)=>match cfq C rs (st.join s1) ps with
  |some ob2=>some (.ret,ob++ob2)
  |none=>none
 |_=>none
section
variable {F:Fence}{m:Nat}{C:Ctx D}{TT:FuncId->Tab D}{CF YF:cr D}{nt:Nat}{fid:FuncId}{inR:Bool}{Q:Exit->Act->World->Prop}{a:Act}{w:World}{st st':St D}
theorem GD (hR:Gg C TT) (hW:Wd F) (hI:inR=false->F=Fence.wide) {g d n:Nat}{ks:List Kp}{fn:Func}{ps:List (Pat D)}{ob:List Prop}(h:ced C TT (yy C.toStat TT g d).1 (yy C.toStat TT g d).2 nt fid inR n (ccb ks) fn.results.toList st ps=some (.ret,ob)) (ho:jr ob)
 (hA:At C nt st a w) (hQ:∀ a' w',Ret C fn (Res C ps) .ret a' w'->Q .ret a' w'):after F m C.P ks Q .normal a w:=by
 unfold ced at h;split at h
 rotate_left
 ·cases h
 rename_i s1 ob1 he;split at h
 rotate_left
 ·cases h
 rename_i ob2 hf;injection h with h;simp only[Prod.mk.injEq] at h;obtain⟨_,rfl⟩:=h
 obtain⟨o1,o2⟩:=ho.append;obtain⟨⟨e,hg,hM,hV,hfr,hmk⟩,hsz⟩:=hA;have hFm:=(jQ (S:=C.toStat) (TT:=TT) (g:=g) d).1;have hYm:=(jQ (S:=C.toStat) (TT:=TT) (g:=g) d).2;have hle:(⟨st.nb,st.sl,[],st.ms⟩:St D).nb<=s1.nb:=Jb.execL_le he;have hle:st.nb<=s1.nb:=hle;refine ccj hW hI hR.ok hR.tab (zd hR.ok hR.name hR.tab d).1 hFm (zd hR.ok hR.name hR.tab d).2 hYm hM (B:=s1.nb) (fun b h1 _=>hfr b h1) 1000 ks _ .ret s1 ob1 he o1 (le_refl _) a w ⟨⟨e,kR.refl hg _,hV,hmk⟩,hsz⟩ ?_;rintro a' w' ⟨⟨e',hL,hV',hmk'⟩,hsz'⟩;refine UA _ (hQ a' w' (ret_at hR.ok hf o2 (nt:=nt) ⟨⟨e',hL.good,fun b o ho=>?_,hV',fun b hb=>?_,hmk'⟩,hsz'⟩ (.inl rfl)))
 ·exact kK hM hL b o (by rw[UE];exact ho)
 ·obtain⟨q1,q2,q3⟩:=hfr b (le_trans hle hb);have hb:s1.nb<=b:=hb;refine⟨?_,?_,?_⟩
  ·cases hx:e'.ρ b with
   |none=>rfl
   |some y =>
    rcases hL.new.ρ b y hx with h|h
    ·rw[q1] at h;cases h
    ·omega
  ·cases hx:e'.ν b with
   |none=>rfl
   |some y =>
    rcases hL.new.ν b y hx with h|h
    ·rw[q2] at h;cases h
    ·omega
  ·cases hx:e'.φ b with
   |none=>rfl
   |some y =>
    rcases hL.new.φ b y hx with h|h
    ·rw[q3] at h;cases h
    ·omega
def cet (C:Ctx D) (TT:FuncId->Tab D) (CF YF:cr D) (nt:Nat) (fid:FuncId) (n:Nat) (c:Code) (rs:List ResultVar) (st:St D) (ps:List (Pat D)):Option (Xt×List Prop) :=
 match kV C.toStat TT CF YF nt (fun b=>find b st.m) fid false n c ⟨st.nb,st.sl,[],st.ms⟩ with
 |some (.ret,s1,ob)=>match cfq C rs (st.join s1) ps with
  |some ob2=>some (.ret,ob++ob2)
  |none=>none
 |_=>none
theorem all_is (hR:Gg C TT) {g d n:Nat}{c:Code}{fn:Func}{ps:List (Pat D)}{ob:List Prop}(h:cet C TT (yy C.toStat TT g d).1 (yy C.toStat TT g d).2 nt fid n c fn.results.toList st ps=some (.ret,ob)) (ho:jr ob)
 (hA:At C nt st a w):c.wpIn Fence.wide m C.P (Ret C fn (Res C ps)) a w:=by
 unfold cet at h;split at h
 rotate_left
 ·cases h
 rename_i s1 ob1 he;split at h
 rotate_left
 ·cases h
 rename_i ob2 hf;injection h with h;simp only[Prod.mk.injEq] at h;obtain⟨_,rfl⟩:=h
 obtain⟨o1,o2⟩:=ho.append;exact jt (.inl rfl) (fun _=>rfl) hR.ok hR.tab (zd hR.ok hR.name hR.tab d).1 (jQ d).1 (zd hR.ok hR.name hR.tab d).2 (jQ d).2 he o1 hA (fun a' w' hA'=>ret_at hR.ok hf o2 hA' (.inl rfl))
def yesK:List Kp->List Kp
 |.code (.cond _ c _)::ks=>.code c::ks
 |ks=>ks
def noK:List Kp->List Kp
 |.code (.cond _ _ d)::ks=>.code d::ks
 |ks=>ks
def cfW (st:St D):List Kp->Bool->Bool
 |.code (.cond x _ _)::_,b=>match lit? (cC (fun t=>find t st.sl) x) with
  |some (.bool true)=>b
  |some (.bool false)=>!b
  |_=>false
 |_,_=>false
theorem yes_is {ks:List Kp}(h:cfW st ks true=true) (hA:At C nt st a w) (hQ:after F m C.P (yesK ks) Q .normal a w):after F m C.P ks Q .normal a w:=by
 unfold cfW at h;split at h
 ·obtain⟨⟨e,hg,hM,hV,hfr,hmk⟩,hsz⟩:=hA;split at h
  ·rename_i hl;exact wpIn_cond_true (jK hV hl) hQ
  ·cases h
  ·cases h
 ·cases h
theorem no_is {ks:List Kp}(h:cfW st ks false=true) (hA:At C nt st a w) (hQ:after F m C.P (noK ks) Q .normal a w):after F m C.P ks Q .normal a w:=by
 unfold cfW at h;split at h
 ·obtain⟨⟨e,hg,hM,hV,hfr,hmk⟩,hsz⟩:=hA;split at h
  ·rename_i hl;cases h
  ·rename_i hl;exact wpIn_cond_false (jK hV hl) hQ
  ·cases h
 ·cases h
end
end Pe
open Go Go.RowKit Go.Proofs Lim
namespace Pe
section
variable {b b':Bool}{lo lo':Nat}{w0 w0' w:World}
theorem WI:∀ {gs:List (Grp Dx)}{vs:List Value},cL (Cx b lo w0) w gs vs->cL (Cx b' lo' w0') w gs vs
 |[],_,h=>h
 |.lit _::_,_,h=>⟨h.1,WI h.2⟩
 |.cls _::_,_,h=>⟨h.1,WI h.2⟩
theorem ls_cx {L:Lt Dx}{v:Value}(h:cjL (Cx b lo w0) w L v):cjL (Cx b' lo' w0') w L v:=by
 rcases h with h|⟨k,o,c,arr,pre,vs,rest,q1,q2,q3,q4,q5,q6,q7,q8,q9⟩
 ·exact .inl h
 ·exact .inr ⟨k,o,c,arr,pre,vs,rest,q1,q2,q3,q4,q5,q6,q7,q8,fun j hj=>WI (q9 j hj)⟩
theorem pat_cx {p:Pat Dx}{v:Value}(h:p.is (Cx b lo w0) w v):p.is (Cx b' lo' w0') w v:=by
 cases p with
 |one g=>cases g<;>exact h
 |agg gs=>obtain⟨vs,h1,h2⟩:=h;exact⟨vs,WI h1,h2⟩
 |slc t n gs=>obtain⟨k,o,c,arr,pre,vs,rest,h1,h2,h3,h4,h5⟩:=h;exact⟨k,o,c,arr,pre,vs,rest,h1,h2,h3,h4,WI h5⟩
 |cap f ty z gs=>obtain⟨k,o,c,h1,h2⟩:=h;exact⟨k,o,c,ls_cx h1,h2⟩
theorem cbN:∀ {ps:List (Pat Dx)}{vs:List Value},cP (Cx b lo w0) w ps vs->cP (Cx b' lo' w0') w ps vs
 |[],_,h=>h
 |_::_,_,⟨v,ws,h1,h2,h3⟩=>⟨v,ws,h1,pat_cx h2,cbN h3⟩
theorem rpat_cx {p:cY Dx}{v:Value}(h:p.is (Cx b lo w0) w v):p.is (Cx b' lo' w0') w v:=by
 cases p with
 |val p=>exact pat_cx h
 |tup ps=>obtain⟨vs,h1,h2⟩:=h;exact⟨vs,cbN h1,h2⟩
theorem rob_cx {w1 w2:World}{p:cY Dx}{v:Value}(h:YK (Cx b lo w0) w1 w2 p v):YK (Cx b lo' w0') w1 w2 p v:=fun S hS w'' hs hk=>rpat_cx (h S hS w'' hs hk)
theorem UQ {w':World}(hk:∀ k,k<w.heap.size->w'.heap[k]?=w.heap[k]?):∀ {gs:List (Grp Dx)}{vs:List Value},cL (Cx b lo w0) w gs vs->cL (Cx b lo w0) w' gs vs
 |[],_,h=>h
 |.lit _::_,_,h=>⟨h.1,UQ hk h.2⟩
 |.cls _::_,_,h=>⟨DIs.grow hk h.1,UQ hk h.2⟩
theorem cjv {w':World}(hk:∀ k,k<w.heap.size->w'.heap[k]?=w.heap[k]?) {p:Pat Dx}{v:Value}(hn:noSlc p=true) (h:p.is (Cx b lo w0) w v):p.is (Cx b lo w0) w' v:=by
 cases p with
 |one g =>
  cases g with
  |lit x=>exact h
  |cls d=>exact DIs.grow hk h
 |agg gs=>obtain⟨vs,h1,h2⟩:=h;exact⟨vs,UQ hk h1,h2⟩
 |slc t n gs=>cases hn
 |cap f ty z gs=>cases hn
theorem caL {w':World}(hk:∀ k,k<w.heap.size->w'.heap[k]?=w.heap[k]?):∀ {ps:List (Pat Dx)}{vs:List Value},Gx ps=true->cP (Cx b lo w0) w ps vs->cP (Cx b lo w0) w' ps vs
 |[],_,_,h=>h
 |p::ps,_,hn,⟨v,ws,h1,h2,h3⟩=>by
  unfold Gx at hn;split at hn
  ·rename_i h0;exact⟨v,ws,h1,cjv hk h0 h2,caL hk hn h3⟩
  ·cases hn
theorem UL:∀ {ps:List (Pat Dx)}{csz:Dx->Nat}{s:Nat}{r:List A1×Ws Dx×Nat},zB csz s ps=some r->Gx ps=true
 |[],_,_,_,_=>rfl
 |p::ps,csz,s,r,h=>by
  have:=EE h p (by simp);simp only[zB] at h;split at h
  ·split at h
   ·rename_i h2;unfold Gx;cases p with
    |slc t n gs=>cases this
    |cap f ty z gs=>cases this
    |one g=>exact UL h2
    |agg gs=>exact UL h2
   ·cases h
  ·cases h
end
noncomputable abbrev W0 (w:World):Ctx Dx:=Cx true w.heap.size w
theorem fn_ok {w : World} (hG : Gr w) (hN : ∀ (f : Nat) (fn : Func), Tryz.prog.funcs[f]? = some fn → (fn.name == "runtime.NumGoroutine") = false) {ex : List (Nat × Con)} (hE : Eg true w.heap.size w ex) {f : FuncId} {fn : Func} {c : Code} (hfn : Tryz.prog.funcs[f]? = some fn) (hbody : fn.body = some c) {args : List (Pat Dx)} {xs : List A1} {ws : Ws Dx} {n0 : Nat} (hm : zB Dx.n 0 args = some (xs, ws, n0)) (hlen : Nat.ble (kx xs).length fn.ntmps = true)
 {vs:List Value} (hp:cP (W0 w) w args vs) {ps:List (Pat Dx)} (hwp:(∀ o:Opt,o.ex=ex->Gg (W0 w) (TY o))->∀ a,At (W0 w) fn.ntmps ⟨n0,Cu 0 (kx xs),ws,[]⟩ a w->after Fence.wide 0 Tryz.prog [.code c] (Ret (W0 w) fn (Res (W0 w) ps)) .normal a w) :
 Enters Tryz.prog f/\Calls Tryz.prog f vs.toArray w (fun en w'=>∃ v,en=.returned v/\Res (W0 w) ps v w'):=by
 have hR:∀ o:Opt,o.ex=ex->Gg (W0 w) (TY o):=fun o ho=>run_ok (le_refl _) hG hN (by rw[ho];exact hE);have hR0:=hR ⟨[],[],ex⟩ rfl;refine zM (C:=W0 w) hR0 hfn hbody hm hlen ?_ (fun a hA=>hwp hR a hA);exact cbH hR0.ok (W:=fun w'=>uj env0 w w') w (uj.refl _ _) (EE hm) (fun w' hk=>caL (fun k hk'=>hk.block k hk' (fun b=>by simp)) (UL hm) hp)
theorem uz {F:Fence}{m:Nat}{P:Program}{Q:Exit->Act->World->Prop}{ks:List Kp}{a:Act}{w:World}(h:ks=[]) (hq:Q .normal a w):after F m P ks Q .normal a w:=by
 subst h;exact hq
theorem ent_fn {lo:Nat}{w0:World}(hG:Gr w0) (hlo:lo<=w0.heap.size) {f:FuncId}{args:List (Pat Dx)}(ps:Nat->List (Pat Dx)) (hsub:∀ hi,lo<=hi->∃ ob,ze (Cx true lo w0) (ps lo) (ps hi)=some ob/\jr ob)
 (h:∀ w vs,Gr w->cP (W0 w) w args vs->Enters Tryz.prog f/\Calls Tryz.prog f vs.toArray w (fun en w'=>∃ v,en=.returned v/\Res (W0 w) (ps w.heap.size) v w')) (hE:Enters Tryz.prog f):jD (Cx true lo w0) (.call f) args (Kg (ps lo)):=by
 refine⟨hE,fun w vs hb hvs=>?_⟩;refine(h w vs (hG.below hb hG.size) (cbN hvs)).2.mono ?_;rintro en w' ⟨v,rfl,h1,h2⟩;refine⟨v,rfl,h1,?_⟩;obtain⟨ob,h3,h4⟩:=hsub w.heap.size (le_trans hlo hb.size);intro S hS w'' hs hk;have h5:=rob_cx (lo':=lo) (w0':=w0) h2 S hS w'' hs hk;have hC:=cx_ok (b:=true) hlo;revert h3 h5;generalize ps lo=a;generalize ps w.heap.size=c;intro h3 h5;unfold Kg at h5 ⊢;split at h5
 ·rename_i p
  match a,h3 with
  |[q],h3 =>
   have:=CL hC h3 h4 (vs:=[v]) ⟨v,[],rfl,h5,rfl⟩;obtain⟨x,y,e1,e2,e3⟩:=this;injection e1 with e1 _
   subst e1;exact e2
  |[],h3=>simp [ze] at h3
  |_::q::r,h3 =>
   obtain⟨x,y,q1,q2,_⟩:=kU h3;simp [ze] at q2
 ·rename_i hne
  match a,h3 with
  |[q],h3 =>
   exfalso
   match c,h3,hne with
   |[],h3,_=>simp [ze] at h3
   |[p],_,hne=>exact hne p rfl
   |_::_::_,h3,_ =>
    obtain⟨x,y,q1,q2,_⟩:=kU h3;simp [ze] at q2
  |[],h3=>obtain⟨us,q1,q2⟩:=h5;exact⟨us,CL hC h3 h4 q1,q2⟩
  |q1::q2::r,h3=>obtain⟨us,p1,p2⟩:=h5;exact⟨us,CL hC h3 h4 p1,p2⟩
def zl (args:List (Pat Dx)) (res:cY Dx):Con:=fun l=>some (res,[l=args])
theorem kB {bb:Bool}{lo:Nat}{w0:World}{f:Nat}{args:List (Pat Dx)}{res:cY Dx}(h:jD (Cx bb lo w0) (.call f) args res):∀ l r ob,zl args res l=some (r,ob)->jr ob->jD (Cx bb lo w0) (.call f) l r:=by
 intro l r ob hl ho;unfold zl at hl;injection hl with hl;injection hl with h1 h2;subst h1;subst h2
 rw[show l=args from ho.1];exact h
def lst {α:Type}[Inhabited α] (lo ty z:Nat) (xs:List α) (f:α->List (Grp Dx)):Lt Dx:=⟨lo,ty,z,xs.length,fun j=>f (xs.getD j default)⟩
section
variable {C:Ctx Dx}{b:Bool}{lo:Nat}{w0:World}
theorem cI {n:Nat}{g:Nat->List (Grp Dx)}{x:List (Grp Dx)}(h:x=g n):∀ j,j<n+1->cw C (g j) (jE n g (fun _=>x) j):=by
 intro j hj w vs hv;unfold jE at hv;split at hv
 ·exact hv
 ·rename_i hn;have:j=n:=by
   rcases lt_or_ge j n with h1|h1
   ·rw[show Nat.blt j n=true from Nat.ble_eq_true_of_le h1] at hn;cases hn
   ·omega
  rw[h,← this] at hv;exact hv
theorem Ee {L:Lt Dx}{a c:Nat}(h:a<=c):co (Cx b lo w0) (.ls { L with lo:=a }) (.ls { L with lo:=c }):=by
 intro w l hl;have hl:DIs w (.ls { L with lo:=c }) l:=hl;show DIs w (.ls { L with lo:=a }) l;cases hl with
 |nil h1=>exact .nil h1
 |ls k o cp arr pre vs rest h2 h3 h4 h5 h6 h7 h8 h9=>exact .ls k o cp arr pre vs rest h2 h3 h4 h5 h6 (le_trans h h7) h8 h9
theorem cgf {r s:Rat}{j k:Nat}(h:s=r) (hk:k<=j):co (Cx b lo w0) (.q r j) (.q s k):=by
 intro w l hl;have hl:DIs w (.q s k) l:=hl;subst h;cases hl with
 |q h1 h2 h3=>exact .q h1 h2 (h3.le hk)
theorem Wk {r s:Rat}{j k:Nat}(h:s=r) (hk:k<=j):co (Cx b lo w0) (.rq r j) (.rq s k):=by
 intro w l hl;have hl:DIs w (.rq s k) l:=hl;subst h;cases hl with
 |rq h1 h2 h3=>exact .rq h1 h2 (h3.le hk)
theorem Ju {r:Rat}{k:Nat}(h:r=0) (hk:1<=k):cw (Cx b lo w0) [.cls (.q r k)] [.lit (.bool false),.lit (.int .u64 0),.lit (.int .u64 0),.lit (.pointer none)]:=by
 intro w vs hv;subst h;obtain⟨xs,ys,rfl,h1,h2⟩:=cfv (b:=b) (lo:=lo) (w0:=w0) (gs':=[]) (r:=0) (k:=1) rfl hv;rw[show ys=[] from h2];exact Kn (.cls (cgf (b:=b) (lo:=lo) (w0:=w0) (r:=0) (j:=k) rfl hk w xs h1) .nil)
end
end Pe
namespace Pe
abbrev Tx:=List UInt8
abbrev nq (l:Tx):Rat:=(jF l).1
noncomputable abbrev codeOf (fn:Func):Code:=fn.body.getD .skip
abbrev ii (n:Int):Value:=.int .i64 n
abbrev P3:=Tx×Tx×Tx
abbrev f3 (x:P3):List (Grp Dx):=[.lit (str x.1),.lit (str x.2.1),.lit (str x.2.2)]
abbrev fp (x:P3):List (Grp Dx):=[.cls (.q (nq x.1) 4),.cls (.q (nq x.2.1) 4)]
abbrev fr (x:P3):List (Grp Dx):=[.cls (.rq (nq x.1) 4),.cls (.rq (nq x.2.1) 4)]
abbrev fa (x:P3):List (Grp Dx):=[.cls (.q (nq x.1) 4),.cls (.q (nq x.2.2) 4)]
abbrev fb (x:P3):List (Grp Dx):=[.cls (.rq (nq x.1) 4),.cls (.rq (nq x.2.2) 4)]
abbrev Wf (xs:List P3):Prop:=∀ x∈xs,x.1.length<=40/\x.2.1.length<=40/\x.2.2.length<=40
theorem YW {α:Type}[Inhabited α] {xs:List α}{i:Nat}(h:i<xs.length):xs.getD i default∈xs:=by
 rw[List.getD_eq_getElem?_getD,List.getElem?_eq_getElem h];exact List.getElem_mem h
abbrev kh (lo1 lo2:Nat) (ps as':List P3) (t:Tx):Pat Dx:=.agg [.cls (.ls (lst 0 lo1 3 ps f3)),.cls (.ls (lst 0 lo2 3 as' f3)),.lit (str t)]
abbrev cdv (lo1 lo2:Nat) (ps as':List P3):Ws Dx:=[(0,.cls (.ls (lst 0 lo1 3 ps f3))),(1,.cls (.ls (lst 0 lo2 3 as' f3)))]
noncomputable abbrev run (w:World) (o:Opt) (f nt:Nat) (ks:List Kp) (st st':St Dx):Option (Xt×List Prop):=runTo (W0 w) (TY o) (yy (Sx true w.heap.size) (TY o) 300 30).1 (yy (Sx true w.heap.size) (TY o) 300 30).2 nt f false 300 (ccb ks) st st'
noncomputable abbrev runR (w:World) (o:Opt) (f nt:Nat) (fn:Func) (ks:List Kp) (st:St Dx) (ps:List (Pat Dx)):Option (Xt×List Prop):=ced (W0 w) (TY o) (yy (Sx true w.heap.size) (TY o) 300 30).1 (yy (Sx true w.heap.size) (TY o) 300 30).2 nt f false 300 (ccb ks) fn.results.toList st ps
abbrev cF : Prop := ∀ (f : Nat) (fn : Func), Tryz.prog.funcs[f]? = some fn → (fn.name == "runtime.NumGoroutine") = false
theorem cdl {xs:List P3}(h:Wf xs) {i:Nat}(hi:i<xs.length):(xs.getD i default).1.length<=40/\(xs.getD i default).2.1.length<=40/\(xs.getD i default).2.2.length<=40:=h _ (YW hi)
end Pe
namespace Pe
def stA (args:List (Pat Dx)):St Dx:=match zB Dx.n 0 args with
 |some (xs,ws,n0)=>⟨n0,Cu 0 (kx xs),ws,[]⟩
 |none=>⟨0,[],[],[]⟩
def lenA (args:List (Pat Dx)) (n:Nat):Bool:=match zB Dx.n 0 args with
 |some (xs,_,_)=>Nat.ble (kx xs).length n
 |none=>false
theorem jR {w:World}(hG:Gr w) (hN:cF) {ex:List (Nat×Con)}(hE:Eg true w.heap.size w ex) {f:FuncId}{fn:Func}{c:Code}(hfn:Tryz.prog.funcs[f]?=some fn) (hbody:fn.body=some c) {args:List (Pat Dx)}(hm:lenA args fn.ntmps=true)
 {vs:List Value} (hp:cP (W0 w) w args vs) {ps:List (Pat Dx)} (hwp:(∀ o:Opt,o.ex=ex->Gg (W0 w) (TY o))->∀ a,At (W0 w) fn.ntmps (stA args) a w->after Fence.wide 0 Tryz.prog [.code c] (Ret (W0 w) fn (Res (W0 w) ps)) .normal a w) :
 Enters Tryz.prog f/\Calls Tryz.prog f vs.toArray w (fun en w'=>∃ v,en=.returned v/\Res (W0 w) ps v w'):=by
 unfold lenA at hm;split at hm
 ·rename_i xs ws n0 h0;refine fn_ok hG hN hE hfn hbody h0 hm hp (fun hR a hA=>hwp hR a ?_);unfold stA;rw[h0];exact hA
 ·cases hm
abbrev kb (f:Nat) (args:List (Pat Dx)) (ps:Nat->List (Pat Dx)):Prop:=∀ w vs,Gr w->cP (W0 w) w args vs->Enters Tryz.prog f/\Calls Tryz.prog f vs.toArray w (fun en w'=>∃ v,en=.returned v/\Res (W0 w) (ps w.heap.size) v w')
section
variable {lo:Nat}{w0:World}{f:Nat}{args:List (Pat Dx)}
theorem kb.ent {ps:Nat->List (Pat Dx)}(h:kb f args ps) (hG:Gr w0) (hlo:lo<=w0.heap.size) (hE:Enters Tryz.prog f) (hsub:∀ hi,lo<=hi->∃ ob,ze (Cx true lo w0) (ps lo) (ps hi)=some ob/\jr ob):jD (Cx true lo w0) (.call f) args (Kg (ps lo)):=ent_fn hG hlo ps hsub h hE
theorem kb.val {v:Value}(h:kb f args (fun _=>[.one (.lit v)])) (hG:Gr w0) (hlo:lo<=w0.heap.size) (hE:Enters Tryz.prog f):jD (Cx true lo w0) (.call f) args (vr v) :=
 h.ent hG hlo hE (fun _ _=>⟨_,rfl,rfl,trivial⟩)
theorem kb.num {r:Rat}{k:Nat}(h:kb f args (fun _=>[.agg [.cls (.q r k)]])) (hG:Gr w0) (hlo:lo<=w0.heap.size) (hE:Enters Tryz.prog f):jD (Cx true lo w0) (.call f) args (qr r k) :=
 h.ent hG hlo hE (fun _ _=>⟨_,rfl,co.refl _ _,trivial⟩)
end
abbrev R2:=Rat×Rat
abbrev fQ (x:R2):List (Grp Dx):=[.cls (.q x.1 4),.cls (.q x.2 4)]
abbrev fR (x:R2):List (Grp Dx):=[.cls (.rq x.1 4),.cls (.rq x.2 4)]
abbrev pQ (r:Rat) (k:Nat):Pat Dx:=.agg [.cls (.q r k)]
abbrev pP (r:Rat) (j:Nat) (s:Rat) (k:Nat):Pat Dx:=.agg [.cls (.q r j),.cls (.q s k)]
abbrev pL (lo ty:Nat) (xs:List R2):Pat Dx:=.one (.cls (.ls (lst lo ty 8 xs fQ)))
abbrev pM (lo ty:Nat) (xs:List R2):Pat Dx:=.one (.cls (.ls (lst lo ty 6 xs fR)))
abbrev pI (i:Int):Pat Dx:=.one (.lit (.int .i64 i))
abbrev pF (f:Nat):Pat Dx:=.one (.lit (.func (.func f) #[] #[]))
abbrev rB (b:Bool):List (Pat Dx):=[.one (.lit (.bool b))]
abbrev rI (i:Int):List (Pat Dx):=[.one (.lit (.int .i64 i))]
def cB (ps:List P3):List R2:=ps.map fun x=>(nq x.1,nq x.2.1)
def cj (as':List P3):List R2:=as'.map fun x=>(nq x.1,nq x.2.2)
theorem cA (n:Nat):Int.ofNat n=(n:Int):=rfl
section
variable {w w1:World}{o:Opt}{f nt:Nat}{ks:List Kp}{st st':St Dx}{x:Xt}{ob:List Prop}{a:Act}{Q:Exit->Act->World->Prop}
theorem kp (h:run w o f nt ks st st'=some (x,ob)) (hR:Gg (W0 w) (TY o)) (hA:At (W0 w) nt st a w1) (hQ:∀ a' w',At (W0 w) nt st' a' w'->after Fence.wide 0 (W0 w).P (cbA ks) Q x.to a' w') (ho:jr ob:=by (repeat' (first|exact trivial|apply And.intro))<;>first|exact co.refl _ _|exact fun _ _=>cw.refl _ _|exact cI rfl|exact cu _ _|exact ct _ _|(with_reducible assumption)|omega|with_reducible rfl|(simp only[cA];omega)|(intro j hj;exact absurd hj (not_lt_zero _))|exact cgf rfl (by omega)|exact Wk rfl (by omega)|exact Ju rfl (by omega)|exact decide_eq_true rfl|exact decide_eq_true (by omega)|assumption|rfl):after Fence.wide 0 (W0 w).P ks Q .normal a w1:=Jb hR (.inl rfl) (fun _=>rfl) h ho hA hQ
noncomputable abbrev runA (w:World) (o:Opt) (f nt:Nat) (fn:Func) (st:St Dx) (ps:List (Pat Dx)):Option (Xt×List Prop):=cet (W0 w) (TY o) (yy (Sx true w.heap.size) (TY o) 300 30).1 (yy (Sx true w.heap.size) (TY o) 300 30).2 nt f 300 (codeOf fn) fn.results.toList st ps
theorem all_o {fn:Func}{ps:List (Pat Dx)}(h:runA w o f nt fn st ps=some (.ret,ob)) (hR:Gg (W0 w) (TY o)) (hA:At (W0 w) nt st a w1) (ho:jr ob:=by (repeat' (first|exact trivial|apply And.intro))<;>first|exact co.refl _ _|exact fun _ _=>cw.refl _ _|exact cI rfl|exact cu _ _|exact ct _ _|(with_reducible assumption)|omega|with_reducible rfl|(simp only[cA];omega)|(intro j hj;exact absurd hj (not_lt_zero _))|exact cgf rfl (by omega)|exact Wk rfl (by omega)|exact Ju rfl (by omega)|exact decide_eq_true rfl|exact decide_eq_true (by omega)|assumption|rfl):after Fence.wide 0 (W0 w).P [.code (codeOf fn)] (Ret (W0 w) fn (Res (W0 w) ps)) .normal a w1:=all_is hR h ho hA
theorem jk {fn:Func}{ps:List (Pat Dx)}(h:runR w o f nt fn ks st ps=some (.ret,ob)) (hR:Gg (W0 w) (TY o)) (hA:At (W0 w) nt st a w1) (ho:jr ob:=by (repeat' (first|exact trivial|apply And.intro))<;>first|exact co.refl _ _|exact fun _ _=>cw.refl _ _|exact cI rfl|exact cu _ _|exact ct _ _|(with_reducible assumption)|omega|with_reducible rfl|(simp only[cA];omega)|(intro j hj;exact absurd hj (not_lt_zero _))|exact cgf rfl (by omega)|exact Wk rfl (by omega)|exact Ju rfl (by omega)|exact decide_eq_true rfl|exact decide_eq_true (by omega)|assumption|rfl) (hQ:∀ a' w',Ret (W0 w) fn (Res (W0 w) ps) .ret a' w'->Q .ret a' w':=by exact fun _ _ h=>h):after Fence.wide 0 (W0 w).P ks Q .normal a w1:=GD hR (.inl rfl) (fun _=>rfl) h ho hA hQ
end
theorem sub_ext {C:Ctx Dx}{b:Bool}{lo:Nat}{w0:World}(hC:C=Cx b lo w0) {L L':Lt Dx}(h1:L'.lo<=L.lo) (h2:L'.ty=L.ty) (h3:L'.z=L.z) (h4:L'.n=L.n) (h5:∀ j,j<L.n->L'.g j=L.g j):co C (.ls L') (.ls L):=by
 subst hC;intro w l hl;have hl:DIs w (.ls L) l:=hl;show DIs w (.ls L') l;obtain⟨lo',ty',z',n',g'⟩:=L';obtain⟨lo1,ty1,z1,n1,g1⟩:=L;simp only at h1 h2 h3 h4 h5;subst h2;subst h3;subst h4;cases hl with
 |nil h=>exact .nil h
 |ls k o c arr pre vs rest q2 q3 q4 q5 q6 q7 q8 q9=>exact .ls k o c arr pre vs rest q2 q3 q4 q5 q6 (le_trans h1 q7) q8 (fun j hj=>by rw[show (Lt.mk lo' ty' z' n' g').g j=g1 j from h5 j hj];exact q9 j hj)
theorem WE {b:Bool}{lo:Nat}{w0:World}{α β:Type}[Inhabited α] [Inhabited β] {a ty z:Nat}{xs:List α}{h:α->β}{f:α->List (Grp Dx)}{f':β->List (Grp Dx)}(hf:∀ x,f' (h x)=f x):co (Cx b lo w0) (.ls (lst a ty z (xs.map h) f')) (.ls (lst a ty z xs f)):=by
 refine sub_ext rfl (le_refl _) rfl rfl (by simp [lst]) (fun j hj=>?_);have hj:j<xs.length:=hj;show f' ((xs.map h).getD j default)=f (xs.getD j default);rw[← hf,List.getD_eq_getElem?_getD,List.getD_eq_getElem?_getD,List.getElem?_map,List.getElem?_eq_getElem hj];rfl
end Pe
namespace Pe
noncomputable def kwide20_:List Kp:=[.code (codeOf Tryz.f20)]
noncomputable def kwide20_n:List Kp:=next kwide20_
noncomputable def kwide20_nt:List Kp:=kwide20_n.tail
noncomputable def kwide20_ntn:List Kp:=next kwide20_nt
noncomputable def kwide20_ntnl:List Kp:=[.code (ug kwide20_ntn)]
noncomputable def kwide20_nl:List Kp:=[.code (ug kwide20_n)]
noncomputable def kwide20_ntnt:List Kp:=kwide20_ntn.tail
abbrev ua (l:Tx):Bool:=decide (40<l.length)
abbrev uE (x:P3):Bool:=ua x.1||ua x.2.1||ua x.2.2
abbrev CN (n m:Nat) (t:Tx):Bool:=decide (n>8)&&decide (n<=60)||decide (n>70)||decide (m>5)&&decide (m<=20)||decide (m>30)||ua t
def jO (ps as':List P3) (t:Tx):Bool:=CN ps.length as'.length t||ps.any uE||as'.any uE
abbrev wdS (lo1 lo2:Nat) (ps as':List P3) (t:Tx):St Dx:=⟨2,Cu 0 (kx [.agg [.sym 0 0,.sym 1 0,.lit (str t)]]),cdv lo1 lo2 ps as',[]⟩
abbrev wdI (s:Nat) (lo1 lo2:Nat) (ps as':List P3) (t:Tx) (i:Nat):St Dx:=⟨3,[(1,.val (.one (.ptr 2 0))),(s,.val (.one (.lit (ii (i:Int)))))],cdv lo1 lo2 ps as'++[(2,.blk 71 [.sym 0 0,.sym 1 0,.lit (str t)] none)],[]⟩
abbrev wdE (lo1 lo2:Nat) (ps as':List P3) (t:Tx):St Dx:=⟨3,[(1,.val (.one (.ptr 2 0)))],cdv lo1 lo2 ps as'++[(2,.blk 71 [.sym 0 0,.sym 1 0,.lit (str t)] none)],[]⟩
theorem uk {ps as':List P3}{t:Tx}(h:CN ps.length as'.length t=true):Value.bool (jO ps as' t)=Value.bool true:=by simp only[jO,h,Bool.true_or]
theorem cbp {ps as':List P3}{t:Tx}{i:Nat}(hi:i<ps.length) (h:uE (ps.getD i default)=true):Value.bool (jO ps as' t)=Value.bool true:=by
 have:ps.any uE=true:=List.any_eq_true.2 ⟨_,YW hi,h⟩;simp only[jO,this,Bool.or_true,Bool.true_or]
theorem cbe {ps as':List P3}{t:Tx}{i:Nat}(hi:i<as'.length) (h:uE (as'.getD i default)=true):Value.bool (jO ps as' t)=Value.bool true:=by
 have:as'.any uE=true:=List.any_eq_true.2 ⟨_,YW hi,h⟩;simp only[jO,this,Bool.or_true]
theorem cgk {x:P3}(h:ua x.1=true):uE x=true:=by simp only[uE,h,Bool.true_or]
theorem cfK {x:P3}(h:ua x.2.1=true):uE x=true:=by simp only[uE,h,Bool.or_true,Bool.true_or]
theorem cgd {x:P3}(h:ua x.2.2=true):uE x=true:=by simp only[uE,h,Bool.or_true]
theorem ccM {xs:List P3}{i:Nat}(hi:i<xs.length) (h:(xs.take i).any uE=false) (h2:uE (xs.getD i default)=false):(xs.take (i+1)).any uE=false:=by
 rw[List.take_add_one,List.any_append,h];rw[List.getD_eq_getElem?_getD] at h2;rw[List.getElem?_eq_getElem hi] at h2 ⊢;simpa using h2
theorem CT (ps as':List P3) (t:Tx) (h1:ps.length<=8\/60<ps.length) (h2:ps.length<=70) (h3:as'.length<=5\/20<as'.length) (h4:as'.length<=30) (h5:ua t=false):CN ps.length as'.length t=false:=by
 simp only[CN,h5,Bool.or_false,or_eq_false_iff,Bool.and_eq_false_iff,decide_eq_false_iff_not];omega
theorem uW (ps as':List P3) (t:Tx) (h:(8<ps.length/\ps.length<=60)\/70<ps.length\/(5<as'.length/\as'.length<=20)\/30<as'.length):CN ps.length as'.length t=true:=by
 simp only[CN,or_eq_true,and_eq_true,decide_eq_true_eq];omega
theorem Gk {ps as':List P3}{t:Tx}(h:CN ps.length as'.length t=false):(ps.length<=8\/60<ps.length)/\ps.length<=70/\(as'.length<=5\/20<as'.length)/\as'.length<=30/\t.length<=40:=by
 simp only[CN,ua,or_eq_false_iff,Bool.and_eq_false_iff,decide_eq_false_iff_not] at h;omega
theorem WN (ps as':List P3) (t:Tx) (h:ua t=true):CN ps.length as'.length t=true:=by
 simp only[CN,h,Bool.or_true]
theorem wdc {w:World}(lo1 lo2:Nat) (ps as':List P3) (t:Tx):run w ⟨[],[],[]⟩ 20 108 kwide20_nt (wdE lo1 lo2 ps as' t) (wdI 4 lo1 lo2 ps as' t 0)=some (.normal,[co (W0 w) (.ls (lst 0 lo1 3 ps f3)) (.ls (lst 0 lo1 3 ps f3)),co (W0 w) (.ls (lst 0 lo2 3 as' f3)) (.ls (lst 0 lo2 3 as' f3)),str t=str t,0=0,ii (↑0:Int)=Value.int IntKind.i64 0]):=by kernel_rfl
theorem wde {w:World}(lo1 lo2:Nat) (ps as':List P3) (t:Tx):runR w ⟨[],[],[]⟩ 20 108 Tryz.f20 kwide20_ntnt (wdE lo1 lo2 ps as' t) (rB (jO ps as' t))=some (.ret,[Value.bool (jO ps as' t)=Value.bool false]):=by kernel_rfl
section
variable {w:World}{lo1 lo2:Nat}{ps as':List P3}{t:Tx}
noncomputable abbrev wddTe2 (w:World) (lo1 lo2:Nat) (ps as':List P3) (t:Tx) (i:Nat) (o:List (Nat×Nat×Bool)):=run w ⟨o,[],[]⟩ 20 108 kwide20_ntnl (wdI 4 lo1 lo2 ps as' t i) (wdE lo1 lo2 ps as' t)
noncomputable abbrev wddTnal (w:World) (lo1 lo2:Nat) (ps as':List P3) (t:Tx) (i:Nat) (o:List (Nat×Nat×Bool)):=run w ⟨o,[],[]⟩ 20 108 kwide20_ntnl (wdI 4 lo1 lo2 ps as' t i) (wdI 4 lo1 lo2 ps as' t (i+1))
noncomputable abbrev wddR (w:World) (lo1 lo2:Nat) (ps as':List P3) (t:Tx) (i:Nat) (o:List (Nat×Nat×Bool)):=runR w ⟨o,[],[]⟩ 20 108 Tryz.f20 kwide20_ntnl (wdI 4 lo1 lo2 ps as' t i) (rB (jO ps as' t))
theorem wdd0 {w:World}(lo1 lo2:Nat) (ps as':List P3) (t:Tx) (i:Nat):wddR w lo1 lo2 ps as' t i [(20,80,true),(20,89,true)]=some (.ret,[decide ((i:Int)<(as'.length:Int))=true,i<as'.length,i<as'.length,decide (40<List.length (as'.getD i default).1)=true,Value.bool (jO ps as' t)=Value.bool true]):=by kernel_rfl
theorem wdd1 {w:World}(lo1 lo2:Nat) (ps as':List P3) (t:Tx) (i:Nat):wddR w lo1 lo2 ps as' t i [(20,80,true),(20,89,false),(20,97,true)]=some (.ret,[decide ((i:Int)<(as'.length:Int))=true,i<as'.length,i<as'.length,decide (40<List.length (as'.getD i default).1)=false,i<as'.length,i<as'.length,decide (40<List.length (as'.getD i default).2.1)=true,Value.bool (jO ps as' t)=Value.bool true]):=by kernel_rfl
theorem wdd2 {w:World}(lo1 lo2:Nat) (ps as':List P3) (t:Tx) (i:Nat):wddR w lo1 lo2 ps as' t i [(20,80,true),(20,89,false),(20,97,false),(20,106,true)]=some (.ret,[decide ((i:Int)<(as'.length:Int))=true,i<as'.length,i<as'.length,decide (40<List.length (as'.getD i default).1)=false,i<as'.length,i<as'.length,decide (40<List.length (as'.getD i default).2.1)=false,i<as'.length,i<as'.length,decide (40<List.length (as'.getD i default).2.2)=true,Value.bool (jO ps as' t)=Value.bool true]):=by kernel_rfl
theorem wdd3 {w:World}(lo1 lo2:Nat) (ps as':List P3) (t:Tx) (i:Nat):wddTnal w lo1 lo2 ps as' t i [(20,80,true),(20,89,false),(20,97,false),(20,106,false)]=some (.normal,[decide ((i:Int)<(as'.length:Int))=true,i<as'.length,i<as'.length,decide (40<List.length (as'.getD i default).1)=false,i<as'.length,i<as'.length,decide (40<List.length (as'.getD i default).2.1)=false,i<as'.length,i<as'.length,decide (40<List.length (as'.getD i default).2.2)=false,cn ((i:Int)+1),co (W0 w) (.ls (lst 0 lo1 3 ps f3)) (.ls (lst 0 lo1 3 ps f3)),co (W0 w) (.ls (lst 0 lo2 3 as' f3)) (.ls (lst 0 lo2 3 as' f3)),str t=str t,0=0,ii (↑(i+1):Int)=Value.int IntKind.i64 ((i:Int)+1)]):=by kernel_rfl
theorem wdd4 {w:World}(lo1 lo2:Nat) (ps as':List P3) (t:Tx) (i:Nat):wddTe2 w lo1 lo2 ps as' t i [(20,80,false)]=some (.exit 2,[decide ((i:Int)<(as'.length:Int))=false,co (W0 w) (.ls (lst 0 lo1 3 ps f3)) (.ls (lst 0 lo1 3 ps f3)),co (W0 w) (.ls (lst 0 lo2 3 as' f3)) (.ls (lst 0 lo2 3 as' f3)),str t=str t,0=0]):=by kernel_rfl
noncomputable abbrev wdbTe0 (w:World) (lo1 lo2:Nat) (ps as':List P3) (t:Tx) (i:Nat) (o:List (Nat×Nat×Bool)):=run w ⟨o,[],[]⟩ 20 108 kwide20_nl (wdI 3 lo1 lo2 ps as' t i) (wdE lo1 lo2 ps as' t)
noncomputable abbrev wdbTnal (w:World) (lo1 lo2:Nat) (ps as':List P3) (t:Tx) (i:Nat) (o:List (Nat×Nat×Bool)):=run w ⟨o,[],[]⟩ 20 108 kwide20_nl (wdI 3 lo1 lo2 ps as' t i) (wdI 3 lo1 lo2 ps as' t (i+1))
noncomputable abbrev wdbR (w:World) (lo1 lo2:Nat) (ps as':List P3) (t:Tx) (i:Nat) (o:List (Nat×Nat×Bool)):=runR w ⟨o,[],[]⟩ 20 108 Tryz.f20 kwide20_nl (wdI 3 lo1 lo2 ps as' t i) (rB (jO ps as' t))
theorem wdb0 {w:World}(lo1 lo2:Nat) (ps as':List P3) (t:Tx) (i:Nat):wdbR w lo1 lo2 ps as' t i [(20,48,true),(20,57,true)]=some (.ret,[decide ((i:Int)<(ps.length:Int))=true,i<ps.length,i<ps.length,decide (40<List.length (ps.getD i default).1)=true,Value.bool (jO ps as' t)=Value.bool true]):=by kernel_rfl
theorem wdb1 {w:World}(lo1 lo2:Nat) (ps as':List P3) (t:Tx) (i:Nat):wdbR w lo1 lo2 ps as' t i [(20,48,true),(20,57,false),(20,65,true)]=some (.ret,[decide ((i:Int)<(ps.length:Int))=true,i<ps.length,i<ps.length,decide (40<List.length (ps.getD i default).1)=false,i<ps.length,i<ps.length,decide (40<List.length (ps.getD i default).2.1)=true,Value.bool (jO ps as' t)=Value.bool true]):=by kernel_rfl
theorem wdb2 {w:World}(lo1 lo2:Nat) (ps as':List P3) (t:Tx) (i:Nat):wdbR w lo1 lo2 ps as' t i [(20,48,true),(20,57,false),(20,65,false),(20,74,true)]=some (.ret,[decide ((i:Int)<(ps.length:Int))=true,i<ps.length,i<ps.length,decide (40<List.length (ps.getD i default).1)=false,i<ps.length,i<ps.length,decide (40<List.length (ps.getD i default).2.1)=false,i<ps.length,i<ps.length,decide (40<List.length (ps.getD i default).2.2)=true,Value.bool (jO ps as' t)=Value.bool true]):=by kernel_rfl
theorem wdb3 {w:World}(lo1 lo2:Nat) (ps as':List P3) (t:Tx) (i:Nat):wdbTnal w lo1 lo2 ps as' t i [(20,48,true),(20,57,false),(20,65,false),(20,74,false)]=some (.normal,[decide ((i:Int)<(ps.length:Int))=true,i<ps.length,i<ps.length,decide (40<List.length (ps.getD i default).1)=false,i<ps.length,i<ps.length,decide (40<List.length (ps.getD i default).2.1)=false,i<ps.length,i<ps.length,decide (40<List.length (ps.getD i default).2.2)=false,cn ((i:Int)+1),co (W0 w) (.ls (lst 0 lo1 3 ps f3)) (.ls (lst 0 lo1 3 ps f3)),co (W0 w) (.ls (lst 0 lo2 3 as' f3)) (.ls (lst 0 lo2 3 as' f3)),str t=str t,0=0,ii (↑(i+1):Int)=Value.int IntKind.i64 ((i:Int)+1)]):=by kernel_rfl
theorem wdb4 {w:World}(lo1 lo2:Nat) (ps as':List P3) (t:Tx) (i:Nat):wdbTe0 w lo1 lo2 ps as' t i [(20,48,false)]=some (.exit 0,[decide ((i:Int)<(ps.length:Int))=false,co (W0 w) (.ls (lst 0 lo1 3 ps f3)) (.ls (lst 0 lo1 3 ps f3)),co (W0 w) (.ls (lst 0 lo2 3 as' f3)) (.ls (lst 0 lo2 3 as' f3)),str t=str t,0=0]):=by kernel_rfl
noncomputable abbrev wdaTnal (w:World) (lo1 lo2:Nat) (ps as':List P3) (t:Tx) (o:List (Nat×Nat×Bool)):=run w ⟨o,[],[]⟩ 20 108 kwide20_ (wdS lo1 lo2 ps as' t) (wdI 3 lo1 lo2 ps as' t 0)
noncomputable abbrev wdaR (w:World) (lo1 lo2:Nat) (ps as':List P3) (t:Tx) (o:List (Nat×Nat×Bool)):=runR w ⟨o,[],[]⟩ 20 108 Tryz.f20 kwide20_ (wdS lo1 lo2 ps as' t) (rB (jO ps as' t))
theorem wda0 {w:World}(lo1 lo2:Nat) (ps as':List P3) (t:Tx):wdaR w lo1 lo2 ps as' t [(20,8,true),(20,13,true)]=some (.ret,[decide ((ps.length:Int)>8)=true,decide ((ps.length:Int)<=60)=true,Value.bool (jO ps as' t)=Value.bool true]):=by kernel_rfl
theorem wda1 {w:World}(lo1 lo2:Nat) (ps as':List P3) (t:Tx):wdaR w lo1 lo2 ps as' t [(20,8,true),(20,13,false),(20,19,true)]=some (.ret,[decide ((ps.length:Int)>8)=true,decide ((ps.length:Int)<=60)=false,decide ((ps.length:Int)>70)=true,Value.bool (jO ps as' t)=Value.bool true]):=by kernel_rfl
theorem wda2 {w:World}(lo1 lo2:Nat) (ps as':List P3) (t:Tx):wdaR w lo1 lo2 ps as' t [(20,8,true),(20,13,false),(20,19,false),(20,25,true),(20,30,true)]=some (.ret,[decide ((ps.length:Int)>8)=true,decide ((ps.length:Int)<=60)=false,decide ((ps.length:Int)>70)=false,decide ((as'.length:Int)>5)=true,decide ((as'.length:Int)<=20)=true,Value.bool (jO ps as' t)=Value.bool true]):=by kernel_rfl
theorem wda3 {w:World}(lo1 lo2:Nat) (ps as':List P3) (t:Tx):wdaR w lo1 lo2 ps as' t [(20,8,true),(20,13,false),(20,19,false),(20,25,true),(20,30,false),(20,37,true)]=some (.ret,[decide ((ps.length:Int)>8)=true,decide ((ps.length:Int)<=60)=false,decide ((ps.length:Int)>70)=false,decide ((as'.length:Int)>5)=true,decide ((as'.length:Int)<=20)=false,decide ((as'.length:Int)>30)=true,Value.bool (jO ps as' t)=Value.bool true]):=by kernel_rfl
theorem wda4 {w:World}(lo1 lo2:Nat) (ps as':List P3) (t:Tx):wdaR w lo1 lo2 ps as' t [(20,8,true),(20,13,false),(20,19,false),(20,25,true),(20,30,false),(20,37,false),(20,42,true)]=some (.ret,[decide ((ps.length:Int)>8)=true,decide ((ps.length:Int)<=60)=false,decide ((ps.length:Int)>70)=false,decide ((as'.length:Int)>5)=true,decide ((as'.length:Int)<=20)=false,decide ((as'.length:Int)>30)=false,decide (40<List.length t)=true,Value.bool (jO ps as' t)=Value.bool true]):=by kernel_rfl
theorem wda5 {w:World}(lo1 lo2:Nat) (ps as':List P3) (t:Tx):wdaTnal w lo1 lo2 ps as' t [(20,8,true),(20,13,false),(20,19,false),(20,25,true),(20,30,false),(20,37,false),(20,42,false)]=some (.normal,[decide ((ps.length:Int)>8)=true,decide ((ps.length:Int)<=60)=false,decide ((ps.length:Int)>70)=false,decide ((as'.length:Int)>5)=true,decide ((as'.length:Int)<=20)=false,decide ((as'.length:Int)>30)=false,decide (40<List.length t)=false,co (W0 w) (.ls (lst 0 lo1 3 ps f3)) (.ls (lst 0 lo1 3 ps f3)),co (W0 w) (.ls (lst 0 lo2 3 as' f3)) (.ls (lst 0 lo2 3 as' f3)),str t=str t,0=0,ii (↑0:Int)=Value.int IntKind.i64 0]):=by kernel_rfl
theorem wda6 {w:World}(lo1 lo2:Nat) (ps as':List P3) (t:Tx):wdaR w lo1 lo2 ps as' t [(20,8,true),(20,13,false),(20,19,false),(20,25,false),(20,37,true)]=some (.ret,[decide ((ps.length:Int)>8)=true,decide ((ps.length:Int)<=60)=false,decide ((ps.length:Int)>70)=false,decide ((as'.length:Int)>5)=false,decide ((as'.length:Int)>30)=true,Value.bool (jO ps as' t)=Value.bool true]):=by kernel_rfl
theorem wda7 {w:World}(lo1 lo2:Nat) (ps as':List P3) (t:Tx):wdaR w lo1 lo2 ps as' t [(20,8,true),(20,13,false),(20,19,false),(20,25,false),(20,37,false),(20,42,true)]=some (.ret,[decide ((ps.length:Int)>8)=true,decide ((ps.length:Int)<=60)=false,decide ((ps.length:Int)>70)=false,decide ((as'.length:Int)>5)=false,decide ((as'.length:Int)>30)=false,decide (40<List.length t)=true,Value.bool (jO ps as' t)=Value.bool true]):=by kernel_rfl
theorem wda8 {w:World}(lo1 lo2:Nat) (ps as':List P3) (t:Tx):wdaTnal w lo1 lo2 ps as' t [(20,8,true),(20,13,false),(20,19,false),(20,25,false),(20,37,false),(20,42,false)]=some (.normal,[decide ((ps.length:Int)>8)=true,decide ((ps.length:Int)<=60)=false,decide ((ps.length:Int)>70)=false,decide ((as'.length:Int)>5)=false,decide ((as'.length:Int)>30)=false,decide (40<List.length t)=false,co (W0 w) (.ls (lst 0 lo1 3 ps f3)) (.ls (lst 0 lo1 3 ps f3)),co (W0 w) (.ls (lst 0 lo2 3 as' f3)) (.ls (lst 0 lo2 3 as' f3)),str t=str t,0=0,ii (↑0:Int)=Value.int IntKind.i64 0]):=by kernel_rfl
theorem wda9 {w:World}(lo1 lo2:Nat) (ps as':List P3) (t:Tx):wdaR w lo1 lo2 ps as' t [(20,8,false),(20,19,true)]=some (.ret,[decide ((ps.length:Int)>8)=false,decide ((ps.length:Int)>70)=true,Value.bool (jO ps as' t)=Value.bool true]):=by kernel_rfl
theorem wda10 {w:World}(lo1 lo2:Nat) (ps as':List P3) (t:Tx):wdaR w lo1 lo2 ps as' t [(20,8,false),(20,19,false),(20,25,true),(20,30,true)]=some (.ret,[decide ((ps.length:Int)>8)=false,decide ((ps.length:Int)>70)=false,decide ((as'.length:Int)>5)=true,decide ((as'.length:Int)<=20)=true,Value.bool (jO ps as' t)=Value.bool true]):=by kernel_rfl
theorem wda11 {w:World}(lo1 lo2:Nat) (ps as':List P3) (t:Tx):wdaR w lo1 lo2 ps as' t [(20,8,false),(20,19,false),(20,25,true),(20,30,false),(20,37,true)]=some (.ret,[decide ((ps.length:Int)>8)=false,decide ((ps.length:Int)>70)=false,decide ((as'.length:Int)>5)=true,decide ((as'.length:Int)<=20)=false,decide ((as'.length:Int)>30)=true,Value.bool (jO ps as' t)=Value.bool true]):=by kernel_rfl
theorem wda12 {w:World}(lo1 lo2:Nat) (ps as':List P3) (t:Tx):wdaR w lo1 lo2 ps as' t [(20,8,false),(20,19,false),(20,25,true),(20,30,false),(20,37,false),(20,42,true)]=some (.ret,[decide ((ps.length:Int)>8)=false,decide ((ps.length:Int)>70)=false,decide ((as'.length:Int)>5)=true,decide ((as'.length:Int)<=20)=false,decide ((as'.length:Int)>30)=false,decide (40<List.length t)=true,Value.bool (jO ps as' t)=Value.bool true]):=by kernel_rfl
theorem wda13 {w:World}(lo1 lo2:Nat) (ps as':List P3) (t:Tx):wdaTnal w lo1 lo2 ps as' t [(20,8,false),(20,19,false),(20,25,true),(20,30,false),(20,37,false),(20,42,false)]=some (.normal,[decide ((ps.length:Int)>8)=false,decide ((ps.length:Int)>70)=false,decide ((as'.length:Int)>5)=true,decide ((as'.length:Int)<=20)=false,decide ((as'.length:Int)>30)=false,decide (40<List.length t)=false,co (W0 w) (.ls (lst 0 lo1 3 ps f3)) (.ls (lst 0 lo1 3 ps f3)),co (W0 w) (.ls (lst 0 lo2 3 as' f3)) (.ls (lst 0 lo2 3 as' f3)),str t=str t,0=0,ii (↑0:Int)=Value.int IntKind.i64 0]):=by kernel_rfl
theorem wda14 {w:World}(lo1 lo2:Nat) (ps as':List P3) (t:Tx):wdaR w lo1 lo2 ps as' t [(20,8,false),(20,19,false),(20,25,false),(20,37,true)]=some (.ret,[decide ((ps.length:Int)>8)=false,decide ((ps.length:Int)>70)=false,decide ((as'.length:Int)>5)=false,decide ((as'.length:Int)>30)=true,Value.bool (jO ps as' t)=Value.bool true]):=by kernel_rfl
theorem wda15 {w:World}(lo1 lo2:Nat) (ps as':List P3) (t:Tx):wdaR w lo1 lo2 ps as' t [(20,8,false),(20,19,false),(20,25,false),(20,37,false),(20,42,true)]=some (.ret,[decide ((ps.length:Int)>8)=false,decide ((ps.length:Int)>70)=false,decide ((as'.length:Int)>5)=false,decide ((as'.length:Int)>30)=false,decide (40<List.length t)=true,Value.bool (jO ps as' t)=Value.bool true]):=by kernel_rfl
theorem wda16 {w:World}(lo1 lo2:Nat) (ps as':List P3) (t:Tx):wdaTnal w lo1 lo2 ps as' t [(20,8,false),(20,19,false),(20,25,false),(20,37,false),(20,42,false)]=some (.normal,[decide ((ps.length:Int)>8)=false,decide ((ps.length:Int)>70)=false,decide ((as'.length:Int)>5)=false,decide ((as'.length:Int)>30)=false,decide (40<List.length t)=false,co (W0 w) (.ls (lst 0 lo1 3 ps f3)) (.ls (lst 0 lo1 3 ps f3)),co (W0 w) (.ls (lst 0 lo2 3 as' f3)) (.ls (lst 0 lo2 3 as' f3)),str t=str t,0=0,ii (↑0:Int)=Value.int IntKind.i64 0]):=by kernel_rfl
theorem wide_ok (hG:Gr w) (hN:cF) {vs:List Value}(hp:cP (W0 w) w [kh lo1 lo2 ps as' t] vs) :
 Enters Tryz.prog 20/\Calls Tryz.prog 20 vs.toArray w (fun en w'=>∃ v,en=.returned v/\Res (W0 w) (rB (jO ps as' t)) v w'):=by
 refine fn_ok hG hN (ex:=[]) jd (fn:=Tryz.f20) Tryz.func20 (c:=codeOf Tryz.f20) (by kernel_rfl) (args:=[kh lo1 lo2 ps as' t]) rfl (by kernel_rfl) hp (fun hR a hA=>?_);have rest2:∀ a w1,At (W0 w) 108 (wdE lo1 lo2 ps as' t) a w1->CN ps.length as'.length t=false->ps.any uE=false->after Fence.wide 0 Tryz.prog kwide20_nt (Ret (W0 w) Tryz.f20 (Res (W0 w) (rB (jO ps as' t)))) .normal a w1:=by
  intro a w1 hA h0 h1;have hl2:=(Gk h0).2.2.2.1;refine kp (wdc lo1 lo2 ps as' t) (hR _ rfl) hA (fun a w1 hA=>ki ?_);refine yw (fun i=>wdI 4 lo1 lo2 ps as' t i) (fun i=>i<=as'.length/\(as'.take i).any uE=false) (fun i=>as'.length-i) (L:=kwide20_ntn) (ks:=kwide20_ntnt) (id:=2) (c:=ug kwide20_ntn) (by kernel_rfl) 0 ⟨zero_le _,by simp⟩ hA (fun i a2 w2 hi hA=>?_);rcases eq_false_or_eq_true (decide ((i:Int)<(as'.length:Int))) with q80|q80
  ·skip
   have p80:=of_decide_eq_true q80;rcases eq_false_or_eq_true (ua (as'.getD i default).1) with q89|q89
   ·skip
    have e0:=cbe (ps:=ps) (t:=t) (i:=i) (by omega) (cgk q89);refine jk (wdd0 lo1 lo2 ps as' t i) (hR _ rfl) hA
   ·skip
    rcases eq_false_or_eq_true (ua (as'.getD i default).2.1) with q97|q97
    ·skip
     have e0:=cbe (ps:=ps) (t:=t) (i:=i) (by omega) (cfK q97);refine jk (wdd1 lo1 lo2 ps as' t i) (hR _ rfl) hA
    ·skip
     rcases eq_false_or_eq_true (ua (as'.getD i default).2.2) with q106|q106
     ·skip
      have e0:=cbe (ps:=ps) (t:=t) (i:=i) (by omega) (cgd q106);refine jk (wdd2 lo1 lo2 ps as' t i) (hR _ rfl) hA
     ·skip
      refine kp (wdd3 lo1 lo2 ps as' t i) (hR _ rfl) hA (fun aT wT hT=>?_);exact uz (by kernel_rfl) ⟨i+1,⟨by omega,ccM (by omega) hi.2 (by simp only[uE,q89,q97,q106,Bool.or_false])⟩,hT,by omega⟩
  ·skip
   have p80:=of_decide_eq_false q80;refine kp (wdd4 lo1 lo2 ps as' t i) (hR _ rfl) hA (fun aT wT hT=>?_);refine kT _ (by kernel_rfl) ?_;obtain rfl:i=as'.length:=by omega
   have h2:as'.any uE=false:=by have:=hi.2;rwa [take_length] at this
   refine GD (hR ⟨[],[],[]⟩ rfl) (.inl rfl) (fun _=>rfl) (fn:=Tryz.f20) (wde lo1 lo2 ps as' t) ?_ hT (fun _ _ h=>h);exact⟨by simp only[jO,h0,h1,h2,Bool.or_false],trivial⟩
 have rest:∀ a w1,At (W0 w) 108 (wdI 3 lo1 lo2 ps as' t 0) a w1->CN ps.length as'.length t=false->after Fence.wide 0 Tryz.prog kwide20_n (Ret (W0 w) Tryz.f20 (Res (W0 w) (rB (jO ps as' t)))) .normal a w1:=by
  intro a w1 hA h0;have hl:=(Gk h0).2.1;refine yw (fun i=>wdI 3 lo1 lo2 ps as' t i) (fun i=>i<=ps.length/\(ps.take i).any uE=false) (fun i=>ps.length-i) (L:=kwide20_n) (ks:=kwide20_nt) (id:=0) (c:=ug kwide20_n) (by kernel_rfl) 0 ⟨zero_le _,by simp⟩ hA (fun i a2 w2 hi hA=>?_);rcases eq_false_or_eq_true (decide ((i:Int)<(ps.length:Int))) with q48|q48
  ·skip
   have p48:=of_decide_eq_true q48;rcases eq_false_or_eq_true (ua (ps.getD i default).1) with q57|q57
   ·skip
    have e0:=cbp (as':=as') (t:=t) (i:=i) (by omega) (cgk q57);refine jk (wdb0 lo1 lo2 ps as' t i) (hR _ rfl) hA
   ·skip
    rcases eq_false_or_eq_true (ua (ps.getD i default).2.1) with q65|q65
    ·skip
     have e0:=cbp (as':=as') (t:=t) (i:=i) (by omega) (cfK q65);refine jk (wdb1 lo1 lo2 ps as' t i) (hR _ rfl) hA
    ·skip
     rcases eq_false_or_eq_true (ua (ps.getD i default).2.2) with q74|q74
     ·skip
      have e0:=cbp (as':=as') (t:=t) (i:=i) (by omega) (cgd q74);refine jk (wdb2 lo1 lo2 ps as' t i) (hR _ rfl) hA
     ·skip
      refine kp (wdb3 lo1 lo2 ps as' t i) (hR _ rfl) hA (fun aT wT hT=>?_);exact uz (by kernel_rfl) ⟨i+1,⟨by omega,ccM (by omega) hi.2 (by simp only[uE,q57,q65,q74,Bool.or_false])⟩,hT,by omega⟩
  ·skip
   have p48:=of_decide_eq_false q48;refine kp (wdb4 lo1 lo2 ps as' t i) (hR _ rfl) hA (fun aT wT hT=>?_);refine kT _ (by kernel_rfl) ?_;obtain rfl:i=ps.length:=by omega
   have h1:ps.any uE=false:=by have:=hi.2;rwa [take_length] at this
   exact rest2 _ _ hT h0 h1
 rcases eq_false_or_eq_true (decide ((ps.length:Int)>8)) with q8|q8
 ·skip
  have p8:=of_decide_eq_true q8;rcases eq_false_or_eq_true (decide ((ps.length:Int)<=60)) with q13|q13
  ·skip
   have p13:=of_decide_eq_true q13;have e0:=uk (uW ps as' t (by omega));refine jk (wda0 lo1 lo2 ps as' t) (hR _ rfl) hA
  ·skip
   have p13:=of_decide_eq_false q13;rcases eq_false_or_eq_true (decide ((ps.length:Int)>70)) with q19|q19
   ·skip
    have p19:=of_decide_eq_true q19;have e0:=uk (uW ps as' t (by omega));refine jk (wda1 lo1 lo2 ps as' t) (hR _ rfl) hA
   ·skip
    have p19:=of_decide_eq_false q19;rcases eq_false_or_eq_true (decide ((as'.length:Int)>5)) with q25|q25
    ·skip
     have p25:=of_decide_eq_true q25;rcases eq_false_or_eq_true (decide ((as'.length:Int)<=20)) with q30|q30
     ·skip
      have p30:=of_decide_eq_true q30;have e0:=uk (uW ps as' t (by omega));refine jk (wda2 lo1 lo2 ps as' t) (hR _ rfl) hA
     ·skip
      have p30:=of_decide_eq_false q30;rcases eq_false_or_eq_true (decide ((as'.length:Int)>30)) with q37|q37
      ·skip
       have p37:=of_decide_eq_true q37;have e0:=uk (uW ps as' t (by omega));refine jk (wda3 lo1 lo2 ps as' t) (hR _ rfl) hA
      ·skip
       have p37:=of_decide_eq_false q37;rcases eq_false_or_eq_true (ua t) with q42|q42
       ·skip
        have e0:=uk (WN ps as' t q42);refine jk (wda4 lo1 lo2 ps as' t) (hR _ rfl) hA
       ·skip
        refine kp (wda5 lo1 lo2 ps as' t) (hR _ rfl) hA (fun aT wT hT=>?_);exact ki (rest _ _ hT (CT ps as' t (by omega) (by omega) (by omega) (by omega) q42))
    ·skip
     have p25:=of_decide_eq_false q25;rcases eq_false_or_eq_true (decide ((as'.length:Int)>30)) with q37|q37
     ·skip
      have p37:=of_decide_eq_true q37;have e0:=uk (uW ps as' t (by omega));refine jk (wda6 lo1 lo2 ps as' t) (hR _ rfl) hA
     ·skip
      have p37:=of_decide_eq_false q37;rcases eq_false_or_eq_true (ua t) with q42|q42
      ·skip
       have e0:=uk (WN ps as' t q42);refine jk (wda7 lo1 lo2 ps as' t) (hR _ rfl) hA
      ·skip
       refine kp (wda8 lo1 lo2 ps as' t) (hR _ rfl) hA (fun aT wT hT=>?_);exact ki (rest _ _ hT (CT ps as' t (by omega) (by omega) (by omega) (by omega) q42))
 ·skip
  have p8:=of_decide_eq_false q8;rcases eq_false_or_eq_true (decide ((ps.length:Int)>70)) with q19|q19
  ·skip
   have p19:=of_decide_eq_true q19;have e0:=uk (uW ps as' t (by omega));refine jk (wda9 lo1 lo2 ps as' t) (hR _ rfl) hA
  ·skip
   have p19:=of_decide_eq_false q19;rcases eq_false_or_eq_true (decide ((as'.length:Int)>5)) with q25|q25
   ·skip
    have p25:=of_decide_eq_true q25;rcases eq_false_or_eq_true (decide ((as'.length:Int)<=20)) with q30|q30
    ·skip
     have p30:=of_decide_eq_true q30;have e0:=uk (uW ps as' t (by omega));refine jk (wda10 lo1 lo2 ps as' t) (hR _ rfl) hA
    ·skip
     have p30:=of_decide_eq_false q30;rcases eq_false_or_eq_true (decide ((as'.length:Int)>30)) with q37|q37
     ·skip
      have p37:=of_decide_eq_true q37;have e0:=uk (uW ps as' t (by omega));refine jk (wda11 lo1 lo2 ps as' t) (hR _ rfl) hA
     ·skip
      have p37:=of_decide_eq_false q37;rcases eq_false_or_eq_true (ua t) with q42|q42
      ·skip
       have e0:=uk (WN ps as' t q42);refine jk (wda12 lo1 lo2 ps as' t) (hR _ rfl) hA
      ·skip
       refine kp (wda13 lo1 lo2 ps as' t) (hR _ rfl) hA (fun aT wT hT=>?_);exact ki (rest _ _ hT (CT ps as' t (by omega) (by omega) (by omega) (by omega) q42))
   ·skip
    have p25:=of_decide_eq_false q25;rcases eq_false_or_eq_true (decide ((as'.length:Int)>30)) with q37|q37
    ·skip
     have p37:=of_decide_eq_true q37;have e0:=uk (uW ps as' t (by omega));refine jk (wda14 lo1 lo2 ps as' t) (hR _ rfl) hA
    ·skip
     have p37:=of_decide_eq_false q37;rcases eq_false_or_eq_true (ua t) with q42|q42
     ·skip
      have e0:=uk (WN ps as' t q42);refine jk (wda15 lo1 lo2 ps as' t) (hR _ rfl) hA
     ·skip
      refine kp (wda16 lo1 lo2 ps as' t) (hR _ rfl) hA (fun aT wT hT=>?_);exact ki (rest _ _ hT (CT ps as' t (by omega) (by omega) (by omega) (by omega) q42))
theorem cdq {xs:List P3}(h:xs.any uE=false):Wf xs:=fun x hx=>by
 have h1:=List.any_eq_false.1 h x hx;simp only[uE,ua,or_eq_true,decide_eq_true_eq] at h1;omega
theorem chr (hN:cF) (lo1 lo2:Nat) (ps as':List P3) (t:Tx):kb 20 [kh lo1 lo2 ps as' t] (fun _=>rB (jO ps as' t)):=fun _ _ hG hp=>wide_ok hG hN hp
theorem cdK (h:jO ps as' t=false):Wf ps/\Wf as'/\ps.length<=70/\as'.length<=30/\t.length<=40:=by
 unfold jO at h;rw[or_eq_false_iff,or_eq_false_iff] at h;have h1:=Gk h.1.1;exact⟨cdq h.1.2,cdq h.2,h1.2.1,h1.2.2.2.1,h1.2.2.2.2⟩
end
end Pe
end Go.Proofs.YtobfdjojhfpakaaGreatDoor
