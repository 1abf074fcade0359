/- Part 29. -/
import Derived.Test.YtgdnkbajagfijaaGreatDoorD28
set_option linter.all false
noncomputable section

namespace Go.Proofs.YtgdnkbajagfijaaGreatDoor
open Go Go.RowKit Go.Proofs
namespace Pe
variable {D:Type}
inductive Kp where
 |code (c:Code)
 |endB (id:Nat)
section
variable (F:Fence) (m:Nat) (P:Program)
def after:List Kp->(Exit->Act->World->Prop)->Exit->Act->World->Prop
 |[],Q=>Q
 |.code c::ks,Q=>Exit.then (fun a w=>c.wpIn F m P (after ks Q) a w) (after ks Q)
 |.endB id::ks,Q=>Exit.inBlock id (after ks Q)
end
def Gv:Code->Bool
 |.loop _=>true
 |.seq x y=>match Gv x with
  |true=>true
  |false=>Gv y
 |.block _ c=>Gv c
 |.cond _ c d=>match Gv c with
  |true=>true
  |false=>Gv d
 |_=>false
def isLoop:Code->Bool
 |.loop _=>true
 |_=>false
def um:Nat->List Kp->List Code×List Kp
 |n+1,.code (.seq x y)::ks=>um n (.code x::.code y::ks)
 |n+1,.code c::ks=>match Gv c with
  |true=>([],.code c::ks)
  |false=>match um n ks with
   |(l,r)=>(c::l,r)
 |_,ks=>([],ks)
def cav (ks:List Kp):List Code:=(um 1000 ks).1
def ccg (ks:List Kp):List Kp:=(um 1000 ks).2
def chP:Nat->List Kp->List Kp
 |n+1,.endB _::ks=>chP n ks
 |n+1,.code (.block id c)::ks=>match isLoop c with
  |true=>.code (.block id c)::ks
  |false=>match Gv c with
   |true=>chP n (.code c::.endB id::ks)
   |false=>.code (.block id c)::ks
 |_,ks=>ks
def next (ks:List Kp):List Kp:=chP 100 (ccg ks)
def CL:List Kp->Code
 |.code (.block _ (.loop c))::_=>c
 |_=>.skip
def popK (j:Nat):List Kp->List Kp
 |.endB id::ks=>match Nat.beq j id with
  |true=>ks
  |false=>popK j ks
 |_::ks=>popK j ks
 |[]=>[]
def ccX (j:Nat):List Kp->Bool
 |.endB id::ks=>match Nat.beq j id with
  |true=>true
  |false=>ccX j ks
 |_::ks=>ccX j ks
 |[]=>false
def ER (S:Stat D) (TT:FuncId->Tab D) (CF YF:cH D) (nt:Nat) (base:cL D) (fid:FuncId) (inR:Bool) (n:Nat):List Code->St D->Ran D
 |[],st=>some (.normal,st,[])
 |c::l,st=>match zY S TT CF YF nt base fid inR n c st with
  |some (.normal,st',ob)=>match ER S TT CF YF nt base fid inR n l st' with
   |some (x,st2,ob2)=>some (x,st2,ob++ob2)
   |none=>none
  |r=>r
def clv (C:Ctx D) (TT:FuncId->Tab D) (CF YF:cH D) (nt:Nat) (fid:FuncId) (inR:Bool) (n:Nat) (l:List Code) (st st':St D):Option (Xt×List Prop) :=
 match ER C.toStat TT CF YF nt (fun b=>find b st.m) fid inR n l ⟨st.nb,st.sl,[],st.ms⟩ with
 |some (x,s1,ob)=>match fitTo C (st.join s1) st' with
  |some ob2=>some (x,ob++ob2)
  |none=>none
 |none=>none
section
variable {F:Fence}{m:Nat}{C:Ctx D}{TT:FuncId->Tab D}{CF YF:cH D}{nt:Nat}{fid:FuncId}{inR:Bool}{Q:Exit->Act->World->Prop}{a:Act}{w:World}{st st':St D}
theorem caf:∀ (ks:List Kp) {a:Act}{w:World},Q .ret a w->after F m C.P ks Q .ret a w
 |[],_,_,h=>h
 |.code _::ks,_,_,h=>caf ks h
 |.endB _::ks,_,_,h=>caf ks h
theorem zH {j:Nat}:∀ (ks:List Kp) {a:Act}{w:World},ccX j ks=false->Q (.exit j) a w->after F m C.P ks Q (.exit j) a w
 |[],_,_,_,hq=>hq
 |.code _::ks,_,_,h,hq=>zH ks (by simpa [ccX] using h) hq
 |.endB id::ks,_,_,h,hq=>by
  simp only[ccX] at h;simp only[after,Exit.inBlock];split at h
  ·cases h
  ·rename_i hj;rw[cg (fun e=>by subst e;simp at hj)];exact zH ks h hq
theorem chs (hW:Wd F) (hR:inR=false->F=Fence.wide) (hC:C.Ok) (hT:∀ f,(TT f).Ok C) (hF:CF.Ok C) (hFm:CF.Mono) (hY:zI C YF) (hYm:YF.Mono) {e0:Env}{w0:World}{n0:Nat}{base:cL D}(hb:jk C e0 w0 base) {B:Nat}(hfree:uj n0 B e0) {n:Nat} :
 ∀ (k:Nat) (ks:List Kp) (st:St D) (x:Xt) (st':St D) (ob:List Prop),ER C.toStat TT CF YF nt base fid inR n (um k ks).1 st=some (x,st',ob)->jC ob->st'.nb<=B->
 ∀ a w,Sat C nt e0 w0 n0 st a w->(∀ a' w',Sat C nt e0 w0 n0 st' a' w'->after F m C.P (um k ks).2 Q x.to a' w')->after F m C.P ks Q .normal a w:=by
 have stop:∀ (ks:List Kp) (st:St D) (x:Xt) (st':St D) (ob:List Prop),ER C.toStat TT CF YF nt base fid inR n [] st=some (x,st',ob)->∀ a w,Sat C nt e0 w0 n0 st a w->(∀ a' w',Sat C nt e0 w0 n0 st' a' w'->after F m C.P ks Q x.to a' w')->after F m C.P ks Q .normal a w:=by
  intro ks st x st' ob h a w hs hQ;simp only[ER,kD,cr] at h;obtain⟨rfl,rfl,rfl⟩:=h;exact hQ a w hs
 have one:∀ (k:Nat) (c:Code) (ks:List Kp) (ih:∀ (st:St D) (x:Xt) (st':St D) (ob:List Prop),ER C.toStat TT CF YF nt base fid inR n (um k ks).1 st=some (x,st',ob)->jC ob->st'.nb<=B->
  ∀ a w,Sat C nt e0 w0 n0 st a w->(∀ a' w',Sat C nt e0 w0 n0 st' a' w'->after F m C.P (um k ks).2 Q x.to a' w')->after F m C.P ks Q .normal a w) (out:∀ (x:Xt) a w,x≠.normal->after F m C.P (um k ks).2 Q x.to a w->after F m C.P ks Q x.to a w)
  (hle:∀ st x st' ob,ER C.toStat TT CF YF nt base fid inR n (um k ks).1 st=some (x,st',ob)->st.nb<=st'.nb)
  (st:St D) (x:Xt) (st':St D) (ob:List Prop),ER C.toStat TT CF YF nt base fid inR n (c::(um k ks).1) st=some (x,st',ob)->jC ob->st'.nb<=B->
  ∀ a w,Sat C nt e0 w0 n0 st a w->(∀ a' w',Sat C nt e0 w0 n0 st' a' w'->after F m C.P (um k ks).2 Q x.to a' w')->c.wpIn F m C.P (after F m C.P ks Q) a w:=by
  intro k c ks ih out hle st x st' ob h ho hB a w hs hQ;simp only[ER] at h;split at h
  ·rename_i st1 ob1 h1;split at h
   ·rename_i x2 st2 ob2 h2;injection h with h;simp only[cr] at h
    obtain⟨rfl,rfl,rfl⟩:=h;obtain⟨o1,o2⟩:=ho.append;refine EE (kv hW hR hC hT hF hFm hY hYm hb hfree n c st _ st1 ob1 h1 o1 (cB (hle _ _ _ _ h2) hB) a w hs) ?_;rintro e a' w' ⟨rfl,hs'⟩;exact ih st1 x2 st2 ob2 h2 o2 hB a' w' hs' hQ
   ·cases h
  ·rename_i hne;refine EE (kv hW hR hC hT hF hFm hY hYm hb hfree n c st _ _ _ h ho hB a w hs) ?_;rintro e a' w' ⟨rfl,hs'⟩;exact out x a' w' (fun hx=>by subst hx;exact hne _ _ h) (hQ a' w' hs')
 have outs:∀ (k:Nat) (ks:List Kp) (x:Xt) a w,x≠.normal->after F m C.P (um k ks).2 Q x.to a w->after F m C.P ks Q x.to a w:=by
  intro k
  induction k with
  |zero=>intro ks x a w _ h;cases ks<;>exact h
  |succ k ih =>
   intro ks x a w hx h
   match ks with
   |[]=>exact h
   |.endB id::ks=>exact h
   |.code c::ks =>
    have pass:∀ (c:Code) (ks:List Kp),after F m C.P ks Q x.to a w->after F m C.P (.code c::ks) Q x.to a w:=by
     intro c ks h;cases x with
     |normal=>exact absurd rfl hx
     |exit j=>exact h
     |ret=>exact h
    have gen:∀ c:Code,(∀ x y,c≠.seq x y)->after F m C.P (um (k+1) (.code c::ks)).2 Q x.to a w->after F m C.P (.code c::ks) Q x.to a w:=by
     intro c hc h;have hg:um (k+1) (.code c::ks)=(match Gv c with
      |true=>([],.code c::ks)
      |false=>match um k ks with
       |(l,r)=>(c::l,r)):=by
      cases c<;>first|rfl|exact absurd rfl (hc _ _)
     rw[hg] at h;split at h
     ·exact h
     ·exact pass c ks (ih ks x a w hx h)
    cases c with
    |seq y z =>
     have:=ih (.code y::.code z::ks) x a w hx h;cases x with
     |normal=>exact absurd rfl hx
     |exit j=>exact this
     |ret=>exact this
    |_=>exact gen _ (by simp) h
 have les:∀ (l:List Code) (st:St D) (x:Xt) (st':St D) (ob:List Prop),ER C.toStat TT CF YF nt base fid inR n l st=some (x,st',ob)->st.nb<=st'.nb:=by
  intro l
  induction l with
  |nil=>intro st x st' ob h;simp only[ER,kD,cr] at h;rw[h.2.1];exact cb _
  |cons c l ih =>
   intro st x st' ob h;simp only[ER] at h;split at h
   ·rename_i st1 ob1 h1;split at h
    ·rename_i x2 st2 ob2 h2;injection h with h;simp only[cr] at h
     obtain⟨rfl,rfl,rfl⟩:=h;exact cB (ue hFm hYm _ _ _ _ _ _ h1) (ih _ _ _ _ h2)
    ·cases h
   ·exact ue hFm hYm _ _ _ _ _ _ h
 intro k
 induction k with
 |zero=>intro ks st x st' ob h ho hB a w hs hQ;cases ks<;>exact stop _ st x st' ob h a w hs hQ
 |succ k ih =>
  intro ks st x st' ob h ho hB a w hs hQ
  match ks with
  |[]=>exact stop _ st x st' ob h a w hs hQ
  |.endB id::ks=>exact stop _ st x st' ob h a w hs hQ
  |.code c::ks =>
   have gen:∀ c:Code,(∀ x y,c≠.seq x y)->ER C.toStat TT CF YF nt base fid inR n (um (k+1) (.code c::ks)).1 st=some (x,st',ob)->(∀ a' w',Sat C nt e0 w0 n0 st' a' w'->after F m C.P (um (k+1) (.code c::ks)).2 Q x.to a' w')->after F m C.P (.code c::ks) Q .normal a w:=by
    intro c hc h hQ;have hg:um (k+1) (.code c::ks)=(match Gv c with
     |true=>([],.code c::ks)
     |false=>match um k ks with
      |(l,r)=>(c::l,r)):=by
     cases c<;>first|rfl|exact absurd rfl (hc _ _)
    rw[hg] at h hQ;split at h
    ·rename_i hl;rw[hl] at hQ;exact stop _ st x st' ob h a w hs hQ
    ·rename_i hl;rw[hl] at hQ;exact one k c ks (ih ks) (outs k ks) (les _) st x st' ob h ho hB a w hs hQ
   cases c with
   |seq y z =>
    show (Code.seq y z).wpIn F m C.P (after F m C.P ks Q) a w;apply wpIn_seq;exact ih (.code y::.code z::ks) st x st' ob h ho hB a w hs hQ
   |_=>exact gen _ (by simp) h hQ
theorem ciH (hR:CB C TT) (hW:Wd F) (hI:inR=false->F=Fence.wide) {g d n:Nat}{ks:List Kp}{x:Xt}{ob:List Prop}(h:clv C TT (Cp C.toStat TT g d).1 (Cp C.toStat TT g d).2 nt fid inR n (cav ks) st st'=some (x,ob)) (ho:jC ob)
 (hA:At C nt st a w) (hQ:∀ a' w',At C nt st' a' w'->after F m C.P (ccg ks) Q x.to a' w'):after F m C.P ks Q .normal a w:=by
 unfold clv at h;split at h
 rotate_left
 ·cases h
 rename_i x1 s1 ob1 he;split at h
 rotate_left
 ·cases h
 rename_i ob2 hf;injection h with h;simp only[cr] at h;obtain⟨rfl,rfl⟩:=h
 obtain⟨o1,o2⟩:=ho.append;obtain⟨⟨e,hg,hM,hV,hfr,hmk⟩,hsz⟩:=hA;have hFm:=(kH (S:=C.toStat) (TT:=TT) (g:=g) d).1;have hYm:=(kH (S:=C.toStat) (TT:=TT) (g:=g) d).2;have hle:(⟨st.nb,st.sl,[],st.ms⟩:St D).nb<=s1.nb:=execL_le he;have hle:st.nb<=s1.nb:=hle;refine chs hW hI hR.ok hR.tab (CN hR.ok hR.name hR.tab d).1 hFm (CN hR.ok hR.name hR.tab d).2 hYm hM (B:=s1.nb) (fun b h1 _=>hfr b h1) 1000 ks _ x1 s1 ob1 he o1 (cb _) a w ⟨⟨e,uE.refl hg _,hV,hmk⟩,hsz⟩ ?_;rintro a' w' ⟨⟨e',hL,hV',hmk'⟩,hsz'⟩;refine hQ a' w' (cou hR.ok hf o2 ⟨⟨e',hL.good,fun b o ho=>?_,hV',fun b hb=>?_,hmk'⟩,hsz'⟩)
 ·exact uY hM hL b o (by rw[ZQ];exact ho)
 ·obtain⟨q1,q2,q3⟩:=hfr b (cB hle hb);have hb:s1.nb<=b:=hb;refine⟨?_,?_,?_⟩
  ·cases hx:e'.ρ b with
   |none=>rfl
   |some y =>
    rcases hL.new.ρ b y hx with h|h
    ·rw[q1] at h;cases h
    ·omega
  ·cases hx:e'.ν b with
   |none=>rfl
   |some y =>
    rcases hL.new.ν b y hx with h|h
    ·rw[q2] at h;cases h
    ·omega
  ·cases hx:e'.φ b with
   |none=>rfl
   |some y =>
    rcases hL.new.φ b y hx with h|h
    ·rw[q3] at h;cases h
    ·omega
where
 execL_le {l:List Code} {base:cL D} {n d g:Nat} {st st':St D} {x:Xt} {ob:List Prop} (h:ER C.toStat TT (Cp C.toStat TT g d).1 (Cp C.toStat TT g d).2 nt base fid inR n l st=some (x,st',ob)):st.nb<=st'.nb:=by
  induction l generalizing st st' x ob with
  |nil=>simp only[ER,kD,cr] at h;rw[h.2.1];exact cb _
  |cons c l ih =>
   simp only[ER] at h;split at h
   ·rename_i st1 ob1 h1;split at h
    ·rename_i x2 st2 ob2 h2;injection h with h;simp only[cr] at h
     obtain⟨rfl,rfl,rfl⟩:=h;exact cB (ue (kH d).1 (kH d).2 _ _ _ _ _ _ h1) (ih h2)
    ·cases h
   ·exact ue (kH d).1 (kH d).2 _ _ _ _ _ _ h
theorem cfg:∀ (n:Nat) (ks:List Kp) {a:Act}{w:World},after F m C.P (chP n ks) Q .normal a w->after F m C.P ks Q .normal a w
 |0,ks,a,w,h=>by cases ks<;>exact h
 |n+1,[],a,w,h=>h
 |n+1,.endB id::ks,a,w,h=>cfg n ks h
 |n+1,.code c::ks,a,w,h=>by
  cases c with
  |block id c =>
   unfold chP at h;split at h
   ·exact h
   ·split at h
    ·exact wpIn_block (cfg n (.code c::.endB id::ks) h)
    ·exact h
  |_=>exact h
theorem Jz {ks:List Kp}(h:after F m C.P (next ks) Q .normal a w):after F m C.P (ccg ks) Q .normal a w:=cfg _ _ h
theorem Gx {Θ:Type}(I:Θ->St D) (J:Θ->Prop) (μ:Θ->Nat) {id:Nat}{c:Code}{L ks:List Kp}(hL:L=.code (.block id (.loop c))::ks) (θ0:Θ) (h0:J θ0) (hA:At C nt (I θ0) a w)
 (hr:∀ θ a w,J θ->At C nt (I θ) a w->after F m C.P [.code c] (Exit.then (fun a' w'=>∃ θ',J θ'/\At C nt (I θ') a' w'/\μ θ'<μ θ) (Exit.inBlock id (after F m C.P ks Q))) .normal a w):after F m C.P L Q .normal a w:=by
 subst hL;exact loop_at I J μ θ0 h0 hA hr
end
def cgw (C:Ctx D) (TT:FuncId->Tab D) (CF YF:cH D) (nt:Nat) (fid:FuncId) (inR:Bool) (n:Nat) (l:List Code) (rs:List ResultVar) (st:St D) (ps:List (Pat D)):Option (Xt×List Prop) :=
 match ER C.toStat TT CF YF nt (fun b=>find b st.m) fid inR n l ⟨st.nb,st.sl,[],st.ms⟩ with
 |some (.ret,s1,ob)=>match clk C rs (st.join s1) ps with
  |some ob2=>some (.ret,ob++ob2)
  |none=>none
 |_=>none
section
variable {F:Fence}{m:Nat}{C:Ctx D}{TT:FuncId->Tab D}{CF YF:cH D}{nt:Nat}{fid:FuncId}{inR:Bool}{Q:Exit->Act->World->Prop}{a:Act}{w:World}{st st':St D}
theorem ret_is (hR:CB C TT) (hW:Wd F) (hI:inR=false->F=Fence.wide) {g d n:Nat}{ks:List Kp}{fn:Func}{ps:List (Pat D)}{ob:List Prop}(h:cgw C TT (Cp C.toStat TT g d).1 (Cp C.toStat TT g d).2 nt fid inR n (cav ks) fn.results.toList st ps=some (.ret,ob)) (ho:jC ob)
 (hA:At C nt st a w) (hQ:∀ a' w',Ret C fn (Res C ps) .ret a' w'->Q .ret a' w'):after F m C.P ks Q .normal a w:=by
 unfold cgw at h;split at h
 rotate_left
 ·cases h
 rename_i s1 ob1 he;split at h
 rotate_left
 ·cases h
 rename_i ob2 hf;injection h with h;simp only[cr] at h;obtain⟨_,rfl⟩:=h
 obtain⟨o1,o2⟩:=ho.append;obtain⟨⟨e,hg,hM,hV,hfr,hmk⟩,hsz⟩:=hA;have hFm:=(kH (S:=C.toStat) (TT:=TT) (g:=g) d).1;have hYm:=(kH (S:=C.toStat) (TT:=TT) (g:=g) d).2;have hle:(⟨st.nb,st.sl,[],st.ms⟩:St D).nb<=s1.nb:=ciH.execL_le he;have hle:st.nb<=s1.nb:=hle;refine chs hW hI hR.ok hR.tab (CN hR.ok hR.name hR.tab d).1 hFm (CN hR.ok hR.name hR.tab d).2 hYm hM (B:=s1.nb) (fun b h1 _=>hfr b h1) 1000 ks _ .ret s1 ob1 he o1 (cb _) a w ⟨⟨e,uE.refl hg _,hV,hmk⟩,hsz⟩ ?_;rintro a' w' ⟨⟨e',hL,hV',hmk'⟩,hsz'⟩;refine caf _ (hQ a' w' (ret_at hR.ok hf o2 (nt:=nt) ⟨⟨e',hL.good,fun b o ho=>?_,hV',fun b hb=>?_,hmk'⟩,hsz'⟩ (.inl rfl)))
 ·exact uY hM hL b o (by rw[ZQ];exact ho)
 ·obtain⟨q1,q2,q3⟩:=hfr b (cB hle hb);have hb:s1.nb<=b:=hb;refine⟨?_,?_,?_⟩
  ·cases hx:e'.ρ b with
   |none=>rfl
   |some y =>
    rcases hL.new.ρ b y hx with h|h
    ·rw[q1] at h;cases h
    ·omega
  ·cases hx:e'.ν b with
   |none=>rfl
   |some y =>
    rcases hL.new.ν b y hx with h|h
    ·rw[q2] at h;cases h
    ·omega
  ·cases hx:e'.φ b with
   |none=>rfl
   |some y =>
    rcases hL.new.φ b y hx with h|h
    ·rw[q3] at h;cases h
    ·omega
def cjZ (C:Ctx D) (TT:FuncId->Tab D) (CF YF:cH D) (nt:Nat) (fid:FuncId) (n:Nat) (c:Code) (rs:List ResultVar) (st:St D) (ps:List (Pat D)):Option (Xt×List Prop) :=
 match zY C.toStat TT CF YF nt (fun b=>find b st.m) fid false n c ⟨st.nb,st.sl,[],st.ms⟩ with
 |some (.ret,s1,ob)=>match clk C rs (st.join s1) ps with
  |some ob2=>some (.ret,ob++ob2)
  |none=>none
 |_=>none
theorem all_is (hR:CB C TT) {g d n:Nat}{c:Code}{fn:Func}{ps:List (Pat D)}{ob:List Prop}(h:cjZ C TT (Cp C.toStat TT g d).1 (Cp C.toStat TT g d).2 nt fid n c fn.results.toList st ps=some (.ret,ob)) (ho:jC ob)
 (hA:At C nt st a w):c.wpIn Fence.wide m C.P (Ret C fn (Res C ps)) a w:=by
 unfold cjZ at h;split at h
 rotate_left
 ·cases h
 rename_i s1 ob1 he;split at h
 rotate_left
 ·cases h
 rename_i ob2 hf;injection h with h;simp only[cr] at h;obtain⟨_,rfl⟩:=h
 obtain⟨o1,o2⟩:=ho.append;exact ka (.inl rfl) (fun _=>rfl) hR.ok hR.tab (CN hR.ok hR.name hR.tab d).1 (kH d).1 (CN hR.ok hR.name hR.tab d).2 (kH d).2 he o1 hA (fun a' w' hA'=>ret_at hR.ok hf o2 hA' (.inl rfl))
end
end Pe
open Go Go.RowKit Go.Proofs Lim
namespace Pe
section
variable {b b':Bool}{lo lo':Nat}{w0 w0' w:World}
theorem YN:∀ {gs:List (Grp Dx)}{vs:List Value},cI (Cx b lo w0) w gs vs->cI (Cx b' lo' w0') w gs vs
 |[],_,h=>h
 |.lit _::_,_,h=>⟨h.1,YN h.2⟩
 |.cls _::_,_,h=>⟨h.1,YN h.2⟩
theorem ls_cx {L:Lt Dx}{v:Value}(h:cgz (Cx b lo w0) w L v):cgz (Cx b' lo' w0') w L v:=by
 rcases h with h|⟨k,o,c,arr,pre,vs,rest,q1,q2,q3,q4,q5,q6,q7,q8,q9⟩
 ·exact .inl h
 ·exact .inr ⟨k,o,c,arr,pre,vs,rest,q1,q2,q3,q4,q5,q6,q7,q8,fun j hj=>YN (q9 j hj)⟩
theorem pat_cx {p:Pat Dx}{v:Value}(h:p.is (Cx b lo w0) w v):p.is (Cx b' lo' w0') w v:=by
 cases p with
 |one g=>cases g<;>exact h
 |agg gs=>obtain⟨vs,h1,h2⟩:=h;exact⟨vs,YN h1,h2⟩
 |slc t n gs=>obtain⟨k,o,c,arr,pre,vs,rest,h1,h2,h3,h4,h5,h6⟩:=h;exact⟨k,o,c,arr,pre,vs,rest,h1,h2,h3,h4,YN h5,h6⟩
 |cap f ty z gs=>obtain⟨k,o,c,h1,h2⟩:=h;exact⟨k,o,c,ls_cx h1,h2⟩
theorem cbC:∀ {ps:List (Pat Dx)}{vs:List Value},jf (Cx b lo w0) w ps vs->jf (Cx b' lo' w0') w ps vs
 |[],_,h=>h
 |_::_,_,⟨v,ws,h1,h2,h3⟩=>⟨v,ws,h1,pat_cx h2,cbC h3⟩
theorem cla {p:jy Dx}{v:Value}(h:p.is (Cx b lo w0) w v):p.is (Cx b' lo' w0') w v:=by
 cases p with
 |val p=>exact pat_cx h
 |tup ps=>obtain⟨vs,h1,h2⟩:=h;exact⟨vs,cbC h1,h2⟩
theorem rob_cx {w1 w2:World}{p:jy Dx}{v:Value}(h:cbd (Cx b lo w0) w1 w2 p v):cbd (Cx b lo' w0') w1 w2 p v:=fun S hS w'' hs hk=>cla (h S hS w'' hs hk)
theorem Zs {w':World}(hk:∀ k,k<w.heap.size->w'.heap[k]?=w.heap[k]?):∀ {gs:List (Grp Dx)}{vs:List Value},cI (Cx b lo w0) w gs vs->cI (Cx b lo w0) w' gs vs
 |[],_,h=>h
 |.lit _::_,_,h=>⟨h.1,Zs hk h.2⟩
 |.cls _::_,_,h=>⟨DIs.grow hk h.1,Zs hk h.2⟩
theorem coX {w':World}(hk:∀ k,k<w.heap.size->w'.heap[k]?=w.heap[k]?) {p:Pat Dx}{v:Value}(hn:noSlc p=true) (h:p.is (Cx b lo w0) w v):p.is (Cx b lo w0) w' v:=by
 cases p with
 |one g =>
  cases g with
  |lit x=>exact h
  |cls d=>exact DIs.grow hk h
 |agg gs=>obtain⟨vs,h1,h2⟩:=h;exact⟨vs,Zs hk h1,h2⟩
 |slc t n gs=>cases hn
 |cap f ty z gs=>cases hn
theorem Zx {w':World}(hk:∀ k,k<w.heap.size->w'.heap[k]?=w.heap[k]?):∀ {ps:List (Pat Dx)}{vs:List Value},Um ps=true->jf (Cx b lo w0) w ps vs->jf (Cx b lo w0) w' ps vs
 |[],_,_,h=>h
 |p::ps,_,hn,⟨v,ws,h1,h2,h3⟩=>by
  unfold Um at hn;split at hn
  ·rename_i h0;exact⟨v,ws,h1,coX hk h0 h2,Zx hk hn h3⟩
  ·cases hn
theorem WC:∀ {ps:List (Pat Dx)}{csz:Dx->Nat}{s:Nat}{r:List A1×Ws Dx×Nat},En csz s ps=some r->Um ps=true
 |[],_,_,_,_=>rfl
 |p::ps,csz,s,r,h=>by
  have:=GS h p (by simp);simp only[En] at h;split at h
  ·split at h
   ·rename_i h2;unfold Um;cases p with
    |slc t n gs=>cases this
    |cap f ty z gs=>cases this
    |one g=>exact WC h2
    |agg gs=>exact WC h2
   ·cases h
  ·cases h
end
noncomputable abbrev W0 (w:World):Ctx Dx:=Cx true w.heap.size w
theorem fn_ok {w : World} (hG : Gr w) (hN : ∀ (f : Nat) (fn : Func), Tryz.prog.funcs[f]? = some fn → (fn.name == "runtime.NumGoroutine") = false) {ex : List (Nat × Con)} (hE : CI true w.heap.size w ex) {f : FuncId} {fn : Func} {c : Code} (hfn : Tryz.prog.funcs[f]? = some fn) (hbody : fn.body = some c) {args : List (Pat Dx)} {xs : List A1} {ws : Ws Dx} {n0 : Nat} (hm : En Dx.n 0 args = some (xs, ws, n0)) (hlen : Nat.ble (uA xs).length fn.ntmps = true)
 {vs:List Value} (hp:jf (W0 w) w args vs) {ps:List (Pat Dx)} (hwp:(∀ o:Opt,o.ex=ex->CB (W0 w) (TY o))->∀ a,At (W0 w) fn.ntmps ⟨n0,Je 0 (uA xs),ws,[]⟩ a w->after Fence.wide 0 Tryz.prog [.code c] (Ret (W0 w) fn (Res (W0 w) ps)) .normal a w) :
 Enters Tryz.prog f/\Calls Tryz.prog f vs.toArray w (fun en w'=>∃ v,en=.returned v/\Res (W0 w) ps v w'):=by
 have hR:∀ o:Opt,o.ex=ex->CB (W0 w) (TY o):=fun o ho=>ccA (cb _) hG hN (by rw[ho];exact hE);have hR0:=hR ⟨[],[],ex⟩ rfl;refine CW (C:=W0 w) hR0 hfn hbody hm hlen ?_ (fun a hA=>hwp hR a hA);exact cby hR0.ok (W:=fun w'=>uU env0 w w') w (uU.refl _ _) (GS hm) (fun w' hk=>Zx (fun k hk'=>hk.block k hk' (fun b=>by simp)) (WC hm) hp)
theorem kZ {F:Fence}{m:Nat}{P:Program}{Q:Exit->Act->World->Prop}{ks:List Kp}{a:Act}{w:World}(h:ks=[]) (hq:Q .normal a w):after F m P ks Q .normal a w:=by
 subst h;exact hq
theorem cjs {lo:Nat}{w0:World}(hG:Gr w0) (hlo:lo<=w0.heap.size) {f:FuncId}{args:List (Pat Dx)}(ps:Nat->List (Pat Dx)) (hsub:∀ hi,lo<=hi->∃ ob,yj (Cx true lo w0) (ps lo) (ps hi)=some ob/\jC ob)
 (h:∀ w vs,Gr w->jf (W0 w) w args vs->Enters Tryz.prog f/\Calls Tryz.prog f vs.toArray w (fun en w'=>∃ v,en=.returned v/\Res (W0 w) (ps w.heap.size) v w')) (hE:Enters Tryz.prog f):jQ (Cx true lo w0) (.call f) args (KK (ps lo)):=by
 refine⟨hE,fun w vs hb hvs=>?_⟩;refine(h w vs (hG.below hb hG.size) (cbC hvs)).2.mono ?_;rintro en w' ⟨v,rfl,h1,h2⟩;refine⟨v,rfl,h1,?_⟩;obtain⟨ob,h3,h4⟩:=hsub w.heap.size (cB hlo hb.size);intro S hS w'' hs hk;have h5:=rob_cx (lo':=lo) (w0':=w0) h2 S hS w'' hs hk;have hC:=cgH (b:=true) hlo;revert h3 h5;generalize ps lo=a;generalize ps w.heap.size=c;intro h3 h5;unfold KK at h5 ⊢;split at h5
 ·rename_i p
  match a,h3 with
  |[q],h3 =>
   have:=zp hC h3 h4 (vs:=[v]) ⟨v,[],rfl,h5,rfl⟩;obtain⟨x,y,e1,e2,e3⟩:=this;injection e1 with e1 _
   subst e1;exact e2
  |[],h3=>simp [yj] at h3
  |_::q::r,h3 =>
   obtain⟨x,y,q1,q2,_⟩:=uo h3;simp [yj] at q2
 ·rename_i hne
  match a,h3 with
  |[q],h3 =>
   exfalso
   match c,h3,hne with
   |[],h3,_=>simp [yj] at h3
   |[p],_,hne=>exact hne p rfl
   |_::_::_,h3,_ =>
    obtain⟨x,y,q1,q2,_⟩:=uo h3;simp [yj] at q2
  |[],h3=>obtain⟨us,q1,q2⟩:=h5;exact⟨us,zp hC h3 h4 q1,q2⟩
  |q1::q2::r,h3=>obtain⟨us,p1,p2⟩:=h5;exact⟨us,zp hC h3 h4 p1,p2⟩
def WU (args:List (Pat Dx)) (res:jy Dx):Con:=fun l=>some (res,[l=args])
theorem zW {bb:Bool}{lo:Nat}{w0:World}{f:Nat}{args:List (Pat Dx)}{res:jy Dx}(h:jQ (Cx bb lo w0) (.call f) args res):∀ l r ob,WU args res l=some (r,ob)->jC ob->jQ (Cx bb lo w0) (.call f) l r:=by
 intro l r ob hl ho;unfold WU at hl;injection hl with hl;injection hl with h1 h2;subst h1;subst h2
 rw[show l=args from ho.1];exact h
def lst {α:Type}[Inhabited α] (lo ty z:Nat) (xs:List α) (f:α->List (Grp Dx)):Lt Dx:=⟨lo,ty,z,xs.length,fun j=>f (xs.getD j default)⟩
section
variable {C:Ctx Dx}{b:Bool}{lo:Nat}{w0:World}
theorem cN {n:Nat}{g:Nat->List (Grp Dx)}{x:List (Grp Dx)}(h:x=g n):∀ j,j<n+1->kG C (g j) (YQ n g (fun _=>x) j):=by
 intro j hj w vs hv;unfold YQ at hv;split at hv
 ·exact hv
 ·rename_i hn;have:j=n:=by
   rcases jb j n with h1|h1
   ·rw[show Nat.blt j n=true from JA h1] at hn;cases hn
   ·omega
  rw[h,← this] at hv;exact hv
theorem sub_lo {L:Lt Dx}{a c:Nat}(h:a<=c):jZ (Cx b lo w0) (.ls { L with lo:=a }) (.ls { L with lo:=c }):=by
 intro w l hl;have hl:DIs w (.ls { L with lo:=c }) l:=hl;show DIs w (.ls { L with lo:=a }) l;cases hl with
 |nil h1=>exact .nil h1
 |ls k o cp arr pre vs rest h2 h3 h4 h5 h6 h7 h8 h9=>exact .ls k o cp arr pre vs rest h2 h3 h4 h5 h6 (cB h h7) h8 h9
theorem Ul {r s:Rat}{j k:Nat}(h:s=r) (hk:k<=j):jZ (Cx b lo w0) (.q r j) (.q s k):=by
 intro w l hl;have hl:DIs w (.q s k) l:=hl;subst h;cases hl with
 |q h1 h2 h3=>exact .q h1 h2 (h3.le hk)
theorem Yc {r s:Rat}{j k:Nat}(h:s=r) (hk:k<=j):jZ (Cx b lo w0) (.rq r j) (.rq s k):=by
 intro w l hl;have hl:DIs w (.rq s k) l:=hl;subst h;cases hl with
 |rq h1 h2 h3=>exact .rq h1 h2 (h3.le hk)
theorem JY {r:Rat}{k:Nat}(h:r=0) (hk:1<=k):kG (Cx b lo w0) [.cls (.q r k)] [.lit (.bool false),.lit (.int .u64 0),.lit (.int .u64 0),.lit (.pointer none)]:=by
 intro w vs hv;subst h;obtain⟨xs,ys,rfl,h1,h2⟩:=Kr (b:=b) (lo:=lo) (w0:=w0) (gs':=[]) (r:=0) (k:=1) rfl hv;rw[show ys=[] from h2];exact Yl (.cls (Ul (b:=b) (lo:=lo) (w0:=w0) (r:=0) (j:=k) rfl hk w xs h1) .nil)
end
end Pe
namespace Pe
abbrev Tx:=List UInt8
abbrev nq (l:Tx):Rat:=(kq l).1
noncomputable abbrev codeOf (fn:Func):Code:=fn.body.getD .skip
abbrev ii (n:Int):Value:=.int .i64 n
noncomputable abbrev run (w:World) (o:Opt) (f nt:Nat) (ks:List Kp) (st st':St Dx):Option (Xt×List Prop):=clv (W0 w) (TY o) (Cp (Sx true w.heap.size) (TY o) 300 30).1 (Cp (Sx true w.heap.size) (TY o) 300 30).2 nt f false 300 (cav ks) st st'
noncomputable abbrev runR (w:World) (o:Opt) (f nt:Nat) (fn:Func) (ks:List Kp) (st:St Dx) (ps:List (Pat Dx)):Option (Xt×List Prop):=cgw (W0 w) (TY o) (Cp (Sx true w.heap.size) (TY o) 300 30).1 (Cp (Sx true w.heap.size) (TY o) 300 30).2 nt f false 300 (cav ks) fn.results.toList st ps
abbrev jD : Prop := ∀ (f : Nat) (fn : Func), Tryz.prog.funcs[f]? = some fn → (fn.name == "runtime.NumGoroutine") = false
end Pe
namespace Pe
def stA (args:List (Pat Dx)):St Dx:=match En Dx.n 0 args with
 |some (xs,ws,n0)=>⟨n0,Je 0 (uA xs),ws,[]⟩
 |none=>⟨0,[],[],[]⟩
def lenA (args:List (Pat Dx)) (n:Nat):Bool:=match En Dx.n 0 args with
 |some (xs,_,_)=>Nat.ble (uA xs).length n
 |none=>false
theorem Em {w:World}(hG:Gr w) (hN:jD) {ex:List (Nat×Con)}(hE:CI true w.heap.size w ex) {f:FuncId}{fn:Func}{c:Code}(hfn:Tryz.prog.funcs[f]?=some fn) (hbody:fn.body=some c) {args:List (Pat Dx)}(hm:lenA args fn.ntmps=true)
 {vs:List Value} (hp:jf (W0 w) w args vs) {ps:List (Pat Dx)} (hwp:(∀ o:Opt,o.ex=ex->CB (W0 w) (TY o))->∀ a,At (W0 w) fn.ntmps (stA args) a w->after Fence.wide 0 Tryz.prog [.code c] (Ret (W0 w) fn (Res (W0 w) ps)) .normal a w) :
 Enters Tryz.prog f/\Calls Tryz.prog f vs.toArray w (fun en w'=>∃ v,en=.returned v/\Res (W0 w) ps v w'):=by
 unfold lenA at hm;split at hm
 ·rename_i xs ws n0 h0;refine fn_ok hG hN hE hfn hbody h0 hm hp (fun hR a hA=>hwp hR a ?_);unfold stA;rw[h0];exact hA
 ·cases hm
abbrev Es (f:Nat) (args:List (Pat Dx)) (ps:Nat->List (Pat Dx)):Prop:=∀ w vs,Gr w->jf (W0 w) w args vs->Enters Tryz.prog f/\Calls Tryz.prog f vs.toArray w (fun en w'=>∃ v,en=.returned v/\Res (W0 w) (ps w.heap.size) v w')
section
variable {lo:Nat}{w0:World}{f:Nat}{args:List (Pat Dx)}
theorem Es.ent {ps:Nat->List (Pat Dx)}(h:Es f args ps) (hG:Gr w0) (hlo:lo<=w0.heap.size) (hE:Enters Tryz.prog f) (hsub:∀ hi,lo<=hi->∃ ob,yj (Cx true lo w0) (ps lo) (ps hi)=some ob/\jC ob):jQ (Cx true lo w0) (.call f) args (KK (ps lo)):=cjs hG hlo ps hsub h hE
theorem Es.val {v:Value}(h:Es f args (fun _=>[.one (.lit v)])) (hG:Gr w0) (hlo:lo<=w0.heap.size) (hE:Enters Tryz.prog f):jQ (Cx true lo w0) (.call f) args (vr v) :=
 h.ent hG hlo hE (fun _ _=>⟨_,rfl,rfl,trivial⟩)
end
abbrev R2:=Rat×Rat
abbrev fQ (x:R2):List (Grp Dx):=[.cls (.q x.1 4),.cls (.q x.2 4)]
abbrev pQ (r:Rat) (k:Nat):Pat Dx:=.agg [.cls (.q r k)]
abbrev pR (r:Rat) (k:Nat):Pat Dx:=.agg [.cls (.rq r k)]
abbrev pI (i:Int):Pat Dx:=.one (.lit (.int .i64 i))
abbrev pF (f:Nat):Pat Dx:=.one (.lit (.func (.func f) #[] #[]))
abbrev rB (b:Bool):List (Pat Dx):=[.one (.lit (.bool b))]
abbrev rI (i:Int):List (Pat Dx):=[.one (.lit (.int .i64 i))]
abbrev sD (w:World) (d:Dx):Prop:=jZ (W0 w) d d
abbrev sG (w:World) (n:Nat) (g:Nat->List (Grp Dx)):Prop:=∀ j,j<n->kG (W0 w) (g j) (g j)
abbrev sN (w:World) (n:Nat) (g:Nat->List (Grp Dx)) (x:List (Grp Dx)):Prop:=∀ j,j<n+1->kG (W0 w) (g j) (YQ n g (fun _=>x) j)
abbrev eA {α:Type}(a:α):Prop:=a=a
abbrev zV:List Prop:=[Value.bool false=Value.bool false,Value.int .u64 0=Value.int .u64 0,Value.int .u64 0=Value.int .u64 0,Value.pointer none=Value.pointer none]
theorem cM (n:Nat):Int.ofNat n=(n:Int):=rfl
theorem YJ {b:Bool}{lo:Nat}{w0:World}{r s:Rat}(h1:r=0) (h2:s=0):kG (Cx b lo w0) [.cls (.q r 1),.cls (.q s 1)] [.lit (.bool false),.lit (.int .u64 0),.lit (.int .u64 0),.lit (.pointer none),.lit (.bool false),.lit (.int .u64 0),.lit (.int .u64 0),.lit (.pointer none)]:=by
 intro w vs hv;subst h1;subst h2;obtain⟨xs,ys,rfl,h3,h4⟩:=Kr (b:=b) (lo:=lo) (w0:=w0) (gs':=[.lit (.bool false),.lit (.int .u64 0),.lit (.int .u64 0),.lit (.pointer none)]) (r:=0) (k:=1) rfl hv;obtain⟨xs',ys',rfl,h5,h6⟩:=Kr (b:=b) (lo:=lo) (w0:=w0) (gs':=[]) (r:=0) (k:=1) rfl h4;rw[show ys'=[] from h6];exact Yl (.cls h3 (.cls h5 .nil))
section
variable {w w1:World}{o:Opt}{f nt:Nat}{ks:List Kp}{st st':St Dx}{x:Xt}{ob:List Prop}{a:Act}{Q:Exit->Act->World->Prop}
theorem uW (h:run w o f nt ks st st'=some (x,ob)) (hR:CB (W0 w) (TY o)) (hA:At (W0 w) nt st a w1) (hQ:∀ a' w',At (W0 w) nt st' a' w'->after Fence.wide 0 (W0 w).P (ccg ks) Q x.to a' w') (ho:jC ob:=by (repeat' (first|exact trivial|apply And.intro))<;>first|exact jZ.refl _ _|exact fun _ _=>kG.refl _ _|exact cN rfl|exact cN (by assumption)|exact ja _ _|exact cZ _ _|(with_reducible assumption)|omega|with_reducible rfl|(simp only[cM];omega)|(intro j hj;exact absurd hj (cT _))|exact Ul rfl (by omega)|exact Yc rfl (by omega)|exact Ul (by assumption) (by omega)|exact Yc (by assumption) (by omega)|exact JY rfl (by omega)|exact YJ rfl rfl|exact cG rfl|exact cG (by omega)|assumption|rfl):after Fence.wide 0 (W0 w).P ks Q .normal a w1:=ciH hR (.inl rfl) (fun _=>rfl) h ho hA hQ
theorem ug {fn:Func}{ps:List (Pat Dx)}(h:runR w o f nt fn ks st ps=some (.ret,ob)) (hR:CB (W0 w) (TY o)) (hA:At (W0 w) nt st a w1) (ho:jC ob:=by (repeat' (first|exact trivial|apply And.intro))<;>first|exact jZ.refl _ _|exact fun _ _=>kG.refl _ _|exact cN rfl|exact cN (by assumption)|exact ja _ _|exact cZ _ _|(with_reducible assumption)|omega|with_reducible rfl|(simp only[cM];omega)|(intro j hj;exact absurd hj (cT _))|exact Ul rfl (by omega)|exact Yc rfl (by omega)|exact Ul (by assumption) (by omega)|exact Yc (by assumption) (by omega)|exact JY rfl (by omega)|exact YJ rfl rfl|exact cG rfl|exact cG (by omega)|assumption|rfl) (hQ:∀ a' w',Ret (W0 w) fn (Res (W0 w) ps) .ret a' w'->Q .ret a' w':=by exact fun _ _ h=>h):after Fence.wide 0 (W0 w).P ks Q .normal a w1:=ret_is hR (.inl rfl) (fun _=>rfl) h ho hA hQ
end
end Pe
namespace Pe
def ixP (n:Nat) (p:Nat->Bool):Int:=match (List.range n).find? p with
 |some i=>(i:Int)
 |none=>-1
def Jl (n:Nat) (p:Nat->Bool):Bool:=(List.range n).any p
section
variable {n:Nat}{p:Nat->Bool}
theorem cpt {i:Nat}(hi:i<n) (h:p i=true) (hb:∀ k,k<i->p k=false):ixP n p=(i:Int):=by
 have:(List.range n).find? p=some i:=by
  rw[List.find?_range_eq_some];exact⟨h,List.mem_range.2 hi,fun j hj=>by simp [hb j hj]⟩
 unfold ixP;rw[this]
theorem cpo (h:∀ i,i<n->p i=false):ixP n p=-1:=by
 have:(List.range n).find? p=none:=by
  rw[List.find?_eq_none];intro i hi;rw[h i (List.mem_range.1 hi)];exact cbI
 unfold ixP;rw[this]
theorem ixP_ge:decide (ixP n p>=0)=Jl n p:=by
 unfold ixP Jl;split
 ·rename_i i h;have h1:=List.find?_some h;have h2:=List.mem_of_find?_eq_some h;rw[List.any_eq_true.2 ⟨i,h2,h1⟩];exact cG (by omega)
 ·rename_i h;rw[List.find?_eq_none] at h;rw[List.any_eq_false.2 h];rfl
theorem cex {i:Nat}(hi:i<n) (h:p i=true):Jl n p=true:=List.any_eq_true.2 ⟨i,List.mem_range.2 hi,h⟩
theorem cdx (h:∀ i,i<n->p i=false):Jl n p=false:=List.any_eq_false.2 fun i hi=>by rw[h i (List.mem_range.1 hi)];exact cbI
end
abbrev pS (r:Rat) (j:Nat) (s:Rat) (k:Nat):Pat Dx:=.agg [.cls (.q r j),.cls (.q s k)]
theorem YB {r s:Rat}:kd r s>0↔s<r:=by
 unfold kd;by_cases h:r<s
 ·rw[co h];exact⟨fun x=>absurd x (by decide),fun x=>absurd x (by grind)⟩
 ·rw[cg h];by_cases h2:s<r
  ·rw[co h2];exact⟨fun _=>h2,fun _=>by decide⟩
  ·rw[cg h2];exact⟨fun x=>absurd x (by decide),fun x=>absurd x h2⟩
abbrev E2:=Tx×Tx
abbrev fE (x:E2):List (Grp Dx):=[.lit (str x.1),.lit (str x.2)]
abbrev fT (t:Tx):List (Grp Dx):=[.lit (str t)]
theorem mapD {α β:Type}[Inhabited α] [Inhabited β] {xs:List α}{f:α->β}{i:Nat}(h:i<xs.length):(xs.map f).getD i default=f (xs.getD i default):=by
 rw[zT,KV,zT,jX h];rfl
theorem clT {n:Nat}{p:Nat->Bool}(h:Jl n p=false) {i:Nat}(hi:i<n):p i=false:=by
 unfold Jl at h;exact Bool.eq_false_iff.2 (List.any_eq_false.1 h i (List.mem_range.2 hi))
theorem sign_nn {r:Rat}(h:¬ sign r<0):0<=r:=by
 rw[clM] at h;split at h
 ·exact absurd (by decide) h
 ·rename_i h1;exact Rat.not_lt.1 h1
end Pe
namespace Pe
theorem clt {r s:Rat}:kd r s<0↔r<s:=by
 unfold kd;by_cases h:r<s
 ·rw[co h];exact⟨fun _=>h,fun _=>by decide⟩
 ·rw[cg h];by_cases h2:s<r
  ·rw[co h2];exact⟨fun x=>absurd x (by decide),fun x=>absurd x h⟩
  ·rw[cg h2];exact⟨fun x=>absurd x (by decide),fun x=>absurd x h⟩
theorem cle {r s:Rat}:kd r s<=0↔r<=s:=cgc
def okSp (a b:Rat):Bool:=!(decide (sign a<0))&&decide (kd a b<=0)
theorem cgx {a b:Rat}:okSp a b=true↔0<=a/\a<=b:=by
 unfold okSp;rw[GK,Bool.not_eq_true',cfa,Ky,cle];refine and_congr ⟨sign_nn,fun h h1=>?_⟩ Iff.rfl;rw[clM] at h1;split at h1
 ·rename_i h2;grind
 ·split at h1<;>exact absurd h1 (by decide)
theorem gD_is {α:Type}[Inhabited α] {L:List α}{i:Nat}(h:i<L.length):L.getD i default=L[i]:=by
 rw[zT,jX h];rfl
end Pe
namespace Pe
theorem CK {w:World}{ex:List (Nat×Con)}(hG:Gr w) (hN:jD) (hE:CI true w.heap.size w ex):∀ o:Opt,o.ex=ex->CB (W0 w) (TY o):=fun _ ho=>ccA (cb _) hG hN (by rw[ho];exact hE)
def conSo:Con
 |[p]=>match spOf p with
  |some ((a,j),(b,k))=>ck false (a<=b/\j<=1000000/\k<=1000000) (sr a j b k)
  |none=>none
 |_=>none
theorem ckf {a b:Rat}(h:a<=b):CO a [b]=a:=by
 show (if b<a then b else a)=a;rw[cg (Rat.not_lt.2 h)]
theorem cfN {a b:Rat}(h:a<=b):yH a [b]=b:=by
 show (if a<b then b else a)=b;by_cases h1:a<b
 ·rw[co h1]
 ·rw[cg h1];exact Rat.le_antisymm h (Rat.not_lt.1 h1)
theorem coO {bb:Bool}{lo:Nat}{w0:World}:∀ l r ob,conSo l=some (r,ob)->jC ob->jQ (Cx bb lo w0) (.call 74) l r:=by
 intro l res ob h ho;unfold conSo at h;split at h
 ·split at h
  ·rename_i p a j b k hq;obtain⟨⟨hk,hj,hk'⟩,rfl⟩:=Jg h ho;refine⟨jg Tryz.func74 (by kernel_rfl) rfl,fun w vs hb hvs=>?_⟩;obtain⟨v,_,rfl,h1,rfl⟩:=hvs;obtain⟨h1,z1,z2⟩:=cgb hq h1;refine(cbR v a b (j+k) w h1 (z1.le (by omega)) (z2.le (by omega)) (by omega)).mono fun _ _ h=>?_;rw[ckf hk,cfN hk] at h;exact res_s z1 z2 h
  ·cases h
 ·cases h
def cjX:Con
 |[.agg [.cls (.q r _)]]=>some (vr (.bool (decide (sign r<0))),[])
 |_=>none
def conVa:Con
 |[.agg [.cls (.q a j),.cls (.q b k)]]=>some (vr (.bool (okSp a b)),[j+k<=10000])
 |_=>none
end Pe
namespace Pe
noncomputable def klong8_:List Kp:=[.code (codeOf Tryz.f8)]
noncomputable def klong8_n:List Kp:=next klong8_
noncomputable def klong8_nl:List Kp:=[.code (CL klong8_n)]
noncomputable def klong8_nt:List Kp:=klong8_n.tail
def txts:List (Grp Dx)->Option (List Tx)
 |[]=>some []
 |.lit (.string ⟨⟨l⟩⟩)::r=>match txts r with
  |some T=>some (l::T)
  |none=>none
 |_=>none
theorem clN:∀ {gs:List (Grp Dx)}{T:List Tx},txts gs=some T->gs=T.map (fun t=>.lit (str t))
 |[],T,h=>by simp [txts] at h;subst h;rfl
 |g::r,T,h=>by
  unfold txts at h;split at h
  ·rename_i he;cases he
  ·rename_i l r' he;injection he with he1 he2;subst he1;subst he2
   split at h
   ·rename_i T' hT;injection h with h;subst h
    rw[clN hT];rfl
   ·cases h
  ·cases h
theorem cie {C:Ctx Dx}{w:World}:∀ {T:List Tx}{vs:List Value},cI C w (T.map (fun t=>Grp.lit (str t))) vs->vs=T.map str
 |[],vs,h=>h
 |t::T,vs,h=>by
  obtain⟨h1,h2⟩:=h;have h1:vs.take 1=[str t]:=h1;have h2:=cie (T:=T) h2;cases vs with
  |nil=>cases h1
  |cons v vs =>
   injection h1 with h1 _
   subst h1;show str t::vs=str t::T.map str;rw[show vs=T.map str from h2]
theorem slc_txt {lo lo' ty n:Nat}{w0 w0' w:World}{T:List Tx}{v:Value}(h:Pat.is (Cx true lo w0) w (.slc ty n (T.map (fun t=>Grp.lit (str t)))) v) (hn:n=T.length):Pat.is (Cx true lo' w0') w (.one (.cls (.ls (lst 0 ty 1 T fT)))) v:=by
 obtain⟨k,o,c,arr,pre,vs,rest,rfl,h1,h2,h3,h4,h5⟩:=h;obtain rfl:=cie h4;subst hn;refine DIs.ls k o c arr pre _ rest h5 ⟨_,h1⟩ h2 h3 (by simp [lst]) (ju _) (fun v hv=>?_) (fun j hj=>?_)
 ·obtain⟨t,_,rfl⟩:=List.mem_map.1 hv;rfl
 ·have hj:j<T.length:=hj;have e:((T.map str).drop (j*1)).take 1=[str (T.getD j default)]:=by
   rw[Ce,KH (by simpa using hj),WG,List.take_zero,List.getElem_map,gD_is hj]
  show GsI w (fT (T.getD j default)) (((T.map str).drop (j*1)).take 1);rw[e];exact .lit .nil
def lgB (T:List Tx):Bool:=Jl T.length (fun i=>decide (((T.getD i default).length:Int)>30))
abbrev pTx (lo:Nat) (T:List Tx):Pat Dx:=.one (.cls (.ls (lst lo 9 1 T fT)))
abbrev lgI (lo:Nat) (T:List Tx) (i:Nat):St Dx:=⟨1,[(0,.val (.one (.sym 0 0))),(3,.val (.one (.lit (ii (i:Int)))))],[(0,.cls (.ls (lst lo 9 1 T fT)))],[]⟩
theorem lga {w:World}(lo:Nat) (T:List Tx):run w ⟨[],[],[]⟩ 8 16 klong8_ (stA [pTx lo T]) (lgI lo T 0)=some (.normal,[sD w (.ls (lst lo 9 1 T fT)),ii (↑0:Int)=Value.int IntKind.i64 0]):=by kernel_rfl
theorem lge {w:World}(lo:Nat) (T:List Tx) (i:Nat):runR w ⟨[],[],[]⟩ 8 16 Tryz.f8 klong8_nt (lgI lo T i) (rB false)=some (.ret,[eA (Value.bool false)]):=by kernel_rfl
noncomputable abbrev lgbTe0 (w:World) (l0:Nat) (T:List Tx) (i:Nat) (o:List (Nat×Nat×Bool)):=run w ⟨o,[],[]⟩ 8 16 klong8_nl (lgI l0 T i) (lgI l0 T i)
noncomputable abbrev lgbTnal (w:World) (l0:Nat) (T:List Tx) (i:Nat) (o:List (Nat×Nat×Bool)):=run w ⟨o,[],[]⟩ 8 16 klong8_nl (lgI l0 T i) (lgI l0 T (i+1))
noncomputable abbrev lgbR (w:World) (l0:Nat) (T:List Tx) (i:Nat) (o:List (Nat×Nat×Bool)):=runR w ⟨o,[],[]⟩ 8 16 Tryz.f8 klong8_nl (lgI l0 T i) (rB (lgB T))
theorem lgb0 {w:World}(l0:Nat) (T:List Tx) (i:Nat):lgbR w l0 T i [(8,7,true),(8,15,true)]=some (.ret,[decide ((i:Int)<(T.length:Int))=true,i<T.length,i<T.length,decide ((↑(T.getD i default).length:Int)>30)=true,Value.bool (lgB T)=Value.bool true]):=by kernel_rfl
theorem lgb1 {w:World}(l0:Nat) (T:List Tx) (i:Nat):lgbTnal w l0 T i [(8,7,true),(8,15,false)]=some (.normal,[decide ((i:Int)<(T.length:Int))=true,i<T.length,i<T.length,decide ((↑(T.getD i default).length:Int)>30)=false,Gc ((i:Int)+1),sD w (.ls (lst l0 9 1 T fT)),ii (↑(i+1):Int)=Value.int IntKind.i64 ((i:Int)+1)]):=by kernel_rfl
theorem lgb2 {w:World}(l0:Nat) (T:List Tx) (i:Nat):lgbTe0 w l0 T i [(8,7,false)]=some (.exit 0,[decide ((i:Int)<(T.length:Int))=false,sD w (.ls (lst l0 9 1 T fT)),eA (ii (i:Int))]):=by kernel_rfl
theorem cnN (hN:jD) (l0:Nat) (T:List Tx) (hl:T.length<=1000000):Es 8 [pTx l0 T] (fun _=>rB (lgB T)):=by
 intro w vs hG hp;refine Em hG hN (ex:=[]) kU (fn:=Tryz.f8) Tryz.func8 (c:=codeOf Tryz.f8) (by kernel_rfl) (args:=[pTx l0 T]) (by kernel_rfl) hp (fun hR _ hA=>?_);refine uW (lga l0 T) (hR _ rfl) hA (fun a1 w1 hA=>Jz ?_);refine Gx (fun i=>lgI l0 T i) (fun i=>i<=T.length/\∀ k,k<i->decide (((T.getD k default).length:Int)>30)=false) (fun i=>T.length-i) (L:=klong8_n) (ks:=klong8_nt) (id:=0) (c:=CL klong8_n) (by kernel_rfl) 0 ⟨ju _,by omega⟩ hA (fun i a2 w2 hi hA=>?_);rcases kM (decide ((i:Int)<(T.length:Int))) with q7|q7
 ·skip
  have p7:=jV q7;rcases kM (decide (((T.getD i default).length:Int)>30)) with q15|q15
  ·skip
   have p15:=jV q15;have e0:=cX Value.bool (show lgB T=true from cex (by omega) q15);refine ug (lgb0 l0 T i) (hR _ rfl) hA (by (repeat' (first|exact trivial|apply And.intro))<;>first|exact jZ.refl _ _|exact fun _ _=>kG.refl _ _|exact cN rfl|exact ja _ _|exact cZ _ _|(with_reducible assumption)|omega|with_reducible rfl|(simp only[cM];omega)|(intro j hj;exact absurd hj (cT _))|exact e0|exact e0.symm|exact q15|rfl)
  ·skip
   have p15:=ko q15;refine uW (lgb1 l0 T i) (hR _ rfl) hA (fun aT wT hT=>?_) (by (repeat' (first|exact trivial|apply And.intro))<;>first|exact jZ.refl _ _|exact fun _ _=>kG.refl _ _|exact cN rfl|exact ja _ _|exact cZ _ _|(with_reducible assumption)|omega|with_reducible rfl|(simp only[cM];omega)|(intro j hj;exact absurd hj (cT _))|exact e0|exact e0.symm|exact q15|rfl);exact kZ (by kernel_rfl) ⟨i+1,⟨by omega,fun k hk=>by rcases Nat.lt_succ_iff_lt_or_eq.1 hk with h|rfl;exact hi.2 k h;exact q15⟩,hT,by omega⟩
 ·skip
  have p7:=ko q7;refine uW (lgb2 l0 T i) (hR _ rfl) hA (fun aT wT hT=>?_) (by (repeat' (first|exact trivial|apply And.intro))<;>first|exact jZ.refl _ _|exact fun _ _=>kG.refl _ _|exact cN rfl|exact ja _ _|exact cZ _ _|(with_reducible assumption)|omega|with_reducible rfl|(simp only[cM];omega)|(intro j hj;exact absurd hj (cT _))|exact e0|exact e0.symm|exact q15|rfl);refine zH _ (by kernel_rfl) ?_;have e1:lgB T=false:=cdx (fun k hk=>hi.2 k (by omega));rw[e1];exact ug (lge l0 T i) (hR _ rfl) hT
def conLg:Con
 |[.slc 9 n gs]=>match txts gs with
  |some T=>some (vr (.bool (lgB T)),[n=T.length,T.length<=1000000])
  |none=>none
 |_=>none
theorem cbT {C:Ctx Dx}{f:Nat}{args args':List (Pat Dx)}{res:jy Dx}(h:jQ C (.call f) args res) (hi:∀ w vs,jf C w args' vs->jf C w args vs):jQ C (.call f) args' res :=
 ⟨h.1,fun w vs hb hv=>h.2 w vs hb (hi w vs hv)⟩
theorem cnP {lo:Nat}{w0:World}(hN:jD) (hG:Gr w0) (hlo:lo<=w0.heap.size):∀ l r ob,conLg l=some (r,ob)->jC ob->jQ (Cx true lo w0) (.call 8) l r:=by
 intro l r ob h ho;unfold conLg at h;split at h
 ·rename_i n gs;split at h
  ·rename_i T hT;injection h with h;injection h with h1 h2;subst h1;subst h2
   obtain⟨hn,hl,_⟩:=ho;obtain rfl:=clN hT;refine cbT ((cnN hN 0 T hl).val hG hlo (jg Tryz.func8 (by kernel_rfl) rfl)) (fun w vs hv=>?_);obtain⟨v,ws,rfl,h1,h2⟩:=hv;exact⟨v,ws,rfl,slc_txt h1 hn,h2⟩
  ·cases h
 ·cases h
end Pe
namespace Pe
end Pe
namespace Pe
abbrev y4 (s:Nat):List AC:=[.sym s 0,.sym s 1,.sym s 2,.sym s 3]
abbrev y8 (s t:Nat):List AC:=[.sym s 0,.sym s 1,.sym s 2,.sym s 3,.sym t 0,.sym t 1,.sym t 2,.sym t 3]
end Pe
namespace Pe
noncomputable def kSize38_:List Kp:=[.code (codeOf Tryz.f38)]
noncomputable def kspan10_:List Kp:=[.code (codeOf Tryz.f10)]
abbrev pEn (a b:Tx):Pat Dx:=.agg [.lit (str a),.lit (str b)]
abbrev pRS (r s:Rat):Pat Dx:=.agg [.cls (.rq r 4),.cls (.rq s 4)]
def conSz:Con
 |[.agg [.cls (.rq r j)],.agg [.cls (.rq s k)]]=>some (vr (.bool (okSp r s)),[j+k<=10000])
 |_=>none
theorem ciK (a:Rat):decide (sign a>=0)=!decide (sign a<0):=by
 by_cases h:sign a<0
 ·rw[cG h,cJ (by omega)];rfl
 ·rw[cJ h,cG (by omega)];rfl
noncomputable abbrev szcR (w:World) (a b:Rat) (j k:Nat)  (o:List (Nat×Nat×Bool)):=runR w ⟨o,[],[]⟩ 38 14 Tryz.f38 kSize38_ (stA [pR a j,pR b k]) (rB (okSp a b))
theorem szc0 {w:World}(a b:Rat) (j k:Nat):szcR w a b j k [(38,7,true),(38,12,true)]=some (.ret,[decide (sign a>=0)=true,j+k<=10000,decide (kd a b<=0)=true,Value.bool (okSp a b)=Value.bool true]):=by kernel_rfl
theorem szc1 {w:World}(a b:Rat) (j k:Nat):szcR w a b j k [(38,7,true),(38,12,false)]=some (.ret,[decide (sign a>=0)=true,j+k<=10000,decide (kd a b<=0)=false,Value.bool (okSp a b)=Value.bool false]):=by kernel_rfl
theorem szc2 {w:World}(a b:Rat) (j k:Nat):szcR w a b j k [(38,7,false)]=some (.ret,[decide (sign a>=0)=false,Value.bool (okSp a b)=Value.bool false]):=by kernel_rfl
theorem sz_ok (hN:jD) (a b:Rat) (j k:Nat) (hj:j+k<=10000):Es 38 [pR a j,pR b k] (fun _=>rB (okSp a b)):=by
 intro w vs hG hp;refine Em hG hN (ex:=[]) kU (fn:=Tryz.f38) Tryz.func38 (c:=codeOf Tryz.f38) (by kernel_rfl) (args:=[pR a j,pR b k]) (by kernel_rfl) hp (fun hR _ hA=>?_);rcases kM (decide (sign a>=0)) with q7|q7
 ·skip
  have p7:=jV q7;rcases kM (decide (kd a b<=0)) with q12|q12
  ·skip
   have p12:=jV q12;refine ug (szc0 a b j k) (hR _ rfl) hA (by (repeat' (first|exact trivial|apply And.intro))<;>first|exact jZ.refl _ _|exact fun _ _=>kG.refl _ _|exact cN rfl|exact ja _ _|exact cZ _ _|(with_reducible assumption)|omega|with_reducible rfl|(simp only[cM];omega)|(intro j hj;exact absurd hj (cT _))|exact cX Value.bool (by unfold okSp;rw[← ciK,q7];first|rfl|(rw[q12];rfl))|rfl)
  ·skip
   have p12:=ko q12;refine ug (szc1 a b j k) (hR _ rfl) hA (by (repeat' (first|exact trivial|apply And.intro))<;>first|exact jZ.refl _ _|exact fun _ _=>kG.refl _ _|exact cN rfl|exact ja _ _|exact cZ _ _|(with_reducible assumption)|omega|with_reducible rfl|(simp only[cM];omega)|(intro j hj;exact absurd hj (cT _))|exact cX Value.bool (by unfold okSp;rw[← ciK,q7];first|rfl|(rw[q12];rfl))|rfl)
 ·skip
  have p7:=ko q7;refine ug (szc2 a b j k) (hR _ rfl) hA (by (repeat' (first|exact trivial|apply And.intro))<;>first|exact jZ.refl _ _|exact fun _ _=>kG.refl _ _|exact cN rfl|exact ja _ _|exact cZ _ _|(with_reducible assumption)|omega|with_reducible rfl|(simp only[cM];omega)|(intro j hj;exact absurd hj (cT _))|exact cX Value.bool (by unfold okSp;rw[← ciK,q7];first|rfl|(rw[q12];rfl))|rfl)
theorem coL {lo:Nat}{w0:World}(hN:jD) (hG:Gr w0) (hlo:lo<=w0.heap.size):∀ l r ob,conSz l=some (r,ob)->jC ob->jQ (Cx true lo w0) (.call 38) l r:=by
 intro l r ob h ho;unfold conSz at h;split at h
 ·injection h with h;injection h with h1 h2;subst h1;subst h2
  exact(sz_ok hN _ _ _ _ ho.1).val hG hlo (jg Tryz.func38 (by kernel_rfl) rfl)
 ·cases h
abbrev exSz:List (Nat×Con):=[(38,conSz)]
noncomputable abbrev spaR (w:World) (a b:Tx)   (o:List (Nat×Nat×Bool)):=runR w ⟨o,[],exSz⟩ 10 26 Tryz.f10 kspan10_ (stA [pEn a b]) [pS (nq a) 4 (nq b) 4,pRS (nq a) (nq b),.one (.lit (.bool (okSp (nq a) (nq b))))]
theorem spa0 {w:World}(a b:Tx):spaR w a b []=some (.ret,[List.length a<=60,List.length b<=60,List.length a<=60,List.length b<=60,4+4<=10000,jZ (W0 w) (.q (nq a) 4) (.q (kq a).1 4),jZ (W0 w) (.q (nq b) 4) (.q (kq b).1 4),jZ (W0 w) (.rq (nq a) 4) (.rq (kq a).1 4),jZ (W0 w) (.rq (nq b) 4) (.rq (kq b).1 4),Value.bool (okSp (nq a) (nq b))=Value.bool (okSp (kq a).1 (kq b).1),kS (W0 w) (.q (nq a) 4),kS (W0 w) (.q (nq b) 4),kS (W0 w) (.rq (nq a) 4),kS (W0 w) (.rq (nq b) 4)]):=by kernel_rfl
theorem span_ok (hN:jD) (a b:Tx) (ha:a.length<=60) (hb:b.length<=60):Es 10 [pEn a b] (fun _=>[pS (nq a) 4 (nq b) 4,pRS (nq a) (nq b),.one (.lit (.bool (okSp (nq a) (nq b))))]):=by
 intro w vs hG hp;refine Em hG hN (ex:=exSz) (jG (coL hN hG (cb _)) kU) (fn:=Tryz.f10) Tryz.func10 (c:=codeOf Tryz.f10) (by kernel_rfl) (args:=[pEn a b]) (by kernel_rfl) hp (fun hR _ hA=>?_);refine ug (spa0 a b) (hR _ rfl) hA
theorem cov {lo:Nat}{w0:World}{a b:Tx}(hN:jD) (hG:Gr w0) (hlo:lo<=w0.heap.size) (ha:a.length<=60) (hb:b.length<=60):jQ (Cx true lo w0) (.call 10) [pEn a b] (KK [pS (nq a) 4 (nq b) 4,pRS (nq a) (nq b),.one (.lit (.bool (okSp (nq a) (nq b))))]) :=
 (span_ok hN a b ha hb).ent hG hlo (jg Tryz.func10 (by kernel_rfl) rfl) (fun _ _=>⟨_,rfl,jZ.refl _ _,jZ.refl _ _,jZ.refl _ _,jZ.refl _ _,rfl,trivial⟩)
theorem Zb {T:List Tx}(h:lgB T=false):∀ t∈T,t.length<=30:=by
 intro t ht;obtain⟨i,hi,rfl⟩:=List.mem_iff_getElem.1 ht;have:=ko (clT h hi);rw[gD_is hi] at this;omega
end Pe
namespace Pe
def kT (s:R2) (x:Rat):Bool:=decide (s.1<=x)&&decide (x<=s.2)
theorem ud {s:R2}{x:Rat}:kT s x=true↔s.1<=x/\x<=s.2:=by unfold kT;simp
def mx (a c:Rat):Rat:=if a<c then c else a
def mn (b d:Rat):Rat:=if d<b then d else b
def uS (L:List R2) (x:Rat):Nat->List Nat
 |0=>[]
 |n+1=>if kT (L.getD n default) x then uS L x n++[n] else uS L x n
def zS (e:R2) (L:List R2) (x:Rat):Nat->R2
 |0=>e
 |n+1=>if kT (L.getD n default) x then (mx (zS e L x n).1 (L.getD n default).1,mn (zS e L x n).2 (L.getD n default).2) else zS e L x n
section
variable {e:R2}{L:List R2}{x y:Rat}
theorem mem_u:∀ {n i:Nat},i∈uS L x n↔i<n/\kT (L.getD i default) x=true
 |0,i=>by simp [uS]
 |n+1,i=>by
  have h:=mem_u (n:=n) (i:=i);unfold uS;split
  ·rename_i hh;rw[List.mem_append,h,List.mem_singleton];constructor
   ·rintro(⟨h1,h2⟩|rfl)
    ·exact⟨by omega,h2⟩
    ·exact⟨by omega,hh⟩
   ·rintro⟨h1,h2⟩;rcases Nat.lt_succ_iff_lt_or_eq.1 h1 with h3|rfl
    ·exact .inl ⟨h3,h2⟩
    ·exact .inr rfl
  ·rename_i hh;rw[h];constructor
   ·rintro⟨h1,h2⟩;exact⟨by omega,h2⟩
   ·rintro⟨h1,h2⟩;rcases Nat.lt_succ_iff_lt_or_eq.1 h1 with h3|rfl
    ·exact⟨h3,h2⟩
    ·exact absurd h2 hh
theorem ceM:∀ n,(uS L x n).length<=n
 |0=>by simp [uS]
 |n+1=>by
  have:=ceM n;unfold uS;split
  ·rw[kC];simp;omega
  ·omega
theorem u_sub:∀ n,(∀ i,i<n->kT (L.getD i default) x=true->kT (L.getD i default) y=true)->(uS L x n).length<=(uS L y n).length/\((uS L x n).length=(uS L y n).length->∀ i,i<n->kT (L.getD i default) y=true->kT (L.getD i default) x=true)
 |0,_=>⟨cb _,fun _ i hi=>absurd hi (cT _)⟩
 |n+1,h=>by
  obtain⟨h1,h2⟩:=u_sub n (fun i hi=>h i (by omega));have h3:=h n (by omega);unfold uS;by_cases hx:kT (L.getD n default) x=true
  ·have hy:=h3 hx;rw[co hx,co hy];simp only[kC,Js];refine⟨by omega,fun he i hi hh=>?_⟩;rcases Nat.lt_succ_iff_lt_or_eq.1 hi with h4|rfl
   ·exact h2 (by omega) i h4 hh
   ·exact hx
  ·rw[cg hx];by_cases hy:kT (L.getD n default) y=true
   ·rw[co hy];simp only[kC,Js];exact⟨by omega,fun he=>absurd he (by omega)⟩
   ·rw[cg hy];refine⟨h1,fun he i hi hh=>?_⟩;rcases Nat.lt_succ_iff_lt_or_eq.1 hi with h4|rfl
    ·exact h2 he i h4 hh
    ·exact absurd hh hy
theorem cgl:∀ n,(∀ i,i<n->kT (L.getD i default) x=true)↔(uS L x n).length=n
 |0=>by simp [uS]
 |n+1=>by
  have h:=cgl n;have hl:=ceM (L:=L) (x:=x) n;unfold uS;split
  ·rename_i hh;simp only[kC,Js];constructor
   ·intro ha;have:=h.1 (fun i hi=>ha i (by omega));omega
   ·intro he i hi;rcases Nat.lt_succ_iff_lt_or_eq.1 hi with h4|rfl
    ·exact h.2 (by omega) i h4
    ·exact hh
  ·rename_i hh;constructor
   ·intro ha;exact absurd (ha n (by omega)) hh
   ·intro he;omega
theorem chA (he:kT e y=true):∀ n,(∀ i,i<n->kT (L.getD i default) x=true->kT (L.getD i default) y=true)->kT (zS e L x n) y=true
 |0,_=>he
 |n+1,h=>by
  have h1:=ud.1 (chA he n (fun i hi=>h i (by omega)));unfold zS;split
  ·rename_i hh;have h2:=ud.1 (h n (by omega) hh);refine ud.2 ⟨?_,?_⟩
   ·show mx _ _<=y;unfold mx;split
    ·exact h2.1
    ·exact h1.1
   ·show y<=mn _ _;unfold mn;split
    ·exact h2.2
    ·exact h1.2
  ·exact ud.2 h1
theorem z_in:∀ n,e.1<=(zS e L x n).1/\(zS e L x n).2<=e.2/\∀ i,i<n->kT (L.getD i default) x=true->(L.getD i default).1<=(zS e L x n).1/\(zS e L x n).2<=(L.getD i default).2
 |0=>⟨Rat.le_refl,Rat.le_refl,fun i hi=>absurd hi (cT _)⟩
 |n+1=>by
  obtain⟨h1,h2,h3⟩:=z_in n;unfold zS;split
  ·rename_i hh;have a1:(zS e L x n).1<=mx (zS e L x n).1 (L.getD n default).1/\(L.getD n default).1<=mx (zS e L x n).1 (L.getD n default).1:=by unfold mx;split<;>grind
   have a2:mn (zS e L x n).2 (L.getD n default).2<=(zS e L x n).2/\mn (zS e L x n).2 (L.getD n default).2<=(L.getD n default).2:=by unfold mn;split<;>grind
   refine⟨zc h1 a1.1,zc a2.1 h2,fun i hi hx=>?_⟩;rcases Nat.lt_succ_iff_lt_or_eq.1 hi with h4|rfl
   ·exact⟨zc (h3 i h4 hx).1 a1.1,zc a2.1 (h3 i h4 hx).2⟩
   ·exact⟨a1.2,a2.2⟩
  ·rename_i hh;refine⟨h1,h2,fun i hi hx=>?_⟩;rcases Nat.lt_succ_iff_lt_or_eq.1 hi with h4|rfl
   ·exact h3 i h4 hx
   ·exact absurd hx hh
theorem cjH:∀ n,(zS e L x n).2=e.2\/∃ i,i<n/\(zS e L x n).2=(L.getD i default).2
 |0=>.inl rfl
 |n+1=>by
  have h:=cjH n;unfold zS;split
  ·show mn _ _=_\/∃ i,_/\mn _ _=_;unfold mn;split
   ·exact .inr ⟨n,by omega,rfl⟩
   ·exact h.imp id (fun⟨i,h1,h2⟩=>⟨i,by omega,h2⟩)
  ·exact h.imp id (fun⟨i,h1,h2⟩=>⟨i,by omega,h2⟩)
theorem z_le (he:kT e x=true) (n:Nat):(zS e L x n).1<=(zS e L x n).2:=by
 have:=ud.1 (chA (L:=L) (x:=x) he n (fun _ _ h=>h));exact zc this.1 this.2
theorem z_yes {n:Nat}(h:kT (L.getD n default) x=true):zS e L x (n+1)=(mx (zS e L x n).1 (L.getD n default).1,mn (zS e L x n).2 (L.getD n default).2):=by rw[zS,co h]
theorem z_no {n:Nat}(h:kT (L.getD n default) x=false):zS e L x (n+1)=zS e L x n:=by rw[zS,cg (by rw[h];exact cbI)]
theorem cli {n:Nat}(h:kT (L.getD n default) x=true):uS L x (n+1)=uS L x n++[n]:=by rw[uS,co h]
theorem u_no {n:Nat}(h:kT (L.getD n default) x=false):uS L x (n+1)=uS L x n:=by rw[uS,cg (by rw[h];exact cbI)]
theorem u_pre {n:Nat}:∀ k,∃ r,uS L x (n+k)=uS L x n++r
 |0=>⟨[],(uv _).symm⟩
 |k+1=>by
  obtain⟨r,h⟩:=u_pre (n:=n) k;rw[← Eg];by_cases hh:kT (L.getD (n+k) default) x=true
  ·exact⟨r++[n+k],by rw[cli hh,h,yF]⟩
  ·exact⟨r,by rw[u_no (Bool.eq_false_iff.2 hh),h]⟩
theorem u_at {n i:Nat}(hi:i<n) (h:kT (L.getD i default) x=true):(uS L x n).getD (uS L x i).length default=i:=by
 obtain⟨r,hr⟩:=u_pre (L:=L) (x:=x) (n:=i+1) (n-(i+1));rw[show i+1+(n-(i+1))=n by omega,cli h,yF] at hr;rw[hr,zT,cai (cb _),Nat.sub_self];rfl
abbrev nU (L:List R2) (x:Rat):Nat:=(uS L x L.length).length
abbrev hU (e:R2) (L:List R2) (x:Rat):Rat:=(zS e L x L.length).2
def leA (e:R2) (L:List R2) (y x:Rat):Prop:=nU L y<nU L x\/(nU L y=nU L x/\hU e L y<=hU e L x)
theorem cgW:leA e L x x:=.inr ⟨rfl,Rat.le_refl⟩
theorem cey {z:Rat}(h1:leA e L x y) (h2:leA e L y z):leA e L x z:=by
 rcases h1 with h1|⟨h1,h1'⟩<;>rcases h2 with h2|⟨h2,h2'⟩
 ·exact .inl (by omega)
 ·exact .inl (by omega)
 ·exact .inl (by omega)
 ·exact .inr ⟨by omega,zc h1' h2'⟩
def gtA (e:R2) (L:List R2) (y x:Rat):Bool:=decide (nU L x<nU L y)||(decide (nU L x=nU L y)&&decide (hU e L x<hU e L y))
theorem cgV (h:gtA e L y x=true):leA e L x y:=by
 unfold gtA at h;simp only[Yo,GK,Ky] at h;rcases h with h|⟨h1,h2⟩
 ·exact .inl h
 ·exact .inr ⟨h1,Rat.le_of_lt h2⟩
theorem cmb (h:gtA e L y x=false):leA e L y x:=by
 unfold gtA at h;simp only[Bool.or_eq_false_iff,Bool.and_eq_false_iff,cfa] at h;obtain⟨h1,h2⟩:=h;by_cases h3:nU L y<nU L x
 ·exact .inl h3
 ·refine .inr ⟨by omega,Rat.not_lt.1 (h2.resolve_left (fun h=>h (by omega)))⟩
structure UU (e:R2) (L:List R2) (n:Nat) (x:Rat):Prop where
 has:kT e x=true
 top:leA e L e.2 x
 all:∀ i,i<n->kT e (L.getD i default).2=true->leA e L (L.getD i default).2 x
theorem cnB (h:e.1<=e.2):UU e L 0 e.2:=⟨ud.2 ⟨h,Rat.le_refl⟩,cgW,fun _ hi=>absurd hi (cT _)⟩
theorem UU.skip {n:Nat}(h:UU e L n x) (hs:kT e (L.getD n default).2=false):UU e L (n+1) x :=
 ⟨h.has,h.top,fun i hi hh=>by
  rcases Nat.lt_succ_iff_lt_or_eq.1 hi with h4|rfl
  ·exact h.all i h4 hh
  ·rw[hs] at hh;cases hh⟩
theorem UU.stay {n:Nat}(h:UU e L n x) (hs:gtA e L (L.getD n default).2 x=false):UU e L (n+1) x :=
 ⟨h.has,h.top,fun i hi hh=>by
  rcases Nat.lt_succ_iff_lt_or_eq.1 hi with h4|rfl
  ·exact h.all i h4 hh
  ·exact cmb hs⟩
theorem UU.go {n:Nat}(h:UU e L n x) (hs:gtA e L (L.getD n default).2 x=true) (hh:kT e (L.getD n default).2=true):UU e L (n+1) (L.getD n default).2 :=
 ⟨hh,cey h.top (cgV hs),fun i hi h1=>by
  rcases Nat.lt_succ_iff_lt_or_eq.1 hi with h4|rfl
  ·exact cey (h.all i h4 h1) (cgV hs)
  ·exact cgW⟩
theorem UU.cand (h:UU e L L.length x) {y:Rat}(hy:kT e y=true) (hc:y=e.2\/∃ i,i<L.length/\y=(L.getD i default).2):leA e L y x:=by
 rcases hc with rfl|⟨i,hi,rfl⟩
 ·exact h.top
 ·exact h.all i hi hy
theorem UU.none (h:UU e L L.length x) {i:Nat}(hi:i<L.length) (hh:kT (L.getD i default) (hU e L x)=true):kT (L.getD i default) x=true:=by
 have hx:=ud.1 (chA (L:=L) (x:=x) h.has L.length (fun _ _ h=>h));obtain⟨z1,z2,z3⟩:=z_in (e:=e) (L:=L) (x:=x) L.length;have he:=ud.1 h.has;have hy:kT e (hU e L x)=true:=ud.2 ⟨zc he.1 hx.2,z2⟩;have hs:=u_sub (L:=L) (x:=x) (y:=hU e L x) L.length (fun k hk h1=>ud.2 ⟨zc (ud.1 h1).1 hx.2,(z3 k hk h1).2⟩);have hl:=h.cand hy (cjH L.length);refine hs.2 ?_ i hi hh;rcases hl with hl|⟨hl,_⟩
 ·exact absurd hl (by have:=hs.1;show ¬ nU L (hU e L x)<nU L x;exact Nat.not_lt.2 this)
 ·exact hl.symm
theorem UU.full (h:UU e L L.length x) {t:Rat}(ht:kT e t=true) (ha:∀ i,i<L.length->kT (L.getD i default) t=true):∀ i,i<L.length->kT (L.getD i default) x=true:=by
 obtain⟨z1,z2,z3⟩:=z_in (e:=e) (L:=L) (x:=t) L.length;have hx:=ud.1 (chA (L:=L) (x:=t) ht L.length (fun _ _ h=>h));have he:=ud.1 ht;have hy:kT e (hU e L t)=true:=ud.2 ⟨zc he.1 hx.2,z2⟩;have hall:∀ i,i<L.length->kT (L.getD i default) (hU e L t)=true:=fun i hi=>ud.2 ⟨zc (ud.1 (ha i hi)).1 hx.2,(z3 i hi (ha i hi)).2⟩;have hf:nU L (hU e L t)=L.length:=(cgl L.length).1 hall;have hl:=h.cand hy (cjH L.length);have hle:nU L x<=L.length:=ceM L.length;refine(cgl L.length).2 ?_;show nU L x=L.length;rcases hl with hl|⟨hl,_⟩<;>omega
def kV (e:R2) (L:List R2):Nat->Rat
 |0=>e.2
 |n+1=>if kT e (L.getD n default).2&&gtA e L (L.getD n default).2 (kV e L n) then (L.getD n default).2 else kV e L n
theorem cko (h:e.1<=e.2):∀ n,UU e L n (kV e L n)
 |0=>cnB h
 |n+1=>by
  have hb:=cko h n;unfold kV;by_cases h1:kT e (L.getD n default).2=true
  ·by_cases h2:gtA e L (L.getD n default).2 (kV e L n)=true
   ·rw[co (by rw[h1,h2];rfl)];exact hb.go h2 h1
   ·rw[cg (by rw[h1];exact h2)];exact hb.stay (Bool.eq_false_iff.2 h2)
  ·rw[cg (by rw[Bool.eq_false_iff.2 h1];exact cbI)];exact hb.skip (Bool.eq_false_iff.2 h1)
theorem cnG {n:Nat}(h:kT e (L.getD n default).2=false):kV e L (n+1)=kV e L n:=by rw[kV,h];rfl
theorem ckj {n:Nat}(h:gtA e L (L.getD n default).2 (kV e L n)=false):kV e L (n+1)=kV e L n:=by rw[kV,h,Bool.and_false];rfl
theorem coA {n:Nat}(h1:kT e (L.getD n default).2=true) (h:gtA e L (L.getD n default).2 (kV e L n)=true):kV e L (n+1)=(L.getD n default).2:=by rw[kV,h,h1];rfl
end
end Pe
namespace Pe.F
noncomputable def TY (o:Opt):FuncId->Tab Dx:=fun fid d h=>match h with
 |.call f=>match (match find f o.ex with
  |some F=>match Nat.ble 1000000 f with
   |true=>none
   |false=>some F
  |none=>find f (tabX false)) with
  |some F=>match ceH fid d o.ors with
   |some b=>some (cfl b F)
   |none=>some F
  |none=>none
 |.gl=>match clu fid d o.gls with
  |true=>some (fun _=>none)
  |false=>none
 |.bin op t=>match ceH fid d o.ors with
  |some b=>some (cfO op b)
  |none=>match op with
   |.add=>some (ccW .add)
   |.sub=>some (ccW .sub)
   |_=>none
 |_=>none
section
variable {lo:Nat}{w0:World}
theorem ty_ok (hG:Gr w0) {o:Opt}(hE:CI false lo w0 o.ex) (g:FuncId):(TY o g).Ok (Cx false lo w0):=by
 intro n hd F args res ob hF hres ho;unfold TY at hF;split at hF
 ·rename_i f;have key:∀ F,(match find f o.ex with
   |some F=>match Nat.ble 1000000 f with
    |true=>none
    |false=>some F
   |none=>find f (tabX false))=some F->∀ res ob,F args=some (res,ob)->jC ob->jQ (Cx false lo w0) (.call f) args res:=by
   intro F hF res ob hr ho;split at hF
   ·rename_i h1;split at hF
    ·cases hF
    ·rename_i hg;injection hF with hF;subst hF
     exact hE _ _ h1 _ (ZU hg) _ _ _ hr ho
   ·exact cfz hG hF hr ho
  split at hF
  ·rename_i G hG;split at hF
   ·rename_i b hb;injection hF with hF;subst hF
    unfold cfl at hres;split at hres
    ·rename_i x ob' hx;injection hres with hres;injection hres with h1 h2;subst h1;subst h2
     have:=key G hG _ _ hx ho.2;rw[show x=b from ho.1] at this;exact this
    ·exact key G hG _ _ hres ho
   ·injection hF with hF;subst hF
    exact key _ hG _ _ hres ho
  ·cases hF
 ·split at hF
  ·injection hF with hF;subst hF
   cases hres
  ·cases hF
 ·split at hF
  ·injection hF with hF;subst hF
   exact ceh hres ho
  ·split at hF
   ·injection hF with hF;subst hF
    exact UF hres ho rfl
   ·injection hF with hF;subst hF
    exact UF hres ho rfl
   ·cases hF
 ·cases hF
theorem ccA (hlo : lo ≤ w0.heap.size) (hG : Gr w0) (hN : ∀ (f : Nat) (fn : Func), Tryz.prog.funcs[f]? = some fn → (fn.name == "runtime.NumGoroutine") = false) {o : Opt} (hE : CI false lo w0 o.ex) : CB (Cx false lo w0) (TY o) := ⟨cgH hlo, hN, ty_ok hG hE⟩
end
noncomputable abbrev W0 (w:World):Ctx Dx:=Cx false w.heap.size w
theorem fn_ok {w : World} (hG : Gr w) (hN : ∀ (f : Nat) (fn : Func), Tryz.prog.funcs[f]? = some fn → (fn.name == "runtime.NumGoroutine") = false) {ex : List (Nat × Con)} (hE : CI false w.heap.size w ex) {f : FuncId} {fn : Func} {c : Code} (hfn : Tryz.prog.funcs[f]? = some fn) (hbody : fn.body = some c) {args : List (Pat Dx)} {xs : List A1} {ws : Ws Dx} {n0 : Nat} (hm : En Dx.n 0 args = some (xs, ws, n0)) (hlen : Nat.ble (uA xs).length fn.ntmps = true)
 {vs:List Value} (hp:jf (W0 w) w args vs) {ps:List (Pat Dx)} (hwp:(∀ o:Opt,o.ex=ex->CB (W0 w) (TY o))->∀ a,At (W0 w) fn.ntmps ⟨n0,Je 0 (uA xs),ws,[]⟩ a w->after Fence.wide 0 Tryz.prog [.code c] (Ret (W0 w) fn (Res (W0 w) ps)) .normal a w) :
 Enters Tryz.prog f/\Calls Tryz.prog f vs.toArray w (fun en w'=>∃ v,en=.returned v/\Res (W0 w) ps v w'):=by
 have hR:∀ o:Opt,o.ex=ex->CB (W0 w) (TY o):=fun o ho=>ccA (cb _) hG hN (by rw[ho];exact hE);have hR0:=hR ⟨[],[],ex⟩ rfl;refine CW (C:=W0 w) hR0 hfn hbody hm hlen ?_ (fun a hA=>hwp hR a hA);exact cby hR0.ok (W:=fun w'=>uU env0 w w') w (uU.refl _ _) (GS hm) (fun w' hk=>Zx (fun k hk'=>hk.block k hk' (fun b=>by simp)) (WC hm) hp)
noncomputable abbrev run (w:World) (o:Opt) (f nt:Nat) (ks:List Kp) (st st':St Dx):Option (Xt×List Prop):=clv (W0 w) (TY o) (Cp (Sx false w.heap.size) (TY o) 300 30).1 (Cp (Sx false w.heap.size) (TY o) 300 30).2 nt f false 300 (cav ks) st st'
noncomputable abbrev runR (w:World) (o:Opt) (f nt:Nat) (fn:Func) (ks:List Kp) (st:St Dx) (ps:List (Pat Dx)):Option (Xt×List Prop):=cgw (W0 w) (TY o) (Cp (Sx false w.heap.size) (TY o) 300 30).1 (Cp (Sx false w.heap.size) (TY o) 300 30).2 nt f false 300 (cav ks) fn.results.toList st ps
theorem okX_le {b:Bool}{t:Nat}(h:okX b t=true):okX false t=true:=by
 unfold okX at h ⊢;split at h
 ·cases h
 ·rename_i h1;split at h
  ·cases h
  ·rename_i h2;split<;>rfl
theorem ok_le {b:Bool}{lo:Nat}{w0:World}{o:Obj}(h:CA (Cx b lo w0) o):CA (Cx false lo w0) o:=h.imp (fun⟨cs,t,h1,h2⟩=>⟨cs,t,h1,okX_le h2⟩) id
theorem cjs {lo:Nat}{w0:World}{b:Bool}(hG:Gr w0) (hlo:lo<=w0.heap.size) {f:FuncId}{args:List (Pat Dx)}(ps:Nat->List (Pat Dx)) (hsub:∀ hi,lo<=hi->∃ ob,yj (Cx b lo w0) (ps lo) (ps hi)=some ob/\jC ob)
 (h:∀ w vs,Gr w->jf (W0 w) w args vs->Enters Tryz.prog f/\Calls Tryz.prog f vs.toArray w (fun en w'=>∃ v,en=.returned v/\Res (W0 w) (ps w.heap.size) v w')) (hE:Enters Tryz.prog f):jQ (Cx b lo w0) (.call f) args (KK (ps lo)):=by
 refine⟨hE,fun w vs hb hvs=>?_⟩;refine(h w vs (hG.below hb hG.size) (cbC hvs)).2.mono ?_;rintro en w' ⟨v,rfl,h1,h2⟩;refine⟨v,rfl,h1,?_⟩;obtain⟨ob,h3,h4⟩:=hsub w.heap.size (cB hlo hb.size);intro S hS w'' hs hk;have h5:=cla (b':=b) (lo':=lo) (w0':=w0) (rob_cx (lo':=lo) (w0':=w0) h2 S (fun k h=>⟨(hS k h).1,(hS k h).2.elim fun o ho=>⟨o,ho.1,ok_le ho.2⟩⟩) w'' hs hk);have hC:=cgH (b:=b) hlo;revert h3 h5;generalize ps lo=a;generalize ps w.heap.size=c;intro h3 h5;unfold KK at h5 ⊢;split at h5
 ·rename_i p
  match a,h3 with
  |[q],h3 =>
   have:=zp hC h3 h4 (vs:=[v]) ⟨v,[],rfl,h5,rfl⟩;obtain⟨x,y,e1,e2,e3⟩:=this;injection e1 with e1 _
   subst e1;exact e2
  |[],h3=>simp [yj] at h3
  |_::q::r,h3 =>
   obtain⟨x,y,q1,q2,_⟩:=uo h3;simp [yj] at q2
 ·rename_i hne
  match a,h3 with
  |[q],h3 =>
   exfalso
   match c,h3,hne with
   |[],h3,_=>simp [yj] at h3
   |[p],_,hne=>exact hne p rfl
   |_::_::_,h3,_ =>
    obtain⟨x,y,q1,q2,_⟩:=uo h3;simp [yj] at q2
  |[],h3=>obtain⟨us,q1,q2⟩:=h5;exact⟨us,zp hC h3 h4 q1,q2⟩
  |q1::q2::r,h3=>obtain⟨us,p1,p2⟩:=h5;exact⟨us,zp hC h3 h4 p1,p2⟩
theorem Em {w:World}(hG:Gr w) (hN:jD) {ex:List (Nat×Con)}(hE:CI false w.heap.size w ex) {f:FuncId}{fn:Func}{c:Code}(hfn:Tryz.prog.funcs[f]?=some fn) (hbody:fn.body=some c) {args:List (Pat Dx)}(hm:lenA args fn.ntmps=true)
 {vs:List Value} (hp:jf (W0 w) w args vs) {ps:List (Pat Dx)} (hwp:(∀ o:Opt,o.ex=ex->CB (W0 w) (TY o))->∀ a,At (W0 w) fn.ntmps (stA args) a w->after Fence.wide 0 Tryz.prog [.code c] (Ret (W0 w) fn (Res (W0 w) ps)) .normal a w) :
 Enters Tryz.prog f/\Calls Tryz.prog f vs.toArray w (fun en w'=>∃ v,en=.returned v/\Res (W0 w) ps v w'):=by
 unfold lenA at hm;split at hm
 ·rename_i xs ws n0 h0;refine fn_ok hG hN hE hfn hbody h0 hm hp (fun hR a hA=>hwp hR a ?_);unfold stA;rw[h0];exact hA
 ·cases hm
abbrev Es (f:Nat) (args:List (Pat Dx)) (ps:Nat->List (Pat Dx)):Prop:=∀ w vs,Gr w->jf (W0 w) w args vs->Enters Tryz.prog f/\Calls Tryz.prog f vs.toArray w (fun en w'=>∃ v,en=.returned v/\Res (W0 w) (ps w.heap.size) v w')
section
variable {b:Bool}{lo:Nat}{w0:World}{f:Nat}{args:List (Pat Dx)}
theorem Es.ent {ps:Nat->List (Pat Dx)}(h:Es f args ps) (hG:Gr w0) (hlo:lo<=w0.heap.size) (hE:Enters Tryz.prog f) (hsub:∀ hi,lo<=hi->∃ ob,yj (Cx b lo w0) (ps lo) (ps hi)=some ob/\jC ob):jQ (Cx b lo w0) (.call f) args (KK (ps lo)):=cjs hG hlo ps hsub h hE
theorem Es.val {v:Value}(h:Es f args (fun _=>[.one (.lit v)])) (hG:Gr w0) (hlo:lo<=w0.heap.size) (hE:Enters Tryz.prog f):jQ (Cx b lo w0) (.call f) args (vr v) :=
 h.ent hG hlo hE (fun _ _=>⟨_,rfl,rfl,trivial⟩)
end
section
variable {w w1:World}{o:Opt}{f nt:Nat}{ks:List Kp}{st st':St Dx}{x:Xt}{ob:List Prop}{a:Act}{Q:Exit->Act->World->Prop}
theorem uW (h:run w o f nt ks st st'=some (x,ob)) (hR:CB (W0 w) (TY o)) (hA:At (W0 w) nt st a w1) (hQ:∀ a' w',At (W0 w) nt st' a' w'->after Fence.wide 0 (W0 w).P (ccg ks) Q x.to a' w') (ho:jC ob:=by (repeat' (first|exact trivial|apply And.intro))<;>first|exact jZ.refl _ _|exact fun _ _=>kG.refl _ _|exact cN rfl|exact cN (by assumption)|exact ja _ _|exact cZ _ _|(with_reducible assumption)|omega|with_reducible rfl|(simp only[cM];omega)|(intro j hj;exact absurd hj (cT _))|exact Ul rfl (by omega)|exact Yc rfl (by omega)|exact Ul (by assumption) (by omega)|exact Yc (by assumption) (by omega)|exact JY rfl (by omega)|exact YJ rfl rfl|exact cG rfl|exact cG (by omega)|assumption|rfl):after Fence.wide 0 (W0 w).P ks Q .normal a w1:=ciH hR (.inl rfl) (fun _=>rfl) h ho hA hQ
noncomputable abbrev runA (w:World) (o:Opt) (f nt:Nat) (fn:Func) (st:St Dx) (ps:List (Pat Dx)):Option (Xt×List Prop):=cjZ (W0 w) (TY o) (Cp (Sx false w.heap.size) (TY o) 300 30).1 (Cp (Sx false w.heap.size) (TY o) 300 30).2 nt f 300 (codeOf fn) fn.results.toList st ps
theorem all_o {fn:Func}{ps:List (Pat Dx)}(h:runA w o f nt fn st ps=some (.ret,ob)) (hR:CB (W0 w) (TY o)) (hA:At (W0 w) nt st a w1) (ho:jC ob:=by (repeat' (first|exact trivial|apply And.intro))<;>first|exact jZ.refl _ _|exact fun _ _=>kG.refl _ _|exact cN rfl|exact cN (by assumption)|exact ja _ _|exact cZ _ _|(with_reducible assumption)|omega|with_reducible rfl|(simp only[cM];omega)|(intro j hj;exact absurd hj (cT _))|exact Ul rfl (by omega)|exact Yc rfl (by omega)|exact Ul (by assumption) (by omega)|exact Yc (by assumption) (by omega)|exact JY rfl (by omega)|exact YJ rfl rfl|exact cG rfl|exact cG (by omega)|assumption|rfl):after Fence.wide 0 (W0 w).P [.code (codeOf fn)] (Ret (W0 w) fn (Res (W0 w) ps)) .normal a w1:=all_is hR h ho hA
theorem ug {fn:Func}{ps:List (Pat Dx)}(h:runR w o f nt fn ks st ps=some (.ret,ob)) (hR:CB (W0 w) (TY o)) (hA:At (W0 w) nt st a w1) (ho:jC ob:=by (repeat' (first|exact trivial|apply And.intro))<;>first|exact jZ.refl _ _|exact fun _ _=>kG.refl _ _|exact cN rfl|exact cN (by assumption)|exact ja _ _|exact cZ _ _|(with_reducible assumption)|omega|with_reducible rfl|(simp only[cM];omega)|(intro j hj;exact absurd hj (cT _))|exact Ul rfl (by omega)|exact Yc rfl (by omega)|exact Ul (by assumption) (by omega)|exact Yc (by assumption) (by omega)|exact JY rfl (by omega)|exact YJ rfl rfl|exact cG rfl|exact cG (by omega)|assumption|rfl) (hQ:∀ a' w',Ret (W0 w) fn (Res (W0 w) ps) .ret a' w'->Q .ret a' w':=by exact fun _ _ h=>h):after Fence.wide 0 (W0 w).P ks Q .normal a w1:=ret_is hR (.inl rfl) (fun _=>rfl) h ho hA hQ
end
theorem CK {w:World}{ex:List (Nat×Con)}(hG:Gr w) (hN:jD) (hE:CI false w.heap.size w ex):∀ o:Opt,o.ex=ex->CB (W0 w) (TY o):=fun _ ho=>ccA (cb _) hG hN (by rw[ho];exact hE)
end Pe.F
namespace Pe.F
noncomputable def kisNegative65_:List Kp:=[.code (codeOf Tryz.f65)]
noncomputable def kisValid40_:List Kp:=[.code (codeOf Tryz.f40)]
noncomputable def kReconcile139_:List Kp:=[.code (codeOf Tryz.f39)]
noncomputable def kSpan86_:List Kp:=[.code (codeOf Tryz.f86)]
noncomputable def kSpan86_n:List Kp:=next kSpan86_
noncomputable def kSpan86_nl:List Kp:=[.code (CL kSpan86_n)]
noncomputable def kSpan41_:List Kp:=[.code (codeOf Tryz.f41)]
noncomputable def kMeet87_:List Kp:=[.code (codeOf Tryz.f87)]
noncomputable def kSpan86_nt:List Kp:=kSpan86_n.tail
abbrev fq1 (x:Rat):List (Grp Dx):=[.cls (.q x 4)]
abbrev pQ1 (lo:Nat) (y:Rat):Pat Dx:=.one (.cls (.ls (lst lo 34 4 [y] fq1)))
theorem slc_q {bb bb':Bool}{lo lo' ty:Nat}{w0 w0' w:World}{y:Rat}{v:Value}(h:Pat.is (Cx bb lo w0) w (.slc ty 1 [.cls (.q y 4)]) v):Pat.is (Cx bb' lo' w0') w (.one (.cls (.ls (lst 0 ty 4 [y] fq1)))) v:=by
 obtain⟨k,o,c,arr,pre,vs,rest,rfl,h1,h2,h3,h4,h5⟩:=h;obtain⟨xs,ys,rfl,q2,q3⟩:=Kr (b:=bb) (lo:=lo) (w0:=w0) (r:=y) (k:=4) (gs':=[]) rfl h4;obtain rfl:ys=[]:=q3;rw[uv] at h2;obtain⟨q4,q5,_⟩:=ckp q2;have hc:∀ v∈xs,v.oneCell'=true:=by
  obtain⟨s1,a1,b1,p1,e1⟩:=q5.form;have e2:xs=[.bool s1,u a1,u b1,.pointer p1]:=by
   have:=cX (fun x=>match x with|Value.agg a=>a.toList|_=>[]) e1;simpa using this
  subst e2;intro v hv;simp at hv;rcases hv with rfl|rfl|rfl|rfl<;>rfl
 refine DIs.ls k o c arr pre xs rest h5 ⟨_,h1⟩ h2 h3 (by simp [lst,q4]) (ju _) hc (fun j hj=>?_);have hj:j<1:=hj;obtain rfl:j=0:=by omega
 show GsI w (fq1 y) ((xs.drop (0*4)).take 4);rw[Jq,uB,ku (by omega)];have:=GsI.cls q2 (GsI.nil (w:=w))
 rwa [uv] at this
theorem aru1 {w:World}(l0:Nat) (a y:Rat):runA w ⟨[(116,21,true),(116,28,false)],[],[]⟩ 116 33 Tryz.f116 (stA [pQ a 4,pQ1 l0 y]) [pS y 4 a 4]=some (.ret,[0<[y].length,0<[y].length,4+4<=1000000,decide (kd ([y].getD 0 default) a<0)=true,4+4<=1000000,decide (kd ([y].getD 0 default) a>0)=false,Gc (0+1),jZ (W0 w) (.q y 4) (.q ([y].getD 0 default) 4),sD w (.q a 4),kS (W0 w) (.q y 4),kS (W0 w) (.q a 4)]):=by kernel_rfl
theorem aru2 {w:World}(l0:Nat) (a y:Rat):runA w ⟨[(116,21,false),(116,28,true)],[],[]⟩ 116 33 Tryz.f116 (stA [pQ a 4,pQ1 l0 y]) [pS a 4 y 4]=some (.ret,[0<[y].length,0<[y].length,4+4<=1000000,decide (kd ([y].getD 0 default) a<0)=false,4+4<=1000000,decide (kd ([y].getD 0 default) a>0)=true,Gc (0+1),sD w (.q a 4),jZ (W0 w) (.q y 4) (.q ([y].getD 0 default) 4),kS (W0 w) (.q a 4),kS (W0 w) (.q y 4)]):=by kernel_rfl
theorem aru3 {w:World}(l0:Nat) (a y:Rat):runA w ⟨[(116,21,false),(116,28,false)],[],[]⟩ 116 33 Tryz.f116 (stA [pQ a 4,pQ1 l0 y]) [pS a 4 a 4]=some (.ret,[0<[y].length,0<[y].length,4+4<=1000000,decide (kd ([y].getD 0 default) a<0)=false,4+4<=1000000,decide (kd ([y].getD 0 default) a>0)=false,Gc (0+1),sD w (.q a 4),sD w (.q a 4),kS (W0 w) (.q a 4),kS (W0 w) (.q a 4)]):=by kernel_rfl
theorem ar_ok (hN:jD) (l0:Nat) (a y:Rat):Es 116 [pQ a 4,pQ1 l0 y] (fun _=>[pS (mn a y) 4 (mx a y) 4]):=by
 intro w vs hG hp;refine Em hG hN (ex:=[]) kU (fn:=Tryz.f116) Tryz.func116 (c:=codeOf Tryz.f116) (by kernel_rfl) (args:=[pQ a 4,pQ1 l0 y]) (by kernel_rfl) hp (fun hR _ hA=>?_);by_cases h1:y<a
 ·have h2:¬ a<y:=Rat.not_lt.2 (Rat.le_of_lt h1);rw[show mn a y=y from co h1,show mx a y=a from cg h2];exact all_o (aru1 l0 a y) (hR _ rfl) hA (by (repeat' (first|exact trivial|apply And.intro))<;>first|exact jZ.refl _ _|exact fun _ _=>kG.refl _ _|exact cN rfl|exact ja _ _|exact cZ _ _|(with_reducible assumption)|omega|with_reducible rfl|(simp only[cM];omega)|(intro j hj;exact absurd hj (cT _))|exact Nat.zero_lt_one|exact cG (clt.2 h1)|exact cJ (fun h=>h2 (YB.1 h))|rfl)
 ·by_cases h2:a<y
  ·rw[show mn a y=a from cg h1,show mx a y=y from co h2];exact all_o (aru2 l0 a y) (hR _ rfl) hA (by (repeat' (first|exact trivial|apply And.intro))<;>first|exact jZ.refl _ _|exact fun _ _=>kG.refl _ _|exact cN rfl|exact ja _ _|exact cZ _ _|(with_reducible assumption)|omega|with_reducible rfl|(simp only[cM];omega)|(intro j hj;exact absurd hj (cT _))|exact Nat.zero_lt_one|exact cG (YB.2 h2)|exact cJ (fun h=>h1 (clt.1 h))|rfl)
  ·rw[show mn a y=a from cg h1,show mx a y=a from cg h2];exact all_o (aru3 l0 a y) (hR _ rfl) hA (by (repeat' (first|exact trivial|apply And.intro))<;>first|exact jZ.refl _ _|exact fun _ _=>kG.refl _ _|exact cN rfl|exact ja _ _|exact cZ _ _|(with_reducible assumption)|omega|with_reducible rfl|(simp only[cM];omega)|(intro j hj;exact absurd hj (cT _))|exact Nat.zero_lt_one|exact cJ (fun h=>h1 (clt.1 h))|exact cJ (fun h=>h2 (YB.1 h))|rfl)
def cjm:Con
 |[.agg [.cls (.q a 4)],.slc 34 1 [.cls (.q y 4)]]=>some (KK [pS (mn a y) 4 (mx a y) 4],[])
 |_=>none
theorem cmC {lo:Nat}{w0:World}(hN:jD) (hG:Gr w0) (hlo:lo<=w0.heap.size):∀ l r ob,cjm l=some (r,ob)->jC ob->jQ (Cx false lo w0) (.call 116) l r:=by
 intro l r ob h ho;unfold cjm at h;split at h
 ·injection h with h;injection h with h1 h2;subst h1;subst h2
  refine cbT ((ar_ok hN 0 _ _).ent hG hlo (jg Tryz.func116 (by kernel_rfl) rfl) (fun _ _=>⟨_,rfl,jZ.refl _ _,jZ.refl _ _,trivial⟩)) (fun w vs hv=>?_);obtain⟨v,_,rfl,h1,v2,_,rfl,h2,h3⟩:=hv;exact⟨v,_,rfl,h1,v2,_,rfl,slc_q h2,h3⟩
 ·cases h
abbrev exMe:List (Nat×Con):=[(74,conSo),(116,cjm)]
theorem exMe_ok {lo:Nat}{w0:World}(hN:jD) (hG:Gr w0) (hlo:lo<=w0.heap.size):CI false lo w0 exMe:=jG coO (jG (cmC hN hG hlo) kU)
theorem mea {w:World}(a b c d:Rat):runR w ⟨[(87,29,false)],[],exMe⟩ 87 34 Tryz.f87 kMeet87_ (stA [pS a 4 b 4,pS c 4 d 4]) [pS (mx a c) 4 (mn b d) 4,.one (.lit (.bool true))]=some (.ret,[a<=b/\4<=1000000/\4<=1000000,c<=d/\4<=1000000/\4<=1000000,4+4<=1000000,decide (kd (mx a c) (mn b d)>0)=false,sD w (.q (mx a c) 4),sD w (.q (mn b d) 4),eA (Value.bool true),kS (W0 w) (.q (mx a c) 4),kS (W0 w) (.q (mn b d) 4)]):=by kernel_rfl
theorem me_ok (hN:jD) (a b c d:Rat) (hab:a<=b) (hcd:c<=d) (hx:mx a c<=mn b d):Es 87 [pS a 4 b 4,pS c 4 d 4] (fun _=>[pS (mx a c) 4 (mn b d) 4,.one (.lit (.bool true))]):=by
 intro w vs hG hp;refine Em hG hN (ex:=exMe) (exMe_ok hN hG (cb _)) (fn:=Tryz.f87) Tryz.func87 (c:=codeOf Tryz.f87) (by kernel_rfl) (args:=[pS a 4 b 4,pS c 4 d 4]) (by kernel_rfl) hp (fun hR _ hA=>?_);exact ug (mea a b c d) (hR _ rfl) hA (by (repeat' (first|exact trivial|apply And.intro))<;>first|exact jZ.refl _ _|exact fun _ _=>kG.refl _ _|exact cN rfl|exact ja _ _|exact cZ _ _|(with_reducible assumption)|omega|with_reducible rfl|(simp only[cM];omega)|(intro j hj;exact absurd hj (cT _))|exact⟨hab,by decide,by decide⟩|exact⟨hcd,by decide,by decide⟩|exact cJ (fun h=>absurd (YB.1 h) (Rat.not_lt.2 hx))|rfl)
theorem me_ent {lo:Nat}{w0:World}{a b c d:Rat}(hN:jD) (hG:Gr w0) (hlo:lo<=w0.heap.size) (hab:a<=b) (hcd:c<=d) (hx:mx a c<=mn b d):jQ (Cx false lo w0) (.call 87) [pS a 4 b 4,pS c 4 d 4] (KK [pS (mx a c) 4 (mn b d) 4,.one (.lit (.bool true))]) :=
 (me_ok hN a b c d hab hcd hx).ent hG hlo (jg Tryz.func87 (by kernel_rfl) rfl) (fun _ _=>⟨_,rfl,jZ.refl _ _,jZ.refl _ _,rfl,trivial⟩)
noncomputable abbrev ngcR (w:World) (r:Rat) (k:Nat) (o:List (Nat×Nat×Bool)):=runR w ⟨o,[],[]⟩ 65 6 Tryz.f65 kisNegative65_ (stA [pQ r k]) (rB (decide (sign r<0)))
theorem ngc0 {w:World}(r:Rat) (k:Nat):ngcR w r k [(65,5,true)]=some (.ret,[decide (sign r<0)=true,Value.bool (decide (sign r<0))=Value.bool true]):=by kernel_rfl
theorem ngc1 {w:World}(r:Rat) (k:Nat):ngcR w r k [(65,5,false)]=some (.ret,[decide (sign r<0)=false,Value.bool (decide (sign r<0))=Value.bool false]):=by kernel_rfl
theorem ngC_ok (hN:jD) (r:Rat) (k:Nat):Es 65 [pQ r k] (fun _=>rB (decide (sign r<0))):=by
 intro w vs hG hp;refine Em hG hN (ex:=[]) kU (fn:=Tryz.f65) Tryz.func65 (c:=codeOf Tryz.f65) (by kernel_rfl) (args:=[pQ r k]) (by kernel_rfl) hp (fun hR _ hA=>?_);rcases kM (decide (sign r<0)) with q5|q5
 ·skip
  have p5:=jV q5
  first|have e0:=cX Value.bool q5|skip
  refine ug (ngc0 r k) (hR _ rfl) hA
 ·skip
  have p5:=ko q5
  first|have e0:=cX Value.bool q5|skip
  refine ug (ngc1 r k) (hR _ rfl) hA
theorem cnE {lo:Nat}{w0:World}(hN:jD) (hG:Gr w0) (hlo:lo<=w0.heap.size):∀ l r ob,cjX l=some (r,ob)->jC ob->jQ (Cx false lo w0) (.call 65) l r:=by
 intro l r ob h ho;unfold cjX at h;split at h
 ·injection h with h;injection h with h1 h2;subst h1;subst h2
  exact(ngC_ok hN _ _).val hG hlo (jg Tryz.func65 (by kernel_rfl) rfl)
 ·cases h
abbrev exNg:List (Nat×Con):=[(65,cjX)]
theorem exNg_ok {lo:Nat}{w0:World}(hN:jD) (hG:Gr w0) (hlo:lo<=w0.heap.size):CI false lo w0 exNg:=jG (cnE hN hG hlo) kU
noncomputable abbrev vacR (w:World) (a b:Rat) (j k:Nat)  (o:List (Nat×Nat×Bool)):=runR w ⟨o,[],exNg⟩ 40 15 Tryz.f40 kisValid40_ (stA [pS a j b k]) (rB (okSp a b))
theorem vac0 {w:World}(a b:Rat) (j k:Nat):vacR w a b j k [(40,5,true)]=some (.ret,[decide (sign a<0)=true,Value.bool (okSp a b)=Value.bool false]):=by kernel_rfl
theorem vac1 {w:World}(a b:Rat) (j k:Nat):vacR w a b j k [(40,5,false),(40,13,true)]=some (.ret,[decide (sign a<0)=false,j+k<=1000000,decide (kd a b<=0)=true,Value.bool (okSp a b)=Value.bool true]):=by kernel_rfl
theorem vac2 {w:World}(a b:Rat) (j k:Nat):vacR w a b j k [(40,5,false),(40,13,false)]=some (.ret,[decide (sign a<0)=false,j+k<=1000000,decide (kd a b<=0)=false,Value.bool (okSp a b)=Value.bool false]):=by kernel_rfl
theorem va_ok (hN:jD) (a b:Rat) (j k:Nat) (hj:j+k<=10000):Es 40 [pS a j b k] (fun _=>rB (okSp a b)):=by
 intro w vs hG hp;refine Em hG hN (ex:=exNg) (exNg_ok hN hG (cb _)) (fn:=Tryz.f40) Tryz.func40 (c:=codeOf Tryz.f40) (by kernel_rfl) (args:=[pS a j b k]) (by kernel_rfl) hp (fun hR _ hA=>?_);rcases kM (decide (sign a<0)) with q5|q5
 ·skip
  have p5:=jV q5;refine ug (vac0 a b j k) (hR _ rfl) hA (by (repeat' (first|exact trivial|apply And.intro))<;>first|exact jZ.refl _ _|exact fun _ _=>kG.refl _ _|exact cN rfl|exact ja _ _|exact cZ _ _|(with_reducible assumption)|omega|with_reducible rfl|(simp only[cM];omega)|(intro j hj;exact absurd hj (cT _))|exact cX Value.bool (by unfold okSp;rw[q5];first|rfl|(rw[q13];rfl))|rfl)
 ·skip
  have p5:=ko q5;rcases kM (decide (kd a b<=0)) with q13|q13
  ·skip
   have p13:=jV q13;refine ug (vac1 a b j k) (hR _ rfl) hA (by (repeat' (first|exact trivial|apply And.intro))<;>first|exact jZ.refl _ _|exact fun _ _=>kG.refl _ _|exact cN rfl|exact ja _ _|exact cZ _ _|(with_reducible assumption)|omega|with_reducible rfl|(simp only[cM];omega)|(intro j hj;exact absurd hj (cT _))|exact cX Value.bool (by unfold okSp;rw[q5];first|rfl|(rw[q13];rfl))|rfl)
  ·skip
   have p13:=ko q13;refine ug (vac2 a b j k) (hR _ rfl) hA (by (repeat' (first|exact trivial|apply And.intro))<;>first|exact jZ.refl _ _|exact fun _ _=>kG.refl _ _|exact cN rfl|exact ja _ _|exact cZ _ _|(with_reducible assumption)|omega|with_reducible rfl|(simp only[cM];omega)|(intro j hj;exact absurd hj (cT _))|exact cX Value.bool (by unfold okSp;rw[q5];first|rfl|(rw[q13];rfl))|rfl)
theorem cox {lo:Nat}{w0:World}(hN:jD) (hG:Gr w0) (hlo:lo<=w0.heap.size):∀ l r ob,conVa l=some (r,ob)->jC ob->jQ (Cx false lo w0) (.call 40) l r:=by
 intro l r ob h ho;unfold conVa at h;split at h
 ·injection h with h;injection h with h1 h2;subst h1;subst h2
  exact(va_ok hN _ _ _ _ ho.1).val hG hlo (jg Tryz.func40 (by kernel_rfl) rfl)
 ·cases h
abbrev pSl (lo:Nat) (L:List R2):Pat Dx:=.one (.cls (.ls (lst lo 36 8 L fQ)))
def cld:Con
 |[.agg [.cls (.q a 4),.cls (.q b 4)]]=>some (vr (.bool (!okSp a b)),[])
 |_=>none
abbrev exVa:List (Nat×Con):=[(40,conVa)]
theorem exVa_ok {lo:Nat}{w0:World}(hN:jD) (hG:Gr w0) (hlo:lo<=w0.heap.size):CI false lo w0 exVa:=jG (cox hN hG hlo) kU
noncomputable abbrev wrtR (w:World) (a b:Rat) (o:List (Nat×Nat×Bool)):=runR w ⟨o,[],exVa⟩ 39 6 Tryz.f39 kReconcile139_ (stA [pS a 4 b 4]) (rB (!okSp a b))
theorem wrt0 {w:World}(a b:Rat):wrtR w a b []=some (.ret,[4+4<=10000,(Value.bool !okSp a b)=Value.bool !okSp a b]):=by kernel_rfl
theorem wr_ok (hN:jD) (a b:Rat):Es 39 [pS a 4 b 4] (fun _=>rB (!okSp a b)):=by
 intro w vs hG hp;refine Em hG hN (ex:=exVa) (exVa_ok hN hG (cb _)) (fn:=Tryz.f39) Tryz.func39 (c:=codeOf Tryz.f39) (by kernel_rfl) (args:=[pS a 4 b 4]) (by kernel_rfl) hp (fun hR _ hA=>?_);refine ug (wrt0 a b) (hR _ rfl) hA
theorem chz {lo:Nat}{w0:World}(hN:jD) (hG:Gr w0) (hlo:lo<=w0.heap.size):∀ l r ob,cld l=some (r,ob)->jC ob->jQ (Cx false lo w0) (.call 39) l r:=by
 intro l r ob h ho;unfold cld at h;split at h
 ·injection h with h;injection h with h1 h2;subst h1;subst h2
  exact(wr_ok hN _ _).val hG hlo (jg Tryz.func39 (by kernel_rfl) rfl)
 ·cases h
abbrev exWr:List (Nat×Con):=[(39,cld)]
theorem exWr_ok {lo:Nat}{w0:World}(hN:jD) (hG:Gr w0) (hlo:lo<=w0.heap.size):CI false lo w0 exWr:=jG (chz hN hG hlo) kU
def badF (L:List R2) (i:Nat):Bool:=!okSp (L.getD i default).1 (L.getD i default).2
abbrev ixI (lo:Nat) (L:List R2) (i:Nat):St Dx:=⟨1,[(0,.val (.one (.sym 0 0))),(1,.val (.one (.lit (.func (.func 39) #[] #[])))),(7,.val (.one (.lit (ii (L.length:Int))))),(8,.val (.one (.lit (ii (i:Int)))))],[(0,.cls (.ls (lst lo 36 8 L fQ)))],[]⟩
theorem ixa {w:World}(lo:Nat) (L:List R2):run w ⟨[],[],exWr⟩ 86 19 kSpan86_ (stA [pSl lo L,pF 39]) (ixI lo L 0)=some (.normal,[sD w (.ls (lst lo 36 8 L fQ)),eA (Value.func (Fn.func 39) #[] #[]),ii (L.length:Int)=goInt (L.length:Int),ii (↑0:Int)=Value.int IntKind.i64 0]):=by kernel_rfl
theorem ixe {w:World}(lo:Nat) (L:List R2) (i:Nat):runR w ⟨[],[],exWr⟩ 86 19 Tryz.f86 kSpan86_nt (ixI lo L i) (rI (ixP L.length (badF L)))=some (.ret,[Value.int IntKind.i64 (ixP L.length (badF L))=Value.int IntKind.i64 (-1)]):=by kernel_rfl
noncomputable abbrev ixbTe0 (w:World) (l0:Nat) (L:List R2) (i:Nat) (o:List (Nat×Nat×Bool)):=run w ⟨o,[],exWr⟩ 86 19 kSpan86_nl (ixI l0 L i) (ixI l0 L i)
noncomputable abbrev ixbTnal (w:World) (l0:Nat) (L:List R2) (i:Nat) (o:List (Nat×Nat×Bool)):=run w ⟨o,[],exWr⟩ 86 19 kSpan86_nl (ixI l0 L i) (ixI l0 L (i+1))
noncomputable abbrev ixbR (w:World) (l0:Nat) (L:List R2) (i:Nat) (o:List (Nat×Nat×Bool)):=runR w ⟨o,[],exWr⟩ 86 19 Tryz.f86 kSpan86_nl (ixI l0 L i) (rI (ixP L.length (badF L)))
theorem ixb0 {w:World}(l0:Nat) (L:List R2) (i:Nat):ixbR w l0 L i [(86,9,true),(86,16,true)]=some (.ret,[decide ((i:Int)<(L.length:Int))=true,i<L.length,i<L.length,(!okSp (L.getD i default).1 (L.getD i default).2)=true,Value.int IntKind.i64 (ixP L.length (badF L))=ii (i:Int)]):=by kernel_rfl
theorem ixb1 {w:World}(l0:Nat) (L:List R2) (i:Nat):ixbTnal w l0 L i [(86,9,true),(86,16,false)]=some (.normal,[decide ((i:Int)<(L.length:Int))=true,i<L.length,i<L.length,(!okSp (L.getD i default).1 (L.getD i default).2)=false,Gc ((i:Int)+1),sD w (.ls (lst l0 36 8 L fQ)),eA (Value.func (Fn.func 39) #[] #[]),eA (ii (L.length:Int)),ii (↑(i+1):Int)=Value.int IntKind.i64 ((i:Int)+1)]):=by kernel_rfl
theorem ixb2 {w:World}(l0:Nat) (L:List R2) (i:Nat):ixbTe0 w l0 L i [(86,9,false)]=some (.exit 0,[decide ((i:Int)<(L.length:Int))=false,sD w (.ls (lst l0 36 8 L fQ)),eA (Value.func (Fn.func 39) #[] #[]),eA (ii (L.length:Int)),eA (ii (i:Int))]):=by kernel_rfl
theorem ixF_ok (hN:jD) (l0:Nat) (L:List R2) (hl:L.length<=1000000):Es 86 [pSl l0 L,pF 39] (fun _=>rI (ixP L.length (badF L))):=by
 intro w vs hG hp;refine Em hG hN (ex:=exWr) (exWr_ok hN hG (cb _)) (fn:=Tryz.f86) Tryz.func86 (c:=codeOf Tryz.f86) (by kernel_rfl) (args:=[pSl l0 L,pF 39]) (by kernel_rfl) hp (fun hR _ hA=>?_);refine uW (ixa l0 L) (hR _ rfl) hA (fun a w1 hA=>Jz ?_);refine Gx (fun i=>ixI l0 L i) (fun i=>i<=L.length/\∀ k,k<i->badF L k=false) (fun i=>L.length-i) (L:=kSpan86_n) (ks:=kSpan86_nt) (id:=0) (c:=CL kSpan86_n) (by kernel_rfl) 0 ⟨ju _,by omega⟩ hA (fun i a2 w2 hi hA=>?_);rcases kM (decide ((i:Int)<(L.length:Int))) with q9|q9
 ·skip
  have p9:=jV q9;rcases kM (badF L i) with q16|q16
  ·skip
   have e0:=cX (Value.int .i64) (cpt (n:=L.length) (p:=badF L) (i:=i) (by omega) q16 hi.2);refine ug (ixb0 l0 L i) (hR _ rfl) hA (by (repeat' (first|exact trivial|apply And.intro))<;>first|exact jZ.refl _ _|exact fun _ _=>kG.refl _ _|exact cN rfl|exact ja _ _|exact cZ _ _|(with_reducible assumption)|omega|with_reducible rfl|(simp only[cM];omega)|(intro j hj;exact absurd hj (cT _))|exact q16|rfl)
  ·skip
   refine uW (ixb1 l0 L i) (hR _ rfl) hA (fun aT wT hT=>?_) (by (repeat' (first|exact trivial|apply And.intro))<;>first|exact jZ.refl _ _|exact fun _ _=>kG.refl _ _|exact cN rfl|exact ja _ _|exact cZ _ _|(with_reducible assumption)|omega|with_reducible rfl|(simp only[cM];omega)|(intro j hj;exact absurd hj (cT _))|exact q16|rfl);exact kZ (by kernel_rfl) ⟨i+1,⟨by omega,fun k hk=>by rcases Nat.lt_succ_iff_lt_or_eq.1 hk with h|rfl;exact hi.2 k h;exact q16⟩,hT,by omega⟩
 ·skip
  have p9:=ko q9;refine uW (ixb2 l0 L i) (hR _ rfl) hA (fun aT wT hT=>?_) (by (repeat' (first|exact trivial|apply And.intro))<;>first|exact jZ.refl _ _|exact fun _ _=>kG.refl _ _|exact cN rfl|exact ja _ _|exact cZ _ _|(with_reducible assumption)|omega|with_reducible rfl|(simp only[cM];omega)|(intro j hj;exact absurd hj (cT _))|exact q16|rfl);refine zH _ (by kernel_rfl) ?_;refine ug (ixe l0 L i) (hR _ rfl) hT ⟨cX (Value.int .i64) (cpo fun k hk=>hi.2 k (by omega)),trivial⟩
abbrev exIx (l0:Nat) (L:List R2):List (Nat×Con):=[(86,WU [pSl l0 L,pF 39] (vr (.int .i64 (ixP L.length (badF L)))))]
theorem exIx_ok {lo l0:Nat}{w0:World}{L:List R2}(hN:jD) (hG:Gr w0) (hlo:lo<=w0.heap.size) (hl:L.length<=1000000):CI false lo w0 (exIx l0 L):=jG (zW ((ixF_ok hN l0 L hl).val hG hlo (jg Tryz.func86 (by kernel_rfl) rfl))) kU
noncomputable abbrev coiR (w:World) (l0:Nat) (L:List R2)  (o:List (Nat×Nat×Bool)):=runR w ⟨o,[],(exIx l0 L)⟩ 41 9 Tryz.f41 kSpan41_ (stA [pSl l0 L,pF 39]) (rB (Jl L.length (badF L)))
theorem coi0 {w:World}(l0:Nat) (L:List R2):coiR w l0 L [(41,8,true)]=some (.ret,[[Pat.one (Grp.cls (Dx.ls (lst l0 36 8 L fQ))),Pat.one (Grp.lit (Value.func (Fn.func 39) #[] #[]))]=[pSl l0 L,pF 39],decide (ixP L.length (badF L)>=0)=true,Value.bool (Jl L.length (badF L))=Value.bool true]):=by kernel_rfl
theorem coi1 {w:World}(l0:Nat) (L:List R2):coiR w l0 L [(41,8,false)]=some (.ret,[[Pat.one (Grp.cls (Dx.ls (lst l0 36 8 L fQ))),Pat.one (Grp.lit (Value.func (Fn.func 39) #[] #[]))]=[pSl l0 L,pF 39],decide (ixP L.length (badF L)>=0)=false,Value.bool (Jl L.length (badF L))=Value.bool false]):=by kernel_rfl
theorem coF_ok (hN:jD) (l0:Nat) (L:List R2) (hl:L.length<=1000000):Es 41 [pSl l0 L,pF 39] (fun _=>rB (Jl L.length (badF L))):=by
 intro w vs hG hp;refine Em hG hN (ex:=(exIx l0 L)) (exIx_ok hN hG (cb _) hl) (fn:=Tryz.f41) Tryz.func41 (c:=codeOf Tryz.f41) (by kernel_rfl) (args:=[pSl l0 L,pF 39]) (by kernel_rfl) hp (fun hR _ hA=>?_);rcases kM (decide (ixP L.length (badF L)>=0)) with q8|q8
 ·skip
  have p8:=jV q8
  first|have e0:=cX Value.bool (ixP_ge.symm.trans q8)|skip
  refine ug (coi0 l0 L) (hR _ rfl) hA
 ·skip
  have p8:=ko q8
  first|have e0:=cX Value.bool (ixP_ge.symm.trans q8)|skip
  refine ug (coi1 l0 L) (hR _ rfl) hA
end Pe.F
namespace Pe.F
noncomputable def kCompare89_:List Kp:=[.code (codeOf Tryz.f89)]
noncomputable def kOr88_:List Kp:=[.code (codeOf Tryz.f88)]
noncomputable def kOr88_n:List Kp:=next kOr88_
noncomputable def kOr88_nl:List Kp:=[.code (CL kOr88_n)]
noncomputable def kcompare43_:List Kp:=[.code (codeOf Tryz.f43)]
noncomputable def kOr88_nt:List Kp:=kOr88_n.tail
def JV (a b:Int):Int:=if a<b then -1 else if b<a then 1 else 0
def orZ (a b:Int):Int:=if a=0 then b else a
theorem lssZ {a b:Int}(h:decide (a<b)=true):Value.int .i64 (JV a b)=Value.int .i64 (-1):=by unfold JV;rw[co (jV h)]
theorem gtrZ {a b:Int}(h:decide (a<b)=false) (h2:decide (a>b)=true):Value.int .i64 (JV a b)=Value.int .i64 1:=by unfold JV;rw[cg (ko h),co (jV h2)]
theorem eqlZ {a b:Int}(h:decide (a<b)=false) (h2:decide (a>b)=false):Value.int .i64 (JV a b)=Value.int .i64 0:=by unfold JV;rw[cg (ko h),cg (ko h2)]
noncomputable abbrev cztR (w:World) (a b:Int) (o:List (Nat×Nat×Bool)):=runR w ⟨o,[],[]⟩ 89 20 Tryz.f89 kCompare89_ (stA [pI a,pI b]) (rI (JV a b))
theorem czt0 {w:World}(a b:Int):cztR w a b [(89,16,true),(131,5,false)]=some (.ret,[decide (a≠a)=false,decide (b≠b)=false,decide (a<b)=true,Value.int IntKind.i64 (JV a b)=Value.int IntKind.i64 (-1)]):=by kernel_rfl
theorem czt1 {w:World}(a b:Int):cztR w a b [(89,16,false),(89,19,true),(131,5,false)]=some (.ret,[decide (a≠a)=false,decide (b≠b)=false,decide (a<b)=false,decide (a>b)=true,Value.int IntKind.i64 (JV a b)=Value.int IntKind.i64 1]):=by kernel_rfl
theorem czt2 {w:World}(a b:Int):cztR w a b [(89,16,false),(89,19,false),(131,5,false)]=some (.ret,[decide (a≠a)=false,decide (b≠b)=false,decide (a<b)=false,decide (a>b)=false,Value.int IntKind.i64 (JV a b)=Value.int IntKind.i64 0]):=by kernel_rfl
theorem cz_ok (hN:jD) (a b:Int):Es 89 [pI a,pI b] (fun _=>rI (JV a b)):=by
 intro w vs hG hp;refine Em hG hN (ex:=[]) kU (fn:=Tryz.f89) Tryz.func89 (c:=codeOf Tryz.f89) (by kernel_rfl) (args:=[pI a,pI b]) (by kernel_rfl) hp (fun hR _ hA=>?_);rcases kM (decide (a<b)) with q16|q16
 ·skip
  have p16:=jV q16;refine ug (czt0 a b) (hR _ rfl) hA (by (repeat' (first|exact trivial|apply And.intro))<;>first|exact jZ.refl _ _|exact fun _ _=>kG.refl _ _|exact cN rfl|exact ja _ _|exact cZ _ _|(with_reducible assumption)|omega|with_reducible rfl|(simp only[cM];omega)|(intro j hj;exact absurd hj (cT _))|exact lssZ q16|exact(lssZ q16).symm|exact gtrZ q16 q19|exact(gtrZ q16 q19).symm|exact eqlZ q16 q19|exact(eqlZ q16 q19).symm|exact cJ (fun h=>h rfl)|rfl)
 ·skip
  have p16:=ko q16;rcases kM (decide (a>b)) with q19|q19
  ·skip
   have p19:=jV q19;refine ug (czt1 a b) (hR _ rfl) hA (by (repeat' (first|exact trivial|apply And.intro))<;>first|exact jZ.refl _ _|exact fun _ _=>kG.refl _ _|exact cN rfl|exact ja _ _|exact cZ _ _|(with_reducible assumption)|omega|with_reducible rfl|(simp only[cM];omega)|(intro j hj;exact absurd hj (cT _))|exact lssZ q16|exact(lssZ q16).symm|exact gtrZ q16 q19|exact(gtrZ q16 q19).symm|exact eqlZ q16 q19|exact(eqlZ q16 q19).symm|exact cJ (fun h=>h rfl)|rfl)
  ·skip
   have p19:=ko q19;refine ug (czt2 a b) (hR _ rfl) hA (by (repeat' (first|exact trivial|apply And.intro))<;>first|exact jZ.refl _ _|exact fun _ _=>kG.refl _ _|exact cN rfl|exact ja _ _|exact cZ _ _|(with_reducible assumption)|omega|with_reducible rfl|(simp only[cM];omega)|(intro j hj;exact absurd hj (cT _))|exact lssZ q16|exact(lssZ q16).symm|exact gtrZ q16 q19|exact(gtrZ q16 q19).symm|exact eqlZ q16 q19|exact(eqlZ q16 q19).symm|exact cJ (fun h=>h rfl)|rfl)
def conCz:Con
 |[.one (.lit (.int .i64 a)),.one (.lit (.int .i64 b))]=>some (vr (.int .i64 (JV a b)),[])
 |_=>none
theorem cpd {lo:Nat}{w0:World}(hN:jD) (hG:Gr w0) (hlo:lo<=w0.heap.size):∀ l r ob,conCz l=some (r,ob)->jC ob->jQ (Cx false lo w0) (.call 89) l r:=by
 intro l r ob h ho;unfold conCz at h;split at h
 ·injection h with h;injection h with h1 h2;subst h1;subst h2
  exact(cz_ok hN _ _).val hG hlo (jg Tryz.func89 (by kernel_rfl) rfl)
 ·cases h
abbrev fz (i:Int):List (Grp Dx):=[.lit (ii i)]
abbrev pZ2 (lo:Nat) (a b:Int):Pat Dx:=.one (.cls (.ls (lst lo 3 1 [a,b] fz)))
abbrev orI (lo:Nat) (a b:Int) (i:Nat):St Dx:=⟨1,[(3,.val (.one (.lit (ii 0)))),(6,.val (.one (.sym 0 0))),(7,.val (.one (.lit (ii 2)))),(8,.val (.one (.lit (ii (i:Int)))))],[(0,.cls (.ls (lst lo 3 1 [a,b] fz)))],[]⟩
theorem ora {w:World}(lo:Nat) (a b:Int):run w ⟨[],[],[]⟩ 88 18 kOr88_ (stA [pZ2 lo a b]) (orI lo a b 0)=some (.normal,[sD w (.ls (lst lo 3 1 [a,b] fz)),ii 0=Value.int IntKind.i64 0,ii 2=goInt (↑[a,b].length:Int),ii (↑0:Int)=Value.int IntKind.i64 0]):=by kernel_rfl
theorem ore {w:World}(lo:Nat) (a b:Int) (i:Nat):runR w ⟨[],[],[]⟩ 88 18 Tryz.f88 kOr88_nt (orI lo a b i) (rI 0)=some (.ret,[Value.int IntKind.i64 0=ii 0]):=by kernel_rfl
theorem or_at {a b:Int}{i:Nat}(hi:i<2) (hb:∀ k,k<i->([a,b]:List Int).getD k default=0) (h:([a,b]:List Int).getD i default≠0):orZ a b=([a,b]:List Int).getD i default:=by
 unfold orZ
 match i,hi with
 |0,_=>rw[cg (show ¬ a=0 from h)];rfl
 |1,_ =>
  have:a=0:=hb 0 (by omega);rw[co this];rfl
theorem or_end {a b:Int}(hb:∀ k,k<2->([a,b]:List Int).getD k default=0):orZ a b=0:=by
 unfold orZ;rw[co (show a=0 from hb 0 (by omega))];exact hb 1 (by omega)
noncomputable abbrev orbTe0 (w:World) (l0:Nat) (a b:Int) (i:Nat) (o:List (Nat×Nat×Bool)):=run w ⟨o,[],[]⟩ 88 18 kOr88_nl (orI l0 a b i) (orI l0 a b i)
noncomputable abbrev orbTnal (w:World) (l0:Nat) (a b:Int) (i:Nat) (o:List (Nat×Nat×Bool)):=run w ⟨o,[],[]⟩ 88 18 kOr88_nl (orI l0 a b i) (orI l0 a b (i+1))
noncomputable abbrev orbR (w:World) (l0:Nat) (a b:Int) (i:Nat) (o:List (Nat×Nat×Bool)):=runR w ⟨o,[],[]⟩ 88 18 Tryz.f88 kOr88_nl (orI l0 a b i) (rI (orZ a b))
theorem orb0 {w:World}(l0:Nat) (a b:Int) (i:Nat):orbR w l0 a b i [(88,9,true),(88,14,true)]=some (.ret,[decide ((i:Int)<2)=true,i<[a,b].length,i<[a,b].length,decide ([a,b].getD i default≠0)=true,Value.int IntKind.i64 (orZ a b)=ii ([a,b].getD i default)]):=by kernel_rfl
theorem orb1 {w:World}(l0:Nat) (a b:Int) (i:Nat):orbTnal w l0 a b i [(88,9,true),(88,14,false)]=some (.normal,[decide ((i:Int)<2)=true,i<[a,b].length,i<[a,b].length,decide ([a,b].getD i default≠0)=false,Gc ((i:Int)+1),sD w (.ls (lst l0 3 1 [a,b] fz)),ii 0=ii 0,ii 2=ii 2,ii (↑(i+1):Int)=Value.int IntKind.i64 ((i:Int)+1)]):=by kernel_rfl
theorem orb2 {w:World}(l0:Nat) (a b:Int) (i:Nat):orbTe0 w l0 a b i [(88,9,false)]=some (.exit 0,[decide ((i:Int)<2)=false,sD w (.ls (lst l0 3 1 [a,b] fz)),ii 0=ii 0,ii 2=ii 2,eA (ii (i:Int))]):=by kernel_rfl
theorem or_ok (hN:jD) (l0:Nat) (a b:Int):Es 88 [pZ2 l0 a b] (fun _=>rI (orZ a b)):=by
 intro w vs hG hp;refine Em hG hN (ex:=[]) kU (fn:=Tryz.f88) Tryz.func88 (c:=codeOf Tryz.f88) (by kernel_rfl) (args:=[pZ2 l0 a b]) (by kernel_rfl) hp (fun hR _ hA=>?_);refine uW (ora l0 a b) (hR _ rfl) hA (fun a1 w1 hA=>Jz ?_);refine Gx (fun i=>orI l0 a b i) (fun i=>i<=2/\∀ k,k<i->([a,b]:List Int).getD k default=0) (fun i=>2-i) (L:=kOr88_n) (ks:=kOr88_nt) (id:=0) (c:=CL kOr88_n) (by kernel_rfl) 0 ⟨ju _,by omega⟩ hA (fun i a2 w2 hi hA=>?_);rcases kM (decide ((i:Int)<2)) with q9|q9
 ·skip
  have p9:=jV q9;rcases kM (decide (([a,b]:List Int).getD i default≠0)) with q14|q14
  ·skip
   have p14:=jV q14;have e0:=cX (Value.int .i64) (or_at (a:=a) (b:=b) (i:=i) (by omega) hi.2 p14);refine ug (orb0 l0 a b i) (hR _ rfl) hA (by (repeat' (first|exact trivial|apply And.intro))<;>first|exact jZ.refl _ _|exact fun _ _=>kG.refl _ _|exact cN rfl|exact ja _ _|exact cZ _ _|(with_reducible assumption)|omega|with_reducible rfl|(simp only[cM];omega)|(intro j hj;exact absurd hj (cT _))|exact(show i<2 by omega)|exact e0|exact e0.symm|rfl)
  ·skip
   have p14:=ko q14;refine uW (orb1 l0 a b i) (hR _ rfl) hA (fun aT wT hT=>?_) (by (repeat' (first|exact trivial|apply And.intro))<;>first|exact jZ.refl _ _|exact fun _ _=>kG.refl _ _|exact cN rfl|exact ja _ _|exact cZ _ _|(with_reducible assumption)|omega|with_reducible rfl|(simp only[cM];omega)|(intro j hj;exact absurd hj (cT _))|exact(show i<2 by omega)|exact e0|exact e0.symm|rfl);exact kZ (by kernel_rfl) ⟨i+1,⟨by omega,fun k hk=>by rcases Nat.lt_succ_iff_lt_or_eq.1 hk with h|rfl;exact hi.2 k h;simpa using p14⟩,hT,by omega⟩
 ·skip
  have p9:=ko q9;refine uW (orb2 l0 a b i) (hR _ rfl) hA (fun aT wT hT=>?_) (by (repeat' (first|exact trivial|apply And.intro))<;>first|exact jZ.refl _ _|exact fun _ _=>kG.refl _ _|exact cN rfl|exact ja _ _|exact cZ _ _|(with_reducible assumption)|omega|with_reducible rfl|(simp only[cM];omega)|(intro j hj;exact absurd hj (cT _))|exact(show i<2 by omega)|exact e0|exact e0.symm|rfl);refine zH _ (by kernel_rfl) ?_;rw[or_end (a:=a) (b:=b) (fun k hk=>hi.2 k (by omega))];exact ug (ore l0 a b i) (hR _ rfl) hT
theorem slc_z {lo lo' ty:Nat}{w0 w0' w:World}{a b:Int}{v:Value}(h:Pat.is (Cx false lo w0) w (.slc ty 2 [.lit (ii a),.lit (ii b)]) v):Pat.is (Cx false lo' w0') w (.one (.cls (.ls (lst 0 ty 1 [a,b] fz)))) v:=by
 obtain⟨k,o,c,arr,pre,vs,rest,rfl,h1,h2,h3,h4,h5⟩:=h;obtain⟨q1,q2,q3⟩:=h4;have q1:vs.take 1=[ii a]:=q1;have q2:(vs.drop 1).take 1=[ii b]:=q2;have q3:(vs.drop 1).drop 1=[]:=q3;have e:vs=[ii a,ii b]:=by
  rw[← kj 1 vs,q1,← kj 1 (vs.drop 1),q2,q3];rfl
 subst e;refine DIs.ls k o c arr pre _ rest h5 ⟨_,h1⟩ h2 h3 (by simp [lst]) (ju _) (fun v hv=>?_) (fun j hj=>?_)
 ·simp at hv;rcases hv with rfl|rfl<;>rfl
 ·have hj:j<2:=hj
  match j,hj with
  |0,_=>exact .lit .nil
  |1,_=>exact .lit .nil
def conOr:Con
 |[.slc 3 2 [.lit (.int .i64 a),.lit (.int .i64 b)]]=>some (vr (.int .i64 (orZ a b)),[])
 |_=>none
theorem cnS {lo:Nat}{w0:World}(hN:jD) (hG:Gr w0) (hlo:lo<=w0.heap.size):∀ l r ob,conOr l=some (r,ob)->jC ob->jQ (Cx false lo w0) (.call 88) l r:=by
 intro l r ob h ho;unfold conOr at h;split at h
 ·injection h with h;injection h with h1 h2;subst h1;subst h2
  refine cbT ((or_ok hN 0 _ _).val hG hlo (jg Tryz.func88 (by kernel_rfl) rfl)) (fun w vs hv=>?_);obtain⟨v,_,rfl,h1,h2⟩:=hv;exact⟨v,_,rfl,slc_z h1,h2⟩
 ·cases h
abbrev fn1 (i:Nat):List (Grp Dx):=[.lit (ii (i:Int))]
abbrev pAg (lo:Nat) (s:R2) (U:List Nat) (d:Bool):Pat Dx:=.agg [.cls (.q s.1 4),.cls (.q s.2 4),.cls (.ls (lst lo 3 1 U fn1)),.lit (.bool d)]
abbrev exCp:List (Nat×Con):=[(89,conCz),(88,conOr)]
theorem exCp_ok {lo:Nat}{w0:World}(hN:jD) (hG:Gr w0) (hlo:lo<=w0.heap.size):CI false lo w0 exCp:=jG (cpd hN hG hlo) (jG (cnS hN hG hlo) kU)
noncomputable abbrev cptR (w:World) (l0 l1:Nat) (s t:R2) (U V:List Nat) (d d':Bool) (o:List (Nat×Nat×Bool)):=runR w ⟨o,[],exCp⟩ 43 21 Tryz.f43 kcompare43_ (stA [pAg l0 s U d,pAg l1 t V d']) (rI (orZ (JV U.length V.length) (kd s.2 t.2)))
theorem cpt0 {w:World}(l0 l1:Nat) (s t:R2) (U V:List Nat) (d d':Bool):cptR w l0 l1 s t U V d d' []=some (.ret,[4+4<=1000000,eA (Value.int IntKind.i64 (orZ (JV (U.length:Int) (V.length:Int)) (kd s.2 t.2)))]):=by kernel_rfl
theorem cp_ok (hN:jD) (l0 l1:Nat) (s t:R2) (U V:List Nat) (d d':Bool):Es 43 [pAg l0 s U d,pAg l1 t V d'] (fun _=>rI (orZ (JV U.length V.length) (kd s.2 t.2))):=by
 intro w vs hG hp;refine Em hG hN (ex:=exCp) (exCp_ok hN hG (cb _)) (fn:=Tryz.f43) Tryz.func43 (c:=codeOf Tryz.f43) (by kernel_rfl) (args:=[pAg l0 s U d,pAg l1 t V d']) (by kernel_rfl) hp (fun hR _ hA=>?_);refine ug (cpt0 l0 l1 s t U V d d') (hR _ rfl) hA
end Pe.F
namespace Pe.F
noncomputable def kagreed42_:List Kp:=[.code (codeOf Tryz.f42)]
noncomputable def kagreed42_n:List Kp:=next kagreed42_
noncomputable def kagreed42_nl:List Kp:=[.code (CL kagreed42_n)]
noncomputable def kagreed42_nt:List Kp:=kagreed42_n.tail
def cgT:Con
 |[.agg [.cls (.q a j),.cls (.q b k)],.agg [.cls (.q x m)]]=>some (vr (.bool (kT (a,b) x)),[a<=b,j+k+m<=1000000])
 |_=>none
theorem cdk {bb:Bool}{lo:Nat}{w0:World}:∀ l r ob,cgT l=some (r,ob)->jC ob->jQ (Cx bb lo w0) (.call 31) l r:=by
 intro l res ob h ho;unfold cgT at h;split at h
 ·rename_i a j b k x m;injection h with h;injection h with h1 h2;subst h1;subst h2
  obtain⟨hab,hk,_⟩:=ho;refine⟨jg Tryz.func31 (by kernel_rfl) rfl,fun w vs hb hvs=>?_⟩;obtain⟨v1,_,rfl,h1,v2,_,rfl,h2,rfl⟩:=hvs;obtain⟨h1,z1,z2⟩:=cgb (x:=a) (y:=b) (j:=j) (k:=k) rfl h1;obtain⟨h2,z3⟩:=cci (r:=x) (k:=m) rfl h2;refine(ckJ v1 v2 a b x (j+k+m) w h1 h2 (z1.le (by omega)) (z2.le (by omega)) (z3.le (by omega)) (by omega)).mono fun _ _ h=>?_;have e:zR a b x=kT (a,b) x:=by unfold zR kT;rw[ckf hab,cfN hab]
  rw[e] at h;exact ckV h
 ·cases h
def conMe:Con
 |[.agg [.cls (.q a 4),.cls (.q b 4)],.agg [.cls (.q c 4),.cls (.q d 4)]]=>some (KK [pS (mx a c) 4 (mn b d) 4,.one (.lit (.bool true))],[a<=b,c<=d,mx a c<=mn b d])
 |_=>none
theorem coq {lo:Nat}{w0:World}(hN:jD) (hG:Gr w0) (hlo:lo<=w0.heap.size):∀ l r ob,conMe l=some (r,ob)->jC ob->jQ (Cx false lo w0) (.call 87) l r:=by
 intro l r ob h ho;unfold conMe at h;split at h
 ·injection h with h;injection h with h1 h2;subst h1;subst h2
  exact me_ent hN hG hlo ho.1 ho.2.1 ho.2.2.1
 ·cases h
abbrev exAg:List (Nat×Con):=[(31,cgT),(87,conMe)]
theorem exAg_ok {lo:Nat}{w0:World}(hN:jD) (hG:Gr w0) (hlo:lo<=w0.heap.size):CI false lo w0 exAg:=jG cdk (jG (coq hN hG hlo) kU)
abbrev agI (l0:Nat) (x zl zh:Rat) (L:List R2) (U:List Nat) (c i:Nat):St Dx:=⟨8,[(2,.val (.one (.sym 0 0))),(3,.val (.one (.ptr 4 0))),(6,.val (.one (.ptr 5 0))),(7,.val (.one (.ptr 6 0))),(12,.val (.one (.sym 0 0))),(13,.val (.one (.lit (ii (L.length:Int))))),(14,.val (.one (.lit (ii (i:Int)))))],[(0,.cls (.ls (lst l0 36 8 L fQ))),(1,.cls (.q x 4)),(2,.cls (.q zl 4)),(3,.cls (.q zh 4)),(4,.blk 34 [.sym 1 0,.sym 1 1,.sym 1 2,.sym 1 3] none),(5,.blk 46 [.lit (.bool false),.lit (.int .u64 0),.lit (.int .u64 0),.lit (.pointer none),.lit (.bool false),.lit (.int .u64 0),.lit (.int .u64 0),.lit (.pointer none),.lit (.slice none 0 0),.lit (.bool false)] none),(6,.blk 46 [.sym 2 0,.sym 2 1,.sym 2 2,.sym 2 3,.sym 3 0,.sym 3 1,.sym 3 2,.sym 3 3,.fn 7,.lit (.bool false)] none),(7,.gl 3 1 c (fun j=>fn1 (U.getD j default)))],[]⟩
theorem aga {w:World}(l0:Nat) (x:Rat) (e:R2) (L:List R2) (U:List Nat):run w ⟨[],[],exAg⟩ 42 45 kagreed42_ (stA [pQ x 4,pS e.1 4 e.2 4,pSl l0 L]) (agI l0 x e.1 e.2 L U 0 0)=some (.normal,[sD w (.ls (lst l0 36 8 L fQ)),sD w (.q x 4),sD w (.q e.1 4),sD w (.q e.2 4)]++(zV++(zV++[eA (Value.slice none 0 0),eA (Value.bool false),eA (Value.bool false),0=0,0=0,0=0,0=0,ii (L.length:Int)=goInt (L.length:Int),ii (↑0:Int)=Value.int IntKind.i64 0]))):=by kernel_rfl
theorem agb1 {w:World}(l0:Nat) (x zl zh:Rat) (L:List R2) (U:List Nat) (c i:Nat):run w ⟨[(42,15,true),(42,21,true)],[(42,34)],exAg⟩ 42 45 kagreed42_nl (agI l0 x zl zh L U c i) (agI l0 x (mx zl (L.getD i default).1) (mn zh (L.getD i default).2) L U (c+1) (i+1))=some (.normal,[decide ((i:Int)<(L.length:Int))=true,i<L.length,i<L.length,kT ((L.getD i default).1,(L.getD i default).2) x=true,(L.getD i default).1<=(L.getD i default).2,4+4+4<=1000000,zl<=zh,(L.getD i default).1<=(L.getD i default).2,mx zl (L.getD i default).1<=mn zh (L.getD i default).2,c+1<=1000000,Gc ((i:Int)+1),sD w (.ls (lst l0 36 8 L fQ)),sD w (.q x 4),sD w (.q (mx zl (L.getD i default).1) 4),sD w (.q (mn zh (L.getD i default).2) 4)]++(zV++(zV++[eA (Value.slice none 0 0),eA (Value.bool false),eA (Value.bool false),c+1=c+1,sN w c (fun j=>fn1 (U.getD j default)) [Grp.lit (ii (i:Int))],0=0,0=0,0=0,eA (ii (L.length:Int)),ii (↑(i+1):Int)=Value.int IntKind.i64 ((i:Int)+1)]))):=by kernel_rfl
theorem agb2 {w:World}(l0:Nat) (x zl zh:Rat) (L:List R2) (U:List Nat) (c i:Nat):run w ⟨[(42,15,true),(42,21,false)],[],exAg⟩ 42 45 kagreed42_nl (agI l0 x zl zh L U c i) (agI l0 x zl zh L U c (i+1))=some (.normal,[decide ((i:Int)<(L.length:Int))=true,i<L.length,i<L.length,kT ((L.getD i default).1,(L.getD i default).2) x=false,(L.getD i default).1<=(L.getD i default).2,4+4+4<=1000000,Gc ((i:Int)+1),sD w (.ls (lst l0 36 8 L fQ)),sD w (.q x 4),sD w (.q zl 4),sD w (.q zh 4)]++(zV++(zV++[eA (Value.slice none 0 0),eA (Value.bool false),eA (Value.bool false),c=c,sG w c (fun j=>fn1 (U.getD j default)),0=0,0=0,0=0,eA (ii (L.length:Int)),ii (↑(i+1):Int)=Value.int IntKind.i64 ((i:Int)+1)]))):=by kernel_rfl
theorem agc {w:World}(l0:Nat) (x zl zh:Rat) (L:List R2) (U:List Nat) (c i:Nat):run w ⟨[(42,15,false)],[],exAg⟩ 42 45 kagreed42_nl (agI l0 x zl zh L U c i) (agI l0 x zl zh L U c i)=some (.exit 0,[decide ((i:Int)<(L.length:Int))=false,sD w (.ls (lst l0 36 8 L fQ)),sD w (.q x 4),sD w (.q zl 4),sD w (.q zh 4)]++(zV++(zV++[eA (Value.slice none 0 0),eA (Value.bool false),eA (Value.bool false),c=c,sG w c (fun j=>fn1 (U.getD j default)),0=0,0=0,0=0,eA (ii (L.length:Int)),eA (ii (i:Int))]))):=by kernel_rfl
theorem agd1 {w:World}(l0:Nat) (x zl zh:Rat) (L:List R2) (U:List Nat) (i:Nat):runR w ⟨[(42,42,true)],[],exAg⟩ 42 45 Tryz.f42 kagreed42_nt (agI l0 x zl zh L U U.length i) [pAg w.heap.size (zl,zh) U true]=some (.ret,[decide ((U.length:Int)<(L.length:Int))=true,sD w (.q zl 4),sD w (.q zh 4),jZ (W0 w) (.ls (lst w.1.size 3 1 U fn1)) (.ls { lo:=w.1.size,ty:=3,z:=1,n:=U.length,g:=fun(j:Nat)=>fn1 (U.getD j default) }),eA (Value.bool true),kS (W0 w) (.q zl 4),kS (W0 w) (.q zh 4),kS (W0 w) (.ls (lst w.1.size 3 1 U fn1))]):=by kernel_rfl
theorem agd2 {w:World}(l0:Nat) (x zl zh:Rat) (L:List R2) (U:List Nat) (i:Nat):runR w ⟨[(42,42,false)],[],exAg⟩ 42 45 Tryz.f42 kagreed42_nt (agI l0 x zl zh L U U.length i) [pAg w.heap.size (zl,zh) U false]=some (.ret,[decide ((U.length:Int)<(L.length:Int))=false,sD w (.q zl 4),sD w (.q zh 4),jZ (W0 w) (.ls (lst w.1.size 3 1 U fn1)) (.ls { lo:=w.1.size,ty:=3,z:=1,n:=U.length,g:=fun(j:Nat)=>fn1 (U.getD j default) }),eA (Value.bool false),kS (W0 w) (.q zl 4),kS (W0 w) (.q zh 4),kS (W0 w) (.ls (lst w.1.size 3 1 U fn1))]):=by kernel_rfl
abbrev dA (L:List R2) (x:Rat):Bool:=decide ((nU L x:Int)<(L.length:Int))
theorem cns (hN:jD) (l0:Nat) (x:Rat) (e:R2) (L:List R2) (hl:L.length<=100000) (he:kT e x=true) (hL:∀ i,i<L.length->(L.getD i default).1<=(L.getD i default).2):Es 42 [pQ x 4,pS e.1 4 e.2 4,pSl l0 L] (fun lo=>[pAg lo (zS e L x L.length) (uS L x L.length) (dA L x)]):=by
 intro w vs hG hp;refine Em hG hN (ex:=exAg) (exAg_ok hN hG (cb _)) (fn:=Tryz.f42) Tryz.func42 (c:=codeOf Tryz.f42) (by kernel_rfl) (args:=[pQ x 4,pS e.1 4 e.2 4,pSl l0 L]) (by kernel_rfl) hp (fun hR _ hA=>?_);refine uW (aga l0 x e L (uS L x L.length)) (hR _ rfl) hA (fun a1 w1 hA=>Jz ?_);refine Gx (fun i=>agI l0 x (zS e L x i).1 (zS e L x i).2 L (uS L x L.length) (uS L x i).length i) (fun i=>i<=L.length) (fun i=>L.length-i) (L:=kagreed42_n) (ks:=kagreed42_nt) (id:=0) (c:=CL kagreed42_n) (by kernel_rfl) 0 (ju _) hA (fun i a2 w2 hi hA=>?_);rcases kM (decide ((i:Int)<(L.length:Int))) with q15|q15
 ·have p15:=jV q15;have hlt:i<L.length:=by omega
  have hu:=ceM (L:=L) (x:=x) i;have hf:=hL i hlt;rcases kM (kT (L.getD i default) x) with q21|q21
  ·have hz:=z_le (L:=L) he i;have hz2:=z_le (L:=L) he (i+1);rw[z_yes q21] at hz2;have hs:=cX fn1 (u_at hlt q21);refine uW (agb1 l0 x (zS e L x i).1 (zS e L x i).2 L (uS L x L.length) (uS L x i).length i) (hR _ rfl) hA (fun a3 w3 hA=>kZ (by kernel_rfl) ⟨i+1,hlt,?_,by omega⟩) (by (repeat' (first|exact trivial|apply And.intro))<;>first|exact jZ.refl _ _|exact fun _ _=>kG.refl _ _|exact cN rfl|exact ja _ _|exact cZ _ _|(with_reducible assumption)|omega|with_reducible rfl|(simp only[cM];omega)|(intro j hj;exact absurd hj (cT _))|exact q21|exact hf|exact hz|exact hz2|exact cN hs.symm|rfl);have hk:(uS L x (i+1)).length=(uS L x i).length+1:=by rw[cli q21];simp
   rw[z_yes q21,hk];exact hA
  ·refine uW (agb2 l0 x (zS e L x i).1 (zS e L x i).2 L (uS L x L.length) (uS L x i).length i) (hR _ rfl) hA (fun a3 w3 hA=>kZ (by kernel_rfl) ⟨i+1,hlt,?_,by omega⟩) (by (repeat' (first|exact trivial|apply And.intro))<;>first|exact jZ.refl _ _|exact fun _ _=>kG.refl _ _|exact cN rfl|exact ja _ _|exact cZ _ _|(with_reducible assumption)|omega|with_reducible rfl|(simp only[cM];omega)|(intro j hj;exact absurd hj (cT _))|exact q21|exact hf|rfl);rw[z_no q21,u_no q21];exact hA
 ·have p15:=ko q15;obtain rfl:i=L.length:=by omega
  refine uW (agc l0 x (zS e L x L.length).1 (zS e L x L.length).2 L (uS L x L.length) (uS L x L.length).length L.length) (hR _ rfl) hA (fun a3 w3 hA=>zH _ (by kernel_rfl) ?_);rcases kM (dA L x) with q42|q42
  ·rw[q42];exact ug (agd1 l0 x (zS e L x L.length).1 (zS e L x L.length).2 L (uS L x L.length) L.length) (hR _ rfl) hA (by (repeat' (first|exact trivial|apply And.intro))<;>first|exact jZ.refl _ _|exact fun _ _=>kG.refl _ _|exact cN rfl|exact ja _ _|exact cZ _ _|(with_reducible assumption)|omega|with_reducible rfl|(simp only[cM];omega)|(intro j hj;exact absurd hj (cT _))|exact q42|(refine cgt (cb _) ?_;intro j hj d hd;simp [lst,Ec] at hd)|rfl)
  ·rw[q42];exact ug (agd2 l0 x (zS e L x L.length).1 (zS e L x L.length).2 L (uS L x L.length) L.length) (hR _ rfl) hA (by (repeat' (first|exact trivial|apply And.intro))<;>first|exact jZ.refl _ _|exact fun _ _=>kG.refl _ _|exact cN rfl|exact ja _ _|exact cZ _ _|(with_reducible assumption)|omega|with_reducible rfl|(simp only[cM];omega)|(intro j hj;exact absurd hj (cT _))|exact q42|(refine cgt (cb _) ?_;intro j hj d hd;simp [lst,Ec] at hd)|rfl)
theorem cct {lo l0:Nat}{w0:World}{x:Rat}{e:R2}{L:List R2}(hN:jD) (hG:Gr w0) (hlo:lo<=w0.heap.size) (hl:L.length<=100000) (he:kT e x=true) (hL:∀ i,i<L.length->(L.getD i default).1<=(L.getD i default).2):jQ (Cx false lo w0) (.call 42) [pQ x 4,pS e.1 4 e.2 4,pSl l0 L] (KK [pAg lo (zS e L x L.length) (uS L x L.length) (dA L x)]) :=
 (cns hN l0 x e L hl he hL).ent hG hlo (jg Tryz.func42 (by kernel_rfl) rfl) (fun hi h=>⟨_,rfl,jZ.refl _ _,jZ.refl _ _,sub_lo (L:=lst lo _ 1 _ fn1) h,rfl,trivial⟩)
end Pe.F
end Go.Proofs.YtgdnkbajagfijaaGreatDoor
