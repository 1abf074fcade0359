/- Part 5. -/
import Derived.Test.YtcgiaclelnmhbabGreatDoorE4
import Derived.RangeFuncIn
set_option linter.all false
noncomputable section

namespace Go.Proofs.YtcgiaclelnmhbabGreatDoor
open Go Go.RowKit Go.Proofs
namespace Pe
variable {D:Type}
inductive Xt where
 |normal
 |exit (id:Nat)
 |ret
def Xt.to:Xt->Exit
 |.normal=>.normal
 |.exit id=>.exit id
 |.ret=>.ret
abbrev Ran (D:Type):=Option (Xt×St D×List Prop)
def Gh (f:St D->Ran D):Nat->St D->Ran D
 |0,_=>none
 |n+1,st=>match f st with
  |some (.normal,st',ob)=>match Gh f n st' with
   |some (x,st2,ob2)=>some (x,st2,ob++ob2)
   |none=>none
  |r=>r
def Ua (CF:cz D) (nt:Nat) (base:ct D) (fid:FuncId) (ps:List Nat) (assign body:Code) (f:FuncId) (pre cap:List A1) (st:St D):Ran D :=
 match CF (over base (jK [(st.nb+1,.loop nt st.sl ps fid assign body .ready)] (jK [(st.nb,.mark)] st.m))) (st.nb+1+1) f (jU pre++([.val (.one (.yld (st.nb+1)))]++jU cap)) with
 |some t=>match over base (jK t.ws (jK [(st.nb+1,.loop nt st.sl ps fid assign body .ready)] (jK [(st.nb,.mark)] st.m))) (st.nb+1) with
  |some (.loop _ _ _ _ _ _ .ready)=>some (.normal,⟨t.n1,st.sl,jK [(st.nb+1,.dead)] (jK t.ws (jK [(st.nb+1,.loop nt st.sl ps fid assign body .ready)] (jK [(st.nb,.mark)] st.m))),st.nb::st.ms⟩,t.ob)
  |some (.loop _ _ _ _ _ _ (.done .ret))=>some (.ret,⟨t.n1,st.sl,jK [(st.nb+1,.dead)] (jK t.ws (jK [(st.nb+1,.loop nt st.sl ps fid assign body .ready)] (jK [(st.nb,.mark)] st.m))),st.nb::st.ms⟩,t.ob)
  |some (.loop _ _ _ _ _ _ (.done (.exit id)))=>some (.exit id,⟨t.n1,st.sl,jK [(st.nb+1,.dead)] (jK t.ws (jK [(st.nb+1,.loop nt st.sl ps fid assign body .ready)] (jK [(st.nb,.mark)] st.m))),st.nb::st.ms⟩,t.ob)
  |_=>none
 |none=>none
def Eh (S:Stat D) (TT:FuncId->Tab D) (CF YF:cz D) (nt:Nat) (base:ct D) (fid:FuncId) (inR:Bool):Nat->Code->St D->Ran D
 |0,_,_=>none
 |n+1,c,st=>match c with
  |.skip=>some (.normal,st,[])
  |.label _=>some (.normal,st,[])
  |.exit id=>some (.exit id,st,[])
  |.ret=>some (.ret,st,[])
  |.region _ ops draw=>match (match draw with
   |true=>KD S (TT fid) CF YF nt base ops.toList st
   |false=>GF S (TT fid) CF YF nt base ops.toList ops.toList st) with
   |some (st',ob)=>some (.normal,st',ob)
   |none=>none
  |.seq x y=>match Eh S TT CF YF nt base fid inR n x st with
   |some (.normal,st',ob)=>match Eh S TT CF YF nt base fid inR n y st' with
    |some (x2,st2,ob2)=>some (x2,st2,ob++ob2)
    |none=>none
   |r=>r
  |.cond x c d=>match lit? (CV (fun t=>find t st.sl) x) with
   |some (.bool true)=>Eh S TT CF YF nt base fid inR n c st
   |some (.bool false)=>Eh S TT CF YF nt base fid inR n d st
   |_=>none
  |.block id c=>match Eh S TT CF YF nt base fid inR n c st with
   |some (.exit j,st',ob)=>match Nat.beq j id with
    |true=>some (.normal,st',ob)
    |false=>some (.exit j,st',ob)
   |r=>r
  |.loop c=>Gh (fun st=>Eh S TT CF YF nt base fid inR n c st) n st
  |.rangeFunc g ps assign body=>match inR with
   |true=>none
   |false=>match CV (fun t=>find t st.sl) g with
    |some (.val (.one (.lit (.func (.func f) ⟨[]⟩ ⟨[]⟩))))=>Ua CF nt base fid ps.toList assign body f [] [] st
    |some (.val (.one (.fn k)))=>match over base st.m k with
     |some (.clo f pre cap)=>Ua CF nt base fid ps.toList assign body f pre cap st
     |_=>none
    |_=>none
  |_=>none
section
variable {S:Stat D}{T:Tab D}{TT:FuncId->Tab D}{CF YF:cz D}{nt:Nat}{base:ct D}{fid:FuncId}{inR:Bool}
theorem Uc {f:St D->Ran D}(hf:∀ st x st' ob,f st=some (x,st',ob)->st.nb<=st'.nb):∀ (n:Nat) (st:St D) (x:Xt) (st':St D) (ob:List Prop),Gh f n st=some (x,st',ob)->st.nb<=st'.nb
 |0,st,x,st',ob,h=>by simp [Gh] at h
 |n+1,st,x,st',ob,h=>by
  unfold Gh at h;split at h
  ·rename_i st1 ob1 h1;split at h
   ·rename_i x2 st2 ob2 h2;injection h with h;simp only[co] at h
    obtain⟨rfl,rfl,rfl⟩:=h;exact cB (hf _ _ _ _ h1) (Uc hf n _ _ _ _ h2)
   ·cases h
  ·exact hf _ _ _ _ h
theorem ces (hF:CF.Mono) (hYF:YF.Mono) {ops:List Oper}{st st':St D}{ob:List Prop}(h:KD S T CF YF nt base ops st=some (st',ob)):st.nb<=st'.nb:=by
 unfold KD at h;split at h
 ·cases h
 ·split at h
  ·cases h
  ·rename_i W n ob' hgo;split at h
   ·cases h
   ·split at h
    ·injection h with h;injection h with h h'
     subst h;exact(Gn hF hYF hgo rfl).2.2.1
    ·cases h
theorem Ui (hF:CF.Mono) {ps:List Nat}{assign body:Code}{f:FuncId}{pre cap:List A1}{st st':St D}{x:Xt}{ob:List Prop}(h:Ua CF nt base fid ps assign body f pre cap st=some (x,st',ob)):st.nb<=st'.nb:=by
 unfold Ua at h;split at h
 ·rename_i t ht;have:=hF _ _ _ _ _ ht;split at h
  all_goals first
   |(injection h with h;simp only[co] at h;obtain⟨rfl,rfl,rfl⟩:=h;show st.nb<=t.n1;omega)
   |cases h
 ·cases h
theorem kd (hF:CF.Mono) (hYF:YF.Mono):∀ (n:Nat) (c:Code) (st:St D) (x:Xt) (st':St D) (ob:List Prop),Eh S TT CF YF nt base fid inR n c st=some (x,st',ob)->st.nb<=st'.nb
 |0,c,st,x,st',ob,h=>by simp [Eh] at h
 |n+1,c,st,x,st',ob,h=>by
  unfold Eh at h;split at h
  ·injection h with h;simp only[co] at h;rw[h.2.1];exact cb _
  ·injection h with h;simp only[co] at h;rw[h.2.1];exact cb _
  ·injection h with h;simp only[co] at h;rw[h.2.1];exact cb _
  ·injection h with h;simp only[co] at h;rw[h.2.1];exact cb _
  ·split at h
   ·rename_i st1 ob1 h1;injection h with h;simp only[co] at h
    obtain⟨rfl,rfl,rfl⟩:=h;split at h1
    ·exact ces hF hYF h1
    ·exact KM hF hYF h1
   ·cases h
  ·split at h
   ·rename_i st1 ob1 h1;split at h
    ·rename_i x2 st2 ob2 h2;injection h with h;simp only[co] at h
     obtain⟨rfl,rfl,rfl⟩:=h;exact cB (kd hF hYF n _ _ _ _ _ h1) (kd hF hYF n _ _ _ _ _ h2)
    ·cases h
   ·exact kd hF hYF n _ _ _ _ _ h
  ·split at h
   ·exact kd hF hYF n _ _ _ _ _ h
   ·exact kd hF hYF n _ _ _ _ _ h
   ·cases h
  ·split at h
   ·rename_i j st1 ob1 h1;split at h
    ·injection h with h;simp only[co] at h
     obtain⟨rfl,rfl,rfl⟩:=h;exact kd hF hYF n _ _ _ _ _ h1
    ·injection h with h;simp only[co] at h
     obtain⟨rfl,rfl,rfl⟩:=h;exact kd hF hYF n _ _ _ _ _ h1
   ·exact kd hF hYF n _ _ _ _ _ h
  ·exact Uc (fun st x st' ob h=>kd hF hYF n _ st x st' ob h) n _ _ _ _ h
  ·split at h
   ·cases h
   ·split at h
    ·exact Ui hF h
    ·split at h
     ·exact Ui hF h
     ·cases h
    ·cases h
  ·cases h
end
section
variable {F:Fence}{m:Nat}
variable {C:Ctx D}{e0:Env}{w0:World}{TT:FuncId->Tab D}{CF YF:cz D}{n0 nt:Nat}{base:ct D}{fid:FuncId}{inR:Bool}
def WR (C:Ctx D) (nt:Nat) (e0:Env) (w0:World) (n0:Nat) (x:Xt) (st:St D):Exit->Act->World->Prop:=fun e a w=>e=x.to/\Sat C nt e0 w0 n0 st a w
theorem KL (hW:Wd F) {c:Code}{f:St D->Ran D}{B:Nat}(hle:∀ st x st' ob,f st=some (x,st',ob)->st.nb<=st'.nb) (hf:∀ st x st' ob,f st=some (x,st',ob)->cX ob->st'.nb<=B->∀ a w,Sat C nt e0 w0 n0 st a w->c.wpIn F m C.P (WR C nt e0 w0 n0 x st') a w) :
 ∀ (n:Nat) (st:St D) (x:Xt) (st':St D) (ob:List Prop),Gh f n st=some (x,st',ob)->cX ob->st'.nb<=B->∀ a w,Sat C nt e0 w0 n0 st a w->x≠.normal/\∀ (b:Frame) (k:List Item) (cs:List Frame),b.roundOf=F.round->
  ∃ e a' w',WR C nt e0 w0 n0 x st' e a' w'/\ArrivesIn (Machine.fenced C.P F) C.P (lone (b.atR a (.code c::.inLoop c::k)) cs w) b k cs e a' w'
 |0,st,x,st',ob,h,ho,hB,a,w,hs=>by simp [Gh] at h
 |n+1,st,x,st',ob,h,ho,hB,a,w,hs=>by
  unfold Gh at h;split at h
  ·rename_i st1 ob1 h1;split at h
   ·rename_i x2 st2 ob2 h2;injection h with h;simp only[co] at h
    obtain⟨rfl,rfl,rfl⟩:=h;obtain⟨ho1,ho2⟩:=ho.append;have hle2:=Uc hle n _ _ _ _ h2;have hb:=hf _ _ _ _ h1 ho1 (cB hle2 hB) a w hs;constructor
    ·obtain⟨e,a₁,w₁,⟨rfl,hq⟩,harr⟩:=hb { (default:Frame) with roundOf:=F.round } [] [] rfl (hW.fn _) (hW.room _);exact(KL hW hle hf n st1 x2 st2 ob2 h2 ho2 hB a₁ w₁ hq).1
    ·intro b k cs hbr;obtain⟨e,a₁,w₁,⟨rfl,hq⟩,harr⟩:=hb b (.inLoop c::k) cs hbr (hW.fn _) (hW.room _);obtain⟨e₂,a₂,w₂,hq₂,harr₂⟩:=(KL hW hle hf n st1 x2 st2 ob2 h2 ho2 hB a₁ w₁ hq).2 b k cs hbr;exact⟨e₂,a₂,w₂,hq₂,.of_steps (StepsIn.trans harr (.one (fenced_calm (n:=m) (hW.fn _) (hW.room _) rfl) stepR_inLoop)) harr₂⟩
   ·cases h
  ·rename_i hne;have hb:=hf _ _ _ _ h ho hB a w hs;constructor
   ·intro hx;subst hx;exact hne st' ob h
   ·intro b k cs hbr;obtain⟨e,a₁,w₁,⟨rfl,hq⟩,harr⟩:=hb b (.inLoop c::k) cs hbr (hW.fn _) (hW.room _);cases x with
    |normal=>exact absurd h (hne st' ob)
    |exit id=>exact⟨_,a₁,w₁,⟨rfl,hq⟩,.pass (x:=.inLoop c) rfl (fun _ _=>.inl (by simp [Xt.to])) harr⟩
    |ret=>exact⟨_,a₁,w₁,⟨rfl,hq⟩,.pass (x:=.inLoop c) rfl (fun _ _=>.inl (by simp [Xt.to])) harr⟩
theorem cae (hC:C.Ok) (hF:CF.Ok C) (hFm:CF.Mono) (hb:cA C e0 w0 base) {B:Nat}(hfree:jC n0 B e0) {g:Operand}{ps:Array Nat}{assign body:Code}{f:FuncId}{pre cap:List A1}{p q:List Value}{st st':St D}{x:Xt}{ob:List Prop}(h:Ua CF nt base fid ps.toList assign body f pre cap st=some (x,st',ob)) (ho:cX ob) (hB:st'.nb<=B)
 {a:Act} {w:World} {e:Env} (hL:jM C e0 w0 n0 st.nb st.m e w) (hV:cN e a (fun t=>find t st.sl)) (hmk:∃ rs,a.defers=rs.map uV/\Cq e st.ms rs) (hsz:a.tmps.size=nt) (hg:a.eval g=.func (.func f) p.toArray q.toArray) (hp:ke e pre p) (hq:ke e cap q) :
 (Code.rangeFunc g ps assign body).wpIn Fence.wide m C.P (WR C nt e0 w0 n0 x st') a w:=by
 have hle:=Ui hFm h;unfold Ua at h;split at h
 rotate_left
 ·cases h
 rename_i t hcall;have hn1:=hFm _ _ _ _ _ hcall;have hst:st'.nb=t.n1:=by
  split at h
  all_goals first
   |(injection h with h;simp only[co] at h;obtain⟨_,rfl,_⟩:=h;rfl)
   |cases h
 have hob:ob=t.ob:=by
  split at h
  all_goals first
   |(injection h with h;simp only[co] at h;obtain⟨_,_,rfl⟩:=h;rfl)
   |cases h
 have hfr:jC st.nb t.n1 e:=(hfree.new (hL.new.mono (cb _) (cb _)) hL.le).mono (cb _) (by omega);obtain⟨rs,hdf,hms⟩:=hmk;refine wpIn_rangeFunc (fun fn _=>?_)
 let W1:World:=w.alloc (.deferred (some []))
 let R:Loop:={ state:=.ready,pending:=none,fn,tmps:=a.tmps,params:=ps,assign,body,defers:=w.heap.size }
 let W2:World:=W1.alloc (.loop R)
 have hs1:W1.heap.size=w.heap.size+1:=by show (w.heap.push _).size=_;simp
 have hk1:W1.heap[w.heap.size]?=some (.deferred (some [])):=by show (w.heap.push _)[w.heap.size]?=_;simp
 obtain⟨e1,hL1,hρ1⟩:=ZL (ob:=.mark) hL.good (hfr.mono (cb _) (by omega)) ((cF _ w).alloc (cb _) _) (cb _) hk1 (.inr (.inr (.inl ⟨_,rfl⟩))) (fun e' _ h1 h2=>⟨_,h1,h2,hk1⟩);have hk2:W2.heap[W1.heap.size]?=some (.loop R):=by show (W1.heap.push _)[W1.heap.size]?=_;simp
 obtain⟨e2,hL2,_,hρ2⟩:=Jx (v:=.agg a.tmps) (ob:=.loop nt st.sl ps.toList fid assign body .ready) hL1.good ((hfr.mono (cb _) (by omega:st.nb+1+1<=t.n1)).new (hL1.new.mono (cb _) (cb _)) (by omega)) ((cF _ W1).alloc (cb _) _) (cb _) hk2 (.inr (.inl ⟨_,rfl⟩)) (fun e' hx h1 h2 h3=>⟨_,R,h1,h2,hk2,h3,(by simp [R]),rfl,rfl,hsz,fun tt y hy=>(by
  obtain⟨v,q1,q2⟩:=hV tt y hy;exact⟨v,q1,(q2.ext hL1.adv.ext).ext hx.ext⟩),rfl,rfl⟩)
 have hLL:=(hL.trans hL1).trans hL2;have hext:Ext e e2:=hL1.adv.ext.trans hL2.adv.ext;have hM:=kn hb hLL;have hyld:(AV.val (.one (.yld (st.nb+1)))).is e2 (.func (.yield W1.heap.size) #[] #[]):=⟨_,hρ2,rfl⟩;have hargs:kv e2 (jU pre++([.val (.one (.yld (st.nb+1)))]++jU cap)) (p++([.func (.yield W1.heap.size) #[] #[]]++q)) :=
  (ub (hp.ext hext)).append (kv.append (cs:=[_]) (vs:=[_]) ⟨_,_,rfl,hyld,rfl⟩ (ub (hq.ext hext)))
 have hfr2:jC (st.nb+1+1) t.n1 e2:=by
  have h1:=(hfr.new (hL1.new.mono (cb _) (cb _)) (by omega));exact h1.new (hL2.new.mono (cb _) (cb _)) (by omega)
 obtain⟨hen,hcalls⟩:=hF e2 W2 _ _ f _ _ t hM hLL.good hargs hcall hfr2 (by rw[← hob];exact ho);refine⟨W1.heap.size,[uV w.heap.size],W2,{ target:=.fn (.func f) q.toArray,args:=p.toArray++#[.func (.yield W1.heap.size) #[] #[]] },W2,f,p.toArray++#[.func (.yield W1.heap.size) #[] #[]]++q.toArray,W2,?_,?_,fun _ _=>trivial,?_,(fun hd=>nomatch hd),?_⟩
 ·have:=cdQ (P:=C.P) (w:=w) fn a.tmps ps assign body;rw[hs1];exact this
 ·simp [resolve,hg,Deferred.ofValue,show ∀ v,a.eval (.const v)=v from fun _=>rfl]
 ·have:=hen (p.toArray++#[.func (.yield W1.heap.size) #[] #[]]++q.toArray) W2;simpa [invoke] using this
 ·have hx:(p++([Value.func (.yield W1.heap.size) #[] #[]]++q)).toArray=p.toArray++#[Value.func (.yield W1.heap.size) #[] #[]]++q.toArray:=by
   apply uJ;simp
  rw[← hx];refine CallsIn.mono (callsIn_wide.2 hcalls) ?_;rintro en w3 ⟨v,rfl,e3,hL3,_⟩;have hL4:=hLL.trans hL3;have hms3:Cq e3 (st.nb::st.ms) (w.heap.size::rs):=⟨_,_,rfl,hL3.adv.ext.ρ _ _ (hL2.adv.ext.ρ _ _ hρ1),hms.ext (hext.trans hL3.adv.ext)⟩;have hV3:cN e3 a (fun t=>find t st.sl):=hV.ext (hext.trans hL3.adv.ext);have hfin:∀ (k:Nat) (r:Loop),e3.ρ (st.nb+1)=some k->e3.al (st.nb+1)=true->w3.heap[k]?=some (.loop r)->jM C e0 w0 n0 t.n1 (jK [(st.nb+1,.dead)] (jK t.ws (jK [(st.nb+1,.loop nt st.sl ps.toList fid assign body .ready)] (jK [(st.nb,.mark)] st.m)))) e3 (w3.putObj k (.loop { r with state:=.exhausted })):=by
   intro k r h1 h2 h3;have hlt:=(Array.getElem?_eq_some_iff.1 h3).1;exact hL4.trans (uI hL4.good h1 h2 (w':=w3.putObj k (.loop { r with state:=.exhausted })) ⟨rfl,rfl,rfl,by simp [World.putObj],fun j hj=>uQ hj⟩ (zp hlt) (.inr (.inl ⟨_,rfl⟩)) (ob:=.dead) trivial)
  have hk3:e3.ρ (st.nb+1)=some W1.heap.size:=hL3.adv.ext.ρ _ _ hρ2;have hM4:=kn hb hL4;split at h
  ·rename_i hlp;injection h with h;simp only[co] at h
   obtain⟨rfl,rfl,rfl⟩:=h;obtain⟨k,r,h1,h2,h3,_,_,_,_,_,_,h4,h5⟩:=hM4 _ _ hlp;rw[hk3] at h1;injection h1 with h1;subst h1
   have hend:=Us (P:=C.P) h3 (by rw[h4];decide);exact⟨_,w3.putObj W1.heap.size (.loop { r with state:=.exhausted }),hend.trans (cw (fun z=>Result.ok z (w3.putObj W1.heap.size (.loop { r with state:=.exhausted }))) h5),rfl,⟨e3,hfin _ r hk3 h2 h3,hV3,_,by show [uV w.heap.size]++a.defers=_;rw[hdf];rfl,hms3⟩,hsz⟩
  ·rename_i hlp;injection h with h;simp only[co] at h
   obtain⟨rfl,rfl,rfl⟩:=h;obtain⟨k,r,h1,h2,h3,_,_,_,_,_,_,h4,h5⟩:=hM4 _ _ hlp;rw[hk3] at h1;injection h1 with h1;subst h1
   have hend:=Us (P:=C.P) h3 (by rw[h4];decide);exact⟨_,w3.putObj W1.heap.size (.loop { r with state:=.exhausted }),hend.trans (cw (fun z=>Result.ok z (w3.putObj W1.heap.size (.loop { r with state:=.exhausted }))) h5),wpIn_ret ⟨rfl,⟨e3,hfin _ r hk3 h2 h3,hV3,_,by show [uV w.heap.size]++a.defers=_;rw[hdf];rfl,hms3⟩,hsz⟩⟩
  ·rename_i hlp;injection h with h;simp only[co] at h
   obtain⟨rfl,rfl,rfl⟩:=h;obtain⟨k,r,h1,h2,h3,_,_,_,_,_,_,h4,h5⟩:=hM4 _ _ hlp;rw[hk3] at h1;injection h1 with h1;subst h1
   have hend:=Us (P:=C.P) h3 (by rw[h4];decide);exact⟨_,w3.putObj W1.heap.size (.loop { r with state:=.exhausted }),hend.trans (cw (fun z=>Result.ok z (w3.putObj W1.heap.size (.loop { r with state:=.exhausted }))) h5),wpIn_exit ⟨rfl,⟨e3,hfin _ r hk3 h2 h3,hV3,_,by show [uV w.heap.size]++a.defers=_;rw[hdf];rfl,hms3⟩,hsz⟩⟩
  ·cases h
theorem ua (hW:Wd F) (hR:inR=false->F=Fence.wide) (hC:C.Ok) (hT:∀ f,(TT f).Ok C) (hF:CF.Ok C) (hFm:CF.Mono) (hY:uy C YF) (hYm:YF.Mono) (hb:cA C e0 w0 base) {B:Nat}(hfree:jC n0 B e0):∀ (n:Nat) (c:Code) (st:St D) (x:Xt) (st':St D) (ob:List Prop),Eh C.toStat TT CF YF nt base fid inR n c st=some (x,st',ob)->cX ob->st'.nb<=B->
 ∀ a w,Sat C nt e0 w0 n0 st a w->c.wpIn F m C.P (WR C nt e0 w0 n0 x st') a w
 |0,c,st,x,st',ob,h,ho,hB,a,w,hs=>by simp [Eh] at h
 |n+1,c,st,x,st',ob,h,ho,hB,a,w,hs=>by
  unfold Eh at h;split at h
  ·injection h with h;simp only[co] at h
   obtain⟨rfl,rfl,rfl⟩:=h;exact wpIn_skip ⟨rfl,hs⟩
  ·injection h with h;simp only[co] at h
   obtain⟨rfl,rfl,rfl⟩:=h;exact wpIn_label ⟨rfl,hs⟩
  ·injection h with h;simp only[co] at h
   obtain⟨rfl,rfl,rfl⟩:=h;exact wpIn_exit ⟨rfl,hs⟩
  ·injection h with h;simp only[co] at h
   obtain⟨rfl,rfl,rfl⟩:=h;exact wpIn_ret ⟨rfl,hs⟩
  ·rename_i rid ops draw;split at h
   ·rename_i st1 ob1 h1;injection h with h;simp only[co] at h
    obtain⟨rfl,rfl,rfl⟩:=h;split at h1
    ·exact cer hW hC (hT fid) hF hFm hY hYm hb h1 ho (hfree.mono (cb _) hB) (fun a w h=>⟨rfl,h⟩) hs
    ·refine wpIn_region ?_;rw[List.range_eq_range'];have hl:ops.toList.length=ops.size:=by simp
     have:=Zz (F:=F) (m:=m) (Q:=WR C nt e0 w0 n0 .normal st1) hW hC (hT fid) hF hFm hY hYm hb ops.toList.length ops.toList 0 st st1 ob1 rfl (by simp) h1 ho (hfree.mono (cb _) hB) (fun a w h=>⟨rfl,h⟩) a w hs;rw[hl] at this;exact this
   ·cases h
  ·apply wpIn_seq;split at h
   ·rename_i st1 ob1 h1;split at h
    ·rename_i x2 st2 ob2 h2;injection h with h;simp only[co] at h
     obtain⟨rfl,rfl,rfl⟩:=h;obtain⟨ho1,ho2⟩:=ho.append;refine uS (ua hW hR hC hT hF hFm hY hYm hb hfree n _ _ _ _ _ h1 ho1 (cB (kd hFm hYm n _ _ _ _ _ h2) hB) a w hs) ?_;rintro e a' w' ⟨rfl,hs'⟩;exact ua hW hR hC hT hF hFm hY hYm hb hfree n _ _ _ _ _ h2 ho2 hB a' w' hs'
    ·cases h
   ·rename_i hne;refine uS (ua hW hR hC hT hF hFm hY hYm hb hfree n _ _ _ _ _ h ho hB a w hs) ?_;rintro e a' w' ⟨rfl,hs'⟩;cases x with
    |normal=>exact absurd h (hne st' ob)
    |exit id=>exact⟨rfl,hs'⟩
    |ret=>exact⟨rfl,hs'⟩
  ·obtain⟨⟨e,hL,hV,hmk⟩,hsz⟩:=hs;split at h
   ·rename_i hl;exact wpIn_cond_true (ki hV hl) (ua hW hR hC hT hF hFm hY hYm hb hfree n _ _ _ _ _ h ho hB a w ⟨⟨e,hL,hV,hmk⟩,hsz⟩)
   ·rename_i hl;exact wpIn_cond_false (ki hV hl) (ua hW hR hC hT hF hFm hY hYm hb hfree n _ _ _ _ _ h ho hB a w ⟨⟨e,hL,hV,hmk⟩,hsz⟩)
   ·cases h
  ·rename_i id1 c1;apply wpIn_block;split at h
   ·rename_i j st1 ob1 h1;split at h
    ·rename_i hj;injection h with h;simp only[co] at h
     obtain⟨rfl,rfl,rfl⟩:=h;refine uS (ua hW hR hC hT hF hFm hY hYm hb hfree n _ _ _ _ _ h1 ho hB a w hs) ?_;rintro e a' w' ⟨rfl,hs'⟩;simp only[Xt.to,Exit.inBlock,cn hj,zw];exact⟨rfl,hs'⟩
    ·rename_i hj;injection h with h;simp only[co] at h
     obtain⟨rfl,rfl,rfl⟩:=h;refine uS (ua hW hR hC hT hF hFm hY hYm hb hfree n _ _ _ _ _ h1 ho hB a w hs) ?_;rintro e a' w' ⟨rfl,hs'⟩;have:¬ j=id1:=by
      rintro rfl;simp at hj
     simp only[Xt.to,Exit.inBlock,cf this];exact⟨rfl,hs'⟩
   ·rename_i hne;refine uS (ua hW hR hC hT hF hFm hY hYm hb hfree n _ _ _ _ _ h ho hB a w hs) ?_;rintro e a' w' ⟨rfl,hs'⟩;cases x with
    |normal=>exact⟨rfl,hs'⟩
    |exit id=>exact absurd h (hne id st' ob)
    |ret=>exact⟨rfl,hs'⟩
  ·intro b k cs hbr hbf hrm;obtain⟨e,a',w',h1,h2⟩:=(KL hW (B:=B) (fun st x st' ob h=>kd hFm hYm n _ st x st' ob h) (fun st x st' ob h ho hB=>ua hW hR hC hT hF hFm hY hYm hb hfree n _ st x st' ob h ho hB) n st x st' ob h ho hB a w hs).2 b k cs hbr;exact⟨e,a',w',h1,.of_steps (.one (fenced_calm (n:=m) hbf hrm rfl) stepR_loop) h2⟩
  ·rename_i g ps assign body;split at h
   ·cases h
   ·have hFw:=hR rfl;subst hFw;obtain⟨⟨e,hL,hV,hmk⟩,hsz⟩:=hs;split at h
    ·rename_i f hg;exact cae hC hF hFm hb hfree h ho hB hL hV hmk hsz (p:=[]) (q:=[]) (cM hV hg) rfl rfl
    ·rename_i k hg;split at h
     ·rename_i f pre cap hcl;obtain⟨p,q,h1,h2,h3⟩:=kn hb hL _ _ hcl;have hgv:e.φ k=some (a.eval g):=cM hV hg;rw[hgv] at h1;injection h1 with h1
      exact cae hC hF hFm hb hfree h ho hB hL hV hmk hsz h1 h2 h3
     ·cases h
    ·cases h
  ·cases h
end
def resA (P:Program) (V:cR) (M:ct D):List ResultVar->Option (List A1)
 |[]=>some []
 |r::l=>match resA P V M l with
  |none=>none
  |some xs=>match r with
   |.tmp t=>match V t with
    |some (.val x)=>some (x::xs)
    |_=>none
   |.cell a t=>match ptr? (V a) with
    |some (b,o)=>match cdd P M t b o with
     |some x=>some (x::xs)
     |none=>none
    |none=>none
def zX:Nat->List AV->List (Nat×AV)
 |_,[]=>[]
 |t,x::l=>(t,x)::zX (t+1) l
def idC:AC->List Nat->List Nat
 |.lit _,l=>l
 |.sym s _,l=>s::l
 |.ptr b _,l=>b::l
 |.slc b _ _ _,l=>b::l
 |.gsl b _,l=>b::l
 |.gso b _ _ _,l=>b::l
 |.fn c,l=>c::l
 |.yld b,l=>b::l
def idCs:List AC->List Nat->List Nat
 |[],l=>l
 |c::cs,l=>idC c (idCs cs l)
def idA:A1->List Nat->List Nat
 |.one c,l=>idC c l
 |.agg cs,l=>idCs cs l
def idAs:List A1->List Nat->List Nat
 |[],l=>l
 |a::as',l=>idA a (idAs as' l)
def idO:kU D->List Nat->List Nat
 |.blk _ cs _,l=>idCs cs l
 |.clo _ p q,l=>idAs p (idAs q l)
 |.ep b _ _ _,l=>b::l
 |.es b _ _ _,l=>b::l
 |.cp b _ _ _,l=>b::l
 |.mp es _,l=>idAs (es.map fun p=>p.2.1) l
 |_,l=>l
def cfk (m:Ws D):Nat->List Nat->Nat->Nat
 |0,_,k=>k
 |_+1,[],k=>k
 |n+1,i::cbO,k=>match Nat.testBit k i with
  |true=>cfk m n cbO k
  |false=>match find i m with
   |some o=>cfk m n (idO o cbO) (Nat.lor k (2^i))
   |none=>cfk m n cbO k
def cdB (n0:Nat):Ws D->List Nat->List Nat
 |[],l=>l
 |p::m,l=>match Nat.blt p.1 n0 with
  |true=>idO p.2 (cdB n0 m l)
  |false=>cdB n0 m l
def UK (f:Nat->Bool):Nat->Ws D->Ws D
 |_,[]=>[]
 |s,p::m=>match f p.1 with
  |true=>match Nat.testBit s p.1 with
   |true=>UK f s m
   |false=>p::UK f (Nat.lor s (2^p.1)) m
  |false=>UK f s m
def uW:List Nat->Ws D->Ws D
 |[],m=>m
 |b::bs,m=>uW bs (jK [(b,.dead)] m)
def Er:List Nat->Ws D->Bool
 |[],_=>true
 |b::bs,m=>match find b m with
  |some .mark=>Er bs (jK [(b,.dead)] m)
  |_=>false
def gcW (n0 n1:Nat) (xs:List A1) (m:Ws D):Ws D :=
 match cfk m 100000 (idAs xs (cdB n0 m [])) 0 with
 |k=>UK (fun b=>match Nat.blt b n0 with
  |true=>true
  |false=>match Nat.ble n1 b with
   |true=>true
   |false=>Nat.testBit k b) 0 m
def Xt.ends:Xt->Bool
 |.normal=>true
 |.ret=>true
 |_=>false
def outOf:List A1->AV
 |[x]=>.val x
 |l=>.tup l
def runF (S:Stat D) (TT:FuncId->Tab D) (CF YF:cz D) (g:Nat):cz D:=fun M n0 f l =>
 match S.P.funcs[f]? with
 |some fn=>match fn.body with
  |some c=>match Nat.ble l.length fn.ntmps with
   |true=>match Eh S TT CF YF fn.ntmps M f false g c ⟨n0,zX 0 l,[],[]⟩ with
    |some (xt,st,ob)=>match xt.ends,Er st.ms st.m with
     |true,true=>match resA S.P (fun t=>find t st.sl) (over M (uW st.ms st.m)) fn.results.toList with
      |some xs=>some ⟨outOf xs,gcW n0 st.nb xs (uW st.ms st.m),st.nb,ob⟩
      |none=>none
     |_,_=>none
    |none=>none
   |false=>none
  |none=>none
 |none=>none
def Ye (nt:Nat):List Nat->List AV->List (Nat×AV)->Option (List (Nat×AV))
 |[],[],sl=>some sl
 |p::ps,x::xs,sl=>match Nat.blt p nt with
  |true=>Ye nt ps xs (jK [(p,x)] sl)
  |false=>none
 |_,_,_=>none
def jmOf:Xt->Ls
 |.normal=>.ready
 |.ret=>.done .ret
 |.exit id=>.done (.exit id)
def Xt.isNormal:Xt->Bool
 |.normal=>true
 |_=>false
def runY (S:Stat D) (TT:FuncId->Tab D) (CF YF:cz D) (g:Nat):cz D:=fun M n0 b l =>
 match M b with
 |some (.loop nt sl ps fid assign body .ready)=>match Ye nt ps l sl with
  |some sl1=>match Eh S TT CF YF nt M fid true g assign ⟨n0,sl1,[],[]⟩ with
   |some (.normal,st1,ob1)=>match over M st1.m b with
    |some (.loop nt' sl' ps' fid' assign' body' .ready)=>match Eh S TT CF YF nt M fid true g body ⟨st1.nb,st1.sl,jK [(b,.loop nt' sl' ps' fid' assign' body' .busy)] st1.m,st1.ms⟩ with
     |some (x,st2,ob2)=>match over M st2.m b with
      |some (.loop nt2 sl2 ps2 fid2 assign2 body2 .busy)=>some ⟨.val (.one (.lit (.bool x.isNormal))),gcW n0 st2.nb [] (jK [(b,.loop nt2 sl2 ps2 fid2 assign2 body2 (jmOf x))] st2.m),st2.nb,ob1++ob2⟩
      |_=>none
     |none=>none
    |_=>none
   |_=>none
  |none=>none
 |_=>none
def yw (S:Stat D) (TT:FuncId->Tab D) (g:Nat):Nat->cz D×cz D
 |0=>(fun _ _ _ _=>none,fun _ _ _ _=>none)
 |n+1=>(runF S TT (yw S TT g n).1 (yw S TT g n).2 g,runY S TT (yw S TT g n).1 (yw S TT g n).2 g)
def callF (S:Stat D) (TT:FuncId->Tab D) (g n:Nat):cz D:=(yw S TT g n).1
theorem bit_set {s b c:Nat}(h:b≠c):Nat.testBit (Nat.lor s (2^b)) c=Nat.testBit s c:=by
 show Nat.testBit (s||| 2^b) c=_;rw[Nat.testBit_or,Nat.testBit_two_pow];simp [h]
theorem zJ {f:Nat->Bool}{b:Nat}:∀ {m:Ws D}{s:Nat},Nat.testBit s b=false->find b (UK f s m)=(match f b with|true=>find b m|false=>none)
 |[],s,_=>by simp only[UK,cP,cC];cases f b<;>rfl
 |p::m,s,hs=>by
  unfold UK;simp only[cP,cC];cases hb:Nat.beq p.1 b with
  |true =>
   have hpb:=cn hb;rw[hpb];cases hf:f b with
   |true=>simp only[hs,cP,cC,hb]
   |false =>
    simp only[];rw[zJ hs,hf]
  |false =>
   have hne:p.1≠b:=fun h=>by rw[h,Nat.beq_refl] at hb;cases hb
   cases hf:f p.1 with
   |true =>
    simp only[];cases ht:Nat.testBit s p.1 with
    |true=>exact zJ hs
    |false =>
     simp only[cP,cC,hb];exact zJ (by rw[bit_set hne];exact hs)
   |false=>exact zJ hs
theorem ZZ {f:Nat->Bool}{b:Nat}{m:Ws D}:find b (UK f 0 m)=(match f b with|true=>find b m|false=>none):=zJ (Nat.zero_testBit b)
section
variable {S:Stat D}{TT:FuncId->Tab D}{CF YF:cz D}{g:Nat}
theorem chf (hF:CF.Mono) (hY:YF.Mono):(runF S TT CF YF g).Mono:=by
 intro M n0 f l t h;unfold runF at h;split at h
 rotate_left
 ·cases h
 split at h
 rotate_left
 ·cases h
 split at h
 rotate_left
 ·cases h
 split at h
 rotate_left
 ·cases h
 rename_i he;split at h
 rotate_left
 ·cases h
 split at h
 rotate_left
 ·cases h
 injection h with h;subst h
 exact kd hF hY _ _ _ _ _ _ he
theorem cgZ (hF:CF.Mono) (hY:YF.Mono):(runY S TT CF YF g).Mono:=by
 intro M n0 f l t h;unfold runY at h;split at h
 rotate_left
 ·cases h
 split at h
 rotate_left
 ·cases h
 split at h
 rotate_left
 ·cases h
 rename_i he;split at h
 rotate_left
 ·cases h
 split at h
 rotate_left
 ·cases h
 rename_i he2;split at h
 rotate_left
 ·cases h
 injection h with h;subst h
 have h1:=kd hF hY _ _ _ _ _ _ he;have h2:=kd hF hY _ _ _ _ _ _ he2;exact cB h1 h2
theorem jN:∀ n,(yw S TT g n).1.Mono/\(yw S TT g n).2.Mono
 |0=>⟨fun M n0 f l t h=>by simp [yw] at h,fun M n0 f l t h=>by simp [yw] at h⟩
 |n+1=>⟨chf (jN n).1 (jN n).2,cgZ (jN n).1 (jN n).2⟩
end
section
variable {C:Ctx D}{e:Env}{w:World}{TT:FuncId->Tab D}{CF YF:cz D}
theorem jM.gc {n0 n1:Nat}{ws:Ws D}{e':Env}{w':World}(h:jM C e w n0 n1 ws e' w') (hf:jC n0 n1 e) (xs:List A1):jM C e w n0 n1 (gcW n0 n1 xs ws) e' w':=by
 refine⟨h.le,h.adv,h.new,h.good,fun b o ho=>?_,fun b o ho hn=>?_⟩
 ·unfold gcW at ho;rw[ZZ] at ho;split at ho
  ·exact h.wrote b o ho
  ·cases ho
 ·unfold gcW at hn;rw[ZZ] at hn;split at hn
  ·exact h.kept b o ho hn
  ·rename_i hk;have hb:n0<=b/\b<n1:=by
    split at hk
    ·cases hk
    ·rename_i h1;split at hk
     ·cases hk
     ·rename_i h2;constructor
      ·rcases jj b n0 with h|h
       ·rw[show Nat.blt b n0=true from zA h] at h1;cases h1
       ·exact h
      ·rcases jj b n1 with h|h
       ·exact h
       ·rw[zA h] at h2;cases h2
   obtain⟨q1,q2,q3⟩:=hf b hb.1 hb.2;cases o with
   |blk ty cs z=>obtain⟨k,_,_,_,h1,_⟩:=ho;rw[q1] at h1;cases h1
   |clo f p q=>obtain⟨_,_,h1,_⟩:=ho;rw[q3] at h1;cases h1
   |cls d=>obtain⟨_,h1,_⟩:=ho;rw[q2] at h1;cases h1
   |loop nt sl ps fid assign body st=>obtain⟨k,_,h1,_⟩:=ho;rw[q1] at h1;cases h1
   |mark=>obtain⟨k,h1,_⟩:=ho;rw[q1] at h1;cases h1
   |gl ty z n g=>obtain⟨_,h1,_⟩:=ho;rw[q3] at h1;cases h1
   |ep l i z o=>obtain⟨_,_,h1⟩:=ho;rw[q3] at h1;cases h1
   |es l i n z=>obtain⟨_,_,_,_,_,_,h1⟩:=ho;rw[q3] at h1;cases h1
   |cp l i z o=>obtain⟨_,_,_,_,_,h1⟩:=ho;rw[q3] at h1;cases h1
   |mp es ck=>obtain⟨k,_,h1,_⟩:=ho;rw[q1] at h1;cases h1
   |mf nk vk g pe=>obtain⟨k,_,_,_,h1,_⟩:=ho;rw[q1] at h1;cases h1
   |dead=>trivial
def resF (tmps:Array Value):ResultVar->Sem Value
 |.tmp t=>pure (tmps.getD t undef)
 |.cell p t=>do loadVar t (← asAddr (tmps.getD p undef))
theorem JJ (fn:Func) (tmps:Array Value):results fn tmps=(do let vs ← fn.results.mapM (resF tmps);pure (if h:vs.size=1 then vs[0] else .tuple vs)):=by
 unfold results;congr
theorem cbQ {a:Act}{V:cR}{M:ct D}(hV:cN e a V) (hM:cA C e w M):∀ {l:List ResultVar}{xs:List A1},resA C.P V M l=some xs->
 ∃ vs,(l.mapM (resF a.tmps)).run C.P w=.ok vs w/\ke e xs vs
 |[],xs,h=>by
  simp [resA] at h;subst h;exact⟨[],by simp,rfl⟩
 |r::l,xs,h=>by
  simp only[resA] at h;split at h
  ·cases h
  ·rename_i ys hys;obtain⟨vs,h1,h2⟩:=cbQ hV hM hys;split at h
   ·rename_i t;split at h
    ·rename_i x hx;injection h with h;subst h
     refine⟨a.eval (.tmp t)::vs,?_,_,_,rfl,cM hV (x:=.tmp t) hx,h2⟩;rw[List.mapM_cons];simp only[resF,jA,ER,kG,h1];rfl
    ·cases h
   ·rename_i p t;split at h
    ·rename_i b o hb;obtain⟨k,hk,hx⟩:=Zb hV (x:=.tmp p) hb;split at h
     ·rename_i y hy;injection h with h;subst h
      obtain⟨v,h3,h4⟩:=Zv hM hk hy;refine⟨v::vs,?_,_,_,rfl,h4,h2⟩;have hx':a.tmps.getD p undef=.pointer (some ⟨k,o,none⟩):=hx;rw[List.mapM_cons];simp only[resF,jA,hx',asAddr,ER,kG,h1,h3]
     ·cases h
    ·cases h
theorem ET {x:AV}{t:Nat}:∀ {l:List AV}{j:Nat},find t (zX j l)=some x->∃ i,l[i]?=some x/\t=j+i
 |[],j,h=>by simp [zX,cP,cC] at h
 |y::l,j,h=>by
  simp only[zX,cP,cC] at h;split at h
  ·rename_i hb;injection h with h;subst h
   exact⟨0,rfl,by rw[← cn hb];rfl⟩
  ·obtain⟨i,h1,h2⟩:=ET h;exact⟨i+1,by simpa using h1,by omega⟩
theorem Ku {e0:Env}{w0:World}{n0 n1 m:Nat}{fn:Func}{tmps:Array Value}{R:Ending->World->Prop}:∀ (bs rs:List Nat) (ws:Ws D) (e:Env) (w:World),jM C e0 w0 n0 n1 ws e w->Cq e bs rs->Er bs ws=true->
 (∀ w',jM C e0 w0 n0 n1 (uW bs ws) e w'->∃ v,(results fn tmps).run C.P w'=.ok v w'/\R (.returned v) w')->LeavesInM Fence.wide m C.P fn tmps R (rs.map uV) .returning w
 |[],rs,ws,e,w,hL,hm,hk,hf=>by
  rw[show rs=[] from hm];exact hf w hL
 |b::bs,rs,ws,e,w,hL,⟨r,rs',h1,h2,h3⟩,hk,hf=>by
  subst h1;unfold Er at hk;split at hk
  ·rename_i hfb;obtain⟨k,q1,q2,q3⟩:=hL.wrote b _ hfb;rw[h2] at q1;injection q1 with q1;subst q1
   have hlt:=(Array.getElem?_eq_some_iff.1 q3).1;refine⟨by simp,.inl ⟨r,w.putObj r (.deferred none),rfl,run_takeDeferred q3,?_⟩⟩;exact Ku bs rs' _ e _ (hL.trans (uI hL.good h2 q2 (w':=w.putObj r (.deferred none)) ⟨rfl,rfl,rfl,by simp [World.putObj],fun j hj=>uQ hj⟩ (zp hlt) (.inr (.inr (.inl ⟨_,rfl⟩))) (ob:=.dead) trivial)) h3 hk hf
  ·cases hk
theorem runF_ok (hC : C.Ok) (hN : ∀ (f : Nat) (fn : Func), C.P.funcs[f]? = some fn → (fn.name == "runtime.NumGoroutine") = false) (hT : ∀ f, (TT f).Ok C) (hF : CF.Ok C) (hFm : CF.Mono) (hY : uy C YF) (hYm : YF.Mono) {g : Nat} : (runF C.toStat TT CF YF g).Ok C := by
 intro e w M n0 f l vs t hM hg hvs h hf ho;unfold runF at h;split at h
 rotate_left
 ·cases h
 rename_i fn hfn;split at h
 rotate_left
 ·cases h
 rename_i c hbody;split at h
 rotate_left
 ·cases h
 rename_i hlen;have hlen:=jh hlen;split at h
 rotate_left
 ·cases h
 rename_i xt st ob he;split at h
 rotate_left
 ·cases h
 rename_i hends hmarks;split at h
 rotate_left
 ·cases h
 rename_i xs hres;injection h with h
 subst h;refine⟨jB hfn (hN f fn hfn) hbody,?_⟩;have hvl:=hvs.length;have hs:Sat C fn.ntmps e w n0 ⟨n0,zX 0 l,[],[]⟩ { tmps:=vs.toArray++Array.replicate (fn.ntmps-vs.toArray.size) undef,defers:=[] } w:=by
  refine⟨⟨e,jM.refl hg n0,?_,[],rfl,rfl⟩,?_⟩
  ·intro tt x hx;obtain⟨i,h1,h2⟩:=ET hx;obtain⟨v,h3,h4⟩:=hvs.get i x h1;refine⟨v,?_,h4⟩;have hil:i<vs.length:=(List.getElem?_eq_some_iff.1 h3).1;rw[h2,jb];show (vs.toArray++Array.replicate (fn.ntmps-vs.toArray.size) undef)[i]?=some v;rw[Array.getElem?_append_left (by simpa using hil)];simpa using h3
  ·simp only[Array.size_append,Gt,Array.size_replicate];omega
 refine(callsIn_wide (n:=0)).1 (ceB hfn hbody trivial (uS (ua (F:=Fence.wide) (.inl rfl) (fun _=>rfl) hC hT hF hFm hY hYm hM hf g c _ xt st ob he ho (cb _) _ _ hs) ?_));rintro ex a' w' ⟨rfl,⟨e',hL,hV,rs,hdf,hmk⟩,hsz⟩;have:LeavesInM Fence.wide 0 C.P fn a'.tmps (fun en w'=>∃ v,en=.returned v/\jG C e w n0 ⟨outOf xs,gcW n0 st.nb xs (uW st.ms st.m),st.nb,ob⟩ v w') a'.defers .returning w':=by
  rw[hdf];refine Ku st.ms rs st.m e' w' hL hmk hmarks (fun w2 hL2=>?_);obtain⟨us,h3,h4⟩:=cbQ hV (kn hM hL2) hres;have h5:(results fn a'.tmps).run C.P w2=.ok (if h:us.toArray.size=1 then us.toArray[0] else .tuple us.toArray) w2:=by
   rw[JJ,cbU];simp only[jA,Sem.run_map,h3,kG];rfl
  refine⟨_,h5,_,rfl,e',hL2.gc hf xs,?_⟩;have hul:=h4.length;unfold outOf;split
  ·rename_i x;obtain⟨v,ws,rfl,h6,h7⟩:=h4;rw[show ws=[] from h7];exact h6
  ·rename_i hne;have hl:us.toArray.size≠1:=by
    intro h1;have h1:us.length=1:=by simpa using h1
    rw[h1] at hul
    match xs,hul with
    |[x],_=>exact hne x rfl
   rw[dif_neg hl];exact⟨us,h4,rfl⟩
 cases xt with
 |normal=>exact this
 |ret=>exact this
 |exit id=>cases hends
theorem ccH {nt:Nat}{e:Env}:∀ {ps:List Nat}{xs:List AV}{sl sl':List (Nat×AV)}{vs:List Value}{tm:Array Value},Ye nt ps xs sl=some sl'->kv e xs vs->tm.size=nt->cN e ⟨tm,[]⟩ (fun t=>find t sl)->
 vs.length=ps.length/\((ps.zip vs).foldl (fun tmps (t,a)=>tmps.setIfInBounds t a) tm).size=nt/\cN e ⟨(ps.zip vs).foldl (fun tmps (t,a)=>tmps.setIfInBounds t a) tm,[]⟩ (fun t=>find t sl')
 |[],[],sl,sl',vs,tm,h,hv,hs,hk=>by
  simp only[Ye,kC] at h;subst h;rw[show vs=[] from hv];exact⟨rfl,hs,hk⟩
 |p::ps,x::xs,sl,sl',vs,tm,h,⟨v,ws,h1,h2,h3⟩,hs,hk=>by
  subst h1;simp only[Ye] at h;split at h
  ·rename_i hp;have hput:caP nt (some p) x sl=some (jK [(p,x)] sl):=by unfold caP;simp only[hp]
   have:=YD (a:=⟨tm,[]⟩) hs hk hput (Ext.refl e) h2;obtain⟨q1,q2,q3⟩:=ccH (tm:=tm.setIfInBounds p v) h h3 (by simpa using hs) this;exact⟨by simp [q1],q2,q3⟩
  ·cases h
 |[],_::_,sl,sl',vs,tm,h,hv,hs,hk=>by simp [Ye] at h
 |_::_,[],sl,sl',vs,tm,h,hv,hs,hk=>by simp [Ye] at h
theorem runY_ok (hC:C.Ok) (hT:∀ f,(TT f).Ok C) (hF:CF.Ok C) (hFm:CF.Mono) (hY:uy C YF) (hYm:YF.Mono) {g:Nat}:uy C (runY C.toStat TT CF YF g):=by
 intro e w M n0 b l vs t hM hg hvs h hf ho;unfold runY at h;split at h
 rotate_left
 ·cases h
 rename_i nt sl ps fid assign body hb;obtain⟨k,r,p1,p2,p3,_,p4,p5,p6,p7,p8,p9,p10⟩:=hM _ _ hb;split at h
 rotate_left
 ·cases h
 rename_i sl1 hbind;obtain⟨q1,q2,q3⟩:=ccH hbind hvs p7 p8;have hfold:(r.params.zip vs.toArray).foldl (fun tmps (t,a)=>tmps.setIfInBounds t a) r.tmps=(ps.zip vs).foldl (fun tmps (t,a)=>tmps.setIfInBounds t a) r.tmps:=by
  rw[p4,← Array.foldl_toList];simp
 split at h
 rotate_left
 ·cases h
 rename_i st1 ob1 hex1;split at h
 rotate_left
 ·cases h
 rename_i nt' sl' ps' fid' assign' body' hl1;split at h
 rotate_left
 ·cases h
 rename_i x st2 ob2 hex2;split at h
 rotate_left
 ·cases h
 rename_i nt2 sl2 ps2 fid2 assign2 body2 hl2;injection h with h
 subst h;obtain⟨ho1,ho2⟩:=cX.append ho;have hle1:=kd hFm hYm _ _ _ _ _ _ hex1;have hle2:=kd hFm hYm _ _ _ _ _ _ hex2;refine⟨k,r,p1,p3,by rw[q1,p4];simp,fun F m hW=>?_⟩;rw[hfold];have hW':Wd (F.inRound k):=by
  rcases hW with rfl|⟨l0,rfl⟩
  ·exact .inr ⟨k,rfl⟩
  ·exact .inr ⟨k,rfl⟩
 have hs:Sat C nt e w n0 ⟨n0,sl1,[],[]⟩ { tmps:=(ps.zip vs).foldl (fun tmps (t,a)=>tmps.setIfInBounds t a) r.tmps,defers:=[] } w:=⟨⟨e,jM.refl hg n0,q3,[],rfl,rfl⟩,q2⟩;refine roundIn_of_wpIn (hW.fn _) ?_;rw[p5,p6];refine uS (ua (F:=F.inRound k) hW' (fun h=>by cases h) hC hT hF hFm hY hYm hM hf g assign _ .normal st1 ob1 hex1 ho1 hle2 _ _ hs) ?_;rintro ex a1 w1 ⟨rfl,⟨e1,hL1,hV1,hmk1⟩,hsz1⟩;obtain⟨k1,r1,s1,s2,s3,sφ,s4,s5,s6,s7,s8,s9,s10⟩:=kn hM hL1 _ _ hl1;have hk1:e1.ρ b=some k:=hL1.adv.ext.ρ _ _ p1;rw[hk1] at s1;injection s1 with s1;subst s1
 have hlt1:=(Array.getElem?_eq_some_iff.1 s3).1;refine⟨_,run_beginRound s3 s9,?_⟩;have hL1':=hL1.trans (uI (n0:=st1.nb) hL1.good hk1 s2 (w':=w1.putObj k (.loop { r1 with state:=.busy })) ⟨rfl,rfl,rfl,by simp [World.putObj],fun j hj=>uQ hj⟩ (zp hlt1) (.inr (.inl ⟨_,rfl⟩)) (ob:=.loop nt' sl' ps' fid' assign' body' .busy) ⟨k,_,hk1,s2,zp hlt1,sφ,s4,s5,s6,s7,s8,rfl⟩);refine uS (ua (F:=F.inRound k) hW' (fun h=>by cases h) hC hT hF hFm hY hYm hM hf g body ⟨st1.nb,st1.sl,jK [(b,.loop nt' sl' ps' fid' assign' body' .busy)] st1.m,st1.ms⟩ x st2 ob2 hex2 ho2 (cb _) _ _ ⟨⟨e1,hL1',hV1,hmk1⟩,hsz1⟩) ?_;rintro ex a2 w2 ⟨rfl,⟨e2,hL2,hV2,hmk2⟩,hsz2⟩;obtain⟨k2,r2,u1,u2,u3,uφ,u4,u5,u6,u7,u8,u9⟩:=kn hM hL2 _ _ hl2;have hk2:e2.ρ b=some k:=hL2.adv.ext.ρ _ _ p1;rw[hk2] at u1;injection u1 with u1;subst u1
 have hlt2:=(Array.getElem?_eq_some_iff.1 u3).1;have hend:∀ (jump:Option Code) (jx:Ls),(match jx with
  |.ready=>(if jump.isNone then LoopState.ready else .done)=.ready/\jump=none
  |.busy=>(if jump.isNone then LoopState.ready else .done)=.busy
  |.done j=>(if jump.isNone then LoopState.ready else .done)=.done/\jump=some j.code)->jM C e w n0 st2.nb (gcW n0 st2.nb [] (jK [(b,.loop nt2 sl2 ps2 fid2 assign2 body2 jx)] st2.m)) e2 (w2.putObj k (.loop { r2 with state:=if jump.isNone then .ready else .done,pending:=jump })):=by
  intro jump jx hj;exact(hL2.trans (uI (n0:=st2.nb) hL2.good hk2 u2 (w':=w2.putObj k (.loop { r2 with state:=if jump.isNone then .ready else .done,pending:=jump })) ⟨rfl,rfl,rfl,by simp [World.putObj],fun j hj=>uQ hj⟩ (zp hlt2) (.inr (.inl ⟨_,rfl⟩)) (ob:=.loop nt2 sl2 ps2 fid2 assign2 body2 jx) ⟨k,_,hk2,u2,zp hlt2,uφ,u4,u5,u6,u7,u8,hj⟩)).gc hf []
 cases x with
 |normal=>exact⟨_,_,caZ none u3,_,rfl,e2,hend none .ready ⟨rfl,rfl⟩,rfl⟩
 |ret=>exact⟨_,_,caZ (some .ret) u3,_,rfl,e2,hend (some .ret) (.done .ret) ⟨rfl,rfl⟩,rfl⟩
 |exit id=>exact⟨_,_,caZ (some (.exit id)) u3,_,rfl,e2,hend (some (.exit id)) (.done (.exit id)) ⟨rfl,rfl⟩,rfl⟩
theorem yk (hC : C.Ok) (hN : ∀ (f : Nat) (fn : Func), C.P.funcs[f]? = some fn → (fn.name == "runtime.NumGoroutine") = false) (hT : ∀ f, (TT f).Ok C) {g : Nat} : ∀ n, (yw C.toStat TT g n).1.Ok C ∧ uy C (yw C.toStat TT g n).2
 |0=>⟨fun e w M n0 f l vs t _ _ _ h=>by simp [yw] at h,fun e w M n0 f l vs t _ _ _ h=>by simp [yw] at h⟩
 |n+1=>⟨runF_ok hC hN hT (yk hC hN hT n).1 (jN n).1 (yk hC hN hT n).2 (jN n).2,runY_ok hC hT (yk hC hN hT n).1 (jN n).1 (yk hC hN hT n).2 (jN n).2⟩
theorem cgA (hC : C.Ok) (hN : ∀ (f : Nat) (fn : Func), C.P.funcs[f]? = some fn → (fn.name == "runtime.NumGoroutine") = false) (hT : ∀ f, (TT f).Ok C) {g n : Nat} {f : FuncId} {t : Out D} {ps : List (Pat D)} {xs : List A1} {ws : Ws D} {n0 : Nat} (hm : GH C.csz 0 ps = some (xs, ws, n0)) (h : callF C.toStat TT g n (fun b => find b ws) n0 f (jU xs) = some t) (ho : cX t.ob)
 {vs:List Value} (hp:KT (fun d f=>∀ w',jy ⟨fun _=>none,fun _=>0,fun _=>none,fun _=>none,fun _=>false,fun _=>False⟩ C.w0 w'->C.E d w' f) C.csz ps vs) (hfr:C.fr=none:=by rfl) :
 Calls C.P f vs.toArray C.w0 (fun en w'=>∃ v e e',en=.returned v/\jM C e C.w0 n0 t.n1 t.ws e' w'/\t.x.is e' v):=by
 obtain⟨e,gr,hx⟩:=Wl hm (cb _) (e:=⟨fun _=>none,fun _=>0,fun _=>none,fun _=>none,fun _=>false,fun _=>False⟩) (fun _ _ _=>rfl) hp;have hρ:∀ b,e.ρ b=none:=fun b=>by rw[gr.ρ]
 have hφ:∀ b,e.φ b=none:=fun b=>by rw[gr.φ]
 have hg:Kv C e C.w0:=⟨cF _ _,fun b b' k _ _ h=>(by rw[hρ] at h;cases h),fun b k h=>(by rw[hρ] at h;cases h),FrOk.none hfr (fun k h=>by rw[gr.ext.ot] at h;exact h)⟩;have hM:cA C e C.w0 (fun b=>find b ws):=by
  intro b o ho;obtain⟨_,d,rfl,f,h1,h2⟩:=gr.live b o (yg ho);exact⟨f,h1,fun w' hk=>h2 w' ⟨hk.size,fun k h3 _ _=>hk.block k h3 (fun b=>by rw[hρ];simp) (fun h=>by rw[gr.ext.ot] at h;exact h)⟩⟩
 have hf:jC n0 t.n1 e:=by
  intro b h1 _;refine⟨hρ b,?_,hφ b⟩;cases hb:e.ν b with
  |none=>rfl
  |some f =>
   rcases gr.ν b f hb with h|h
   ·cases h
   ·omega
 refine Calls.mono ((yk hC hN hT n).1 e C.w0 _ n0 f _ vs t hM hg (ub hx) h hf ho).2 ?_;rintro en w' ⟨v,rfl,e',h1,h2⟩;exact⟨v,e,e',rfl,h1,h2⟩
end
variable {D:Type}
structure At (C:Ctx D) (nt:Nat) (st:St D) (a:Act) (w:World):Prop where
 ex:∃ e,Kv C e w/\cA C e w (fun b=>find b st.m)/\cN e a (fun t=>find t st.sl)/\(∀ b,st.nb<=b->e.ρ b=none/\e.ν b=none/\e.φ b=none)/\∃ rs,a.defers=rs.map uV/\Cq e st.ms rs
 size:a.tmps.size=nt
def St.join (st st':St D):St D:=⟨st'.nb,st'.sl,st'.m++st.m,st'.ms⟩
section
variable {F:Fence}{m:Nat}{C:Ctx D}{TT:FuncId->Tab D}{CF YF:cz D}{nt:Nat}{fid:FuncId}{inR:Bool}{Q:Exit->Act->World->Prop}{a:Act}{w:World}{st:St D}
theorem GT {m m':Ws D}(b:Nat):over (fun b=>find b m) m' b=find b (m'++m):=by
 unfold over;rw[zj];split<;>rename_i h<;>simp only[h]
theorem seg_is (hW:Wd F) (hR:inR=false->F=Fence.wide) (hC:C.Ok) (hT:∀ f,(TT f).Ok C) (hF:CF.Ok C) (hFm:CF.Mono) (hY:uy C YF) (hYm:YF.Mono) {n:Nat}{c:Code}{x:Xt}{st':St D}{ob:List Prop}(h:Eh C.toStat TT CF YF nt (fun b=>find b st.m) fid inR n c ⟨st.nb,st.sl,[],st.ms⟩=some (x,st',ob)) (ho:cX ob)
 (hA:At C nt st a w) (hQ:∀ a' w',At C nt (st.join st') a' w'->Q x.to a' w'):c.wpIn F m C.P Q a w:=by
 obtain⟨⟨e,hg,hM,hV,hfr,hmk⟩,hsz⟩:=hA;have hle:=kd hFm hYm _ _ _ _ _ _ h;have hfree:jC st.nb st'.nb e:=fun b h1 _=>hfr b h1;refine uS (ua hW hR hC hT hF hFm hY hYm hM hfree n c _ x st' ob h ho (cb _) a w ⟨⟨e,jM.refl hg _,hV,hmk⟩,hsz⟩) ?_;rintro ex a' w' ⟨rfl,⟨e',hL,hV',hmk'⟩,hsz'⟩;refine hQ a' w' ⟨⟨e',hL.good,fun b o ho=>?_,hV',fun b hb=>?_,hmk'⟩,hsz'⟩
 ·exact kn hM hL b o (by rw[GT];exact ho)
 ·obtain⟨q1,q2,q3⟩:=hfr b (cB hle hb);refine⟨?_,?_,?_⟩
  ·cases hx:e'.ρ b with
   |none=>rfl
   |some y =>
    rcases hL.new.ρ b y hx with h|h
    ·rw[q1] at h;cases h
    ·have hb:st'.nb<=b:=hb;omega
  ·cases hx:e'.ν b with
   |none=>rfl
   |some y =>
    rcases hL.new.ν b y hx with h|h
    ·rw[q2] at h;cases h
    ·have hb:st'.nb<=b:=hb;omega
  ·cases hx:e'.φ b with
   |none=>rfl
   |some y =>
    rcases hL.new.φ b y hx with h|h
    ·rw[q3] at h;cases h
    ·have hb:st'.nb<=b:=hb;omega
theorem ciJ {Θ:Type}(I:Θ->St D) (J:Θ->Prop) (μ:Θ->Nat) {c:Code}(θ0:Θ) (h0:J θ0) (hA:At C nt (I θ0) a w)
 (hr:∀ θ a w,J θ->At C nt (I θ) a w->c.wpIn F m C.P (Exit.then (fun a' w'=>∃ θ',J θ'/\At C nt (I θ') a' w'/\μ θ'<μ θ) Q) a w):(Code.loop c).wpIn F m C.P Q a w:=by
 intro b k cs hro hbr hrm;have key:∀ j θ a w,μ θ=j->J θ->At C nt (I θ) a w->
  ∃ e a' w',Q e a' w'/\ArrivesIn (Machine.fenced C.P F) C.P (lone (b.atR a (.code c::.inLoop c::k)) cs w) b k cs e a' w':=by
  intro j
  induction j using Nat.strongRecOn with
  |_ j ih =>
   intro θ a w hk hJ hA;obtain⟨e,a₁,w₁,hq,harr⟩:=hr θ a w hJ hA b (.inLoop c::k) cs hro hbr hrm;cases e with
   |normal =>
    obtain⟨θ',hJ',hA',hlt⟩:=hq;obtain⟨e₂,a₂,w₂,hq₂,harr₂⟩:=ih (μ θ') (hk▸hlt) θ' a₁ w₁ rfl hJ' hA';exact⟨e₂,a₂,w₂,hq₂,.of_steps (StepsIn.trans harr (.one (fenced_calm hbr hrm rfl) stepR_inLoop)) harr₂⟩
   |exit id=>exact⟨_,a₁,w₁,hq,.pass (x:=.inLoop c) rfl (fun _ _=>.inl (by simp)) harr⟩
   |goto l=>exact⟨_,a₁,w₁,hq,.pass (x:=.inLoop c) rfl (fun _ _=>.inl (by simp)) harr⟩
   |ret=>exact⟨_,a₁,w₁,hq,.pass (x:=.inLoop c) rfl (fun _ _=>.inl (by simp)) harr⟩
   |panic ch=>exact⟨_,a₁,w₁,hq,.pass (x:=.inLoop c) rfl (fun _ _=>.inl (by simp)) harr⟩
   |outgrown=>exact⟨_,a₁,w₁,hq,.pass (x:=.inLoop c) rfl (fun _ _=>.inl (by simp)) harr⟩
 obtain⟨e,a',w',hq,harr⟩:=key _ θ0 a w rfl h0 hA;exact⟨e,a',w',hq,.of_steps (.one (fenced_calm hbr hrm rfl) stepR_loop) harr⟩
theorem loop_at {Θ:Type}(I:Θ->St D) (J:Θ->Prop) (μ:Θ->Nat) {id:Nat}{c:Code}(θ0:Θ) (h0:J θ0) (hA:At C nt (I θ0) a w)
 (hr:∀ θ a w,J θ->At C nt (I θ) a w->c.wpIn F m C.P (Exit.then (fun a' w'=>∃ θ',J θ'/\At C nt (I θ') a' w'/\μ θ'<μ θ) (Exit.inBlock id Q)) a w):(Code.block id (.loop c)).wpIn F m C.P Q a w :=
 wpIn_block (ciJ I J μ θ0 h0 hA hr)
end
inductive Rk where
 |old (k:Nat)
 |nil
 |frz (k:Nat)
 |cpy (k:Nat)
abbrev Rm:=List (Nat×Rk)
def Um (a b:Option (List Prop)):Option (List Prop):=match a with
 |some l=>match b with
  |some l'=>some (l++l')
  |none=>none
 |none=>none
theorem kx {a b:Option (List Prop)}{l:List Prop}(h:Um a b=some l):∃ x y,a=some x/\b=some y/\l=x++y:=by
 unfold Um at h;split at h
 ·rename_i x;split at h
  ·rename_i y;injection h with h
   exact⟨x,y,rfl,rfl,h.symm⟩
  ·cases h
 ·cases h
def Yr (r:Rm) (b k:Nat):Bool:=match find b r with
 |some (.old j)=>Nat.beq j k
 |_=>false
theorem yJ {r:Rm}{b k:Nat}(h:Yr r b k=true):find b r=some (.old k):=by
 unfold Yr at h;split at h
 ·rename_i j hj;rw[hj,cn h]
 ·cases h
def cga (r:Rm) (b k:Nat):Bool:=match find b r with
 |some (.cpy j)=>Nat.beq j k
 |_=>false
theorem Yb {r:Rm}{b k:Nat}(h:cga r b k=true):find b r=some (.cpy k):=by
 unfold cga at h;split at h
 ·rename_i j hj;rw[hj,cn h]
 ·cases h
def isFrz (r:Rm) (b k:Nat):Bool:=match find b r with
 |some (.frz j)=>Nat.beq j k
 |_=>false
theorem ceL {r:Rm}{b k:Nat}(h:isFrz r b k=true):find b r=some (.frz k):=by
 unfold isFrz at h;split at h
 ·rename_i j hj;rw[hj,cn h]
 ·cases h
def isNil (r:Rm) (b:Nat):Bool:=match find b r with
 |some .nil=>true
 |_=>false
theorem cek {r:Rm}{b:Nat}(h:isNil r b=true):find b r=some .nil:=by
 unfold isNil at h;split at h
 ·assumption
 ·cases h
def ED (b:Bool) (l:List Prop):Option (List Prop):=match b with
 |true=>some l
 |false=>none
theorem kK {b:Bool}{l m:List Prop}(h:ED b l=some m):b=true/\l=m:=by
 unfold ED at h;split at h
 ·injection h with h;exact⟨rfl,h⟩
 ·cases h
def UA (bl:Nat->Bool) (r:Rm) (b k:Nat):Bool:=match bl k with
 |true=>Yr r b k
 |false=>false
theorem Cp {bl:Nat->Bool}{r:Rm}{b k:Nat}(h:UA bl r b k=true):bl k=true/\find b r=some (.old k):=by
 unfold UA at h;split at h
 ·rename_i hb;exact⟨hb,yJ h⟩
 ·cases h
def Ke (m:Ws D) (b:Nat):Bool:=match find b m with
 |some (.blk ..)=>true
 |some (.mp ..)=>true
 |some (.mf ..)=>true
 |some (.loop ..)=>true
 |some .mark=>true
 |_=>false
def cfM (bl:Nat->Bool) (r:Rm):AC->AC->Option (List Prop)
 |.lit v,.lit v'=>some [v=v']
 |.sym s j,.sym s' j'=>match cga r s s' with
  |true=>ED (Nat.beq j j') []
  |false=>none
 |.sym s 0,.fn b=>ED (isFrz r s b) []
 |.ptr b o,.ptr b' o'=>ED (UA bl r b b') [o=o']
 |.slc b o n c,.slc b' o' n' c'=>ED (UA bl r b b') [o=o',n=n',c=c']
 |.gsl b n,.gsl b' n'=>ED (UA bl r b b') [n=n']
 |.fn b,.fn b'=>ED (Yr r b b') []
 |.yld b,.yld b'=>ED (UA bl r b b') []
 |.fn b,.lit (.slice none 0 0)=>ED (isNil r b) []
 |_,_=>none
def ZS (bl:Nat->Bool) (r:Rm):List AC->List AC->Option (List Prop)
 |[],[]=>some []
 |c::cs,d::ds=>Um (cfM bl r c d) (ZS bl r cs ds)
 |_,_=>none
def cfz (bl:Nat->Bool) (r:Rm):A1->A1->Option (List Prop)
 |.one c,.one d=>cfM bl r c d
 |.agg cs,.agg ds=>ZS bl r cs ds
 |_,_=>none
def Yi (bl:Nat->Bool) (r:Rm):List A1->List A1->Option (List Prop)
 |[],[]=>some []
 |c::cs,d::ds=>Um (cfz bl r c d) (Yi bl r cs ds)
 |_,_=>none
def cfo (bl:Nat->Bool) (r:Rm):AV->AV->Option (List Prop)
 |.val x,.val y=>cfz bl r x y
 |.tup l,.tup m=>Yi bl r l m
 |_,_=>none
def Env.ren (e:Env) (r:Rm):Env where
 ρ:=fun b=>match find b r with
  |some (.old k)=>match e.al k with
   |true=>e.ρ k
   |false=>none
  |_=>none
 κ:=fun b=>match find b r with
  |some (.old k)=>e.κ k
  |_=>0
 ν:=fun b=>match find b r with
  |some (.old k)=>e.ν k
  |some (.cpy k)=>e.ν k
  |some (.frz k)=>match e.φ k with
   |some v=>some [v]
   |none=>none
  |_=>none
 φ:=fun b=>match find b r with
  |some (.old k)=>e.φ k
  |some .nil=>some (.slice none 0 0)
  |_=>none
 al:=fun b=>match find b r with
  |some (.old k)=>e.al k
  |_=>false
 ot:=e.ot
section
variable {e:Env}{r:Rm}{bl:Nat->Bool}
def KH (e:Env) (r:Rm):Prop:=∀ b k,find b r=some (.frz k)->∀ v,e.φ k=some v->v.oneCell'=true
def can (e:Env) (bl:Nat->Bool):Prop:=∀ k,bl k=true->e.al k=true
theorem KGρ {b k:Nat}(hb:find b r=some (.old k)) (ha:e.al k=true):(e.ren r).ρ b=e.ρ k:=by
 simp only[Env.ren,hb,ha]
theorem KGκ {b k:Nat}(hb:find b r=some (.old k)):(e.ren r).κ b=e.κ k:=by
 simp only[Env.ren,hb]
theorem ccd (ha:can e bl) (hz:KH e r) {c d:AC}{l:List Prop}(h:cfM bl r c d=some l) (ho:cX l) {v:Value}(hd:d.is e v):c.is (e.ren r) v:=by
 unfold cfM at h;split at h
 ·injection h with h;subst h
  obtain rfl:=ho.1;exact hd
 ·split at h
  ·rename_i hs;obtain⟨h1,_⟩:=kK h;obtain⟨f,h2,h3,h4⟩:=hd;refine⟨f,?_,by rw[cn h1];exact h3,h4⟩;simp only[Env.ren,Yb hs];exact h2
  ·cases h
 ·rename_i s b;obtain⟨h1,_⟩:=kK h;have hf:=ceL h1;have hd:e.φ b=some v:=hd;refine⟨[v],?_,rfl,hz _ _ hf v hd⟩;simp only[Env.ren,hf,hd]
 ·obtain⟨h1,h2⟩:=kK h;subst h2;obtain⟨hb,h1⟩:=Cp h1;obtain⟨k,h3,h4⟩:=hd;exact⟨k,by rw[KGρ h1 (ha _ hb)];exact h3,by rw[h4,ho.1]⟩
 ·obtain⟨h1,h2⟩:=kK h;subst h2;obtain⟨hb,h1⟩:=Cp h1;obtain⟨k,h3,h4⟩:=hd;exact⟨k,by rw[KGρ h1 (ha _ hb)];exact h3,by rw[h4,ho.1,ho.2.1,ho.2.2.1]⟩
 ·obtain⟨h1,h2⟩:=kK h;subst h2;obtain⟨hb,h1⟩:=Cp h1;obtain⟨k,h3,h4⟩:=hd;exact⟨k,by rw[KGρ h1 (ha _ hb)];exact h3,by rw[KGκ h1,h4,ho.1]⟩
 ·obtain⟨h1,_⟩:=kK h;show (e.ren r).φ _=some v;simp only[Env.ren,yJ h1];exact hd
 ·obtain⟨h1,h2⟩:=kK h;subst h2;obtain⟨hb,h1⟩:=Cp h1;obtain⟨k,h3,h4⟩:=hd;exact⟨k,by rw[KGρ h1 (ha _ hb)];exact h3,h4⟩
 ·obtain⟨h1,_⟩:=kK h;show (e.ren r).φ _=some v;simp only[Env.ren,cek h1];rw[show v=_ from hd]
 ·cases h
theorem YX (ha:can e bl) (hz:KH e r):∀ {cs ds:List AC}{l:List Prop}{vs:List Value},ZS bl r cs ds=some l->cX l->cjd e ds vs->cjd (e.ren r) cs vs
 |[],[],l,vs,h,ho,hd=>hd
 |c::cs,d::ds,l,vs,h,ho,⟨v,ws,h1,h2,h3⟩=>by
  obtain⟨x,y,q1,q2,rfl⟩:=kx h;obtain⟨o1,o2⟩:=ho.append;exact⟨v,ws,h1,ccd ha hz q1 o1 h2,YX ha hz q2 o2 h3⟩
 |[],_::_,l,vs,h,_,_=>by simp [ZS] at h
 |_::_,[],l,vs,h,_,_=>by simp [ZS] at h
theorem ccO (ha:can e bl) (hz:KH e r) {x y:A1}{l:List Prop}(h:cfz bl r x y=some l) (ho:cX l) {v:Value}(hd:y.is e v):x.is (e.ren r) v:=by
 unfold cfz at h;split at h
 ·exact ccd ha hz h ho hd
 ·obtain⟨vs,h1,h2⟩:=hd;exact⟨vs,YX ha hz h ho h1,h2⟩
 ·cases h
theorem JV (ha:can e bl) (hz:KH e r):∀ {cs ds:List A1}{l:List Prop}{vs:List Value},Yi bl r cs ds=some l->cX l->ke e ds vs->ke (e.ren r) cs vs
 |[],[],l,vs,h,ho,hd=>hd
 |c::cs,d::ds,l,vs,h,ho,⟨v,ws,h1,h2,h3⟩=>by
  obtain⟨x,y,q1,q2,rfl⟩:=kx h;obtain⟨o1,o2⟩:=ho.append;exact⟨v,ws,h1,ccO ha hz q1 o1 h2,JV ha hz q2 o2 h3⟩
 |[],_::_,l,vs,h,_,_=>by simp [Yi] at h
 |_::_,[],l,vs,h,_,_=>by simp [Yi] at h
theorem cck (ha:can e bl) (hz:KH e r) {x y:AV}{l:List Prop}(h:cfo bl r x y=some l) (ho:cX l) {v:Value}(hd:y.is e v):x.is (e.ren r) v:=by
 unfold cfo at h;split at h
 ·exact ccO ha hz h ho hd
 ·obtain⟨vs,h1,h2⟩:=hd;exact⟨vs,JV ha hz h ho h1,h2⟩
 ·cases h
end
def cE (C:Ctx D) (d d':D):Prop:=∀ w l,C.E d' w l->C.E d w l
def cL (C:Ctx D) (gs gs':List (Grp D)):Prop:=∀ w vs,Gw C w gs' vs->Gw C w gs vs
theorem cE.refl (C:Ctx D) (d:D):cE C d d:=fun _ _ h=>h
theorem cL.refl (C:Ctx D) (gs:List (Grp D)):cL C gs gs:=fun _ _ h=>h
def optEq:Option Nat->Option Nat->Bool
 |none,none=>true
 |some a,some b=>Nat.beq a b
 |_,_=>false
theorem chU {a b:Option Nat}(h:optEq a b=true):a=b:=by
 unfold optEq at h;split at h
 ·rfl
 ·rw[cn h]
 ·cases h
def fitS (bl:Nat->Bool) (r:Rm) (sl:List (Nat×AV)):List (Nat×AV)->Option (List Prop)
 |[]=>some []
 |p::l=>match find p.1 sl with
  |some y=>Um (cfo bl r p.2 y) (fitS bl r sl l)
  |none=>none
def obSub (C:Ctx D) (bl:Nat->Bool) (r:Rm):kU D->kU D->Option (List Prop)
 |.blk ty cs z,.blk ty' cs' z'=>match Nat.beq ty ty',optEq z z' with
  |true,true=>ZS bl r cs cs'
  |_,_=>none
 |.clo f p q,.clo f' p' q'=>match Nat.beq f f' with
  |true=>Um (Yi bl r p p') (Yi bl r q q')
  |false=>none
 |.cls d,.cls d'=>some [cE C d d']
 |.gl ty z n g,.gl ty' z' n' g'=>match Nat.beq ty ty',Nat.beq z z' with
  |true,true=>some [n=n',∀ j,j<n->cL C (g j) (g' j)]
  |_,_=>none
 |.cp l i z o,.cp l' i' z' o'=>match cga r l l' with
  |true=>ED (Nat.beq z z') [i=i',o=o']
  |false=>none
 |.loop nt sl ps fid asg body ls,.loop nt' sl' ps' fid' asg' body' ls'=>Um (some [nt=nt',ps=ps',fid=fid',asg=asg',body=body',ls=ls']) (fitS bl r sl' sl)
 |.mark,.mark=>some []
 |.mf nk vk g none,.mf nk' vk' g' _=>match Nat.beq nk nk' with
  |true=>some [vk=vk',∀ k,g k=g' k]
  |false=>none
 |.dead,_=>some []
 |_,_=>none
def fitO (C:Ctx D) (r:Rm) (m:Ws D) (b:Nat) (o:kU D):Option (List Prop) :=
 match find b r with
 |some (.old k)=>match find k m with
  |some (.es l' i' n' z')=>match o with
   |.es l i n z=>match Yr r l l',find l' m with
    |true,some (.gl _ _ N _)=>ED (Nat.beq z z') [i=i',n=n',0<N]
    |_,_=>none
   |.dead=>some []
   |_=>none
  |some o'=>obSub C (Ke m) r o o'
  |none=>none
 |some .nil=>match o with
  |.gl _ _ n _=>some [n=0]
  |_=>none
 |some (.cpy k)=>match find k m with
  |some (.cls d')=>match o with
   |.cls d=>some [cE C d d']
   |_=>none
  |_=>none
 |some (.frz k)=>match find k m with
  |some (.gl ty z n g)=>match o with
   |.cls d=>some [∀ w v,C.E (C.mkL ⟨C.lo,ty,z,n,g⟩) w [v]->C.E d w [v]]
   |_=>none
  |_=>none
 |none=>match o with
  |.dead=>some []
  |_=>none
def fitM (C:Ctx D) (r:Rm) (m:Ws D):Ws D->Option (List Prop)
 |[]=>some []
 |p::l=>Um (fitO C r m p.1 p.2) (fitM C r m l)
def cbp (n:Nat):Rm->Bool
 |[]=>true
 |p::l=>match Nat.blt p.1 n with
  |true=>cbp n l
  |false=>false
def yu:Rm->List Nat
 |[]=>[]
 |(_,.old k)::l=>k::yu l
 |(_,.frz k)::l=>k::yu l
 |(_,.nil)::l=>yu l
 |(_,.cpy _)::l=>yu l
def EO:List Nat->Bool
 |[]=>true
 |k::l=>match UY k l with
  |true=>false
  |false=>EO l
def frzB (m:Ws D):Rm->Bool
 |[]=>true
 |(_,.frz k)::l=>match find k m with
  |some (.gl ..)=>frzB m l
  |_=>false
 |_::l=>frzB m l
def pinL (r:Rm):List Nat->Bool
 |[]=>true
 |b::l=>match Yr r b b with
  |true=>pinL r l
  |false=>false
def pinR (m:Ws D) (r:Rm):List Nat->Bool
 |[]=>true
 |b::l=>match Yr r b b,Ke m b with
  |true,true=>pinR m r l
  |_,_=>false
def pinB (C:Ctx D) (m:Ws D) (r:Rm):Bool:=match C.fr with
 |none=>true
 |some F=>match pinL r F.pf with
  |true=>pinR m r F.pr
  |false=>false
def eqL:List Nat->List Nat->Bool
 |[],[]=>true
 |a::l,b::l'=>match Nat.beq a b with
  |true=>eqL l l'
  |false=>false
 |_,_=>false
theorem eqL_eq:∀ {l l':List Nat},eqL l l'=true->l=l'
 |[],[],_=>rfl
 |a::l,b::l',h=>by
  unfold eqL at h;split at h
  ·rename_i hb;rw[cn hb,eqL_eq h]
  ·cases h
 |[],_::_,h=>by cases h
 |_::_,[],h=>by cases h
theorem caB {r:Rm}:∀ {l:List Nat},pinL r l=true->∀ b∈l,find b r=some (.old b)
 |[],_,b,hb=>by cases hb
 |a::l,h,b,hb=>by
  unfold pinL at h;split at h
  ·rename_i h0;rcases List.mem_cons.1 hb with rfl|hb
   ·exact yJ h0
   ·exact caB h b hb
  ·cases h
theorem cbv {m:Ws D}{r:Rm}:∀ {l:List Nat},pinR m r l=true->∀ b∈l,find b r=some (.old b)/\Ke m b=true
 |[],_,b,hb=>by cases hb
 |a::l,h,b,hb=>by
  unfold pinR at h;split at h
  ·rename_i h0 h1;rcases List.mem_cons.1 hb with rfl|hb
   ·exact⟨yJ h0,h1⟩
   ·exact cbv h b hb
  ·cases h
def fit (C:Ctx D) (r:Rm) (st st':St D):Option (List Prop) :=
 match cbp st'.nb r,EO (yu r),frzB st.m r,pinB C st.m r,eqL st.ms st'.ms,pinR st.m r st.ms with
 |true,true,true,true,true,true=>Um (fitM C r st.m st'.m) (fitS (Ke st.m) r st.sl st'.sl)
 |_,_,_,_,_,_=>none
section
variable {C:Ctx D}{e:Env}{w:World}{r:Rm}{st st':St D}{nt:Nat}{a:Act}
theorem cfK {m:Ws D}:∀ {l:Ws D}{ob:List Prop},fitM C r m l=some ob->cX ob->∀ b o,find b l=some o->∃ ob',fitO C r m b o=some ob'/\cX ob'
 |[],ob,h,ho,b,o,hb=>by simp [cP] at hb
 |p::l,ob,h,ho,b,o,hb=>by
  obtain⟨x,y,q1,q2,rfl⟩:=kx h;obtain⟨o1,o2⟩:=ho.append;rw[cC] at hb;split at hb
  ·rename_i hp;injection hb with hb;subst hb
   rw[← cn hp];exact⟨x,q1,o1⟩
  ·exact cfK q2 o2 b o hb
theorem cby {bl:Nat->Bool}{sl:List (Nat×AV)}:∀ {l:List (Nat×AV)}{ob:List Prop},fitS bl r sl l=some ob->cX ob->∀ t x,find t l=some x->∃ y ob',find t sl=some y/\cfo bl r x y=some ob'/\cX ob'
 |[],ob,h,ho,b,o,hb=>by simp [cP] at hb
 |p::l,ob,h,ho,b,o,hb=>by
  unfold fitS at h;split at h
  rotate_left
  ·cases h
  rename_i y hy;obtain⟨x,z,q1,q2,rfl⟩:=kx h;obtain⟨o1,o2⟩:=ho.append;rw[cC] at hb;split at hb
  ·rename_i hp;injection hb with hb;subst hb
   rw[← cn hp];exact⟨y,x,hy,q1,o1⟩
  ·exact cby q2 o2 b o hb
theorem GM {k:Nat}:∀ {l:List Nat},k∈l->UY k l=true
 |b::l,h=>by
  unfold UY;split
  ·rfl
  ·rename_i hb;rcases List.mem_cons.1 h with rfl|h
   ·simp at hb
   ·exact GM h
theorem zS {b k:Nat}:∀ {r:Rm},(b,Rk.old k)∈r\/(b,Rk.frz k)∈r->k∈yu r
 |[],h=>by simp at h
 |(b',.old k')::l,h=>by
  simp only[zU,co,Rk.old.injEq,reduceCtorEq,and_false,false_or] at h;simp only[yu,zU];rcases h with(⟨_,rfl⟩|h)|h
  ·exact .inl rfl
  ·exact .inr (zS (.inl h))
  ·exact .inr (zS (.inr h))
 |(b',.frz k')::l,h=>by
  simp only[zU,co,Rk.frz.injEq,reduceCtorEq,and_false,false_or] at h;simp only[yu,zU];rcases h with h|(⟨_,rfl⟩|h)
  ·exact .inr (zS (.inl h))
  ·exact .inl rfl
  ·exact .inr (zS (.inr h))
 |(b',.nil)::l,h=>by
  simp only[zU,co,reduceCtorEq,and_false,false_or] at h;exact zS (r:=l) h
 |(b',.cpy _)::l,h=>by
  simp only[zU,co,reduceCtorEq,and_false,false_or] at h;exact zS (r:=l) h
theorem WI {k:Nat}:∀ {r:Rm}{b b':Nat},EO (yu r)=true->(find b r=some (.old k)\/find b r=some (.frz k))->(find b' r=some (.old k)\/find b' r=some (.frz k))->b=b'
 |[],b,b',_,h,_=>by simp [cP] at h
 |p::l,b,b',hn,h,h'=>by
  have hn':EO (yu l)=true:=by
   obtain⟨x,y⟩:=p;cases y<;>simp only[yu] at hn
   ·unfold EO at hn;split at hn
    ·cases hn
    ·exact hn
   ·exact hn
   ·unfold EO at hn;split at hn
    ·cases hn
    ·exact hn
   ·exact hn
  have no:(p.2=.old k\/p.2=.frz k)->∀ b,¬ (find b l=some (.old k)\/find b l=some (.frz k)):=by
   intro hp b hb;have hm:k∈yu l:=zS (b:=b) (hb.imp yg yg);obtain⟨x,y⟩:=p;rcases hp with hp|hp
   ·simp only at hp;subst hp;simp only[yu,EO,GM hm] at hn;cases hn
   ·simp only at hp;subst hp;simp only[yu,EO,GM hm] at hn;cases hn
  rw[cC] at h h';cases h1:Nat.beq p.1 b with
  |true =>
   cases h2:Nat.beq p.1 b' with
   |true=>rw[← cn h1,← cn h2]
   |false =>
    rw[h1] at h;rw[h2] at h';exact absurd h' (no (by simpa using h) b')
  |false =>
   cases h2:Nat.beq p.1 b' with
   |true =>
    rw[h1] at h;rw[h2] at h';exact absurd h (no (by simpa using h') b)
   |false =>
    rw[h1] at h;rw[h2] at h';exact WI hn' h h'
theorem UG {n:Nat}:∀ {r:Rm}{b:Nat}{x:Rk},cbp n r=true->find b r=some x->b<n
 |[],b,x,h,hb=>by simp [cP] at hb
 |p::l,b,x,h,hb=>by
  unfold cbp at h;split at h
  ·rename_i hp;rw[cC] at hb;split at hb
   ·rename_i hpb;rw[← cn hpb];exact cjh hp
   ·exact UG h hb
  ·cases h
theorem CI {m:Ws D}:∀ {r:Rm}{b k:Nat},frzB m r=true->find b r=some (.frz k)->∃ ty z n g,find k m=some (.gl ty z n g)
 |[],b,k,h,hb=>by simp [cP] at hb
 |(x,y)::l,b,k,h,hb=>by
  rw[cC] at hb;split at hb
  ·injection hb with hb
   simp only at hb;subst hb;simp only[frzB] at h;split at h
   ·rename_i hg;exact⟨_,_,_,_,hg⟩
   ·cases h
  ·cases y<;>simp only[frzB] at h
   ·exact CI h hb
   ·exact CI h hb
   ·split at h
    ·exact CI h hb
    ·cases h
   ·exact CI h hb
theorem cL.rob {gs gs':List (Grp D)}{e':Env}{vs:List Value}(h:cL C gs gs') (hk:∀ w',jy e' w w'->jy e w w') (hr:Cd C e w gs' vs):Cd C e' w gs vs:=fun w' k=>h w' vs (hr w' (hk w' k))
theorem ZP {m:Ws D}(hlv:∀ b,Ke m b=true->e.al b=true):∀ {bs rs:List Nat},(∀ b∈bs,find b r=some (.old b)/\Ke m b=true)->Cq e bs rs->Cq (e.ren r) bs rs
 |[],_,_,h=>h
 |b::bs,rs,hb,⟨x,rs',h1,h2,h3⟩=>by
  obtain⟨p1,p2⟩:=hb b (by simp);exact⟨x,rs',h1,by rw[KGρ p1 (hlv b p2)];exact h2,ZP hlv (fun b hb'=>hb b (zG _ hb')) h3⟩
theorem fit_is (hC:C.Ok) {ob:List Prop}(h:fit C r st st'=some ob) (ho:cX ob) (hA:At C nt st a w):At C nt st' a w:=by
 unfold fit at h;split at h
 rotate_left
 ·cases h
 rename_i hkl hnd hfz hpin hms hmr
 replace hms:=eqL_eq hms
 obtain⟨x,y,q1,q2,rfl⟩:=kx h;obtain⟨o1,o2⟩:=ho.append;obtain⟨⟨e,hg,hM,hV,hfr,rs,hdf,hmk⟩,hsz⟩:=hA;have hF:KH e r:=by
  intro b k hb v hv;obtain⟨ty,z,n,g,hk⟩:=CI hfz hb;obtain⟨v',h1,h2⟩:=hM _ _ hk;rw[hv] at h1;injection h1 with h1;subst h1
  rcases h2 with⟨_,rfl⟩|⟨_,_,_,_,_,_,_,rfl,_⟩<;>rfl
 have hρ:∀ b k,(e.ren r).ρ b=some k->∃ i,find b r=some (.old i)/\e.ρ i=some k/\e.al i=true:=by
  intro b k hb;simp only[Env.ren] at hb;split at hb
  ·rename_i i hi;split at hb
   ·rename_i ha;exact⟨i,hi,hb,ha⟩
   ·cases hb
  ·cases hb
 have hkeep:∀ w',jy (e.ren r) w w'->jy e w w':=by
  intro w' k;refine⟨k.size,fun j hj hn ht=>k.block j hj (fun b hb=>?_) ht⟩;obtain⟨i,_,h1,_⟩:=hρ b j hb;exact hn _ h1
 have hlv:∀ b,Ke st.m b=true->e.al b=true:=by
  intro b hb;unfold Ke at hb;split at hb
  ·rename_i h;obtain⟨_,_,_,_,_,h2,_⟩:=hM _ _ h;exact h2
  ·rename_i h;obtain⟨_,_,_,h2,_⟩:=hM _ _ h;exact h2
  ·rename_i h;obtain⟨_,_,_,_,_,h2,_⟩:=hM _ _ h;exact h2
  ·rename_i h;obtain⟨_,_,_,h2,_⟩:=hM _ _ h;exact h2
  ·rename_i h;obtain⟨_,_,h2,_⟩:=hM _ _ h;exact h2
  ·cases hb
 have hA0:can e (Ke st.m):=fun k hk=>hlv k hk;have hal:∀ b,(e.ren r).al b=true->∃ i,find b r=some (.old i)/\e.al i=true:=by
  intro b hb;simp only[Env.ren] at hb;split at hb
  ·rename_i i hi;exact⟨i,hi,hb⟩
  ·cases hb
 have hgo:Kv C (e.ren r) w:=by
  refine⟨hg.below,?_,?_,?_⟩
  rotate_left 2
  ·refine⟨fun k hk=>?_,fun F hf=>?_⟩
   ·obtain⟨p1,p2⟩:=hg.fr.1 k hk;refine⟨fun b hb=>?_,p2⟩;obtain⟨i,_,p3,_⟩:=hρ b k hb;exact p1 i p3
   ·obtain⟨h1,h2,h2',h3,h4,h5⟩:=hg.fr.2 F hf;unfold pinB at hpin;rw[hf] at hpin;simp only at hpin;split at hpin
    rotate_left
    ·cases hpin
    rename_i hpl;refine⟨fun b v hb=>?_,fun b v hb=>?_,fun b k hb=>?_,fun b j hb=>?_,h4,h5⟩
    ·obtain⟨p1,p2⟩:=h1 b v hb;exact⟨p1,by simp only[Env.ren,caB hpl b p1];exact p2⟩
    ·obtain⟨p1,p2⟩:=h2 b v hb;exact⟨p1,by simp only[Env.ren,caB hpl b p1];exact p2⟩
    ·obtain⟨p1,p2⟩:=h2' b k hb;obtain⟨p3,p4⟩:=cbv hpin b p1;exact⟨p1,by rw[KGρ p3 (hlv b p4)];exact p2⟩
    ·obtain⟨i,_,p2,_⟩:=hρ b j hb;exact h3 i j p2
  ·intro b b' k h1 h2 h3 h4;obtain⟨i,p1,p2⟩:=hal b h1;obtain⟨i',p3,p4⟩:=hal b' h2;obtain⟨j,p5,p6,_⟩:=hρ b k h3;obtain⟨j',p7,p8,_⟩:=hρ b' k h4;rw[p1] at p5;injection p5 with p5;injection p5 with p5;subst p5
   rw[p3] at p7;injection p7 with p7;injection p7 with p7;subst p7
   have:=hg.inj i i' k p2 p4 p6 p8;subst this;exact WI hnd (.inl p1) (.inl p3)
  ·intro b k hb;obtain⟨i,_,p2,_⟩:=hρ b k hb;exact hg.own i k p2
 refine⟨⟨e.ren r,hgo,?_,?_,?_,rs,hdf,by
  rw[← hms];exact ZP hlv (cbv hmr) hmk⟩,hsz⟩
 ·intro b o hb;obtain⟨ob',h1,h2⟩:=cfK q1 o1 b o hb;unfold fitO at h1;split at h1
  ·rename_i k hk;split at h1
   ·rename_i l' i' n' z' ho';split at h1
    ·rename_i l i n z;split at h1
     rotate_left
     ·cases h1
     rename_i ty z1 N g hl hgl;obtain⟨hz,h1⟩:=kK h1;subst h1;obtain rfl:=cn hz;obtain⟨s1,s2,s3,_⟩:=h2;have s1:i=i':=s1;have s2:n=n':=s2;have s3:0<N:=s3;subst s1;subst s2;obtain⟨kk,N',c,p1,p2,p2',p3⟩:=hM k _ ho';obtain⟨v,p4,p5⟩:=hM _ _ hgl;rcases p5 with⟨p5,_⟩|⟨kk',c',arr,vs,rest,p5,p6,_⟩
     ·omega
     ·exact⟨kk,N',c,by rw[KGρ (yJ hl) p6];exact p1,by simp only[Env.ren,yJ hl];exact p2,p2',by simp only[Env.ren,hk];exact p3⟩
    ·trivial
    ·cases h1
   rotate_left
   ·cases h1
   rename_i o' hneg ho';clear hneg;have hh:=hM k o' ho';unfold obSub at h1;split at h1
   ·rename_i ty cs z ty' cs' z';split at h1
    rotate_left
    ·cases h1
    rename_i ht hz;obtain rfl:=cn ht;obtain rfl:=chU hz;obtain⟨kk,arr,vs,rest,p1,p2,p3,p4,p5,p6⟩:=hh;refine⟨kk,arr,vs,rest,by rw[KGρ hk p2];exact p1,by simp only[Env.ren,hk];exact p2,p3,p4,YX hA0 hF h1 h2 p5,?_⟩;cases z with
    |none=>exact p6
    |some z=>simp only[Env.ren,hk];exact p6
   ·rename_i f p q f' p' q';split at h1
    rotate_left
    ·cases h1
    rename_i hf;obtain rfl:=cn hf;obtain⟨x1,y1,r1,r2,rfl⟩:=kx h1;obtain⟨t1,t2⟩:=h2.append;obtain⟨us,vs,p1,p2,p3⟩:=hh;exact⟨us,vs,by simp only[Env.ren,hk];exact p1,JV hA0 hF r1 t1 p2,JV hA0 hF r2 t2 p3⟩
   ·rename_i d d';injection h1 with h1;subst h1
    obtain⟨f,p1,p2⟩:=hh;exact⟨f,by simp only[Env.ren,hk];exact p1,fun w' kk=>h2.1 w' f (p2 w' (hkeep w' kk))⟩
   ·rename_i ty z n g ty' z' n' g';split at h1
    rotate_left
    ·cases h1
    rename_i ht hz;obtain rfl:=cn ht;obtain rfl:=cn hz;injection h1 with h1;subst h1
    obtain⟨hn,hgg,_⟩:=h2;have hn:n=n':=hn;subst hn;obtain⟨v,p1,p2⟩:=hh;refine⟨v,by simp only[Env.ren,hk];exact p1,p2.imp id ?_⟩;rintro⟨kk,c,arr,vs,rest,p3,p4,p5,p6,p7,p8,p9,p10,p11,p12⟩;exact⟨kk,c,arr,vs,rest,by rw[KGρ hk p4];exact p3,by simp only[Env.ren,hk];exact p4,p5,p6,p7,p8,p9,p10,p11,fun j hj=>cL.rob (hgg j hj) hkeep (p12 j hj)⟩
   ·rename_i l i z o l' i' z' o';split at h1
    rotate_left
    ·cases h1
    rename_i hl;obtain⟨hz,h1⟩:=kK h1;subst h1;obtain rfl:=cn hz;obtain⟨kk,p,n,c,p1,p2⟩:=hh;refine⟨kk,p,n,c,?_,?_⟩
    ·simp only[Env.ren,Yb hl];exact p1
    ·simp only[Env.ren,hk];rw[p2,h2.1,h2.2.1]
   ·rename_i nt1 sl ps fid asg body ls nt' sl' ps' fid' asg' body' ls';obtain⟨x1,y1,r1,r2,rfl⟩:=kx h1;injection r1 with r1;subst r1
    obtain⟨⟨rfl,rfl,_,rfl,rfl,rfl,_⟩,t2⟩:=h2.append;obtain⟨kk,rr,p1,p2,p3,pφ,p4,p5,p6,p7,p8,p9⟩:=hh;refine⟨kk,rr,by rw[KGρ hk p2];exact p1,by simp only[Env.ren,hk];exact p2,p3,by simp only[Env.ren,hk];exact pφ,p4,p5,p6,p7,fun tt xx hx=>?_,p9⟩;obtain⟨y,ob'',s1,s2,s3⟩:=cby r2 t2 tt xx hx;obtain⟨v,s4,s5⟩:=p8 tt y s1;exact⟨v,s4,cck hA0 hF s2 s3 s5⟩
   ·obtain⟨kk,p1,p2,p3⟩:=hh;exact⟨kk,by rw[KGρ hk p2];exact p1,by simp only[Env.ren,hk];exact p2,p3⟩
   ·split at h1
    rotate_left
    ·cases h1
    rename_i hn;obtain rfl:=cn hn;injection h1 with h1;subst h1
    obtain⟨rfl,hg,_⟩:=h2;obtain⟨kk,arr,ck,l,p1,p2,p3,p4,p5,p6⟩:=hh;exact⟨kk,arr,ck,l,by rw[KGρ hk p2];exact p1,by simp only[Env.ren,hk];exact p2,by simp only[Env.ren,hk];exact p3,p4,⟨p5.ents,p5.wide,p5.born,p5.apart,fun k=>(p5.val k).trans (hg k).symm⟩,fun _ _ h=>by cases h⟩
   ·trivial
   ·cases h1
  ·rename_i hk;split at h1
   ·injection h1 with h1;subst h1
    exact⟨_,by simp only[Env.ren,hk],.inl ⟨h2.1,rfl⟩⟩
   ·cases h1
  ·rename_i k hk;split at h1
   rotate_left
   ·cases h1
   rename_i d' ho';split at h1
   rotate_left
   ·cases h1
   rename_i d;injection h1 with h1;subst h1
   obtain⟨f,p1,p2⟩:=hM k _ ho';exact⟨f,by simp only[Env.ren,hk];exact p1,fun w' kk=>h2.1 w' f (p2 w' (hkeep w' kk))⟩
  ·rename_i k hk;split at h1
   rotate_left
   ·cases h1
   rename_i ty z n g hgl;split at h1
   rotate_left
   ·cases h1
   rename_i d;injection h1 with h1;subst h1
   obtain⟨hd,_⟩:=h2;obtain⟨v,p1,p2⟩:=hM _ _ hgl;refine⟨[v],by simp only[Env.ren,hk,p1],fun w' kw=>hd w' v (hC.lists _ _ _ ?_)⟩;rcases p2 with p2|⟨kk,c,arr,vs,rest,p3,p4,p5,p6,p7,p8,p9,p10,p11,p12⟩
   ·exact .inl ⟨p2.1,none,p2.2⟩
   ·refine .inr ⟨kk,0,c,arr,[],vs,rest,p5,p10,?_,by simpa using p7,rfl,p8,cB hC.los (hg.own _ _ p3).1,p11,fun j hj=>(p12 j hj) w' (hkeep w' kw)⟩;rw[kw.block kk (Array.getElem?_eq_some_iff.1 p6).1 (fun b' hb'=>?_) (fun ht=>(hg.fr.1 kk ht).1 k p3)]
    ·exact⟨_,p6⟩
    ·obtain⟨i,s1,s2,s3⟩:=hρ b' kk hb';have:=hg.inj i k kk s3 p4 s2 p3;subst this;have:=WI hnd (.inl s1) (.inr hk);subst this;rw[s1] at hk;cases hk
  ·rename_i hk;split at h1
   ·trivial
   ·cases h1
 ·intro t x hx;obtain⟨y,ob',h1,h2,h3⟩:=cby q2 o2 t x hx;obtain⟨v,h4,h5⟩:=hV t y h1;exact⟨v,h4,cck hA0 hF h2 h3 h5⟩
 ·intro b hb;have hn:find b r=none:=by
   cases hx:find b r with
   |none=>rfl
   |some y=>have:=UG hkl hx;omega
  simp only[Env.ren,hn];exact⟨trivial,trivial,trivial⟩
end
variable {D:Type}
def pairC:AC->AC->Rm
 |.sym s _,.sym s' _=>[(s,.cpy s')]
 |.sym s _,.fn b=>[(s,.frz b)]
 |.ptr b _,.ptr b' _=>[(b,.old b')]
 |.slc b _ _ _,.slc b' _ _ _=>[(b,.old b')]
 |.gsl b _,.gsl b' _=>[(b,.old b')]
 |.fn b,.fn b'=>[(b,.old b')]
 |.yld b,.yld b'=>[(b,.old b')]
 |.fn b,.lit _=>[(b,.nil)]
 |_,_=>[]
def cdy:List AC->List AC->Rm
 |c::cs,d::ds=>pairC c d++cdy cs ds
 |_,_=>[]
def pair1:A1->A1->Rm
 |.one c,.one d=>pairC c d
 |.agg cs,.agg ds=>cdy cs ds
 |_,_=>[]
def cbP:List A1->List A1->Rm
 |c::cs,d::ds=>pair1 c d++cbP cs ds
 |_,_=>[]
def pairV:AV->AV->Rm
 |.val x,.val y=>pair1 x y
 |.tup l,.tup m=>cbP l m
 |_,_=>[]
def ccN (sl:List (Nat×AV)):List (Nat×AV)->Rm
 |[]=>[]
 |p::l=>match find p.1 sl with
  |some y=>pairV p.2 y++ccN sl l
  |none=>ccN sl l
def pairO:Option (kU D)->Option (kU D)->Rm
 |some (.blk _ cs _),some (.blk _ ds _)=>cdy cs ds
 |some (.clo _ p q),some (.clo _ p' q')=>cbP p p'++cbP q q'
 |some (.cp s _ _ _),some (.cp s' _ _ _)=>[(s,.cpy s')]
 |some (.es l _ _ _),some (.es l' _ _ _)=>[(l,.old l')]
 |some (.loop _ sl ..),some (.loop _ sl' ..)=>ccN sl' sl
 |_,_=>[]
def ccf (m m':Ws D):Nat->Rm->Rm->Rm
 |0,_,r=>r
 |_+1,[],r=>r
 |n+1,p::q,r=>match memN p.1 r with
  |true=>ccf m m' n q r
  |false=>match p.2 with
   |.old k=>ccf m m' n (pairO (find p.1 m') (find k m)++q) (p::r)
   |_=>ccf m m' n q (p::r)
def Yz:List Nat->Rm
 |[]=>[]
 |b::l=>(b,.old b)::Yz l
def discC (C:Ctx D) (st st':St D):Rm:=match C.fr with
 |none=>ccf st.m st'.m 1000 (Yz st.ms++ccN st.sl st'.sl) []
 |some F=>ccf st.m st'.m 1000 (Yz F.pf++(Yz F.pr++(Yz st.ms++ccN st.sl st'.sl))) []
def fitTo (C:Ctx D) (st st':St D):Option (List Prop):=fit C (discC C st st') st st'
def segTo (C:Ctx D) (TT:FuncId->Tab D) (CF YF:cz D) (nt:Nat) (fid:FuncId) (inR:Bool) (n:Nat) (c:Code) (st st':St D):Option (Xt×List Prop) :=
 match Eh C.toStat TT CF YF nt (fun b=>find b st.m) fid inR n c ⟨st.nb,st.sl,[],st.ms⟩ with
 |some (x,s1,ob)=>match fitTo C (st.join s1) st' with
  |some ob2=>some (x,ob++ob2)
  |none=>none
 |none=>none
section
variable {F:Fence}{m:Nat}{C:Ctx D}{TT:FuncId->Tab D}{nt:Nat}{fid:FuncId}{inR:Bool}{Q:Exit->Act->World->Prop}{a:Act}{w:World}{st st':St D}
theorem ciX (hC:C.Ok) {ob:List Prop}(h:fitTo C st st'=some ob) (ho:cX ob) (hA:At C nt st a w):At C nt st' a w:=fit_is hC h ho hA
structure yD (C:Ctx D) (TT:FuncId->Tab D):Prop where
 ok:C.Ok
 name : ∀ (f : Nat) (fn : Func), C.P.funcs[f]? = some fn → (fn.name == "runtime.NumGoroutine") = false
 tab:∀ f,(TT f).Ok C
def Ret (C:Ctx D) (fn:Func) (R:Value->World->Prop):Exit->Act->World->Prop:=fun x a w=>(x=.ret\/x=.normal)/\LeavesInM Fence.wide 0 C.P fn a.tmps (fun en w'=>∃ v,en=.returned v/\R v w') a.defers .returning w
theorem ret_of {fn:Func}{R:Value->World->Prop}{x:Exit}(hx:x=.ret\/x=.normal) (hd:a.defers=[]) (h:∃ v,(results fn a.tmps).run C.P w=.ok v w/\R v w):Ret C fn R x a w:=by
 obtain⟨v,h1,h2⟩:=h;refine⟨hx,?_⟩;rw[hd];exact⟨v,h1,v,rfl,h2⟩
theorem ZJ {fn:Func}{R:Value->World->Prop}{nb:Nat}{sl:List (Nat×AV)}:∀ (bs:List Nat) (mm:Ws D) (a:Act) (w:World),At C nt ⟨nb,sl,mm,bs⟩ a w->Er bs mm=true->
 (∀ a' w',a'.tmps=a.tmps->At C nt ⟨nb,sl,uW bs mm,[]⟩ a' w'->∃ v,(results fn a.tmps).run C.P w'=.ok v w'/\R v w')->LeavesInM Fence.wide 0 C.P fn a.tmps (fun en w'=>∃ v,en=.returned v/\R v w') a.defers .returning w
 |[],mm,a,w,hA,hk,hf=>by
  obtain⟨v,h1,h2⟩:=hf a w rfl hA;obtain⟨⟨e,hg,hM,hV,hfr,rs,hdf,hmk⟩,hsz⟩:=hA;rw[hdf,show rs=[] from hmk];exact⟨v,h1,v,rfl,h2⟩
 |b::bs,mm,a,w,hA,hk,hf=>by
  obtain⟨⟨e,hg,hM,hV,hfr,rs,hdf,r,rs',rfl,h2,h3⟩,hsz⟩:=hA;unfold Er at hk;split at hk
  ·rename_i hfb;obtain⟨k,q1,q2,q3⟩:=hM b _ hfb;rw[h2] at q1;injection q1 with q1;subst q1
   have hlt:=(Array.getElem?_eq_some_iff.1 q3).1;rw[hdf];refine⟨by simp,.inl ⟨r,w.putObj r (.deferred none),rfl,run_takeDeferred q3,?_⟩⟩;have hL:jM C e w nb nb [(b,.dead)] e (w.putObj r (.deferred none)):=uI hg h2 q2 (w':=w.putObj r (.deferred none)) ⟨rfl,rfl,rfl,by simp [World.putObj],fun j hj=>uQ hj⟩ (zp hlt) (.inr (.inr (.inl ⟨_,rfl⟩))) (ob:=.dead) trivial;refine ZJ bs (jK [(b,.dead)] mm) ⟨a.tmps,rs'.map uV⟩ _ ⟨⟨e,hL.good,fun b' o ho=>?_,hV,hfr,rs',rfl,h3⟩,hsz⟩ hk (fun a' w' ht hA'=>hf a' w' ht hA');have ho:find b' (jK [(b,.dead)] mm)=some o:=ho;rw[uP] at ho;split at ho
   ·rename_i o' hf';injection ho with ho;subst ho
    exact hL.wrote b' _ hf'
   ·rename_i hn;exact hL.kept b' o (hM b' o ho) hn
  ·cases hk
abbrev env0:Env:=⟨fun _=>none,fun _=>0,fun _=>none,fun _=>none,fun _=>false,fun _=>False⟩
theorem ZI (hR:yD C TT) {f:FuncId}{fn:Func}{c:Code}(hfn:C.P.funcs[f]?=some fn) (hbody:fn.body=some c) {xs:List AV}{ws:Ws D}{n0:Nat}(hlen:xs.length<=fn.ntmps) {vs:List Value}{e:Env}{w1:World}(hg:Kv C e w1) (hM:cA C e w1 (fun b=>find b ws)) (hva:kv e xs vs) (hfr:∀ b,n0<=b->e.ρ b=none/\e.ν b=none/\e.φ b=none)
 {R:Value->World->Prop} (hwp:∀ a,At C fn.ntmps ⟨n0,zX 0 xs,ws,[]⟩ a w1->c.wpIn Fence.wide 0 C.P (Ret C fn R) a w1) :
 Enters C.P f/\Calls C.P f vs.toArray w1 (fun en w'=>∃ v,en=.returned v/\R v w'):=by
 refine⟨jB hfn (hR.name f fn hfn) hbody,?_⟩;have hvl:=hva.length;refine(callsIn_wide (n:=0)).1 (ceB hfn hbody trivial (uS (hwp _ ⟨⟨e,hg,hM,?_,hfr,[],rfl,rfl⟩,?_⟩) ?_))
 ·intro tt x hx;obtain⟨i,h1,h2⟩:=ET hx;obtain⟨v,h3,h4⟩:=hva.get i x h1;refine⟨v,?_,h4⟩;have hil:i<vs.length:=(List.getElem?_eq_some_iff.1 h3).1;rw[h2,jb];show (vs.toArray++Array.replicate (fn.ntmps-vs.toArray.size) undef)[i]?=some v;rw[Array.getElem?_append_left (by simpa using hil)];simpa using h3
 ·simp only[Array.size_append,Gt,Array.size_replicate];omega
 ·rintro ex a' w' ⟨hx,this⟩;rcases hx with rfl|rfl
  ·exact this
  ·exact this
theorem chK (hR:yD C TT) {f:FuncId}{fn:Func}{c:Code}(hfn:C.P.funcs[f]?=some fn) (hbody:fn.body=some c) {ps:List (Pat D)}{xs:List A1}{ws:Ws D}{n0:Nat}(hm:GH C.csz 0 ps=some (xs,ws,n0)) (hlen:Nat.ble (jU xs).length fn.ntmps=true) {vs:List Value}
 (hp:KT (fun d f=>∀ w',jy env0 C.w0 w'->C.E d w' f) C.csz ps vs) {R:Value->World->Prop} (hwp:∀ a,At C fn.ntmps ⟨n0,zX 0 (jU xs),ws,[]⟩ a C.w0->c.wpIn Fence.wide 0 C.P (Ret C fn R) a C.w0) (hfr:C.fr=none:=by rfl) :
 Enters C.P f/\Calls C.P f vs.toArray C.w0 (fun en w'=>∃ v,en=.returned v/\R v w'):=by
 obtain⟨e,gr,hx⟩:=Wl hm (cb _) (e:=env0) (fun _ _ _=>rfl) hp;have hρ:∀ b,e.ρ b=none:=fun b=>by rw[gr.ρ]
 have hφ:∀ b,e.φ b=none:=fun b=>by rw[gr.φ]
 refine ZI hR hfn hbody (jh hlen) ⟨cF _ _,fun b b' k _ _ h=>(by rw[hρ] at h;cases h),fun b k h=>(by rw[hρ] at h;cases h),FrOk.none hfr (fun k h=>by rw[gr.ext.ot] at h;exact h)⟩ ?_ (ub hx) (fun b hb=>⟨hρ b,?_,hφ b⟩) hwp
 ·intro b o ho;obtain⟨_,d,rfl,f,h1,h2⟩:=gr.live b o (yg ho);exact⟨f,h1,fun w' hk=>h2 w' ⟨hk.size,fun k h3 _ _=>hk.block k h3 (fun b=>by rw[hρ];simp) (fun h=>by rw[gr.ext.ot] at h;exact h)⟩⟩
 ·cases hc:e.ν b with
  |none=>rfl
  |some y =>
   rcases gr.ν b y hc with h|h
   ·cases h
   ·have hb:n0<=b:=hb;omega
section
variable {C':Ctx D}{f':Option Frm}
theorem Cm:∀ {gs:List (Grp D)}{vs:List Value},Gw { C with fr:=f' } w gs vs↔Gw C w gs vs
 |[],_=>Iff.rfl
 |.lit _::gs,_=>and_congr_right fun _=>Cm
 |.cls _::gs,_=>and_congr_right fun _=>Cm
theorem cfX {L:Lt D}{v:Value}:EN { C with fr:=f' } w L v↔EN C w L v:=by
 unfold EN;simp only[Cm]
theorem pat_fr:∀ {p:Pat D}{v:Value},p.is { C with fr:=f' } w v↔p.is C w v
 |.one (.lit _),_=>Iff.rfl
 |.one (.cls _),_=>Iff.rfl
 |.agg gs,v=>by simp only[Pat.is,Cm]
 |.slc t n gs,v=>by simp only[Pat.is,Cm]
 |.cap f ty z gs,v=>by simp only[Pat.is,cfX]
theorem Kg:∀ {ps:List (Pat D)}{vs:List Value},cjf { C with fr:=f' } w ps vs↔cjf C w ps vs
 |[],_=>Iff.rfl
 |p::ps,vs=>by simp only[cjf,pat_fr,Kg (ps:=ps)]
theorem rpat_fr {p:RPat D}{v:Value}:p.is { C with fr:=f' } w v↔p.is C w v:=by
 cases p with
 |val p=>exact pat_fr
 |tup ps=>simp only[RPat.is,Kg]
theorem rob_fr {w':World}{p:RPat D}{v:Value}:UX { C with fr:=f' } w w' p v↔UX C w w' p v:=by
 unfold UX;simp only[rpat_fr];exact Iff.rfl
theorem ent_fr {hd:Hd}{args:List (Pat D)}{res:RPat D}(h:jL C hd args res):jL { C with fr:=f' } hd args res:=by
 unfold jL at h ⊢;split at h
 ·exact⟨h.1,fun w vs hb hp=>(h.2 w vs hb (Kg.1 hp)).mono fun _ _ ⟨v,h1,h2,h3⟩=>⟨v,h1,h2,rob_fr.2 h3⟩⟩
 ·unfold MemEnt at h ⊢;simp only[Cm];exact h
 ·unfold BoxEnt at h ⊢;simp only[Kg];exact h
 ·exact h
 ·intro w ρ o xs ho hb hp;obtain⟨v,w',q1,q2,q3⟩:=h w ρ o xs ho hb (Kg.1 hp);exact⟨v,w',q1,q2,rob_fr.2 q3⟩
theorem tab_fr {T:Tab D}(h:T.Ok C):T.Ok { C with fr:=f' }:=fun n hd F args res ob h1 h2 h3=>ent_fr (h n hd F args res ob h1 h2 h3)
theorem cgd:∀ {cap:List (Nat×Nat×List (Grp D))}{q:List Value},ym { C with fr:=f' } w cap q↔ym C w cap q
 |[],_=>Iff.rfl
 |c::cap,q=>by simp only[ym,cfX,cgd (cap:=cap)]
theorem pre_fr:∀ {gs:List (Grp D)}{p:List Value},JX { C with fr:=f' } w gs p↔JX C w gs p
 |[],_=>Iff.rfl
 |g::gs,p=>by simp only[JX,Cm]
theorem fn_fr {f:FuncId}{gs:List (Grp D)}{cap:List (Nat×Nat×List (Grp D))}{v:Value}:FnIs { C with fr:=f' } w f gs cap v↔FnIs C w f gs cap v:=by
 simp only[FnIs,cgd,pre_fr]
theorem ok_fr (h:C.Ok):Ctx.Ok { C with fr:=f' } :=
 ⟨fun L w v hl=>h.lists L w v (cfX.1 hl),fun d L w l h1 h2=>by
  obtain⟨v,h3,h4⟩:=h.unlist d L w l h1 h2;exact⟨v,h3,cfX.2 h4⟩,h.los,h.cell,h.len,h.mixed,fun f pre cap d w v h1 h2=>h.funs f pre cap d w v h1 (fn_fr.1 h2),fun d f pre cap w l h1 h2=>by
  obtain⟨v,h3,h4⟩:=h.unfun d f pre cap w l h1 h2;exact⟨v,h3,fn_fr.2 h4⟩⟩
theorem Cw (h:yD C TT):yD { C with fr:=f' } TT:=⟨ok_fr h.ok,h.name,fun f=>tab_fr (h.tab f)⟩
end
def litRes:List Value->Value
 |[v]=>v
 |vs=>.tuple vs.toArray
def yB:List (Grp D)->List D
 |[]=>[]
 |.lit _::l=>yB l
 |.cls d::l=>d::yB l
def patDs:Pat D->List D
 |.one g=>yB [g]
 |.agg gs=>yB gs
 |.slc _ _ gs=>yB gs
 |.cap _ _ _ gs=>yB gs
def WW:List (Pat D)->List D
 |[]=>[]
 |p::l=>patDs p++WW l
def Cs (C:Ctx D) (d:D):Prop:=∀ w w' f,C.E d w f->w.heap.size<=w'.heap.size->(∀ k o,w.heap[k]?=some o->(C.w0.heap.size<=k\/¬ kE C o)->w'.heap[k]?=some o)->C.E d w' f
def noSlc:Pat D->Bool
 |.slc ..=>false
 |.cap ..=>false
 |_=>true
def Gp:List (Pat D)->Bool
 |[]=>true
 |p::l=>match noSlc p with
  |true=>Gp l
  |false=>false
theorem GV {w w':World}(hs:w.heap.size<=w'.heap.size) (hk:∀ k o,w.heap[k]?=some o->(C.w0.heap.size<=k\/¬ kE C o)->w'.heap[k]?=some o):∀ {gs:List (Grp D)}{vs:List Value},(∀ d∈yB gs,Cs C d)->Gw C w gs vs->Gw C w' gs vs
 |[],vs,_,h=>h
 |.lit v::gs,vs,hd,h=>⟨h.1,GV hs hk hd h.2⟩
 |.cls d::gs,vs,hd,h=>⟨hd d (by simp [yB]) w w' _ h.1 hs hk,GV hs hk (fun x hx=>hd x (by simp [yB,hx])) h.2⟩
theorem chZ {w w':World}(hs:w.heap.size<=w'.heap.size) (hk:∀ k o,w.heap[k]?=some o->(C.w0.heap.size<=k\/¬ kE C o)->w'.heap[k]?=some o) {p:Pat D}{v:Value}(hn:noSlc p=true) (hd:∀ d∈patDs p,Cs C d) (h:p.is C w v):p.is C w' v:=by
 cases p with
 |one g =>
  cases g with
  |lit x=>exact h
  |cls d=>exact hd d (by simp [patDs,yB]) w w' _ h hs hk
 |agg gs =>
  obtain⟨vs,h1,h2⟩:=h;exact⟨vs,GV hs hk hd h1,h2⟩
 |slc t n gs=>cases hn
 |cap f ty z gs=>cases hn
theorem ZD {w w':World}(hs:w.heap.size<=w'.heap.size) (hk:∀ k o,w.heap[k]?=some o->(C.w0.heap.size<=k\/¬ kE C o)->w'.heap[k]?=some o):∀ {ps:List (Pat D)}{vs:List Value},Gp ps=true->(∀ d∈WW ps,Cs C d)->cjf C w ps vs->cjf C w' ps vs
 |[],vs,_,_,h=>h
 |p::ps,vs,hn,hd,⟨v,ws,h1,h2,h3⟩=>by
  unfold Gp at hn;split at hn
  ·rename_i h0;exact⟨v,ws,h1,chZ hs hk h0 (fun d hx=>hd d (by simp [WW,hx])) h2,ZD hs hk hn (fun d hx=>hd d (by simp [WW,hx])) h3⟩
  ·cases hn
def readR (S:Stat D) (M:ct D) (l:List A1):Option (List (Pat D)):=JK S M (jU l)
def cbt:List (Pat D)->RPat D
 |[p]=>.val p
 |l=>.tup l
def CH (C:Ctx D):List (Grp D)->List (Grp D)->Option (List Prop)
 |[],[]=>some []
 |.lit v::l,.lit v'::l'=>Um (some [v=v']) (CH C l l')
 |.cls d::l,.cls d'::l'=>match Nat.beq (C.csz d) (C.csz d') with
  |true=>Um (some [cE C d d']) (CH C l l')
  |false=>none
 |_,_=>none
def ceH (C:Ctx D):Pat D->Pat D->Option (List Prop)
 |.one g,.one g'=>match CH C [g] [g'] with
  |some ob=>some ob
  |none=>match g,g' with
   |.cls d,.lit v=>match Nat.beq (C.csz d) 1 with
    |true=>some [cL C [.cls d] [.lit v]]
    |false=>none
   |_,_=>none
 |.agg gs,.agg gs'=>match CH C gs gs' with
  |some ob=>some ob
  |none=>some [cL C gs gs']
 |_,_=>none
def yC (C:Ctx D):List (Pat D)->List (Pat D)->Option (List Prop)
 |[],[]=>some []
 |p::l,p'::l'=>Um (ceH C p p') (yC C l l')
 |_,_=>none
theorem JW:∀ {gs gs':List (Grp D)}{ob:List Prop}{vs:List Value},CH C gs gs'=some ob->cX ob->Gw C w gs' vs->Gw C w gs vs
 |[],[],ob,vs,h,ho,hv=>hv
 |.lit v::l,.lit v'::l',ob,vs,h,ho,hv=>by
  obtain⟨x,y,q1,q2,rfl⟩:=kx h;obtain⟨o1,o2⟩:=ho.append;injection q1 with q1;subst q1
  refine⟨?_,JW q2 o2 hv.2⟩;rw[o1.1];exact hv.1
 |.cls d::l,.cls d'::l',ob,vs,h,ho,hv=>by
  unfold CH at h;split at h
  ·rename_i hz;have hz:=cn hz;obtain⟨x,y,q1,q2,rfl⟩:=kx h;obtain⟨o1,o2⟩:=ho.append;injection q1 with q1;subst q1
   refine⟨?_,JW q2 o2 ?_⟩
   ·show C.E d w (vs.take (C.csz d));rw[hz];exact o1.1 w _ hv.1
   ·show Gw C w l' (vs.drop (C.csz d));rw[hz];exact hv.2
  ·cases h
 |[],_::_,ob,vs,h,_,_=>by simp [CH] at h
 |.lit _::_,[],ob,vs,h,_,_=>by simp [CH] at h
 |.cls _::_,[],ob,vs,h,_,_=>by simp [CH] at h
 |.lit _::_,.cls _::_,ob,vs,h,_,_=>by simp [CH] at h
 |.cls _::_,.lit _::_,ob,vs,h,_,_=>by simp [CH] at h
theorem cgt (hC:C.Ok) {p p':Pat D}{ob:List Prop}{v:Value}(h:ceH C p p'=some ob) (ho:cX ob) (hv:p'.is C w v):p.is C w v:=by
 unfold ceH at h;split at h
 ·rename_i g g';split at h
  rotate_left
  ·split at h
   ·rename_i d x _;split at h
    ·rename_i hz;have hz:=cn hz;injection h with h;subst h
     have h1:=(ho.1 w [v] (GD hC hv)).1;have h1:C.E d w ([v].take (C.csz d)):=h1;rw[hz] at h1;exact h1
    ·cases h
   ·cases h
  rename_i ob' h';injection h with h;subst h
  have:=JW h' ho (GD hC hv);have h1:=cbr hC this.1;have:g.is C w ([v].take (g.n C.csz)):=this.1
  rwa [kH] at this
  rw[ji] at h1;cases g with
  |lit x=>simp [Grp.n]
  |cls d =>
   cases g' with
   |lit x=>simp [CH] at h'
   |cls d' =>
    unfold CH at h';split at h'
    ·rename_i hz;have hz:=cn hz;have hl:=hC.len _ _ _ (show C.E d' w [v] from hv);show 1<=C.csz d;rw[hz,← hl];simp
    ·cases h'
 ·obtain⟨vs,h1,h2⟩:=hv;split at h
  ·rename_i h3;injection h with h;subst h
   exact⟨vs,JW h3 ho h1,h2⟩
  ·injection h with h;subst h
   exact⟨vs,ho.1 _ _ h1,h2⟩
 ·cases h
theorem zO (hC:C.Ok):∀ {ps ps':List (Pat D)}{ob:List Prop}{vs:List Value},yC C ps ps'=some ob->cX ob->cjf C w ps' vs->cjf C w ps vs
 |[],[],ob,vs,h,ho,hv=>hv
 |p::l,p'::l',ob,vs,h,ho,⟨v,ws,h1,h2,h3⟩=>by
  obtain⟨x,y,q1,q2,rfl⟩:=kx h;obtain⟨o1,o2⟩:=ho.append;exact⟨v,ws,h1,cgt hC q1 o1 h2,zO hC q2 o2 h3⟩
 |[],_::_,ob,vs,h,_,_=>by simp [yC] at h
 |_::_,[],ob,vs,h,_,_=>by simp [yC] at h
def Res (C:Ctx D) (ps:List (Pat D)):Value->World->Prop:=fun v w=>Below C.w0.heap.size C.w0 w/\UX C C.w0 w (cbt ps) v
def cff (C:Ctx D) (rs:List ResultVar) (st:St D) (ps:List (Pat D)):Option (List Prop) :=
 match Er st.ms st.m,resA C.P (fun t=>find t st.sl) (fun b=>find b (uW st.ms st.m)) rs with
 |true,some xs=>match readR C.toStat (fun b=>find b (uW st.ms st.m)) xs with
  |some ps'=>match Gp ps with
   |true=>Um (yC C ps ps') (some ((WW ps).map (Cs C)))
   |false=>none
  |none=>none
 |_,_=>none
theorem ccw {p:D->Prop}:∀ {l:List D},cX (l.map p)->∀ d∈l,p d
 |[],_,d,hd=>by simp at hd
 |x::l,h,d,hd=>by
  rcases List.mem_cons.1 hd with rfl|hd
  ·exact h.1
  ·exact ccw h.2 d hd
theorem ret_at (hC:C.Ok) {fn:Func}{ps:List (Pat D)}{ob:List Prop}(h:cff C fn.results.toList st ps=some ob) (ho:cX ob) (hA:At C nt st a w) {x:Exit}(hx:x=.ret\/x=.normal):Ret C fn (Res C ps) x a w:=by
 unfold cff at h;split at h
 rotate_left
 ·cases h
 rename_i xs hms hres;split at h
 rotate_left
 ·cases h
 rename_i ps' hrd;split at h
 rotate_left
 ·cases h
 rename_i hn;obtain⟨x1,y1,q1,q2,rfl⟩:=kx h;obtain⟨o1,o2⟩:=ho.append;injection q2 with q2;subst q2
 refine⟨hx,ZJ st.ms st.m a w hA hms (fun a' w ht hA=>?_)⟩;obtain⟨⟨e,hg,hM,hV,_,rs,hdf,hmk⟩,hsz⟩:=hA;obtain⟨us,h3,h4⟩:=cbQ hV hM hres;rw[ht] at h3;have h5:(results fn a.tmps).run C.P w=.ok (if h:us.toArray.size=1 then us.toArray[0] else .tuple us.toArray) w:=by
  rw[JJ,cbU];simp only[jA,Sem.run_map,h3,kG];rfl
 refine⟨_,h5,hg.below,?_⟩;have hps:=zO hC q1 o1 (GO hC hg hM hrd (ub h4));intro S hS w'' hw hk;have hps:=ZD hw (fun k o hko hor=>by
  rw[hk k (Array.getElem?_eq_some_iff.1 hko).1 (fun hs=>?_)]
  ·exact hko
  ·obtain⟨s1,o',s2,s3⟩:=hS k hs;rw[hko] at s2;injection s2 with s2;subst s2
   rcases hor with h|h
   ·omega
   ·exact h s3) hn (ccw o2) hps
 unfold cbt;split
 ·rename_i p;obtain⟨v,ws,rfl,r1,r2⟩:=hps;rw[show ws=[] from r2];exact r1
 ·rename_i hne;have hl:us.toArray.size≠1:=by
   intro h1;have h1:us.length=1:=by simpa using h1
   match us,h1,hps with
   |[u],_,hps =>
    match ps,hne,hps with
    |[],_,hps=>cases hps
    |[p],hne,_=>exact hne p rfl
    |p::q::l,_,⟨_,_,e1,_,_,_,e2,_⟩=>injection e1 with _ e1;rw[e2] at e1;cases e1
  rw[dif_neg hl];exact⟨us,hps,rfl⟩
end
end Pe
end Go.Proofs.YtcgiaclelnmhbabGreatDoor
