/- Part 4. -/
import Derived.Test.YtdopipkmcnkdjaaGreatDoorE3
import Derived.RangeFuncIn
set_option linter.all false
noncomputable section

namespace Go.Proofs.YtdopipkmcnkdjaaGreatDoor
open Go Go.RowKit Go.Proofs
namespace Pe
variable {D:Type}
inductive Xt where
 |normal
 |exit (id:Nat)
 |ret
def Xt.to:Xt->Exit
 |.normal=>.normal
 |.exit id=>.exit id
 |.ret=>.ret
abbrev Ran (D:Type):=Option (Xt×St D×List Prop)
def El (f:St D->Ran D):Nat->St D->Ran D
 |0,_=>none
 |n+1,st=>match f st with
  |some (.normal,st',ob)=>match El f n st' with
   |some (x,st2,ob2)=>some (x,st2,ob++ob2)
   |none=>none
  |r=>r
def cai (CF:cN D) (nt:Nat) (base:cR D) (fid:FuncId) (ps:List Nat) (assign body:Code) (f:FuncId) (pre cap:List A1) (st:St D):Ran D :=
 match CF (over base (kZ [(st.nb+1,.loop nt st.sl ps fid assign body .ready)] (kZ [(st.nb,.mark)] st.m))) (st.nb+1+1) f (uB pre++([.val (.one (.yld (st.nb+1)))]++uB cap)) with
 |some t=>match over base (kZ t.ws (kZ [(st.nb+1,.loop nt st.sl ps fid assign body .ready)] (kZ [(st.nb,.mark)] st.m))) (st.nb+1) with
  |some (.loop _ _ _ _ _ _ .ready)=>some (.normal,⟨t.n1,st.sl,kZ [(st.nb+1,.dead)] (kZ t.ws (kZ [(st.nb+1,.loop nt st.sl ps fid assign body .ready)] (kZ [(st.nb,.mark)] st.m))),st.nb::st.ms⟩,t.ob)
  |some (.loop _ _ _ _ _ _ (.done .ret))=>some (.ret,⟨t.n1,st.sl,kZ [(st.nb+1,.dead)] (kZ t.ws (kZ [(st.nb+1,.loop nt st.sl ps fid assign body .ready)] (kZ [(st.nb,.mark)] st.m))),st.nb::st.ms⟩,t.ob)
  |some (.loop _ _ _ _ _ _ (.done (.exit id)))=>some (.exit id,⟨t.n1,st.sl,kZ [(st.nb+1,.dead)] (kZ t.ws (kZ [(st.nb+1,.loop nt st.sl ps fid assign body .ready)] (kZ [(st.nb,.mark)] st.m))),st.nb::st.ms⟩,t.ob)
  |_=>none
 |none=>none
def Cg (S:Stat D) (TT:FuncId->Tab D) (CF YF:cN D) (nt:Nat) (base:cR D) (fid:FuncId) (inR:Bool):Nat->Code->St D->Ran D
 |0,_,_=>none
 |n+1,c,st=>match c with
  |.skip=>some (.normal,st,[])
  |.label _=>some (.normal,st,[])
  |.exit id=>some (.exit id,st,[])
  |.ret=>some (.ret,st,[])
  |.region _ ops draw=>match (match draw with
   |true=>Zw S (TT fid) CF YF nt base ops.toList st
   |false=>Uo S (TT fid) CF YF nt base ops.toList ops.toList st) with
   |some (st',ob)=>some (.normal,st',ob)
   |none=>none
  |.seq x y=>match Cg S TT CF YF nt base fid inR n x st with
   |some (.normal,st',ob)=>match Cg S TT CF YF nt base fid inR n y st' with
    |some (x2,st2,ob2)=>some (x2,st2,ob++ob2)
    |none=>none
   |r=>r
  |.cond x c d=>match lit? (cG (fun t=>find t st.sl) x) with
   |some (.bool true)=>Cg S TT CF YF nt base fid inR n c st
   |some (.bool false)=>Cg S TT CF YF nt base fid inR n d st
   |_=>none
  |.block id c=>match Cg S TT CF YF nt base fid inR n c st with
   |some (.exit j,st',ob)=>match Nat.beq j id with
    |true=>some (.normal,st',ob)
    |false=>some (.exit j,st',ob)
   |r=>r
  |.loop c=>El (fun st=>Cg S TT CF YF nt base fid inR n c st) n st
  |.rangeFunc g ps assign body=>match inR with
   |true=>none
   |false=>match cG (fun t=>find t st.sl) g with
    |some (.val (.one (.lit (.func (.func f) ⟨[]⟩ ⟨[]⟩))))=>cai CF nt base fid ps.toList assign body f [] [] st
    |some (.val (.one (.fn k)))=>match over base st.m k with
     |some (.clo f pre cap)=>cai CF nt base fid ps.toList assign body f pre cap st
     |_=>none
    |_=>none
  |_=>none
section
variable {S:Stat D}{T:Tab D}{TT:FuncId->Tab D}{CF YF:cN D}{nt:Nat}{base:cR D}{fid:FuncId}{inR:Bool}
theorem ZC {f:St D->Ran D}(hf:∀ st x st' ob,f st=some (x,st',ob)->st.nb<=st'.nb):∀ (n:Nat) (st:St D) (x:Xt) (st':St D) (ob:List Prop),El f n st=some (x,st',ob)->st.nb<=st'.nb
 |0,st,x,st',ob,h=>by simp [El] at h
 |n+1,st,x,st',ob,h=>by
  unfold El at h;split at h
  ·rename_i st1 ob1 h1;split at h
   ·rename_i x2 st2 ob2 h2;injection h with h;simp only[cr] at h
    obtain⟨rfl,rfl,rfl⟩:=h;exact cA (hf _ _ _ _ h1) (ZC hf n _ _ _ _ h2)
   ·cases h
  ·exact hf _ _ _ _ h
theorem cjg (hF:CF.Mono) (hYF:YF.Mono) {ops:List Oper}{st st':St D}{ob:List Prop}(h:Zw S T CF YF nt base ops st=some (st',ob)):st.nb<=st'.nb:=by
 unfold Zw at h;split at h
 ·cases h
 ·split at h
  ·cases h
  ·rename_i W n ob' hgo;split at h
   ·cases h
   ·split at h
    ·injection h with h;injection h with h h'
     subst h;exact(Wa hF hYF hgo rfl).2.2.1
    ·cases h
theorem caa (hF:CF.Mono) {ps:List Nat}{assign body:Code}{f:FuncId}{pre cap:List A1}{st st':St D}{x:Xt}{ob:List Prop}(h:cai CF nt base fid ps assign body f pre cap st=some (x,st',ob)):st.nb<=st'.nb:=by
 unfold cai at h;split at h
 ·rename_i t ht;have:=hF _ _ _ _ _ ht;split at h
  all_goals first
   |(injection h with h;simp only[cr] at h;obtain⟨rfl,rfl,rfl⟩:=h;show st.nb<=t.n1;omega)
   |cases h
 ·cases h
theorem uh (hF:CF.Mono) (hYF:YF.Mono):∀ (n:Nat) (c:Code) (st:St D) (x:Xt) (st':St D) (ob:List Prop),Cg S TT CF YF nt base fid inR n c st=some (x,st',ob)->st.nb<=st'.nb
 |0,c,st,x,st',ob,h=>by simp [Cg] at h
 |n+1,c,st,x,st',ob,h=>by
  unfold Cg at h;split at h
  ·injection h with h;simp only[cr] at h;rw[h.2.1];exact cb _
  ·injection h with h;simp only[cr] at h;rw[h.2.1];exact cb _
  ·injection h with h;simp only[cr] at h;rw[h.2.1];exact cb _
  ·injection h with h;simp only[cr] at h;rw[h.2.1];exact cb _
  ·split at h
   ·rename_i st1 ob1 h1;injection h with h;simp only[cr] at h
    obtain⟨rfl,rfl,rfl⟩:=h;split at h1
    ·exact cjg hF hYF h1
    ·exact caD hF hYF h1
   ·cases h
  ·split at h
   ·rename_i st1 ob1 h1;split at h
    ·rename_i x2 st2 ob2 h2;injection h with h;simp only[cr] at h
     obtain⟨rfl,rfl,rfl⟩:=h;exact cA (uh hF hYF n _ _ _ _ _ h1) (uh hF hYF n _ _ _ _ _ h2)
    ·cases h
   ·exact uh hF hYF n _ _ _ _ _ h
  ·split at h
   ·exact uh hF hYF n _ _ _ _ _ h
   ·exact uh hF hYF n _ _ _ _ _ h
   ·cases h
  ·split at h
   ·rename_i j st1 ob1 h1;split at h
    ·injection h with h;simp only[cr] at h
     obtain⟨rfl,rfl,rfl⟩:=h;exact uh hF hYF n _ _ _ _ _ h1
    ·injection h with h;simp only[cr] at h
     obtain⟨rfl,rfl,rfl⟩:=h;exact uh hF hYF n _ _ _ _ _ h1
   ·exact uh hF hYF n _ _ _ _ _ h
  ·exact ZC (fun st x st' ob h=>uh hF hYF n _ st x st' ob h) n _ _ _ _ h
  ·split at h
   ·cases h
   ·split at h
    ·exact caa hF h
    ·split at h
     ·exact caa hF h
     ·cases h
    ·cases h
  ·cases h
end
section
variable {F:Fence}{m:Nat}
variable {C:Ctx D}{e0:Env}{w0:World}{TT:FuncId->Tab D}{CF YF:cN D}{n0 nt:Nat}{base:cR D}{fid:FuncId}{inR:Bool}
def Ky (C:Ctx D) (nt:Nat) (e0:Env) (w0:World) (n0:Nat) (x:Xt) (st:St D):Exit->Act->World->Prop:=fun e a w=>e=x.to/\Sat C nt e0 w0 n0 st a w
theorem ED (hW:Wd F) {c:Code}{f:St D->Ran D}{B:Nat}(hle:∀ st x st' ob,f st=some (x,st',ob)->st.nb<=st'.nb) (hf:∀ st x st' ob,f st=some (x,st',ob)->jE ob->st'.nb<=B->∀ a w,Sat C nt e0 w0 n0 st a w->c.wpIn F m C.P (Ky C nt e0 w0 n0 x st') a w) :
 ∀ (n:Nat) (st:St D) (x:Xt) (st':St D) (ob:List Prop),El f n st=some (x,st',ob)->jE ob->st'.nb<=B->∀ a w,Sat C nt e0 w0 n0 st a w->x≠.normal/\∀ (b:Frame) (k:List Item) (cs:List Frame),b.roundOf=F.round->
  ∃ e a' w',Ky C nt e0 w0 n0 x st' e a' w'/\ArrivesIn (Machine.fenced C.P F) C.P (lone (b.atR a (.code c::.inLoop c::k)) cs w) b k cs e a' w'
 |0,st,x,st',ob,h,ho,hB,a,w,hs=>by simp [El] at h
 |n+1,st,x,st',ob,h,ho,hB,a,w,hs=>by
  unfold El at h;split at h
  ·rename_i st1 ob1 h1;split at h
   ·rename_i x2 st2 ob2 h2;injection h with h;simp only[cr] at h
    obtain⟨rfl,rfl,rfl⟩:=h;obtain⟨ho1,ho2⟩:=ho.append;have hle2:=ZC hle n _ _ _ _ h2;have hb:=hf _ _ _ _ h1 ho1 (cA hle2 hB) a w hs;constructor
    ·obtain⟨e,a₁,w₁,⟨rfl,hq⟩,harr⟩:=hb { (default:Frame) with roundOf:=F.round } [] [] rfl (hW.fn _) (hW.room _);exact(ED hW hle hf n st1 x2 st2 ob2 h2 ho2 hB a₁ w₁ hq).1
    ·intro b k cs hbr;obtain⟨e,a₁,w₁,⟨rfl,hq⟩,harr⟩:=hb b (.inLoop c::k) cs hbr (hW.fn _) (hW.room _);obtain⟨e₂,a₂,w₂,hq₂,harr₂⟩:=(ED hW hle hf n st1 x2 st2 ob2 h2 ho2 hB a₁ w₁ hq).2 b k cs hbr;exact⟨e₂,a₂,w₂,hq₂,.of_steps (StepsIn.trans harr (.one (fenced_calm (n:=m) (hW.fn _) (hW.room _) rfl) stepR_inLoop)) harr₂⟩
   ·cases h
  ·rename_i hne;have hb:=hf _ _ _ _ h ho hB a w hs;constructor
   ·intro hx;subst hx;exact hne st' ob h
   ·intro b k cs hbr;obtain⟨e,a₁,w₁,⟨rfl,hq⟩,harr⟩:=hb b (.inLoop c::k) cs hbr (hW.fn _) (hW.room _);cases x with
    |normal=>exact absurd h (hne st' ob)
    |exit id=>exact⟨_,a₁,w₁,⟨rfl,hq⟩,.pass (x:=.inLoop c) rfl (fun _ _=>.inl (by simp [Xt.to])) harr⟩
    |ret=>exact⟨_,a₁,w₁,⟨rfl,hq⟩,.pass (x:=.inLoop c) rfl (fun _ _=>.inl (by simp [Xt.to])) harr⟩
theorem ceA (hC:C.Ok) (hF:CF.Ok C) (hFm:CF.Mono) (hb:jm C e0 w0 base) {B:Nat}(hfree:um n0 B e0) {g:Operand}{ps:Array Nat}{assign body:Code}{f:FuncId}{pre cap:List A1}{p q:List Value}{st st':St D}{x:Xt}{ob:List Prop}(h:cai CF nt base fid ps.toList assign body f pre cap st=some (x,st',ob)) (ho:jE ob) (hB:st'.nb<=B)
 {a:Act} {w:World} {e:Env} (hL:ut C e0 w0 n0 st.nb st.m e w) (hV:jD e a (fun t=>find t st.sl)) (hmk:∃ rs,a.defers=rs.map UF/\Yd e st.ms rs) (hsz:a.tmps.size=nt) (hg:a.eval g=.func (.func f) p.toArray q.toArray) (hp:up e pre p) (hq:up e cap q) :
 (Code.rangeFunc g ps assign body).wpIn Fence.wide m C.P (Ky C nt e0 w0 n0 x st') a w:=by
 have hle:=caa hFm h;unfold cai at h;split at h
 rotate_left
 ·cases h
 rename_i t hcall;have hn1:=hFm _ _ _ _ _ hcall;have hst:st'.nb=t.n1:=by
  split at h
  all_goals first
   |(injection h with h;simp only[cr] at h;obtain⟨_,rfl,_⟩:=h;rfl)
   |cases h
 have hob:ob=t.ob:=by
  split at h
  all_goals first
   |(injection h with h;simp only[cr] at h;obtain⟨_,_,rfl⟩:=h;rfl)
   |cases h
 have hfr:um st.nb t.n1 e:=(hfree.new (hL.new.mono (cb _) (cb _)) hL.le).mono (cb _) (by omega);obtain⟨rs,hdf,hms⟩:=hmk;refine wpIn_rangeFunc (fun fn _=>?_)
 let W1:World:=w.alloc (.deferred (some []))
 let R:Loop:={ state:=.ready,pending:=none,fn,tmps:=a.tmps,params:=ps,assign,body,defers:=w.heap.size }
 let W2:World:=W1.alloc (.loop R)
 have hs1:W1.heap.size=w.heap.size+1:=by show (w.heap.push _).size=_;simp
 have hk1:W1.heap[w.heap.size]?=some (.deferred (some [])):=by show (w.heap.push _)[w.heap.size]?=_;simp
 obtain⟨e1,hL1,hρ1⟩:=ceW (ob:=.mark) hL.good (hfr.mono (cb _) (by omega)) ((cw _ w).alloc (cb _) _) (cb _) hk1 (.inr (.inr (.inl ⟨_,rfl⟩))) (fun e' _ h1 h2=>⟨_,h1,h2,hk1⟩);have hk2:W2.heap[W1.heap.size]?=some (.loop R):=by show (W1.heap.push _)[W1.heap.size]?=_;simp
 obtain⟨e2,hL2,hρ2⟩:=ceW (ob:=.loop nt st.sl ps.toList fid assign body .ready) hL1.good ((hfr.mono (cb _) (by omega:st.nb+1+1<=t.n1)).new (hL1.new.mono (cb _) (cb _)) (by omega)) ((cw _ W1).alloc (cb _) _) (cb _) hk2 (.inr (.inl ⟨_,rfl⟩)) (fun e' hx h1 h2=>⟨_,R,h1,h2,hk2,(by simp [R]),rfl,rfl,hsz,fun tt y hy=>(by
  obtain⟨v,q1,q2⟩:=hV tt y hy;exact⟨v,q1,(q2.ext hL1.adv.ext).ext hx⟩),rfl,rfl⟩)
 have hLL:=(hL.trans hL1).trans hL2;have hext:Ext e e2:=hL1.adv.ext.trans hL2.adv.ext;have hM:=uD hb hLL;have hyld:(AV.val (.one (.yld (st.nb+1)))).is e2 (.func (.yield W1.heap.size) #[] #[]):=⟨_,hρ2,rfl⟩;have hargs:yH e2 (uB pre++([.val (.one (.yld (st.nb+1)))]++uB cap)) (p++([.func (.yield W1.heap.size) #[] #[]]++q)) :=
  (zc (hp.ext hext)).append (yH.append (cs:=[_]) (vs:=[_]) ⟨_,_,rfl,hyld,rfl⟩ (zc (hq.ext hext)))
 have hfr2:um (st.nb+1+1) t.n1 e2:=by
  have h1:=(hfr.new (hL1.new.mono (cb _) (cb _)) (by omega));exact h1.new (hL2.new.mono (cb _) (cb _)) (by omega)
 obtain⟨hen,hcalls⟩:=hF e2 W2 _ _ f _ _ t hM hLL.good hargs hcall hfr2 (by rw[← hob];exact ho);refine⟨W1.heap.size,[UF w.heap.size],W2,{ target:=.fn (.func f) q.toArray,args:=p.toArray++#[.func (.yield W1.heap.size) #[] #[]] },W2,f,p.toArray++#[.func (.yield W1.heap.size) #[] #[]]++q.toArray,W2,?_,?_,fun _ _=>trivial,?_,(fun hd=>nomatch hd),?_⟩
 ·have:=run_enterLoop_outer (P:=C.P) (w:=w) fn a.tmps ps assign body;rw[hs1];exact this
 ·simp [resolve,hg,Deferred.ofValue,show ∀ v,a.eval (.const v)=v from fun _=>rfl]
 ·have:=hen (p.toArray++#[.func (.yield W1.heap.size) #[] #[]]++q.toArray) W2;simpa [invoke] using this
 ·have hx:(p++([Value.func (.yield W1.heap.size) #[] #[]]++q)).toArray=p.toArray++#[Value.func (.yield W1.heap.size) #[] #[]]++q.toArray:=by
   apply CO;simp
  rw[← hx];refine CallsIn.mono (callsIn_wide.2 hcalls) ?_;rintro en w3 ⟨v,rfl,e3,hL3,_⟩;have hL4:=hLL.trans hL3;have hms3:Yd e3 (st.nb::st.ms) (w.heap.size::rs):=⟨_,_,rfl,hL3.adv.ext.ρ _ _ (hL2.adv.ext.ρ _ _ hρ1),hms.ext (hext.trans hL3.adv.ext)⟩;have hV3:jD e3 a (fun t=>find t st.sl):=hV.ext (hext.trans hL3.adv.ext);have hfin:∀ (k:Nat) (r:Loop),e3.ρ (st.nb+1)=some k->e3.al (st.nb+1)=true->w3.heap[k]?=some (.loop r)->ut C e0 w0 n0 t.n1 (kZ [(st.nb+1,.dead)] (kZ t.ws (kZ [(st.nb+1,.loop nt st.sl ps.toList fid assign body .ready)] (kZ [(st.nb,.mark)] st.m)))) e3 (w3.putObj k (.loop { r with state:=.exhausted })):=by
   intro k r h1 h2 h3;have hlt:=(Array.getElem?_eq_some_iff.1 h3).1;exact hL4.trans (Kh hL4.good h1 h2 (w':=w3.putObj k (.loop { r with state:=.exhausted })) ⟨rfl,rfl,rfl,by simp [World.putObj],fun j hj=>Jg hj⟩ (Kt hlt) (.inr (.inl ⟨_,rfl⟩)) (ob:=.dead) trivial)
  have hk3:e3.ρ (st.nb+1)=some W1.heap.size:=hL3.adv.ext.ρ _ _ hρ2;have hM4:=uD hb hL4;split at h
  ·rename_i hlp;injection h with h;simp only[cr] at h
   obtain⟨rfl,rfl,rfl⟩:=h;obtain⟨k,r,h1,h2,h3,_,_,_,_,_,h4,h5⟩:=hM4 _ _ hlp;rw[hk3] at h1;injection h1 with h1;subst h1
   have hend:=run_endLoop (P:=C.P) h3 (by rw[h4];decide);exact⟨_,w3.putObj W1.heap.size (.loop { r with state:=.exhausted }),hend.trans (cQ (fun z=>Result.ok z (w3.putObj W1.heap.size (.loop { r with state:=.exhausted }))) h5),rfl,⟨e3,hfin _ r hk3 h2 h3,hV3,_,by show [UF w.heap.size]++a.defers=_;rw[hdf];rfl,hms3⟩,hsz⟩
  ·rename_i hlp;injection h with h;simp only[cr] at h
   obtain⟨rfl,rfl,rfl⟩:=h;obtain⟨k,r,h1,h2,h3,_,_,_,_,_,h4,h5⟩:=hM4 _ _ hlp;rw[hk3] at h1;injection h1 with h1;subst h1
   have hend:=run_endLoop (P:=C.P) h3 (by rw[h4];decide);exact⟨_,w3.putObj W1.heap.size (.loop { r with state:=.exhausted }),hend.trans (cQ (fun z=>Result.ok z (w3.putObj W1.heap.size (.loop { r with state:=.exhausted }))) h5),wpIn_ret ⟨rfl,⟨e3,hfin _ r hk3 h2 h3,hV3,_,by show [UF w.heap.size]++a.defers=_;rw[hdf];rfl,hms3⟩,hsz⟩⟩
  ·rename_i hlp;injection h with h;simp only[cr] at h
   obtain⟨rfl,rfl,rfl⟩:=h;obtain⟨k,r,h1,h2,h3,_,_,_,_,_,h4,h5⟩:=hM4 _ _ hlp;rw[hk3] at h1;injection h1 with h1;subst h1
   have hend:=run_endLoop (P:=C.P) h3 (by rw[h4];decide);exact⟨_,w3.putObj W1.heap.size (.loop { r with state:=.exhausted }),hend.trans (cQ (fun z=>Result.ok z (w3.putObj W1.heap.size (.loop { r with state:=.exhausted }))) h5),wpIn_exit ⟨rfl,⟨e3,hfin _ r hk3 h2 h3,hV3,_,by show [UF w.heap.size]++a.defers=_;rw[hdf];rfl,hms3⟩,hsz⟩⟩
  ·cases h
theorem kC (hW:Wd F) (hR:inR=false->F=Fence.wide) (hC:C.Ok) (hT:∀ f,(TT f).Ok C) (hF:CF.Ok C) (hFm:CF.Mono) (hY:zQ C YF) (hYm:YF.Mono) (hb:jm C e0 w0 base) {B:Nat}(hfree:um n0 B e0):∀ (n:Nat) (c:Code) (st:St D) (x:Xt) (st':St D) (ob:List Prop),Cg C.toStat TT CF YF nt base fid inR n c st=some (x,st',ob)->jE ob->st'.nb<=B->
 ∀ a w,Sat C nt e0 w0 n0 st a w->c.wpIn F m C.P (Ky C nt e0 w0 n0 x st') a w
 |0,c,st,x,st',ob,h,ho,hB,a,w,hs=>by simp [Cg] at h
 |n+1,c,st,x,st',ob,h,ho,hB,a,w,hs=>by
  unfold Cg at h;split at h
  ·injection h with h;simp only[cr] at h
   obtain⟨rfl,rfl,rfl⟩:=h;exact wpIn_skip ⟨rfl,hs⟩
  ·injection h with h;simp only[cr] at h
   obtain⟨rfl,rfl,rfl⟩:=h;exact wpIn_label ⟨rfl,hs⟩
  ·injection h with h;simp only[cr] at h
   obtain⟨rfl,rfl,rfl⟩:=h;exact wpIn_exit ⟨rfl,hs⟩
  ·injection h with h;simp only[cr] at h
   obtain⟨rfl,rfl,rfl⟩:=h;exact wpIn_ret ⟨rfl,hs⟩
  ·rename_i rid ops draw;split at h
   ·rename_i st1 ob1 h1;injection h with h;simp only[cr] at h
    obtain⟨rfl,rfl,rfl⟩:=h;split at h1
    ·exact cjh hW hC (hT fid) hF hFm hY hYm hb h1 ho (hfree.mono (cb _) hB) (fun a w h=>⟨rfl,h⟩) hs
    ·refine wpIn_region ?_;rw[Zf];have hl:ops.toList.length=ops.size:=by simp
     have:=cdW (F:=F) (m:=m) (Q:=Ky C nt e0 w0 n0 .normal st1) hW hC (hT fid) hF hFm hY hYm hb ops.toList.length ops.toList 0 st st1 ob1 rfl (by simp) h1 ho (hfree.mono (cb _) hB) (fun a w h=>⟨rfl,h⟩) a w hs;rw[hl] at this;exact this
   ·cases h
  ·apply wpIn_seq;split at h
   ·rename_i st1 ob1 h1;split at h
    ·rename_i x2 st2 ob2 h2;injection h with h;simp only[cr] at h
     obtain⟨rfl,rfl,rfl⟩:=h;obtain⟨ho1,ho2⟩:=ho.append;refine Ex (kC hW hR hC hT hF hFm hY hYm hb hfree n _ _ _ _ _ h1 ho1 (cA (uh hFm hYm n _ _ _ _ _ h2) hB) a w hs) ?_;rintro e a' w' ⟨rfl,hs'⟩;exact kC hW hR hC hT hF hFm hY hYm hb hfree n _ _ _ _ _ h2 ho2 hB a' w' hs'
    ·cases h
   ·rename_i hne;refine Ex (kC hW hR hC hT hF hFm hY hYm hb hfree n _ _ _ _ _ h ho hB a w hs) ?_;rintro e a' w' ⟨rfl,hs'⟩;cases x with
    |normal=>exact absurd h (hne st' ob)
    |exit id=>exact⟨rfl,hs'⟩
    |ret=>exact⟨rfl,hs'⟩
  ·obtain⟨⟨e,hL,hV,hmk⟩,hsz⟩:=hs;split at h
   ·rename_i hl;exact wpIn_cond_true (kD hV hl) (kC hW hR hC hT hF hFm hY hYm hb hfree n _ _ _ _ _ h ho hB a w ⟨⟨e,hL,hV,hmk⟩,hsz⟩)
   ·rename_i hl;exact wpIn_cond_false (kD hV hl) (kC hW hR hC hT hF hFm hY hYm hb hfree n _ _ _ _ _ h ho hB a w ⟨⟨e,hL,hV,hmk⟩,hsz⟩)
   ·cases h
  ·rename_i id1 c1;apply wpIn_block;split at h
   ·rename_i j st1 ob1 h1;split at h
    ·rename_i hj;injection h with h;simp only[cr] at h
     obtain⟨rfl,rfl,rfl⟩:=h;refine Ex (kC hW hR hC hT hF hFm hY hYm hb hfree n _ _ _ _ _ h1 ho hB a w hs) ?_;rintro e a' w' ⟨rfl,hs'⟩;simp only[Xt.to,Exit.inBlock,ct hj,Cv];exact⟨rfl,hs'⟩
    ·rename_i hj;injection h with h;simp only[cr] at h
     obtain⟨rfl,rfl,rfl⟩:=h;refine Ex (kC hW hR hC hT hF hFm hY hYm hb hfree n _ _ _ _ _ h1 ho hB a w hs) ?_;rintro e a' w' ⟨rfl,hs'⟩;have:¬ j=id1:=by
      rintro rfl;simp at hj
     simp only[Xt.to,Exit.inBlock,cg this];exact⟨rfl,hs'⟩
   ·rename_i hne;refine Ex (kC hW hR hC hT hF hFm hY hYm hb hfree n _ _ _ _ _ h ho hB a w hs) ?_;rintro e a' w' ⟨rfl,hs'⟩;cases x with
    |normal=>exact⟨rfl,hs'⟩
    |exit id=>exact absurd h (hne id st' ob)
    |ret=>exact⟨rfl,hs'⟩
  ·intro b k cs hbr hbf hrm;obtain⟨e,a',w',h1,h2⟩:=(ED hW (B:=B) (fun st x st' ob h=>uh hFm hYm n _ st x st' ob h) (fun st x st' ob h ho hB=>kC hW hR hC hT hF hFm hY hYm hb hfree n _ st x st' ob h ho hB) n st x st' ob h ho hB a w hs).2 b k cs hbr;exact⟨e,a',w',h1,.of_steps (.one (fenced_calm (n:=m) hbf hrm rfl) stepR_loop) h2⟩
  ·rename_i g ps assign body;split at h
   ·cases h
   ·have hFw:=hR rfl;subst hFw;obtain⟨⟨e,hL,hV,hmk⟩,hsz⟩:=hs;split at h
    ·rename_i f hg;exact ceA hC hF hFm hb hfree h ho hB hL hV hmk hsz (p:=[]) (q:=[]) (cV hV hg) rfl rfl
    ·rename_i k hg;split at h
     ·rename_i f pre cap hcl;obtain⟨p,q,h1,h2,h3⟩:=uD hb hL _ _ hcl;have hgv:e.φ k=some (a.eval g):=cV hV hg;rw[hgv] at h1;injection h1 with h1
      exact ceA hC hF hFm hb hfree h ho hB hL hV hmk hsz h1 h2 h3
     ·cases h
    ·cases h
  ·cases h
end
def ZQ (P:Program) (V:jv) (M:cR D):List ResultVar->Option (List A1)
 |[]=>some []
 |r::l=>match ZQ P V M l with
  |none=>none
  |some xs=>match r with
   |.tmp t=>match V t with
    |some (.val x)=>some (x::xs)
    |_=>none
   |.cell a t=>match ptr? (V a) with
    |some (b,o)=>match Ym P M t b o with
     |some x=>some (x::xs)
     |none=>none
    |none=>none
def Je:Nat->List AV->List (Nat×AV)
 |_,[]=>[]
 |t,x::l=>(t,x)::Je (t+1) l
def idC:AC->List Nat->List Nat
 |.lit _,l=>l
 |.sym s _,l=>s::l
 |.ptr b _,l=>b::l
 |.slc b _ _ _,l=>b::l
 |.gsl b _,l=>b::l
 |.gso b _ _ _,l=>b::l
 |.fn c,l=>c::l
 |.yld b,l=>b::l
def idCs:List AC->List Nat->List Nat
 |[],l=>l
 |c::cs,l=>idC c (idCs cs l)
def idA:A1->List Nat->List Nat
 |.one c,l=>idC c l
 |.agg cs,l=>idCs cs l
def idAs:List A1->List Nat->List Nat
 |[],l=>l
 |a::as',l=>idA a (idAs as' l)
def idO:EZ D->List Nat->List Nat
 |.blk _ cs _,l=>idCs cs l
 |.clo _ p q,l=>idAs p (idAs q l)
 |.ep b _ _ _,l=>b::l
 |.cp b _ _ _,l=>b::l
 |.mp es _,l=>idAs (es.map fun p=>p.2.1) l
 |_,l=>l
def ckk (m:Ws D):Nat->List Nat->Nat->Nat
 |0,_,k=>k
 |_+1,[],k=>k
 |n+1,i::cgC,k=>match Nat.testBit k i with
  |true=>ckk m n cgC k
  |false=>match find i m with
   |some o=>ckk m n (idO o cgC) (Nat.lor k (2^i))
   |none=>ckk m n cgC k
def cjy (n0:Nat):Ws D->List Nat->List Nat
 |[],l=>l
 |p::m,l=>match Nat.blt p.1 n0 with
  |true=>idO p.2 (cjy n0 m l)
  |false=>cjy n0 m l
def caR (f:Nat->Bool):Nat->Ws D->Ws D
 |_,[]=>[]
 |s,p::m=>match f p.1 with
  |true=>match Nat.testBit s p.1 with
   |true=>caR f s m
   |false=>p::caR f (Nat.lor s (2^p.1)) m
  |false=>caR f s m
def JZ:List Nat->Ws D->Ws D
 |[],m=>m
 |b::bs,m=>JZ bs (kZ [(b,.dead)] m)
def cbH:List Nat->Ws D->Bool
 |[],_=>true
 |b::bs,m=>match find b m with
  |some .mark=>cbH bs (kZ [(b,.dead)] m)
  |_=>false
def gcW (n0 n1:Nat) (xs:List A1) (m:Ws D):Ws D :=
 match ckk m 100000 (idAs xs (cjy n0 m [])) 0 with
 |k=>caR (fun b=>match Nat.blt b n0 with
  |true=>true
  |false=>match Nat.ble n1 b with
   |true=>true
   |false=>Nat.testBit k b) 0 m
def Xt.ends:Xt->Bool
 |.normal=>true
 |.ret=>true
 |_=>false
def outOf:List A1->AV
 |[x]=>.val x
 |l=>.tup l
def runF (S:Stat D) (TT:FuncId->Tab D) (CF YF:cN D) (g:Nat):cN D:=fun M n0 f l =>
 match S.P.funcs[f]? with
 |some fn=>match fn.body with
  |some c=>match Nat.ble l.length fn.ntmps with
   |true=>match Cg S TT CF YF fn.ntmps M f false g c ⟨n0,Je 0 l,[],[]⟩ with
    |some (xt,st,ob)=>match xt.ends,cbH st.ms st.m with
     |true,true=>match ZQ S.P (fun t=>find t st.sl) (over M (JZ st.ms st.m)) fn.results.toList with
      |some xs=>some ⟨outOf xs,gcW n0 st.nb xs (JZ st.ms st.m),st.nb,ob⟩
      |none=>none
     |_,_=>none
    |none=>none
   |false=>none
  |none=>none
 |none=>none
def ccI (nt:Nat):List Nat->List AV->List (Nat×AV)->Option (List (Nat×AV))
 |[],[],sl=>some sl
 |p::ps,x::xs,sl=>match Nat.blt p nt with
  |true=>ccI nt ps xs (kZ [(p,x)] sl)
  |false=>none
 |_,_,_=>none
def jmOf:Xt->Ls
 |.normal=>.ready
 |.ret=>.done .ret
 |.exit id=>.done (.exit id)
def Xt.isNormal:Xt->Bool
 |.normal=>true
 |_=>false
def runY (S:Stat D) (TT:FuncId->Tab D) (CF YF:cN D) (g:Nat):cN D:=fun M n0 b l =>
 match M b with
 |some (.loop nt sl ps fid assign body .ready)=>match ccI nt ps l sl with
  |some sl1=>match Cg S TT CF YF nt M fid true g assign ⟨n0,sl1,[],[]⟩ with
   |some (.normal,st1,ob1)=>match over M st1.m b with
    |some (.loop nt' sl' ps' fid' assign' body' .ready)=>match Cg S TT CF YF nt M fid true g body ⟨st1.nb,st1.sl,kZ [(b,.loop nt' sl' ps' fid' assign' body' .busy)] st1.m,st1.ms⟩ with
     |some (x,st2,ob2)=>match over M st2.m b with
      |some (.loop nt2 sl2 ps2 fid2 assign2 body2 .busy)=>some ⟨.val (.one (.lit (.bool x.isNormal))),gcW n0 st2.nb [] (kZ [(b,.loop nt2 sl2 ps2 fid2 assign2 body2 (jmOf x))] st2.m),st2.nb,ob1++ob2⟩
      |_=>none
     |none=>none
    |_=>none
   |_=>none
  |none=>none
 |_=>none
def zB (S:Stat D) (TT:FuncId->Tab D) (g:Nat):Nat->cN D×cN D
 |0=>(fun _ _ _ _=>none,fun _ _ _ _=>none)
 |n+1=>(runF S TT (zB S TT g n).1 (zB S TT g n).2 g,runY S TT (zB S TT g n).1 (zB S TT g n).2 g)
def callF (S:Stat D) (TT:FuncId->Tab D) (g n:Nat):cN D:=(zB S TT g n).1
theorem bit_set {s b c:Nat}(h:b≠c):Nat.testBit (Nat.lor s (2^b)) c=Nat.testBit s c:=by
 show Nat.testBit (s||| 2^b) c=_;rw[Nat.testBit_or,Nat.testBit_two_pow];simp [h]
theorem GU {f:Nat->Bool}{b:Nat}:∀ {m:Ws D}{s:Nat},Nat.testBit s b=false->find b (caR f s m)=(match f b with|true=>find b m|false=>none)
 |[],s,_=>by simp only[caR,jl,cX];cases f b<;>rfl
 |p::m,s,hs=>by
  unfold caR;simp only[jl,cX];cases hb:Nat.beq p.1 b with
  |true =>
   have hpb:=ct hb;rw[hpb];cases hf:f b with
   |true=>simp only[hs,jl,cX,hb]
   |false =>
    simp only[];rw[GU hs,hf]
  |false =>
   have hne:p.1≠b:=fun h=>by rw[h,Nat.beq_refl] at hb;cases hb
   cases hf:f p.1 with
   |true =>
    simp only[];cases ht:Nat.testBit s p.1 with
    |true=>exact GU hs
    |false =>
     simp only[jl,cX,hb];exact GU (by rw[bit_set hne];exact hs)
   |false=>exact GU hs
theorem ceH {f:Nat->Bool}{b:Nat}{m:Ws D}:find b (caR f 0 m)=(match f b with|true=>find b m|false=>none):=GU (Nat.zero_testBit b)
section
variable {S:Stat D}{TT:FuncId->Tab D}{CF YF:cN D}{g:Nat}
theorem cnn (hF:CF.Mono) (hY:YF.Mono):(runF S TT CF YF g).Mono:=by
 intro M n0 f l t h;unfold runF at h;split at h
 rotate_left
 ·cases h
 split at h
 rotate_left
 ·cases h
 split at h
 rotate_left
 ·cases h
 split at h
 rotate_left
 ·cases h
 rename_i he;split at h
 rotate_left
 ·cases h
 split at h
 rotate_left
 ·cases h
 injection h with h;subst h
 exact uh hF hY _ _ _ _ _ _ he
theorem cmV (hF:CF.Mono) (hY:YF.Mono):(runY S TT CF YF g).Mono:=by
 intro M n0 f l t h;unfold runY at h;split at h
 rotate_left
 ·cases h
 split at h
 rotate_left
 ·cases h
 split at h
 rotate_left
 ·cases h
 rename_i he;split at h
 rotate_left
 ·cases h
 split at h
 rotate_left
 ·cases h
 rename_i he2;split at h
 rotate_left
 ·cases h
 injection h with h;subst h
 have h1:=uh hF hY _ _ _ _ _ _ he;have h2:=uh hF hY _ _ _ _ _ _ he2;exact cA h1 h2
theorem kz:∀ n,(zB S TT g n).1.Mono/\(zB S TT g n).2.Mono
 |0=>⟨fun M n0 f l t h=>by simp [zB] at h,fun M n0 f l t h=>by simp [zB] at h⟩
 |n+1=>⟨cnn (kz n).1 (kz n).2,cmV (kz n).1 (kz n).2⟩
end
section
variable {C:Ctx D}{e:Env}{w:World}{TT:FuncId->Tab D}{CF YF:cN D}
theorem ut.gc {n0 n1:Nat}{ws:Ws D}{e':Env}{w':World}(h:ut C e w n0 n1 ws e' w') (hf:um n0 n1 e) (xs:List A1):ut C e w n0 n1 (gcW n0 n1 xs ws) e' w':=by
 refine⟨h.le,h.adv,h.new,h.good,fun b o ho=>?_,fun b o ho hn=>?_⟩
 ·unfold gcW at ho;rw[ceH] at ho;split at ho
  ·exact h.wrote b o ho
  ·cases ho
 ·unfold gcW at hn;rw[ceH] at hn;split at hn
  ·exact h.kept b o ho hn
  ·rename_i hk;have hb:n0<=b/\b<n1:=by
    split at hk
    ·cases hk
    ·rename_i h1;split at hk
     ·cases hk
     ·rename_i h2;constructor
      ·rcases jd b n0 with h|h
       ·rw[show Nat.blt b n0=true from Jp h] at h1;cases h1
       ·exact h
      ·rcases jd b n1 with h|h
       ·exact h
       ·rw[Jp h] at h2;cases h2
   obtain⟨q1,q2,q3⟩:=hf b hb.1 hb.2;cases o with
   |blk ty cs z=>obtain⟨k,_,_,_,h1,_⟩:=ho;rw[q1] at h1;cases h1
   |clo f p q=>obtain⟨_,_,h1,_⟩:=ho;rw[q3] at h1;cases h1
   |cls d=>obtain⟨_,h1,_⟩:=ho;rw[q2] at h1;cases h1
   |loop nt sl ps fid assign body st=>obtain⟨k,_,h1,_⟩:=ho;rw[q1] at h1;cases h1
   |mark=>obtain⟨k,h1,_⟩:=ho;rw[q1] at h1;cases h1
   |gl ty z n g=>obtain⟨_,h1,_⟩:=ho;rw[q3] at h1;cases h1
   |ep l i z o=>obtain⟨_,_,h1⟩:=ho;rw[q3] at h1;cases h1
   |cp l i z o=>obtain⟨_,_,_,_,_,h1⟩:=ho;rw[q3] at h1;cases h1
   |mp es ck=>obtain⟨k,_,h1,_⟩:=ho;rw[q1] at h1;cases h1
   |dead=>trivial
def ZO (tmps:Array Value):ResultVar->Sem Value
 |.tmp t=>pure (tmps.getD t undef)
 |.cell p t=>do loadVar t (← asAddr (tmps.getD p undef))
theorem yP (fn:Func) (tmps:Array Value):results fn tmps=(do let vs ← fn.results.mapM (ZO tmps);pure (if h:vs.size=1 then vs[0] else .tuple vs)):=by
 unfold results;congr
theorem Kn {a:Act}{V:jv}{M:cR D}(hV:jD e a V) (hM:jm C e w M):∀ {l:List ResultVar}{xs:List A1},ZQ C.P V M l=some xs->
 ∃ vs,(l.mapM (ZO a.tmps)).run C.P w=.ok vs w/\up e xs vs
 |[],xs,h=>by
  simp [ZQ] at h;subst h;exact⟨[],by simp,rfl⟩
 |r::l,xs,h=>by
  simp only[ZQ] at h;split at h
  ·cases h
  ·rename_i ys hys;obtain⟨vs,h1,h2⟩:=Kn hV hM hys;split at h
   ·rename_i t;split at h
    ·rename_i x hx;injection h with h;subst h
     refine⟨a.eval (.tmp t)::vs,?_,_,_,rfl,cV hV (x:=.tmp t) hx,h2⟩;rw[Wp];simp only[ZO,jc,zk,jC,h1];rfl
    ·cases h
   ·rename_i p t;split at h
    ·rename_i b o hb;obtain⟨k,hk,hx⟩:=GV hV (x:=.tmp p) hb;split at h
     ·rename_i y hy;injection h with h;subst h
      obtain⟨v,h3,h4⟩:=JT hM hk hy;refine⟨v::vs,?_,_,_,rfl,h4,h2⟩;have hx':a.tmps.getD p undef=.pointer (some ⟨k,o,none⟩):=hx;rw[Wp];simp only[ZO,jc,hx',asAddr,zk,jC,h1,h3]
     ·cases h
    ·cases h
theorem Wi {x:AV}{t:Nat}:∀ {l:List AV}{j:Nat},find t (Je j l)=some x->∃ i,l[i]?=some x/\t=j+i
 |[],j,h=>by simp [Je,jl,cX] at h
 |y::l,j,h=>by
  simp only[Je,jl,cX] at h;split at h
  ·rename_i hb;injection h with h;subst h
   exact⟨0,rfl,by rw[← ct hb];rfl⟩
  ·obtain⟨i,h1,h2⟩:=Wi h;exact⟨i+1,by simpa using h1,by omega⟩
theorem Zz {e0:Env}{w0:World}{n0 n1 m:Nat}{fn:Func}{tmps:Array Value}{R:Ending->World->Prop}:∀ (bs rs:List Nat) (ws:Ws D) (e:Env) (w:World),ut C e0 w0 n0 n1 ws e w->Yd e bs rs->cbH bs ws=true->
 (∀ w',ut C e0 w0 n0 n1 (JZ bs ws) e w'->∃ v,(results fn tmps).run C.P w'=.ok v w'/\R (.returned v) w')->LeavesInM Fence.wide m C.P fn tmps R (rs.map UF) .returning w
 |[],rs,ws,e,w,hL,hm,hk,hf=>by
  rw[show rs=[] from hm];exact hf w hL
 |b::bs,rs,ws,e,w,hL,⟨r,rs',h1,h2,h3⟩,hk,hf=>by
  subst h1;unfold cbH at hk;split at hk
  ·rename_i hfb;obtain⟨k,q1,q2,q3⟩:=hL.wrote b _ hfb;rw[h2] at q1;injection q1 with q1;subst q1
   have hlt:=(Array.getElem?_eq_some_iff.1 q3).1;refine⟨by simp,.inl ⟨r,w.putObj r (.deferred none),rfl,run_takeDeferred q3,?_⟩⟩;exact Zz bs rs' _ e _ (hL.trans (Kh hL.good h2 q2 (w':=w.putObj r (.deferred none)) ⟨rfl,rfl,rfl,by simp [World.putObj],fun j hj=>Jg hj⟩ (Kt hlt) (.inr (.inr (.inl ⟨_,rfl⟩))) (ob:=.dead) trivial)) h3 hk hf
  ·cases hk
theorem runF_ok (hC : C.Ok) (hN : ∀ (f : Nat) (fn : Func), C.P.funcs[f]? = some fn → (fn.name == "runtime.NumGoroutine") = false) (hT : ∀ f, (TT f).Ok C) (hF : CF.Ok C) (hFm : CF.Mono) (hY : zQ C YF) (hYm : YF.Mono) {g : Nat} : (runF C.toStat TT CF YF g).Ok C := by
 intro e w M n0 f l vs t hM hg hvs h hf ho;unfold runF at h;split at h
 rotate_left
 ·cases h
 rename_i fn hfn;split at h
 rotate_left
 ·cases h
 rename_i c hbody;split at h
 rotate_left
 ·cases h
 rename_i hlen;have hlen:=jo hlen;split at h
 rotate_left
 ·cases h
 rename_i xt st ob he;split at h
 rotate_left
 ·cases h
 rename_i hends hmarks;split at h
 rotate_left
 ·cases h
 rename_i xs hres;injection h with h
 subst h;refine⟨cY hfn (hN f fn hfn) hbody,?_⟩;have hvl:=hvs.length;have hs:Sat C fn.ntmps e w n0 ⟨n0,Je 0 l,[],[]⟩ { tmps:=vs.toArray++Array.replicate (fn.ntmps-vs.toArray.size) undef,defers:=[] } w:=by
  refine⟨⟨e,ut.refl hg n0,?_,[],rfl,rfl⟩,?_⟩
  ·intro tt x hx;obtain⟨i,h1,h2⟩:=Wi hx;obtain⟨v,h3,h4⟩:=hvs.get i x h1;refine⟨v,?_,h4⟩;have hil:i<vs.length:=(List.getElem?_eq_some_iff.1 h3).1;rw[h2,je];show (vs.toArray++Array.replicate (fn.ntmps-vs.toArray.size) undef)[i]?=some v;rw[ckA (by simpa using hil)];simpa using h3
  ·simp only[ccG,Ek,cfK];omega
 refine(callsIn_wide (n:=0)).1 (cjF hfn hbody trivial (Ex (kC (F:=Fence.wide) (.inl rfl) (fun _=>rfl) hC hT hF hFm hY hYm hM hf g c _ xt st ob he ho (cb _) _ _ hs) ?_));rintro ex a' w' ⟨rfl,⟨e',hL,hV,rs,hdf,hmk⟩,hsz⟩;have:LeavesInM Fence.wide 0 C.P fn a'.tmps (fun en w'=>∃ v,en=.returned v/\uk C e w n0 ⟨outOf xs,gcW n0 st.nb xs (JZ st.ms st.m),st.nb,ob⟩ v w') a'.defers .returning w':=by
  rw[hdf];refine Zz st.ms rs st.m e' w' hL hmk hmarks (fun w2 hL2=>?_);obtain⟨us,h3,h4⟩:=Kn hV (uD hM hL2) hres;have h5:(results fn a'.tmps).run C.P w2=.ok (if h:us.toArray.size=1 then us.toArray[0] else .tuple us.toArray) w2:=by
   rw[yP,ZR];simp only[jc,Sem.run_map,h3,jC];rfl
  refine⟨_,h5,_,rfl,e',hL2.gc hf xs,?_⟩;have hul:=h4.length;unfold outOf;split
  ·rename_i x;obtain⟨v,ws,rfl,h6,h7⟩:=h4;rw[show ws=[] from h7];exact h6
  ·rename_i hne;have hl:us.toArray.size≠1:=by
    intro h1;have h1:us.length=1:=by simpa using h1
    rw[h1] at hul
    match xs,hul with
    |[x],_=>exact hne x rfl
   rw[dif_neg hl];exact⟨us,h4,rfl⟩
 cases xt with
 |normal=>exact this
 |ret=>exact this
 |exit id=>cases hends
theorem cim {nt:Nat}{e:Env}:∀ {ps:List Nat}{xs:List AV}{sl sl':List (Nat×AV)}{vs:List Value}{tm:Array Value},ccI nt ps xs sl=some sl'->yH e xs vs->tm.size=nt->jD e ⟨tm,[]⟩ (fun t=>find t sl)->
 vs.length=ps.length/\((ps.zip vs).foldl (fun tmps (t,a)=>tmps.setIfInBounds t a) tm).size=nt/\jD e ⟨(ps.zip vs).foldl (fun tmps (t,a)=>tmps.setIfInBounds t a) tm,[]⟩ (fun t=>find t sl')
 |[],[],sl,sl',vs,tm,h,hv,hs,hk=>by
  simp only[ccI,kJ] at h;subst h;rw[show vs=[] from hv];exact⟨rfl,hs,hk⟩
 |p::ps,x::xs,sl,sl',vs,tm,h,⟨v,ws,h1,h2,h3⟩,hs,hk=>by
  subst h1;simp only[ccI] at h;split at h
  ·rename_i hp;have hput:cfU nt (some p) x sl=some (kZ [(p,x)] sl):=by unfold cfU;simp only[hp]
   have:=cbP (a:=⟨tm,[]⟩) hs hk hput (Ext.refl e) h2;obtain⟨q1,q2,q3⟩:=cim (tm:=tm.setIfInBounds p v) h h3 (by simpa using hs) this;exact⟨by simp [q1],q2,q3⟩
  ·cases h
 |[],_::_,sl,sl',vs,tm,h,hv,hs,hk=>by simp [ccI] at h
 |_::_,[],sl,sl',vs,tm,h,hv,hs,hk=>by simp [ccI] at h
theorem runY_ok (hC:C.Ok) (hT:∀ f,(TT f).Ok C) (hF:CF.Ok C) (hFm:CF.Mono) (hY:zQ C YF) (hYm:YF.Mono) {g:Nat}:zQ C (runY C.toStat TT CF YF g):=by
 intro e w M n0 b l vs t hM hg hvs h hf ho;unfold runY at h;split at h
 rotate_left
 ·cases h
 rename_i nt sl ps fid assign body hb;obtain⟨k,r,p1,p2,p3,p4,p5,p6,p7,p8,p9,p10⟩:=hM _ _ hb;split at h
 rotate_left
 ·cases h
 rename_i sl1 hbind;obtain⟨q1,q2,q3⟩:=cim hbind hvs p7 p8;have hfold:(r.params.zip vs.toArray).foldl (fun tmps (t,a)=>tmps.setIfInBounds t a) r.tmps=(ps.zip vs).foldl (fun tmps (t,a)=>tmps.setIfInBounds t a) r.tmps:=by
  rw[p4,← Array.foldl_toList];simp
 split at h
 rotate_left
 ·cases h
 rename_i st1 ob1 hex1;split at h
 rotate_left
 ·cases h
 rename_i nt' sl' ps' fid' assign' body' hl1;split at h
 rotate_left
 ·cases h
 rename_i x st2 ob2 hex2;split at h
 rotate_left
 ·cases h
 rename_i nt2 sl2 ps2 fid2 assign2 body2 hl2;injection h with h
 subst h;obtain⟨ho1,ho2⟩:=jE.append ho;have hle1:=uh hFm hYm _ _ _ _ _ _ hex1;have hle2:=uh hFm hYm _ _ _ _ _ _ hex2;refine⟨k,r,p1,p3,by rw[q1,p4];simp,fun F m hW=>?_⟩;rw[hfold];have hW':Wd (F.inRound k):=by
  rcases hW with rfl|⟨l0,rfl⟩
  ·exact .inr ⟨k,rfl⟩
  ·exact .inr ⟨k,rfl⟩
 have hs:Sat C nt e w n0 ⟨n0,sl1,[],[]⟩ { tmps:=(ps.zip vs).foldl (fun tmps (t,a)=>tmps.setIfInBounds t a) r.tmps,defers:=[] } w:=⟨⟨e,ut.refl hg n0,q3,[],rfl,rfl⟩,q2⟩;refine roundIn_of_wpIn (hW.fn _) ?_;rw[p5,p6];refine Ex (kC (F:=F.inRound k) hW' (fun h=>by cases h) hC hT hF hFm hY hYm hM hf g assign _ .normal st1 ob1 hex1 ho1 hle2 _ _ hs) ?_;rintro ex a1 w1 ⟨rfl,⟨e1,hL1,hV1,hmk1⟩,hsz1⟩;obtain⟨k1,r1,s1,s2,s3,s4,s5,s6,s7,s8,s9,s10⟩:=uD hM hL1 _ _ hl1;have hk1:e1.ρ b=some k:=hL1.adv.ext.ρ _ _ p1;rw[hk1] at s1;injection s1 with s1;subst s1
 have hlt1:=(Array.getElem?_eq_some_iff.1 s3).1;refine⟨_,run_beginRound s3 s9,?_⟩;have hL1':=hL1.trans (Kh (n0:=st1.nb) hL1.good hk1 s2 (w':=w1.putObj k (.loop { r1 with state:=.busy })) ⟨rfl,rfl,rfl,by simp [World.putObj],fun j hj=>Jg hj⟩ (Kt hlt1) (.inr (.inl ⟨_,rfl⟩)) (ob:=.loop nt' sl' ps' fid' assign' body' .busy) ⟨k,_,hk1,s2,Kt hlt1,s4,s5,s6,s7,s8,rfl⟩);refine Ex (kC (F:=F.inRound k) hW' (fun h=>by cases h) hC hT hF hFm hY hYm hM hf g body ⟨st1.nb,st1.sl,kZ [(b,.loop nt' sl' ps' fid' assign' body' .busy)] st1.m,st1.ms⟩ x st2 ob2 hex2 ho2 (cb _) _ _ ⟨⟨e1,hL1',hV1,hmk1⟩,hsz1⟩) ?_;rintro ex a2 w2 ⟨rfl,⟨e2,hL2,hV2,hmk2⟩,hsz2⟩;obtain⟨k2,r2,u1,u2,u3,u4,u5,u6,u7,u8,u9⟩:=uD hM hL2 _ _ hl2;have hk2:e2.ρ b=some k:=hL2.adv.ext.ρ _ _ p1;rw[hk2] at u1;injection u1 with u1;subst u1
 have hlt2:=(Array.getElem?_eq_some_iff.1 u3).1;have hend:∀ (jump:Option Code) (jx:Ls),(match jx with
  |.ready=>(if jump.isNone then LoopState.ready else .done)=.ready/\jump=none
  |.busy=>(if jump.isNone then LoopState.ready else .done)=.busy
  |.done j=>(if jump.isNone then LoopState.ready else .done)=.done/\jump=some j.code)->ut C e w n0 st2.nb (gcW n0 st2.nb [] (kZ [(b,.loop nt2 sl2 ps2 fid2 assign2 body2 jx)] st2.m)) e2 (w2.putObj k (.loop { r2 with state:=if jump.isNone then .ready else .done,pending:=jump })):=by
  intro jump jx hj;exact(hL2.trans (Kh (n0:=st2.nb) hL2.good hk2 u2 (w':=w2.putObj k (.loop { r2 with state:=if jump.isNone then .ready else .done,pending:=jump })) ⟨rfl,rfl,rfl,by simp [World.putObj],fun j hj=>Jg hj⟩ (Kt hlt2) (.inr (.inl ⟨_,rfl⟩)) (ob:=.loop nt2 sl2 ps2 fid2 assign2 body2 jx) ⟨k,_,hk2,u2,Kt hlt2,u4,u5,u6,u7,u8,hj⟩)).gc hf []
 cases x with
 |normal=>exact⟨_,_,cgB none u3,_,rfl,e2,hend none .ready ⟨rfl,rfl⟩,rfl⟩
 |ret=>exact⟨_,_,cgB (some .ret) u3,_,rfl,e2,hend (some .ret) (.done .ret) ⟨rfl,rfl⟩,rfl⟩
 |exit id=>exact⟨_,_,cgB (some (.exit id)) u3,_,rfl,e2,hend (some (.exit id)) (.done (.exit id)) ⟨rfl,rfl⟩,rfl⟩
theorem zK (hC : C.Ok) (hN : ∀ (f : Nat) (fn : Func), C.P.funcs[f]? = some fn → (fn.name == "runtime.NumGoroutine") = false) (hT : ∀ f, (TT f).Ok C) {g : Nat} : ∀ n, (zB C.toStat TT g n).1.Ok C ∧ zQ C (zB C.toStat TT g n).2
 |0=>⟨fun e w M n0 f l vs t _ _ _ h=>by simp [zB] at h,fun e w M n0 f l vs t _ _ _ h=>by simp [zB] at h⟩
 |n+1=>⟨runF_ok hC hN hT (zK hC hN hT n).1 (kz n).1 (zK hC hN hT n).2 (kz n).2,runY_ok hC hT (zK hC hN hT n).1 (kz n).1 (zK hC hN hT n).2 (kz n).2⟩
theorem cmg (hC : C.Ok) (hN : ∀ (f : Nat) (fn : Func), C.P.funcs[f]? = some fn → (fn.name == "runtime.NumGoroutine") = false) (hT : ∀ f, (TT f).Ok C) {g n : Nat} {f : FuncId} {t : Out D} {ps : List (Pat D)} {xs : List A1} {ws : Ws D} {n0 : Nat} (hm : Er C.csz 0 ps = some (xs, ws, n0)) (h : callF C.toStat TT g n (fun b => find b ws) n0 f (uB xs) = some t) (ho : jE t.ob)
 {vs:List Value} (hp:caj (fun d f=>∀ w',uH ⟨fun _=>none,fun _=>0,fun _=>none,fun _=>none,fun _=>false⟩ C.w0 w'->C.E d w' f) C.csz ps vs) (hfr:C.fr=none:=by rfl) :
 Calls C.P f vs.toArray C.w0 (fun en w'=>∃ v e e',en=.returned v/\ut C e C.w0 n0 t.n1 t.ws e' w'/\t.x.is e' v):=by
 obtain⟨e,gr,hx⟩:=Js hm (cb _) (e:=⟨fun _=>none,fun _=>0,fun _=>none,fun _=>none,fun _=>false⟩) (fun _ _ _=>rfl) hp;have hρ:∀ b,e.ρ b=none:=fun b=>by rw[gr.ρ]
 have hφ:∀ b,e.φ b=none:=fun b=>by rw[gr.φ]
 have hg:jr C e C.w0:=⟨cw _ _,fun b b' k _ _ h=>(by rw[hρ] at h;cases h),fun b k h=>(by rw[hρ] at h;cases h),FrOk.none hfr⟩;have hM:jm C e C.w0 (fun b=>find b ws):=by
  intro b o ho;obtain⟨_,d,rfl,f,h1,h2⟩:=gr.live b o (uY ho);exact⟨f,h1,fun w' hk=>h2 w' ⟨hk.size,fun k h3 _=>hk.block k h3 (fun b=>by rw[hρ];simp)⟩⟩
 have hf:um n0 t.n1 e:=by
  intro b h1 _;refine⟨hρ b,?_,hφ b⟩;cases hb:e.ν b with
  |none=>rfl
  |some f =>
   rcases gr.ν b f hb with h|h
   ·cases h
   ·omega
 refine Calls.mono ((zK hC hN hT n).1 e C.w0 _ n0 f _ vs t hM hg (zc hx) h hf ho).2 ?_;rintro en w' ⟨v,rfl,e',h1,h2⟩;exact⟨v,e,e',rfl,h1,h2⟩
end
variable {D:Type}
structure At (C:Ctx D) (nt:Nat) (st:St D) (a:Act) (w:World):Prop where
 ex:∃ e,jr C e w/\jm C e w (fun b=>find b st.m)/\jD e a (fun t=>find t st.sl)/\(∀ b,st.nb<=b->e.ρ b=none/\e.ν b=none/\e.φ b=none)/\∃ rs,a.defers=rs.map UF/\Yd e st.ms rs
 size:a.tmps.size=nt
def St.join (st st':St D):St D:=⟨st'.nb,st'.sl,st'.m++st.m,st'.ms⟩
section
variable {F:Fence}{m:Nat}{C:Ctx D}{TT:FuncId->Tab D}{CF YF:cN D}{nt:Nat}{fid:FuncId}{inR:Bool}{Q:Exit->Act->World->Prop}{a:Act}{w:World}{st:St D}
theorem WE {m m':Ws D}(b:Nat):over (fun b=>find b m) m' b=find b (m'++m):=by
 unfold over;rw[yw];split<;>rename_i h<;>simp only[h]
theorem kf (hW:Wd F) (hR:inR=false->F=Fence.wide) (hC:C.Ok) (hT:∀ f,(TT f).Ok C) (hF:CF.Ok C) (hFm:CF.Mono) (hY:zQ C YF) (hYm:YF.Mono) {n:Nat}{c:Code}{x:Xt}{st':St D}{ob:List Prop}(h:Cg C.toStat TT CF YF nt (fun b=>find b st.m) fid inR n c ⟨st.nb,st.sl,[],st.ms⟩=some (x,st',ob)) (ho:jE ob)
 (hA:At C nt st a w) (hQ:∀ a' w',At C nt (st.join st') a' w'->Q x.to a' w'):c.wpIn F m C.P Q a w:=by
 obtain⟨⟨e,hg,hM,hV,hfr,hmk⟩,hsz⟩:=hA;have hle:=uh hFm hYm _ _ _ _ _ _ h;have hfree:um st.nb st'.nb e:=fun b h1 _=>hfr b h1;refine Ex (kC hW hR hC hT hF hFm hY hYm hM hfree n c _ x st' ob h ho (cb _) a w ⟨⟨e,ut.refl hg _,hV,hmk⟩,hsz⟩) ?_;rintro ex a' w' ⟨rfl,⟨e',hL,hV',hmk'⟩,hsz'⟩;refine hQ a' w' ⟨⟨e',hL.good,fun b o ho=>?_,hV',fun b hb=>?_,hmk'⟩,hsz'⟩
 ·exact uD hM hL b o (by rw[WE];exact ho)
 ·obtain⟨q1,q2,q3⟩:=hfr b (cA hle hb);refine⟨?_,?_,?_⟩
  ·cases hx:e'.ρ b with
   |none=>rfl
   |some y =>
    rcases hL.new.ρ b y hx with h|h
    ·rw[q1] at h;cases h
    ·have hb:st'.nb<=b:=hb;omega
  ·cases hx:e'.ν b with
   |none=>rfl
   |some y =>
    rcases hL.new.ν b y hx with h|h
    ·rw[q2] at h;cases h
    ·have hb:st'.nb<=b:=hb;omega
  ·cases hx:e'.φ b with
   |none=>rfl
   |some y =>
    rcases hL.new.φ b y hx with h|h
    ·rw[q3] at h;cases h
    ·have hb:st'.nb<=b:=hb;omega
theorem cpe {Θ:Type}(I:Θ->St D) (J:Θ->Prop) (μ:Θ->Nat) {c:Code}(θ0:Θ) (h0:J θ0) (hA:At C nt (I θ0) a w)
 (hr:∀ θ a w,J θ->At C nt (I θ) a w->c.wpIn F m C.P (Exit.then (fun a' w'=>∃ θ',J θ'/\At C nt (I θ') a' w'/\μ θ'<μ θ) Q) a w):(Code.loop c).wpIn F m C.P Q a w:=by
 intro b k cs hro hbr hrm;have key:∀ j θ a w,μ θ=j->J θ->At C nt (I θ) a w->
  ∃ e a' w',Q e a' w'/\ArrivesIn (Machine.fenced C.P F) C.P (lone (b.atR a (.code c::.inLoop c::k)) cs w) b k cs e a' w':=by
  intro j
  induction j using Nat.strongRecOn with
  |_ j ih =>
   intro θ a w hk hJ hA;obtain⟨e,a₁,w₁,hq,harr⟩:=hr θ a w hJ hA b (.inLoop c::k) cs hro hbr hrm;cases e with
   |normal =>
    obtain⟨θ',hJ',hA',hlt⟩:=hq;obtain⟨e₂,a₂,w₂,hq₂,harr₂⟩:=ih (μ θ') (hk▸hlt) θ' a₁ w₁ rfl hJ' hA';exact⟨e₂,a₂,w₂,hq₂,.of_steps (StepsIn.trans harr (.one (fenced_calm hbr hrm rfl) stepR_inLoop)) harr₂⟩
   |exit id=>exact⟨_,a₁,w₁,hq,.pass (x:=.inLoop c) rfl (fun _ _=>.inl (by simp)) harr⟩
   |goto l=>exact⟨_,a₁,w₁,hq,.pass (x:=.inLoop c) rfl (fun _ _=>.inl (by simp)) harr⟩
   |ret=>exact⟨_,a₁,w₁,hq,.pass (x:=.inLoop c) rfl (fun _ _=>.inl (by simp)) harr⟩
   |panic ch=>exact⟨_,a₁,w₁,hq,.pass (x:=.inLoop c) rfl (fun _ _=>.inl (by simp)) harr⟩
   |outgrown=>exact⟨_,a₁,w₁,hq,.pass (x:=.inLoop c) rfl (fun _ _=>.inl (by simp)) harr⟩
 obtain⟨e,a',w',hq,harr⟩:=key _ θ0 a w rfl h0 hA;exact⟨e,a',w',hq,.of_steps (.one (fenced_calm hbr hrm rfl) stepR_loop) harr⟩
theorem loop_at {Θ:Type}(I:Θ->St D) (J:Θ->Prop) (μ:Θ->Nat) {id:Nat}{c:Code}(θ0:Θ) (h0:J θ0) (hA:At C nt (I θ0) a w)
 (hr:∀ θ a w,J θ->At C nt (I θ) a w->c.wpIn F m C.P (Exit.then (fun a' w'=>∃ θ',J θ'/\At C nt (I θ') a' w'/\μ θ'<μ θ) (Exit.inBlock id Q)) a w):(Code.block id (.loop c)).wpIn F m C.P Q a w :=
 wpIn_block (cpe I J μ θ0 h0 hA hr)
end
inductive Rk where
 |old (k:Nat)
 |nil
 |frz (k:Nat)
 |cpy (k:Nat)
abbrev Rm:=List (Nat×Rk)
def ZE (a b:Option (List Prop)):Option (List Prop):=match a with
 |some l=>match b with
  |some l'=>some (l++l')
  |none=>none
 |none=>none
theorem uf {a b:Option (List Prop)}{l:List Prop}(h:ZE a b=some l):∃ x y,a=some x/\b=some y/\l=x++y:=by
 unfold ZE at h;split at h
 ·rename_i x;split at h
  ·rename_i y;injection h with h
   exact⟨x,y,rfl,rfl,h.symm⟩
  ·cases h
 ·cases h
def cie (r:Rm) (b k:Nat):Bool:=match find b r with
 |some (.old j)=>Nat.beq j k
 |_=>false
theorem YM {r:Rm}{b k:Nat}(h:cie r b k=true):find b r=some (.old k):=by
 unfold cie at h;split at h
 ·rename_i j hj;rw[hj,ct h]
 ·cases h
def ckt (r:Rm) (b k:Nat):Bool:=match find b r with
 |some (.cpy j)=>Nat.beq j k
 |_=>false
theorem ccC {r:Rm}{b k:Nat}(h:ckt r b k=true):find b r=some (.cpy k):=by
 unfold ckt at h;split at h
 ·rename_i j hj;rw[hj,ct h]
 ·cases h
def isFrz (r:Rm) (b k:Nat):Bool:=match find b r with
 |some (.frz j)=>Nat.beq j k
 |_=>false
theorem cjr {r:Rm}{b k:Nat}(h:isFrz r b k=true):find b r=some (.frz k):=by
 unfold isFrz at h;split at h
 ·rename_i j hj;rw[hj,ct h]
 ·cases h
def isNil (r:Rm) (b:Nat):Bool:=match find b r with
 |some .nil=>true
 |_=>false
theorem cjl {r:Rm}{b:Nat}(h:isNil r b=true):find b r=some .nil:=by
 unfold isNil at h;split at h
 ·assumption
 ·cases h
def Yk (b:Bool) (l:List Prop):Option (List Prop):=match b with
 |true=>some l
 |false=>none
theorem zF {b:Bool}{l m:List Prop}(h:Yk b l=some m):b=true/\l=m:=by
 unfold Yk at h;split at h
 ·injection h with h;exact⟨rfl,h⟩
 ·cases h
def ccA (bl:Nat->Bool) (r:Rm) (b k:Nat):Bool:=match bl k with
 |true=>cie r b k
 |false=>false
theorem UM {bl:Nat->Bool}{r:Rm}{b k:Nat}(h:ccA bl r b k=true):bl k=true/\find b r=some (.old k):=by
 unfold ccA at h;split at h
 ·rename_i hb;exact⟨hb,YM h⟩
 ·cases h
def ckY (m:Ws D) (k:Nat):Bool:=match find k m with
 |some (.blk ..)=>true
 |_=>false
def clh (bl:Nat->Bool) (r:Rm):AC->AC->Option (List Prop)
 |.lit v,.lit v'=>some [v=v']
 |.sym s j,.sym s' j'=>match ckt r s s' with
  |true=>Yk (Nat.beq j j') []
  |false=>none
 |.sym s 0,.fn b=>Yk (isFrz r s b) []
 |.ptr b o,.ptr b' o'=>Yk (ccA bl r b b') [o=o']
 |.slc b o n c,.slc b' o' n' c'=>Yk (ccA bl r b b') [o=o',n=n',c=c']
 |.gsl b n,.gsl b' n'=>Yk (ccA bl r b b') [n=n']
 |.fn b,.fn b'=>Yk (cie r b b') []
 |.fn b,.lit (.slice none 0 0)=>Yk (isNil r b) []
 |_,_=>none
def ceg (bl:Nat->Bool) (r:Rm):List AC->List AC->Option (List Prop)
 |[],[]=>some []
 |c::cs,d::ds=>ZE (clh bl r c d) (ceg bl r cs ds)
 |_,_=>none
def ckl (bl:Nat->Bool) (r:Rm):A1->A1->Option (List Prop)
 |.one c,.one d=>clh bl r c d
 |.agg cs,.agg ds=>ceg bl r cs ds
 |_,_=>none
def ccE (bl:Nat->Bool) (r:Rm):List A1->List A1->Option (List Prop)
 |[],[]=>some []
 |c::cs,d::ds=>ZE (ckl bl r c d) (ccE bl r cs ds)
 |_,_=>none
def ckE (bl:Nat->Bool) (r:Rm):AV->AV->Option (List Prop)
 |.val x,.val y=>ckl bl r x y
 |.tup l,.tup m=>ccE bl r l m
 |_,_=>none
def Env.ren (e:Env) (r:Rm):Env where
 ρ:=fun b=>match find b r with
  |some (.old k)=>match e.al k with
   |true=>e.ρ k
   |false=>none
  |_=>none
 κ:=fun b=>match find b r with
  |some (.old k)=>e.κ k
  |_=>0
 ν:=fun b=>match find b r with
  |some (.old k)=>e.ν k
  |some (.cpy k)=>e.ν k
  |some (.frz k)=>match e.φ k with
   |some v=>some [v]
   |none=>none
  |_=>none
 φ:=fun b=>match find b r with
  |some (.old k)=>e.φ k
  |some .nil=>some (.slice none 0 0)
  |_=>none
 al:=fun b=>match find b r with
  |some (.old k)=>e.al k
  |_=>false
section
variable {e:Env}{r:Rm}{bl:Nat->Bool}
def cau (e:Env) (r:Rm):Prop:=∀ b k,find b r=some (.frz k)->∀ v,e.φ k=some v->v.oneCell'=true
def ceC (e:Env) (bl:Nat->Bool):Prop:=∀ k,bl k=true->e.al k=true
theorem ren_ρ {b k:Nat}(hb:find b r=some (.old k)) (ha:e.al k=true):(e.ren r).ρ b=e.ρ k:=by
 simp only[Env.ren,hb,ha]
theorem ren_κ {b k:Nat}(hb:find b r=some (.old k)):(e.ren r).κ b=e.κ k:=by
 simp only[Env.ren,hb]
theorem chh (ha:ceC e bl) (hz:cau e r) {c d:AC}{l:List Prop}(h:clh bl r c d=some l) (ho:jE l) {v:Value}(hd:d.is e v):c.is (e.ren r) v:=by
 unfold clh at h;split at h
 ·injection h with h;subst h
  obtain rfl:=ho.1;exact hd
 ·split at h
  ·rename_i hs;obtain⟨h1,_⟩:=zF h;obtain⟨f,h2,h3,h4⟩:=hd;refine⟨f,?_,by rw[ct h1];exact h3,h4⟩;simp only[Env.ren,ccC hs];exact h2
  ·cases h
 ·rename_i s b;obtain⟨h1,_⟩:=zF h;have hf:=cjr h1;have hd:e.φ b=some v:=hd;refine⟨[v],?_,rfl,hz _ _ hf v hd⟩;simp only[Env.ren,hf,hd]
 ·obtain⟨h1,h2⟩:=zF h;subst h2;obtain⟨hb,h1⟩:=UM h1;obtain⟨k,h3,h4⟩:=hd;exact⟨k,by rw[ren_ρ h1 (ha _ hb)];exact h3,by rw[h4,ho.1]⟩
 ·obtain⟨h1,h2⟩:=zF h;subst h2;obtain⟨hb,h1⟩:=UM h1;obtain⟨k,h3,h4⟩:=hd;exact⟨k,by rw[ren_ρ h1 (ha _ hb)];exact h3,by rw[h4,ho.1,ho.2.1,ho.2.2.1]⟩
 ·obtain⟨h1,h2⟩:=zF h;subst h2;obtain⟨hb,h1⟩:=UM h1;obtain⟨k,h3,h4⟩:=hd;exact⟨k,by rw[ren_ρ h1 (ha _ hb)];exact h3,by rw[ren_κ h1,h4,ho.1]⟩
 ·obtain⟨h1,_⟩:=zF h;show (e.ren r).φ _=some v;simp only[Env.ren,YM h1];exact hd
 ·obtain⟨h1,_⟩:=zF h;show (e.ren r).φ _=some v;simp only[Env.ren,cjl h1];rw[show v=_ from hd]
 ·cases h
theorem ccF (ha:ceC e bl) (hz:cau e r):∀ {cs ds:List AC}{l:List Prop}{vs:List Value},ceg bl r cs ds=some l->jE l->cZ e ds vs->cZ (e.ren r) cs vs
 |[],[],l,vs,h,ho,hd=>hd
 |c::cs,d::ds,l,vs,h,ho,⟨v,ws,h1,h2,h3⟩=>by
  obtain⟨x,y,q1,q2,rfl⟩:=uf h;obtain⟨o1,o2⟩:=ho.append;exact⟨v,ws,h1,chh ha hz q1 o1 h2,ccF ha hz q2 o2 h3⟩
 |[],_::_,l,vs,h,_,_=>by simp [ceg] at h
 |_::_,[],l,vs,h,_,_=>by simp [ceg] at h
theorem cgO (ha:ceC e bl) (hz:cau e r) {x y:A1}{l:List Prop}(h:ckl bl r x y=some l) (ho:jE l) {v:Value}(hd:y.is e v):x.is (e.ren r) v:=by
 unfold ckl at h;split at h
 ·exact chh ha hz h ho hd
 ·obtain⟨vs,h1,h2⟩:=hd;exact⟨vs,ccF ha hz h ho h1,h2⟩
 ·cases h
theorem Zx (ha:ceC e bl) (hz:cau e r):∀ {cs ds:List A1}{l:List Prop}{vs:List Value},ccE bl r cs ds=some l->jE l->up e ds vs->up (e.ren r) cs vs
 |[],[],l,vs,h,ho,hd=>hd
 |c::cs,d::ds,l,vs,h,ho,⟨v,ws,h1,h2,h3⟩=>by
  obtain⟨x,y,q1,q2,rfl⟩:=uf h;obtain⟨o1,o2⟩:=ho.append;exact⟨v,ws,h1,cgO ha hz q1 o1 h2,Zx ha hz q2 o2 h3⟩
 |[],_::_,l,vs,h,_,_=>by simp [ccE] at h
 |_::_,[],l,vs,h,_,_=>by simp [ccE] at h
theorem cpd (ha:ceC e bl) (hz:cau e r) {x y:AV}{l:List Prop}(h:ckE bl r x y=some l) (ho:jE l) {v:Value}(hd:y.is e v):x.is (e.ren r) v:=by
 unfold ckE at h;split at h
 ·exact cgO ha hz h ho hd
 ·obtain⟨vs,h1,h2⟩:=hd;exact⟨vs,Zx ha hz h ho h1,h2⟩
 ·cases h
end
def jq (C:Ctx D) (d d':D):Prop:=∀ w l,C.E d' w l->C.E d w l
def jW (C:Ctx D) (gs gs':List (Grp D)):Prop:=∀ w vs,cO C w gs' vs->cO C w gs vs
theorem jq.refl (C:Ctx D) (d:D):jq C d d:=fun _ _ h=>h
theorem jW.refl (C:Ctx D) (gs:List (Grp D)):jW C gs gs:=fun _ _ h=>h
def optEq:Option Nat->Option Nat->Bool
 |none,none=>true
 |some a,some b=>Nat.beq a b
 |_,_=>false
theorem cnE {a b:Option Nat}(h:optEq a b=true):a=b:=by
 unfold optEq at h;split at h
 ·rfl
 ·rw[ct h]
 ·cases h
def obSub (C:Ctx D) (bl:Nat->Bool) (r:Rm):EZ D->EZ D->Option (List Prop)
 |.blk ty cs z,.blk ty' cs' z'=>match Nat.beq ty ty',optEq z z' with
  |true,true=>ceg bl r cs cs'
  |_,_=>none
 |.clo f p q,.clo f' p' q'=>match Nat.beq f f' with
  |true=>ZE (ccE bl r p p') (ccE bl r q q')
  |false=>none
 |.cls d,.cls d'=>some [jq C d d']
 |.gl ty z n g,.gl ty' z' n' g'=>match Nat.beq ty ty',Nat.beq z z' with
  |true,true=>some [n=n',∀ j,j<n->jW C (g j) (g' j)]
  |_,_=>none
 |.cp l i z o,.cp l' i' z' o'=>match ckt r l l' with
  |true=>Yk (Nat.beq z z') [i=i',o=o']
  |false=>none
 |.dead,_=>some []
 |_,_=>none
def fitO (C:Ctx D) (r:Rm) (m:Ws D) (b:Nat) (o:EZ D):Option (List Prop) :=
 match find b r with
 |some (.old k)=>match find k m with
  |some o'=>obSub C (ckY m) r o o'
  |none=>none
 |some .nil=>match o with
  |.gl _ _ n _=>some [n=0]
  |_=>none
 |some (.cpy k)=>match find k m with
  |some (.cls d')=>match o with
   |.cls d=>some [jq C d d']
   |_=>none
  |_=>none
 |some (.frz k)=>match find k m with
  |some (.gl ty z n g)=>match o with
   |.cls d=>some [∀ w v,C.E (C.mkL ⟨C.lo,ty,z,n,g⟩) w [v]->C.E d w [v]]
   |_=>none
  |_=>none
 |none=>match o with
  |.dead=>some []
  |_=>none
def fitM (C:Ctx D) (r:Rm) (m:Ws D):Ws D->Option (List Prop)
 |[]=>some []
 |p::l=>ZE (fitO C r m p.1 p.2) (fitM C r m l)
def fitS (bl:Nat->Bool) (r:Rm) (sl:List (Nat×AV)):List (Nat×AV)->Option (List Prop)
 |[]=>some []
 |p::l=>match find p.1 sl with
  |some y=>ZE (ckE bl r p.2 y) (fitS bl r sl l)
  |none=>none
def cfR (n:Nat):Rm->Bool
 |[]=>true
 |p::l=>match Nat.blt p.1 n with
  |true=>cfR n l
  |false=>false
def Ed:Rm->List Nat
 |[]=>[]
 |(_,.old k)::l=>k::Ed l
 |(_,.frz k)::l=>k::Ed l
 |(_,.nil)::l=>Ed l
 |(_,.cpy _)::l=>Ed l
def UA:List Nat->Bool
 |[]=>true
 |k::l=>match memL k l with
  |true=>false
  |false=>UA l
def frzB (m:Ws D):Rm->Bool
 |[]=>true
 |(_,.frz k)::l=>match find k m with
  |some (.gl ..)=>frzB m l
  |_=>false
 |_::l=>frzB m l
def pinB (C:Ctx D) (r:Rm):Bool:=match C.fr with
 |none=>true
 |some (_,_,b0,_)=>cie r b0 b0
def fit (C:Ctx D) (r:Rm) (st st':St D):Option (List Prop) :=
 match cfR st'.nb r,UA (Ed r),frzB st.m r,pinB C r,st.ms,st'.ms with
 |true,true,true,true,[],[]=>ZE (fitM C r st.m st'.m) (fitS (ckY st.m) r st.sl st'.sl)
 |_,_,_,_,_,_=>none
section
variable {C:Ctx D}{e:Env}{w:World}{r:Rm}{st st':St D}{nt:Nat}{a:Act}
theorem clu {m:Ws D}:∀ {l:Ws D}{ob:List Prop},fitM C r m l=some ob->jE ob->∀ b o,find b l=some o->∃ ob',fitO C r m b o=some ob'/\jE ob'
 |[],ob,h,ho,b,o,hb=>by simp [jl] at hb
 |p::l,ob,h,ho,b,o,hb=>by
  obtain⟨x,y,q1,q2,rfl⟩:=uf h;obtain⟨o1,o2⟩:=ho.append;rw[cX] at hb;split at hb
  ·rename_i hp;injection hb with hb;subst hb
   rw[← ct hp];exact⟨x,q1,o1⟩
  ·exact clu q2 o2 b o hb
theorem clM {bl:Nat->Bool}{sl:List (Nat×AV)}:∀ {l:List (Nat×AV)}{ob:List Prop},fitS bl r sl l=some ob->jE ob->∀ t x,find t l=some x->∃ y ob',find t sl=some y/\ckE bl r x y=some ob'/\jE ob'
 |[],ob,h,ho,b,o,hb=>by simp [jl] at hb
 |p::l,ob,h,ho,b,o,hb=>by
  unfold fitS at h;split at h
  rotate_left
  ·cases h
  rename_i y hy;obtain⟨x,z,q1,q2,rfl⟩:=uf h;obtain⟨o1,o2⟩:=ho.append;rw[cX] at hb;split at hb
  ·rename_i hp;injection hb with hb;subst hb
   rw[← ct hp];exact⟨y,x,hy,q1,o1⟩
  ·exact clM q2 o2 b o hb
theorem cat {k:Nat}:∀ {l:List Nat},k∈l->memL k l=true
 |b::l,h=>by
  unfold memL;split
  ·rfl
  ·rename_i hb;rcases List.mem_cons.1 h with rfl|h
   ·simp at hb
   ·exact cat h
theorem Jd {b k:Nat}:∀ {r:Rm},(b,Rk.old k)∈r\/(b,Rk.frz k)∈r->k∈Ed r
 |[],h=>by simp at h
 |(b',.old k')::l,h=>by
  simp only[uQ,cr,Rk.old.injEq,reduceCtorEq,and_false,false_or] at h;simp only[Ed,uQ];rcases h with(⟨_,rfl⟩|h)|h
  ·exact .inl rfl
  ·exact .inr (Jd (.inl h))
  ·exact .inr (Jd (.inr h))
 |(b',.frz k')::l,h=>by
  simp only[uQ,cr,Rk.frz.injEq,reduceCtorEq,and_false,false_or] at h;simp only[Ed,uQ];rcases h with h|(⟨_,rfl⟩|h)
  ·exact .inr (Jd (.inl h))
  ·exact .inl rfl
  ·exact .inr (Jd (.inr h))
 |(b',.nil)::l,h=>by
  simp only[uQ,cr,reduceCtorEq,and_false,false_or] at h;exact Jd (r:=l) h
 |(b',.cpy _)::l,h=>by
  simp only[uQ,cr,reduceCtorEq,and_false,false_or] at h;exact Jd (r:=l) h
theorem cdB {k:Nat}:∀ {r:Rm}{b b':Nat},UA (Ed r)=true->(find b r=some (.old k)\/find b r=some (.frz k))->(find b' r=some (.old k)\/find b' r=some (.frz k))->b=b'
 |[],b,b',_,h,_=>by simp [jl] at h
 |p::l,b,b',hn,h,h'=>by
  have hn':UA (Ed l)=true:=by
   obtain⟨x,y⟩:=p;cases y<;>simp only[Ed] at hn
   ·unfold UA at hn;split at hn
    ·cases hn
    ·exact hn
   ·exact hn
   ·unfold UA at hn;split at hn
    ·cases hn
    ·exact hn
   ·exact hn
  have no:(p.2=.old k\/p.2=.frz k)->∀ b,¬ (find b l=some (.old k)\/find b l=some (.frz k)):=by
   intro hp b hb;have hm:k∈Ed l:=Jd (b:=b) (hb.imp uY uY);obtain⟨x,y⟩:=p;rcases hp with hp|hp
   ·simp only at hp;subst hp;simp only[Ed,UA,cat hm] at hn;cases hn
   ·simp only at hp;subst hp;simp only[Ed,UA,cat hm] at hn;cases hn
  rw[cX] at h h';cases h1:Nat.beq p.1 b with
  |true =>
   cases h2:Nat.beq p.1 b' with
   |true=>rw[← ct h1,← ct h2]
   |false =>
    rw[h1] at h;rw[h2] at h';exact absurd h' (no (by simpa using h) b')
  |false =>
   cases h2:Nat.beq p.1 b' with
   |true =>
    rw[h1] at h;rw[h2] at h';exact absurd h (no (by simpa using h') b)
   |false =>
    rw[h1] at h;rw[h2] at h';exact cdB hn' h h'
theorem cbh {n:Nat}:∀ {r:Rm}{b:Nat}{x:Rk},cfR n r=true->find b r=some x->b<n
 |[],b,x,h,hb=>by simp [jl] at hb
 |p::l,b,x,h,hb=>by
  unfold cfR at h;split at h
  ·rename_i hp;rw[cX] at hb;split at hb
   ·rename_i hpb;rw[← ct hpb];exact yq hp
   ·exact cbh h hb
  ·cases h
theorem JI {m:Ws D}:∀ {r:Rm}{b k:Nat},frzB m r=true->find b r=some (.frz k)->∃ ty z n g,find k m=some (.gl ty z n g)
 |[],b,k,h,hb=>by simp [jl] at hb
 |(x,y)::l,b,k,h,hb=>by
  rw[cX] at hb;split at hb
  ·injection hb with hb
   simp only at hb;subst hb;simp only[frzB] at h;split at h
   ·rename_i hg;exact⟨_,_,_,_,hg⟩
   ·cases h
  ·cases y<;>simp only[frzB] at h
   ·exact JI h hb
   ·exact JI h hb
   ·split at h
    ·exact JI h hb
    ·cases h
   ·exact JI h hb
theorem jW.rob {gs gs':List (Grp D)}{e':Env}{vs:List Value}(h:jW C gs gs') (hk:∀ w',uH e' w w'->uH e w w') (hr:JE C e w gs' vs):JE C e' w gs vs:=fun w' k=>h w' vs (hr w' (hk w' k))
theorem fit_is (hC:C.Ok) {ob:List Prop}(h:fit C r st st'=some ob) (ho:jE ob) (hA:At C nt st a w):At C nt st' a w:=by
 unfold fit at h;split at h
 rotate_left
 ·cases h
 rename_i hkl hnd hfz hpin hms hms';obtain⟨x,y,q1,q2,rfl⟩:=uf h;obtain⟨o1,o2⟩:=ho.append;obtain⟨⟨e,hg,hM,hV,hfr,rs,hdf,hmk⟩,hsz⟩:=hA;rw[hms] at hmk;have hF:cau e r:=by
  intro b k hb v hv;obtain⟨ty,z,n,g,hk⟩:=JI hfz hb;obtain⟨v',h1,h2⟩:=hM _ _ hk;rw[hv] at h1;injection h1 with h1;subst h1
  rcases h2 with⟨_,rfl⟩|⟨_,_,_,_,_,_,_,rfl,_⟩<;>rfl
 have hρ:∀ b k,(e.ren r).ρ b=some k->∃ i,find b r=some (.old i)/\e.ρ i=some k/\e.al i=true:=by
  intro b k hb;simp only[Env.ren] at hb;split at hb
  ·rename_i i hi;split at hb
   ·rename_i ha;exact⟨i,hi,hb,ha⟩
   ·cases hb
  ·cases hb
 have hkeep:∀ w',uH (e.ren r) w w'->uH e w w':=by
  intro w' k;refine⟨k.size,fun j hj hn=>k.block j hj (fun b hb=>?_)⟩;obtain⟨i,_,h1,_⟩:=hρ b j hb;exact hn _ h1
 have hA0:ceC e (ckY st.m):=by
  intro k hk;unfold ckY at hk;split at hk
  ·rename_i hb;obtain⟨_,_,_,_,_,h2,_⟩:=hM _ _ hb;exact h2
  ·cases hk
 have hal:∀ b,(e.ren r).al b=true->∃ i,find b r=some (.old i)/\e.al i=true:=by
  intro b hb;simp only[Env.ren] at hb;split at hb
  ·rename_i i hi;exact⟨i,hi,hb⟩
  ·cases hb
 have hgo:jr C (e.ren r) w:=by
  refine⟨hg.below,?_,?_,?_⟩
  rotate_left 2
  ·intro w1 k b0 v0 hf;obtain⟨h1,h2,h3,h4⟩:=hg.fr w1 k b0 v0 hf;unfold pinB at hpin;rw[hf] at hpin;refine⟨by simp only[Env.ren,YM hpin];exact h1,fun b j hb=>?_,h3,h4⟩;obtain⟨i,_,p2,_⟩:=hρ b j hb;exact h2 i j p2
  ·intro b b' k h1 h2 h3 h4;obtain⟨i,p1,p2⟩:=hal b h1;obtain⟨i',p3,p4⟩:=hal b' h2;obtain⟨j,p5,p6,_⟩:=hρ b k h3;obtain⟨j',p7,p8,_⟩:=hρ b' k h4;rw[p1] at p5;injection p5 with p5;injection p5 with p5;subst p5
   rw[p3] at p7;injection p7 with p7;injection p7 with p7;subst p7
   have:=hg.inj i i' k p2 p4 p6 p8;subst this;exact cdB hnd (.inl p1) (.inl p3)
  ·intro b k hb;obtain⟨i,_,p2,_⟩:=hρ b k hb;exact hg.own i k p2
 refine⟨⟨e.ren r,hgo,?_,?_,?_,[],by rw[hdf,show rs=[] from hmk],by rw[hms'];rfl⟩,hsz⟩
 ·intro b o hb;obtain⟨ob',h1,h2⟩:=clu q1 o1 b o hb;unfold fitO at h1;split at h1
  ·rename_i k hk;split at h1
   rotate_left
   ·cases h1
   rename_i o' ho';have hh:=hM k o' ho';unfold obSub at h1;split at h1
   ·rename_i ty cs z ty' cs' z';split at h1
    rotate_left
    ·cases h1
    rename_i ht hz;obtain rfl:=ct ht;obtain rfl:=cnE hz;obtain⟨kk,arr,vs,rest,p1,p2,p3,p4,p5,p6⟩:=hh;refine⟨kk,arr,vs,rest,by rw[ren_ρ hk p2];exact p1,by simp only[Env.ren,hk];exact p2,p3,p4,ccF hA0 hF h1 h2 p5,?_⟩;cases z with
    |none=>exact p6
    |some z=>simp only[Env.ren,hk];exact p6
   ·rename_i f p q f' p' q';split at h1
    rotate_left
    ·cases h1
    rename_i hf;obtain rfl:=ct hf;obtain⟨x1,y1,r1,r2,rfl⟩:=uf h1;obtain⟨t1,t2⟩:=h2.append;obtain⟨us,vs,p1,p2,p3⟩:=hh;exact⟨us,vs,by simp only[Env.ren,hk];exact p1,Zx hA0 hF r1 t1 p2,Zx hA0 hF r2 t2 p3⟩
   ·rename_i d d';injection h1 with h1;subst h1
    obtain⟨f,p1,p2⟩:=hh;exact⟨f,by simp only[Env.ren,hk];exact p1,fun w' kk=>h2.1 w' f (p2 w' (hkeep w' kk))⟩
   ·rename_i ty z n g ty' z' n' g';split at h1
    rotate_left
    ·cases h1
    rename_i ht hz;obtain rfl:=ct ht;obtain rfl:=ct hz;injection h1 with h1;subst h1
    obtain⟨hn,hgg,_⟩:=h2;have hn:n=n':=hn;subst hn;obtain⟨v,p1,p2⟩:=hh;refine⟨v,by simp only[Env.ren,hk];exact p1,p2.imp id ?_⟩;rintro⟨kk,c,arr,vs,rest,p3,p4,p5,p6,p7,p8,p9,p10,p11,p12⟩;exact⟨kk,c,arr,vs,rest,by rw[ren_ρ hk p4];exact p3,by simp only[Env.ren,hk];exact p4,p5,p6,p7,p8,p9,p10,p11,fun j hj=>jW.rob (hgg j hj) hkeep (p12 j hj)⟩
   ·rename_i l i z o l' i' z' o';split at h1
    rotate_left
    ·cases h1
    rename_i hl;obtain⟨hz,h1⟩:=zF h1;subst h1;obtain rfl:=ct hz;obtain⟨kk,p,n,c,p1,p2⟩:=hh;refine⟨kk,p,n,c,?_,?_⟩
    ·simp only[Env.ren,ccC hl];exact p1
    ·simp only[Env.ren,hk];rw[p2,h2.1,h2.2.1]
   ·trivial
   ·cases h1
  ·rename_i hk;split at h1
   ·injection h1 with h1;subst h1
    exact⟨_,by simp only[Env.ren,hk],.inl ⟨h2.1,rfl⟩⟩
   ·cases h1
  ·rename_i k hk;split at h1
   rotate_left
   ·cases h1
   rename_i d' ho';split at h1
   rotate_left
   ·cases h1
   rename_i d;injection h1 with h1;subst h1
   obtain⟨f,p1,p2⟩:=hM k _ ho';exact⟨f,by simp only[Env.ren,hk];exact p1,fun w' kk=>h2.1 w' f (p2 w' (hkeep w' kk))⟩
  ·rename_i k hk;split at h1
   rotate_left
   ·cases h1
   rename_i ty z n g hgl;split at h1
   rotate_left
   ·cases h1
   rename_i d;injection h1 with h1;subst h1
   obtain⟨hd,_⟩:=h2;obtain⟨v,p1,p2⟩:=hM _ _ hgl;refine⟨[v],by simp only[Env.ren,hk,p1],fun w' kw=>hd w' v (hC.lists _ _ _ ?_)⟩;rcases p2 with p2|⟨kk,c,arr,vs,rest,p3,p4,p5,p6,p7,p8,p9,p10,p11,p12⟩
   ·exact .inl ⟨p2.1,none,p2.2⟩
   ·refine .inr ⟨kk,0,c,arr,[],vs,rest,p5,p10,?_,by simpa using p7,rfl,p8,cA hC.los (hg.own _ _ p3).1,p11,fun j hj=>(p12 j hj) w' (hkeep w' kw)⟩;rw[kw.block kk (Array.getElem?_eq_some_iff.1 p6).1 (fun b' hb'=>?_)]
    ·exact⟨_,p6⟩
    ·obtain⟨i,s1,s2,s3⟩:=hρ b' kk hb';have:=hg.inj i k kk s3 p4 s2 p3;subst this;have:=cdB hnd (.inl s1) (.inr hk);subst this;rw[s1] at hk;cases hk
  ·rename_i hk;split at h1
   ·trivial
   ·cases h1
 ·intro t x hx;obtain⟨y,ob',h1,h2,h3⟩:=clM q2 o2 t x hx;obtain⟨v,h4,h5⟩:=hV t y h1;exact⟨v,h4,cpd hA0 hF h2 h3 h5⟩
 ·intro b hb;have hn:find b r=none:=by
   cases hx:find b r with
   |none=>rfl
   |some y=>have:=cbh hkl hx;omega
  simp only[Env.ren,hn];exact⟨trivial,trivial,trivial⟩
end
variable {D:Type}
def pairC:AC->AC->Rm
 |.sym s _,.sym s' _=>[(s,.cpy s')]
 |.sym s _,.fn b=>[(s,.frz b)]
 |.ptr b _,.ptr b' _=>[(b,.old b')]
 |.slc b _ _ _,.slc b' _ _ _=>[(b,.old b')]
 |.gsl b _,.gsl b' _=>[(b,.old b')]
 |.fn b,.fn b'=>[(b,.old b')]
 |.fn b,.lit _=>[(b,.nil)]
 |_,_=>[]
def ciD:List AC->List AC->Rm
 |c::cs,d::ds=>pairC c d++ciD cs ds
 |_,_=>[]
def pair1:A1->A1->Rm
 |.one c,.one d=>pairC c d
 |.agg cs,.agg ds=>ciD cs ds
 |_,_=>[]
def cgl:List A1->List A1->Rm
 |c::cs,d::ds=>pair1 c d++cgl cs ds
 |_,_=>[]
def pairV:AV->AV->Rm
 |.val x,.val y=>pair1 x y
 |.tup l,.tup m=>cgl l m
 |_,_=>[]
def pairO:Option (EZ D)->Option (EZ D)->Rm
 |some (.blk _ cs _),some (.blk _ ds _)=>ciD cs ds
 |some (.clo _ p q),some (.clo _ p' q')=>cgl p p'++cgl q q'
 |some (.cp s _ _ _),some (.cp s' _ _ _)=>[(s,.cpy s')]
 |_,_=>[]
def discS (sl:List (Nat×AV)):List (Nat×AV)->Rm
 |[]=>[]
 |p::l=>match find p.1 sl with
  |some y=>pairV p.2 y++discS sl l
  |none=>discS sl l
def clN (m m':Ws D):Nat->Rm->Rm->Rm
 |0,_,r=>r
 |_+1,[],r=>r
 |n+1,p::q,r=>match memN p.1 r with
  |true=>clN m m' n q r
  |false=>match p.2 with
   |.old k=>clN m m' n (pairO (find p.1 m') (find k m)++q) (p::r)
   |_=>clN m m' n q (p::r)
def disc (st st':St D):Rm:=clN st.m st'.m 1000 (discS st.sl st'.sl) []
def fitTo (C:Ctx D) (st st':St D):Option (List Prop):=fit C (disc st st') st st'
def segTo (C:Ctx D) (TT:FuncId->Tab D) (CF YF:cN D) (nt:Nat) (fid:FuncId) (inR:Bool) (n:Nat) (c:Code) (st st':St D):Option (Xt×List Prop) :=
 match Cg C.toStat TT CF YF nt (fun b=>find b st.m) fid inR n c ⟨st.nb,st.sl,[],st.ms⟩ with
 |some (x,s1,ob)=>match fitTo C (st.join s1) st' with
  |some ob2=>some (x,ob++ob2)
  |none=>none
 |none=>none
section
variable {F:Fence}{m:Nat}{C:Ctx D}{TT:FuncId->Tab D}{nt:Nat}{fid:FuncId}{inR:Bool}{Q:Exit->Act->World->Prop}{a:Act}{w:World}{st st':St D}
theorem cod (hC:C.Ok) {ob:List Prop}(h:fitTo C st st'=some ob) (ho:jE ob) (hA:At C nt st a w):At C nt st' a w:=fit_is hC h ho hA
structure zt (C:Ctx D) (TT:FuncId->Tab D):Prop where
 ok:C.Ok
 name : ∀ (f : Nat) (fn : Func), C.P.funcs[f]? = some fn → (fn.name == "runtime.NumGoroutine") = false
 tab:∀ f,(TT f).Ok C
def Ret (C:Ctx D) (fn:Func) (R:Value->World->Prop):Exit->Act->World->Prop:=fun x a w=>(x=.ret\/x=.normal)/\a.defers=[]/\∃ v,(results fn a.tmps).run C.P w=.ok v w/\R v w
abbrev env0:Env:=⟨fun _=>none,fun _=>0,fun _=>none,fun _=>none,fun _=>false⟩
theorem cmR (hR:zt C TT) {f:FuncId}{fn:Func}{c:Code}(hfn:C.P.funcs[f]?=some fn) (hbody:fn.body=some c) {xs:List AV}{ws:Ws D}{n0:Nat}(hlen:xs.length<=fn.ntmps) {vs:List Value}{e:Env}{w1:World}(hg:jr C e w1) (hM:jm C e w1 (fun b=>find b ws)) (hva:yH e xs vs) (hfr:∀ b,n0<=b->e.ρ b=none/\e.ν b=none/\e.φ b=none)
 {R:Value->World->Prop} (hwp:∀ a,At C fn.ntmps ⟨n0,Je 0 xs,ws,[]⟩ a w1->c.wpIn Fence.wide 0 C.P (Ret C fn R) a w1) :
 Enters C.P f/\Calls C.P f vs.toArray w1 (fun en w'=>∃ v,en=.returned v/\R v w'):=by
 refine⟨cY hfn (hR.name f fn hfn) hbody,?_⟩;have hvl:=hva.length;refine(callsIn_wide (n:=0)).1 (cjF hfn hbody trivial (Ex (hwp _ ⟨⟨e,hg,hM,?_,hfr,[],rfl,rfl⟩,?_⟩) ?_))
 ·intro tt x hx;obtain⟨i,h1,h2⟩:=Wi hx;obtain⟨v,h3,h4⟩:=hva.get i x h1;refine⟨v,?_,h4⟩;have hil:i<vs.length:=(List.getElem?_eq_some_iff.1 h3).1;rw[h2,je];show (vs.toArray++Array.replicate (fn.ntmps-vs.toArray.size) undef)[i]?=some v;rw[ckA (by simpa using hil)];simpa using h3
 ·simp only[ccG,Ek,cfK];omega
 ·rintro ex a' w' ⟨hx,hdf,v,h1,h2⟩;have:LeavesInM Fence.wide 0 C.P fn a'.tmps (fun en w'=>∃ v,en=.returned v/\R v w') a'.defers .returning w':=by
   rw[hdf];exact⟨v,h1,v,rfl,h2⟩
  rcases hx with rfl|rfl
  ·exact this
  ·exact this
theorem Cc (hR:zt C TT) {f:FuncId}{fn:Func}{c:Code}(hfn:C.P.funcs[f]?=some fn) (hbody:fn.body=some c) {ps:List (Pat D)}{xs:List A1}{ws:Ws D}{n0:Nat}(hm:Er C.csz 0 ps=some (xs,ws,n0)) (hlen:Nat.ble (uB xs).length fn.ntmps=true) {vs:List Value}
 (hp:caj (fun d f=>∀ w',uH env0 C.w0 w'->C.E d w' f) C.csz ps vs) {R:Value->World->Prop} (hwp:∀ a,At C fn.ntmps ⟨n0,Je 0 (uB xs),ws,[]⟩ a C.w0->c.wpIn Fence.wide 0 C.P (Ret C fn R) a C.w0) (hfr:C.fr=none:=by rfl) :
 Enters C.P f/\Calls C.P f vs.toArray C.w0 (fun en w'=>∃ v,en=.returned v/\R v w'):=by
 obtain⟨e,gr,hx⟩:=Js hm (cb _) (e:=env0) (fun _ _ _=>rfl) hp;have hρ:∀ b,e.ρ b=none:=fun b=>by rw[gr.ρ]
 have hφ:∀ b,e.φ b=none:=fun b=>by rw[gr.φ]
 refine cmR hR hfn hbody (jo hlen) ⟨cw _ _,fun b b' k _ _ h=>(by rw[hρ] at h;cases h),fun b k h=>(by rw[hρ] at h;cases h),FrOk.none hfr⟩ ?_ (zc hx) (fun b hb=>⟨hρ b,?_,hφ b⟩) hwp
 ·intro b o ho;obtain⟨_,d,rfl,f,h1,h2⟩:=gr.live b o (uY ho);exact⟨f,h1,fun w' hk=>h2 w' ⟨hk.size,fun k h3 _=>hk.block k h3 (fun b=>by rw[hρ];simp)⟩⟩
 ·cases hc:e.ν b with
  |none=>rfl
  |some y =>
   rcases gr.ν b y hc with h|h
   ·cases h
   ·have hb:n0<=b:=hb;omega
def zC:List (Grp D)->List D
 |[]=>[]
 |.lit _::l=>zC l
 |.cls d::l=>d::zC l
def patDs:Pat D->List D
 |.one g=>zC [g]
 |.agg gs=>zC gs
 |.slc _ _ gs=>zC gs
 |.cap _ _ _ gs=>zC gs
def cay:List (Pat D)->List D
 |[]=>[]
 |p::l=>patDs p++cay l
def kE (C:Ctx D) (d:D):Prop:=∀ w w' f,C.E d w f->w.heap.size<=w'.heap.size->(∀ k o,w.heap[k]?=some o->(C.w0.heap.size<=k\/¬ CD C o)->w'.heap[k]?=some o)->C.E d w' f
def noSlc:Pat D->Bool
 |.slc ..=>false
 |.cap ..=>false
 |_=>true
def KN:List (Pat D)->Bool
 |[]=>true
 |p::l=>match noSlc p with
  |true=>KN l
  |false=>false
theorem WO {w w':World}(hs:w.heap.size<=w'.heap.size) (hk:∀ k o,w.heap[k]?=some o->(C.w0.heap.size<=k\/¬ CD C o)->w'.heap[k]?=some o):∀ {gs:List (Grp D)}{vs:List Value},(∀ d∈zC gs,kE C d)->cO C w gs vs->cO C w' gs vs
 |[],vs,_,h=>h
 |.lit v::gs,vs,hd,h=>⟨h.1,WO hs hk hd h.2⟩
 |.cls d::gs,vs,hd,h=>⟨hd d (by simp [zC]) w w' _ h.1 hs hk,WO hs hk (fun x hx=>hd x (by simp [zC,hx])) h.2⟩
theorem cos {w w':World}(hs:w.heap.size<=w'.heap.size) (hk:∀ k o,w.heap[k]?=some o->(C.w0.heap.size<=k\/¬ CD C o)->w'.heap[k]?=some o) {p:Pat D}{v:Value}(hn:noSlc p=true) (hd:∀ d∈patDs p,kE C d) (h:p.is C w v):p.is C w' v:=by
 cases p with
 |one g =>
  cases g with
  |lit x=>exact h
  |cls d=>exact hd d (by simp [patDs,zC]) w w' _ h hs hk
 |agg gs =>
  obtain⟨vs,h1,h2⟩:=h;exact⟨vs,WO hs hk hd h1,h2⟩
 |slc t n gs=>cases hn
 |cap f ty z gs=>cases hn
theorem caK {w w':World}(hs:w.heap.size<=w'.heap.size) (hk:∀ k o,w.heap[k]?=some o->(C.w0.heap.size<=k\/¬ CD C o)->w'.heap[k]?=some o):∀ {ps:List (Pat D)}{vs:List Value},KN ps=true->(∀ d∈cay ps,kE C d)->jb C w ps vs->jb C w' ps vs
 |[],vs,_,_,h=>h
 |p::ps,vs,hn,hd,⟨v,ws,h1,h2,h3⟩=>by
  unfold KN at hn;split at hn
  ·rename_i h0;exact⟨v,ws,h1,cos hs hk h0 (fun d hx=>hd d (by simp [cay,hx])) h2,caK hs hk hn (fun d hx=>hd d (by simp [cay,hx])) h3⟩
  ·cases hn
def readR (S:Stat D) (M:cR D) (l:List A1):Option (List (Pat D)):=YN S M (uB l)
def Cd:List (Pat D)->jH D
 |[p]=>.val p
 |l=>.tup l
def Ka (C:Ctx D):List (Grp D)->List (Grp D)->Option (List Prop)
 |[],[]=>some []
 |.lit v::l,.lit v'::l'=>ZE (some [v=v']) (Ka C l l')
 |.cls d::l,.cls d'::l'=>match Nat.beq (C.csz d) (C.csz d') with
  |true=>ZE (some [jq C d d']) (Ka C l l')
  |false=>none
 |_,_=>none
def cjY (C:Ctx D):Pat D->Pat D->Option (List Prop)
 |.one g,.one g'=>match Ka C [g] [g'] with
  |some ob=>some ob
  |none=>match g,g' with
   |.cls d,.lit v=>match Nat.beq (C.csz d) 1 with
    |true=>some [jW C [.cls d] [.lit v]]
    |false=>none
   |_,_=>none
 |.agg gs,.agg gs'=>match Ka C gs gs' with
  |some ob=>some ob
  |none=>some [jW C gs gs']
 |_,_=>none
def yd (C:Ctx D):List (Pat D)->List (Pat D)->Option (List Prop)
 |[],[]=>some []
 |p::l,p'::l'=>ZE (cjY C p p') (yd C l l')
 |_,_=>none
theorem Za:∀ {gs gs':List (Grp D)}{ob:List Prop}{vs:List Value},Ka C gs gs'=some ob->jE ob->cO C w gs' vs->cO C w gs vs
 |[],[],ob,vs,h,ho,hv=>hv
 |.lit v::l,.lit v'::l',ob,vs,h,ho,hv=>by
  obtain⟨x,y,q1,q2,rfl⟩:=uf h;obtain⟨o1,o2⟩:=ho.append;injection q1 with q1;subst q1
  refine⟨?_,Za q2 o2 hv.2⟩;rw[o1.1];exact hv.1
 |.cls d::l,.cls d'::l',ob,vs,h,ho,hv=>by
  unfold Ka at h;split at h
  ·rename_i hz;have hz:=ct hz;obtain⟨x,y,q1,q2,rfl⟩:=uf h;obtain⟨o1,o2⟩:=ho.append;injection q1 with q1;subst q1
   refine⟨?_,Za q2 o2 ?_⟩
   ·show C.E d w (vs.take (C.csz d));rw[hz];exact o1.1 w _ hv.1
   ·show cO C w l' (vs.drop (C.csz d));rw[hz];exact hv.2
  ·cases h
 |[],_::_,ob,vs,h,_,_=>by simp [Ka] at h
 |.lit _::_,[],ob,vs,h,_,_=>by simp [Ka] at h
 |.cls _::_,[],ob,vs,h,_,_=>by simp [Ka] at h
 |.lit _::_,.cls _::_,ob,vs,h,_,_=>by simp [Ka] at h
 |.cls _::_,.lit _::_,ob,vs,h,_,_=>by simp [Ka] at h
theorem cne (hC:C.Ok) {p p':Pat D}{ob:List Prop}{v:Value}(h:cjY C p p'=some ob) (ho:jE ob) (hv:p'.is C w v):p.is C w v:=by
 unfold cjY at h;split at h
 ·rename_i g g';split at h
  rotate_left
  ·split at h
   ·rename_i d x _;split at h
    ·rename_i hz;have hz:=ct hz;injection h with h;subst h
     have h1:=(ho.1 w [v] (Uu hC hv)).1;have h1:C.E d w ([v].take (C.csz d)):=h1;rw[hz] at h1;exact h1
    ·cases h
   ·cases h
  rename_i ob' h';injection h with h;subst h
  have:=Za h' ho (Uu hC hv);have h1:=cgx hC this.1;have:g.is C w ([v].take (g.n C.csz)):=this.1
  rwa [kA] at this
  rw[jp] at h1;cases g with
  |lit x=>simp [Grp.n]
  |cls d =>
   cases g' with
   |lit x=>simp [Ka] at h'
   |cls d' =>
    unfold Ka at h';split at h'
    ·rename_i hz;have hz:=ct hz;have hl:=hC.len _ _ _ (show C.E d' w [v] from hv);show 1<=C.csz d;rw[hz,← hl];simp
    ·cases h'
 ·obtain⟨vs,h1,h2⟩:=hv;split at h
  ·rename_i h3;injection h with h;subst h
   exact⟨vs,Za h3 ho h1,h2⟩
  ·injection h with h;subst h
   exact⟨vs,ho.1 _ _ h1,h2⟩
 ·cases h
theorem yV (hC:C.Ok):∀ {ps ps':List (Pat D)}{ob:List Prop}{vs:List Value},yd C ps ps'=some ob->jE ob->jb C w ps' vs->jb C w ps vs
 |[],[],ob,vs,h,ho,hv=>hv
 |p::l,p'::l',ob,vs,h,ho,⟨v,ws,h1,h2,h3⟩=>by
  obtain⟨x,y,q1,q2,rfl⟩:=uf h;obtain⟨o1,o2⟩:=ho.append;exact⟨v,ws,h1,cne hC q1 o1 h2,yV hC q2 o2 h3⟩
 |[],_::_,ob,vs,h,_,_=>by simp [yd] at h
 |_::_,[],ob,vs,h,_,_=>by simp [yd] at h
def Res (C:Ctx D) (ps:List (Pat D)):Value->World->Prop:=fun v w=>Below C.w0.heap.size C.w0 w/\cdj C C.w0 w (Cd ps) v
def cbc (C:Ctx D) (rs:List ResultVar) (st:St D) (ps:List (Pat D)):Option (List Prop) :=
 match st.ms,ZQ C.P (fun t=>find t st.sl) (fun b=>find b st.m) rs with
 |[],some xs=>match readR C.toStat (fun b=>find b st.m) xs with
  |some ps'=>match KN ps with
   |true=>ZE (yd C ps ps') (some ((cay ps).map (kE C)))
   |false=>none
  |none=>none
 |_,_=>none
theorem ccR {p:D->Prop}:∀ {l:List D},jE (l.map p)->∀ d∈l,p d
 |[],_,d,hd=>by simp at hd
 |x::l,h,d,hd=>by
  rcases List.mem_cons.1 hd with rfl|hd
  ·exact h.1
  ·exact ccR h.2 d hd
theorem cgw (hC:C.Ok) {fn:Func}{ps:List (Pat D)}{ob:List Prop}(h:cbc C fn.results.toList st ps=some ob) (ho:jE ob) (hA:At C nt st a w) {x:Exit}(hx:x=.ret\/x=.normal):Ret C fn (Res C ps) x a w:=by
 unfold cbc at h;split at h
 rotate_left
 ·cases h
 rename_i xs hms hres;split at h
 rotate_left
 ·cases h
 rename_i ps' hrd;split at h
 rotate_left
 ·cases h
 rename_i hn;obtain⟨x1,y1,q1,q2,rfl⟩:=uf h;obtain⟨o1,o2⟩:=ho.append;injection q2 with q2;subst q2
 obtain⟨⟨e,hg,hM,hV,_,rs,hdf,hmk⟩,hsz⟩:=hA;rw[hms] at hmk;obtain⟨us,h3,h4⟩:=Kn hV hM hres;refine⟨hx,by rw[hdf,show rs=[] from hmk];rfl,?_⟩;have h5:(results fn a.tmps).run C.P w=.ok (if h:us.toArray.size=1 then us.toArray[0] else .tuple us.toArray) w:=by
  rw[yP,ZR];simp only[jc,Sem.run_map,h3,jC];rfl
 refine⟨_,h5,hg.below,?_⟩;have hps:=yV hC q1 o1 (JK hC hg hM hrd (zc h4));intro S hS w'' hw hk;have hps:=caK hw (fun k o hko hor=>by
  rw[hk k (Array.getElem?_eq_some_iff.1 hko).1 (fun hs=>?_)]
  ·exact hko
  ·obtain⟨s1,o',s2,s3⟩:=hS k hs;rw[hko] at s2;injection s2 with s2;subst s2
   rcases hor with h|h
   ·omega
   ·exact h s3) hn (ccR o2) hps
 unfold Cd;split
 ·rename_i p;obtain⟨v,ws,rfl,r1,r2⟩:=hps;rw[show ws=[] from r2];exact r1
 ·rename_i hne;have hl:us.toArray.size≠1:=by
   intro h1;have h1:us.length=1:=by simpa using h1
   match us,h1,hps with
   |[u],_,hps =>
    match ps,hne,hps with
    |[],_,hps=>cases hps
    |[p],hne,_=>exact hne p rfl
    |p::q::l,_,⟨_,_,e1,_,_,_,e2,_⟩=>injection e1 with _ e1;rw[e2] at e1;cases e1
  rw[dif_neg hl];exact⟨us,hps,rfl⟩
end
end Pe
end Go.Proofs.YtdopipkmcnkdjaaGreatDoor
