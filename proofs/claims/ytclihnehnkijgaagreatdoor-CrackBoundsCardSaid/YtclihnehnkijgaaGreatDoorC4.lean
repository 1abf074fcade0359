/- Part 4. -/
import Derived.Test.YtclihnehnkijgaaGreatDoorC3
import Derived.RangeFuncIn
set_option linter.all false
noncomputable section

namespace Go.Proofs.YtclihnehnkijgaaGreatDoor
open Go Go.RowKit Go.Proofs
namespace Pe
variable {D:Type}
inductive Xt where
 |normal
 |exit (id:Nat)
 |ret
def Xt.to:Xt->Exit
 |.normal=>.normal
 |.exit id=>.exit id
 |.ret=>.ret
abbrev Ran (D:Type):=Option (Xt×St D×List Prop)
def CI (f:St D->Ran D):Nat->St D->Ran D
 |0,_=>none
 |n+1,st=>match f st with
  |some (.normal,st',ob)=>match CI f n st' with
   |some (x,st2,ob2)=>some (x,st2,ob++ob2)
   |none=>none
  |r=>r
def caq (CF:cI D) (nt:Nat) (base:cM D) (fid:FuncId) (ps:List Nat) (assign body:Code) (f:FuncId) (pre cap:List A1) (st:St D):Ran D :=
 match CF (over base (ua [(st.nb+1,.loop nt st.sl ps fid assign body .ready)] (ua [(st.nb,.mark)] st.m))) (st.nb+1+1) f (uQ pre++([.val (.one (.yld (st.nb+1)))]++uQ cap)) with
 |some t=>match over base (ua t.ws (ua [(st.nb+1,.loop nt st.sl ps fid assign body .ready)] (ua [(st.nb,.mark)] st.m))) (st.nb+1) with
  |some (.loop _ _ _ _ _ _ .ready)=>some (.normal,⟨t.n1,st.sl,ua [(st.nb+1,.dead)] (ua t.ws (ua [(st.nb+1,.loop nt st.sl ps fid assign body .ready)] (ua [(st.nb,.mark)] st.m))),st.nb::st.ms⟩,t.ob)
  |some (.loop _ _ _ _ _ _ (.done .ret))=>some (.ret,⟨t.n1,st.sl,ua [(st.nb+1,.dead)] (ua t.ws (ua [(st.nb+1,.loop nt st.sl ps fid assign body .ready)] (ua [(st.nb,.mark)] st.m))),st.nb::st.ms⟩,t.ob)
  |some (.loop _ _ _ _ _ _ (.done (.exit id)))=>some (.exit id,⟨t.n1,st.sl,ua [(st.nb+1,.dead)] (ua t.ws (ua [(st.nb+1,.loop nt st.sl ps fid assign body .ready)] (ua [(st.nb,.mark)] st.m))),st.nb::st.ms⟩,t.ob)
  |_=>none
 |none=>none
def CG (S:Stat D) (TT:FuncId->Tab D) (CF YF:cI D) (nt:Nat) (base:cM D) (fid:FuncId) (inR:Bool):Nat->Code->St D->Ran D
 |0,_,_=>none
 |n+1,c,st=>match c with
  |.skip=>some (.normal,st,[])
  |.label _=>some (.normal,st,[])
  |.exit id=>some (.exit id,st,[])
  |.ret=>some (.ret,st,[])
  |.region _ ops draw=>match (match draw with
   |true=>Yy S (TT fid) CF YF nt base ops.toList st
   |false=>Wb S (TT fid) CF YF nt base ops.toList ops.toList st) with
   |some (st',ob)=>some (.normal,st',ob)
   |none=>none
  |.seq x y=>match CG S TT CF YF nt base fid inR n x st with
   |some (.normal,st',ob)=>match CG S TT CF YF nt base fid inR n y st' with
    |some (x2,st2,ob2)=>some (x2,st2,ob++ob2)
    |none=>none
   |r=>r
  |.cond x c d=>match lit? (cE (fun t=>find t st.sl) x) with
   |some (.bool true)=>CG S TT CF YF nt base fid inR n c st
   |some (.bool false)=>CG S TT CF YF nt base fid inR n d st
   |_=>none
  |.block id c=>match CG S TT CF YF nt base fid inR n c st with
   |some (.exit j,st',ob)=>match Nat.beq j id with
    |true=>some (.normal,st',ob)
    |false=>some (.exit j,st',ob)
   |r=>r
  |.loop c=>CI (fun st=>CG S TT CF YF nt base fid inR n c st) n st
  |.rangeFunc g ps assign body=>match inR with
   |true=>none
   |false=>match cE (fun t=>find t st.sl) g with
    |some (.val (.one (.lit (.func (.func f) ⟨[]⟩ ⟨[]⟩))))=>caq CF nt base fid ps.toList assign body f [] [] st
    |some (.val (.one (.fn k)))=>match over base st.m k with
     |some (.clo f pre cap)=>caq CF nt base fid ps.toList assign body f pre cap st
     |_=>none
    |_=>none
  |_=>none
section
variable {S:Stat D}{T:Tab D}{TT:FuncId->Tab D}{CF YF:cI D}{nt:Nat}{base:cM D}{fid:FuncId}{inR:Bool}
theorem ZI {f:St D->Ran D}(hf:∀ st x st' ob,f st=some (x,st',ob)->st.nb<=st'.nb):∀ (n:Nat) (st:St D) (x:Xt) (st':St D) (ob:List Prop),CI f n st=some (x,st',ob)->st.nb<=st'.nb
 |0,st,x,st',ob,h=>by simp [CI] at h
 |n+1,st,x,st',ob,h=>by
  unfold CI at h;split at h
  ·rename_i st1 ob1 h1;split at h
   ·rename_i x2 st2 ob2 h2;injection h with h;simp only[cr] at h
    obtain⟨rfl,rfl,rfl⟩:=h;exact cC (hf _ _ _ _ h1) (ZI hf n _ _ _ _ h2)
   ·cases h
  ·exact hf _ _ _ _ h
theorem cjl (hF:CF.Mono) (hYF:YF.Mono) {ops:List Oper}{st st':St D}{ob:List Prop}(h:Yy S T CF YF nt base ops st=some (st',ob)):st.nb<=st'.nb:=by
 unfold Yy at h;split at h
 ·cases h
 ·split at h
  ·cases h
  ·rename_i W n ob' hgo;split at h
   ·cases h
   ·split at h
    ·injection h with h;injection h with h h'
     subst h;exact(UU hF hYF hgo rfl).2.2.1
    ·cases h
theorem Zz (hF:CF.Mono) {ps:List Nat}{assign body:Code}{f:FuncId}{pre cap:List A1}{st st':St D}{x:Xt}{ob:List Prop}(h:caq CF nt base fid ps assign body f pre cap st=some (x,st',ob)):st.nb<=st'.nb:=by
 unfold caq at h;split at h
 ·rename_i t ht;have:=hF _ _ _ _ _ ht;split at h
  all_goals first
   |(injection h with h;simp only[cr] at h;obtain⟨rfl,rfl,rfl⟩:=h;show st.nb<=t.n1;omega)
   |cases h
 ·cases h
theorem ul (hF:CF.Mono) (hYF:YF.Mono):∀ (n:Nat) (c:Code) (st:St D) (x:Xt) (st':St D) (ob:List Prop),CG S TT CF YF nt base fid inR n c st=some (x,st',ob)->st.nb<=st'.nb
 |0,c,st,x,st',ob,h=>by simp [CG] at h
 |n+1,c,st,x,st',ob,h=>by
  unfold CG at h;split at h
  ·injection h with h;simp only[cr] at h;rw[h.2.1];exact cb _
  ·injection h with h;simp only[cr] at h;rw[h.2.1];exact cb _
  ·injection h with h;simp only[cr] at h;rw[h.2.1];exact cb _
  ·injection h with h;simp only[cr] at h;rw[h.2.1];exact cb _
  ·split at h
   ·rename_i st1 ob1 h1;injection h with h;simp only[cr] at h
    obtain⟨rfl,rfl,rfl⟩:=h;split at h1
    ·exact cjl hF hYF h1
    ·exact car hF hYF h1
   ·cases h
  ·split at h
   ·rename_i st1 ob1 h1;split at h
    ·rename_i x2 st2 ob2 h2;injection h with h;simp only[cr] at h
     obtain⟨rfl,rfl,rfl⟩:=h;exact cC (ul hF hYF n _ _ _ _ _ h1) (ul hF hYF n _ _ _ _ _ h2)
    ·cases h
   ·exact ul hF hYF n _ _ _ _ _ h
  ·split at h
   ·exact ul hF hYF n _ _ _ _ _ h
   ·exact ul hF hYF n _ _ _ _ _ h
   ·cases h
  ·split at h
   ·rename_i j st1 ob1 h1;split at h
    ·injection h with h;simp only[cr] at h
     obtain⟨rfl,rfl,rfl⟩:=h;exact ul hF hYF n _ _ _ _ _ h1
    ·injection h with h;simp only[cr] at h
     obtain⟨rfl,rfl,rfl⟩:=h;exact ul hF hYF n _ _ _ _ _ h1
   ·exact ul hF hYF n _ _ _ _ _ h
  ·exact ZI (fun st x st' ob h=>ul hF hYF n _ st x st' ob h) n _ _ _ _ h
  ·split at h
   ·cases h
   ·split at h
    ·exact Zz hF h
    ·split at h
     ·exact Zz hF h
     ·cases h
    ·cases h
  ·cases h
end
section
variable {F:Fence}{m:Nat}
variable {C:Ctx D}{e0:Env}{w0:World}{TT:FuncId->Tab D}{CF YF:cI D}{n0 nt:Nat}{base:cM D}{fid:FuncId}{inR:Bool}
def Ki (C:Ctx D) (nt:Nat) (e0:Env) (w0:World) (n0:Nat) (x:Xt) (st:St D):Exit->Act->World->Prop:=fun e a w=>e=x.to/\Sat C nt e0 w0 n0 st a w
theorem Eu (hW:Wd F) {c:Code}{f:St D->Ran D}{B:Nat}(hle:∀ st x st' ob,f st=some (x,st',ob)->st.nb<=st'.nb) (hf:∀ st x st' ob,f st=some (x,st',ob)->jS ob->st'.nb<=B->∀ a w,Sat C nt e0 w0 n0 st a w->c.wpIn F m C.P (Ki C nt e0 w0 n0 x st') a w) :
 ∀ (n:Nat) (st:St D) (x:Xt) (st':St D) (ob:List Prop),CI f n st=some (x,st',ob)->jS ob->st'.nb<=B->∀ a w,Sat C nt e0 w0 n0 st a w->x≠.normal/\∀ (b:Frame) (k:List Item) (cs:List Frame),b.roundOf=F.round->
  ∃ e a' w',Ki C nt e0 w0 n0 x st' e a' w'/\ArrivesIn (Machine.fenced C.P F) C.P (lone (b.atR a (.code c::.inLoop c::k)) cs w) b k cs e a' w'
 |0,st,x,st',ob,h,ho,hB,a,w,hs=>by simp [CI] at h
 |n+1,st,x,st',ob,h,ho,hB,a,w,hs=>by
  unfold CI at h;split at h
  ·rename_i st1 ob1 h1;split at h
   ·rename_i x2 st2 ob2 h2;injection h with h;simp only[cr] at h
    obtain⟨rfl,rfl,rfl⟩:=h;obtain⟨ho1,ho2⟩:=ho.append;have hle2:=ZI hle n _ _ _ _ h2;have hb:=hf _ _ _ _ h1 ho1 (cC hle2 hB) a w hs;constructor
    ·obtain⟨e,a₁,w₁,⟨rfl,hq⟩,harr⟩:=hb { (default:Frame) with roundOf:=F.round } [] [] rfl (hW.fn _) (hW.room _);exact(Eu hW hle hf n st1 x2 st2 ob2 h2 ho2 hB a₁ w₁ hq).1
    ·intro b k cs hbr;obtain⟨e,a₁,w₁,⟨rfl,hq⟩,harr⟩:=hb b (.inLoop c::k) cs hbr (hW.fn _) (hW.room _);obtain⟨e₂,a₂,w₂,hq₂,harr₂⟩:=(Eu hW hle hf n st1 x2 st2 ob2 h2 ho2 hB a₁ w₁ hq).2 b k cs hbr;exact⟨e₂,a₂,w₂,hq₂,.of_steps (StepsIn.trans harr (.one (fenced_calm (n:=m) (hW.fn _) (hW.room _) rfl) stepR_inLoop)) harr₂⟩
   ·cases h
  ·rename_i hne;have hb:=hf _ _ _ _ h ho hB a w hs;constructor
   ·intro hx;subst hx;exact hne st' ob h
   ·intro b k cs hbr;obtain⟨e,a₁,w₁,⟨rfl,hq⟩,harr⟩:=hb b (.inLoop c::k) cs hbr (hW.fn _) (hW.room _);cases x with
    |normal=>exact absurd h (hne st' ob)
    |exit id=>exact⟨_,a₁,w₁,⟨rfl,hq⟩,.pass (x:=.inLoop c) rfl (fun _ _=>.inl (by simp [Xt.to])) harr⟩
    |ret=>exact⟨_,a₁,w₁,⟨rfl,hq⟩,.pass (x:=.inLoop c) rfl (fun _ _=>.inl (by simp [Xt.to])) harr⟩
theorem ceh (hC:C.Ok) (hF:CF.Ok C) (hFm:CF.Mono) (hb:jn C e0 w0 base) {B:Nat}(hfree:uh n0 B e0) {g:Operand}{ps:Array Nat}{assign body:Code}{f:FuncId}{pre cap:List A1}{p q:List Value}{st st':St D}{x:Xt}{ob:List Prop}(h:caq CF nt base fid ps.toList assign body f pre cap st=some (x,st',ob)) (ho:jS ob) (hB:st'.nb<=B)
 {a:Act} {w:World} {e:Env} (hL:uB C e0 w0 n0 st.nb st.m e w) (hV:jD e a (fun t=>find t st.sl)) (hmk:∃ rs,a.defers=rs.map Uf/\Ya e st.ms rs) (hsz:a.tmps.size=nt) (hg:a.eval g=.func (.func f) p.toArray q.toArray) (hp:uk e pre p) (hq:uk e cap q) :
 (Code.rangeFunc g ps assign body).wpIn Fence.wide m C.P (Ki C nt e0 w0 n0 x st') a w:=by
 have hle:=Zz hFm h;unfold caq at h;split at h
 rotate_left
 ·cases h
 rename_i t hcall;have hn1:=hFm _ _ _ _ _ hcall;have hst:st'.nb=t.n1:=by
  split at h
  all_goals first
   |(injection h with h;simp only[cr] at h;obtain⟨_,rfl,_⟩:=h;rfl)
   |cases h
 have hob:ob=t.ob:=by
  split at h
  all_goals first
   |(injection h with h;simp only[cr] at h;obtain⟨_,_,rfl⟩:=h;rfl)
   |cases h
 have hfr:uh st.nb t.n1 e:=(hfree.new (hL.new.mono (cb _) (cb _)) hL.le).mono (cb _) (by omega);obtain⟨rs,hdf,hms⟩:=hmk;refine wpIn_rangeFunc (fun fn _=>?_)
 let W1:World:=w.alloc (.deferred (some []))
 let R:Loop:={ state:=.ready,pending:=none,fn,tmps:=a.tmps,params:=ps,assign,body,defers:=w.heap.size }
 let W2:World:=W1.alloc (.loop R)
 have hs1:W1.heap.size=w.heap.size+1:=by show (w.heap.push _).size=_;simp
 have hk1:W1.heap[w.heap.size]?=some (.deferred (some [])):=by show (w.heap.push _)[w.heap.size]?=_;simp
 obtain⟨e1,hL1,hρ1⟩:=cdW (ob:=.mark) hL.good (hfr.mono (cb _) (by omega)) ((cw _ w).alloc (cb _) _) (cb _) hk1 (.inr (.inr (.inl ⟨_,rfl⟩))) (fun e' _ h1 h2=>⟨_,h1,h2,hk1⟩);have hk2:W2.heap[W1.heap.size]?=some (.loop R):=by show (W1.heap.push _)[W1.heap.size]?=_;simp
 obtain⟨e2,hL2,hρ2⟩:=cdW (ob:=.loop nt st.sl ps.toList fid assign body .ready) hL1.good ((hfr.mono (cb _) (by omega:st.nb+1+1<=t.n1)).new (hL1.new.mono (cb _) (cb _)) (by omega)) ((cw _ W1).alloc (cb _) _) (cb _) hk2 (.inr (.inl ⟨_,rfl⟩)) (fun e' hx h1 h2=>⟨_,R,h1,h2,hk2,(by simp [R]),rfl,rfl,hsz,fun tt y hy=>(by
  obtain⟨v,q1,q2⟩:=hV tt y hy;exact⟨v,q1,(q2.ext hL1.adv.ext).ext hx⟩),rfl,rfl⟩)
 have hLL:=(hL.trans hL1).trans hL2;have hext:Ext e e2:=hL1.adv.ext.trans hL2.adv.ext;have hM:=yt hb hLL;have hyld:(AV.val (.one (.yld (st.nb+1)))).is e2 (.func (.yield W1.heap.size) #[] #[]):=⟨_,hρ2,rfl⟩;have hargs:yx e2 (uQ pre++([.val (.one (.yld (st.nb+1)))]++uQ cap)) (p++([.func (.yield W1.heap.size) #[] #[]]++q)) :=
  (zz (hp.ext hext)).append (yx.append (cs:=[_]) (vs:=[_]) ⟨_,_,rfl,hyld,rfl⟩ (zz (hq.ext hext)))
 have hfr2:uh (st.nb+1+1) t.n1 e2:=by
  have h1:=(hfr.new (hL1.new.mono (cb _) (cb _)) (by omega));exact h1.new (hL2.new.mono (cb _) (cb _)) (by omega)
 obtain⟨hen,hcalls⟩:=hF e2 W2 _ _ f _ _ t hM hLL.good hargs hcall hfr2 (by rw[← hob];exact ho);refine⟨W1.heap.size,[Uf w.heap.size],W2,{ target:=.fn (.func f) q.toArray,args:=p.toArray++#[.func (.yield W1.heap.size) #[] #[]] },W2,f,p.toArray++#[.func (.yield W1.heap.size) #[] #[]]++q.toArray,W2,?_,?_,fun _ _=>trivial,?_,(fun hd=>nomatch hd),?_⟩
 ·have:=run_enterLoop_outer (P:=C.P) (w:=w) fn a.tmps ps assign body;rw[hs1];exact this
 ·simp [resolve,hg,Deferred.ofValue,show ∀ v,a.eval (.const v)=v from fun _=>rfl]
 ·have:=hen (p.toArray++#[.func (.yield W1.heap.size) #[] #[]]++q.toArray) W2;simpa [invoke] using this
 ·have hx:(p++([Value.func (.yield W1.heap.size) #[] #[]]++q)).toArray=p.toArray++#[Value.func (.yield W1.heap.size) #[] #[]]++q.toArray:=by
   apply CD;simp
  rw[← hx];refine CallsIn.mono (callsIn_wide.2 hcalls) ?_;rintro en w3 ⟨v,rfl,e3,hL3,_⟩;have hL4:=hLL.trans hL3;have hms3:Ya e3 (st.nb::st.ms) (w.heap.size::rs):=⟨_,_,rfl,hL3.adv.ext.ρ _ _ (hL2.adv.ext.ρ _ _ hρ1),hms.ext (hext.trans hL3.adv.ext)⟩;have hV3:jD e3 a (fun t=>find t st.sl):=hV.ext (hext.trans hL3.adv.ext);have hfin:∀ (k:Nat) (r:Loop),e3.ρ (st.nb+1)=some k->e3.al (st.nb+1)=true->w3.heap[k]?=some (.loop r)->uB C e0 w0 n0 t.n1 (ua [(st.nb+1,.dead)] (ua t.ws (ua [(st.nb+1,.loop nt st.sl ps.toList fid assign body .ready)] (ua [(st.nb,.mark)] st.m)))) e3 (w3.putObj k (.loop { r with state:=.exhausted })):=by
   intro k r h1 h2 h3;have hlt:=(Array.getElem?_eq_some_iff.1 h3).1;exact hL4.trans (Kf hL4.good h1 h2 (w':=w3.putObj k (.loop { r with state:=.exhausted })) ⟨rfl,rfl,rfl,by simp [World.putObj],fun j hj=>GY hj⟩ (Ku hlt) (.inr (.inl ⟨_,rfl⟩)) (ob:=.dead) trivial)
  have hk3:e3.ρ (st.nb+1)=some W1.heap.size:=hL3.adv.ext.ρ _ _ hρ2;have hM4:=yt hb hL4;split at h
  ·rename_i hlp;injection h with h;simp only[cr] at h
   obtain⟨rfl,rfl,rfl⟩:=h;obtain⟨k,r,h1,h2,h3,_,_,_,_,_,h4,h5⟩:=hM4 _ _ hlp;rw[hk3] at h1;injection h1 with h1;subst h1
   have hend:=run_endLoop (P:=C.P) h3 (by rw[h4];decide);exact⟨_,w3.putObj W1.heap.size (.loop { r with state:=.exhausted }),hend.trans (cu (fun z=>Result.ok z (w3.putObj W1.heap.size (.loop { r with state:=.exhausted }))) h5),rfl,⟨e3,hfin _ r hk3 h2 h3,hV3,_,by show [Uf w.heap.size]++a.defers=_;rw[hdf];rfl,hms3⟩,hsz⟩
  ·rename_i hlp;injection h with h;simp only[cr] at h
   obtain⟨rfl,rfl,rfl⟩:=h;obtain⟨k,r,h1,h2,h3,_,_,_,_,_,h4,h5⟩:=hM4 _ _ hlp;rw[hk3] at h1;injection h1 with h1;subst h1
   have hend:=run_endLoop (P:=C.P) h3 (by rw[h4];decide);exact⟨_,w3.putObj W1.heap.size (.loop { r with state:=.exhausted }),hend.trans (cu (fun z=>Result.ok z (w3.putObj W1.heap.size (.loop { r with state:=.exhausted }))) h5),wpIn_ret ⟨rfl,⟨e3,hfin _ r hk3 h2 h3,hV3,_,by show [Uf w.heap.size]++a.defers=_;rw[hdf];rfl,hms3⟩,hsz⟩⟩
  ·rename_i hlp;injection h with h;simp only[cr] at h
   obtain⟨rfl,rfl,rfl⟩:=h;obtain⟨k,r,h1,h2,h3,_,_,_,_,_,h4,h5⟩:=hM4 _ _ hlp;rw[hk3] at h1;injection h1 with h1;subst h1
   have hend:=run_endLoop (P:=C.P) h3 (by rw[h4];decide);exact⟨_,w3.putObj W1.heap.size (.loop { r with state:=.exhausted }),hend.trans (cu (fun z=>Result.ok z (w3.putObj W1.heap.size (.loop { r with state:=.exhausted }))) h5),wpIn_exit ⟨rfl,⟨e3,hfin _ r hk3 h2 h3,hV3,_,by show [Uf w.heap.size]++a.defers=_;rw[hdf];rfl,hms3⟩,hsz⟩⟩
  ·cases h
theorem kB (hW:Wd F) (hR:inR=false->F=Fence.wide) (hC:C.Ok) (hT:∀ f,(TT f).Ok C) (hF:CF.Ok C) (hFm:CF.Mono) (hY:Ci C YF) (hYm:YF.Mono) (hb:jn C e0 w0 base) {B:Nat}(hfree:uh n0 B e0):∀ (n:Nat) (c:Code) (st:St D) (x:Xt) (st':St D) (ob:List Prop),CG C.toStat TT CF YF nt base fid inR n c st=some (x,st',ob)->jS ob->st'.nb<=B->
 ∀ a w,Sat C nt e0 w0 n0 st a w->c.wpIn F m C.P (Ki C nt e0 w0 n0 x st') a w
 |0,c,st,x,st',ob,h,ho,hB,a,w,hs=>by simp [CG] at h
 |n+1,c,st,x,st',ob,h,ho,hB,a,w,hs=>by
  unfold CG at h;split at h
  ·injection h with h;simp only[cr] at h
   obtain⟨rfl,rfl,rfl⟩:=h;exact wpIn_skip ⟨rfl,hs⟩
  ·injection h with h;simp only[cr] at h
   obtain⟨rfl,rfl,rfl⟩:=h;exact wpIn_label ⟨rfl,hs⟩
  ·injection h with h;simp only[cr] at h
   obtain⟨rfl,rfl,rfl⟩:=h;exact wpIn_exit ⟨rfl,hs⟩
  ·injection h with h;simp only[cr] at h
   obtain⟨rfl,rfl,rfl⟩:=h;exact wpIn_ret ⟨rfl,hs⟩
  ·rename_i rid ops draw;split at h
   ·rename_i st1 ob1 h1;injection h with h;simp only[cr] at h
    obtain⟨rfl,rfl,rfl⟩:=h;split at h1
    ·exact cis hW hC (hT fid) hF hFm hY hYm hb h1 ho (hfree.mono (cb _) hB) (fun a w h=>⟨rfl,h⟩) hs
    ·refine wpIn_region ?_;rw[YA];have hl:ops.toList.length=ops.size:=by simp
     have:=cdM (F:=F) (m:=m) (Q:=Ki C nt e0 w0 n0 .normal st1) hW hC (hT fid) hF hFm hY hYm hb ops.toList.length ops.toList 0 st st1 ob1 rfl (by simp) h1 ho (hfree.mono (cb _) hB) (fun a w h=>⟨rfl,h⟩) a w hs;rw[hl] at this;exact this
   ·cases h
  ·apply wpIn_seq;split at h
   ·rename_i st1 ob1 h1;split at h
    ·rename_i x2 st2 ob2 h2;injection h with h;simp only[cr] at h
     obtain⟨rfl,rfl,rfl⟩:=h;obtain⟨ho1,ho2⟩:=ho.append;refine EZ (kB hW hR hC hT hF hFm hY hYm hb hfree n _ _ _ _ _ h1 ho1 (cC (ul hFm hYm n _ _ _ _ _ h2) hB) a w hs) ?_;rintro e a' w' ⟨rfl,hs'⟩;exact kB hW hR hC hT hF hFm hY hYm hb hfree n _ _ _ _ _ h2 ho2 hB a' w' hs'
    ·cases h
   ·rename_i hne;refine EZ (kB hW hR hC hT hF hFm hY hYm hb hfree n _ _ _ _ _ h ho hB a w hs) ?_;rintro e a' w' ⟨rfl,hs'⟩;cases x with
    |normal=>exact absurd h (hne st' ob)
    |exit id=>exact⟨rfl,hs'⟩
    |ret=>exact⟨rfl,hs'⟩
  ·obtain⟨⟨e,hL,hV,hmk⟩,hsz⟩:=hs;split at h
   ·rename_i hl;exact wpIn_cond_true (kz hV hl) (kB hW hR hC hT hF hFm hY hYm hb hfree n _ _ _ _ _ h ho hB a w ⟨⟨e,hL,hV,hmk⟩,hsz⟩)
   ·rename_i hl;exact wpIn_cond_false (kz hV hl) (kB hW hR hC hT hF hFm hY hYm hb hfree n _ _ _ _ _ h ho hB a w ⟨⟨e,hL,hV,hmk⟩,hsz⟩)
   ·cases h
  ·rename_i id1 c1;apply wpIn_block;split at h
   ·rename_i j st1 ob1 h1;split at h
    ·rename_i hj;injection h with h;simp only[cr] at h
     obtain⟨rfl,rfl,rfl⟩:=h;refine EZ (kB hW hR hC hT hF hFm hY hYm hb hfree n _ _ _ _ _ h1 ho hB a w hs) ?_;rintro e a' w' ⟨rfl,hs'⟩;simp only[Xt.to,Exit.inBlock,ct hj,Cg];exact⟨rfl,hs'⟩
    ·rename_i hj;injection h with h;simp only[cr] at h
     obtain⟨rfl,rfl,rfl⟩:=h;refine EZ (kB hW hR hC hT hF hFm hY hYm hb hfree n _ _ _ _ _ h1 ho hB a w hs) ?_;rintro e a' w' ⟨rfl,hs'⟩;have:¬ j=id1:=by
      rintro rfl;simp at hj
     simp only[Xt.to,Exit.inBlock,cg this];exact⟨rfl,hs'⟩
   ·rename_i hne;refine EZ (kB hW hR hC hT hF hFm hY hYm hb hfree n _ _ _ _ _ h ho hB a w hs) ?_;rintro e a' w' ⟨rfl,hs'⟩;cases x with
    |normal=>exact⟨rfl,hs'⟩
    |exit id=>exact absurd h (hne id st' ob)
    |ret=>exact⟨rfl,hs'⟩
  ·intro b k cs hbr hbf hrm;obtain⟨e,a',w',h1,h2⟩:=(Eu hW (B:=B) (fun st x st' ob h=>ul hFm hYm n _ st x st' ob h) (fun st x st' ob h ho hB=>kB hW hR hC hT hF hFm hY hYm hb hfree n _ st x st' ob h ho hB) n st x st' ob h ho hB a w hs).2 b k cs hbr;exact⟨e,a',w',h1,.of_steps (.one (fenced_calm (n:=m) hbf hrm rfl) stepR_loop) h2⟩
  ·rename_i g ps assign body;split at h
   ·cases h
   ·have hFw:=hR rfl;subst hFw;obtain⟨⟨e,hL,hV,hmk⟩,hsz⟩:=hs;split at h
    ·rename_i f hg;exact ceh hC hF hFm hb hfree h ho hB hL hV hmk hsz (p:=[]) (q:=[]) (cQ hV hg) rfl rfl
    ·rename_i k hg;split at h
     ·rename_i f pre cap hcl;obtain⟨p,q,h1,h2,h3⟩:=yt hb hL _ _ hcl;have hgv:e.φ k=some (a.eval g):=cQ hV hg;rw[hgv] at h1;injection h1 with h1
      exact ceh hC hF hFm hb hfree h ho hB hL hV hmk hsz h1 h2 h3
     ·cases h
    ·cases h
  ·cases h
end
def caS (P:Program) (V:jv) (M:cM D):List ResultVar->Option (List A1)
 |[]=>some []
 |r::l=>match caS P V M l with
  |none=>none
  |some xs=>match r with
   |.tmp t=>match V t with
    |some (.val x)=>some (x::xs)
    |_=>none
   |.cell a t=>match ptr? (V a) with
    |some (b,o)=>match WU P M t b o with
     |some x=>some (x::xs)
     |none=>none
    |none=>none
def JB:Nat->List AV->List (Nat×AV)
 |_,[]=>[]
 |t,x::l=>(t,x)::JB (t+1) l
def idC:AC->List Nat->List Nat
 |.lit _,l=>l
 |.sym s _,l=>s::l
 |.ptr b _,l=>b::l
 |.slc b _ _ _,l=>b::l
 |.gsl b _,l=>b::l
 |.gso b _ _ _,l=>b::l
 |.fn c,l=>c::l
 |.yld b,l=>b::l
def idCs:List AC->List Nat->List Nat
 |[],l=>l
 |c::cs,l=>idC c (idCs cs l)
def idA:A1->List Nat->List Nat
 |.one c,l=>idC c l
 |.agg cs,l=>idCs cs l
def idAs:List A1->List Nat->List Nat
 |[],l=>l
 |a::as',l=>idA a (idAs as' l)
def idO:EO D->List Nat->List Nat
 |.blk _ cs _,l=>idCs cs l
 |.clo _ p q,l=>idAs p (idAs q l)
 |.ep b _ _ _,l=>b::l
 |.cp b _ _ _,l=>b::l
 |.mp es _,l=>idAs (es.map fun p=>p.2.1) l
 |_,l=>l
def ckL (m:Ws D):Nat->List Nat->Nat->Nat
 |0,_,k=>k
 |_+1,[],k=>k
 |n+1,i::cfF,k=>match Nat.testBit k i with
  |true=>ckL m n cfF k
  |false=>match find i m with
   |some o=>ckL m n (idO o cfF) (Nat.lor k (2^i))
   |none=>ckL m n cfF k
def cjb (n0:Nat):Ws D->List Nat->List Nat
 |[],l=>l
 |p::m,l=>match Nat.blt p.1 n0 with
  |true=>idO p.2 (cjb n0 m l)
  |false=>cjb n0 m l
def caG (f:Nat->Bool):Nat->Ws D->Ws D
 |_,[]=>[]
 |s,p::m=>match f p.1 with
  |true=>match Nat.testBit s p.1 with
   |true=>caG f s m
   |false=>p::caG f (Nat.lor s (2^p.1)) m
  |false=>caG f s m
def JH:List Nat->Ws D->Ws D
 |[],m=>m
 |b::bs,m=>JH bs (ua [(b,.dead)] m)
def cbm:List Nat->Ws D->Bool
 |[],_=>true
 |b::bs,m=>match find b m with
  |some .mark=>cbm bs (ua [(b,.dead)] m)
  |_=>false
def gcW (n0 n1:Nat) (xs:List A1) (m:Ws D):Ws D :=
 match ckL m 100000 (idAs xs (cjb n0 m [])) 0 with
 |k=>caG (fun b=>match Nat.blt b n0 with
  |true=>true
  |false=>match Nat.ble n1 b with
   |true=>true
   |false=>Nat.testBit k b) 0 m
def Xt.ends:Xt->Bool
 |.normal=>true
 |.ret=>true
 |_=>false
def outOf:List A1->AV
 |[x]=>.val x
 |l=>.tup l
def runF (S:Stat D) (TT:FuncId->Tab D) (CF YF:cI D) (g:Nat):cI D:=fun M n0 f l =>
 match S.P.funcs[f]? with
 |some fn=>match fn.body with
  |some c=>match Nat.ble l.length fn.ntmps with
   |true=>match CG S TT CF YF fn.ntmps M f false g c ⟨n0,JB 0 l,[],[]⟩ with
    |some (xt,st,ob)=>match xt.ends,cbm st.ms st.m with
     |true,true=>match caS S.P (fun t=>find t st.sl) (over M (JH st.ms st.m)) fn.results.toList with
      |some xs=>some ⟨outOf xs,gcW n0 st.nb xs (JH st.ms st.m),st.nb,ob⟩
      |none=>none
     |_,_=>none
    |none=>none
   |false=>none
  |none=>none
 |none=>none
def cdf (nt:Nat):List Nat->List AV->List (Nat×AV)->Option (List (Nat×AV))
 |[],[],sl=>some sl
 |p::ps,x::xs,sl=>match Nat.blt p nt with
  |true=>cdf nt ps xs (ua [(p,x)] sl)
  |false=>none
 |_,_,_=>none
def jmOf:Xt->Ls
 |.normal=>.ready
 |.ret=>.done .ret
 |.exit id=>.done (.exit id)
def Xt.isNormal:Xt->Bool
 |.normal=>true
 |_=>false
def runY (S:Stat D) (TT:FuncId->Tab D) (CF YF:cI D) (g:Nat):cI D:=fun M n0 b l =>
 match M b with
 |some (.loop nt sl ps fid assign body .ready)=>match cdf nt ps l sl with
  |some sl1=>match CG S TT CF YF nt M fid true g assign ⟨n0,sl1,[],[]⟩ with
   |some (.normal,st1,ob1)=>match over M st1.m b with
    |some (.loop nt' sl' ps' fid' assign' body' .ready)=>match CG S TT CF YF nt M fid true g body ⟨st1.nb,st1.sl,ua [(b,.loop nt' sl' ps' fid' assign' body' .busy)] st1.m,st1.ms⟩ with
     |some (x,st2,ob2)=>match over M st2.m b with
      |some (.loop nt2 sl2 ps2 fid2 assign2 body2 .busy)=>some ⟨.val (.one (.lit (.bool x.isNormal))),gcW n0 st2.nb [] (ua [(b,.loop nt2 sl2 ps2 fid2 assign2 body2 (jmOf x))] st2.m),st2.nb,ob1++ob2⟩
      |_=>none
     |none=>none
    |_=>none
   |_=>none
  |none=>none
 |_=>none
def Ji (S:Stat D) (TT:FuncId->Tab D) (g:Nat):Nat->cI D×cI D
 |0=>(fun _ _ _ _=>none,fun _ _ _ _=>none)
 |n+1=>(runF S TT (Ji S TT g n).1 (Ji S TT g n).2 g,runY S TT (Ji S TT g n).1 (Ji S TT g n).2 g)
def callF (S:Stat D) (TT:FuncId->Tab D) (g n:Nat):cI D:=(Ji S TT g n).1
theorem bit_set {s b c:Nat}(h:b≠c):Nat.testBit (Nat.lor s (2^b)) c=Nat.testBit s c:=by
 show Nat.testBit (s||| 2^b) c=_;rw[Nat.testBit_or,Nat.testBit_two_pow];simp [h]
theorem Jj {f:Nat->Bool}{b:Nat}:∀ {m:Ws D}{s:Nat},Nat.testBit s b=false->find b (caG f s m)=(match f b with|true=>find b m|false=>none)
 |[],s,_=>by simp only[caG,jk,cS];cases f b<;>rfl
 |p::m,s,hs=>by
  unfold caG;simp only[jk,cS];cases hb:Nat.beq p.1 b with
  |true =>
   have hpb:=ct hb;rw[hpb];cases hf:f b with
   |true=>simp only[hs,jk,cS,hb]
   |false =>
    simp only[];rw[Jj hs,hf]
  |false =>
   have hne:p.1≠b:=fun h=>by rw[h,Nat.beq_refl] at hb;cases hb
   cases hf:f p.1 with
   |true =>
    simp only[];cases ht:Nat.testBit s p.1 with
    |true=>exact Jj hs
    |false =>
     simp only[jk,cS,hb];exact Jj (by rw[bit_set hne];exact hs)
   |false=>exact Jj hs
theorem ceQ {f:Nat->Bool}{b:Nat}{m:Ws D}:find b (caG f 0 m)=(match f b with|true=>find b m|false=>none):=Jj (Nat.zero_testBit b)
section
variable {S:Stat D}{TT:FuncId->Tab D}{CF YF:cI D}{g:Nat}
theorem cmu (hF:CF.Mono) (hY:YF.Mono):(runF S TT CF YF g).Mono:=by
 intro M n0 f l t h;unfold runF at h;split at h
 rotate_left
 ·cases h
 split at h
 rotate_left
 ·cases h
 split at h
 rotate_left
 ·cases h
 split at h
 rotate_left
 ·cases h
 rename_i he;split at h
 rotate_left
 ·cases h
 split at h
 rotate_left
 ·cases h
 injection h with h;subst h
 exact ul hF hY _ _ _ _ _ _ he
theorem cme (hF:CF.Mono) (hY:YF.Mono):(runY S TT CF YF g).Mono:=by
 intro M n0 f l t h;unfold runY at h;split at h
 rotate_left
 ·cases h
 split at h
 rotate_left
 ·cases h
 split at h
 rotate_left
 ·cases h
 rename_i he;split at h
 rotate_left
 ·cases h
 split at h
 rotate_left
 ·cases h
 rename_i he2;split at h
 rotate_left
 ·cases h
 injection h with h;subst h
 have h1:=ul hF hY _ _ _ _ _ _ he;have h2:=ul hF hY _ _ _ _ _ _ he2;exact cC h1 h2
theorem kW:∀ n,(Ji S TT g n).1.Mono/\(Ji S TT g n).2.Mono
 |0=>⟨fun M n0 f l t h=>by simp [Ji] at h,fun M n0 f l t h=>by simp [Ji] at h⟩
 |n+1=>⟨cmu (kW n).1 (kW n).2,cme (kW n).1 (kW n).2⟩
end
section
variable {C:Ctx D}{e:Env}{w:World}{TT:FuncId->Tab D}{CF YF:cI D}
theorem uB.gc {n0 n1:Nat}{ws:Ws D}{e':Env}{w':World}(h:uB C e w n0 n1 ws e' w') (hf:uh n0 n1 e) (xs:List A1):uB C e w n0 n1 (gcW n0 n1 xs ws) e' w':=by
 refine⟨h.le,h.adv,h.new,h.good,fun b o ho=>?_,fun b o ho hn=>?_⟩
 ·unfold gcW at ho;rw[ceQ] at ho;split at ho
  ·exact h.wrote b o ho
  ·cases ho
 ·unfold gcW at hn;rw[ceQ] at hn;split at hn
  ·exact h.kept b o ho hn
  ·rename_i hk;have hb:n0<=b/\b<n1:=by
    split at hk
    ·cases hk
    ·rename_i h1;split at hk
     ·cases hk
     ·rename_i h2;constructor
      ·rcases jc b n0 with h|h
       ·rw[show Nat.blt b n0=true from Jv h] at h1;cases h1
       ·exact h
      ·rcases jc b n1 with h|h
       ·exact h
       ·rw[Jv h] at h2;cases h2
   obtain⟨q1,q2,q3⟩:=hf b hb.1 hb.2;cases o with
   |blk ty cs z=>obtain⟨k,_,_,_,h1,_⟩:=ho;rw[q1] at h1;cases h1
   |clo f p q=>obtain⟨_,_,h1,_⟩:=ho;rw[q3] at h1;cases h1
   |cls d=>obtain⟨_,h1,_⟩:=ho;rw[q2] at h1;cases h1
   |loop nt sl ps fid assign body st=>obtain⟨k,_,h1,_⟩:=ho;rw[q1] at h1;cases h1
   |mark=>obtain⟨k,h1,_⟩:=ho;rw[q1] at h1;cases h1
   |gl ty z n g=>obtain⟨_,h1,_⟩:=ho;rw[q3] at h1;cases h1
   |ep l i z o=>obtain⟨_,_,h1⟩:=ho;rw[q3] at h1;cases h1
   |cp l i z o=>obtain⟨_,_,_,_,_,h1⟩:=ho;rw[q3] at h1;cases h1
   |mp es ck=>obtain⟨k,_,h1,_⟩:=ho;rw[q1] at h1;cases h1
   |dead=>trivial
def caj (tmps:Array Value):ResultVar->Sem Value
 |.tmp t=>pure (tmps.getD t undef)
 |.cell p t=>do loadVar t (← asAddr (tmps.getD p undef))
theorem zx (fn:Func) (tmps:Array Value):results fn tmps=(do let vs ← fn.results.mapM (caj tmps);pure (if h:vs.size=1 then vs[0] else .tuple vs)):=by
 unfold results;congr
theorem WL {a:Act}{V:jv}{M:cM D}(hV:jD e a V) (hM:jn C e w M):∀ {l:List ResultVar}{xs:List A1},caS C.P V M l=some xs->
 ∃ vs,(l.mapM (caj a.tmps)).run C.P w=.ok vs w/\uk e xs vs
 |[],xs,h=>by
  simp [caS] at h;subst h;exact⟨[],by simp,rfl⟩
 |r::l,xs,h=>by
  simp only[caS] at h;split at h
  ·cases h
  ·rename_i ys hys;obtain⟨vs,h1,h2⟩:=WL hV hM hys;split at h
   ·rename_i t;split at h
    ·rename_i x hx;injection h with h;subst h
     refine⟨a.eval (.tmp t)::vs,?_,_,_,rfl,cQ hV (x:=.tmp t) hx,h2⟩;rw[Wi];simp only[caj,jd,yY,jG,h1];rfl
    ·cases h
   ·rename_i p t;split at h
    ·rename_i b o hb;obtain⟨k,hk,hx⟩:=GP hV (x:=.tmp p) hb;split at h
     ·rename_i y hy;injection h with h;subst h
      obtain⟨v,h3,h4⟩:=JS hM hk hy;refine⟨v::vs,?_,_,_,rfl,h4,h2⟩;have hx':a.tmps.getD p undef=.pointer (some ⟨k,o,none⟩):=hx;rw[Wi];simp only[caj,jd,hx',asAddr,yY,jG,h1,h3]
     ·cases h
    ·cases h
theorem Us {x:AV}{t:Nat}:∀ {l:List AV}{j:Nat},find t (JB j l)=some x->∃ i,l[i]?=some x/\t=j+i
 |[],j,h=>by simp [JB,jk,cS] at h
 |y::l,j,h=>by
  simp only[JB,jk,cS] at h;split at h
  ·rename_i hb;injection h with h;subst h
   exact⟨0,rfl,by rw[← ct hb];rfl⟩
  ·obtain⟨i,h1,h2⟩:=Us h;exact⟨i+1,by simpa using h1,by omega⟩
theorem Zj {e0:Env}{w0:World}{n0 n1 m:Nat}{fn:Func}{tmps:Array Value}{R:Ending->World->Prop}:∀ (bs rs:List Nat) (ws:Ws D) (e:Env) (w:World),uB C e0 w0 n0 n1 ws e w->Ya e bs rs->cbm bs ws=true->
 (∀ w',uB C e0 w0 n0 n1 (JH bs ws) e w'->∃ v,(results fn tmps).run C.P w'=.ok v w'/\R (.returned v) w')->LeavesInM Fence.wide m C.P fn tmps R (rs.map Uf) .returning w
 |[],rs,ws,e,w,hL,hm,hk,hf=>by
  rw[show rs=[] from hm];exact hf w hL
 |b::bs,rs,ws,e,w,hL,⟨r,rs',h1,h2,h3⟩,hk,hf=>by
  subst h1;unfold cbm at hk;split at hk
  ·rename_i hfb;obtain⟨k,q1,q2,q3⟩:=hL.wrote b _ hfb;rw[h2] at q1;injection q1 with q1;subst q1
   have hlt:=(Array.getElem?_eq_some_iff.1 q3).1;refine⟨by simp,.inl ⟨r,w.putObj r (.deferred none),rfl,run_takeDeferred q3,?_⟩⟩;exact Zj bs rs' _ e _ (hL.trans (Kf hL.good h2 q2 (w':=w.putObj r (.deferred none)) ⟨rfl,rfl,rfl,by simp [World.putObj],fun j hj=>GY hj⟩ (Ku hlt) (.inr (.inr (.inl ⟨_,rfl⟩))) (ob:=.dead) trivial)) h3 hk hf
  ·cases hk
theorem runF_ok (hC : C.Ok) (hN : ∀ (f : Nat) (fn : Func), C.P.funcs[f]? = some fn → (fn.name == "runtime.NumGoroutine") = false) (hT : ∀ f, (TT f).Ok C) (hF : CF.Ok C) (hFm : CF.Mono) (hY : Ci C YF) (hYm : YF.Mono) {g : Nat} : (runF C.toStat TT CF YF g).Ok C := by
 intro e w M n0 f l vs t hM hg hvs h hf ho;unfold runF at h;split at h
 rotate_left
 ·cases h
 rename_i fn hfn;split at h
 rotate_left
 ·cases h
 rename_i c hbody;split at h
 rotate_left
 ·cases h
 rename_i hlen;have hlen:=jq hlen;split at h
 rotate_left
 ·cases h
 rename_i xt st ob he;split at h
 rotate_left
 ·cases h
 rename_i hends hmarks;split at h
 rotate_left
 ·cases h
 rename_i xs hres;injection h with h
 subst h;refine⟨ja hfn (hN f fn hfn) hbody,?_⟩;have hvl:=hvs.length;have hs:Sat C fn.ntmps e w n0 ⟨n0,JB 0 l,[],[]⟩ { tmps:=vs.toArray++Array.replicate (fn.ntmps-vs.toArray.size) undef,defers:=[] } w:=by
  refine⟨⟨e,uB.refl hg n0,?_,[],rfl,rfl⟩,?_⟩
  ·intro tt x hx;obtain⟨i,h1,h2⟩:=Us hx;obtain⟨v,h3,h4⟩:=hvs.get i x h1;refine⟨v,?_,h4⟩;have hil:i<vs.length:=(List.getElem?_eq_some_iff.1 h3).1;rw[h2,jf];show (vs.toArray++Array.replicate (fn.ntmps-vs.toArray.size) undef)[i]?=some v;rw[cky (by simpa using hil)];simpa using h3
  ·simp only[cbV,CW,cgw];omega
 refine(callsIn_wide (n:=0)).1 (ciz hfn hbody trivial (EZ (kB (F:=Fence.wide) (.inl rfl) (fun _=>rfl) hC hT hF hFm hY hYm hM hf g c _ xt st ob he ho (cb _) _ _ hs) ?_));rintro ex a' w' ⟨rfl,⟨e',hL,hV,rs,hdf,hmk⟩,hsz⟩;have:LeavesInM Fence.wide 0 C.P fn a'.tmps (fun en w'=>∃ v,en=.returned v/\uf C e w n0 ⟨outOf xs,gcW n0 st.nb xs (JH st.ms st.m),st.nb,ob⟩ v w') a'.defers .returning w':=by
  rw[hdf];refine Zj st.ms rs st.m e' w' hL hmk hmarks (fun w2 hL2=>?_);obtain⟨us,h3,h4⟩:=WL hV (yt hM hL2) hres;have h5:(results fn a'.tmps).run C.P w2=.ok (if h:us.toArray.size=1 then us.toArray[0] else .tuple us.toArray) w2:=by
   rw[zx,ccP];simp only[jd,Sem.run_map,h3,jG];rfl
  refine⟨_,h5,_,rfl,e',hL2.gc hf xs,?_⟩;have hul:=h4.length;unfold outOf;split
  ·rename_i x;obtain⟨v,ws,rfl,h6,h7⟩:=h4;rw[show ws=[] from h7];exact h6
  ·rename_i hne;have hl:us.toArray.size≠1:=by
    intro h1;have h1:us.length=1:=by simpa using h1
    rw[h1] at hul
    match xs,hul with
    |[x],_=>exact hne x rfl
   rw[dif_neg hl];exact⟨us,h4,rfl⟩
 cases xt with
 |normal=>exact this
 |ret=>exact this
 |exit id=>cases hends
theorem chk {nt:Nat}{e:Env}:∀ {ps:List Nat}{xs:List AV}{sl sl':List (Nat×AV)}{vs:List Value}{tm:Array Value},cdf nt ps xs sl=some sl'->yx e xs vs->tm.size=nt->jD e ⟨tm,[]⟩ (fun t=>find t sl)->
 vs.length=ps.length/\((ps.zip vs).foldl (fun tmps (t,a)=>tmps.setIfInBounds t a) tm).size=nt/\jD e ⟨(ps.zip vs).foldl (fun tmps (t,a)=>tmps.setIfInBounds t a) tm,[]⟩ (fun t=>find t sl')
 |[],[],sl,sl',vs,tm,h,hv,hs,hk=>by
  simp only[cdf,kG] at h;subst h;rw[show vs=[] from hv];exact⟨rfl,hs,hk⟩
 |p::ps,x::xs,sl,sl',vs,tm,h,⟨v,ws,h1,h2,h3⟩,hs,hk=>by
  subst h1;simp only[cdf] at h;split at h
  ·rename_i hp;have hput:cfn nt (some p) x sl=some (ua [(p,x)] sl):=by unfold cfn;simp only[hp]
   have:=ccT (a:=⟨tm,[]⟩) hs hk hput (Ext.refl e) h2;obtain⟨q1,q2,q3⟩:=chk (tm:=tm.setIfInBounds p v) h h3 (by simpa using hs) this;exact⟨by simp [q1],q2,q3⟩
  ·cases h
 |[],_::_,sl,sl',vs,tm,h,hv,hs,hk=>by simp [cdf] at h
 |_::_,[],sl,sl',vs,tm,h,hv,hs,hk=>by simp [cdf] at h
theorem runY_ok (hC:C.Ok) (hT:∀ f,(TT f).Ok C) (hF:CF.Ok C) (hFm:CF.Mono) (hY:Ci C YF) (hYm:YF.Mono) {g:Nat}:Ci C (runY C.toStat TT CF YF g):=by
 intro e w M n0 b l vs t hM hg hvs h hf ho;unfold runY at h;split at h
 rotate_left
 ·cases h
 rename_i nt sl ps fid assign body hb;obtain⟨k,r,p1,p2,p3,p4,p5,p6,p7,p8,p9,p10⟩:=hM _ _ hb;split at h
 rotate_left
 ·cases h
 rename_i sl1 hbind;obtain⟨q1,q2,q3⟩:=chk hbind hvs p7 p8;have hfold:(r.params.zip vs.toArray).foldl (fun tmps (t,a)=>tmps.setIfInBounds t a) r.tmps=(ps.zip vs).foldl (fun tmps (t,a)=>tmps.setIfInBounds t a) r.tmps:=by
  rw[p4,← Array.foldl_toList];simp
 split at h
 rotate_left
 ·cases h
 rename_i st1 ob1 hex1;split at h
 rotate_left
 ·cases h
 rename_i nt' sl' ps' fid' assign' body' hl1;split at h
 rotate_left
 ·cases h
 rename_i x st2 ob2 hex2;split at h
 rotate_left
 ·cases h
 rename_i nt2 sl2 ps2 fid2 assign2 body2 hl2;injection h with h
 subst h;obtain⟨ho1,ho2⟩:=jS.append ho;have hle1:=ul hFm hYm _ _ _ _ _ _ hex1;have hle2:=ul hFm hYm _ _ _ _ _ _ hex2;refine⟨k,r,p1,p3,by rw[q1,p4];simp,fun F m hW=>?_⟩;rw[hfold];have hW':Wd (F.inRound k):=by
  rcases hW with rfl|⟨l0,rfl⟩
  ·exact .inr ⟨k,rfl⟩
  ·exact .inr ⟨k,rfl⟩
 have hs:Sat C nt e w n0 ⟨n0,sl1,[],[]⟩ { tmps:=(ps.zip vs).foldl (fun tmps (t,a)=>tmps.setIfInBounds t a) r.tmps,defers:=[] } w:=⟨⟨e,uB.refl hg n0,q3,[],rfl,rfl⟩,q2⟩;refine roundIn_of_wpIn (hW.fn _) ?_;rw[p5,p6];refine EZ (kB (F:=F.inRound k) hW' (fun h=>by cases h) hC hT hF hFm hY hYm hM hf g assign _ .normal st1 ob1 hex1 ho1 hle2 _ _ hs) ?_;rintro ex a1 w1 ⟨rfl,⟨e1,hL1,hV1,hmk1⟩,hsz1⟩;obtain⟨k1,r1,s1,s2,s3,s4,s5,s6,s7,s8,s9,s10⟩:=yt hM hL1 _ _ hl1;have hk1:e1.ρ b=some k:=hL1.adv.ext.ρ _ _ p1;rw[hk1] at s1;injection s1 with s1;subst s1
 have hlt1:=(Array.getElem?_eq_some_iff.1 s3).1;refine⟨_,run_beginRound s3 s9,?_⟩;have hL1':=hL1.trans (Kf (n0:=st1.nb) hL1.good hk1 s2 (w':=w1.putObj k (.loop { r1 with state:=.busy })) ⟨rfl,rfl,rfl,by simp [World.putObj],fun j hj=>GY hj⟩ (Ku hlt1) (.inr (.inl ⟨_,rfl⟩)) (ob:=.loop nt' sl' ps' fid' assign' body' .busy) ⟨k,_,hk1,s2,Ku hlt1,s4,s5,s6,s7,s8,rfl⟩);refine EZ (kB (F:=F.inRound k) hW' (fun h=>by cases h) hC hT hF hFm hY hYm hM hf g body ⟨st1.nb,st1.sl,ua [(b,.loop nt' sl' ps' fid' assign' body' .busy)] st1.m,st1.ms⟩ x st2 ob2 hex2 ho2 (cb _) _ _ ⟨⟨e1,hL1',hV1,hmk1⟩,hsz1⟩) ?_;rintro ex a2 w2 ⟨rfl,⟨e2,hL2,hV2,hmk2⟩,hsz2⟩;obtain⟨k2,r2,u1,u2,u3,u4,u5,u6,u7,u8,u9⟩:=yt hM hL2 _ _ hl2;have hk2:e2.ρ b=some k:=hL2.adv.ext.ρ _ _ p1;rw[hk2] at u1;injection u1 with u1;subst u1
 have hlt2:=(Array.getElem?_eq_some_iff.1 u3).1;have hend:∀ (jump:Option Code) (jx:Ls),(match jx with
  |.ready=>(if jump.isNone then LoopState.ready else .done)=.ready/\jump=none
  |.busy=>(if jump.isNone then LoopState.ready else .done)=.busy
  |.done j=>(if jump.isNone then LoopState.ready else .done)=.done/\jump=some j.code)->uB C e w n0 st2.nb (gcW n0 st2.nb [] (ua [(b,.loop nt2 sl2 ps2 fid2 assign2 body2 jx)] st2.m)) e2 (w2.putObj k (.loop { r2 with state:=if jump.isNone then .ready else .done,pending:=jump })):=by
  intro jump jx hj;exact(hL2.trans (Kf (n0:=st2.nb) hL2.good hk2 u2 (w':=w2.putObj k (.loop { r2 with state:=if jump.isNone then .ready else .done,pending:=jump })) ⟨rfl,rfl,rfl,by simp [World.putObj],fun j hj=>GY hj⟩ (Ku hlt2) (.inr (.inl ⟨_,rfl⟩)) (ob:=.loop nt2 sl2 ps2 fid2 assign2 body2 jx) ⟨k,_,hk2,u2,Ku hlt2,u4,u5,u6,u7,u8,hj⟩)).gc hf []
 cases x with
 |normal=>exact⟨_,_,cgl none u3,_,rfl,e2,hend none .ready ⟨rfl,rfl⟩,rfl⟩
 |ret=>exact⟨_,_,cgl (some .ret) u3,_,rfl,e2,hend (some .ret) (.done .ret) ⟨rfl,rfl⟩,rfl⟩
 |exit id=>exact⟨_,_,cgl (some (.exit id)) u3,_,rfl,e2,hend (some (.exit id)) (.done (.exit id)) ⟨rfl,rfl⟩,rfl⟩
theorem Gy (hC : C.Ok) (hN : ∀ (f : Nat) (fn : Func), C.P.funcs[f]? = some fn → (fn.name == "runtime.NumGoroutine") = false) (hT : ∀ f, (TT f).Ok C) {g : Nat} : ∀ n, (Ji C.toStat TT g n).1.Ok C ∧ Ci C (Ji C.toStat TT g n).2
 |0=>⟨fun e w M n0 f l vs t _ _ _ h=>by simp [Ji] at h,fun e w M n0 f l vs t _ _ _ h=>by simp [Ji] at h⟩
 |n+1=>⟨runF_ok hC hN hT (Gy hC hN hT n).1 (kW n).1 (Gy hC hN hT n).2 (kW n).2,runY_ok hC hT (Gy hC hN hT n).1 (kW n).1 (Gy hC hN hT n).2 (kW n).2⟩
theorem cng (hC : C.Ok) (hN : ∀ (f : Nat) (fn : Func), C.P.funcs[f]? = some fn → (fn.name == "runtime.NumGoroutine") = false) (hT : ∀ f, (TT f).Ok C) {g n : Nat} {f : FuncId} {t : Out D} {ps : List (Pat D)} {xs : List A1} {ws : Ws D} {n0 : Nat} (hm : Es C.csz 0 ps = some (xs, ws, n0)) (h : callF C.toStat TT g n (fun b => find b ws) n0 f (uQ xs) = some t) (ho : jS t.ob)
 {vs:List Value} (hp:ZK (fun d f=>∀ w',yj ⟨fun _=>none,fun _=>0,fun _=>none,fun _=>none,fun _=>false⟩ C.w0 w'->C.E d w' f) C.csz ps vs) (hfr:C.fr=none:=by rfl) :
 Calls C.P f vs.toArray C.w0 (fun en w'=>∃ v e e',en=.returned v/\uB C e C.w0 n0 t.n1 t.ws e' w'/\t.x.is e' v):=by
 obtain⟨e,gr,hx⟩:=Ju hm (cb _) (e:=⟨fun _=>none,fun _=>0,fun _=>none,fun _=>none,fun _=>false⟩) (fun _ _ _=>rfl) hp;have hρ:∀ b,e.ρ b=none:=fun b=>by rw[gr.ρ]
 have hφ:∀ b,e.φ b=none:=fun b=>by rw[gr.φ]
 have hg:jt C e C.w0:=⟨cw _ _,fun b b' k _ _ h=>(by rw[hρ] at h;cases h),fun b k h=>(by rw[hρ] at h;cases h),FrOk.none hfr⟩;have hM:jn C e C.w0 (fun b=>find b ws):=by
  intro b o ho;obtain⟨_,d,rfl,f,h1,h2⟩:=gr.live b o (uN ho);exact⟨f,h1,fun w' hk=>h2 w' ⟨hk.size,fun k h3 _=>hk.block k h3 (fun b=>by rw[hρ];simp)⟩⟩
 have hf:uh n0 t.n1 e:=by
  intro b h1 _;refine⟨hρ b,?_,hφ b⟩;cases hb:e.ν b with
  |none=>rfl
  |some f =>
   rcases gr.ν b f hb with h|h
   ·cases h
   ·omega
 refine Calls.mono ((Gy hC hN hT n).1 e C.w0 _ n0 f _ vs t hM hg (zz hx) h hf ho).2 ?_;rintro en w' ⟨v,rfl,e',h1,h2⟩;exact⟨v,e,e',rfl,h1,h2⟩
end
end Pe
namespace Pe
variable {D:Type}
structure At (C:Ctx D) (nt:Nat) (st:St D) (a:Act) (w:World):Prop where
 ex:∃ e,jt C e w/\jn C e w (fun b=>find b st.m)/\jD e a (fun t=>find t st.sl)/\(∀ b,st.nb<=b->e.ρ b=none/\e.ν b=none/\e.φ b=none)/\∃ rs,a.defers=rs.map Uf/\Ya e st.ms rs
 size:a.tmps.size=nt
def St.join (st st':St D):St D:=⟨st'.nb,st'.sl,st'.m++st.m,st'.ms⟩
section
variable {F:Fence}{m:Nat}{C:Ctx D}{TT:FuncId->Tab D}{CF YF:cI D}{nt:Nat}{fid:FuncId}{inR:Bool}{Q:Exit->Act->World->Prop}{a:Act}{w:World}{st:St D}
theorem cej {m m':Ws D}(b:Nat):over (fun b=>find b m) m' b=find b (m'++m):=by
 unfold over;rw[ye];split<;>rename_i h<;>simp only[h]
theorem coM {Θ:Type}(I:Θ->St D) (J:Θ->Prop) (μ:Θ->Nat) {c:Code}(θ0:Θ) (h0:J θ0) (hA:At C nt (I θ0) a w)
 (hr:∀ θ a w,J θ->At C nt (I θ) a w->c.wpIn F m C.P (Exit.then (fun a' w'=>∃ θ',J θ'/\At C nt (I θ') a' w'/\μ θ'<μ θ) Q) a w):(Code.loop c).wpIn F m C.P Q a w:=by
 intro b k cs hro hbr hrm;have key:∀ j θ a w,μ θ=j->J θ->At C nt (I θ) a w->
  ∃ e a' w',Q e a' w'/\ArrivesIn (Machine.fenced C.P F) C.P (lone (b.atR a (.code c::.inLoop c::k)) cs w) b k cs e a' w':=by
  intro j
  induction j using Nat.strongRecOn with
  |_ j ih =>
   intro θ a w hk hJ hA;obtain⟨e,a₁,w₁,hq,harr⟩:=hr θ a w hJ hA b (.inLoop c::k) cs hro hbr hrm;cases e with
   |normal =>
    obtain⟨θ',hJ',hA',hlt⟩:=hq;obtain⟨e₂,a₂,w₂,hq₂,harr₂⟩:=ih (μ θ') (hk▸hlt) θ' a₁ w₁ rfl hJ' hA';exact⟨e₂,a₂,w₂,hq₂,.of_steps (StepsIn.trans harr (.one (fenced_calm hbr hrm rfl) stepR_inLoop)) harr₂⟩
   |exit id=>exact⟨_,a₁,w₁,hq,.pass (x:=.inLoop c) rfl (fun _ _=>.inl (by simp)) harr⟩
   |goto l=>exact⟨_,a₁,w₁,hq,.pass (x:=.inLoop c) rfl (fun _ _=>.inl (by simp)) harr⟩
   |ret=>exact⟨_,a₁,w₁,hq,.pass (x:=.inLoop c) rfl (fun _ _=>.inl (by simp)) harr⟩
   |panic ch=>exact⟨_,a₁,w₁,hq,.pass (x:=.inLoop c) rfl (fun _ _=>.inl (by simp)) harr⟩
   |outgrown=>exact⟨_,a₁,w₁,hq,.pass (x:=.inLoop c) rfl (fun _ _=>.inl (by simp)) harr⟩
 obtain⟨e,a',w',hq,harr⟩:=key _ θ0 a w rfl h0 hA;exact⟨e,a',w',hq,.of_steps (.one (fenced_calm hbr hrm rfl) stepR_loop) harr⟩
theorem loop_at {Θ:Type}(I:Θ->St D) (J:Θ->Prop) (μ:Θ->Nat) {id:Nat}{c:Code}(θ0:Θ) (h0:J θ0) (hA:At C nt (I θ0) a w)
 (hr:∀ θ a w,J θ->At C nt (I θ) a w->c.wpIn F m C.P (Exit.then (fun a' w'=>∃ θ',J θ'/\At C nt (I θ') a' w'/\μ θ'<μ θ) (Exit.inBlock id Q)) a w):(Code.block id (.loop c)).wpIn F m C.P Q a w :=
 wpIn_block (coM I J μ θ0 h0 hA hr)
end
inductive Rk where
 |old (k:Nat)
 |nil
 |frz (k:Nat)
abbrev Rm:=List (Nat×Rk)
def caZ (a b:Option (List Prop)):Option (List Prop):=match a with
 |some l=>match b with
  |some l'=>some (l++l')
  |none=>none
 |none=>none
theorem yd {a b:Option (List Prop)}{l:List Prop}(h:caZ a b=some l):∃ x y,a=some x/\b=some y/\l=x++y:=by
 unfold caZ at h;split at h
 ·rename_i x;split at h
  ·rename_i y;injection h with h
   exact⟨x,y,rfl,rfl,h.symm⟩
  ·cases h
 ·cases h
def ccc (r:Rm) (b k:Nat):Bool:=match find b r with
 |some (.old j)=>Nat.beq j k
 |_=>false
theorem Jk {r:Rm}{b k:Nat}(h:ccc r b k=true):find b r=some (.old k):=by
 unfold ccc at h;split at h
 ·rename_i j hj;rw[hj,ct h]
 ·cases h
def isFrz (r:Rm) (b k:Nat):Bool:=match find b r with
 |some (.frz j)=>Nat.beq j k
 |_=>false
theorem ckd {r:Rm}{b k:Nat}(h:isFrz r b k=true):find b r=some (.frz k):=by
 unfold isFrz at h;split at h
 ·rename_i j hj;rw[hj,ct h]
 ·cases h
def isNil (r:Rm) (b:Nat):Bool:=match find b r with
 |some .nil=>true
 |_=>false
theorem ciY {r:Rm}{b:Nat}(h:isNil r b=true):find b r=some .nil:=by
 unfold isNil at h;split at h
 ·assumption
 ·cases h
def WX (b:Bool) (l:List Prop):Option (List Prop):=match b with
 |true=>some l
 |false=>none
theorem zB {b:Bool}{l m:List Prop}(h:WX b l=some m):b=true/\l=m:=by
 unfold WX at h;split at h
 ·injection h with h;exact⟨rfl,h⟩
 ·cases h
def ccl (bl:Nat->Bool) (r:Rm) (b k:Nat):Bool:=match bl k with
 |true=>ccc r b k
 |false=>false
theorem US {bl:Nat->Bool}{r:Rm}{b k:Nat}(h:ccl bl r b k=true):bl k=true/\find b r=some (.old k):=by
 unfold ccl at h;split at h
 ·rename_i hb;exact⟨hb,Jk h⟩
 ·cases h
def ckK (m:Ws D) (k:Nat):Bool:=match find k m with
 |some (.blk ..)=>true
 |_=>false
def ckP (bl:Nat->Bool) (r:Rm):AC->AC->Option (List Prop)
 |.lit v,.lit v'=>some [v=v']
 |.sym s j,.sym s' j'=>match ccc r s s' with
  |true=>WX (Nat.beq j j') []
  |false=>none
 |.sym s 0,.fn b=>WX (isFrz r s b) []
 |.ptr b o,.ptr b' o'=>WX (ccl bl r b b') [o=o']
 |.slc b o n c,.slc b' o' n' c'=>WX (ccl bl r b b') [o=o',n=n',c=c']
 |.gsl b n,.gsl b' n'=>WX (ccl bl r b b') [n=n']
 |.fn b,.fn b'=>WX (ccc r b b') []
 |.fn b,.lit (.slice none 0 0)=>WX (isNil r b) []
 |_,_=>none
def ceo (bl:Nat->Bool) (r:Rm):List AC->List AC->Option (List Prop)
 |[],[]=>some []
 |c::cs,d::ds=>caZ (ckP bl r c d) (ceo bl r cs ds)
 |_,_=>none
def cko (bl:Nat->Bool) (r:Rm):A1->A1->Option (List Prop)
 |.one c,.one d=>ckP bl r c d
 |.agg cs,.agg ds=>ceo bl r cs ds
 |_,_=>none
def ccx (bl:Nat->Bool) (r:Rm):List A1->List A1->Option (List Prop)
 |[],[]=>some []
 |c::cs,d::ds=>caZ (cko bl r c d) (ccx bl r cs ds)
 |_,_=>none
def clj (bl:Nat->Bool) (r:Rm):AV->AV->Option (List Prop)
 |.val x,.val y=>cko bl r x y
 |.tup l,.tup m=>ccx bl r l m
 |_,_=>none
def Env.ren (e:Env) (r:Rm):Env where
 ρ:=fun b=>match find b r with
  |some (.old k)=>match e.al k with
   |true=>e.ρ k
   |false=>none
  |_=>none
 κ:=fun b=>match find b r with
  |some (.old k)=>e.κ k
  |_=>0
 ν:=fun b=>match find b r with
  |some (.old k)=>e.ν k
  |some (.frz k)=>match e.φ k with
   |some v=>some [v]
   |none=>none
  |_=>none
 φ:=fun b=>match find b r with
  |some (.old k)=>e.φ k
  |some .nil=>some (.slice none 0 0)
  |_=>none
 al:=fun b=>match find b r with
  |some (.old k)=>e.al k
  |_=>false
section
variable {e:Env}{r:Rm}{bl:Nat->Bool}
def Zy (e:Env) (r:Rm):Prop:=∀ b k,find b r=some (.frz k)->∀ v,e.φ k=some v->v.oneCell'=true
def cem (e:Env) (bl:Nat->Bool):Prop:=∀ k,bl k=true->e.al k=true
theorem ren_ρ {b k:Nat}(hb:find b r=some (.old k)) (ha:e.al k=true):(e.ren r).ρ b=e.ρ k:=by
 simp only[Env.ren,hb,ha]
theorem ren_κ {b k:Nat}(hb:find b r=some (.old k)):(e.ren r).κ b=e.κ k:=by
 simp only[Env.ren,hb]
theorem chf (ha:cem e bl) (hz:Zy e r) {c d:AC}{l:List Prop}(h:ckP bl r c d=some l) (ho:jS l) {v:Value}(hd:d.is e v):c.is (e.ren r) v:=by
 unfold ckP at h;split at h
 ·injection h with h;subst h
  obtain rfl:=ho.1;exact hd
 ·split at h
  ·rename_i hs;obtain⟨h1,_⟩:=zB h;obtain⟨f,h2,h3,h4⟩:=hd;refine⟨f,?_,by rw[ct h1];exact h3,h4⟩;simp only[Env.ren,Jk hs];exact h2
  ·cases h
 ·rename_i s b;obtain⟨h1,_⟩:=zB h;have hf:=ckd h1;have hd:e.φ b=some v:=hd;refine⟨[v],?_,rfl,hz _ _ hf v hd⟩;simp only[Env.ren,hf,hd]
 ·obtain⟨h1,h2⟩:=zB h;subst h2;obtain⟨hb,h1⟩:=US h1;obtain⟨k,h3,h4⟩:=hd;exact⟨k,by rw[ren_ρ h1 (ha _ hb)];exact h3,by rw[h4,ho.1]⟩
 ·obtain⟨h1,h2⟩:=zB h;subst h2;obtain⟨hb,h1⟩:=US h1;obtain⟨k,h3,h4⟩:=hd;exact⟨k,by rw[ren_ρ h1 (ha _ hb)];exact h3,by rw[h4,ho.1,ho.2.1,ho.2.2.1]⟩
 ·obtain⟨h1,h2⟩:=zB h;subst h2;obtain⟨hb,h1⟩:=US h1;obtain⟨k,h3,h4⟩:=hd;exact⟨k,by rw[ren_ρ h1 (ha _ hb)];exact h3,by rw[ren_κ h1,h4,ho.1]⟩
 ·obtain⟨h1,_⟩:=zB h;show (e.ren r).φ _=some v;simp only[Env.ren,Jk h1];exact hd
 ·obtain⟨h1,_⟩:=zB h;show (e.ren r).φ _=some v;simp only[Env.ren,ciY h1];rw[show v=_ from hd]
 ·cases h
theorem cdo (ha:cem e bl) (hz:Zy e r):∀ {cs ds:List AC}{l:List Prop}{vs:List Value},ceo bl r cs ds=some l->jS l->cV e ds vs->cV (e.ren r) cs vs
 |[],[],l,vs,h,ho,hd=>hd
 |c::cs,d::ds,l,vs,h,ho,⟨v,ws,h1,h2,h3⟩=>by
  obtain⟨x,y,q1,q2,rfl⟩:=yd h;obtain⟨o1,o2⟩:=ho.append;exact⟨v,ws,h1,chf ha hz q1 o1 h2,cdo ha hz q2 o2 h3⟩
 |[],_::_,l,vs,h,_,_=>by simp [ceo] at h
 |_::_,[],l,vs,h,_,_=>by simp [ceo] at h
theorem chX (ha:cem e bl) (hz:Zy e r) {x y:A1}{l:List Prop}(h:cko bl r x y=some l) (ho:jS l) {v:Value}(hd:y.is e v):x.is (e.ren r) v:=by
 unfold cko at h;split at h
 ·exact chf ha hz h ho hd
 ·obtain⟨vs,h1,h2⟩:=hd;exact⟨vs,cdo ha hz h ho h1,h2⟩
 ·cases h
theorem YL (ha:cem e bl) (hz:Zy e r):∀ {cs ds:List A1}{l:List Prop}{vs:List Value},ccx bl r cs ds=some l->jS l->uk e ds vs->uk (e.ren r) cs vs
 |[],[],l,vs,h,ho,hd=>hd
 |c::cs,d::ds,l,vs,h,ho,⟨v,ws,h1,h2,h3⟩=>by
  obtain⟨x,y,q1,q2,rfl⟩:=yd h;obtain⟨o1,o2⟩:=ho.append;exact⟨v,ws,h1,chX ha hz q1 o1 h2,YL ha hz q2 o2 h3⟩
 |[],_::_,l,vs,h,_,_=>by simp [ccx] at h
 |_::_,[],l,vs,h,_,_=>by simp [ccx] at h
theorem cpe (ha:cem e bl) (hz:Zy e r) {x y:AV}{l:List Prop}(h:clj bl r x y=some l) (ho:jS l) {v:Value}(hd:y.is e v):x.is (e.ren r) v:=by
 unfold clj at h;split at h
 ·exact chX ha hz h ho hd
 ·obtain⟨vs,h1,h2⟩:=hd;exact⟨vs,YL ha hz h ho h1,h2⟩
 ·cases h
end
def jo (C:Ctx D) (d d':D):Prop:=∀ w l,C.E d' w l->C.E d w l
def kF (C:Ctx D) (gs gs':List (Grp D)):Prop:=∀ w vs,cL C w gs' vs->cL C w gs vs
theorem jo.refl (C:Ctx D) (d:D):jo C d d:=fun _ _ h=>h
theorem kF.refl (C:Ctx D) (gs:List (Grp D)):kF C gs gs:=fun _ _ h=>h
def optEq:Option Nat->Option Nat->Bool
 |none,none=>true
 |some a,some b=>Nat.beq a b
 |_,_=>false
theorem cot {a b:Option Nat}(h:optEq a b=true):a=b:=by
 unfold optEq at h;split at h
 ·rfl
 ·rw[ct h]
 ·cases h
def obSub (C:Ctx D) (bl:Nat->Bool) (r:Rm):EO D->EO D->Option (List Prop)
 |.blk ty cs z,.blk ty' cs' z'=>match Nat.beq ty ty',optEq z z' with
  |true,true=>ceo bl r cs cs'
  |_,_=>none
 |.clo f p q,.clo f' p' q'=>match Nat.beq f f' with
  |true=>caZ (ccx bl r p p') (ccx bl r q q')
  |false=>none
 |.cls d,.cls d'=>some [jo C d d']
 |.gl ty z n g,.gl ty' z' n' g'=>match Nat.beq ty ty',Nat.beq z z' with
  |true,true=>some [n=n',∀ j,j<n->kF C (g j) (g' j)]
  |_,_=>none
 |.cp l i z o,.cp l' i' z' o'=>match ccc r l l' with
  |true=>WX (Nat.beq z z') [i=i',o=o']
  |false=>none
 |.dead,_=>some []
 |_,_=>none
def fitO (C:Ctx D) (r:Rm) (m:Ws D) (b:Nat) (o:EO D):Option (List Prop) :=
 match find b r with
 |some (.old k)=>match find k m with
  |some o'=>obSub C (ckK m) r o o'
  |none=>none
 |some .nil=>match o with
  |.gl _ _ n _=>some [n=0]
  |_=>none
 |some (.frz k)=>match find k m with
  |some (.gl ty z n g)=>match o with
   |.cls d=>some [∀ w v,C.E (C.mkL ⟨C.lo,ty,z,n,g⟩) w [v]->C.E d w [v]]
   |_=>none
  |_=>none
 |none=>match o with
  |.dead=>some []
  |_=>none
def fitM (C:Ctx D) (r:Rm) (m:Ws D):Ws D->Option (List Prop)
 |[]=>some []
 |p::l=>caZ (fitO C r m p.1 p.2) (fitM C r m l)
def fitS (bl:Nat->Bool) (r:Rm) (sl:List (Nat×AV)):List (Nat×AV)->Option (List Prop)
 |[]=>some []
 |p::l=>match find p.1 sl with
  |some y=>caZ (clj bl r p.2 y) (fitS bl r sl l)
  |none=>none
def ceY (n:Nat):Rm->Bool
 |[]=>true
 |p::l=>match Nat.blt p.1 n with
  |true=>ceY n l
  |false=>false
def Er:Rm->List Nat
 |[]=>[]
 |(_,.old k)::l=>k::Er l
 |(_,.frz k)::l=>k::Er l
 |(_,.nil)::l=>Er l
def UD:List Nat->Bool
 |[]=>true
 |k::l=>match memL k l with
  |true=>false
  |false=>UD l
def frzB (m:Ws D):Rm->Bool
 |[]=>true
 |(_,.frz k)::l=>match find k m with
  |some (.gl ..)=>frzB m l
  |_=>false
 |_::l=>frzB m l
def pinB (C:Ctx D) (r:Rm):Bool:=match C.fr with
 |none=>true
 |some (_,_,b0,_)=>ccc r b0 b0
def fit (C:Ctx D) (r:Rm) (st st':St D):Option (List Prop) :=
 match ceY st'.nb r,UD (Er r),frzB st.m r,pinB C r,st.ms,st'.ms with
 |true,true,true,true,[],[]=>caZ (fitM C r st.m st'.m) (fitS (ckK st.m) r st.sl st'.sl)
 |_,_,_,_,_,_=>none
section
variable {C:Ctx D}{e:Env}{w:World}{r:Rm}{st st':St D}{nt:Nat}{a:Act}
theorem cku {m:Ws D}:∀ {l:Ws D}{ob:List Prop},fitM C r m l=some ob->jS ob->∀ b o,find b l=some o->∃ ob',fitO C r m b o=some ob'/\jS ob'
 |[],ob,h,ho,b,o,hb=>by simp [jk] at hb
 |p::l,ob,h,ho,b,o,hb=>by
  obtain⟨x,y,q1,q2,rfl⟩:=yd h;obtain⟨o1,o2⟩:=ho.append;rw[cS] at hb;split at hb
  ·rename_i hp;injection hb with hb;subst hb
   rw[← ct hp];exact⟨x,q1,o1⟩
  ·exact cku q2 o2 b o hb
theorem clq {bl:Nat->Bool}{sl:List (Nat×AV)}:∀ {l:List (Nat×AV)}{ob:List Prop},fitS bl r sl l=some ob->jS ob->∀ t x,find t l=some x->∃ y ob',find t sl=some y/\clj bl r x y=some ob'/\jS ob'
 |[],ob,h,ho,b,o,hb=>by simp [jk] at hb
 |p::l,ob,h,ho,b,o,hb=>by
  unfold fitS at h;split at h
  rotate_left
  ·cases h
  rename_i y hy;obtain⟨x,z,q1,q2,rfl⟩:=yd h;obtain⟨o1,o2⟩:=ho.append;rw[cS] at hb;split at hb
  ·rename_i hp;injection hb with hb;subst hb
   rw[← ct hp];exact⟨y,x,hy,q1,o1⟩
  ·exact clq q2 o2 b o hb
theorem Zt {k:Nat}:∀ {l:List Nat},k∈l->memL k l=true
 |b::l,h=>by
  unfold memL;split
  ·rfl
  ·rename_i hb;rcases List.mem_cons.1 h with rfl|h
   ·simp at hb
   ·exact Zt h
theorem JW {b k:Nat}:∀ {r:Rm},(b,Rk.old k)∈r\/(b,Rk.frz k)∈r->k∈Er r
 |[],h=>by simp at h
 |(b',.old k')::l,h=>by
  simp only[uV,cr,Rk.old.injEq,reduceCtorEq,and_false,false_or] at h;simp only[Er,uV];rcases h with(⟨_,rfl⟩|h)|h
  ·exact .inl rfl
  ·exact .inr (JW (.inl h))
  ·exact .inr (JW (.inr h))
 |(b',.frz k')::l,h=>by
  simp only[uV,cr,Rk.frz.injEq,reduceCtorEq,and_false,false_or] at h;simp only[Er,uV];rcases h with h|(⟨_,rfl⟩|h)
  ·exact .inr (JW (.inl h))
  ·exact .inl rfl
  ·exact .inr (JW (.inr h))
 |(b',.nil)::l,h=>by
  simp only[uV,cr,reduceCtorEq,and_false,false_or] at h;exact JW (r:=l) h
theorem cbY {k:Nat}:∀ {r:Rm}{b b':Nat},UD (Er r)=true->(find b r=some (.old k)\/find b r=some (.frz k))->(find b' r=some (.old k)\/find b' r=some (.frz k))->b=b'
 |[],b,b',_,h,_=>by simp [jk] at h
 |p::l,b,b',hn,h,h'=>by
  have hn':UD (Er l)=true:=by
   obtain⟨x,y⟩:=p;cases y<;>simp only[Er] at hn
   ·unfold UD at hn;split at hn
    ·cases hn
    ·exact hn
   ·exact hn
   ·unfold UD at hn;split at hn
    ·cases hn
    ·exact hn
  have no:(p.2=.old k\/p.2=.frz k)->∀ b,¬ (find b l=some (.old k)\/find b l=some (.frz k)):=by
   intro hp b hb;have hm:k∈Er l:=JW (b:=b) (hb.imp uN uN);obtain⟨x,y⟩:=p;rcases hp with hp|hp
   ·simp only at hp;subst hp;simp only[Er,UD,Zt hm] at hn;cases hn
   ·simp only at hp;subst hp;simp only[Er,UD,Zt hm] at hn;cases hn
  rw[cS] at h h';cases h1:Nat.beq p.1 b with
  |true =>
   cases h2:Nat.beq p.1 b' with
   |true=>rw[← ct h1,← ct h2]
   |false =>
    rw[h1] at h;rw[h2] at h';exact absurd h' (no (by simpa using h) b')
  |false =>
   cases h2:Nat.beq p.1 b' with
   |true =>
    rw[h1] at h;rw[h2] at h';exact absurd h (no (by simpa using h') b)
   |false =>
    rw[h1] at h;rw[h2] at h';exact cbY hn' h h'
theorem caw {n:Nat}:∀ {r:Rm}{b:Nat}{x:Rk},ceY n r=true->find b r=some x->b<n
 |[],b,x,h,hb=>by simp [jk] at hb
 |p::l,b,x,h,hb=>by
  unfold ceY at h;split at h
  ·rename_i hp;rw[cS] at hb;split at hb
   ·rename_i hpb;rw[← ct hpb];exact uY hp
   ·exact caw h hb
  ·cases h
theorem Wl {m:Ws D}:∀ {r:Rm}{b k:Nat},frzB m r=true->find b r=some (.frz k)->∃ ty z n g,find k m=some (.gl ty z n g)
 |[],b,k,h,hb=>by simp [jk] at hb
 |(x,y)::l,b,k,h,hb=>by
  rw[cS] at hb;split at hb
  ·injection hb with hb
   simp only at hb;subst hb;simp only[frzB] at h;split at h
   ·rename_i hg;exact⟨_,_,_,_,hg⟩
   ·cases h
  ·cases y<;>simp only[frzB] at h
   ·exact Wl h hb
   ·exact Wl h hb
   ·split at h
    ·exact Wl h hb
    ·cases h
theorem kF.rob {gs gs':List (Grp D)}{e':Env}{vs:List Value}(h:kF C gs gs') (hk:∀ w',yj e' w w'->yj e w w') (hr:JD C e w gs' vs):JD C e' w gs vs:=fun w' k=>h w' vs (hr w' (hk w' k))
theorem fit_is (hC:C.Ok) {ob:List Prop}(h:fit C r st st'=some ob) (ho:jS ob) (hA:At C nt st a w):At C nt st' a w:=by
 unfold fit at h;split at h
 rotate_left
 ·cases h
 rename_i hkl hnd hfz hpin hms hms';obtain⟨x,y,q1,q2,rfl⟩:=yd h;obtain⟨o1,o2⟩:=ho.append;obtain⟨⟨e,hg,hM,hV,hfr,rs,hdf,hmk⟩,hsz⟩:=hA;rw[hms] at hmk;have hF:Zy e r:=by
  intro b k hb v hv;obtain⟨ty,z,n,g,hk⟩:=Wl hfz hb;obtain⟨v',h1,h2⟩:=hM _ _ hk;rw[hv] at h1;injection h1 with h1;subst h1
  rcases h2 with⟨_,rfl⟩|⟨_,_,_,_,_,_,_,rfl,_⟩<;>rfl
 have hρ:∀ b k,(e.ren r).ρ b=some k->∃ i,find b r=some (.old i)/\e.ρ i=some k/\e.al i=true:=by
  intro b k hb;simp only[Env.ren] at hb;split at hb
  ·rename_i i hi;split at hb
   ·rename_i ha;exact⟨i,hi,hb,ha⟩
   ·cases hb
  ·cases hb
 have hkeep:∀ w',yj (e.ren r) w w'->yj e w w':=by
  intro w' k;refine⟨k.size,fun j hj hn=>k.block j hj (fun b hb=>?_)⟩;obtain⟨i,_,h1,_⟩:=hρ b j hb;exact hn _ h1
 have hA0:cem e (ckK st.m):=by
  intro k hk;unfold ckK at hk;split at hk
  ·rename_i hb;obtain⟨_,_,_,_,_,h2,_⟩:=hM _ _ hb;exact h2
  ·cases hk
 have hal:∀ b,(e.ren r).al b=true->∃ i,find b r=some (.old i)/\e.al i=true:=by
  intro b hb;simp only[Env.ren] at hb;split at hb
  ·rename_i i hi;exact⟨i,hi,hb⟩
  ·cases hb
 have hgo:jt C (e.ren r) w:=by
  refine⟨hg.below,?_,?_,?_⟩
  rotate_left 2
  ·intro w1 k b0 v0 hf;obtain⟨h1,h2,h3,h4⟩:=hg.fr w1 k b0 v0 hf;unfold pinB at hpin;rw[hf] at hpin;refine⟨by simp only[Env.ren,Jk hpin];exact h1,fun b j hb=>?_,h3,h4⟩;obtain⟨i,_,p2,_⟩:=hρ b j hb;exact h2 i j p2
  ·intro b b' k h1 h2 h3 h4;obtain⟨i,p1,p2⟩:=hal b h1;obtain⟨i',p3,p4⟩:=hal b' h2;obtain⟨j,p5,p6,_⟩:=hρ b k h3;obtain⟨j',p7,p8,_⟩:=hρ b' k h4;rw[p1] at p5;injection p5 with p5;injection p5 with p5;subst p5
   rw[p3] at p7;injection p7 with p7;injection p7 with p7;subst p7
   have:=hg.inj i i' k p2 p4 p6 p8;subst this;exact cbY hnd (.inl p1) (.inl p3)
  ·intro b k hb;obtain⟨i,_,p2,_⟩:=hρ b k hb;exact hg.own i k p2
 refine⟨⟨e.ren r,hgo,?_,?_,?_,[],by rw[hdf,show rs=[] from hmk],by rw[hms'];rfl⟩,hsz⟩
 ·intro b o hb;obtain⟨ob',h1,h2⟩:=cku q1 o1 b o hb;unfold fitO at h1;split at h1
  ·rename_i k hk;split at h1
   rotate_left
   ·cases h1
   rename_i o' ho';have hh:=hM k o' ho';unfold obSub at h1;split at h1
   ·rename_i ty cs z ty' cs' z';split at h1
    rotate_left
    ·cases h1
    rename_i ht hz;obtain rfl:=ct ht;obtain rfl:=cot hz;obtain⟨kk,arr,vs,rest,p1,p2,p3,p4,p5,p6⟩:=hh;refine⟨kk,arr,vs,rest,by rw[ren_ρ hk p2];exact p1,by simp only[Env.ren,hk];exact p2,p3,p4,cdo hA0 hF h1 h2 p5,?_⟩;cases z with
    |none=>exact p6
    |some z=>simp only[Env.ren,hk];exact p6
   ·rename_i f p q f' p' q';split at h1
    rotate_left
    ·cases h1
    rename_i hf;obtain rfl:=ct hf;obtain⟨x1,y1,r1,r2,rfl⟩:=yd h1;obtain⟨t1,t2⟩:=h2.append;obtain⟨us,vs,p1,p2,p3⟩:=hh;exact⟨us,vs,by simp only[Env.ren,hk];exact p1,YL hA0 hF r1 t1 p2,YL hA0 hF r2 t2 p3⟩
   ·rename_i d d';injection h1 with h1;subst h1
    obtain⟨f,p1,p2⟩:=hh;exact⟨f,by simp only[Env.ren,hk];exact p1,fun w' kk=>h2.1 w' f (p2 w' (hkeep w' kk))⟩
   ·rename_i ty z n g ty' z' n' g';split at h1
    rotate_left
    ·cases h1
    rename_i ht hz;obtain rfl:=ct ht;obtain rfl:=ct hz;injection h1 with h1;subst h1
    obtain⟨hn,hgg,_⟩:=h2;have hn:n=n':=hn;subst hn;obtain⟨v,p1,p2⟩:=hh;refine⟨v,by simp only[Env.ren,hk];exact p1,p2.imp id ?_⟩;rintro⟨kk,c,arr,vs,rest,p3,p4,p5,p6,p7,p8,p9,p10,p11,p12⟩;exact⟨kk,c,arr,vs,rest,by rw[ren_ρ hk p4];exact p3,by simp only[Env.ren,hk];exact p4,p5,p6,p7,p8,p9,p10,p11,fun j hj=>kF.rob (hgg j hj) hkeep (p12 j hj)⟩
   ·rename_i l i z o l' i' z' o';split at h1
    rotate_left
    ·cases h1
    rename_i hl;obtain⟨hz,h1⟩:=zB h1;subst h1;obtain rfl:=ct hz;obtain⟨kk,p,n,c,p1,p2⟩:=hh;refine⟨kk,p,n,c,?_,?_⟩
    ·simp only[Env.ren,Jk hl];exact p1
    ·simp only[Env.ren,hk];rw[p2,h2.1,h2.2.1]
   ·trivial
   ·cases h1
  ·rename_i hk;split at h1
   ·injection h1 with h1;subst h1
    exact⟨_,by simp only[Env.ren,hk],.inl ⟨h2.1,rfl⟩⟩
   ·cases h1
  ·rename_i k hk;split at h1
   rotate_left
   ·cases h1
   rename_i ty z n g hgl;split at h1
   rotate_left
   ·cases h1
   rename_i d;injection h1 with h1;subst h1
   obtain⟨hd,_⟩:=h2;obtain⟨v,p1,p2⟩:=hM _ _ hgl;refine⟨[v],by simp only[Env.ren,hk,p1],fun w' kw=>hd w' v (hC.lists _ _ _ ?_)⟩;rcases p2 with p2|⟨kk,c,arr,vs,rest,p3,p4,p5,p6,p7,p8,p9,p10,p11,p12⟩
   ·exact .inl ⟨p2.1,none,p2.2⟩
   ·refine .inr ⟨kk,0,c,arr,[],vs,rest,p5,p10,?_,by simpa using p7,rfl,p8,cC hC.los (hg.own _ _ p3).1,p11,fun j hj=>(p12 j hj) w' (hkeep w' kw)⟩;rw[kw.block kk (Array.getElem?_eq_some_iff.1 p6).1 (fun b' hb'=>?_)]
    ·exact⟨_,p6⟩
    ·obtain⟨i,s1,s2,s3⟩:=hρ b' kk hb';have:=hg.inj i k kk s3 p4 s2 p3;subst this;have:=cbY hnd (.inl s1) (.inr hk);subst this;rw[s1] at hk;cases hk
  ·rename_i hk;split at h1
   ·trivial
   ·cases h1
 ·intro t x hx;obtain⟨y,ob',h1,h2,h3⟩:=clq q2 o2 t x hx;obtain⟨v,h4,h5⟩:=hV t y h1;exact⟨v,h4,cpe hA0 hF h2 h3 h5⟩
 ·intro b hb;have hn:find b r=none:=by
   cases hx:find b r with
   |none=>rfl
   |some y=>have:=caw hkl hx;omega
  simp only[Env.ren,hn];exact⟨trivial,trivial,trivial⟩
end
end Pe
namespace Pe
variable {D:Type}
def pairC:AC->AC->Rm
 |.sym s _,.sym s' _=>[(s,.old s')]
 |.sym s _,.fn b=>[(s,.frz b)]
 |.ptr b _,.ptr b' _=>[(b,.old b')]
 |.slc b _ _ _,.slc b' _ _ _=>[(b,.old b')]
 |.gsl b _,.gsl b' _=>[(b,.old b')]
 |.fn b,.fn b'=>[(b,.old b')]
 |.fn b,.lit _=>[(b,.nil)]
 |_,_=>[]
def ciN:List AC->List AC->Rm
 |c::cs,d::ds=>pairC c d++ciN cs ds
 |_,_=>[]
def pair1:A1->A1->Rm
 |.one c,.one d=>pairC c d
 |.agg cs,.agg ds=>ciN cs ds
 |_,_=>[]
def cfw:List A1->List A1->Rm
 |c::cs,d::ds=>pair1 c d++cfw cs ds
 |_,_=>[]
def pairV:AV->AV->Rm
 |.val x,.val y=>pair1 x y
 |.tup l,.tup m=>cfw l m
 |_,_=>[]
def pairO:Option (EO D)->Option (EO D)->Rm
 |some (.blk _ cs _),some (.blk _ ds _)=>ciN cs ds
 |some (.clo _ p q),some (.clo _ p' q')=>cfw p p'++cfw q q'
 |some (.cp s _ _ _),some (.cp s' _ _ _)=>[(s,.old s')]
 |_,_=>[]
def discS (sl:List (Nat×AV)):List (Nat×AV)->Rm
 |[]=>[]
 |p::l=>match find p.1 sl with
  |some y=>pairV p.2 y++discS sl l
  |none=>discS sl l
def cll (m m':Ws D):Nat->Rm->Rm->Rm
 |0,_,r=>r
 |_+1,[],r=>r
 |n+1,p::q,r=>match memN p.1 r with
  |true=>cll m m' n q r
  |false=>match p.2 with
   |.old k=>cll m m' n (pairO (find p.1 m') (find k m)++q) (p::r)
   |_=>cll m m' n q (p::r)
def disc (st st':St D):Rm:=cll st.m st'.m 1000 (discS st.sl st'.sl) []
def fitTo (C:Ctx D) (st st':St D):Option (List Prop):=fit C (disc st st') st st'
def segTo (C:Ctx D) (TT:FuncId->Tab D) (CF YF:cI D) (nt:Nat) (fid:FuncId) (inR:Bool) (n:Nat) (c:Code) (st st':St D):Option (Xt×List Prop) :=
 match CG C.toStat TT CF YF nt (fun b=>find b st.m) fid inR n c ⟨st.nb,st.sl,[],st.ms⟩ with
 |some (x,s1,ob)=>match fitTo C (st.join s1) st' with
  |some ob2=>some (x,ob++ob2)
  |none=>none
 |none=>none
section
variable {F:Fence}{m:Nat}{C:Ctx D}{TT:FuncId->Tab D}{nt:Nat}{fid:FuncId}{inR:Bool}{Q:Exit->Act->World->Prop}{a:Act}{w:World}{st st':St D}
theorem cnT (hC:C.Ok) {ob:List Prop}(h:fitTo C st st'=some ob) (ho:jS ob) (hA:At C nt st a w):At C nt st' a w:=fit_is hC h ho hA
structure UC (C:Ctx D) (TT:FuncId->Tab D):Prop where
 ok:C.Ok
 name : ∀ (f : Nat) (fn : Func), C.P.funcs[f]? = some fn → (fn.name == "runtime.NumGoroutine") = false
 tab:∀ f,(TT f).Ok C
def Ret (C:Ctx D) (fn:Func) (R:Value->World->Prop):Exit->Act->World->Prop:=fun x a w=>(x=.ret\/x=.normal)/\a.defers=[]/\∃ v,(results fn a.tmps).run C.P w=.ok v w/\R v w
abbrev env0:Env:=⟨fun _=>none,fun _=>0,fun _=>none,fun _=>none,fun _=>false⟩
theorem cmh (hR:UC C TT) {f:FuncId}{fn:Func}{c:Code}(hfn:C.P.funcs[f]?=some fn) (hbody:fn.body=some c) {xs:List AV}{ws:Ws D}{n0:Nat}(hlen:xs.length<=fn.ntmps) {vs:List Value}{e:Env}{w1:World}(hg:jt C e w1) (hM:jn C e w1 (fun b=>find b ws)) (hva:yx e xs vs) (hfr:∀ b,n0<=b->e.ρ b=none/\e.ν b=none/\e.φ b=none)
 {R:Value->World->Prop} (hwp:∀ a,At C fn.ntmps ⟨n0,JB 0 xs,ws,[]⟩ a w1->c.wpIn Fence.wide 0 C.P (Ret C fn R) a w1) :
 Enters C.P f/\Calls C.P f vs.toArray w1 (fun en w'=>∃ v,en=.returned v/\R v w'):=by
 refine⟨ja hfn (hR.name f fn hfn) hbody,?_⟩;have hvl:=hva.length;refine(callsIn_wide (n:=0)).1 (ciz hfn hbody trivial (EZ (hwp _ ⟨⟨e,hg,hM,?_,hfr,[],rfl,rfl⟩,?_⟩) ?_))
 ·intro tt x hx;obtain⟨i,h1,h2⟩:=Us hx;obtain⟨v,h3,h4⟩:=hva.get i x h1;refine⟨v,?_,h4⟩;have hil:i<vs.length:=(List.getElem?_eq_some_iff.1 h3).1;rw[h2,jf];show (vs.toArray++Array.replicate (fn.ntmps-vs.toArray.size) undef)[i]?=some v;rw[cky (by simpa using hil)];simpa using h3
 ·simp only[cbV,CW,cgw];omega
 ·rintro ex a' w' ⟨hx,hdf,v,h1,h2⟩;have:LeavesInM Fence.wide 0 C.P fn a'.tmps (fun en w'=>∃ v,en=.returned v/\R v w') a'.defers .returning w':=by
   rw[hdf];exact⟨v,h1,v,rfl,h2⟩
  rcases hx with rfl|rfl
  ·exact this
  ·exact this
theorem EP (hR:UC C TT) {f:FuncId}{fn:Func}{c:Code}(hfn:C.P.funcs[f]?=some fn) (hbody:fn.body=some c) {ps:List (Pat D)}{xs:List A1}{ws:Ws D}{n0:Nat}(hm:Es C.csz 0 ps=some (xs,ws,n0)) (hlen:Nat.ble (uQ xs).length fn.ntmps=true) {vs:List Value}
 (hp:ZK (fun d f=>∀ w',yj env0 C.w0 w'->C.E d w' f) C.csz ps vs) {R:Value->World->Prop} (hwp:∀ a,At C fn.ntmps ⟨n0,JB 0 (uQ xs),ws,[]⟩ a C.w0->c.wpIn Fence.wide 0 C.P (Ret C fn R) a C.w0) (hfr:C.fr=none:=by rfl) :
 Enters C.P f/\Calls C.P f vs.toArray C.w0 (fun en w'=>∃ v,en=.returned v/\R v w'):=by
 obtain⟨e,gr,hx⟩:=Ju hm (cb _) (e:=env0) (fun _ _ _=>rfl) hp;have hρ:∀ b,e.ρ b=none:=fun b=>by rw[gr.ρ]
 have hφ:∀ b,e.φ b=none:=fun b=>by rw[gr.φ]
 refine cmh hR hfn hbody (jq hlen) ⟨cw _ _,fun b b' k _ _ h=>(by rw[hρ] at h;cases h),fun b k h=>(by rw[hρ] at h;cases h),FrOk.none hfr⟩ ?_ (zz hx) (fun b hb=>⟨hρ b,?_,hφ b⟩) hwp
 ·intro b o ho;obtain⟨_,d,rfl,f,h1,h2⟩:=gr.live b o (uN ho);exact⟨f,h1,fun w' hk=>h2 w' ⟨hk.size,fun k h3 _=>hk.block k h3 (fun b=>by rw[hρ];simp)⟩⟩
 ·cases hc:e.ν b with
  |none=>rfl
  |some y =>
   rcases gr.ν b y hc with h|h
   ·cases h
   ·have hb:n0<=b:=hb;omega
section
variable {C':Ctx D}{f':Option (World×Nat×Nat×Value)}
end
def Ek:List (Grp D)->List D
 |[]=>[]
 |.lit _::l=>Ek l
 |.cls d::l=>d::Ek l
def patDs:Pat D->List D
 |.one g=>Ek [g]
 |.agg gs=>Ek gs
 |.slc _ _ gs=>Ek gs
 |.cap _ _ _ gs=>Ek gs
def cdl:List (Pat D)->List D
 |[]=>[]
 |p::l=>patDs p++cdl l
def kN (C:Ctx D) (d:D):Prop:=∀ w w' f,C.E d w f->w.heap.size<=w'.heap.size->(∀ k o,w.heap[k]?=some o->(C.w0.heap.size<=k\/¬ Eh C o)->w'.heap[k]?=some o)->C.E d w' f
def noSlc:Pat D->Bool
 |.slc ..=>false
 |.cap ..=>false
 |_=>true
def Ut:List (Pat D)->Bool
 |[]=>true
 |p::l=>match noSlc p with
  |true=>Ut l
  |false=>false
theorem Wq {w w':World}(hs:w.heap.size<=w'.heap.size) (hk:∀ k o,w.heap[k]?=some o->(C.w0.heap.size<=k\/¬ Eh C o)->w'.heap[k]?=some o):∀ {gs:List (Grp D)}{vs:List Value},(∀ d∈Ek gs,kN C d)->cL C w gs vs->cL C w' gs vs
 |[],vs,_,h=>h
 |.lit v::gs,vs,hd,h=>⟨h.1,Wq hs hk hd h.2⟩
 |.cls d::gs,vs,hd,h=>⟨hd d (by simp [Ek]) w w' _ h.1 hs hk,Wq hs hk (fun x hx=>hd x (by simp [Ek,hx])) h.2⟩
theorem coj {w w':World}(hs:w.heap.size<=w'.heap.size) (hk:∀ k o,w.heap[k]?=some o->(C.w0.heap.size<=k\/¬ Eh C o)->w'.heap[k]?=some o) {p:Pat D}{v:Value}(hn:noSlc p=true) (hd:∀ d∈patDs p,kN C d) (h:p.is C w v):p.is C w' v:=by
 cases p with
 |one g =>
  cases g with
  |lit x=>exact h
  |cls d=>exact hd d (by simp [patDs,Ek]) w w' _ h hs hk
 |agg gs =>
  obtain⟨vs,h1,h2⟩:=h;exact⟨vs,Wq hs hk hd h1,h2⟩
 |slc t n gs=>cases hn
 |cap f ty z gs=>cases hn
theorem ceH {w w':World}(hs:w.heap.size<=w'.heap.size) (hk:∀ k o,w.heap[k]?=some o->(C.w0.heap.size<=k\/¬ Eh C o)->w'.heap[k]?=some o):∀ {ps:List (Pat D)}{vs:List Value},Ut ps=true->(∀ d∈cdl ps,kN C d)->jp C w ps vs->jp C w' ps vs
 |[],vs,_,_,h=>h
 |p::ps,vs,hn,hd,⟨v,ws,h1,h2,h3⟩=>by
  unfold Ut at hn;split at hn
  ·rename_i h0;exact⟨v,ws,h1,coj hs hk h0 (fun d hx=>hd d (by simp [cdl,hx])) h2,ceH hs hk hn (fun d hx=>hd d (by simp [cdl,hx])) h3⟩
  ·cases hn
def readR (S:Stat D) (M:cM D) (l:List A1):Option (List (Pat D)):=Yo S M (uQ l)
def JC:List (Pat D)->jE D
 |[p]=>.val p
 |l=>.tup l
def JR (C:Ctx D):List (Grp D)->List (Grp D)->Option (List Prop)
 |[],[]=>some []
 |.lit v::l,.lit v'::l'=>caZ (some [v=v']) (JR C l l')
 |.cls d::l,.cls d'::l'=>match Nat.beq (C.csz d) (C.csz d') with
  |true=>caZ (some [jo C d d']) (JR C l l')
  |false=>none
 |_,_=>none
def ciL (C:Ctx D):Pat D->Pat D->Option (List Prop)
 |.one g,.one g'=>match JR C [g] [g'] with
  |some ob=>some ob
  |none=>match g,g' with
   |.cls d,.lit v=>match Nat.beq (C.csz d) 1 with
    |true=>some [kF C [.cls d] [.lit v]]
    |false=>none
   |_,_=>none
 |.agg gs,.agg gs'=>match JR C gs gs' with
  |some ob=>some ob
  |none=>some [kF C gs gs']
 |_,_=>none
def CQ (C:Ctx D):List (Pat D)->List (Pat D)->Option (List Prop)
 |[],[]=>some []
 |p::l,p'::l'=>caZ (ciL C p p') (CQ C l l')
 |_,_=>none
theorem YB:∀ {gs gs':List (Grp D)}{ob:List Prop}{vs:List Value},JR C gs gs'=some ob->jS ob->cL C w gs' vs->cL C w gs vs
 |[],[],ob,vs,h,ho,hv=>hv
 |.lit v::l,.lit v'::l',ob,vs,h,ho,hv=>by
  obtain⟨x,y,q1,q2,rfl⟩:=yd h;obtain⟨o1,o2⟩:=ho.append;injection q1 with q1;subst q1
  refine⟨?_,YB q2 o2 hv.2⟩;rw[o1.1];exact hv.1
 |.cls d::l,.cls d'::l',ob,vs,h,ho,hv=>by
  unfold JR at h;split at h
  ·rename_i hz;have hz:=ct hz;obtain⟨x,y,q1,q2,rfl⟩:=yd h;obtain⟨o1,o2⟩:=ho.append;injection q1 with q1;subst q1
   refine⟨?_,YB q2 o2 ?_⟩
   ·show C.E d w (vs.take (C.csz d));rw[hz];exact o1.1 w _ hv.1
   ·show cL C w l' (vs.drop (C.csz d));rw[hz];exact hv.2
  ·cases h
 |[],_::_,ob,vs,h,_,_=>by simp [JR] at h
 |.lit _::_,[],ob,vs,h,_,_=>by simp [JR] at h
 |.cls _::_,[],ob,vs,h,_,_=>by simp [JR] at h
 |.lit _::_,.cls _::_,ob,vs,h,_,_=>by simp [JR] at h
 |.cls _::_,.lit _::_,ob,vs,h,_,_=>by simp [JR] at h
theorem cmf (hC:C.Ok) {p p':Pat D}{ob:List Prop}{v:Value}(h:ciL C p p'=some ob) (ho:jS ob) (hv:p'.is C w v):p.is C w v:=by
 unfold ciL at h;split at h
 ·rename_i g g';split at h
  rotate_left
  ·split at h
   ·rename_i d x _;split at h
    ·rename_i hz;have hz:=ct hz;injection h with h;subst h
     have h1:=(ho.1 w [v] (Uv hC hv)).1;have h1:C.E d w ([v].take (C.csz d)):=h1;rw[hz] at h1;exact h1
    ·cases h
   ·cases h
  rename_i ob' h';injection h with h;subst h
  have:=YB h' ho (Uv hC hv);have h1:=cga hC this.1;have:g.is C w ([v].take (g.n C.csz)):=this.1
  rwa [kE] at this
  rw[cT] at h1;cases g with
  |lit x=>simp [Grp.n]
  |cls d =>
   cases g' with
   |lit x=>simp [JR] at h'
   |cls d' =>
    unfold JR at h';split at h'
    ·rename_i hz;have hz:=ct hz;have hl:=hC.len _ _ _ (show C.E d' w [v] from hv);show 1<=C.csz d;rw[hz,← hl];simp
    ·cases h'
 ·obtain⟨vs,h1,h2⟩:=hv;split at h
  ·rename_i h3;injection h with h;subst h
   exact⟨vs,YB h3 ho h1,h2⟩
  ·injection h with h;subst h
   exact⟨vs,ho.1 _ _ h1,h2⟩
 ·cases h
theorem GN (hC:C.Ok):∀ {ps ps':List (Pat D)}{ob:List Prop}{vs:List Value},CQ C ps ps'=some ob->jS ob->jp C w ps' vs->jp C w ps vs
 |[],[],ob,vs,h,ho,hv=>hv
 |p::l,p'::l',ob,vs,h,ho,⟨v,ws,h1,h2,h3⟩=>by
  obtain⟨x,y,q1,q2,rfl⟩:=yd h;obtain⟨o1,o2⟩:=ho.append;exact⟨v,ws,h1,cmf hC q1 o1 h2,GN hC q2 o2 h3⟩
 |[],_::_,ob,vs,h,_,_=>by simp [CQ] at h
 |_::_,[],ob,vs,h,_,_=>by simp [CQ] at h
def Res (C:Ctx D) (ps:List (Pat D)):Value->World->Prop:=fun v w=>Below C.w0.heap.size C.w0 w/\caW C C.w0 w (JC ps) v
def retTo (C:Ctx D) (rs:List ResultVar) (st:St D) (ps:List (Pat D)):Option (List Prop) :=
 match st.ms,caS C.P (fun t=>find t st.sl) (fun b=>find b st.m) rs with
 |[],some xs=>match readR C.toStat (fun b=>find b st.m) xs with
  |some ps'=>match Ut ps with
   |true=>caZ (CQ C ps ps') (some ((cdl ps).map (kN C)))
   |false=>none
  |none=>none
 |_,_=>none
theorem cif {p:D->Prop}:∀ {l:List D},jS (l.map p)->∀ d∈l,p d
 |[],_,d,hd=>by simp at hd
 |x::l,h,d,hd=>by
  rcases List.mem_cons.1 hd with rfl|hd
  ·exact h.1
  ·exact cif h.2 d hd
theorem ret_at (hC:C.Ok) {fn:Func}{ps:List (Pat D)}{ob:List Prop}(h:retTo C fn.results.toList st ps=some ob) (ho:jS ob) (hA:At C nt st a w) {x:Exit}(hx:x=.ret\/x=.normal):Ret C fn (Res C ps) x a w:=by
 unfold retTo at h;split at h
 rotate_left
 ·cases h
 rename_i xs hms hres;split at h
 rotate_left
 ·cases h
 rename_i ps' hrd;split at h
 rotate_left
 ·cases h
 rename_i hn;obtain⟨x1,y1,q1,q2,rfl⟩:=yd h;obtain⟨o1,o2⟩:=ho.append;injection q2 with q2;subst q2
 obtain⟨⟨e,hg,hM,hV,_,rs,hdf,hmk⟩,hsz⟩:=hA;rw[hms] at hmk;obtain⟨us,h3,h4⟩:=WL hV hM hres;refine⟨hx,by rw[hdf,show rs=[] from hmk];rfl,?_⟩;have h5:(results fn a.tmps).run C.P w=.ok (if h:us.toArray.size=1 then us.toArray[0] else .tuple us.toArray) w:=by
  rw[zx,ccP];simp only[jd,Sem.run_map,h3,jG];rfl
 refine⟨_,h5,hg.below,?_⟩;have hps:=GN hC q1 o1 (Wk hC hg hM hrd (zz h4));intro S hS w'' hw hk;have hps:=ceH hw (fun k o hko hor=>by
  rw[hk k (Array.getElem?_eq_some_iff.1 hko).1 (fun hs=>?_)]
  ·exact hko
  ·obtain⟨s1,o',s2,s3⟩:=hS k hs;rw[hko] at s2;injection s2 with s2;subst s2
   rcases hor with h|h
   ·omega
   ·exact h s3) hn (cif o2) hps
 unfold JC;split
 ·rename_i p;obtain⟨v,ws,rfl,r1,r2⟩:=hps;rw[show ws=[] from r2];exact r1
 ·rename_i hne;have hl:us.toArray.size≠1:=by
   intro h1;have h1:us.length=1:=by simpa using h1
   match us,h1,hps with
   |[u],_,hps =>
    match ps,hne,hps with
    |[],_,hps=>cases hps
    |[p],hne,_=>exact hne p rfl
    |p::q::l,_,⟨_,_,e1,_,_,_,e2,_⟩=>injection e1 with _ e1;rw[e2] at e1;cases e1
  rw[dif_neg hl];exact⟨us,hps,rfl⟩
end
end Pe
end Go.Proofs.YtclihnehnkijgaaGreatDoor
