/- Part 4. -/
import Derived.Test.YtgdnkbajagfijaaGreatDoorD3
import Derived.RangeFuncIn
set_option linter.all false
noncomputable section

namespace Go.Proofs.YtgdnkbajagfijaaGreatDoor
open Go Go.RowKit Go.Proofs
namespace Pe
variable {D:Type}
inductive Xt where
 |normal
 |exit (id:Nat)
 |ret
def Xt.to:Xt->Exit
 |.normal=>.normal
 |.exit id=>.exit id
 |.ret=>.ret
abbrev Ran (D:Type):=Option (Xt×St D×List Prop)
def CM (f:St D->Ran D):Nat->St D->Ran D
 |0,_=>none
 |n+1,st=>match f st with
  |some (.normal,st',ob)=>match CM f n st' with
   |some (x,st2,ob2)=>some (x,st2,ob++ob2)
   |none=>none
  |r=>r
def cab (CF:cH D) (nt:Nat) (base:cL D) (fid:FuncId) (ps:List Nat) (assign body:Code) (f:FuncId) (pre cap:List A1) (st:St D):Ran D :=
 match CF (over base (kX [(st.nb+1,.loop nt st.sl ps fid assign body .ready)] (kX [(st.nb,.mark)] st.m))) (st.nb+1+1) f (uA pre++([.val (.one (.yld (st.nb+1)))]++uA cap)) with
 |some t=>match over base (kX t.ws (kX [(st.nb+1,.loop nt st.sl ps fid assign body .ready)] (kX [(st.nb,.mark)] st.m))) (st.nb+1) with
  |some (.loop _ _ _ _ _ _ .ready)=>some (.normal,⟨t.n1,st.sl,kX [(st.nb+1,.dead)] (kX t.ws (kX [(st.nb+1,.loop nt st.sl ps fid assign body .ready)] (kX [(st.nb,.mark)] st.m))),st.nb::st.ms⟩,t.ob)
  |some (.loop _ _ _ _ _ _ (.done .ret))=>some (.ret,⟨t.n1,st.sl,kX [(st.nb+1,.dead)] (kX t.ws (kX [(st.nb+1,.loop nt st.sl ps fid assign body .ready)] (kX [(st.nb,.mark)] st.m))),st.nb::st.ms⟩,t.ob)
  |some (.loop _ _ _ _ _ _ (.done (.exit id)))=>some (.exit id,⟨t.n1,st.sl,kX [(st.nb+1,.dead)] (kX t.ws (kX [(st.nb+1,.loop nt st.sl ps fid assign body .ready)] (kX [(st.nb,.mark)] st.m))),st.nb::st.ms⟩,t.ob)
  |_=>none
 |none=>none
def zY (S:Stat D) (TT:FuncId->Tab D) (CF YF:cH D) (nt:Nat) (base:cL D) (fid:FuncId) (inR:Bool):Nat->Code->St D->Ran D
 |0,_,_=>none
 |n+1,c,st=>match c with
  |.skip=>some (.normal,st,[])
  |.label _=>some (.normal,st,[])
  |.exit id=>some (.exit id,st,[])
  |.ret=>some (.ret,st,[])
  |.region _ ops draw=>match (match draw with
   |true=>YE S (TT fid) CF YF nt base ops.toList st
   |false=>Ug S (TT fid) CF YF nt base ops.toList ops.toList st) with
   |some (st',ob)=>some (.normal,st',ob)
   |none=>none
  |.seq x y=>match zY S TT CF YF nt base fid inR n x st with
   |some (.normal,st',ob)=>match zY S TT CF YF nt base fid inR n y st' with
    |some (x2,st2,ob2)=>some (x2,st2,ob++ob2)
    |none=>none
   |r=>r
  |.cond x c d=>match lit? (cD (fun t=>find t st.sl) x) with
   |some (.bool true)=>zY S TT CF YF nt base fid inR n c st
   |some (.bool false)=>zY S TT CF YF nt base fid inR n d st
   |_=>none
  |.block id c=>match zY S TT CF YF nt base fid inR n c st with
   |some (.exit j,st',ob)=>match Nat.beq j id with
    |true=>some (.normal,st',ob)
    |false=>some (.exit j,st',ob)
   |r=>r
  |.loop c=>CM (fun st=>zY S TT CF YF nt base fid inR n c st) n st
  |.rangeFunc g ps assign body=>match inR with
   |true=>none
   |false=>match cD (fun t=>find t st.sl) g with
    |some (.val (.one (.lit (.func (.func f) ⟨[]⟩ ⟨[]⟩))))=>cab CF nt base fid ps.toList assign body f [] [] st
    |some (.val (.one (.fn k)))=>match over base st.m k with
     |some (.clo f pre cap)=>cab CF nt base fid ps.toList assign body f pre cap st
     |_=>none
    |_=>none
  |_=>none
section
variable {S:Stat D}{T:Tab D}{TT:FuncId->Tab D}{CF YF:cH D}{nt:Nat}{base:cL D}{fid:FuncId}{inR:Bool}
theorem ZG {f:St D->Ran D}(hf:∀ st x st' ob,f st=some (x,st',ob)->st.nb<=st'.nb):∀ (n:Nat) (st:St D) (x:Xt) (st':St D) (ob:List Prop),CM f n st=some (x,st',ob)->st.nb<=st'.nb
 |0,st,x,st',ob,h=>by simp [CM] at h
 |n+1,st,x,st',ob,h=>by
  unfold CM at h;split at h
  ·rename_i st1 ob1 h1;split at h
   ·rename_i x2 st2 ob2 h2;injection h with h;simp only[cr] at h
    obtain⟨rfl,rfl,rfl⟩:=h;exact cB (hf _ _ _ _ h1) (ZG hf n _ _ _ _ h2)
   ·cases h
  ·exact hf _ _ _ _ h
theorem ciN (hF:CF.Mono) (hYF:YF.Mono) {ops:List Oper}{st st':St D}{ob:List Prop}(h:YE S T CF YF nt base ops st=some (st',ob)):st.nb<=st'.nb:=by
 unfold YE at h;split at h
 ·cases h
 ·split at h
  ·cases h
  ·rename_i W n ob' hgo;split at h
   ·cases h
   ·split at h
    ·injection h with h;injection h with h h'
     subst h;exact(Wa hF hYF hgo rfl).2.2.1
    ·cases h
theorem ZI (hF:CF.Mono) {ps:List Nat}{assign body:Code}{f:FuncId}{pre cap:List A1}{st st':St D}{x:Xt}{ob:List Prop}(h:cab CF nt base fid ps assign body f pre cap st=some (x,st',ob)):st.nb<=st'.nb:=by
 unfold cab at h;split at h
 ·rename_i t ht;have:=hF _ _ _ _ _ ht;split at h
  all_goals first
   |(injection h with h;simp only[cr] at h;obtain⟨rfl,rfl,rfl⟩:=h;show st.nb<=t.n1;omega)
   |cases h
 ·cases h
theorem ue (hF:CF.Mono) (hYF:YF.Mono):∀ (n:Nat) (c:Code) (st:St D) (x:Xt) (st':St D) (ob:List Prop),zY S TT CF YF nt base fid inR n c st=some (x,st',ob)->st.nb<=st'.nb
 |0,c,st,x,st',ob,h=>by simp [zY] at h
 |n+1,c,st,x,st',ob,h=>by
  unfold zY at h;split at h
  ·injection h with h;simp only[cr] at h;rw[h.2.1];exact cb _
  ·injection h with h;simp only[cr] at h;rw[h.2.1];exact cb _
  ·injection h with h;simp only[cr] at h;rw[h.2.1];exact cb _
  ·injection h with h;simp only[cr] at h;rw[h.2.1];exact cb _
  ·split at h
   ·rename_i st1 ob1 h1;injection h with h;simp only[cr] at h
    obtain⟨rfl,rfl,rfl⟩:=h;split at h1
    ·exact ciN hF hYF h1
    ·exact ZL hF hYF h1
   ·cases h
  ·split at h
   ·rename_i st1 ob1 h1;split at h
    ·rename_i x2 st2 ob2 h2;injection h with h;simp only[cr] at h
     obtain⟨rfl,rfl,rfl⟩:=h;exact cB (ue hF hYF n _ _ _ _ _ h1) (ue hF hYF n _ _ _ _ _ h2)
    ·cases h
   ·exact ue hF hYF n _ _ _ _ _ h
  ·split at h
   ·exact ue hF hYF n _ _ _ _ _ h
   ·exact ue hF hYF n _ _ _ _ _ h
   ·cases h
  ·split at h
   ·rename_i j st1 ob1 h1;split at h
    ·injection h with h;simp only[cr] at h
     obtain⟨rfl,rfl,rfl⟩:=h;exact ue hF hYF n _ _ _ _ _ h1
    ·injection h with h;simp only[cr] at h
     obtain⟨rfl,rfl,rfl⟩:=h;exact ue hF hYF n _ _ _ _ _ h1
   ·exact ue hF hYF n _ _ _ _ _ h
  ·exact ZG (fun st x st' ob h=>ue hF hYF n _ st x st' ob h) n _ _ _ _ h
  ·split at h
   ·cases h
   ·split at h
    ·exact ZI hF h
    ·split at h
     ·exact ZI hF h
     ·cases h
    ·cases h
  ·cases h
end
section
variable {F:Fence}{m:Nat}
variable {C:Ctx D}{e0:Env}{w0:World}{TT:FuncId->Tab D}{CF YF:cH D}{n0 nt:Nat}{base:cL D}{fid:FuncId}{inR:Bool}
def Kz (C:Ctx D) (nt:Nat) (e0:Env) (w0:World) (n0:Nat) (x:Xt) (st:St D):Exit->Act->World->Prop:=fun e a w=>e=x.to/\Sat C nt e0 w0 n0 st a w
theorem EF (hW:Wd F) {c:Code}{f:St D->Ran D}{B:Nat}(hle:∀ st x st' ob,f st=some (x,st',ob)->st.nb<=st'.nb) (hf:∀ st x st' ob,f st=some (x,st',ob)->jC ob->st'.nb<=B->∀ a w,Sat C nt e0 w0 n0 st a w->c.wpIn F m C.P (Kz C nt e0 w0 n0 x st') a w) :
 ∀ (n:Nat) (st:St D) (x:Xt) (st':St D) (ob:List Prop),CM f n st=some (x,st',ob)->jC ob->st'.nb<=B->∀ a w,Sat C nt e0 w0 n0 st a w->x≠.normal/\∀ (b:Frame) (k:List Item) (cs:List Frame),b.roundOf=F.round->
  ∃ e a' w',Kz C nt e0 w0 n0 x st' e a' w'/\ArrivesIn (Machine.fenced C.P F) C.P (lone (b.atR a (.code c::.inLoop c::k)) cs w) b k cs e a' w'
 |0,st,x,st',ob,h,ho,hB,a,w,hs=>by simp [CM] at h
 |n+1,st,x,st',ob,h,ho,hB,a,w,hs=>by
  unfold CM at h;split at h
  ·rename_i st1 ob1 h1;split at h
   ·rename_i x2 st2 ob2 h2;injection h with h;simp only[cr] at h
    obtain⟨rfl,rfl,rfl⟩:=h;obtain⟨ho1,ho2⟩:=ho.append;have hle2:=ZG hle n _ _ _ _ h2;have hb:=hf _ _ _ _ h1 ho1 (cB hle2 hB) a w hs;constructor
    ·obtain⟨e,a₁,w₁,⟨rfl,hq⟩,harr⟩:=hb { (default:Frame) with roundOf:=F.round } [] [] rfl (hW.fn _) (hW.room _);exact(EF hW hle hf n st1 x2 st2 ob2 h2 ho2 hB a₁ w₁ hq).1
    ·intro b k cs hbr;obtain⟨e,a₁,w₁,⟨rfl,hq⟩,harr⟩:=hb b (.inLoop c::k) cs hbr (hW.fn _) (hW.room _);obtain⟨e₂,a₂,w₂,hq₂,harr₂⟩:=(EF hW hle hf n st1 x2 st2 ob2 h2 ho2 hB a₁ w₁ hq).2 b k cs hbr;exact⟨e₂,a₂,w₂,hq₂,.of_steps (StepsIn.trans harr (.one (fenced_calm (n:=m) (hW.fn _) (hW.room _) rfl) stepR_inLoop)) harr₂⟩
   ·cases h
  ·rename_i hne;have hb:=hf _ _ _ _ h ho hB a w hs;constructor
   ·intro hx;subst hx;exact hne st' ob h
   ·intro b k cs hbr;obtain⟨e,a₁,w₁,⟨rfl,hq⟩,harr⟩:=hb b (.inLoop c::k) cs hbr (hW.fn _) (hW.room _);cases x with
    |normal=>exact absurd h (hne st' ob)
    |exit id=>exact⟨_,a₁,w₁,⟨rfl,hq⟩,.pass (x:=.inLoop c) rfl (fun _ _=>.inl (by simp [Xt.to])) harr⟩
    |ret=>exact⟨_,a₁,w₁,⟨rfl,hq⟩,.pass (x:=.inLoop c) rfl (fun _ _=>.inl (by simp [Xt.to])) harr⟩
theorem ceS (hC:C.Ok) (hF:CF.Ok C) (hFm:CF.Mono) (hb:jk C e0 w0 base) {B:Nat}(hfree:uj n0 B e0) {g:Operand}{ps:Array Nat}{assign body:Code}{f:FuncId}{pre cap:List A1}{p q:List Value}{st st':St D}{x:Xt}{ob:List Prop}(h:cab CF nt base fid ps.toList assign body f pre cap st=some (x,st',ob)) (ho:jC ob) (hB:st'.nb<=B)
 {a:Act} {w:World} {e:Env} (hL:uE C e0 w0 n0 st.nb st.m e w) (hV:jw e a (fun t=>find t st.sl)) (hmk:∃ rs,a.defers=rs.map UR/\WT e st.ms rs) (hsz:a.tmps.size=nt) (hg:a.eval g=.func (.func f) p.toArray q.toArray) (hp:uq e pre p) (hq:uq e cap q) :
 (Code.rangeFunc g ps assign body).wpIn Fence.wide m C.P (Kz C nt e0 w0 n0 x st') a w:=by
 have hle:=ZI hFm h;unfold cab at h;split at h
 rotate_left
 ·cases h
 rename_i t hcall;have hn1:=hFm _ _ _ _ _ hcall;have hst:st'.nb=t.n1:=by
  split at h
  all_goals first
   |(injection h with h;simp only[cr] at h;obtain⟨_,rfl,_⟩:=h;rfl)
   |cases h
 have hob:ob=t.ob:=by
  split at h
  all_goals first
   |(injection h with h;simp only[cr] at h;obtain⟨_,_,rfl⟩:=h;rfl)
   |cases h
 have hfr:uj st.nb t.n1 e:=(hfree.new (hL.new.mono (cb _) (cb _)) hL.le).mono (cb _) (by omega);obtain⟨rs,hdf,hms⟩:=hmk;refine wpIn_rangeFunc (fun fn _=>?_)
 let W1:World:=w.alloc (.deferred (some []))
 let R:Loop:={ state:=.ready,pending:=none,fn,tmps:=a.tmps,params:=ps,assign,body,defers:=w.heap.size }
 let W2:World:=W1.alloc (.loop R)
 have hs1:W1.heap.size=w.heap.size+1:=by show (w.heap.push _).size=_;simp
 have hk1:W1.heap[w.heap.size]?=some (.deferred (some [])):=by show (w.heap.push _)[w.heap.size]?=_;simp
 obtain⟨e1,hL1,hρ1⟩:=cdV (ob:=.mark) hL.good (hfr.mono (cb _) (by omega)) ((cu _ w).alloc (cb _) _) (cb _) hk1 (.inr (.inr (.inl ⟨_,rfl⟩))) (fun e' _ h1 h2=>⟨_,h1,h2,hk1⟩);have hk2:W2.heap[W1.heap.size]?=some (.loop R):=by show (W1.heap.push _)[W1.heap.size]?=_;simp
 obtain⟨e2,hL2,hρ2⟩:=cdV (ob:=.loop nt st.sl ps.toList fid assign body .ready) hL1.good ((hfr.mono (cb _) (by omega:st.nb+1+1<=t.n1)).new (hL1.new.mono (cb _) (cb _)) (by omega)) ((cu _ W1).alloc (cb _) _) (cb _) hk2 (.inr (.inl ⟨_,rfl⟩)) (fun e' hx h1 h2=>⟨_,R,h1,h2,hk2,(by simp [R]),rfl,rfl,hsz,fun tt y hy=>(by
  obtain⟨v,q1,q2⟩:=hV tt y hy;exact⟨v,q1,(q2.ext hL1.adv.ext).ext hx⟩),rfl,rfl⟩)
 have hLL:=(hL.trans hL1).trans hL2;have hext:Ext e e2:=hL1.adv.ext.trans hL2.adv.ext;have hM:=uY hb hLL;have hyld:(AV.val (.one (.yld (st.nb+1)))).is e2 (.func (.yield W1.heap.size) #[] #[]):=⟨_,hρ2,rfl⟩;have hargs:yy e2 (uA pre++([.val (.one (.yld (st.nb+1)))]++uA cap)) (p++([.func (.yield W1.heap.size) #[] #[]]++q)) :=
  (zA (hp.ext hext)).append (yy.append (cs:=[_]) (vs:=[_]) ⟨_,_,rfl,hyld,rfl⟩ (zA (hq.ext hext)))
 have hfr2:uj (st.nb+1+1) t.n1 e2:=by
  have h1:=(hfr.new (hL1.new.mono (cb _) (cb _)) (by omega));exact h1.new (hL2.new.mono (cb _) (cb _)) (by omega)
 obtain⟨hen,hcalls⟩:=hF e2 W2 _ _ f _ _ t hM hLL.good hargs hcall hfr2 (by rw[← hob];exact ho);refine⟨W1.heap.size,[UR w.heap.size],W2,{ target:=.fn (.func f) q.toArray,args:=p.toArray++#[.func (.yield W1.heap.size) #[] #[]] },W2,f,p.toArray++#[.func (.yield W1.heap.size) #[] #[]]++q.toArray,W2,?_,?_,fun _ _=>trivial,?_,(fun hd=>nomatch hd),?_⟩
 ·have:=run_enterLoop_outer (P:=C.P) (w:=w) fn a.tmps ps assign body;rw[hs1];exact this
 ·simp [resolve,hg,Deferred.ofValue,show ∀ v,a.eval (.const v)=v from fun _=>rfl]
 ·have:=hen (p.toArray++#[.func (.yield W1.heap.size) #[] #[]]++q.toArray) W2;simpa [invoke] using this
 ·have hx:(p++([Value.func (.yield W1.heap.size) #[] #[]]++q)).toArray=p.toArray++#[Value.func (.yield W1.heap.size) #[] #[]]++q.toArray:=by
   apply Cw;simp
  rw[← hx];refine CallsIn.mono (callsIn_wide.2 hcalls) ?_;rintro en w3 ⟨v,rfl,e3,hL3,_⟩;have hL4:=hLL.trans hL3;have hms3:WT e3 (st.nb::st.ms) (w.heap.size::rs):=⟨_,_,rfl,hL3.adv.ext.ρ _ _ (hL2.adv.ext.ρ _ _ hρ1),hms.ext (hext.trans hL3.adv.ext)⟩;have hV3:jw e3 a (fun t=>find t st.sl):=hV.ext (hext.trans hL3.adv.ext);have hfin:∀ (k:Nat) (r:Loop),e3.ρ (st.nb+1)=some k->e3.al (st.nb+1)=true->w3.heap[k]?=some (.loop r)->uE C e0 w0 n0 t.n1 (kX [(st.nb+1,.dead)] (kX t.ws (kX [(st.nb+1,.loop nt st.sl ps.toList fid assign body .ready)] (kX [(st.nb,.mark)] st.m)))) e3 (w3.putObj k (.loop { r with state:=.exhausted })):=by
   intro k r h1 h2 h3;have hlt:=(Array.getElem?_eq_some_iff.1 h3).1;exact hL4.trans (JQ hL4.good h1 h2 (w':=w3.putObj k (.loop { r with state:=.exhausted })) ⟨rfl,rfl,rfl,by simp [World.putObj],fun j hj=>GX hj⟩ (KI hlt) (.inr (.inl ⟨_,rfl⟩)) (ob:=.dead) trivial)
  have hk3:e3.ρ (st.nb+1)=some W1.heap.size:=hL3.adv.ext.ρ _ _ hρ2;have hM4:=uY hb hL4;split at h
  ·rename_i hlp;injection h with h;simp only[cr] at h
   obtain⟨rfl,rfl,rfl⟩:=h;obtain⟨k,r,h1,h2,h3,_,_,_,_,_,h4,h5⟩:=hM4 _ _ hlp;rw[hk3] at h1;injection h1 with h1;subst h1
   have hend:=run_endLoop (P:=C.P) h3 (by rw[h4];decide);exact⟨_,w3.putObj W1.heap.size (.loop { r with state:=.exhausted }),hend.trans (cX (fun z=>Result.ok z (w3.putObj W1.heap.size (.loop { r with state:=.exhausted }))) h5),rfl,⟨e3,hfin _ r hk3 h2 h3,hV3,_,by show [UR w.heap.size]++a.defers=_;rw[hdf];rfl,hms3⟩,hsz⟩
  ·rename_i hlp;injection h with h;simp only[cr] at h
   obtain⟨rfl,rfl,rfl⟩:=h;obtain⟨k,r,h1,h2,h3,_,_,_,_,_,h4,h5⟩:=hM4 _ _ hlp;rw[hk3] at h1;injection h1 with h1;subst h1
   have hend:=run_endLoop (P:=C.P) h3 (by rw[h4];decide);exact⟨_,w3.putObj W1.heap.size (.loop { r with state:=.exhausted }),hend.trans (cX (fun z=>Result.ok z (w3.putObj W1.heap.size (.loop { r with state:=.exhausted }))) h5),wpIn_ret ⟨rfl,⟨e3,hfin _ r hk3 h2 h3,hV3,_,by show [UR w.heap.size]++a.defers=_;rw[hdf];rfl,hms3⟩,hsz⟩⟩
  ·rename_i hlp;injection h with h;simp only[cr] at h
   obtain⟨rfl,rfl,rfl⟩:=h;obtain⟨k,r,h1,h2,h3,_,_,_,_,_,h4,h5⟩:=hM4 _ _ hlp;rw[hk3] at h1;injection h1 with h1;subst h1
   have hend:=run_endLoop (P:=C.P) h3 (by rw[h4];decide);exact⟨_,w3.putObj W1.heap.size (.loop { r with state:=.exhausted }),hend.trans (cX (fun z=>Result.ok z (w3.putObj W1.heap.size (.loop { r with state:=.exhausted }))) h5),wpIn_exit ⟨rfl,⟨e3,hfin _ r hk3 h2 h3,hV3,_,by show [UR w.heap.size]++a.defers=_;rw[hdf];rfl,hms3⟩,hsz⟩⟩
  ·cases h
theorem kv (hW:Wd F) (hR:inR=false->F=Fence.wide) (hC:C.Ok) (hT:∀ f,(TT f).Ok C) (hF:CF.Ok C) (hFm:CF.Mono) (hY:zI C YF) (hYm:YF.Mono) (hb:jk C e0 w0 base) {B:Nat}(hfree:uj n0 B e0):∀ (n:Nat) (c:Code) (st:St D) (x:Xt) (st':St D) (ob:List Prop),zY C.toStat TT CF YF nt base fid inR n c st=some (x,st',ob)->jC ob->st'.nb<=B->
 ∀ a w,Sat C nt e0 w0 n0 st a w->c.wpIn F m C.P (Kz C nt e0 w0 n0 x st') a w
 |0,c,st,x,st',ob,h,ho,hB,a,w,hs=>by simp [zY] at h
 |n+1,c,st,x,st',ob,h,ho,hB,a,w,hs=>by
  unfold zY at h;split at h
  ·injection h with h;simp only[cr] at h
   obtain⟨rfl,rfl,rfl⟩:=h;exact wpIn_skip ⟨rfl,hs⟩
  ·injection h with h;simp only[cr] at h
   obtain⟨rfl,rfl,rfl⟩:=h;exact wpIn_label ⟨rfl,hs⟩
  ·injection h with h;simp only[cr] at h
   obtain⟨rfl,rfl,rfl⟩:=h;exact wpIn_exit ⟨rfl,hs⟩
  ·injection h with h;simp only[cr] at h
   obtain⟨rfl,rfl,rfl⟩:=h;exact wpIn_ret ⟨rfl,hs⟩
  ·rename_i rid ops draw;split at h
   ·rename_i st1 ob1 h1;injection h with h;simp only[cr] at h
    obtain⟨rfl,rfl,rfl⟩:=h;split at h1
    ·exact cjr hW hC (hT fid) hF hFm hY hYm hb h1 ho (hfree.mono (cb _) hB) (fun a w h=>⟨rfl,h⟩) hs
    ·refine wpIn_region ?_;rw[YR];have hl:ops.toList.length=ops.size:=by simp
     have:=cef (F:=F) (m:=m) (Q:=Kz C nt e0 w0 n0 .normal st1) hW hC (hT fid) hF hFm hY hYm hb ops.toList.length ops.toList 0 st st1 ob1 rfl (by simp) h1 ho (hfree.mono (cb _) hB) (fun a w h=>⟨rfl,h⟩) a w hs;rw[hl] at this;exact this
   ·cases h
  ·apply wpIn_seq;split at h
   ·rename_i st1 ob1 h1;split at h
    ·rename_i x2 st2 ob2 h2;injection h with h;simp only[cr] at h
     obtain⟨rfl,rfl,rfl⟩:=h;obtain⟨ho1,ho2⟩:=ho.append;refine EE (kv hW hR hC hT hF hFm hY hYm hb hfree n _ _ _ _ _ h1 ho1 (cB (ue hFm hYm n _ _ _ _ _ h2) hB) a w hs) ?_;rintro e a' w' ⟨rfl,hs'⟩;exact kv hW hR hC hT hF hFm hY hYm hb hfree n _ _ _ _ _ h2 ho2 hB a' w' hs'
    ·cases h
   ·rename_i hne;refine EE (kv hW hR hC hT hF hFm hY hYm hb hfree n _ _ _ _ _ h ho hB a w hs) ?_;rintro e a' w' ⟨rfl,hs'⟩;cases x with
    |normal=>exact absurd h (hne st' ob)
    |exit id=>exact⟨rfl,hs'⟩
    |ret=>exact⟨rfl,hs'⟩
  ·obtain⟨⟨e,hL,hV,hmk⟩,hsz⟩:=hs;split at h
   ·rename_i hl;exact wpIn_cond_true (ky hV hl) (kv hW hR hC hT hF hFm hY hYm hb hfree n _ _ _ _ _ h ho hB a w ⟨⟨e,hL,hV,hmk⟩,hsz⟩)
   ·rename_i hl;exact wpIn_cond_false (ky hV hl) (kv hW hR hC hT hF hFm hY hYm hb hfree n _ _ _ _ _ h ho hB a w ⟨⟨e,hL,hV,hmk⟩,hsz⟩)
   ·cases h
  ·rename_i id1 c1;apply wpIn_block;split at h
   ·rename_i j st1 ob1 h1;split at h
    ·rename_i hj;injection h with h;simp only[cr] at h
     obtain⟨rfl,rfl,rfl⟩:=h;refine EE (kv hW hR hC hT hF hFm hY hYm hb hfree n _ _ _ _ _ h1 ho hB a w hs) ?_;rintro e a' w' ⟨rfl,hs'⟩;simp only[Xt.to,Exit.inBlock,ct hj,Cn];exact⟨rfl,hs'⟩
    ·rename_i hj;injection h with h;simp only[cr] at h
     obtain⟨rfl,rfl,rfl⟩:=h;refine EE (kv hW hR hC hT hF hFm hY hYm hb hfree n _ _ _ _ _ h1 ho hB a w hs) ?_;rintro e a' w' ⟨rfl,hs'⟩;have:¬ j=id1:=by
      rintro rfl;simp at hj
     simp only[Xt.to,Exit.inBlock,cg this];exact⟨rfl,hs'⟩
   ·rename_i hne;refine EE (kv hW hR hC hT hF hFm hY hYm hb hfree n _ _ _ _ _ h ho hB a w hs) ?_;rintro e a' w' ⟨rfl,hs'⟩;cases x with
    |normal=>exact⟨rfl,hs'⟩
    |exit id=>exact absurd h (hne id st' ob)
    |ret=>exact⟨rfl,hs'⟩
  ·intro b k cs hbr hbf hrm;obtain⟨e,a',w',h1,h2⟩:=(EF hW (B:=B) (fun st x st' ob h=>ue hFm hYm n _ st x st' ob h) (fun st x st' ob h ho hB=>kv hW hR hC hT hF hFm hY hYm hb hfree n _ st x st' ob h ho hB) n st x st' ob h ho hB a w hs).2 b k cs hbr;exact⟨e,a',w',h1,.of_steps (.one (fenced_calm (n:=m) hbf hrm rfl) stepR_loop) h2⟩
  ·rename_i g ps assign body;split at h
   ·cases h
   ·have hFw:=hR rfl;subst hFw;obtain⟨⟨e,hL,hV,hmk⟩,hsz⟩:=hs;split at h
    ·rename_i f hg;exact ceS hC hF hFm hb hfree h ho hB hL hV hmk hsz (p:=[]) (q:=[]) (cQ hV hg) rfl rfl
    ·rename_i k hg;split at h
     ·rename_i f pre cap hcl;obtain⟨p,q,h1,h2,h3⟩:=uY hb hL _ _ hcl;have hgv:e.φ k=some (a.eval g):=cQ hV hg;rw[hgv] at h1;injection h1 with h1
      exact ceS hC hF hFm hb hfree h ho hB hL hV hmk hsz h1 h2 h3
     ·cases h
    ·cases h
  ·cases h
end
def cba (P:Program) (V:jp) (M:cL D):List ResultVar->Option (List A1)
 |[]=>some []
 |r::l=>match cba P V M l with
  |none=>none
  |some xs=>match r with
   |.tmp t=>match V t with
    |some (.val x)=>some (x::xs)
    |_=>none
   |.cell a t=>match ptr? (V a) with
    |some (b,o)=>match Yd P M t b o with
     |some x=>some (x::xs)
     |none=>none
    |none=>none
def Je:Nat->List AV->List (Nat×AV)
 |_,[]=>[]
 |t,x::l=>(t,x)::Je (t+1) l
def idC:AC->List Nat->List Nat
 |.lit _,l=>l
 |.sym s _,l=>s::l
 |.ptr b _,l=>b::l
 |.slc b _ _ _,l=>b::l
 |.gsl b _,l=>b::l
 |.gso b _ _ _,l=>b::l
 |.fn c,l=>c::l
 |.yld b,l=>b::l
def idCs:List AC->List Nat->List Nat
 |[],l=>l
 |c::cs,l=>idC c (idCs cs l)
def idA:A1->List Nat->List Nat
 |.one c,l=>idC c l
 |.agg cs,l=>idCs cs l
def idAs:List A1->List Nat->List Nat
 |[],l=>l
 |a::as',l=>idA a (idAs as' l)
def idO:ES D->List Nat->List Nat
 |.blk _ cs _,l=>idCs cs l
 |.clo _ p q,l=>idAs p (idAs q l)
 |.ep b _ _ _,l=>b::l
 |.cp b _ _ _,l=>b::l
 |.mp es _,l=>idAs (es.map fun p=>p.2.1) l
 |_,l=>l
def clc (m:Ws D):Nat->List Nat->Nat->Nat
 |0,_,k=>k
 |_+1,[],k=>k
 |n+1,i::cfe,k=>match Nat.testBit k i with
  |true=>clc m n cfe k
  |false=>match find i m with
   |some o=>clc m n (idO o cfe) (Nat.lor k (2^i))
   |none=>clc m n cfe k
def ciL (n0:Nat):Ws D->List Nat->List Nat
 |[],l=>l
 |p::m,l=>match Nat.blt p.1 n0 with
  |true=>idO p.2 (ciL n0 m l)
  |false=>ciL n0 m l
def caG (f:Nat->Bool):Nat->Ws D->Ws D
 |_,[]=>[]
 |s,p::m=>match f p.1 with
  |true=>match Nat.testBit s p.1 with
   |true=>caG f s m
   |false=>p::caG f (Nat.lor s (2^p.1)) m
  |false=>caG f s m
def JN:List Nat->Ws D->Ws D
 |[],m=>m
 |b::bs,m=>JN bs (kX [(b,.dead)] m)
def cbF:List Nat->Ws D->Bool
 |[],_=>true
 |b::bs,m=>match find b m with
  |some .mark=>cbF bs (kX [(b,.dead)] m)
  |_=>false
def gcW (n0 n1:Nat) (xs:List A1) (m:Ws D):Ws D :=
 match clc m 100000 (idAs xs (ciL n0 m [])) 0 with
 |k=>caG (fun b=>match Nat.blt b n0 with
  |true=>true
  |false=>match Nat.ble n1 b with
   |true=>true
   |false=>Nat.testBit k b) 0 m
def Xt.ends:Xt->Bool
 |.normal=>true
 |.ret=>true
 |_=>false
def outOf:List A1->AV
 |[x]=>.val x
 |l=>.tup l
def runF (S:Stat D) (TT:FuncId->Tab D) (CF YF:cH D) (g:Nat):cH D:=fun M n0 f l =>
 match S.P.funcs[f]? with
 |some fn=>match fn.body with
  |some c=>match Nat.ble l.length fn.ntmps with
   |true=>match zY S TT CF YF fn.ntmps M f false g c ⟨n0,Je 0 l,[],[]⟩ with
    |some (xt,st,ob)=>match xt.ends,cbF st.ms st.m with
     |true,true=>match cba S.P (fun t=>find t st.sl) (over M (JN st.ms st.m)) fn.results.toList with
      |some xs=>some ⟨outOf xs,gcW n0 st.nb xs (JN st.ms st.m),st.nb,ob⟩
      |none=>none
     |_,_=>none
    |none=>none
   |false=>none
  |none=>none
 |none=>none
def cch (nt:Nat):List Nat->List AV->List (Nat×AV)->Option (List (Nat×AV))
 |[],[],sl=>some sl
 |p::ps,x::xs,sl=>match Nat.blt p nt with
  |true=>cch nt ps xs (kX [(p,x)] sl)
  |false=>none
 |_,_,_=>none
def jmOf:Xt->Ls
 |.normal=>.ready
 |.ret=>.done .ret
 |.exit id=>.done (.exit id)
def Xt.isNormal:Xt->Bool
 |.normal=>true
 |_=>false
def runY (S:Stat D) (TT:FuncId->Tab D) (CF YF:cH D) (g:Nat):cH D:=fun M n0 b l =>
 match M b with
 |some (.loop nt sl ps fid assign body .ready)=>match cch nt ps l sl with
  |some sl1=>match zY S TT CF YF nt M fid true g assign ⟨n0,sl1,[],[]⟩ with
   |some (.normal,st1,ob1)=>match over M st1.m b with
    |some (.loop nt' sl' ps' fid' assign' body' .ready)=>match zY S TT CF YF nt M fid true g body ⟨st1.nb,st1.sl,kX [(b,.loop nt' sl' ps' fid' assign' body' .busy)] st1.m,st1.ms⟩ with
     |some (x,st2,ob2)=>match over M st2.m b with
      |some (.loop nt2 sl2 ps2 fid2 assign2 body2 .busy)=>some ⟨.val (.one (.lit (.bool x.isNormal))),gcW n0 st2.nb [] (kX [(b,.loop nt2 sl2 ps2 fid2 assign2 body2 (jmOf x))] st2.m),st2.nb,ob1++ob2⟩
      |_=>none
     |none=>none
    |_=>none
   |_=>none
  |none=>none
 |_=>none
def Cp (S:Stat D) (TT:FuncId->Tab D) (g:Nat):Nat->cH D×cH D
 |0=>(fun _ _ _ _=>none,fun _ _ _ _=>none)
 |n+1=>(runF S TT (Cp S TT g n).1 (Cp S TT g n).2 g,runY S TT (Cp S TT g n).1 (Cp S TT g n).2 g)
def callF (S:Stat D) (TT:FuncId->Tab D) (g n:Nat):cH D:=(Cp S TT g n).1
theorem bit_set {s b c:Nat}(h:b≠c):Nat.testBit (Nat.lor s (2^b)) c=Nat.testBit s c:=by
 show Nat.testBit (s||| 2^b) c=_;rw[Nat.testBit_or,Nat.testBit_two_pow];simp [h]
theorem GZ {f:Nat->Bool}{b:Nat}:∀ {m:Ws D}{s:Nat},Nat.testBit s b=false->find b (caG f s m)=(match f b with|true=>find b m|false=>none)
 |[],s,_=>by simp only[caG,jj,cS];cases f b<;>rfl
 |p::m,s,hs=>by
  unfold caG;simp only[jj,cS];cases hb:Nat.beq p.1 b with
  |true =>
   have hpb:=ct hb;rw[hpb];cases hf:f b with
   |true=>simp only[hs,jj,cS,hb]
   |false =>
    simp only[];rw[GZ hs,hf]
  |false =>
   have hne:p.1≠b:=fun h=>by rw[h,Nat.beq_refl] at hb;cases hb
   cases hf:f p.1 with
   |true =>
    simp only[];cases ht:Nat.testBit s p.1 with
    |true=>exact GZ hs
    |false =>
     simp only[jj,cS,hb];exact GZ (by rw[bit_set hne];exact hs)
   |false=>exact GZ hs
theorem ced {f:Nat->Bool}{b:Nat}{m:Ws D}:find b (caG f 0 m)=(match f b with|true=>find b m|false=>none):=GZ (Nat.zero_testBit b)
section
variable {S:Stat D}{TT:FuncId->Tab D}{CF YF:cH D}{g:Nat}
theorem cmk (hF:CF.Mono) (hY:YF.Mono):(runF S TT CF YF g).Mono:=by
 intro M n0 f l t h;unfold runF at h;split at h
 rotate_left
 ·cases h
 split at h
 rotate_left
 ·cases h
 split at h
 rotate_left
 ·cases h
 split at h
 rotate_left
 ·cases h
 rename_i he;split at h
 rotate_left
 ·cases h
 split at h
 rotate_left
 ·cases h
 injection h with h;subst h
 exact ue hF hY _ _ _ _ _ _ he
theorem cny (hF:CF.Mono) (hY:YF.Mono):(runY S TT CF YF g).Mono:=by
 intro M n0 f l t h;unfold runY at h;split at h
 rotate_left
 ·cases h
 split at h
 rotate_left
 ·cases h
 split at h
 rotate_left
 ·cases h
 rename_i he;split at h
 rotate_left
 ·cases h
 split at h
 rotate_left
 ·cases h
 rename_i he2;split at h
 rotate_left
 ·cases h
 injection h with h;subst h
 have h1:=ue hF hY _ _ _ _ _ _ he;have h2:=ue hF hY _ _ _ _ _ _ he2;exact cB h1 h2
theorem kH:∀ n,(Cp S TT g n).1.Mono/\(Cp S TT g n).2.Mono
 |0=>⟨fun M n0 f l t h=>by simp [Cp] at h,fun M n0 f l t h=>by simp [Cp] at h⟩
 |n+1=>⟨cmk (kH n).1 (kH n).2,cny (kH n).1 (kH n).2⟩
end
section
variable {C:Ctx D}{e:Env}{w:World}{TT:FuncId->Tab D}{CF YF:cH D}
theorem uE.gc {n0 n1:Nat}{ws:Ws D}{e':Env}{w':World}(h:uE C e w n0 n1 ws e' w') (hf:uj n0 n1 e) (xs:List A1):uE C e w n0 n1 (gcW n0 n1 xs ws) e' w':=by
 refine⟨h.le,h.adv,h.new,h.good,fun b o ho=>?_,fun b o ho hn=>?_⟩
 ·unfold gcW at ho;rw[ced] at ho;split at ho
  ·exact h.wrote b o ho
  ·cases ho
 ·unfold gcW at hn;rw[ced] at hn;split at hn
  ·exact h.kept b o ho hn
  ·rename_i hk;have hb:n0<=b/\b<n1:=by
    split at hk
    ·cases hk
    ·rename_i h1;split at hk
     ·cases hk
     ·rename_i h2;constructor
      ·rcases jb b n0 with h|h
       ·rw[show Nat.blt b n0=true from JA h] at h1;cases h1
       ·exact h
      ·rcases jb b n1 with h|h
       ·exact h
       ·rw[JA h] at h2;cases h2
   obtain⟨q1,q2,q3⟩:=hf b hb.1 hb.2;cases o with
   |blk ty cs z=>obtain⟨k,_,_,_,h1,_⟩:=ho;rw[q1] at h1;cases h1
   |clo f p q=>obtain⟨_,_,h1,_⟩:=ho;rw[q3] at h1;cases h1
   |cls d=>obtain⟨_,h1,_⟩:=ho;rw[q2] at h1;cases h1
   |loop nt sl ps fid assign body st=>obtain⟨k,_,h1,_⟩:=ho;rw[q1] at h1;cases h1
   |mark=>obtain⟨k,h1,_⟩:=ho;rw[q1] at h1;cases h1
   |gl ty z n g=>obtain⟨_,h1,_⟩:=ho;rw[q3] at h1;cases h1
   |ep l i z o=>obtain⟨_,_,h1⟩:=ho;rw[q3] at h1;cases h1
   |cp l i z o=>obtain⟨_,_,_,_,_,h1⟩:=ho;rw[q3] at h1;cases h1
   |mp es ck=>obtain⟨k,_,h1,_⟩:=ho;rw[q1] at h1;cases h1
   |dead=>trivial
def ZW (tmps:Array Value):ResultVar->Sem Value
 |.tmp t=>pure (tmps.getD t undef)
 |.cell p t=>do loadVar t (← asAddr (tmps.getD p undef))
theorem zk (fn:Func) (tmps:Array Value):results fn tmps=(do let vs ← fn.results.mapM (ZW tmps);pure (if h:vs.size=1 then vs[0] else .tuple vs)):=by
 unfold results;congr
theorem Wq {a:Act}{V:jp}{M:cL D}(hV:jw e a V) (hM:jk C e w M):∀ {l:List ResultVar}{xs:List A1},cba C.P V M l=some xs->
 ∃ vs,(l.mapM (ZW a.tmps)).run C.P w=.ok vs w/\uq e xs vs
 |[],xs,h=>by
  simp [cba] at h;subst h;exact⟨[],by simp,rfl⟩
 |r::l,xs,h=>by
  simp only[cba] at h;split at h
  ·cases h
  ·rename_i ys hys;obtain⟨vs,h1,h2⟩:=Wq hV hM hys;split at h
   ·rename_i t;split at h
    ·rename_i x hx;injection h with h;subst h
     refine⟨a.eval (.tmp t)::vs,?_,_,_,rfl,cQ hV (x:=.tmp t) hx,h2⟩;rw[Wv];simp only[ZW,jd,yZ,jA,h1];rfl
    ·cases h
   ·rename_i p t;split at h
    ·rename_i b o hb;obtain⟨k,hk,hx⟩:=Ja hV (x:=.tmp p) hb;split at h
     ·rename_i y hy;injection h with h;subst h
      obtain⟨v,h3,h4⟩:=Kc hM hk hy;refine⟨v::vs,?_,_,_,rfl,h4,h2⟩;have hx':a.tmps.getD p undef=.pointer (some ⟨k,o,none⟩):=hx;rw[Wv];simp only[ZW,jd,hx',asAddr,yZ,jA,h1,h3]
     ·cases h
    ·cases h
theorem Ud {x:AV}{t:Nat}:∀ {l:List AV}{j:Nat},find t (Je j l)=some x->∃ i,l[i]?=some x/\t=j+i
 |[],j,h=>by simp [Je,jj,cS] at h
 |y::l,j,h=>by
  simp only[Je,jj,cS] at h;split at h
  ·rename_i hb;injection h with h;subst h
   exact⟨0,rfl,by rw[← ct hb];rfl⟩
  ·obtain⟨i,h1,h2⟩:=Ud h;exact⟨i+1,by simpa using h1,by omega⟩
theorem Zp {e0:Env}{w0:World}{n0 n1 m:Nat}{fn:Func}{tmps:Array Value}{R:Ending->World->Prop}:∀ (bs rs:List Nat) (ws:Ws D) (e:Env) (w:World),uE C e0 w0 n0 n1 ws e w->WT e bs rs->cbF bs ws=true->
 (∀ w',uE C e0 w0 n0 n1 (JN bs ws) e w'->∃ v,(results fn tmps).run C.P w'=.ok v w'/\R (.returned v) w')->LeavesInM Fence.wide m C.P fn tmps R (rs.map UR) .returning w
 |[],rs,ws,e,w,hL,hm,hk,hf=>by
  rw[show rs=[] from hm];exact hf w hL
 |b::bs,rs,ws,e,w,hL,⟨r,rs',h1,h2,h3⟩,hk,hf=>by
  subst h1;unfold cbF at hk;split at hk
  ·rename_i hfb;obtain⟨k,q1,q2,q3⟩:=hL.wrote b _ hfb;rw[h2] at q1;injection q1 with q1;subst q1
   have hlt:=(Array.getElem?_eq_some_iff.1 q3).1;refine⟨by simp,.inl ⟨r,w.putObj r (.deferred none),rfl,run_takeDeferred q3,?_⟩⟩;exact Zp bs rs' _ e _ (hL.trans (JQ hL.good h2 q2 (w':=w.putObj r (.deferred none)) ⟨rfl,rfl,rfl,by simp [World.putObj],fun j hj=>GX hj⟩ (KI hlt) (.inr (.inr (.inl ⟨_,rfl⟩))) (ob:=.dead) trivial)) h3 hk hf
  ·cases hk
theorem runF_ok (hC : C.Ok) (hN : ∀ (f : Nat) (fn : Func), C.P.funcs[f]? = some fn → (fn.name == "runtime.NumGoroutine") = false) (hT : ∀ f, (TT f).Ok C) (hF : CF.Ok C) (hFm : CF.Mono) (hY : zI C YF) (hYm : YF.Mono) {g : Nat} : (runF C.toStat TT CF YF g).Ok C := by
 intro e w M n0 f l vs t hM hg hvs h hf ho;unfold runF at h;split at h
 rotate_left
 ·cases h
 rename_i fn hfn;split at h
 rotate_left
 ·cases h
 rename_i c hbody;split at h
 rotate_left
 ·cases h
 rename_i hlen;have hlen:=jl hlen;split at h
 rotate_left
 ·cases h
 rename_i xt st ob he;split at h
 rotate_left
 ·cases h
 rename_i hends hmarks;split at h
 rotate_left
 ·cases h
 rename_i xs hres;injection h with h
 subst h;refine⟨jg hfn (hN f fn hfn) hbody,?_⟩;have hvl:=hvs.length;have hs:Sat C fn.ntmps e w n0 ⟨n0,Je 0 l,[],[]⟩ { tmps:=vs.toArray++Array.replicate (fn.ntmps-vs.toArray.size) undef,defers:=[] } w:=by
  refine⟨⟨e,uE.refl hg n0,?_,[],rfl,rfl⟩,?_⟩
  ·intro tt x hx;obtain⟨i,h1,h2⟩:=Ud hx;obtain⟨v,h3,h4⟩:=hvs.get i x h1;refine⟨v,?_,h4⟩;have hil:i<vs.length:=(List.getElem?_eq_some_iff.1 h3).1;rw[h2,jc];show (vs.toArray++Array.replicate (fn.ntmps-vs.toArray.size) undef)[i]?=some v;rw[ckz (by simpa using hil)];simpa using h3
  ·simp only[cbV,Eb,cfd];omega
 refine(callsIn_wide (n:=0)).1 (ciI hfn hbody trivial (EE (kv (F:=Fence.wide) (.inl rfl) (fun _=>rfl) hC hT hF hFm hY hYm hM hf g c _ xt st ob he ho (cb _) _ _ hs) ?_));rintro ex a' w' ⟨rfl,⟨e',hL,hV,rs,hdf,hmk⟩,hsz⟩;have:LeavesInM Fence.wide 0 C.P fn a'.tmps (fun en w'=>∃ v,en=.returned v/\uh C e w n0 ⟨outOf xs,gcW n0 st.nb xs (JN st.ms st.m),st.nb,ob⟩ v w') a'.defers .returning w':=by
  rw[hdf];refine Zp st.ms rs st.m e' w' hL hmk hmarks (fun w2 hL2=>?_);obtain⟨us,h3,h4⟩:=Wq hV (uY hM hL2) hres;have h5:(results fn a'.tmps).run C.P w2=.ok (if h:us.toArray.size=1 then us.toArray[0] else .tuple us.toArray) w2:=by
   rw[zk,cbH];simp only[jd,Sem.run_map,h3,jA];rfl
  refine⟨_,h5,_,rfl,e',hL2.gc hf xs,?_⟩;have hul:=h4.length;unfold outOf;split
  ·rename_i x;obtain⟨v,ws,rfl,h6,h7⟩:=h4;rw[show ws=[] from h7];exact h6
  ·rename_i hne;have hl:us.toArray.size≠1:=by
    intro h1;have h1:us.length=1:=by simpa using h1
    rw[h1] at hul
    match xs,hul with
    |[x],_=>exact hne x rfl
   rw[dif_neg hl];exact⟨us,h4,rfl⟩
 cases xt with
 |normal=>exact this
 |ret=>exact this
 |exit id=>cases hends
theorem chn {nt:Nat}{e:Env}:∀ {ps:List Nat}{xs:List AV}{sl sl':List (Nat×AV)}{vs:List Value}{tm:Array Value},cch nt ps xs sl=some sl'->yy e xs vs->tm.size=nt->jw e ⟨tm,[]⟩ (fun t=>find t sl)->
 vs.length=ps.length/\((ps.zip vs).foldl (fun tmps (t,a)=>tmps.setIfInBounds t a) tm).size=nt/\jw e ⟨(ps.zip vs).foldl (fun tmps (t,a)=>tmps.setIfInBounds t a) tm,[]⟩ (fun t=>find t sl')
 |[],[],sl,sl',vs,tm,h,hv,hs,hk=>by
  simp only[cch,kD] at h;subst h;rw[show vs=[] from hv];exact⟨rfl,hs,hk⟩
 |p::ps,x::xs,sl,sl',vs,tm,h,⟨v,ws,h1,h2,h3⟩,hs,hk=>by
  subst h1;simp only[cch] at h;split at h
  ·rename_i hp;have hput:cfx nt (some p) x sl=some (kX [(p,x)] sl):=by unfold cfx;simp only[hp]
   have:=ccs (a:=⟨tm,[]⟩) hs hk hput (Ext.refl e) h2;obtain⟨q1,q2,q3⟩:=chn (tm:=tm.setIfInBounds p v) h h3 (by simpa using hs) this;exact⟨by simp [q1],q2,q3⟩
  ·cases h
 |[],_::_,sl,sl',vs,tm,h,hv,hs,hk=>by simp [cch] at h
 |_::_,[],sl,sl',vs,tm,h,hv,hs,hk=>by simp [cch] at h
theorem runY_ok (hC:C.Ok) (hT:∀ f,(TT f).Ok C) (hF:CF.Ok C) (hFm:CF.Mono) (hY:zI C YF) (hYm:YF.Mono) {g:Nat}:zI C (runY C.toStat TT CF YF g):=by
 intro e w M n0 b l vs t hM hg hvs h hf ho;unfold runY at h;split at h
 rotate_left
 ·cases h
 rename_i nt sl ps fid assign body hb;obtain⟨k,r,p1,p2,p3,p4,p5,p6,p7,p8,p9,p10⟩:=hM _ _ hb;split at h
 rotate_left
 ·cases h
 rename_i sl1 hbind;obtain⟨q1,q2,q3⟩:=chn hbind hvs p7 p8;have hfold:(r.params.zip vs.toArray).foldl (fun tmps (t,a)=>tmps.setIfInBounds t a) r.tmps=(ps.zip vs).foldl (fun tmps (t,a)=>tmps.setIfInBounds t a) r.tmps:=by
  rw[p4,← Array.foldl_toList];simp
 split at h
 rotate_left
 ·cases h
 rename_i st1 ob1 hex1;split at h
 rotate_left
 ·cases h
 rename_i nt' sl' ps' fid' assign' body' hl1;split at h
 rotate_left
 ·cases h
 rename_i x st2 ob2 hex2;split at h
 rotate_left
 ·cases h
 rename_i nt2 sl2 ps2 fid2 assign2 body2 hl2;injection h with h
 subst h;obtain⟨ho1,ho2⟩:=jC.append ho;have hle1:=ue hFm hYm _ _ _ _ _ _ hex1;have hle2:=ue hFm hYm _ _ _ _ _ _ hex2;refine⟨k,r,p1,p3,by rw[q1,p4];simp,fun F m hW=>?_⟩;rw[hfold];have hW':Wd (F.inRound k):=by
  rcases hW with rfl|⟨l0,rfl⟩
  ·exact .inr ⟨k,rfl⟩
  ·exact .inr ⟨k,rfl⟩
 have hs:Sat C nt e w n0 ⟨n0,sl1,[],[]⟩ { tmps:=(ps.zip vs).foldl (fun tmps (t,a)=>tmps.setIfInBounds t a) r.tmps,defers:=[] } w:=⟨⟨e,uE.refl hg n0,q3,[],rfl,rfl⟩,q2⟩;refine roundIn_of_wpIn (hW.fn _) ?_;rw[p5,p6];refine EE (kv (F:=F.inRound k) hW' (fun h=>by cases h) hC hT hF hFm hY hYm hM hf g assign _ .normal st1 ob1 hex1 ho1 hle2 _ _ hs) ?_;rintro ex a1 w1 ⟨rfl,⟨e1,hL1,hV1,hmk1⟩,hsz1⟩;obtain⟨k1,r1,s1,s2,s3,s4,s5,s6,s7,s8,s9,s10⟩:=uY hM hL1 _ _ hl1;have hk1:e1.ρ b=some k:=hL1.adv.ext.ρ _ _ p1;rw[hk1] at s1;injection s1 with s1;subst s1
 have hlt1:=(Array.getElem?_eq_some_iff.1 s3).1;refine⟨_,run_beginRound s3 s9,?_⟩;have hL1':=hL1.trans (JQ (n0:=st1.nb) hL1.good hk1 s2 (w':=w1.putObj k (.loop { r1 with state:=.busy })) ⟨rfl,rfl,rfl,by simp [World.putObj],fun j hj=>GX hj⟩ (KI hlt1) (.inr (.inl ⟨_,rfl⟩)) (ob:=.loop nt' sl' ps' fid' assign' body' .busy) ⟨k,_,hk1,s2,KI hlt1,s4,s5,s6,s7,s8,rfl⟩);refine EE (kv (F:=F.inRound k) hW' (fun h=>by cases h) hC hT hF hFm hY hYm hM hf g body ⟨st1.nb,st1.sl,kX [(b,.loop nt' sl' ps' fid' assign' body' .busy)] st1.m,st1.ms⟩ x st2 ob2 hex2 ho2 (cb _) _ _ ⟨⟨e1,hL1',hV1,hmk1⟩,hsz1⟩) ?_;rintro ex a2 w2 ⟨rfl,⟨e2,hL2,hV2,hmk2⟩,hsz2⟩;obtain⟨k2,r2,u1,u2,u3,u4,u5,u6,u7,u8,u9⟩:=uY hM hL2 _ _ hl2;have hk2:e2.ρ b=some k:=hL2.adv.ext.ρ _ _ p1;rw[hk2] at u1;injection u1 with u1;subst u1
 have hlt2:=(Array.getElem?_eq_some_iff.1 u3).1;have hend:∀ (jump:Option Code) (jx:Ls),(match jx with
  |.ready=>(if jump.isNone then LoopState.ready else .done)=.ready/\jump=none
  |.busy=>(if jump.isNone then LoopState.ready else .done)=.busy
  |.done j=>(if jump.isNone then LoopState.ready else .done)=.done/\jump=some j.code)->uE C e w n0 st2.nb (gcW n0 st2.nb [] (kX [(b,.loop nt2 sl2 ps2 fid2 assign2 body2 jx)] st2.m)) e2 (w2.putObj k (.loop { r2 with state:=if jump.isNone then .ready else .done,pending:=jump })):=by
  intro jump jx hj;exact(hL2.trans (JQ (n0:=st2.nb) hL2.good hk2 u2 (w':=w2.putObj k (.loop { r2 with state:=if jump.isNone then .ready else .done,pending:=jump })) ⟨rfl,rfl,rfl,by simp [World.putObj],fun j hj=>GX hj⟩ (KI hlt2) (.inr (.inl ⟨_,rfl⟩)) (ob:=.loop nt2 sl2 ps2 fid2 assign2 body2 jx) ⟨k,_,hk2,u2,KI hlt2,u4,u5,u6,u7,u8,hj⟩)).gc hf []
 cases x with
 |normal=>exact⟨_,_,cfQ none u3,_,rfl,e2,hend none .ready ⟨rfl,rfl⟩,rfl⟩
 |ret=>exact⟨_,_,cfQ (some .ret) u3,_,rfl,e2,hend (some .ret) (.done .ret) ⟨rfl,rfl⟩,rfl⟩
 |exit id=>exact⟨_,_,cfQ (some (.exit id)) u3,_,rfl,e2,hend (some (.exit id)) (.done (.exit id)) ⟨rfl,rfl⟩,rfl⟩
theorem CN (hC : C.Ok) (hN : ∀ (f : Nat) (fn : Func), C.P.funcs[f]? = some fn → (fn.name == "runtime.NumGoroutine") = false) (hT : ∀ f, (TT f).Ok C) {g : Nat} : ∀ n, (Cp C.toStat TT g n).1.Ok C ∧ zI C (Cp C.toStat TT g n).2
 |0=>⟨fun e w M n0 f l vs t _ _ _ h=>by simp [Cp] at h,fun e w M n0 f l vs t _ _ _ h=>by simp [Cp] at h⟩
 |n+1=>⟨runF_ok hC hN hT (CN hC hN hT n).1 (kH n).1 (CN hC hN hT n).2 (kH n).2,runY_ok hC hT (CN hC hN hT n).1 (kH n).1 (CN hC hN hT n).2 (kH n).2⟩
theorem cmG (hC : C.Ok) (hN : ∀ (f : Nat) (fn : Func), C.P.funcs[f]? = some fn → (fn.name == "runtime.NumGoroutine") = false) (hT : ∀ f, (TT f).Ok C) {g n : Nat} {f : FuncId} {t : Out D} {ps : List (Pat D)} {xs : List A1} {ws : Ws D} {n0 : Nat} (hm : En C.csz 0 ps = some (xs, ws, n0)) (h : callF C.toStat TT g n (fun b => find b ws) n0 f (uA xs) = some t) (ho : jC t.ob)
 {vs:List Value} (hp:Zt (fun d f=>∀ w',uU ⟨fun _=>none,fun _=>0,fun _=>none,fun _=>none,fun _=>false⟩ C.w0 w'->C.E d w' f) C.csz ps vs) (hfr:C.fr=none:=by rfl) :
 Calls C.P f vs.toArray C.w0 (fun en w'=>∃ v e e',en=.returned v/\uE C e C.w0 n0 t.n1 t.ws e' w'/\t.x.is e' v):=by
 obtain⟨e,gr,hx⟩:=Ju hm (cb _) (e:=⟨fun _=>none,fun _=>0,fun _=>none,fun _=>none,fun _=>false⟩) (fun _ _ _=>rfl) hp;have hρ:∀ b,e.ρ b=none:=fun b=>by rw[gr.ρ]
 have hφ:∀ b,e.φ b=none:=fun b=>by rw[gr.φ]
 have hg:jm C e C.w0:=⟨cu _ _,fun b b' k _ _ h=>(by rw[hρ] at h;cases h),fun b k h=>(by rw[hρ] at h;cases h),FrOk.none hfr⟩;have hM:jk C e C.w0 (fun b=>find b ws):=by
  intro b o ho;obtain⟨_,d,rfl,f,h1,h2⟩:=gr.live b o (uV ho);exact⟨f,h1,fun w' hk=>h2 w' ⟨hk.size,fun k h3 _=>hk.block k h3 (fun b=>by rw[hρ];simp)⟩⟩
 have hf:uj n0 t.n1 e:=by
  intro b h1 _;refine⟨hρ b,?_,hφ b⟩;cases hb:e.ν b with
  |none=>rfl
  |some f =>
   rcases gr.ν b f hb with h|h
   ·cases h
   ·omega
 refine Calls.mono ((CN hC hN hT n).1 e C.w0 _ n0 f _ vs t hM hg (zA hx) h hf ho).2 ?_;rintro en w' ⟨v,rfl,e',h1,h2⟩;exact⟨v,e,e',rfl,h1,h2⟩
end
variable {D:Type}
structure At (C:Ctx D) (nt:Nat) (st:St D) (a:Act) (w:World):Prop where
 ex:∃ e,jm C e w/\jk C e w (fun b=>find b st.m)/\jw e a (fun t=>find t st.sl)/\(∀ b,st.nb<=b->e.ρ b=none/\e.ν b=none/\e.φ b=none)/\∃ rs,a.defers=rs.map UR/\WT e st.ms rs
 size:a.tmps.size=nt
def St.join (st st':St D):St D:=⟨st'.nb,st'.sl,st'.m++st.m,st'.ms⟩
section
variable {F:Fence}{m:Nat}{C:Ctx D}{TT:FuncId->Tab D}{CF YF:cH D}{nt:Nat}{fid:FuncId}{inR:Bool}{Q:Exit->Act->World->Prop}{a:Act}{w:World}{st:St D}
theorem ZQ {m m':Ws D}(b:Nat):over (fun b=>find b m) m' b=find b (m'++m):=by
 unfold over;rw[yk];split<;>rename_i h<;>simp only[h]
theorem ka (hW:Wd F) (hR:inR=false->F=Fence.wide) (hC:C.Ok) (hT:∀ f,(TT f).Ok C) (hF:CF.Ok C) (hFm:CF.Mono) (hY:zI C YF) (hYm:YF.Mono) {n:Nat}{c:Code}{x:Xt}{st':St D}{ob:List Prop}(h:zY C.toStat TT CF YF nt (fun b=>find b st.m) fid inR n c ⟨st.nb,st.sl,[],st.ms⟩=some (x,st',ob)) (ho:jC ob)
 (hA:At C nt st a w) (hQ:∀ a' w',At C nt (st.join st') a' w'->Q x.to a' w'):c.wpIn F m C.P Q a w:=by
 obtain⟨⟨e,hg,hM,hV,hfr,hmk⟩,hsz⟩:=hA;have hle:=ue hFm hYm _ _ _ _ _ _ h;have hfree:uj st.nb st'.nb e:=fun b h1 _=>hfr b h1;refine EE (kv hW hR hC hT hF hFm hY hYm hM hfree n c _ x st' ob h ho (cb _) a w ⟨⟨e,uE.refl hg _,hV,hmk⟩,hsz⟩) ?_;rintro ex a' w' ⟨rfl,⟨e',hL,hV',hmk'⟩,hsz'⟩;refine hQ a' w' ⟨⟨e',hL.good,fun b o ho=>?_,hV',fun b hb=>?_,hmk'⟩,hsz'⟩
 ·exact uY hM hL b o (by rw[ZQ];exact ho)
 ·obtain⟨q1,q2,q3⟩:=hfr b (cB hle hb);refine⟨?_,?_,?_⟩
  ·cases hx:e'.ρ b with
   |none=>rfl
   |some y =>
    rcases hL.new.ρ b y hx with h|h
    ·rw[q1] at h;cases h
    ·have hb:st'.nb<=b:=hb;omega
  ·cases hx:e'.ν b with
   |none=>rfl
   |some y =>
    rcases hL.new.ν b y hx with h|h
    ·rw[q2] at h;cases h
    ·have hb:st'.nb<=b:=hb;omega
  ·cases hx:e'.φ b with
   |none=>rfl
   |some y =>
    rcases hL.new.φ b y hx with h|h
    ·rw[q3] at h;cases h
    ·have hb:st'.nb<=b:=hb;omega
theorem com {Θ:Type}(I:Θ->St D) (J:Θ->Prop) (μ:Θ->Nat) {c:Code}(θ0:Θ) (h0:J θ0) (hA:At C nt (I θ0) a w)
 (hr:∀ θ a w,J θ->At C nt (I θ) a w->c.wpIn F m C.P (Exit.then (fun a' w'=>∃ θ',J θ'/\At C nt (I θ') a' w'/\μ θ'<μ θ) Q) a w):(Code.loop c).wpIn F m C.P Q a w:=by
 intro b k cs hro hbr hrm;have key:∀ j θ a w,μ θ=j->J θ->At C nt (I θ) a w->
  ∃ e a' w',Q e a' w'/\ArrivesIn (Machine.fenced C.P F) C.P (lone (b.atR a (.code c::.inLoop c::k)) cs w) b k cs e a' w':=by
  intro j
  induction j using Nat.strongRecOn with
  |_ j ih =>
   intro θ a w hk hJ hA;obtain⟨e,a₁,w₁,hq,harr⟩:=hr θ a w hJ hA b (.inLoop c::k) cs hro hbr hrm;cases e with
   |normal =>
    obtain⟨θ',hJ',hA',hlt⟩:=hq;obtain⟨e₂,a₂,w₂,hq₂,harr₂⟩:=ih (μ θ') (hk▸hlt) θ' a₁ w₁ rfl hJ' hA';exact⟨e₂,a₂,w₂,hq₂,.of_steps (StepsIn.trans harr (.one (fenced_calm hbr hrm rfl) stepR_inLoop)) harr₂⟩
   |exit id=>exact⟨_,a₁,w₁,hq,.pass (x:=.inLoop c) rfl (fun _ _=>.inl (by simp)) harr⟩
   |goto l=>exact⟨_,a₁,w₁,hq,.pass (x:=.inLoop c) rfl (fun _ _=>.inl (by simp)) harr⟩
   |ret=>exact⟨_,a₁,w₁,hq,.pass (x:=.inLoop c) rfl (fun _ _=>.inl (by simp)) harr⟩
   |panic ch=>exact⟨_,a₁,w₁,hq,.pass (x:=.inLoop c) rfl (fun _ _=>.inl (by simp)) harr⟩
   |outgrown=>exact⟨_,a₁,w₁,hq,.pass (x:=.inLoop c) rfl (fun _ _=>.inl (by simp)) harr⟩
 obtain⟨e,a',w',hq,harr⟩:=key _ θ0 a w rfl h0 hA;exact⟨e,a',w',hq,.of_steps (.one (fenced_calm hbr hrm rfl) stepR_loop) harr⟩
theorem loop_at {Θ:Type}(I:Θ->St D) (J:Θ->Prop) (μ:Θ->Nat) {id:Nat}{c:Code}(θ0:Θ) (h0:J θ0) (hA:At C nt (I θ0) a w)
 (hr:∀ θ a w,J θ->At C nt (I θ) a w->c.wpIn F m C.P (Exit.then (fun a' w'=>∃ θ',J θ'/\At C nt (I θ') a' w'/\μ θ'<μ θ) (Exit.inBlock id Q)) a w):(Code.block id (.loop c)).wpIn F m C.P Q a w :=
 wpIn_block (com I J μ θ0 h0 hA hr)
end
inductive Rk where
 |old (k:Nat)
 |nil
 |frz (k:Nat)
abbrev Rm:=List (Nat×Rk)
def cbf (a b:Option (List Prop)):Option (List Prop):=match a with
 |some l=>match b with
  |some l'=>some (l++l')
  |none=>none
 |none=>none
theorem uo {a b:Option (List Prop)}{l:List Prop}(h:cbf a b=some l):∃ x y,a=some x/\b=some y/\l=x++y:=by
 unfold cbf at h;split at h
 ·rename_i x;split at h
  ·rename_i y;injection h with h
   exact⟨x,y,rfl,rfl,h.symm⟩
  ·cases h
 ·cases h
def cds (r:Rm) (b k:Nat):Bool:=match find b r with
 |some (.old j)=>Nat.beq j k
 |_=>false
theorem GP {r:Rm}{b k:Nat}(h:cds r b k=true):find b r=some (.old k):=by
 unfold cds at h;split at h
 ·rename_i j hj;rw[hj,ct h]
 ·cases h
def isFrz (r:Rm) (b k:Nat):Bool:=match find b r with
 |some (.frz j)=>Nat.beq j k
 |_=>false
theorem cjJ {r:Rm}{b k:Nat}(h:isFrz r b k=true):find b r=some (.frz k):=by
 unfold isFrz at h;split at h
 ·rename_i j hj;rw[hj,ct h]
 ·cases h
def isNil (r:Rm) (b:Nat):Bool:=match find b r with
 |some .nil=>true
 |_=>false
theorem cjM {r:Rm}{b:Nat}(h:isNil r b=true):find b r=some .nil:=by
 unfold isNil at h;split at h
 ·assumption
 ·cases h
def WV (b:Bool) (l:List Prop):Option (List Prop):=match b with
 |true=>some l
 |false=>none
theorem zu {b:Bool}{l m:List Prop}(h:WV b l=some m):b=true/\l=m:=by
 unfold WV at h;split at h
 ·injection h with h;exact⟨rfl,h⟩
 ·cases h
def ccf (bl:Nat->Bool) (r:Rm) (b k:Nat):Bool:=match bl k with
 |true=>cds r b k
 |false=>false
theorem Uh {bl:Nat->Bool}{r:Rm}{b k:Nat}(h:ccf bl r b k=true):bl k=true/\find b r=some (.old k):=by
 unfold ccf at h;split at h
 ·rename_i hb;exact⟨hb,GP h⟩
 ·cases h
def clq (m:Ws D) (k:Nat):Bool:=match find k m with
 |some (.blk ..)=>true
 |_=>false
def clI (bl:Nat->Bool) (r:Rm):AC->AC->Option (List Prop)
 |.lit v,.lit v'=>some [v=v']
 |.sym s j,.sym s' j'=>match cds r s s' with
  |true=>WV (Nat.beq j j') []
  |false=>none
 |.sym s 0,.fn b=>WV (isFrz r s b) []
 |.ptr b o,.ptr b' o'=>WV (ccf bl r b b') [o=o']
 |.slc b o n c,.slc b' o' n' c'=>WV (ccf bl r b b') [o=o',n=n',c=c']
 |.gsl b n,.gsl b' n'=>WV (ccf bl r b b') [n=n']
 |.fn b,.fn b'=>WV (cds r b b') []
 |.fn b,.lit (.slice none 0 0)=>WV (isNil r b) []
 |_,_=>none
def ceR (bl:Nat->Bool) (r:Rm):List AC->List AC->Option (List Prop)
 |[],[]=>some []
 |c::cs,d::ds=>cbf (clI bl r c d) (ceR bl r cs ds)
 |_,_=>none
def clb (bl:Nat->Bool) (r:Rm):A1->A1->Option (List Prop)
 |.one c,.one d=>clI bl r c d
 |.agg cs,.agg ds=>ceR bl r cs ds
 |_,_=>none
def cdt (bl:Nat->Bool) (r:Rm):List A1->List A1->Option (List Prop)
 |[],[]=>some []
 |c::cs,d::ds=>cbf (clb bl r c d) (cdt bl r cs ds)
 |_,_=>none
def clU (bl:Nat->Bool) (r:Rm):AV->AV->Option (List Prop)
 |.val x,.val y=>clb bl r x y
 |.tup l,.tup m=>cdt bl r l m
 |_,_=>none
def Env.ren (e:Env) (r:Rm):Env where
 ρ:=fun b=>match find b r with
  |some (.old k)=>match e.al k with
   |true=>e.ρ k
   |false=>none
  |_=>none
 κ:=fun b=>match find b r with
  |some (.old k)=>e.κ k
  |_=>0
 ν:=fun b=>match find b r with
  |some (.old k)=>e.ν k
  |some (.frz k)=>match e.φ k with
   |some v=>some [v]
   |none=>none
  |_=>none
 φ:=fun b=>match find b r with
  |some (.old k)=>e.φ k
  |some .nil=>some (.slice none 0 0)
  |_=>none
 al:=fun b=>match find b r with
  |some (.old k)=>e.al k
  |_=>false
section
variable {e:Env}{r:Rm}{bl:Nat->Bool}
def cah (e:Env) (r:Rm):Prop:=∀ b k,find b r=some (.frz k)->∀ v,e.φ k=some v->v.oneCell'=true
def cet (e:Env) (bl:Nat->Bool):Prop:=∀ k,bl k=true->e.al k=true
theorem ren_ρ {b k:Nat}(hb:find b r=some (.old k)) (ha:e.al k=true):(e.ren r).ρ b=e.ρ k:=by
 simp only[Env.ren,hb,ha]
theorem ren_κ {b k:Nat}(hb:find b r=some (.old k)):(e.ren r).κ b=e.κ k:=by
 simp only[Env.ren,hb]
theorem cgO (ha:cet e bl) (hz:cah e r) {c d:AC}{l:List Prop}(h:clI bl r c d=some l) (ho:jC l) {v:Value}(hd:d.is e v):c.is (e.ren r) v:=by
 unfold clI at h;split at h
 ·injection h with h;subst h
  obtain rfl:=ho.1;exact hd
 ·split at h
  ·rename_i hs;obtain⟨h1,_⟩:=zu h;obtain⟨f,h2,h3,h4⟩:=hd;refine⟨f,?_,by rw[ct h1];exact h3,h4⟩;simp only[Env.ren,GP hs];exact h2
  ·cases h
 ·rename_i s b;obtain⟨h1,_⟩:=zu h;have hf:=cjJ h1;have hd:e.φ b=some v:=hd;refine⟨[v],?_,rfl,hz _ _ hf v hd⟩;simp only[Env.ren,hf,hd]
 ·obtain⟨h1,h2⟩:=zu h;subst h2;obtain⟨hb,h1⟩:=Uh h1;obtain⟨k,h3,h4⟩:=hd;exact⟨k,by rw[ren_ρ h1 (ha _ hb)];exact h3,by rw[h4,ho.1]⟩
 ·obtain⟨h1,h2⟩:=zu h;subst h2;obtain⟨hb,h1⟩:=Uh h1;obtain⟨k,h3,h4⟩:=hd;exact⟨k,by rw[ren_ρ h1 (ha _ hb)];exact h3,by rw[h4,ho.1,ho.2.1,ho.2.2.1]⟩
 ·obtain⟨h1,h2⟩:=zu h;subst h2;obtain⟨hb,h1⟩:=Uh h1;obtain⟨k,h3,h4⟩:=hd;exact⟨k,by rw[ren_ρ h1 (ha _ hb)];exact h3,by rw[ren_κ h1,h4,ho.1]⟩
 ·obtain⟨h1,_⟩:=zu h;show (e.ren r).φ _=some v;simp only[Env.ren,GP h1];exact hd
 ·obtain⟨h1,_⟩:=zu h;show (e.ren r).φ _=some v;simp only[Env.ren,cjM h1];rw[show v=_ from hd]
 ·cases h
theorem ccv (ha:cet e bl) (hz:cah e r):∀ {cs ds:List AC}{l:List Prop}{vs:List Value},ceR bl r cs ds=some l->jC l->cW e ds vs->cW (e.ren r) cs vs
 |[],[],l,vs,h,ho,hd=>hd
 |c::cs,d::ds,l,vs,h,ho,⟨v,ws,h1,h2,h3⟩=>by
  obtain⟨x,y,q1,q2,rfl⟩:=uo h;obtain⟨o1,o2⟩:=ho.append;exact⟨v,ws,h1,cgO ha hz q1 o1 h2,ccv ha hz q2 o2 h3⟩
 |[],_::_,l,vs,h,_,_=>by simp [ceR] at h
 |_::_,[],l,vs,h,_,_=>by simp [ceR] at h
theorem chy (ha:cet e bl) (hz:cah e r) {x y:A1}{l:List Prop}(h:clb bl r x y=some l) (ho:jC l) {v:Value}(hd:y.is e v):x.is (e.ren r) v:=by
 unfold clb at h;split at h
 ·exact cgO ha hz h ho hd
 ·obtain⟨vs,h1,h2⟩:=hd;exact⟨vs,ccv ha hz h ho h1,h2⟩
 ·cases h
theorem YP (ha:cet e bl) (hz:cah e r):∀ {cs ds:List A1}{l:List Prop}{vs:List Value},cdt bl r cs ds=some l->jC l->uq e ds vs->uq (e.ren r) cs vs
 |[],[],l,vs,h,ho,hd=>hd
 |c::cs,d::ds,l,vs,h,ho,⟨v,ws,h1,h2,h3⟩=>by
  obtain⟨x,y,q1,q2,rfl⟩:=uo h;obtain⟨o1,o2⟩:=ho.append;exact⟨v,ws,h1,chy ha hz q1 o1 h2,YP ha hz q2 o2 h3⟩
 |[],_::_,l,vs,h,_,_=>by simp [cdt] at h
 |_::_,[],l,vs,h,_,_=>by simp [cdt] at h
theorem coM (ha:cet e bl) (hz:cah e r) {x y:AV}{l:List Prop}(h:clU bl r x y=some l) (ho:jC l) {v:Value}(hd:y.is e v):x.is (e.ren r) v:=by
 unfold clU at h;split at h
 ·exact chy ha hz h ho hd
 ·obtain⟨vs,h1,h2⟩:=hd;exact⟨vs,YP ha hz h ho h1,h2⟩
 ·cases h
end
def jZ (C:Ctx D) (d d':D):Prop:=∀ w l,C.E d' w l->C.E d w l
def kG (C:Ctx D) (gs gs':List (Grp D)):Prop:=∀ w vs,cI C w gs' vs->cI C w gs vs
theorem jZ.refl (C:Ctx D) (d:D):jZ C d d:=fun _ _ h=>h
theorem kG.refl (C:Ctx D) (gs:List (Grp D)):kG C gs gs:=fun _ _ h=>h
def optEq:Option Nat->Option Nat->Bool
 |none,none=>true
 |some a,some b=>Nat.beq a b
 |_,_=>false
theorem coV {a b:Option Nat}(h:optEq a b=true):a=b:=by
 unfold optEq at h;split at h
 ·rfl
 ·rw[ct h]
 ·cases h
def obSub (C:Ctx D) (bl:Nat->Bool) (r:Rm):ES D->ES D->Option (List Prop)
 |.blk ty cs z,.blk ty' cs' z'=>match Nat.beq ty ty',optEq z z' with
  |true,true=>ceR bl r cs cs'
  |_,_=>none
 |.clo f p q,.clo f' p' q'=>match Nat.beq f f' with
  |true=>cbf (cdt bl r p p') (cdt bl r q q')
  |false=>none
 |.cls d,.cls d'=>some [jZ C d d']
 |.gl ty z n g,.gl ty' z' n' g'=>match Nat.beq ty ty',Nat.beq z z' with
  |true,true=>some [n=n',∀ j,j<n->kG C (g j) (g' j)]
  |_,_=>none
 |.cp l i z o,.cp l' i' z' o'=>match cds r l l' with
  |true=>WV (Nat.beq z z') [i=i',o=o']
  |false=>none
 |.dead,_=>some []
 |_,_=>none
def fitO (C:Ctx D) (r:Rm) (m:Ws D) (b:Nat) (o:ES D):Option (List Prop) :=
 match find b r with
 |some (.old k)=>match find k m with
  |some o'=>obSub C (clq m) r o o'
  |none=>none
 |some .nil=>match o with
  |.gl _ _ n _=>some [n=0]
  |_=>none
 |some (.frz k)=>match find k m with
  |some (.gl ty z n g)=>match o with
   |.cls d=>some [∀ w v,C.E (C.mkL ⟨C.lo,ty,z,n,g⟩) w [v]->C.E d w [v]]
   |_=>none
  |_=>none
 |none=>match o with
  |.dead=>some []
  |_=>none
def fitM (C:Ctx D) (r:Rm) (m:Ws D):Ws D->Option (List Prop)
 |[]=>some []
 |p::l=>cbf (fitO C r m p.1 p.2) (fitM C r m l)
def fitS (bl:Nat->Bool) (r:Rm) (sl:List (Nat×AV)):List (Nat×AV)->Option (List Prop)
 |[]=>some []
 |p::l=>match find p.1 sl with
  |some y=>cbf (clU bl r p.2 y) (fitS bl r sl l)
  |none=>none
def cft (n:Nat):Rm->Bool
 |[]=>true
 |p::l=>match Nat.blt p.1 n with
  |true=>cft n l
  |false=>false
def EC:Rm->List Nat
 |[]=>[]
 |(_,.old k)::l=>k::EC l
 |(_,.frz k)::l=>k::EC l
 |(_,.nil)::l=>EC l
def UJ:List Nat->Bool
 |[]=>true
 |k::l=>match memL k l with
  |true=>false
  |false=>UJ l
def frzB (m:Ws D):Rm->Bool
 |[]=>true
 |(_,.frz k)::l=>match find k m with
  |some (.gl ..)=>frzB m l
  |_=>false
 |_::l=>frzB m l
def pinB (C:Ctx D) (r:Rm):Bool:=match C.fr with
 |none=>true
 |some (_,_,b0,_)=>cds r b0 b0
def fit (C:Ctx D) (r:Rm) (st st':St D):Option (List Prop) :=
 match cft st'.nb r,UJ (EC r),frzB st.m r,pinB C r,st.ms,st'.ms with
 |true,true,true,true,[],[]=>cbf (fitM C r st.m st'.m) (fitS (clq st.m) r st.sl st'.sl)
 |_,_,_,_,_,_=>none
section
variable {C:Ctx D}{e:Env}{w:World}{r:Rm}{st st':St D}{nt:Nat}{a:Act}
theorem clp {m:Ws D}:∀ {l:Ws D}{ob:List Prop},fitM C r m l=some ob->jC ob->∀ b o,find b l=some o->∃ ob',fitO C r m b o=some ob'/\jC ob'
 |[],ob,h,ho,b,o,hb=>by simp [jj] at hb
 |p::l,ob,h,ho,b,o,hb=>by
  obtain⟨x,y,q1,q2,rfl⟩:=uo h;obtain⟨o1,o2⟩:=ho.append;rw[cS] at hb;split at hb
  ·rename_i hp;injection hb with hb;subst hb
   rw[← ct hp];exact⟨x,q1,o1⟩
  ·exact clp q2 o2 b o hb
theorem ckw {bl:Nat->Bool}{sl:List (Nat×AV)}:∀ {l:List (Nat×AV)}{ob:List Prop},fitS bl r sl l=some ob->jC ob->∀ t x,find t l=some x->∃ y ob',find t sl=some y/\clU bl r x y=some ob'/\jC ob'
 |[],ob,h,ho,b,o,hb=>by simp [jj] at hb
 |p::l,ob,h,ho,b,o,hb=>by
  unfold fitS at h;split at h
  rotate_left
  ·cases h
  rename_i y hy;obtain⟨x,z,q1,q2,rfl⟩:=uo h;obtain⟨o1,o2⟩:=ho.append;rw[cS] at hb;split at hb
  ·rename_i hp;injection hb with hb;subst hb
   rw[← ct hp];exact⟨y,x,hy,q1,o1⟩
  ·exact ckw q2 o2 b o hb
theorem ZT {k:Nat}:∀ {l:List Nat},k∈l->memL k l=true
 |b::l,h=>by
  unfold memL;split
  ·rfl
  ·rename_i hb;rcases List.mem_cons.1 h with rfl|h
   ·simp at hb
   ·exact ZT h
theorem Ka {b k:Nat}:∀ {r:Rm},(b,Rk.old k)∈r\/(b,Rk.frz k)∈r->k∈EC r
 |[],h=>by simp at h
 |(b',.old k')::l,h=>by
  simp only[uZ,cr,Rk.old.injEq,reduceCtorEq,and_false,false_or] at h;simp only[EC,uZ];rcases h with(⟨_,rfl⟩|h)|h
  ·exact .inl rfl
  ·exact .inr (Ka (.inl h))
  ·exact .inr (Ka (.inr h))
 |(b',.frz k')::l,h=>by
  simp only[uZ,cr,Rk.frz.injEq,reduceCtorEq,and_false,false_or] at h;simp only[EC,uZ];rcases h with h|(⟨_,rfl⟩|h)
  ·exact .inr (Ka (.inl h))
  ·exact .inl rfl
  ·exact .inr (Ka (.inr h))
 |(b',.nil)::l,h=>by
  simp only[uZ,cr,reduceCtorEq,and_false,false_or] at h;exact Ka (r:=l) h
theorem cdo {k:Nat}:∀ {r:Rm}{b b':Nat},UJ (EC r)=true->(find b r=some (.old k)\/find b r=some (.frz k))->(find b' r=some (.old k)\/find b' r=some (.frz k))->b=b'
 |[],b,b',_,h,_=>by simp [jj] at h
 |p::l,b,b',hn,h,h'=>by
  have hn':UJ (EC l)=true:=by
   obtain⟨x,y⟩:=p;cases y<;>simp only[EC] at hn
   ·unfold UJ at hn;split at hn
    ·cases hn
    ·exact hn
   ·exact hn
   ·unfold UJ at hn;split at hn
    ·cases hn
    ·exact hn
  have no:(p.2=.old k\/p.2=.frz k)->∀ b,¬ (find b l=some (.old k)\/find b l=some (.frz k)):=by
   intro hp b hb;have hm:k∈EC l:=Ka (b:=b) (hb.imp uV uV);obtain⟨x,y⟩:=p;rcases hp with hp|hp
   ·simp only at hp;subst hp;simp only[EC,UJ,ZT hm] at hn;cases hn
   ·simp only at hp;subst hp;simp only[EC,UJ,ZT hm] at hn;cases hn
  rw[cS] at h h';cases h1:Nat.beq p.1 b with
  |true =>
   cases h2:Nat.beq p.1 b' with
   |true=>rw[← ct h1,← ct h2]
   |false =>
    rw[h1] at h;rw[h2] at h';exact absurd h' (no (by simpa using h) b')
  |false =>
   cases h2:Nat.beq p.1 b' with
   |true =>
    rw[h1] at h;rw[h2] at h';exact absurd h (no (by simpa using h') b)
   |false =>
    rw[h1] at h;rw[h2] at h';exact cdo hn' h h'
theorem caB {n:Nat}:∀ {r:Rm}{b:Nat}{x:Rk},cft n r=true->find b r=some x->b<n
 |[],b,x,h,hb=>by simp [jj] at hb
 |p::l,b,x,h,hb=>by
  unfold cft at h;split at h
  ·rename_i hp;rw[cS] at hb;split at hb
   ·rename_i hpb;rw[← ct hpb];exact yf hp
   ·exact caB h hb
  ·cases h
theorem Wl {m:Ws D}:∀ {r:Rm}{b k:Nat},frzB m r=true->find b r=some (.frz k)->∃ ty z n g,find k m=some (.gl ty z n g)
 |[],b,k,h,hb=>by simp [jj] at hb
 |(x,y)::l,b,k,h,hb=>by
  rw[cS] at hb;split at hb
  ·injection hb with hb
   simp only at hb;subst hb;simp only[frzB] at h;split at h
   ·rename_i hg;exact⟨_,_,_,_,hg⟩
   ·cases h
  ·cases y<;>simp only[frzB] at h
   ·exact Wl h hb
   ·exact Wl h hb
   ·split at h
    ·exact Wl h hb
    ·cases h
theorem kG.rob {gs gs':List (Grp D)}{e':Env}{vs:List Value}(h:kG C gs gs') (hk:∀ w',uU e' w w'->uU e w w') (hr:JH C e w gs' vs):JH C e' w gs vs:=fun w' k=>h w' vs (hr w' (hk w' k))
theorem fit_is (hC:C.Ok) {ob:List Prop}(h:fit C r st st'=some ob) (ho:jC ob) (hA:At C nt st a w):At C nt st' a w:=by
 unfold fit at h;split at h
 rotate_left
 ·cases h
 rename_i hkl hnd hfz hpin hms hms';obtain⟨x,y,q1,q2,rfl⟩:=uo h;obtain⟨o1,o2⟩:=ho.append;obtain⟨⟨e,hg,hM,hV,hfr,rs,hdf,hmk⟩,hsz⟩:=hA;rw[hms] at hmk;have hF:cah e r:=by
  intro b k hb v hv;obtain⟨ty,z,n,g,hk⟩:=Wl hfz hb;obtain⟨v',h1,h2⟩:=hM _ _ hk;rw[hv] at h1;injection h1 with h1;subst h1
  rcases h2 with⟨_,rfl⟩|⟨_,_,_,_,_,_,_,rfl,_⟩<;>rfl
 have hρ:∀ b k,(e.ren r).ρ b=some k->∃ i,find b r=some (.old i)/\e.ρ i=some k/\e.al i=true:=by
  intro b k hb;simp only[Env.ren] at hb;split at hb
  ·rename_i i hi;split at hb
   ·rename_i ha;exact⟨i,hi,hb,ha⟩
   ·cases hb
  ·cases hb
 have hkeep:∀ w',uU (e.ren r) w w'->uU e w w':=by
  intro w' k;refine⟨k.size,fun j hj hn=>k.block j hj (fun b hb=>?_)⟩;obtain⟨i,_,h1,_⟩:=hρ b j hb;exact hn _ h1
 have hA0:cet e (clq st.m):=by
  intro k hk;unfold clq at hk;split at hk
  ·rename_i hb;obtain⟨_,_,_,_,_,h2,_⟩:=hM _ _ hb;exact h2
  ·cases hk
 have hal:∀ b,(e.ren r).al b=true->∃ i,find b r=some (.old i)/\e.al i=true:=by
  intro b hb;simp only[Env.ren] at hb;split at hb
  ·rename_i i hi;exact⟨i,hi,hb⟩
  ·cases hb
 have hgo:jm C (e.ren r) w:=by
  refine⟨hg.below,?_,?_,?_⟩
  rotate_left 2
  ·intro w1 k b0 v0 hf;obtain⟨h1,h2,h3,h4⟩:=hg.fr w1 k b0 v0 hf;unfold pinB at hpin;rw[hf] at hpin;refine⟨by simp only[Env.ren,GP hpin];exact h1,fun b j hb=>?_,h3,h4⟩;obtain⟨i,_,p2,_⟩:=hρ b j hb;exact h2 i j p2
  ·intro b b' k h1 h2 h3 h4;obtain⟨i,p1,p2⟩:=hal b h1;obtain⟨i',p3,p4⟩:=hal b' h2;obtain⟨j,p5,p6,_⟩:=hρ b k h3;obtain⟨j',p7,p8,_⟩:=hρ b' k h4;rw[p1] at p5;injection p5 with p5;injection p5 with p5;subst p5
   rw[p3] at p7;injection p7 with p7;injection p7 with p7;subst p7
   have:=hg.inj i i' k p2 p4 p6 p8;subst this;exact cdo hnd (.inl p1) (.inl p3)
  ·intro b k hb;obtain⟨i,_,p2,_⟩:=hρ b k hb;exact hg.own i k p2
 refine⟨⟨e.ren r,hgo,?_,?_,?_,[],by rw[hdf,show rs=[] from hmk],by rw[hms'];rfl⟩,hsz⟩
 ·intro b o hb;obtain⟨ob',h1,h2⟩:=clp q1 o1 b o hb;unfold fitO at h1;split at h1
  ·rename_i k hk;split at h1
   rotate_left
   ·cases h1
   rename_i o' ho';have hh:=hM k o' ho';unfold obSub at h1;split at h1
   ·rename_i ty cs z ty' cs' z';split at h1
    rotate_left
    ·cases h1
    rename_i ht hz;obtain rfl:=ct ht;obtain rfl:=coV hz;obtain⟨kk,arr,vs,rest,p1,p2,p3,p4,p5,p6⟩:=hh;refine⟨kk,arr,vs,rest,by rw[ren_ρ hk p2];exact p1,by simp only[Env.ren,hk];exact p2,p3,p4,ccv hA0 hF h1 h2 p5,?_⟩;cases z with
    |none=>exact p6
    |some z=>simp only[Env.ren,hk];exact p6
   ·rename_i f p q f' p' q';split at h1
    rotate_left
    ·cases h1
    rename_i hf;obtain rfl:=ct hf;obtain⟨x1,y1,r1,r2,rfl⟩:=uo h1;obtain⟨t1,t2⟩:=h2.append;obtain⟨us,vs,p1,p2,p3⟩:=hh;exact⟨us,vs,by simp only[Env.ren,hk];exact p1,YP hA0 hF r1 t1 p2,YP hA0 hF r2 t2 p3⟩
   ·rename_i d d';injection h1 with h1;subst h1
    obtain⟨f,p1,p2⟩:=hh;exact⟨f,by simp only[Env.ren,hk];exact p1,fun w' kk=>h2.1 w' f (p2 w' (hkeep w' kk))⟩
   ·rename_i ty z n g ty' z' n' g';split at h1
    rotate_left
    ·cases h1
    rename_i ht hz;obtain rfl:=ct ht;obtain rfl:=ct hz;injection h1 with h1;subst h1
    obtain⟨hn,hgg,_⟩:=h2;have hn:n=n':=hn;subst hn;obtain⟨v,p1,p2⟩:=hh;refine⟨v,by simp only[Env.ren,hk];exact p1,p2.imp id ?_⟩;rintro⟨kk,c,arr,vs,rest,p3,p4,p5,p6,p7,p8,p9,p10,p11,p12⟩;exact⟨kk,c,arr,vs,rest,by rw[ren_ρ hk p4];exact p3,by simp only[Env.ren,hk];exact p4,p5,p6,p7,p8,p9,p10,p11,fun j hj=>kG.rob (hgg j hj) hkeep (p12 j hj)⟩
   ·rename_i l i z o l' i' z' o';split at h1
    rotate_left
    ·cases h1
    rename_i hl;obtain⟨hz,h1⟩:=zu h1;subst h1;obtain rfl:=ct hz;obtain⟨kk,p,n,c,p1,p2⟩:=hh;refine⟨kk,p,n,c,?_,?_⟩
    ·simp only[Env.ren,GP hl];exact p1
    ·simp only[Env.ren,hk];rw[p2,h2.1,h2.2.1]
   ·trivial
   ·cases h1
  ·rename_i hk;split at h1
   ·injection h1 with h1;subst h1
    exact⟨_,by simp only[Env.ren,hk],.inl ⟨h2.1,rfl⟩⟩
   ·cases h1
  ·rename_i k hk;split at h1
   rotate_left
   ·cases h1
   rename_i ty z n g hgl;split at h1
   rotate_left
   ·cases h1
   rename_i d;injection h1 with h1;subst h1
   obtain⟨hd,_⟩:=h2;obtain⟨v,p1,p2⟩:=hM _ _ hgl;refine⟨[v],by simp only[Env.ren,hk,p1],fun w' kw=>hd w' v (hC.lists _ _ _ ?_)⟩;rcases p2 with p2|⟨kk,c,arr,vs,rest,p3,p4,p5,p6,p7,p8,p9,p10,p11,p12⟩
   ·exact .inl ⟨p2.1,none,p2.2⟩
   ·refine .inr ⟨kk,0,c,arr,[],vs,rest,p5,p10,?_,by simpa using p7,rfl,p8,cB hC.los (hg.own _ _ p3).1,p11,fun j hj=>(p12 j hj) w' (hkeep w' kw)⟩;rw[kw.block kk (Array.getElem?_eq_some_iff.1 p6).1 (fun b' hb'=>?_)]
    ·exact⟨_,p6⟩
    ·obtain⟨i,s1,s2,s3⟩:=hρ b' kk hb';have:=hg.inj i k kk s3 p4 s2 p3;subst this;have:=cdo hnd (.inl s1) (.inr hk);subst this;rw[s1] at hk;cases hk
  ·rename_i hk;split at h1
   ·trivial
   ·cases h1
 ·intro t x hx;obtain⟨y,ob',h1,h2,h3⟩:=ckw q2 o2 t x hx;obtain⟨v,h4,h5⟩:=hV t y h1;exact⟨v,h4,coM hA0 hF h2 h3 h5⟩
 ·intro b hb;have hn:find b r=none:=by
   cases hx:find b r with
   |none=>rfl
   |some y=>have:=caB hkl hx;omega
  simp only[Env.ren,hn];exact⟨trivial,trivial,trivial⟩
end
variable {D:Type}
def pairC:AC->AC->Rm
 |.sym s _,.sym s' _=>[(s,.old s')]
 |.sym s _,.fn b=>[(s,.frz b)]
 |.ptr b _,.ptr b' _=>[(b,.old b')]
 |.slc b _ _ _,.slc b' _ _ _=>[(b,.old b')]
 |.gsl b _,.gsl b' _=>[(b,.old b')]
 |.fn b,.fn b'=>[(b,.old b')]
 |.fn b,.lit _=>[(b,.nil)]
 |_,_=>[]
def ciZ:List AC->List AC->Rm
 |c::cs,d::ds=>pairC c d++ciZ cs ds
 |_,_=>[]
def pair1:A1->A1->Rm
 |.one c,.one d=>pairC c d
 |.agg cs,.agg ds=>ciZ cs ds
 |_,_=>[]
def ceW:List A1->List A1->Rm
 |c::cs,d::ds=>pair1 c d++ceW cs ds
 |_,_=>[]
def pairV:AV->AV->Rm
 |.val x,.val y=>pair1 x y
 |.tup l,.tup m=>ceW l m
 |_,_=>[]
def pairO:Option (ES D)->Option (ES D)->Rm
 |some (.blk _ cs _),some (.blk _ ds _)=>ciZ cs ds
 |some (.clo _ p q),some (.clo _ p' q')=>ceW p p'++ceW q q'
 |some (.cp s _ _ _),some (.cp s' _ _ _)=>[(s,.old s')]
 |_,_=>[]
def discS (sl:List (Nat×AV)):List (Nat×AV)->Rm
 |[]=>[]
 |p::l=>match find p.1 sl with
  |some y=>pairV p.2 y++discS sl l
  |none=>discS sl l
def ckC (m m':Ws D):Nat->Rm->Rm->Rm
 |0,_,r=>r
 |_+1,[],r=>r
 |n+1,p::q,r=>match memN p.1 r with
  |true=>ckC m m' n q r
  |false=>match p.2 with
   |.old k=>ckC m m' n (pairO (find p.1 m') (find k m)++q) (p::r)
   |_=>ckC m m' n q (p::r)
def disc (st st':St D):Rm:=ckC st.m st'.m 1000 (discS st.sl st'.sl) []
def fitTo (C:Ctx D) (st st':St D):Option (List Prop):=fit C (disc st st') st st'
def segTo (C:Ctx D) (TT:FuncId->Tab D) (CF YF:cH D) (nt:Nat) (fid:FuncId) (inR:Bool) (n:Nat) (c:Code) (st st':St D):Option (Xt×List Prop) :=
 match zY C.toStat TT CF YF nt (fun b=>find b st.m) fid inR n c ⟨st.nb,st.sl,[],st.ms⟩ with
 |some (x,s1,ob)=>match fitTo C (st.join s1) st' with
  |some ob2=>some (x,ob++ob2)
  |none=>none
 |none=>none
section
variable {F:Fence}{m:Nat}{C:Ctx D}{TT:FuncId->Tab D}{nt:Nat}{fid:FuncId}{inR:Bool}{Q:Exit->Act->World->Prop}{a:Act}{w:World}{st st':St D}
theorem cou (hC:C.Ok) {ob:List Prop}(h:fitTo C st st'=some ob) (ho:jC ob) (hA:At C nt st a w):At C nt st' a w:=fit_is hC h ho hA
structure CB (C:Ctx D) (TT:FuncId->Tab D):Prop where
 ok:C.Ok
 name : ∀ (f : Nat) (fn : Func), C.P.funcs[f]? = some fn → (fn.name == "runtime.NumGoroutine") = false
 tab:∀ f,(TT f).Ok C
def Ret (C:Ctx D) (fn:Func) (R:Value->World->Prop):Exit->Act->World->Prop:=fun x a w=>(x=.ret\/x=.normal)/\a.defers=[]/\∃ v,(results fn a.tmps).run C.P w=.ok v w/\R v w
abbrev env0:Env:=⟨fun _=>none,fun _=>0,fun _=>none,fun _=>none,fun _=>false⟩
theorem cmW (hR:CB C TT) {f:FuncId}{fn:Func}{c:Code}(hfn:C.P.funcs[f]?=some fn) (hbody:fn.body=some c) {xs:List AV}{ws:Ws D}{n0:Nat}(hlen:xs.length<=fn.ntmps) {vs:List Value}{e:Env}{w1:World}(hg:jm C e w1) (hM:jk C e w1 (fun b=>find b ws)) (hva:yy e xs vs) (hfr:∀ b,n0<=b->e.ρ b=none/\e.ν b=none/\e.φ b=none)
 {R:Value->World->Prop} (hwp:∀ a,At C fn.ntmps ⟨n0,Je 0 xs,ws,[]⟩ a w1->c.wpIn Fence.wide 0 C.P (Ret C fn R) a w1) :
 Enters C.P f/\Calls C.P f vs.toArray w1 (fun en w'=>∃ v,en=.returned v/\R v w'):=by
 refine⟨jg hfn (hR.name f fn hfn) hbody,?_⟩;have hvl:=hva.length;refine(callsIn_wide (n:=0)).1 (ciI hfn hbody trivial (EE (hwp _ ⟨⟨e,hg,hM,?_,hfr,[],rfl,rfl⟩,?_⟩) ?_))
 ·intro tt x hx;obtain⟨i,h1,h2⟩:=Ud hx;obtain⟨v,h3,h4⟩:=hva.get i x h1;refine⟨v,?_,h4⟩;have hil:i<vs.length:=(List.getElem?_eq_some_iff.1 h3).1;rw[h2,jc];show (vs.toArray++Array.replicate (fn.ntmps-vs.toArray.size) undef)[i]?=some v;rw[ckz (by simpa using hil)];simpa using h3
 ·simp only[cbV,Eb,cfd];omega
 ·rintro ex a' w' ⟨hx,hdf,v,h1,h2⟩;have:LeavesInM Fence.wide 0 C.P fn a'.tmps (fun en w'=>∃ v,en=.returned v/\R v w') a'.defers .returning w':=by
   rw[hdf];exact⟨v,h1,v,rfl,h2⟩
  rcases hx with rfl|rfl
  ·exact this
  ·exact this
theorem CW (hR:CB C TT) {f:FuncId}{fn:Func}{c:Code}(hfn:C.P.funcs[f]?=some fn) (hbody:fn.body=some c) {ps:List (Pat D)}{xs:List A1}{ws:Ws D}{n0:Nat}(hm:En C.csz 0 ps=some (xs,ws,n0)) (hlen:Nat.ble (uA xs).length fn.ntmps=true) {vs:List Value}
 (hp:Zt (fun d f=>∀ w',uU env0 C.w0 w'->C.E d w' f) C.csz ps vs) {R:Value->World->Prop} (hwp:∀ a,At C fn.ntmps ⟨n0,Je 0 (uA xs),ws,[]⟩ a C.w0->c.wpIn Fence.wide 0 C.P (Ret C fn R) a C.w0) (hfr:C.fr=none:=by rfl) :
 Enters C.P f/\Calls C.P f vs.toArray C.w0 (fun en w'=>∃ v,en=.returned v/\R v w'):=by
 obtain⟨e,gr,hx⟩:=Ju hm (cb _) (e:=env0) (fun _ _ _=>rfl) hp;have hρ:∀ b,e.ρ b=none:=fun b=>by rw[gr.ρ]
 have hφ:∀ b,e.φ b=none:=fun b=>by rw[gr.φ]
 refine cmW hR hfn hbody (jl hlen) ⟨cu _ _,fun b b' k _ _ h=>(by rw[hρ] at h;cases h),fun b k h=>(by rw[hρ] at h;cases h),FrOk.none hfr⟩ ?_ (zA hx) (fun b hb=>⟨hρ b,?_,hφ b⟩) hwp
 ·intro b o ho;obtain⟨_,d,rfl,f,h1,h2⟩:=gr.live b o (uV ho);exact⟨f,h1,fun w' hk=>h2 w' ⟨hk.size,fun k h3 _=>hk.block k h3 (fun b=>by rw[hρ];simp)⟩⟩
 ·cases hc:e.ν b with
  |none=>rfl
  |some y =>
   rcases gr.ν b y hc with h|h
   ·cases h
   ·have hb:n0<=b:=hb;omega
def Ec:List (Grp D)->List D
 |[]=>[]
 |.lit _::l=>Ec l
 |.cls d::l=>d::Ec l
def patDs:Pat D->List D
 |.one g=>Ec [g]
 |.agg gs=>Ec gs
 |.slc _ _ gs=>Ec gs
 |.cap _ _ _ gs=>Ec gs
def cbW:List (Pat D)->List D
 |[]=>[]
 |p::l=>patDs p++cbW l
def kS (C:Ctx D) (d:D):Prop:=∀ w w' f,C.E d w f->w.heap.size<=w'.heap.size->(∀ k o,w.heap[k]?=some o->(C.w0.heap.size<=k\/¬ CA C o)->w'.heap[k]?=some o)->C.E d w' f
def noSlc:Pat D->Bool
 |.slc ..=>false
 |.cap ..=>false
 |_=>true
def Um:List (Pat D)->Bool
 |[]=>true
 |p::l=>match noSlc p with
  |true=>Um l
  |false=>false
theorem WM {w w':World}(hs:w.heap.size<=w'.heap.size) (hk:∀ k o,w.heap[k]?=some o->(C.w0.heap.size<=k\/¬ CA C o)->w'.heap[k]?=some o):∀ {gs:List (Grp D)}{vs:List Value},(∀ d∈Ec gs,kS C d)->cI C w gs vs->cI C w' gs vs
 |[],vs,_,h=>h
 |.lit v::gs,vs,hd,h=>⟨h.1,WM hs hk hd h.2⟩
 |.cls d::gs,vs,hd,h=>⟨hd d (by simp [Ec]) w w' _ h.1 hs hk,WM hs hk (fun x hx=>hd x (by simp [Ec,hx])) h.2⟩
theorem cnH {w w':World}(hs:w.heap.size<=w'.heap.size) (hk:∀ k o,w.heap[k]?=some o->(C.w0.heap.size<=k\/¬ CA C o)->w'.heap[k]?=some o) {p:Pat D}{v:Value}(hn:noSlc p=true) (hd:∀ d∈patDs p,kS C d) (h:p.is C w v):p.is C w' v:=by
 cases p with
 |one g =>
  cases g with
  |lit x=>exact h
  |cls d=>exact hd d (by simp [patDs,Ec]) w w' _ h hs hk
 |agg gs =>
  obtain⟨vs,h1,h2⟩:=h;exact⟨vs,WM hs hk hd h1,h2⟩
 |slc t n gs=>cases hn
 |cap f ty z gs=>cases hn
theorem ceQ {w w':World}(hs:w.heap.size<=w'.heap.size) (hk:∀ k o,w.heap[k]?=some o->(C.w0.heap.size<=k\/¬ CA C o)->w'.heap[k]?=some o):∀ {ps:List (Pat D)}{vs:List Value},Um ps=true->(∀ d∈cbW ps,kS C d)->jf C w ps vs->jf C w' ps vs
 |[],vs,_,_,h=>h
 |p::ps,vs,hn,hd,⟨v,ws,h1,h2,h3⟩=>by
  unfold Um at hn;split at hn
  ·rename_i h0;exact⟨v,ws,h1,cnH hs hk h0 (fun d hx=>hd d (by simp [cbW,hx])) h2,ceQ hs hk hn (fun d hx=>hd d (by simp [cbW,hx])) h3⟩
  ·cases hn
def readR (S:Stat D) (M:cL D) (l:List A1):Option (List (Pat D)):=Ys S M (uA l)
def KK:List (Pat D)->jy D
 |[p]=>.val p
 |l=>.tup l
def JT (C:Ctx D):List (Grp D)->List (Grp D)->Option (List Prop)
 |[],[]=>some []
 |.lit v::l,.lit v'::l'=>cbf (some [v=v']) (JT C l l')
 |.cls d::l,.cls d'::l'=>match Nat.beq (C.csz d) (C.csz d') with
  |true=>cbf (some [jZ C d d']) (JT C l l')
  |false=>none
 |_,_=>none
def cjI (C:Ctx D):Pat D->Pat D->Option (List Prop)
 |.one g,.one g'=>match JT C [g] [g'] with
  |some ob=>some ob
  |none=>match g,g' with
   |.cls d,.lit v=>match Nat.beq (C.csz d) 1 with
    |true=>some [kG C [.cls d] [.lit v]]
    |false=>none
   |_,_=>none
 |.agg gs,.agg gs'=>match JT C gs gs' with
  |some ob=>some ob
  |none=>some [kG C gs gs']
 |_,_=>none
def yj (C:Ctx D):List (Pat D)->List (Pat D)->Option (List Prop)
 |[],[]=>some []
 |p::l,p'::l'=>cbf (cjI C p p') (yj C l l')
 |_,_=>none
theorem YT:∀ {gs gs':List (Grp D)}{ob:List Prop}{vs:List Value},JT C gs gs'=some ob->jC ob->cI C w gs' vs->cI C w gs vs
 |[],[],ob,vs,h,ho,hv=>hv
 |.lit v::l,.lit v'::l',ob,vs,h,ho,hv=>by
  obtain⟨x,y,q1,q2,rfl⟩:=uo h;obtain⟨o1,o2⟩:=ho.append;injection q1 with q1;subst q1
  refine⟨?_,YT q2 o2 hv.2⟩;rw[o1.1];exact hv.1
 |.cls d::l,.cls d'::l',ob,vs,h,ho,hv=>by
  unfold JT at h;split at h
  ·rename_i hz;have hz:=ct hz;obtain⟨x,y,q1,q2,rfl⟩:=uo h;obtain⟨o1,o2⟩:=ho.append;injection q1 with q1;subst q1
   refine⟨?_,YT q2 o2 ?_⟩
   ·show C.E d w (vs.take (C.csz d));rw[hz];exact o1.1 w _ hv.1
   ·show cI C w l' (vs.drop (C.csz d));rw[hz];exact hv.2
  ·cases h
 |[],_::_,ob,vs,h,_,_=>by simp [JT] at h
 |.lit _::_,[],ob,vs,h,_,_=>by simp [JT] at h
 |.cls _::_,[],ob,vs,h,_,_=>by simp [JT] at h
 |.lit _::_,.cls _::_,ob,vs,h,_,_=>by simp [JT] at h
 |.cls _::_,.lit _::_,ob,vs,h,_,_=>by simp [JT] at h
theorem cnv (hC:C.Ok) {p p':Pat D}{ob:List Prop}{v:Value}(h:cjI C p p'=some ob) (ho:jC ob) (hv:p'.is C w v):p.is C w v:=by
 unfold cjI at h;split at h
 ·rename_i g g';split at h
  rotate_left
  ·split at h
   ·rename_i d x _;split at h
    ·rename_i hz;have hz:=ct hz;injection h with h;subst h
     have h1:=(ho.1 w [v] (Uk hC hv)).1;have h1:C.E d w ([v].take (C.csz d)):=h1;rw[hz] at h1;exact h1
    ·cases h
   ·cases h
  rename_i ob' h';injection h with h;subst h
  have:=YT h' ho (Uk hC hv);have h1:=cgi hC this.1;have:g.is C w ([v].take (g.n C.csz)):=this.1
  rwa [ku] at this
  rw[cU] at h1;cases g with
  |lit x=>simp [Grp.n]
  |cls d =>
   cases g' with
   |lit x=>simp [JT] at h'
   |cls d' =>
    unfold JT at h';split at h'
    ·rename_i hz;have hz:=ct hz;have hl:=hC.len _ _ _ (show C.E d' w [v] from hv);show 1<=C.csz d;rw[hz,← hl];simp
    ·cases h'
 ·obtain⟨vs,h1,h2⟩:=hv;split at h
  ·rename_i h3;injection h with h;subst h
   exact⟨vs,YT h3 ho h1,h2⟩
  ·injection h with h;subst h
   exact⟨vs,ho.1 _ _ h1,h2⟩
 ·cases h
theorem zp (hC:C.Ok):∀ {ps ps':List (Pat D)}{ob:List Prop}{vs:List Value},yj C ps ps'=some ob->jC ob->jf C w ps' vs->jf C w ps vs
 |[],[],ob,vs,h,ho,hv=>hv
 |p::l,p'::l',ob,vs,h,ho,⟨v,ws,h1,h2,h3⟩=>by
  obtain⟨x,y,q1,q2,rfl⟩:=uo h;obtain⟨o1,o2⟩:=ho.append;exact⟨v,ws,h1,cnv hC q1 o1 h2,zp hC q2 o2 h3⟩
 |[],_::_,ob,vs,h,_,_=>by simp [yj] at h
 |_::_,[],ob,vs,h,_,_=>by simp [yj] at h
def Res (C:Ctx D) (ps:List (Pat D)):Value->World->Prop:=fun v w=>Below C.w0.heap.size C.w0 w/\cbd C C.w0 w (KK ps) v
def clk (C:Ctx D) (rs:List ResultVar) (st:St D) (ps:List (Pat D)):Option (List Prop) :=
 match st.ms,cba C.P (fun t=>find t st.sl) (fun b=>find b st.m) rs with
 |[],some xs=>match readR C.toStat (fun b=>find b st.m) xs with
  |some ps'=>match Um ps with
   |true=>cbf (yj C ps ps') (some ((cbW ps).map (kS C)))
   |false=>none
  |none=>none
 |_,_=>none
theorem cgQ {p:D->Prop}:∀ {l:List D},jC (l.map p)->∀ d∈l,p d
 |[],_,d,hd=>by simp at hd
 |x::l,h,d,hd=>by
  rcases List.mem_cons.1 hd with rfl|hd
  ·exact h.1
  ·exact cgQ h.2 d hd
theorem ret_at (hC:C.Ok) {fn:Func}{ps:List (Pat D)}{ob:List Prop}(h:clk C fn.results.toList st ps=some ob) (ho:jC ob) (hA:At C nt st a w) {x:Exit}(hx:x=.ret\/x=.normal):Ret C fn (Res C ps) x a w:=by
 unfold clk at h;split at h
 rotate_left
 ·cases h
 rename_i xs hms hres;split at h
 rotate_left
 ·cases h
 rename_i ps' hrd;split at h
 rotate_left
 ·cases h
 rename_i hn;obtain⟨x1,y1,q1,q2,rfl⟩:=uo h;obtain⟨o1,o2⟩:=ho.append;injection q2 with q2;subst q2
 obtain⟨⟨e,hg,hM,hV,_,rs,hdf,hmk⟩,hsz⟩:=hA;rw[hms] at hmk;obtain⟨us,h3,h4⟩:=Wq hV hM hres;refine⟨hx,by rw[hdf,show rs=[] from hmk];rfl,?_⟩;have h5:(results fn a.tmps).run C.P w=.ok (if h:us.toArray.size=1 then us.toArray[0] else .tuple us.toArray) w:=by
  rw[zk,cbH];simp only[jd,Sem.run_map,h3,jA];rfl
 refine⟨_,h5,hg.below,?_⟩;have hps:=zp hC q1 o1 (WI hC hg hM hrd (zA h4));intro S hS w'' hw hk;have hps:=ceQ hw (fun k o hko hor=>by
  rw[hk k (Array.getElem?_eq_some_iff.1 hko).1 (fun hs=>?_)]
  ·exact hko
  ·obtain⟨s1,o',s2,s3⟩:=hS k hs;rw[hko] at s2;injection s2 with s2;subst s2
   rcases hor with h|h
   ·omega
   ·exact h s3) hn (cgQ o2) hps
 unfold KK;split
 ·rename_i p;obtain⟨v,ws,rfl,r1,r2⟩:=hps;rw[show ws=[] from r2];exact r1
 ·rename_i hne;have hl:us.toArray.size≠1:=by
   intro h1;have h1:us.length=1:=by simpa using h1
   match us,h1,hps with
   |[u],_,hps =>
    match ps,hne,hps with
    |[],_,hps=>cases hps
    |[p],hne,_=>exact hne p rfl
    |p::q::l,_,⟨_,_,e1,_,_,_,e2,_⟩=>injection e1 with _ e1;rw[e2] at e1;cases e1
  rw[dif_neg hl];exact⟨us,hps,rfl⟩
end
end Pe
end Go.Proofs.YtgdnkbajagfijaaGreatDoor
