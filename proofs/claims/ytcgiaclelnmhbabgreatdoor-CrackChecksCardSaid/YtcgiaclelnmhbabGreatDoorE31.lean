/- Part 31. -/
import Derived.Test.YtcgiaclelnmhbabGreatDoorE29
import Derived.Test.YtcgiaclelnmhbabGreatDoorE30
set_option linter.all false
noncomputable section

namespace Go.Proofs.YtcgiaclelnmhbabGreatDoor
open Go Go.RowKit Go.Proofs
namespace Pe
variable {D:Type}
section
variable {C:Ctx D}{e:Env}{w:World}{b:Nat}{f':Option Frm}
theorem cca:∀ {o:kU D},cjg { C with fr:=f' } e w b o↔cjg C e w b o
 |.blk ..=>Iff.rfl
 |.clo ..=>Iff.rfl
 |.cls _=>Iff.rfl
 |.loop ..=>Iff.rfl
 |.mark=>Iff.rfl
 |.gl ..=>by simp only[cjg,Cd,Cm]
 |.ep ..=>Iff.rfl
 |.cp ..=>Iff.rfl
 |.es ..=>Iff.rfl
 |.mp ..=>Iff.rfl
 |.mf ..=>Iff.rfl
 |.dead=>Iff.rfl
theorem ccy {M:ct D}:cA { C with fr:=f' } e w M↔cA C e w M :=
 ⟨fun h b o ho=>cca.1 (h b o ho),fun h b o ho=>cca.2 (h b o ho)⟩
abbrev frP (w1:World) (e:Env) (b0:Nat) (v0:Value) (pr:List Nat):Frm:=⟨w1,⟨fun b=>match UY b pr with
 |true=>e.ρ b
 |false=>none,fun _=>0,fun _=>none,fun b=>if b=b0 then some v0 else none,fun _=>false,e.ot⟩,fun j=>∃ b,e.ρ b=some j,[b0],pr⟩
theorem cbY {k:Nat}:∀ {l:List Nat},UY k l=true->k∈l
 |[],h=>by cases h
 |b::l,h=>by
  unfold UY at h;split at h
  ·rename_i hb;rw[cn hb];simp
  ·exact zG _ (cbY h)
theorem frP_ok (hg:Kv C e w) {b0:Nat}{v0:Value}(h0:e.φ b0=some v0) {pr:List Nat}:Kv { C with fr:=some (frP w e b0 v0 pr) } e w:=by
 refine⟨hg.below,hg.inj,hg.own,hg.fr.1,fun F hF=>?_⟩;injection hF with hF;subst hF
 refine⟨fun b v hb=>?_,fun b v hb=>(by cases hb),fun b k hb=>?_,fun b j hb=>.inl ⟨b,hb⟩,cb _,fun _ _ _=>rfl⟩
 ·by_cases hbb:b=b0
  ·subst hbb;simp only[cq] at hb;injection hb with hb;subst hb
   exact⟨by simp,h0⟩
  ·simp [hbb] at hb
 simp only at hb;split at hb
 ·rename_i hm;exact⟨cbY hm,hb⟩
 ·cases hb
def Jm.exitX:Jm->Exit
 |.ret=>.ret
 |.exit id=>.exit id
def LsQ (Q:Exit->Act->World->Prop) (a:Act) (w:World):Ls->Prop
 |.ready=>Q .normal a w
 |.busy=>False
 |.done j=>Q j.exitX a w
end
section
variable {C:Ctx D}{TT:FuncId->Tab D}{nt:Nat}{fid:FuncId}{Q:Exit->Act->World->Prop}{a:Act}{w:World}{st:St D}
theorem chD (hR:yD C TT) (hn:C.fr=none) {g:Operand}{ps:Array Nat}{assign body:Code}{f:FuncId}{fn:Func}{c:Code}(hfn:C.P.funcs[f]?=some fn) (hbody:fn.body=some c) (hres:fn.results=#[]) {pre cap:List A1}
 (hcl:(CV (fun t=>find t st.sl) g=some (.val (.one (.lit (.func (.func f) #[] #[]))))/\pre=[]/\cap=[])\/∃ k,CV (fun t=>find t st.sl) g=some (.val (.one (.fn k)))/\find k st.m=some (.clo f pre cap))
 (hlen:Nat.ble (jU pre++([AV.val (.one (.yld (st.nb+1)))]++jU cap)).length fn.ntmps=true) (hA:At C nt st a w)
 (hwp:∀ (F:Frm),F.pf=[st.nb+1]->F.pr=(st.nb+1)::st.nb::st.ms->∀ a' w',At { C with fr:=some F } fn.ntmps ⟨st.nb+2,zX 0 (jU pre++([.val (.one (.yld (st.nb+1)))]++jU cap)),(st.nb+1,.loop nt st.sl ps.toList fid assign body .ready)::(st.nb,.mark)::st.m,[]⟩ a' w'->
  c.wpIn Fence.wide 0 C.P (fun x a2 w2=>(x=.ret\/x=.normal)/\∃ (st2:St D) (sl2:List (Nat×AV)) (ps2:List Nat) (fid2:FuncId) (as2 bd2:Code) (ls:Ls),st2.ms=[]/\At { C with fr:=some F } fn.ntmps st2 a2 w2/\find (st.nb+1) st2.m=some (.loop nt sl2 ps2 fid2 as2 bd2 ls)/\
   ∀ a3 w3,At C nt ⟨st2.nb,sl2,(st.nb+1,.dead)::st2.m,st.nb::st.ms⟩ a3 w3->LsQ Q a3 w3 ls) a' w') :
 (Code.rangeFunc g ps assign body).wpIn Fence.wide 0 C.P Q a w:=by
 obtain⟨⟨e,hg,hM,hV,hfr,rs,hdf,hmk⟩,hsz⟩:=hA;have hpq:∃ p q,a.eval g=.func (.func f) p.toArray q.toArray/\ke e pre p/\ke e cap q:=by
  rcases hcl with⟨h1,rfl,rfl⟩|⟨k,h1,h2⟩
  ·exact⟨[],[],cM hV h1,rfl,rfl⟩
  ·obtain⟨p,q,h3,h4,h5⟩:=hM _ _ h2;have h6:e.φ k=some (a.eval g):=cM hV h1;rw[h6] at h3;injection h3 with h3
   exact⟨p,q,h3,h4,h5⟩
 obtain⟨p,q,hg0,hp,hq⟩:=hpq;refine wpIn_rangeFunc (fun fn' _=>?_)
 let W1:World:=w.alloc (.deferred (some []))
 let R:Loop:={ state:=.ready,pending:=none,fn:=fn',tmps:=a.tmps,params:=ps,assign,body,defers:=w.heap.size }
 let W2:World:=W1.alloc (.loop R)
 have hs1:W1.heap.size=w.heap.size+1:=by show (w.heap.push _).size=_;simp
 have hk1:W1.heap[w.heap.size]?=some (.deferred (some [])):=by show (w.heap.push _)[w.heap.size]?=_;simp
 have hF:∀ n1,jC st.nb n1 e:=fun n1 b h1 _=>hfr b h1;obtain⟨e1,hL1,hρ1⟩:=ZL (ob:=.mark) hg (hF _) ((cF _ w).alloc (cb _) _) (cb _) hk1 (.inr (.inr (.inl ⟨_,rfl⟩))) (fun e' _ h1 h2=>⟨_,h1,h2,hk1⟩);have hk2:W2.heap[W1.heap.size]?=some (.loop R):=by show (W1.heap.push _)[W1.heap.size]?=_;simp
 obtain⟨e2,hL2,hφ2,hρ2⟩:=Jx (v:=.agg a.tmps) (ob:=.loop nt st.sl ps.toList fid assign body .ready) hL1.good ((hF (st.nb+1+1)).new (hL1.new.mono (cb _) (cb _)) (by omega)) ((cF _ W1).alloc (cb _) _) (cb _) hk2 (.inr (.inl ⟨_,rfl⟩)) (fun e' hx h1 h2 h3=>⟨_,R,h1,h2,hk2,h3,(by simp [R]),rfl,rfl,hsz,fun tt y hy=>(by
  obtain⟨v,q1,q2⟩:=hV tt y hy;exact⟨v,q1,(q2.ext hL1.adv.ext).ext hx.ext⟩),rfl,rfl⟩)
 have hLL:=(((jM.refl hg st.nb).trans hL1).trans hL2);have hext:Ext e e2:=hL1.adv.ext.trans hL2.adv.ext;have hM2:cA C e2 W2 (fun b=>find b ((st.nb+1,kU.loop nt st.sl ps.toList fid assign body .ready)::(st.nb,.mark)::st.m)):=fun b o ho=>kn hM hLL b o (by rw[GT];exact ho);have hfree2:∀ b,st.nb+2<=b->e2.ρ b=none/\e2.ν b=none/\e2.φ b=none:=fun b hb=>(((hF (b+1)).new (hLL.new.mono (cb _) (cb _)) (by omega:st.nb<=st.nb+2))) b hb (ux b);have hyld:(AV.val (.one (.yld (st.nb+1)))).is e2 (.func (.yield W1.heap.size) #[] #[]):=⟨_,hρ2,rfl⟩;have hargs:kv e2 (jU pre++([.val (.one (.yld (st.nb+1)))]++jU cap)) (p++([.func (.yield W1.heap.size) #[] #[]]++q)) :=
  (ub (hp.ext hext)).append (kv.append (cs:=[_]) (vs:=[_]) ⟨_,_,rfl,hyld,rfl⟩ (ub (hq.ext hext)))
 let pr:List Nat:=(st.nb+1)::st.nb::st.ms
 obtain⟨hen,hcalls⟩:=ZI (C:={ C with fr:=some (frP W2 e2 (st.nb+1) (.agg a.tmps) pr) }) (Cw hR) hfn hbody (jh hlen) (frP_ok hLL.good hφ2) (ccy.2 hM2) hargs hfree2
  (R:=fun v w3=>v=.tuple #[]/\∃ (e3:Env) (st2:St D) (sl2:List (Nat×AV)) (ps2:List Nat) (fid2:FuncId) (as2 bd2:Code) (ls:Ls),Kv { C with fr:=some (frP W2 e2 (st.nb+1) (.agg a.tmps) pr) } e3 w3/\cA C e3 w3 (fun b=>find b st2.m)/\(∀ b,st2.nb<=b->e3.ρ b=none/\e3.ν b=none/\e3.φ b=none)/\find (st.nb+1) st2.m=some (.loop nt sl2 ps2 fid2 as2 bd2 ls)/\
   ∀ a3 w3,At C nt ⟨st2.nb,sl2,(st.nb+1,.dead)::st2.m,st.nb::st.ms⟩ a3 w3->LsQ Q a3 w3 ls)
  (fun a' hA'=>uS (hwp (frP W2 e2 (st.nb+1) (.agg a.tmps) pr) rfl rfl a' W2 hA') (by
   rintro x a2 w2 ⟨hx,st2,sl2,ps2,fid2,as2,bd2,ls,hms,⟨⟨e3,hg3,hM3,_,hfr3,rs3,hdf3,hmk3⟩,_⟩,h4,h5⟩;rw[hms] at hmk3;refine ret_of hx (by rw[hdf3,show rs3=[] from hmk3];rfl) ⟨.tuple #[],?_,rfl,e3,st2,sl2,ps2,fid2,as2,bd2,ls,hg3,ccy.1 hM3,hfr3,h4,h5⟩;rw[JJ,cbU,hres];simp))
 refine⟨W1.heap.size,[uV w.heap.size],W2,{ target:=.fn (.func f) q.toArray,args:=p.toArray++#[.func (.yield W1.heap.size) #[] #[]] },W2,f,p.toArray++#[.func (.yield W1.heap.size) #[] #[]]++q.toArray,W2,?_,?_,fun _ _=>trivial,?_,(fun hd=>nomatch hd),?_⟩
 ·have:=cdQ (P:=C.P) (w:=w) fn' a.tmps ps assign body;rw[hs1];exact this
 ·simp [resolve,hg0,Deferred.ofValue,show ∀ v,a.eval (.const v)=v from fun _=>rfl]
 ·have:=hen (p.toArray++#[.func (.yield W1.heap.size) #[] #[]]++q.toArray) W2;simpa [invoke] using this
 ·have hx:(p++([Value.func (.yield W1.heap.size) #[] #[]]++q)).toArray=p.toArray++#[Value.func (.yield W1.heap.size) #[] #[]]++q.toArray:=by
   apply uJ;simp
  rw[← hx];refine CallsIn.mono (callsIn_wide.2 hcalls) ?_;rintro en w3 ⟨v,rfl,rfl,e3,st2,sl2,ps2,fid2,as2,bd2,ls,hg3,hM3,hfr3,h4,h5⟩;obtain⟨hpf,_,hpin,_⟩:=hg3.fr.2 _ rfl;have hpρ:∀ b k,b∈pr->e2.ρ b=some k->e3.ρ b=some k:=fun b k hb hk=>(hpin b k (by simp only[GM hb];exact hk)).2;have hk3:e3.ρ (st.nb+1)=some W1.heap.size:=hpρ _ _ (by simp [pr]) hρ2;have hk4:e3.ρ st.nb=some w.heap.size:=hpρ _ _ (by simp [pr]) (hL2.adv.ext.ρ _ _ hρ1);obtain⟨k,r,p1,p2,p3,pφ,p4,p5,p6,p7,p8,p9⟩:=hM3 _ _ h4;have hφ3:e3.φ (st.nb+1)=some (.agg a.tmps):=(hpf (st.nb+1) (.agg a.tmps) (by simp)).2;have htm:r.tmps=a.tmps:=by rw[hφ3] at pφ;injection pφ with pφ;injection pφ with pφ;exact pφ.symm
  rw[hk3] at p1;injection p1 with p1;subst p1
  have hlt:=(Array.getElem?_eq_some_iff.1 p3).1;have hgC:Kv C e3 w3:=⟨hg3.below,hg3.inj,hg3.own,hg3.fr.1,fun F hF=>by rw[hn] at hF;cases hF⟩;have hL5:jM C e3 w3 st2.nb st2.nb [(st.nb+1,.dead)] e3 (w3.putObj W1.heap.size (.loop { r with state:=.exhausted })):=uI hgC hk3 p2 (w':=w3.putObj W1.heap.size (.loop { r with state:=.exhausted })) ⟨rfl,rfl,rfl,by simp [World.putObj],fun j hj=>uQ hj⟩ (zp hlt) (.inr (.inl ⟨_,rfl⟩)) (ob:=.dead) trivial;have hM5:cA C e3 (w3.putObj W1.heap.size (.loop { r with state:=.exhausted })) (fun b=>find b ((st.nb+1,.dead)::st2.m)):=fun b o ho=>by
   simp only[cC] at ho;split at ho
   ·injection ho with ho;subst ho;trivial
   ·rename_i hb;exact hL5.kept b o (hM3 b o ho) (by simp only[cC,cP,hb])
  have hms:∀ {bs rs:List Nat},(∀ b∈bs,b∈pr)->Cq e bs rs->Cq e3 bs rs:=by
   intro bs
   induction bs with
   |nil=>exact fun _ h=>h
   |cons b bs ih =>
    rintro rs hb ⟨x,rs',q1,q2,q3⟩;exact⟨x,rs',q1,hpρ _ _ (hb b (by simp)) (hext.ρ _ _ q2),ih (fun b' hb'=>hb b' (zG _ hb')) q3⟩
  have hfin:∀ (d:List Deferred),d=uV w.heap.size::rs.map uV->At C nt ⟨st2.nb,sl2,(st.nb+1,.dead)::st2.m,st.nb::st.ms⟩ ⟨a.tmps,d⟩ (w3.putObj W1.heap.size (.loop { r with state:=.exhausted })):=by
   rintro d rfl;refine⟨⟨e3,hL5.good,hM5,?_,hfr3,w.heap.size::rs,rfl,w.heap.size,rs,rfl,hk4,hms (fun b hb=>by simp [pr,hb]) hmk⟩,hsz⟩;rw[← htm];exact p8
  have hd0:[uV w.heap.size]++a.defers=uV w.heap.size::rs.map uV:=by rw[hdf];rfl
  cases ls with
  |ready =>
   obtain⟨s1,s2⟩:=p9;have hend:=Us (P:=C.P) p3 (by rw[s1];decide);exact⟨_,w3.putObj W1.heap.size (.loop { r with state:=.exhausted }),hend.trans (cw (fun z=>Result.ok z (w3.putObj W1.heap.size (.loop { r with state:=.exhausted }))) s2),h5 _ _ (hfin _ hd0)⟩
  |busy=>exact False.elim (h5 _ _ (hfin _ hd0))
  |done j =>
   obtain⟨s1,s2⟩:=p9;have hend:=Us (P:=C.P) p3 (by rw[s1];decide);have h6:Q j.exitX _ _:=h5 _ _ (hfin _ hd0);refine⟨_,w3.putObj W1.heap.size (.loop { r with state:=.exhausted }),hend.trans (cw (fun z=>Result.ok z (w3.putObj W1.heap.size (.loop { r with state:=.exhausted }))) s2),?_⟩;cases j with
   |ret=>exact wpIn_ret h6
   |exit id=>exact wpIn_exit h6
end
end Pe
open Go Go.RowKit Go.Proofs Lim
namespace Pe.F
noncomputable def kProves7_:List Kp:=[.code (codeOf Tryz.f7)]
noncomputable def kProves7_s:List Kp:=ccm 100 kProves7_
noncomputable def kProves7_sf7:List Kp:=kProves7_s.take 7
noncomputable def kProves7_sd7:List Kp:=kProves7_s.drop 7
noncomputable def kvisits156_:List Kp:=[.code (codeOf Tryz.f56)]
noncomputable def kvisits156_n:List Kp:=next kvisits156_
noncomputable def kvisits156_nl:List Kp:=[.code (jq kvisits156_n)]
noncomputable def kvisits156_nln:List Kp:=next kvisits156_nl
noncomputable def kvisits156_nlnn:List Kp:=next kvisits156_nln
noncomputable def kvisits156_nlnnl:List Kp:=[.code (jq kvisits156_nlnn)]
noncomputable def kvisits156_nlnnt:List Kp:=kvisits156_nlnn.tail
noncomputable def kvisits156_nlnnth:List Kp:=EQ 100 kvisits156_nlnnt
noncomputable def kProves7_sd7t:List Kp:=kProves7_sd7.tail
noncomputable def kvisits156_nt:List Kp:=kvisits156_n.tail
abbrev Fp:=World×Env×(Nat->Prop)
noncomputable abbrev Wp (w:World) (fp:Fp):Ctx Dx:={ W0 w with fr:=some ⟨fp.1,fp.2.1,fp.2.2,[10],[10,9]⟩ }
noncomputable abbrev runP (w:World) (fp:Fp) (o:Opt) (f nt:Nat) (ks:List Kp) (st st':St Dx):Option (Xt×List Prop):=cfB (Wp w fp) (TY o) (yw (Sx false w.heap.size) (TY o) 300 30).1 (yw (Sx false w.heap.size) (TY o) 300 30).2 nt f false 300 (YT ks) st st'
section
variable {w w1:World}{fp:Fp}{o:Opt}{f nt:Nat}{ks:List Kp}{st st':St Dx}{x:Xt}{ob:List Prop}{a:Act}{Q:Exit->Act->World->Prop}
theorem Ed (h:runP w fp o f nt ks st st'=some (x,ob)) (hR:yD (Wp w fp) (TY o)) (hA:At (Wp w fp) nt st a w1) (hQ:∀ a' w',At (Wp w fp) nt st' a' w'->after Fence.wide 0 (Wp w fp).P (YH ks) Q x.to a' w') (ho:cX ob):after Fence.wide 0 (Wp w fp).P ks Q .normal a w1:=cdZ hR (.inl rfl) (fun _=>rfl) h ho hA hQ
end
def rgA:List Kp->Code
 |.code (.block _ (.rangeFunc _ _ a _))::_=>a
 |_=>.skip
def rgB:List Kp->Code
 |.code (.block _ (.rangeFunc _ _ _ b))::_=>b
 |_=>.skip
abbrev JE (l0 l1:Nat×Nat) (l2:Nat×Bool) (l3 r0:Nat×Nat) (J:List Jb) (T:List Tm) (B:List Int) (N:List Nat):List (Nat×Con):=(24,uc [pNs l3 B,pI (J.length:Int)] (vr (.bool (kW B J.length))))::(25,uc [pJs l0 J,pNn l3 N] (cbt [pJs r0 (chJ J N)]))::(23,cfq l1 l2 T)::(51,uc [pTs l1 l2 T] (vr (ii (cal T:Int))))::(27,conCo r0 l1 l2 (chJ J N) T)::exJT l0 l1 l2 J T
abbrev exP0 (l0 l1:Nat×Nat) (l2:Nat×Bool) (l3:Nat×Nat) (J:List Jb) (T:List Tm) (B:List Int):List (Nat×Con):=(24,uc [pNs l3 B,pI (J.length:Int)] (vr (.bool (kW B J.length))))::exJT l0 l1 l2 J T
theorem pvx {w:World}(l0 l1:Nat×Nat) (l2:Nat×Bool) (l3:Nat×Nat) (J:List Jb) (T:List Tm) (B:List Int):runR w ⟨[(7,12,false)],[],exP0 l0 l1 l2 l3 J T B⟩ 7 42 Tryz.f7 kProves7_ (stA [pJs l0 J,pTs l1 l2 T,pNs l3 B]) [.one (.lit (.bool false)),pI 2]=some (.ret,[kq J=false,[Pat.one (Grp.cls (Dx.ls (lst l0.1 l0.2 2 J fJ)))]=[pJs l0 J],eA (Value.bool false),eA (Value.int IntKind.i64 2)]):=by kernel_rfl
theorem pvy {w:World}(l0 l1:Nat×Nat) (l2:Nat×Bool) (l3:Nat×Nat) (J:List Jb) (T:List Tm) (B:List Int):runR w ⟨[(7,12,true),(7,16,false)],[],exP0 l0 l1 l2 l3 J T B⟩ 7 42 Tryz.f7 kProves7_ (stA [pJs l0 J,pTs l1 l2 T,pNs l3 B]) [.one (.lit (.bool false)),pI 2]=some (.ret,[kq J=true,[Pat.one (Grp.cls (Dx.ls (lst l0.1 l0.2 2 J fJ)))]=[pJs l0 J],jY T=false,[Pat.one (Grp.cls (Dx.ls (lst l1.1 l1.2 2 T (fTm l2))))]=[pTs l1 l2 T],eA (Value.bool false),eA (Value.int IntKind.i64 2)]):=by kernel_rfl
theorem pvz {w:World}(l0 l1:Nat×Nat) (l2:Nat×Bool) (l3:Nat×Nat) (J:List Jb) (T:List Tm) (B:List Int):runR w ⟨[(7,12,true),(7,16,true),(7,22,false)],[],exP0 l0 l1 l2 l3 J T B⟩ 7 42 Tryz.f7 kProves7_ (stA [pJs l0 J,pTs l1 l2 T,pNs l3 B]) [.one (.lit (.bool false)),pI 0]=some (.ret,[kq J=true,[Pat.one (Grp.cls (Dx.ls (lst l0.1 l0.2 2 J fJ)))]=[pJs l0 J],jY T=true,[Pat.one (Grp.cls (Dx.ls (lst l1.1 l1.2 2 T (fTm l2))))]=[pTs l1 l2 T],kW B (J.length:Int)=false,[Pat.one (Grp.cls (Dx.ls (lst l3.1 l3.2 1 B fz))),Pat.one (Grp.lit (goInt (J.length:Int)))]=[pNs l3 B,pI (J.length:Int)],eA (Value.bool false),eA (Value.int IntKind.i64 0)]):=by kernel_rfl
abbrev pvO (l0 l1:Nat×Nat) (l2:Nat×Bool) (l3 r0:Nat×Nat) (J:List Jb) (T:List Tm) (N:List Nat) (a:Int):Ws Dx:=[(1,.cls (.ls (lst l1.1 l1.2 2 T (fTm l2)))),(2,.cls (.ls (lst l3.1 l3.2 1 N fn1))),(3,.blk 23 [.sym 1 0] none),(4,.cls (.ls (lst r0.1 r0.2 2 (chJ J N) fJ))),(5,.blk 22 [.sym 4 0] none),(6,.blk 3 [.lit (ii a)] none),(8,.blk 71 [.sym 1 0] none)]
abbrev pvC:Nat×kU Dx:=(7,.clo 56 [] [.one (.ptr 8 0)])
abbrev pvL:List (Nat×AV):=[(2,.val (.one (.sym 2 0))),(4,.val (.one (.ptr 3 0))),(8,.val (.one (.ptr 5 0))),(9,.val (.one (.ptr 6 0)))]
abbrev pvI (l0 l1:Nat×Nat) (l2:Nat×Bool) (l3 r0:Nat×Nat) (J:List Jb) (T:List Tm) (N:List Nat) (a:Int):St Dx:=⟨9,(28,.val (.one (.fn 7)))::pvL,pvC::pvO l0 l1 l2 l3 r0 J T N a,[]⟩
theorem pva {w:World}(l0 l1:Nat×Nat) (l2:Nat×Bool) (l3:Nat×Nat) (J:List Jb) (T:List Tm) (B:List Int) (N:List Nat):run w ⟨[(7,12,true),(7,16,true),(7,22,true)],[],JE l0 l1 l2 l3 (w.heap.size,65) J T B N⟩ 7 42 kProves7_sf7 (stA [pJs l0 J,pTs l1 l2 T,pNn l3 N]) (pvI l0 l1 l2 l3 (w.heap.size,65) J T N 0)=some (.normal,[kq J=true,[Pat.one (Grp.cls (Dx.ls (lst l0.1 l0.2 2 J fJ)))]=[pJs l0 J],jY T=true,[Pat.one (Grp.cls (Dx.ls (lst l1.1 l1.2 2 T (fTm l2))))]=[pTs l1 l2 T],kW B (J.length:Int)=true,[Pat.one (Grp.cls (Dx.ls (lst l3.1 l3.2 1 N fn1))),Pat.one (Grp.lit (goInt (J.length:Int)))]=[pNs l3 B,pI (J.length:Int)],[Pat.one (Grp.cls (Dx.ls (lst l0.1 l0.2 2 J fJ))),Pat.one (Grp.cls (Dx.ls (lst l3.1 l3.2 1 N fn1)))]=[pJs l0 J,pNn l3 N],0=0,sD w (.ls (lst l1.1 l1.2 2 T (fTm l2))),sD w (.ls (lst l3.1 l3.2 1 N fn1)),sD w (.ls (lst w.1.size 65 2 (chJ J N) fJ)),ii 0=Value.int IntKind.i64 0,0=0,0=0,0=0]):=by kernel_rfl
noncomputable abbrev kR:List Kp:=kProves7_sd7
noncomputable abbrev lpO (sl:List (Nat×AV)):kU Dx:=.loop 42 sl [29] 7 (rgA kR) (rgB kR) .ready
noncomputable abbrev ivS (l0 l1:Nat×Nat) (l2:Nat×Bool) (l3 r0:Nat×Nat) (J:List Jb) (T:List Tm) (N:List Nat):St Dx:=⟨11,[(0,.val (.one (.yld 10))),(1,.val (.one (.ptr 8 0)))],(10,lpO ((28,.val (.one (.fn 7)))::pvL))::(9,.mark)::pvC::pvO l0 l1 l2 l3 r0 J T N 0,[]⟩
noncomputable abbrev itO (l0 l1:Nat×Nat) (l2:Nat×Bool) (l3 r0:Nat×Nat) (J:List Jb) (T:List Tm) (N:List Nat) (p:Nat) (a:Int):St Dx:=⟨11,[(0,.val (.one (.yld 10))),(1,.val (.one (.ptr 8 0))),(7,.val (.one (.lit (ii (cal T:Int))))),(8,.val (.one (.lit (ii (p:Int)))))],(10,lpO pvL)::(9,.mark)::pvO l0 l1 l2 l3 r0 J T N a,[]⟩
noncomputable abbrev itN (l0 l1:Nat×Nat) (l2:Nat×Bool) (l3 r0:Nat×Nat) (J:List Jb) (T:List Tm) (N:List Nat) (p t:Nat) (a:Int):St Dx:=⟨11,[(0,.val (.one (.yld 10))),(1,.val (.one (.ptr 8 0))),(3,.val (.one (.lit (ii (p:Int))))),(7,.val (.one (.lit (ii (cal T:Int))))),(8,.val (.one (.lit (ii (p:Int))))),(12,.val (.one (.lit (ii (T.length:Int))))),(13,.val (.one (.lit (ii (t:Int)))))],(10,lpO pvL)::(9,.mark)::pvO l0 l1 l2 l3 r0 J T N a,[]⟩
theorem iva {w:World}(fp:Fp) (l0 l1:Nat×Nat) (l2:Nat×Bool) (l3:Nat×Nat) (J:List Jb) (T:List Tm) (B:List Int) (N:List Nat):runP w fp ⟨[],[],JE l0 l1 l2 l3 (w.heap.size,65) J T B N⟩ 56 31 kvisits156_ (ivS l0 l1 l2 l3 (w.heap.size,65) J T N) (itO l0 l1 l2 l3 (w.heap.size,65) J T N 0 0)=some (.normal,[[Pat.one (Grp.cls (Dx.ls (lst l1.1 l1.2 2 T (fTm l2))))]=[pTs l1 l2 T],42=42,[29]=[29],7=7,rgA kR=rgA kR,rgB kR=rgB kR,Ls.ready=Ls.ready,0=0,0=0,0=0,cE (Wp w fp) (.ls (lst l1.1 l1.2 2 T (fTm l2))) (.ls (lst l1.1 l1.2 2 T (fTm l2))),cE (Wp w fp) (.ls (lst l3.1 l3.2 1 N fn1)) (.ls (lst l3.1 l3.2 1 N fn1)),cE (Wp w fp) (.ls (lst w.1.size 65 2 (chJ J N) fJ)) (.ls (lst w.1.size 65 2 (chJ J N) fJ)),ii 0=ii 0,0=0,eA (ii (↑(cal T):Int)),ii (↑0:Int)=Value.int IntKind.i64 0]):=by kernel_rfl
theorem ivb0 {w:World}(fp:Fp) (l0 l1:Nat×Nat) (l2:Nat×Bool) (l3:Nat×Nat) (J:List Jb) (T:List Tm) (B:List Int) (N:List Nat) (p:Nat) (a:Int):runP w fp ⟨[(56,9,true)],[],JE l0 l1 l2 l3 (w.heap.size,65) J T B N⟩ 56 31 kvisits156_nl (itO l0 l1 l2 l3 (w.heap.size,65) J T N p a) (itO l0 l1 l2 l3 (w.heap.size,65) J T N p a)=some (.normal,[decide ((p:Int)<(↑(cal T):Int))=true,42=42,[29]=[29],7=7,rgA kR=rgA kR,rgB kR=rgB kR,Ls.ready=Ls.ready,0=0,0=0,0=0,cE (Wp w fp) (.ls (lst l1.1 l1.2 2 T (fTm l2))) (.ls (lst l1.1 l1.2 2 T (fTm l2))),cE (Wp w fp) (.ls (lst l3.1 l3.2 1 N fn1)) (.ls (lst l3.1 l3.2 1 N fn1)),cE (Wp w fp) (.ls (lst w.1.size 65 2 (chJ J N) fJ)) (.ls (lst w.1.size 65 2 (chJ J N) fJ)),ii a=ii a,0=0,eA (ii (↑(cal T):Int)),eA (ii (p:Int))]):=by kernel_rfl
theorem ivb {w:World}(fp:Fp) (l0 l1:Nat×Nat) (l2:Nat×Bool) (l3:Nat×Nat) (J:List Jb) (T:List Tm) (B:List Int) (N:List Nat) (p:Nat) (a:Int):runP w fp ⟨[],[],JE l0 l1 l2 l3 (w.heap.size,65) J T B N⟩ 56 31 kvisits156_nln (itO l0 l1 l2 l3 (w.heap.size,65) J T N p a) (itN l0 l1 l2 l3 (w.heap.size,65) J T N p 0 a)=some (.normal,[42=42,[29]=[29],7=7,rgA kR=rgA kR,rgB kR=rgB kR,Ls.ready=Ls.ready,0=0,0=0,0=0,cE (Wp w fp) (.ls (lst l1.1 l1.2 2 T (fTm l2))) (.ls (lst l1.1 l1.2 2 T (fTm l2))),cE (Wp w fp) (.ls (lst l3.1 l3.2 1 N fn1)) (.ls (lst l3.1 l3.2 1 N fn1)),cE (Wp w fp) (.ls (lst w.1.size 65 2 (chJ J N) fJ)) (.ls (lst w.1.size 65 2 (chJ J N) fJ)),ii a=ii a,0=0,eA (ii (p:Int)),eA (ii (↑(cal T):Int)),eA (ii (p:Int)),ii (T.length:Int)=goInt (T.length:Int),ii (↑0:Int)=Value.int IntKind.i64 0]):=by kernel_rfl
theorem ivx {w:World}(fp:Fp) (l0 l1:Nat×Nat) (l2:Nat×Bool) (l3:Nat×Nat) (J:List Jb) (T:List Tm) (B:List Int) (N:List Nat) (p:Nat) (a:Int):runP w fp ⟨[(56,9,false)],[],JE l0 l1 l2 l3 (w.heap.size,65) J T B N⟩ 56 31 kvisits156_nl (itO l0 l1 l2 l3 (w.heap.size,65) J T N p a) (itO l0 l1 l2 l3 (w.heap.size,65) J T N p a)=some (.exit 0,[decide ((p:Int)<(↑(cal T):Int))=false,42=42,[29]=[29],7=7,rgA kR=rgA kR,rgB kR=rgB kR,Ls.ready=Ls.ready,0=0,0=0,0=0,cE (Wp w fp) (.ls (lst l1.1 l1.2 2 T (fTm l2))) (.ls (lst l1.1 l1.2 2 T (fTm l2))),cE (Wp w fp) (.ls (lst l3.1 l3.2 1 N fn1)) (.ls (lst l3.1 l3.2 1 N fn1)),cE (Wp w fp) (.ls (lst w.1.size 65 2 (chJ J N) fJ)) (.ls (lst w.1.size 65 2 (chJ J N) fJ)),ii a=ii a,0=0,eA (ii (↑(cal T):Int)),eA (ii (p:Int))]):=by kernel_rfl
theorem ivn1 {w:World}(fp:Fp) (l0 l1:Nat×Nat) (l2:Nat×Bool) (l3:Nat×Nat) (J:List Jb) (T:List Tm) (B:List Int) (N:List Nat) (p t:Nat) (a:Int):runP w fp ⟨[(56,14,true),(56,22,false)],[],JE l0 l1 l2 l3 (w.heap.size,65) J T B N⟩ 56 31 kvisits156_nlnnl (itN l0 l1 l2 l3 (w.heap.size,65) J T N p t a) (itN l0 l1 l2 l3 (w.heap.size,65) J T N p (t+1) a)=some (.normal,[decide ((t:Int)<(T.length:Int))=true,Pat.one (Grp.cls (Dx.ls (lst l1.1 l1.2 2 T (fTm l2))))=pTs l1 l2 T,0<=(p:Int),0<=(t:Int),(t:Int).toNat<T.length,(p:Int).toNat<(T.getD (t:Int).toNat default).2.length,decide (ku T (p:Int) (t:Int)>0)=false,ko ((t:Int)+1),42=42,[29]=[29],7=7,rgA kR=rgA kR,rgB kR=rgB kR,Ls.ready=Ls.ready,0=0,0=0,0=0,cE (Wp w fp) (.ls (lst l1.1 l1.2 2 T (fTm l2))) (.ls (lst l1.1 l1.2 2 T (fTm l2))),cE (Wp w fp) (.ls (lst l3.1 l3.2 1 N fn1)) (.ls (lst l3.1 l3.2 1 N fn1)),cE (Wp w fp) (.ls (lst w.1.size 65 2 (chJ J N) fJ)) (.ls (lst w.1.size 65 2 (chJ J N) fJ)),ii a=ii a,0=0,eA (ii (p:Int)),eA (ii (↑(cal T):Int)),eA (ii (p:Int)),eA (ii (T.length:Int)),ii (↑(t+1):Int)=Value.int IntKind.i64 ((t:Int)+1)]):=by kernel_rfl
theorem ivn2 {w:World}(fp:Fp) (l0 l1:Nat×Nat) (l2:Nat×Bool) (l3:Nat×Nat) (J:List Jb) (T:List Tm) (B:List Int) (N:List Nat) (p t:Nat) (a:Int):runP w fp ⟨[(56,14,true),(56,22,true),(7,32,false)],[],JE l0 l1 l2 l3 (w.heap.size,65) J T B N⟩ 56 31 kvisits156_nlnnl (itN l0 l1 l2 l3 (w.heap.size,65) J T N p t a) (itN l0 l1 l2 l3 (w.heap.size,65) J T N p (t+1) a)=some (.normal,[decide ((t:Int)<(T.length:Int))=true,Pat.one (Grp.cls (Dx.ls (lst l1.1 l1.2 2 T (fTm l2))))=pTs l1 l2 T,0<=(p:Int),0<=(t:Int),(t:Int).toNat<T.length,(p:Int).toNat<(T.getD (t:Int).toNat default).2.length,decide (ku T (p:Int) (t:Int)>0)=true,anyP (chJ J N).length (suJ T (p:Int) (t:Int) (chJ J N))=false,Pat.one (Grp.cls (Dx.ls (lst w.1.size 65 2 (chJ J N) fJ)))=pJs (w.1.size,65) (chJ J N),eA (lst l1.1 l1.2 2 T (fTm l2)),ko ((t:Int)+1),42=42,[29]=[29],7=7,rgA kR=rgA kR,rgB kR=rgB kR,Ls.ready=jmOf Xt.normal,0=0,0=0,0=0,cE (Wp w fp) (.ls (lst l1.1 l1.2 2 T (fTm l2))) (.ls (lst l1.1 l1.2 2 T (fTm l2))),cE (Wp w fp) (.ls (lst l3.1 l3.2 1 N fn1)) (.ls (lst l3.1 l3.2 1 N fn1)),cE (Wp w fp) (.ls (lst w.1.size 65 2 (chJ J N) fJ)) (.ls (lst w.1.size 65 2 (chJ J N) fJ)),ii a=ii a,0=0,eA (ii (p:Int)),eA (ii (↑(cal T):Int)),eA (ii (p:Int)),eA (ii (T.length:Int)),ii (↑(t+1):Int)=Value.int IntKind.i64 ((t:Int)+1)]):=by kernel_rfl
theorem ivn3 {w:World}(fp:Fp) (l0 l1:Nat×Nat) (l2:Nat×Bool) (l3:Nat×Nat) (J:List Jb) (T:List Tm) (B:List Int) (N:List Nat) (p t:Nat) (a:Int):runP w fp ⟨[(56,14,true),(56,22,true),(7,32,true)],[],JE l0 l1 l2 l3 (w.heap.size,65) J T B N⟩ 56 31 kvisits156_nlnnl (itN l0 l1 l2 l3 (w.heap.size,65) J T N p t a) (itN l0 l1 l2 l3 (w.heap.size,65) J T N p (t+1) (a+ku T p t))=some (.normal,[decide ((t:Int)<(T.length:Int))=true,Pat.one (Grp.cls (Dx.ls (lst l1.1 l1.2 2 T (fTm l2))))=pTs l1 l2 T,0<=(p:Int),0<=(t:Int),(t:Int).toNat<T.length,(p:Int).toNat<(T.getD (t:Int).toNat default).2.length,decide (ku T (p:Int) (t:Int)>0)=true,anyP (chJ J N).length (suJ T (p:Int) (t:Int) (chJ J N))=true,Pat.one (Grp.cls (Dx.ls (lst w.1.size 65 2 (chJ J N) fJ)))=pJs (w.1.size,65) (chJ J N),eA (lst l1.1 l1.2 2 T (fTm l2)),Pat.one (Grp.cls (Dx.ls (lst l1.1 l1.2 2 T (fTm l2))))=pTs l1 l2 T,0<=(p:Int),0<=(t:Int),(t:Int).toNat<T.length,(p:Int).toNat<(T.getD (t:Int).toNat default).2.length,ko (a+ku T (p:Int) (t:Int)),ko ((t:Int)+1),42=42,[29]=[29],7=7,rgA kR=rgA kR,rgB kR=rgB kR,Ls.ready=jmOf Xt.normal,0=0,0=0,0=0,cE (Wp w fp) (.ls (lst l1.1 l1.2 2 T (fTm l2))) (.ls (lst l1.1 l1.2 2 T (fTm l2))),cE (Wp w fp) (.ls (lst l3.1 l3.2 1 N fn1)) (.ls (lst l3.1 l3.2 1 N fn1)),cE (Wp w fp) (.ls (lst w.1.size 65 2 (chJ J N) fJ)) (.ls (lst w.1.size 65 2 (chJ J N) fJ)),ii (a+ku T (p:Int) (t:Int))=Value.int IntKind.i64 (a+ku T (p:Int) (t:Int)),0=0,eA (ii (p:Int)),eA (ii (↑(cal T):Int)),eA (ii (p:Int)),eA (ii (T.length:Int)),ii (↑(t+1):Int)=Value.int IntKind.i64 ((t:Int)+1)]):=by kernel_rfl
theorem ivnx {w:World}(fp:Fp) (l0 l1:Nat×Nat) (l2:Nat×Bool) (l3:Nat×Nat) (J:List Jb) (T:List Tm) (B:List Int) (N:List Nat) (p t:Nat) (a:Int):runP w fp ⟨[(56,14,false)],[],JE l0 l1 l2 l3 (w.heap.size,65) J T B N⟩ 56 31 kvisits156_nlnnl (itN l0 l1 l2 l3 (w.heap.size,65) J T N p t a) (itN l0 l1 l2 l3 (w.heap.size,65) J T N p t a)=some (.exit 2,[decide ((t:Int)<(T.length:Int))=false,42=42,[29]=[29],7=7,rgA kR=rgA kR,rgB kR=rgB kR,Ls.ready=Ls.ready,0=0,0=0,0=0,cE (Wp w fp) (.ls (lst l1.1 l1.2 2 T (fTm l2))) (.ls (lst l1.1 l1.2 2 T (fTm l2))),cE (Wp w fp) (.ls (lst l3.1 l3.2 1 N fn1)) (.ls (lst l3.1 l3.2 1 N fn1)),cE (Wp w fp) (.ls (lst w.1.size 65 2 (chJ J N) fJ)) (.ls (lst w.1.size 65 2 (chJ J N) fJ)),ii a=ii a,0=0,eA (ii (p:Int)),eA (ii (↑(cal T):Int)),eA (ii (p:Int)),eA (ii (T.length:Int)),eA (ii (t:Int))]):=by kernel_rfl
theorem ivr {w:World}(fp:Fp) (l0 l1:Nat×Nat) (l2:Nat×Bool) (l3:Nat×Nat) (J:List Jb) (T:List Tm) (B:List Int) (N:List Nat) (p t:Nat) (a:Int):runP w fp ⟨[],[],JE l0 l1 l2 l3 (w.heap.size,65) J T B N⟩ 56 31 kvisits156_nlnnth (itN l0 l1 l2 l3 (w.heap.size,65) J T N p t a) (itO l0 l1 l2 l3 (w.heap.size,65) J T N (p+1) a)=some (.normal,[ko ((p:Int)+1),42=42,[29]=[29],7=7,rgA kR=rgA kR,rgB kR=rgB kR,Ls.ready=Ls.ready,0=0,0=0,0=0,cE (Wp w fp) (.ls (lst l1.1 l1.2 2 T (fTm l2))) (.ls (lst l1.1 l1.2 2 T (fTm l2))),cE (Wp w fp) (.ls (lst l3.1 l3.2 1 N fn1)) (.ls (lst l3.1 l3.2 1 N fn1)),cE (Wp w fp) (.ls (lst w.1.size 65 2 (chJ J N) fJ)) (.ls (lst w.1.size 65 2 (chJ J N) fJ)),ii a=ii a,0=0,eA (ii (↑(cal T):Int)),ii (↑(p+1):Int)=Value.int IntKind.i64 ((p:Int)+1)]):=by kernel_rfl
noncomputable abbrev pvE (l0 l1:Nat×Nat) (l2:Nat×Bool) (l3 r0:Nat×Nat) (J:List Jb) (T:List Tm) (N:List Nat) (a:Int):St Dx:=⟨11,pvL,(10,.dead)::(10,lpO pvL)::(9,.mark)::pvO l0 l1 l2 l3 r0 J T N a,[9]⟩
theorem pvt {w:World}(l0 l1:Nat×Nat) (l2:Nat×Bool) (l3:Nat×Nat) (J:List Jb) (T:List Tm) (B:List Int) (N:List Nat) (a:Int):runR w ⟨[(7,41,true)],[],JE l0 l1 l2 l3 (w.heap.size,65) J T B N⟩ 7 42 Tryz.f7 kProves7_sd7t (pvE l0 l1 l2 l3 (w.heap.size,65) J T N a) [.one (.lit (.bool true)),pI 0]=some (.ret,[decide ((N.length:Int)>a)=true,eA (Value.bool true),eA (Value.int IntKind.i64 0)]):=by kernel_rfl
theorem pvf {w:World}(l0 l1:Nat×Nat) (l2:Nat×Bool) (l3:Nat×Nat) (J:List Jb) (T:List Tm) (B:List Int) (N:List Nat) (a:Int):runR w ⟨[(7,41,false)],[],JE l0 l1 l2 l3 (w.heap.size,65) J T B N⟩ 7 42 Tryz.f7 kProves7_sd7t (pvE l0 l1 l2 l3 (w.heap.size,65) J T N a) [.one (.lit (.bool false)),pI 0]=some (.ret,[decide ((N.length:Int)>a)=false,eA (Value.bool false),eA (Value.int IntKind.i64 0)]):=by kernel_rfl
theorem rg_is {P:Program}{g:Operand}{ps:Array Nat}{A Bd:Code}{ks ks':List Kp}{Q:Exit->Act->World->Prop}{a:Act}{w:World}(h:ks=.code (.block 0 (.rangeFunc g ps A Bd))::ks') (hq:(Code.rangeFunc g ps A Bd).wpIn Fence.wide 0 P (Exit.inBlock 0 (after Fence.wide 0 P ks' Q)) a w):after Fence.wide 0 P ks Q .normal a w:=by
 subst h;exact wpIn_block hq
theorem chY {T:List Tm}{R:List Jb}{p t:Nat}{a:Int}(h1:decide (ku T p t>0)=true) (h2:anyP R.length (suJ T p t R)=true):Kf T R p t a=a+ku T p t:=by unfold Kf;rw[h1,h2];rfl
theorem step_no {T:List Tm}{R:List Jb}{p t:Nat}{a:Int}(h1:decide (ku T p t>0)=true) (h2:anyP R.length (suJ T p t R)=false):Kf T R p t a=a:=by unfold Kf;rw[h1,h2];rfl
theorem ciQ {T:List Tm}{R:List Jb}{p t:Nat}{a:Int}(h1:decide (ku T p t>0)=false):Kf T R p t a=a:=by unfold Kf;rw[h1];rfl
theorem cal_le {T:List Tm}(hs:Le6 T):cal T<=1000000:=by
 unfold cal;rcases jr T.length with h|h
 ·rw[List.length_eq_zero_iff.1 h];exact cQ _
 ·exact hs 0 h
theorem exP0_ok {lo:Nat}{l0 l1:Nat×Nat}{l2:Nat×Bool}{l3:Nat×Nat}{w0:World}{J:List Jb}{T:List Tm}{B:List Int}(hN:cU) (hG:Gr w0) (hlo:lo<=w0.heap.size) (hl:J.length<=1000000) (ht:T.length<=1000000) (hs:Le6 T) (hb:B.length<=1000000):yf false lo w0 (exP0 l0 l1 l2 l3 J T B) :=
 cV (jO ((df_ok hN l3 B J.length hb hl).val hG hlo (jB Tryz.func24 (by kernel_rfl) rfl))) (cbV hN hG hlo hl ht hs)
theorem ac_ch {J:List Jb}{N:List Nat}(hJ:kq J=true) (hb:∀ i,i<N.length->N.getD i default<J.length):Ac7 (chJ J N):=fun i hi=>by
 rw[We] at hi;rw[cei hi];have:=(YI hJ).2 _ (hb i hi);exact⟨this.1,this.2.1⟩
theorem exPr_ok {l0 l1:Nat×Nat}{l2:Nat×Bool}{l3:Nat×Nat}{w0:World}{J:List Jb}{T:List Tm}{B:List Int}{N:List Nat}(hN:cU) (hG:Gr w0) (hl:J.length<=1000000) (ht:T.length<=1000000) (hs:Le6 T) (hk:Sk8 T) (hb:B.length<=1000000) (hn:N.length<=100000) (hJ:kq J=true) (hi:∀ i,i<N.length->N.getD i default<J.length):yf false w0.heap.size w0 (JE l0 l1 l2 l3 (w0.heap.size,65) J T B N):=by
 have hlo:=cb w0.heap.size;refine cV (jO ((df_ok hN l3 B J.length hb hl).val hG hlo (jB Tryz.func24 (by kernel_rfl) rfl))) (cV (jO ?_) (cV (ccI hN hG hlo) (cV (cbW hN hG hlo) (cV (cib hN hG hlo (by rw[We];omega) ht (cal_le hs) hk (ac_ch hJ hi)) (cbV hN hG hlo hl ht hs)))));exact(ch_ok hN l0 l3 J N hn hi).ent hG hlo (jB Tryz.func25 (by kernel_rfl) rfl) (fun hi h=>⟨_,rfl,sub_lo (L:=lst w0.heap.size _ 2 _ fJ) h,trivial⟩)
theorem pn_ok (hN:cU) (l0 l1:Nat×Nat) (l2:Nat×Bool) (l3:Nat×Nat) (J:List Jb) (T:List Tm) (B:List Int) (hl:J.length<=1000000) (ht:T.length<=1000000) (hs:Le6 T) (hb:B.length<=1000000) (hno:(kq J&&jY T&&kW B J.length)=false):uG 7 [pJs l0 J,pTs l1 l2 T,pNs l3 B] (fun _=>[.one (.lit (.bool false)),pI (if kq J&&jY T then 0 else 2)]):=by
 intro w vs hG hp;refine kM hG hN (ex:=(exP0 l0 l1 l2 l3 J T B)) (exP0_ok hN hG (cb _) hl ht hs hb) (fn:=Tryz.f7) Tryz.func7 (c:=codeOf Tryz.f7) (by kernel_rfl) (args:=[pJs l0 J,pTs l1 l2 T,pNs l3 B]) (by kernel_rfl) hp (fun hR _ hA=>?_);rcases cu (kq J) with q12|q12
 rotate_left
 ·rw[cf (by rw[q12];exact YN)];exact cS (pvx l0 l1 l2 l3 J T B) (hR _ rfl) hA (by (repeat' (first|exact trivial|apply And.intro))<;>first|exact cE.refl _ _|exact fun _ _=>cL.refl _ _|exact ce rfl|exact cg _ _|exact ci _ _|(with_reducible assumption)|omega|with_reducible rfl|(simp only[cc];omega)|(intro j hj;exact absurd hj (cj _))|exact q12|rfl)
 rcases cu (jY T) with q16|q16
 rotate_left
 ·rw[cf (by rw[q12,q16];exact YN)];exact cS (pvy l0 l1 l2 l3 J T B) (hR _ rfl) hA (by (repeat' (first|exact trivial|apply And.intro))<;>first|exact cE.refl _ _|exact fun _ _=>cL.refl _ _|exact ce rfl|exact cg _ _|exact ci _ _|(with_reducible assumption)|omega|with_reducible rfl|(simp only[cc];omega)|(intro j hj;exact absurd hj (cj _))|exact q12|exact q16|rfl)
 have q22:kW B J.length=false:=by rw[q12,q16] at hno;exact hno
 rw[cq (by rw[q12,q16];rfl)];exact cS (pvz l0 l1 l2 l3 J T B) (hR _ rfl) hA (by (repeat' (first|exact trivial|apply And.intro))<;>first|exact cE.refl _ _|exact fun _ _=>cL.refl _ _|exact ce rfl|exact cg _ _|exact ci _ _|(with_reducible assumption)|omega|with_reducible rfl|(simp only[cc];omega)|(intro j hj;exact absurd hj (cj _))|exact q12|exact q16|exact q22|rfl)
abbrev zN (N:List Nat):List Int:=N.map Int.ofNat
theorem lst_nn {lo ty:Nat}{N:List Nat}:lst lo ty 1 (zN N) fz=lst lo ty 1 N fn1:=by
 unfold lst;rw[CC];congr 1;funext j;show fz ((zN N).getD j default)=fn1 (N.getD j default);rcases jj j N.length with h|h
 ·rw[uD,uh,jl h,uD,jl h];rfl
 ·rw[uD,uC (by simpa using h),uD,uC h];rfl
theorem py_ok (hN:cU) (l0 l1:Nat×Nat) (l2:Nat×Bool) (l3:Nat×Nat) (J:List Jb) (T:List Tm) (N:List Nat) (hl:J.length<=1000000) (ht:T.length<=1000000) (hs:Le6 T) (hk:Sk8 T) (hn:N.length<=100000) (q12:kq J=true) (q16:jY T=true) (q22:kW (zN N) J.length=true) (hi:∀ i,i<N.length->N.getD i default<J.length):uG 7 [pJs l0 J,pTs l1 l2 T,pNn l3 N] (fun _=>[.one (.lit (.bool (decide ((N.length:Int)>zq T (chJ J N) (cal T))))),pI 0]):=by
 intro w vs hG hp;refine kM hG hN (ex:=(JE l0 l1 l2 l3 (w.heap.size,65) J T (zN N) N)) (exPr_ok hN hG hl ht hs hk (by rw[CC];omega) hn q12 hi) (fn:=Tryz.f7) Tryz.func7 (c:=codeOf Tryz.f7) (by kernel_rfl) (args:=[pJs l0 J,pTs l1 l2 T,pNn l3 N]) (by kernel_rfl) hp (fun hR _ hA=>?_);have e1:([Pat.one (.cls (.ls (lst l3.1 l3.2 1 N fn1))),Pat.one (.lit (goInt (J.length:Int)))]:List (Pat Dx))=[pNs l3 (zN N),pI (J.length:Int)]:=by
  show [Pat.one (.cls (.ls (lst l3.1 l3.2 1 N fn1))),Pat.one (.lit (goInt (J.length:Int)))]=[Pat.one (.cls (.ls (lst l3.1 l3.2 1 (zN N) fz))),pI (J.length:Int)];rw[lst_nn];rfl
 have hT8:=yL q16;refine cbh 100 kProves7_ (cut_is 7 (ks:=kProves7_s) ?_);refine cZ (pva l0 l1 l2 l3 J T (zN N) N) (hR _ rfl) hA (fun a1 w1 hA=>jc (by kernel_rfl) ?_) (by (repeat' (first|exact trivial|apply And.intro))<;>first|exact cE.refl _ _|exact fun _ _=>cL.refl _ _|exact ce rfl|exact cg _ _|exact ci _ _|(with_reducible assumption)|omega|with_reducible rfl|(simp only[cc];omega)|(intro j hj;exact absurd hj (cj _))|exact q12|exact q16|exact q22|exact e1|rfl);refine rg_is (ks:=kR) (ks':=kProves7_sd7t) (g:=.tmp 28) (ps:=#[29]) (A:=rgA kR) (Bd:=rgB kR) (by kernel_rfl) ?_;refine chD (C:=W0 w) (TT:=TY ⟨[],[],JE l0 l1 l2 l3 (w.heap.size,65) J T (zN N) N⟩) (hR _ rfl) rfl (f:=56) (fn:=Tryz.f56) (c:=codeOf Tryz.f56) (fid:=7) Tryz.func56 (by kernel_rfl) (by kernel_rfl) (pre:=[]) (cap:=[.one (.ptr 8 0)]) (.inr ⟨7,by kernel_rfl,by kernel_rfl⟩) (by kernel_rfl) hA ?_;rintro⟨w1',e1',K,pf,pr⟩ hpf hpr a' w' hA';have hpf:pf=[10]:=hpf;have hpr:pr=[10,9]:=hpr;subst hpf;subst hpr;refine(show ∀ Q,after Fence.wide 0 (Wp w (w1',e1',K)).P kvisits156_ Q .normal a' w'->(codeOf Tryz.f56).wpIn Fence.wide 0 (W0 w).P Q a' w' from fun Q h=>h) _ ?_;refine Ed (iva (w1',e1',K) l0 l1 l2 l3 J T (zN N) N) (Cw (hR _ rfl)) hA' (fun a3 w3 hA=>jw ?_) (by (repeat' (first|exact trivial|apply And.intro))<;>first|exact cE.refl _ _|exact fun _ _=>cL.refl _ _|exact ce rfl|exact cg _ _|exact ci _ _|(with_reducible assumption)|omega|with_reducible rfl|(simp only[cc];omega)|(intro j hj;exact absurd hj (cj _))|rfl|rfl);refine kb (C:=Wp w (w1',e1',K)) (fun p=>itO l0 l1 l2 l3 (w.heap.size,65) J T N p (zq T (chJ J N) p)) (fun p=>p<=cal T) (fun p=>cal T-p) (L:=kvisits156_n) (ks:=kvisits156_nt) (id:=0) (c:=jq kvisits156_n) (by kernel_rfl) 0 (cQ _) hA (fun p a4 w4 hp hA=>?_)
 rcases cu (decide ((p:Int)<(cal T:Int))) with q9|q9
 ·have p9:=cH q9;have hp1:p<cal T:=by omega
  have hto:=tot_le (R:=chJ J N) q16 (n:=p) (by omega);refine Ed (ivb0 (w1',e1',K) l0 l1 l2 l3 J T (zN N) N p _) (Cw (hR _ rfl)) hA (fun a5 w5 hA=>jw ?_) (by (repeat' (first|exact trivial|apply And.intro))<;>first|exact cE.refl _ _|exact fun _ _=>cL.refl _ _|exact ce rfl|exact cg _ _|exact ci _ _|(with_reducible assumption)|omega|with_reducible rfl|(simp only[cc];omega)|(intro j hj;exact absurd hj (cj _))|rfl|rfl);refine Ed (ivb (w1',e1',K) l0 l1 l2 l3 J T (zN N) N p _) (Cw (hR _ rfl)) hA (fun a5 w5 hA=>jw ?_) (by (repeat' (first|exact trivial|apply And.intro))<;>first|exact cE.refl _ _|exact fun _ _=>cL.refl _ _|exact ce rfl|exact cg _ _|exact ci _ _|(with_reducible assumption)|omega|with_reducible rfl|(simp only[cc];omega)|(intro j hj;exact absurd hj (cj _))|rfl|rfl);refine kb (C:=Wp w (w1',e1',K)) (fun t=>itN l0 l1 l2 l3 (w.heap.size,65) J T N p t (GI T (chJ J N) p t (zq T (chJ J N) p))) (fun t=>t<=T.length) (fun t=>T.length-t) (L:=kvisits156_nlnn) (ks:=kvisits156_nlnnt) (id:=2) (c:=jq kvisits156_nlnn) (by kernel_rfl) 0 (cQ _) hA (fun t a6 w6 ht1 hA=>?_);rcases cu (decide ((t:Int)<(T.length:Int))) with q14|q14
  ·have p14:=cH q14;have ht2:t<T.length:=by omega
   have hr1:=cdF (R:=chJ J N) q16 hp1 (a:=zq T (chJ J N) p) (n:=t) (by omega);have hsl:=JU q16 ht2 hp1;have hsz:p<(T.getD t default).2.length:=by rw[(hT8.2.2 t ht2).1];exact hp1
   have g1:((t:Nat):Int).toNat<T.length:=ht2;have g2:((p:Nat):Int).toNat<(T.getD ((t:Nat):Int).toNat default).2.length:=hsz;have g3:ko (GI T (chJ J N) p t (zq T (chJ J N) p)+ku T p t):=by constructor<;>omega
   rcases cu (decide (ku T p t>0)) with q22|q22
   ·rcases cu (anyP (chJ J N).length (suJ T p t (chJ J N))) with q32|q32
    ·refine Ed (ivn3 (w1',e1',K) l0 l1 l2 l3 J T (zN N) N p t _) (Cw (hR _ rfl)) hA (fun a7 w7 hA=>jc (by kernel_rfl) ⟨t+1,ht2,?_,by omega⟩) (by (repeat' (first|exact trivial|apply And.intro))<;>first|exact cE.refl _ _|exact fun _ _=>cL.refl _ _|exact ce rfl|exact cg _ _|exact ci _ _|(with_reducible assumption)|omega|with_reducible rfl|(simp only[cc];omega)|(intro j hj;exact absurd hj (cj _))|exact q22|exact q32|exact g1|exact g2|exact g3|rfl);rw[show GI T (chJ J N) p (t+1) (zq T (chJ J N) p)=GI T (chJ J N) p t (zq T (chJ J N) p)+ku T p t from chY q22 q32];exact hA
    ·refine Ed (ivn2 (w1',e1',K) l0 l1 l2 l3 J T (zN N) N p t _) (Cw (hR _ rfl)) hA (fun a7 w7 hA=>jc (by kernel_rfl) ⟨t+1,ht2,?_,by omega⟩) (by (repeat' (first|exact trivial|apply And.intro))<;>first|exact cE.refl _ _|exact fun _ _=>cL.refl _ _|exact ce rfl|exact cg _ _|exact ci _ _|(with_reducible assumption)|omega|with_reducible rfl|(simp only[cc];omega)|(intro j hj;exact absurd hj (cj _))|exact q22|exact q32|exact g1|exact g2|rfl);rw[show GI T (chJ J N) p (t+1) (zq T (chJ J N) p)=GI T (chJ J N) p t (zq T (chJ J N) p) from step_no q22 q32];exact hA
   ·refine Ed (ivn1 (w1',e1',K) l0 l1 l2 l3 J T (zN N) N p t _) (Cw (hR _ rfl)) hA (fun a7 w7 hA=>jc (by kernel_rfl) ⟨t+1,ht2,?_,by omega⟩) (by (repeat' (first|exact trivial|apply And.intro))<;>first|exact cE.refl _ _|exact fun _ _=>cL.refl _ _|exact ce rfl|exact cg _ _|exact ci _ _|(with_reducible assumption)|omega|with_reducible rfl|(simp only[cc];omega)|(intro j hj;exact absurd hj (cj _))|exact q22|exact g1|exact g2|rfl);rw[show GI T (chJ J N) p (t+1) (zq T (chJ J N) p)=GI T (chJ J N) p t (zq T (chJ J N) p) from ciQ q22];exact hA
  ·have p14:=cO q14;obtain rfl:t=T.length:=by omega
   refine Ed (ivnx (w1',e1',K) l0 l1 l2 l3 J T (zN N) N p T.length _) (Cw (hR _ rfl)) hA (fun a7 w7 hA=>jp _ (by kernel_rfl) ?_) (by (repeat' (first|exact trivial|apply And.intro))<;>first|exact cE.refl _ _|exact fun _ _=>cL.refl _ _|exact ce rfl|exact cg _ _|exact ci _ _|(with_reducible assumption)|omega|with_reducible rfl|(simp only[cc];omega)|(intro j hj;exact absurd hj (cj _))|rfl|rfl);refine zr 100 (kvisits156_nlnnt) ?_;refine Ed (ivr (w1',e1',K) l0 l1 l2 l3 J T (zN N) N p T.length _) (Cw (hR _ rfl)) hA (fun a8 w8 hA=>jc (by kernel_rfl) ⟨p+1,hp1,hA,by omega⟩) (by (repeat' (first|exact trivial|apply And.intro))<;>first|exact cE.refl _ _|exact fun _ _=>cL.refl _ _|exact ce rfl|exact cg _ _|exact ci _ _|(with_reducible assumption)|omega|with_reducible rfl|(simp only[cc];omega)|(intro j hj;exact absurd hj (cj _))|rfl|rfl)
 ·have p9:=cO q9;obtain rfl:p=cal T:=by omega
  refine Ed (ivx (w1',e1',K) l0 l1 l2 l3 J T (zN N) N (cal T) _) (Cw (hR _ rfl)) hA (fun a5 w5 hA=>jp _ (by kernel_rfl) ?_) (by (repeat' (first|exact trivial|apply And.intro))<;>first|exact cE.refl _ _|exact fun _ _=>cL.refl _ _|exact ce rfl|exact cg _ _|exact ci _ _|(with_reducible assumption)|omega|with_reducible rfl|(simp only[cc];omega)|(intro j hj;exact absurd hj (cj _))|rfl|rfl);refine jc (by kernel_rfl) ⟨.inr rfl,itO l0 l1 l2 l3 (w.heap.size,65) J T N (cal T) (zq T (chJ J N) (cal T)),_,_,_,_,_,_,rfl,hA,rfl,fun a6 w6 hA=>?_⟩;rcases cu (decide ((N.length:Int)>zq T (chJ J N) (cal T))) with q41|q41
  ·rw[q41];exact cS (pvt l0 l1 l2 l3 J T (zN N) N _) (hR _ rfl) hA (by (repeat' (first|exact trivial|apply And.intro))<;>first|exact cE.refl _ _|exact fun _ _=>cL.refl _ _|exact ce rfl|exact cg _ _|exact ci _ _|(with_reducible assumption)|omega|with_reducible rfl|(simp only[cc];omega)|(intro j hj;exact absurd hj (cj _))|exact q41|rfl)
  ·rw[q41];exact cS (pvf l0 l1 l2 l3 J T (zN N) N _) (hR _ rfl) hA (by (repeat' (first|exact trivial|apply And.intro))<;>first|exact cE.refl _ _|exact fun _ _=>cL.refl _ _|exact ce rfl|exact cg _ _|exact ci _ _|(with_reducible assumption)|omega|with_reducible rfl|(simp only[cc];omega)|(intro j hj;exact absurd hj (cj _))|exact q41|rfl)
end Pe.F
namespace Pe.F
noncomputable def kJobs8_:List Kp:=[.code (codeOf Tryz.f8)]
noncomputable def kJobs8_n:List Kp:=next kJobs8_
noncomputable def kJobs8_nl:List Kp:=[.code (jq kJobs8_n)]
noncomputable def kJobs8_nt:List Kp:=kJobs8_n.tail
theorem cbF {J:List Jb}{i:Nat}(hi:i<J.length) (h:(J.getD i default).1<0\/(J.getD i default).1>7\/(J.getD i default).2<0\/(J.getD i default).2>200):kq J=false:=by
 cases hj:kq J with
 |false=>rfl
 |true =>
  have:=(YI hj).2 i hi;omega
theorem okJ_yes {J:List Jb}(h:∀ i,i<J.length->0<=(J.getD i default).1/\(J.getD i default).1<=7/\0<=(J.getD i default).2/\(J.getD i default).2<=200):kq J=decide ((J.length:Int)<=30):=by
 unfold kq;rw[yH (fun i hi=>?_)]
 ·simp
 ·have:=h i hi;unfold uq Kj;rw[yN.2 ⟨this.1,this.2.1⟩,yN.2 this.2.2];rfl
abbrev rjI (l0:Nat×Nat) (J:List Jb) (i:Nat):St Dx:=⟨1,[(0,.val (.one (.sym 0 0))),(3,.val (.one (.lit (ii (i:Int)))))],[(0,.cls (.ls (lst l0.1 l0.2 2 J fJ)))],[]⟩
theorem rja {w:World}(l0:Nat×Nat) (J:List Jb):run w ⟨[],[],[]⟩ 8 43 kJobs8_ (stA [pJs l0 J]) (rjI l0 J 0)=some (.normal,[sD w (.ls (lst l0.1 l0.2 2 J fJ)),ii (↑0:Int)=Value.int IntKind.i64 0]):=by kernel_rfl
theorem rjt {w:World}(l0:Nat×Nat) (J:List Jb) (i:Nat):runR w ⟨[(8,42,true)],[],[]⟩ 8 43 Tryz.f8 kJobs8_nt (rjI l0 J i) (rB true)=some (.ret,[decide ((J.length:Int)<=30)=true,eA (Value.bool true)]):=by kernel_rfl
theorem rjf {w:World}(l0:Nat×Nat) (J:List Jb) (i:Nat):runR w ⟨[(8,42,false)],[],[]⟩ 8 43 Tryz.f8 kJobs8_nt (rjI l0 J i) (rB false)=some (.ret,[decide ((J.length:Int)<=30)=false,eA (Value.bool false)]):=by kernel_rfl
noncomputable abbrev rjbTe0 (w:World) (l0:Nat×Nat) (J:List Jb) (i:Nat) (o:List (Nat×Nat×Bool)):=run w ⟨o,[],[]⟩ 8 43 kJobs8_nl (rjI l0 J i) (rjI l0 J i)
noncomputable abbrev rjbTnal (w:World) (l0:Nat×Nat) (J:List Jb) (i:Nat) (o:List (Nat×Nat×Bool)):=run w ⟨o,[],[]⟩ 8 43 kJobs8_nl (rjI l0 J i) (rjI l0 J (i+1))
noncomputable abbrev rjbR (w:World) (l0:Nat×Nat) (J:List Jb) (i:Nat) (o:List (Nat×Nat×Bool)):=runR w ⟨o,[],[]⟩ 8 43 Tryz.f8 kJobs8_nl (rjI l0 J i) (rB (kq J))
theorem rjb0 {w:World}(l0:Nat×Nat) (J:List Jb) (i:Nat):rjbR w l0 J i [(8,7,true),(8,15,true)]=some (.ret,[decide ((i:Int)<(J.length:Int))=true,i<J.length,i<J.length,decide ((J.getD i default).1<0)=true,Value.bool (kq J)=Value.bool false]):=by kernel_rfl
theorem rjb1 {w:World}(l0:Nat×Nat) (J:List Jb) (i:Nat):rjbR w l0 J i [(8,7,true),(8,15,false),(8,22,true)]=some (.ret,[decide ((i:Int)<(J.length:Int))=true,i<J.length,i<J.length,decide ((J.getD i default).1<0)=false,i<J.length,i<J.length,decide ((J.getD i default).1>7)=true,Value.bool (kq J)=Value.bool false]):=by kernel_rfl
theorem rjb2 {w:World}(l0:Nat×Nat) (J:List Jb) (i:Nat):rjbR w l0 J i [(8,7,true),(8,15,false),(8,22,false),(8,30,true)]=some (.ret,[decide ((i:Int)<(J.length:Int))=true,i<J.length,i<J.length,decide ((J.getD i default).1<0)=false,i<J.length,i<J.length,decide ((J.getD i default).1>7)=false,i<J.length,i<J.length,decide ((J.getD i default).2<0)=true,Value.bool (kq J)=Value.bool false]):=by kernel_rfl
theorem rjb3 {w:World}(l0:Nat×Nat) (J:List Jb) (i:Nat):rjbR w l0 J i [(8,7,true),(8,15,false),(8,22,false),(8,30,false),(8,38,true)]=some (.ret,[decide ((i:Int)<(J.length:Int))=true,i<J.length,i<J.length,decide ((J.getD i default).1<0)=false,i<J.length,i<J.length,decide ((J.getD i default).1>7)=false,i<J.length,i<J.length,decide ((J.getD i default).2<0)=false,i<J.length,i<J.length,decide ((J.getD i default).2>200)=true,Value.bool (kq J)=Value.bool false]):=by kernel_rfl
theorem rjb4 {w:World}(l0:Nat×Nat) (J:List Jb) (i:Nat):rjbTnal w l0 J i [(8,7,true),(8,15,false),(8,22,false),(8,30,false),(8,38,false)]=some (.normal,[decide ((i:Int)<(J.length:Int))=true,i<J.length,i<J.length,decide ((J.getD i default).1<0)=false,i<J.length,i<J.length,decide ((J.getD i default).1>7)=false,i<J.length,i<J.length,decide ((J.getD i default).2<0)=false,i<J.length,i<J.length,decide ((J.getD i default).2>200)=false,ko ((i:Int)+1),sD w (.ls (lst l0.1 l0.2 2 J fJ)),ii (↑(i+1):Int)=Value.int IntKind.i64 ((i:Int)+1)]):=by kernel_rfl
theorem rjb5 {w:World}(l0:Nat×Nat) (J:List Jb) (i:Nat):rjbTe0 w l0 J i [(8,7,false)]=some (.exit 0,[decide ((i:Int)<(J.length:Int))=false,sD w (.ls (lst l0.1 l0.2 2 J fJ)),eA (ii (i:Int))]):=by kernel_rfl
theorem rj_ok (hN:cU) (l0:Nat×Nat) (J:List Jb) (hl:J.length<=1000000):uG 8 [pJs l0 J] (fun _=>rB (kq J)):=by
 intro w vs hG hp;refine kM hG hN (ex:=[]) jF (fn:=Tryz.f8) Tryz.func8 (c:=codeOf Tryz.f8) (by kernel_rfl) (args:=[pJs l0 J]) (by kernel_rfl) hp (fun hR _ hA=>?_);refine cZ (rja l0 J) (hR _ rfl) hA (fun a w1 hA=>jw ?_);refine kb (fun i=>rjI l0 J i) (fun i=>i<=J.length/\∀ k,k<i->0<=(J.getD k default).1/\(J.getD k default).1<=7/\0<=(J.getD k default).2/\(J.getD k default).2<=200) (fun i=>J.length-i) (L:=kJobs8_n) (ks:=kJobs8_nt) (id:=0) (c:=jq kJobs8_n) (by kernel_rfl) 0 ⟨cQ _,by omega⟩ hA (fun i a2 w2 hi hA=>?_);rcases cu (decide ((i:Int)<(J.length:Int))) with q7|q7
 ·skip
  have p7:=cH q7;rcases cu (decide ((J.getD i default).1<0)) with q15|q15
  ·skip
   have p15:=cH q15;have e0:=cw Value.bool (cbF (J:=J) (i:=i) (by omega) (by omega));refine cS (rjb0 l0 J i) (hR _ rfl) hA (by (repeat' (first|exact trivial|apply And.intro))<;>first|exact cE.refl _ _|exact fun _ _=>cL.refl _ _|exact ce rfl|exact cg _ _|exact ci _ _|(with_reducible assumption)|omega|with_reducible rfl|(simp only[cc];omega)|(intro j hj;exact absurd hj (cj _))|exact e0|exact e0.symm|exact q15|exact q22|exact q30|exact q38|rfl)
  ·skip
   have p15:=cO q15;rcases cu (decide ((J.getD i default).1>7)) with q22|q22
   ·skip
    have p22:=cH q22;have e0:=cw Value.bool (cbF (J:=J) (i:=i) (by omega) (by omega));refine cS (rjb1 l0 J i) (hR _ rfl) hA (by (repeat' (first|exact trivial|apply And.intro))<;>first|exact cE.refl _ _|exact fun _ _=>cL.refl _ _|exact ce rfl|exact cg _ _|exact ci _ _|(with_reducible assumption)|omega|with_reducible rfl|(simp only[cc];omega)|(intro j hj;exact absurd hj (cj _))|exact e0|exact e0.symm|exact q15|exact q22|exact q30|exact q38|rfl)
   ·skip
    have p22:=cO q22;rcases cu (decide ((J.getD i default).2<0)) with q30|q30
    ·skip
     have p30:=cH q30;have e0:=cw Value.bool (cbF (J:=J) (i:=i) (by omega) (by omega));refine cS (rjb2 l0 J i) (hR _ rfl) hA (by (repeat' (first|exact trivial|apply And.intro))<;>first|exact cE.refl _ _|exact fun _ _=>cL.refl _ _|exact ce rfl|exact cg _ _|exact ci _ _|(with_reducible assumption)|omega|with_reducible rfl|(simp only[cc];omega)|(intro j hj;exact absurd hj (cj _))|exact e0|exact e0.symm|exact q15|exact q22|exact q30|exact q38|rfl)
    ·skip
     have p30:=cO q30;rcases cu (decide ((J.getD i default).2>200)) with q38|q38
     ·skip
      have p38:=cH q38;have e0:=cw Value.bool (cbF (J:=J) (i:=i) (by omega) (by omega));refine cS (rjb3 l0 J i) (hR _ rfl) hA (by (repeat' (first|exact trivial|apply And.intro))<;>first|exact cE.refl _ _|exact fun _ _=>cL.refl _ _|exact ce rfl|exact cg _ _|exact ci _ _|(with_reducible assumption)|omega|with_reducible rfl|(simp only[cc];omega)|(intro j hj;exact absurd hj (cj _))|exact e0|exact e0.symm|exact q15|exact q22|exact q30|exact q38|rfl)
     ·skip
      have p38:=cO q38;refine cZ (rjb4 l0 J i) (hR _ rfl) hA (fun aT wT hT=>?_) (by (repeat' (first|exact trivial|apply And.intro))<;>first|exact cE.refl _ _|exact fun _ _=>cL.refl _ _|exact ce rfl|exact cg _ _|exact ci _ _|(with_reducible assumption)|omega|with_reducible rfl|(simp only[cc];omega)|(intro j hj;exact absurd hj (cj _))|exact e0|exact e0.symm|exact q15|exact q22|exact q30|exact q38|rfl);exact jc (by kernel_rfl) ⟨i+1,⟨by omega,fun k hk=>by rcases Nat.lt_succ_iff_lt_or_eq.1 hk with h|rfl;exact hi.2 k h;omega⟩,hT,by omega⟩
 ·skip
  have p7:=cO q7;refine cZ (rjb5 l0 J i) (hR _ rfl) hA (fun aT wT hT=>?_) (by (repeat' (first|exact trivial|apply And.intro))<;>first|exact cE.refl _ _|exact fun _ _=>cL.refl _ _|exact ce rfl|exact cg _ _|exact ci _ _|(with_reducible assumption)|omega|with_reducible rfl|(simp only[cc];omega)|(intro j hj;exact absurd hj (cj _))|exact e0|exact e0.symm|exact q15|exact q22|exact q30|exact q38|rfl);refine jp _ (by kernel_rfl) ?_;rw[okJ_yes (J:=J) (fun k hk=>hi.2 k (by omega))];rcases cu (decide ((J.length:Int)<=30)) with q42|q42
  ·rw[q42];exact cS (rjt l0 J i) (hR _ rfl) hT (by (repeat' (first|exact trivial|apply And.intro))<;>first|exact cE.refl _ _|exact fun _ _=>cL.refl _ _|exact ce rfl|exact cg _ _|exact ci _ _|(with_reducible assumption)|omega|with_reducible rfl|(simp only[cc];omega)|(intro j hj;exact absurd hj (cj _))|exact q42|rfl)
  ·rw[q42];exact cS (rjf l0 J i) (hR _ rfl) hT (by (repeat' (first|exact trivial|apply And.intro))<;>first|exact cE.refl _ _|exact fun _ _=>cL.refl _ _|exact ce rfl|exact cg _ _|exact ci _ _|(with_reducible assumption)|omega|with_reducible rfl|(simp only[cc];omega)|(intro j hj;exact absurd hj (cj _))|exact q42|rfl)
theorem suit_eq {T:List Tm}(h:jY T=true) {p t a d:Int}:kN T p t a d=(decide (t>=0)&&(decide (t<(T.length:Int))&&(cbi (T.getD t.toNat default).1.1 a&&(decide (p>=0)&&(decide (p<(((T.getD t.toNat default).2.length:Nat):Int))&&decide (p<=d)))))):=by
 rw[Gs];unfold kN;simp only[GA,yN,Kt];constructor
 ·rintro⟨⟨⟨h1,h2⟩,h3,h4⟩,h5⟩;have h6:t.toNat<T.length:=by omega
  rw[((yL h).2.2 _ h6).1];have:cbK ((cal T:Int)-1) d<=(cal T:Int)-1/\cbK ((cal T:Int)-1) d<=d:=by unfold cbK;split<;>constructor<;>omega
  exact⟨h1,by omega,h5,h3,by omega,by omega⟩
 ·rintro⟨h1,h2,h5,h3,h4,h7⟩;have h6:t.toNat<T.length:=by omega
  rw[((yL h).2.2 _ h6).1] at h4;have:p<=cbK ((cal T:Int)-1) d:=by unfold cbK;split<;>omega
  exact⟨⟨⟨h1,by omega⟩,h3,this⟩,h5⟩
theorem rs1 {w:World}(l0:Nat×Nat) (l1:Nat×Bool) (T:List Tm) (p t a d:Int):runA w ⟨[(29,9,false)],[],[]⟩ 29 55 Tryz.f29 (stA [pJb a d,pTs l0 l1 T,pVs p t]) (rB false)=some (.ret,[decide (t>=0)=false,eA (Value.bool false)]):=by kernel_rfl
theorem rs2 {w:World}(l0:Nat×Nat) (l1:Nat×Bool) (T:List Tm) (p t a d:Int):runA w ⟨[(29,9,true),(29,15,false)],[],[]⟩ 29 55 Tryz.f29 (stA [pJb a d,pTs l0 l1 T,pVs p t]) (rB false)=some (.ret,[decide (t>=0)=true,decide (t<(T.length:Int))=false,eA (Value.bool false)]):=by kernel_rfl
theorem rs3 {w:World}(l0:Nat×Nat) (l1:Nat×Bool) (T:List Tm) (p d:Int) (t a:Nat):runA w ⟨[(29,9,true),(29,15,true),(29,29,false)],[],[]⟩ 29 55 Tryz.f29 (stA [pJb (Int.ofNat a) d,pTs l0 l1 T,pVs p (Int.ofNat t)]) (rB false)=some (.ret,[decide (Int.ofNat t>=0)=true,decide (Int.ofNat t<(T.length:Int))=true,t<T.length,t<T.length,a<=4000000000,a<=8,(T.getD t default).1.1/Nat.pow 2 a<=255,decide (Int.ofNat (((T.getD t default).1.1/Nat.pow 2 a).mod 2)=1)=false,eA (Value.bool false)]):=by kernel_rfl
theorem rs4 {w:World}(l0:Nat×Nat) (l1:Nat×Bool) (T:List Tm) (p d:Int) (t a:Nat):runA w ⟨[(29,9,true),(29,15,true),(29,29,true),(29,34,false)],[],[]⟩ 29 55 Tryz.f29 (stA [pJb (Int.ofNat a) d,pTs l0 l1 T,pVs p (Int.ofNat t)]) (rB false)=some (.ret,[decide (Int.ofNat t>=0)=true,decide (Int.ofNat t<(T.length:Int))=true,t<T.length,t<T.length,a<=4000000000,a<=8,(T.getD t default).1.1/Nat.pow 2 a<=255,decide (Int.ofNat (((T.getD t default).1.1/Nat.pow 2 a).mod 2)=1)=true,decide (p>=0)=false,eA (Value.bool false)]):=by kernel_rfl
theorem rs5 {w:World}(l0:Nat×Nat) (l1:Nat×Bool) (T:List Tm) (p d:Int) (t a:Nat):runA w ⟨[(29,9,true),(29,15,true),(29,29,true),(29,34,true),(29,46,false)],[],[]⟩ 29 55 Tryz.f29 (stA [pJb (Int.ofNat a) d,pTs l0 l1 T,pVs p (Int.ofNat t)]) (rB false)=some (.ret,[decide (Int.ofNat t>=0)=true,decide (Int.ofNat t<(T.length:Int))=true,t<T.length,t<T.length,a<=4000000000,a<=8,(T.getD t default).1.1/Nat.pow 2 a<=255,decide (Int.ofNat (((T.getD t default).1.1/Nat.pow 2 a).mod 2)=1)=true,decide (p>=0)=true,t<T.length,t<T.length,decide (p<(↑(T.getD t default).2.length:Int))=false,eA (Value.bool false)]):=by kernel_rfl
theorem rs6 {w:World}(l0:Nat×Nat) (l1:Nat×Bool) (T:List Tm) (p d:Int) (t a:Nat):runA w ⟨[(29,9,true),(29,15,true),(29,29,true),(29,34,true),(29,46,true),(29,53,false)],[],[]⟩ 29 55 Tryz.f29 (stA [pJb (Int.ofNat a) d,pTs l0 l1 T,pVs p (Int.ofNat t)]) (rB false)=some (.ret,[decide (Int.ofNat t>=0)=true,decide (Int.ofNat t<(T.length:Int))=true,t<T.length,t<T.length,a<=4000000000,a<=8,(T.getD t default).1.1/Nat.pow 2 a<=255,decide (Int.ofNat (((T.getD t default).1.1/Nat.pow 2 a).mod 2)=1)=true,decide (p>=0)=true,t<T.length,t<T.length,decide (p<(↑(T.getD t default).2.length:Int))=true,decide (p<=d)=false,eA (Value.bool false)]):=by kernel_rfl
theorem rs7 {w:World}(l0:Nat×Nat) (l1:Nat×Bool) (T:List Tm) (p d:Int) (t a:Nat):runA w ⟨[(29,9,true),(29,15,true),(29,29,true),(29,34,true),(29,46,true),(29,53,true)],[],[]⟩ 29 55 Tryz.f29 (stA [pJb (Int.ofNat a) d,pTs l0 l1 T,pVs p (Int.ofNat t)]) (rB true)=some (.ret,[decide (Int.ofNat t>=0)=true,decide (Int.ofNat t<(T.length:Int))=true,t<T.length,t<T.length,a<=4000000000,a<=8,(T.getD t default).1.1/Nat.pow 2 a<=255,decide (Int.ofNat (((T.getD t default).1.1/Nat.pow 2 a).mod 2)=1)=true,decide (p>=0)=true,t<T.length,t<T.length,decide (p<(↑(T.getD t default).2.length:Int))=true,decide (p<=d)=true,eA (Value.bool true)]):=by kernel_rfl
theorem rs_ok (hN:cU) (l0:Nat×Nat) (l1:Nat×Bool) (T:List Tm) (p t a d:Int) (hT:jY T=true) (hk:Sk8 T) (ha:0<=a) (ha':a<=7):uG 29 [pJb a d,pTs l0 l1 T,pVs p t] (fun _=>rB (kN T p t a d)):=by
 intro w vs hG hp;refine kM hG hN (ex:=[]) jF (fn:=Tryz.f29) Tryz.func29 (c:=codeOf Tryz.f29) (by kernel_rfl) (args:=[pJb a d,pTs l0 l1 T,pVs p t]) (by kernel_rfl) hp (fun hR _ hA=>?_);rw[suit_eq hT];rcases cu (decide (t>=0)) with q9|q9
 rotate_left
 ·rw[q9];exact EG (rs1 l0 l1 T p t a d) (hR _ rfl) hA (by (repeat' (first|exact trivial|apply And.intro))<;>first|exact cE.refl _ _|exact fun _ _=>cL.refl _ _|exact ce rfl|exact cg _ _|exact ci _ _|(with_reducible assumption)|omega|with_reducible rfl|(simp only[cc];omega)|(intro j hj;exact absurd hj (cj _))|exact q9|rfl)
 rcases cu (decide (t<(T.length:Int))) with q15|q15
 rotate_left
 ·rw[q9,q15];exact EG (rs2 l0 l1 T p t a d) (hR _ rfl) hA (by (repeat' (first|exact trivial|apply And.intro))<;>first|exact cE.refl _ _|exact fun _ _=>cL.refl _ _|exact ce rfl|exact cg _ _|exact ci _ _|(with_reducible assumption)|omega|with_reducible rfl|(simp only[cc];omega)|(intro j hj;exact absurd hj (cj _))|exact q9|exact q15|rfl)
 have p9:=cH q9;have p15:=cH q15;obtain⟨t',rfl⟩:∃ n:Nat,t=Int.ofNat n:=⟨t.toNat,(Ev p9).symm⟩;obtain⟨a',rfl⟩:∃ n:Nat,a=Int.ofNat n:=⟨a.toNat,(Ev ha).symm⟩;have ht:t'<T.length:=by simp only[cbX] at p15;omega
 have ha8:a'<=8:=by simp only[cbX] at ha';omega
 have ha9:a'<=4000000000:=by omega
 have hs:(T.getD t' default).1.1/Nat.pow 2 a'<=255:=cB (kz _ _) (hk t' ht);rcases cu (cbi (T.getD t' default).1.1 (Int.ofNat a')) with q29|q29
 rotate_left
 ·rw[q9,q15,show cbi (T.getD (Int.ofNat t').toNat default).1.1 (Int.ofNat a')=false from q29];exact EG (rs3 l0 l1 T p d t' a') (hR _ rfl) hA (by (repeat' (first|exact trivial|apply And.intro))<;>first|exact cE.refl _ _|exact fun _ _=>cL.refl _ _|exact ce rfl|exact cg _ _|exact ci _ _|(with_reducible assumption)|omega|with_reducible rfl|(simp only[cc];omega)|(intro j hj;exact absurd hj (cj _))|exact q9|exact q15|exact q29|rfl)
 rcases cu (decide (p>=0)) with q34|q34
 rotate_left
 ·rw[q9,q15,show cbi (T.getD (Int.ofNat t').toNat default).1.1 (Int.ofNat a')=true from q29,q34];exact EG (rs4 l0 l1 T p d t' a') (hR _ rfl) hA (by (repeat' (first|exact trivial|apply And.intro))<;>first|exact cE.refl _ _|exact fun _ _=>cL.refl _ _|exact ce rfl|exact cg _ _|exact ci _ _|(with_reducible assumption)|omega|with_reducible rfl|(simp only[cc];omega)|(intro j hj;exact absurd hj (cj _))|exact q9|exact q15|exact q29|exact q34|rfl)
 rcases cu (decide (p<(((T.getD t' default).2.length:Nat):Int))) with q46|q46
 rotate_left
 ·rw[q9,q15,show cbi (T.getD (Int.ofNat t').toNat default).1.1 (Int.ofNat a')=true from q29,q34,show decide (p<(((T.getD (Int.ofNat t').toNat default).2.length:Nat):Int))=false from q46];exact EG (rs5 l0 l1 T p d t' a') (hR _ rfl) hA (by (repeat' (first|exact trivial|apply And.intro))<;>first|exact cE.refl _ _|exact fun _ _=>cL.refl _ _|exact ce rfl|exact cg _ _|exact ci _ _|(with_reducible assumption)|omega|with_reducible rfl|(simp only[cc];omega)|(intro j hj;exact absurd hj (cj _))|exact q9|exact q15|exact q29|exact q34|exact q46|rfl)
 rcases cu (decide (p<=d)) with q53|q53
 ·rw[q9,q15,show cbi (T.getD (Int.ofNat t').toNat default).1.1 (Int.ofNat a')=true from q29,q34,show decide (p<(((T.getD (Int.ofNat t').toNat default).2.length:Nat):Int))=true from q46,q53];exact EG (rs7 l0 l1 T p d t' a') (hR _ rfl) hA (by (repeat' (first|exact trivial|apply And.intro))<;>first|exact cE.refl _ _|exact fun _ _=>cL.refl _ _|exact ce rfl|exact cg _ _|exact ci _ _|(with_reducible assumption)|omega|with_reducible rfl|(simp only[cc];omega)|(intro j hj;exact absurd hj (cj _))|exact q9|exact q15|exact q29|exact q34|exact q46|exact q53|rfl)
 ·rw[q9,q15,show cbi (T.getD (Int.ofNat t').toNat default).1.1 (Int.ofNat a')=true from q29,q34,show decide (p<(((T.getD (Int.ofNat t').toNat default).2.length:Nat):Int))=true from q46,q53];exact EG (rs6 l0 l1 T p d t' a') (hR _ rfl) hA (by (repeat' (first|exact trivial|apply And.intro))<;>first|exact cE.refl _ _|exact fun _ _=>cL.refl _ _|exact ce rfl|exact cg _ _|exact ci _ _|(with_reducible assumption)|omega|with_reducible rfl|(simp only[cc];omega)|(intro j hj;exact absurd hj (cj _))|exact q9|exact q15|exact q29|exact q34|exact q46|exact q53|rfl)
end Pe.F
namespace Pe.F
noncomputable def kTeams9_:List Kp:=[.code (codeOf Tryz.f9)]
noncomputable def kTeams9_n:List Kp:=next kTeams9_
noncomputable def kTeams9_nl:List Kp:=[.code (jq kTeams9_n)]
noncomputable def kTeams9_nln:List Kp:=next kTeams9_nl
noncomputable def kTeams9_nlnn:List Kp:=next kTeams9_nln
noncomputable def kTeams9_nlnnl:List Kp:=[.code (jq kTeams9_nlnn)]
noncomputable def kTeams9_nlnnt:List Kp:=kTeams9_nlnn.tail
noncomputable def kTeams9_nlnnth:List Kp:=EQ 100 kTeams9_nlnnt
noncomputable def kTeams9_nt:List Kp:=kTeams9_n.tail
theorem caS {T:List Tm}{i:Nat}(hi:i<T.length) (h:((T.getD i default).2.length:Int)≠(cal T:Int)\/((T.getD i default).2.length:Int)>40\/∃ k,k<(T.getD i default).2.length/\((T.getD i default).2.getD k default<0\/(T.getD i default).2.getD k default>20)):jY T=false:=by
 cases ht:jY T with
 |false=>rfl
 |true =>
  obtain⟨h1,h2,h3⟩:=yL ht;obtain⟨h4,h5⟩:=h3 i hi;exfalso;rcases h with h|h|⟨k,hk,h⟩
  ·omega
  ·omega
  ·have:=h5 k hk;omega
def goodT (T:List Tm) (i:Nat):Prop:=(T.getD i default).2.length=cal T/\(T.getD i default).2.length<=40/\∀ k,k<(T.getD i default).2.length->0<=(T.getD i default).2.getD k default/\(T.getD i default).2.getD k default<=20
theorem okT_yes {T:List Tm}(h:∀ i,i<T.length->goodT T i):jY T=decide ((T.length:Int)<=8):=by
 have hc:cal T<=40:=by
  rcases jr T.length with h0|h0
  ·unfold cal;rw[List.length_eq_zero_iff.1 h0];exact cQ _
  ·exact(h 0 h0).2.1
 unfold jY;rw[yH (fun i hi=>?_),uk (show ((cal T:Nat):Int)<=40 by omega)]
 ·simp
 ·obtain⟨h1,_,h2⟩:=h i hi;unfold kF badT;rw[h1,yH (fun k hk=>?_)]
  ·simp
  ·unfold uj caz;rw[yN.2 (h2 k (by rw[h1];exact hk))];rfl
abbrev rtI (l0:Nat×Nat) (l1:Nat×Bool) (T:List Tm) (i:Nat):St Dx:=⟨1,[(0,.val (.one (.sym 0 0))),(3,.val (.one (.lit (ii (i:Int)))))],[(0,.cls (.ls (lst l0.1 l0.2 2 T (fTm l1))))],[]⟩
abbrev rtN (l0:Nat×Nat) (l1:Nat×Bool) (T:List Tm) (i k:Nat):St Dx:=⟨1,[(0,.val (.one (.sym 0 0))),(3,.val (.one (.lit (ii (i:Int))))),(4,.val (.one (.lit (ii (k:Int)))))],[(0,.cls (.ls (lst l0.1 l0.2 2 T (fTm l1))))],[]⟩
theorem rta {w:World}(l0:Nat×Nat) (l1:Nat×Bool) (T:List Tm):run w ⟨[],[],[]⟩ 9 65 kTeams9_ (stA [pTs l0 l1 T]) (rtI l0 l1 T 0)=some (.normal,[sD w (.ls (lst l0.1 l0.2 2 T (fTm l1))),ii (↑0:Int)=Value.int IntKind.i64 0]):=by kernel_rfl
theorem rtb {w:World}(l0:Nat×Nat) (l1:Nat×Bool) (T:List Tm) (i:Nat):run w ⟨[(9,8,true)],[],[]⟩ 9 65 kTeams9_nl (rtI l0 l1 T i) (rtI l0 l1 T i)=some (.normal,[decide ((i:Int)<(T.length:Int))=true,sD w (.ls (lst l0.1 l0.2 2 T (fTm l1))),eA (ii (i:Int))]):=by kernel_rfl
theorem rtx {w:World}(l0:Nat×Nat) (l1:Nat×Bool) (T:List Tm) (i:Nat):run w ⟨[(9,8,false)],[],[]⟩ 9 65 kTeams9_nl (rtI l0 l1 T i) (rtI l0 l1 T i)=some (.exit 0,[decide ((i:Int)<(T.length:Int))=false,sD w (.ls (lst l0.1 l0.2 2 T (fTm l1))),eA (ii (i:Int))]):=by kernel_rfl
theorem rtp {w:World}(l0:Nat×Nat) (l1:Nat×Bool) (T:List Tm) (i:Nat):runR w ⟨[(9,22,true)],[],[]⟩ 9 65 Tryz.f9 kTeams9_nln (rtI l0 l1 T i) (rB false)=some (.ret,[i<T.length,i<T.length,0<T.length,0<T.length,decide ((↑(T.getD i default).2.length:Int)≠(↑(T.getD 0 default).2.length:Int))=true,eA (Value.bool false)]):=by kernel_rfl
theorem rtq {w:World}(l0:Nat×Nat) (l1:Nat×Bool) (T:List Tm) (i:Nat):runR w ⟨[(9,22,false),(9,30,true)],[],[]⟩ 9 65 Tryz.f9 kTeams9_nln (rtI l0 l1 T i) (rB false)=some (.ret,[i<T.length,i<T.length,0<T.length,0<T.length,decide ((↑(T.getD i default).2.length:Int)≠(↑(T.getD 0 default).2.length:Int))=false,i<T.length,i<T.length,decide ((↑(T.getD i default).2.length:Int)>40)=true,eA (Value.bool false)]):=by kernel_rfl
theorem rtc {w:World}(l0:Nat×Nat) (l1:Nat×Bool) (T:List Tm) (i:Nat):run w ⟨[(9,22,false),(9,30,false)],[],[]⟩ 9 65 kTeams9_nln (rtI l0 l1 T i) (rtN l0 l1 T i 0)=some (.normal,[i<T.length,i<T.length,0<T.length,0<T.length,decide ((↑(T.getD i default).2.length:Int)≠(↑(T.getD 0 default).2.length:Int))=false,i<T.length,i<T.length,decide ((↑(T.getD i default).2.length:Int)>40)=false,sD w (.ls (lst l0.1 l0.2 2 T (fTm l1))),eA (ii (i:Int)),ii (↑0:Int)=Value.int IntKind.i64 0]):=by kernel_rfl
theorem rtn {w:World}(l0:Nat×Nat) (l1:Nat×Bool) (T:List Tm) (i k:Nat):run w ⟨[(9,39,true),(9,50,false),(9,60,false)],[],[]⟩ 9 65 kTeams9_nlnnl (rtN l0 l1 T i k) (rtN l0 l1 T i (k+1))=some (.normal,[i<T.length,i<T.length,decide ((k:Int)<(↑(T.getD i default).2.length:Int))=true,i<T.length,i<T.length,k<(T.getD i default).2.length,k<(T.getD i default).2.length,decide ((T.getD i default).2.getD k default<0)=false,i<T.length,i<T.length,k<(T.getD i default).2.length,k<(T.getD i default).2.length,decide ((T.getD i default).2.getD k default>20)=false,ko ((k:Int)+1),sD w (.ls (lst l0.1 l0.2 2 T (fTm l1))),eA (ii (i:Int)),ii (↑(k+1):Int)=Value.int IntKind.i64 ((k:Int)+1)]):=by kernel_rfl
theorem rtr {w:World}(l0:Nat×Nat) (l1:Nat×Bool) (T:List Tm) (i k:Nat):runR w ⟨[(9,39,true),(9,50,true)],[],[]⟩ 9 65 Tryz.f9 kTeams9_nlnnl (rtN l0 l1 T i k) (rB false)=some (.ret,[i<T.length,i<T.length,decide ((k:Int)<(↑(T.getD i default).2.length:Int))=true,i<T.length,i<T.length,k<(T.getD i default).2.length,k<(T.getD i default).2.length,decide ((T.getD i default).2.getD k default<0)=true,eA (Value.bool false)]):=by kernel_rfl
theorem rts {w:World}(l0:Nat×Nat) (l1:Nat×Bool) (T:List Tm) (i k:Nat):runR w ⟨[(9,39,true),(9,50,false),(9,60,true)],[],[]⟩ 9 65 Tryz.f9 kTeams9_nlnnl (rtN l0 l1 T i k) (rB false)=some (.ret,[i<T.length,i<T.length,decide ((k:Int)<(↑(T.getD i default).2.length:Int))=true,i<T.length,i<T.length,k<(T.getD i default).2.length,k<(T.getD i default).2.length,decide ((T.getD i default).2.getD k default<0)=false,i<T.length,i<T.length,k<(T.getD i default).2.length,k<(T.getD i default).2.length,decide ((T.getD i default).2.getD k default>20)=true,eA (Value.bool false)]):=by kernel_rfl
theorem rtnx {w:World}(l0:Nat×Nat) (l1:Nat×Bool) (T:List Tm) (i k:Nat):run w ⟨[(9,39,false)],[],[]⟩ 9 65 kTeams9_nlnnl (rtN l0 l1 T i k) (rtN l0 l1 T i k)=some (.exit 2,[i<T.length,i<T.length,decide ((k:Int)<(↑(T.getD i default).2.length:Int))=false,sD w (.ls (lst l0.1 l0.2 2 T (fTm l1))),eA (ii (i:Int)),eA (ii (k:Int))]):=by kernel_rfl
theorem rti {w:World}(l0:Nat×Nat) (l1:Nat×Bool) (T:List Tm) (i k:Nat):run w ⟨[],[],[]⟩ 9 65 kTeams9_nlnnth (rtN l0 l1 T i k) (rtI l0 l1 T (i+1))=some (.normal,[ko ((i:Int)+1),sD w (.ls (lst l0.1 l0.2 2 T (fTm l1))),ii (↑(i+1):Int)=Value.int IntKind.i64 ((i:Int)+1)]):=by kernel_rfl
theorem rtt {w:World}(l0:Nat×Nat) (l1:Nat×Bool) (T:List Tm) (i:Nat):runR w ⟨[(9,64,true)],[],[]⟩ 9 65 Tryz.f9 kTeams9_nt (rtI l0 l1 T i) (rB true)=some (.ret,[decide ((T.length:Int)<=8)=true,eA (Value.bool true)]):=by kernel_rfl
theorem rtf {w:World}(l0:Nat×Nat) (l1:Nat×Bool) (T:List Tm) (i:Nat):runR w ⟨[(9,64,false)],[],[]⟩ 9 65 Tryz.f9 kTeams9_nt (rtI l0 l1 T i) (rB false)=some (.ret,[decide ((T.length:Int)<=8)=false,eA (Value.bool false)]):=by kernel_rfl
theorem rt_ok (hN:cU) (l0:Nat×Nat) (l1:Nat×Bool) (T:List Tm) (hl:T.length<=1000000) (hs:Le6 T):uG 9 [pTs l0 l1 T] (fun _=>rB (jY T)):=by
 intro w vs hG hp;refine kM hG hN (ex:=[]) jF (fn:=Tryz.f9) Tryz.func9 (c:=codeOf Tryz.f9) (by kernel_rfl) (args:=[pTs l0 l1 T]) (by kernel_rfl) hp (fun hR _ hA=>?_);refine cZ (rta l0 l1 T) (hR _ rfl) hA (fun a w1 hA=>jw ?_);refine kb (fun i=>rtI l0 l1 T i) (fun i=>i<=T.length/\∀ k,k<i->goodT T k) (fun i=>T.length-i) (L:=kTeams9_n) (ks:=kTeams9_nt) (id:=0) (c:=jq kTeams9_n) (by kernel_rfl) 0 ⟨cQ _,by omega⟩ hA (fun i a2 w2 hi hA=>?_);rcases cu (decide ((i:Int)<(T.length:Int))) with q8|q8
 ·have p8:=cH q8;have hi1:i<T.length:=by omega
  have h01:0<T.length:=by omega
  have hs1:=hs i hi1;refine cZ (rtb l0 l1 T i) (hR _ rfl) hA (fun a3 w3 hA=>jw ?_);rcases cu (decide (((T.getD i default).2.length:Int)≠(cal T:Int))) with q22|q22
  ·rw[caS hi1 (.inl (cH q22))];exact cS (rtp l0 l1 T i) (hR _ rfl) hA (by (repeat' (first|exact trivial|apply And.intro))<;>first|exact cE.refl _ _|exact fun _ _=>cL.refl _ _|exact ce rfl|exact cg _ _|exact ci _ _|(with_reducible assumption)|omega|with_reducible rfl|(simp only[cc];omega)|(intro j hj;exact absurd hj (cj _))|exact q22|rfl)
  rcases cu (decide (((T.getD i default).2.length:Int)>40)) with q30|q30
  ·rw[caS hi1 (.inr (.inl (cH q30)))];exact cS (rtq l0 l1 T i) (hR _ rfl) hA (by (repeat' (first|exact trivial|apply And.intro))<;>first|exact cE.refl _ _|exact fun _ _=>cL.refl _ _|exact ce rfl|exact cg _ _|exact ci _ _|(with_reducible assumption)|omega|with_reducible rfl|(simp only[cc];omega)|(intro j hj;exact absurd hj (cj _))|exact q22|exact q30|rfl)
  have p22:=cO q22;have p30:=cO q30;refine cZ (rtc l0 l1 T i) (hR _ rfl) hA (fun a3 w3 hA=>jw ?_) (by (repeat' (first|exact trivial|apply And.intro))<;>first|exact cE.refl _ _|exact fun _ _=>cL.refl _ _|exact ce rfl|exact cg _ _|exact ci _ _|(with_reducible assumption)|omega|with_reducible rfl|(simp only[cc];omega)|(intro j hj;exact absurd hj (cj _))|exact q22|exact q30|rfl);refine kb (fun k=>rtN l0 l1 T i k) (fun k=>k<=(T.getD i default).2.length/\∀ j,j<k->0<=(T.getD i default).2.getD j default/\(T.getD i default).2.getD j default<=20) (fun k=>(T.getD i default).2.length-k) (L:=kTeams9_nlnn) (ks:=kTeams9_nlnnt) (id:=2) (c:=jq kTeams9_nlnn) (by kernel_rfl) 0 ⟨cQ _,by omega⟩ hA (fun k a4 w4 hk hA=>?_);rcases cu (decide ((k:Int)<((T.getD i default).2.length:Int))) with q39|q39
  ·have p39:=cH q39;have hk1:k<(T.getD i default).2.length:=by omega
   rcases cu (decide ((T.getD i default).2.getD k default<0)) with q50|q50
   ·rw[caS hi1 (.inr (.inr ⟨k,hk1,.inl (cH q50)⟩))];exact cS (rtr l0 l1 T i k) (hR _ rfl) hA (by (repeat' (first|exact trivial|apply And.intro))<;>first|exact cE.refl _ _|exact fun _ _=>cL.refl _ _|exact ce rfl|exact cg _ _|exact ci _ _|(with_reducible assumption)|omega|with_reducible rfl|(simp only[cc];omega)|(intro j hj;exact absurd hj (cj _))|exact q39|exact q50|rfl)
   rcases cu (decide ((T.getD i default).2.getD k default>20)) with q60|q60
   ·rw[caS hi1 (.inr (.inr ⟨k,hk1,.inr (cH q60)⟩))];exact cS (rts l0 l1 T i k) (hR _ rfl) hA (by (repeat' (first|exact trivial|apply And.intro))<;>first|exact cE.refl _ _|exact fun _ _=>cL.refl _ _|exact ce rfl|exact cg _ _|exact ci _ _|(with_reducible assumption)|omega|with_reducible rfl|(simp only[cc];omega)|(intro j hj;exact absurd hj (cj _))|exact q39|exact q50|exact q60|rfl)
   have p50:=cO q50;have p60:=cO q60;refine cZ (rtn l0 l1 T i k) (hR _ rfl) hA (fun a5 w5 hA=>jc (by kernel_rfl) ⟨k+1,⟨hk1,fun j hj=>by rcases Nat.lt_succ_iff_lt_or_eq.1 hj with h|rfl;exact hk.2 j h;omega⟩,hA,by omega⟩) (by (repeat' (first|exact trivial|apply And.intro))<;>first|exact cE.refl _ _|exact fun _ _=>cL.refl _ _|exact ce rfl|exact cg _ _|exact ci _ _|(with_reducible assumption)|omega|with_reducible rfl|(simp only[cc];omega)|(intro j hj;exact absurd hj (cj _))|exact q39|exact q50|exact q60|rfl)
  ·have p39:=cO q39;refine cZ (rtnx l0 l1 T i k) (hR _ rfl) hA (fun a5 w5 hA=>jp _ (by kernel_rfl) ?_) (by (repeat' (first|exact trivial|apply And.intro))<;>first|exact cE.refl _ _|exact fun _ _=>cL.refl _ _|exact ce rfl|exact cg _ _|exact ci _ _|(with_reducible assumption)|omega|with_reducible rfl|(simp only[cc];omega)|(intro j hj;exact absurd hj (cj _))|exact q39|rfl);refine zr 100 (kTeams9_nlnnt) ?_;refine cZ (rti l0 l1 T i k) (hR _ rfl) hA (fun a6 w6 hA=>jc (by kernel_rfl) ⟨i+1,⟨hi1,fun j hj=>by rcases Nat.lt_succ_iff_lt_or_eq.1 hj with h|rfl;exact hi.2 j h;exact⟨by omega,by omega,fun m hm=>hk.2 m (by omega)⟩⟩,hA,by omega⟩)
 ·have p8:=cO q8;refine cZ (rtx l0 l1 T i) (hR _ rfl) hA (fun a3 w3 hA=>jp _ (by kernel_rfl) ?_);rw[okT_yes (T:=T) (fun k hk=>hi.2 k (by omega))];rcases cu (decide ((T.length:Int)<=8)) with q64|q64
  ·rw[q64];exact cS (rtt l0 l1 T i) (hR _ rfl) hA (by (repeat' (first|exact trivial|apply And.intro))<;>first|exact cE.refl _ _|exact fun _ _=>cL.refl _ _|exact ce rfl|exact cg _ _|exact ci _ _|(with_reducible assumption)|omega|with_reducible rfl|(simp only[cc];omega)|(intro j hj;exact absurd hj (cj _))|exact q64|rfl)
  ·rw[q64];exact cS (rtf l0 l1 T i) (hR _ rfl) hA (by (repeat' (first|exact trivial|apply And.intro))<;>first|exact cE.refl _ _|exact fun _ _=>cL.refl _ _|exact ce rfl|exact cg _ _|exact ci _ _|(with_reducible assumption)|omega|with_reducible rfl|(simp only[cc];omega)|(intro j hj;exact absurd hj (cj _))|exact q64|rfl)
end Pe.F
namespace Pe.F
noncomputable def kCheckPlan10_:List Kp:=[.code (codeOf Tryz.f10)]
noncomputable def kCheckPlan10_n:List Kp:=next kCheckPlan10_
noncomputable def kCheckPlan10_nl:List Kp:=[.code (jq kCheckPlan10_n)]
noncomputable def kCheckPlan10_nln:List Kp:=next kCheckPlan10_nl
noncomputable def kCheckPlan10_nlnn:List Kp:=next kCheckPlan10_nln
noncomputable def kCheckPlan10_nlnnl:List Kp:=[.code (jq kCheckPlan10_nlnn)]
noncomputable def kCheckPlan10_nlnnt:List Kp:=kCheckPlan10_nlnn.tail
noncomputable def kCheckPlan10_nlnnth:List Kp:=EQ 100 kCheckPlan10_nlnnt
noncomputable def kCheckPlan10_nlnnthn:List Kp:=next kCheckPlan10_nlnnth
noncomputable def kCheckPlan10_nt:List Kp:=kCheckPlan10_n.tail
def conRs (l0:Nat×Nat) (l1:Nat×Bool) (T:List Tm):Con
 |[.agg [.lit (.int .i64 a),.lit (.int .i64 d)],q,.agg [.lit (.int .i64 p),.lit (.int .i64 t)]]=>some (vr (.bool (kN T p t a d)),[q=pTs l0 l1 T,0<=a,a<=7])
 |_=>none
theorem ciF {lo:Nat}{l0:Nat×Nat}{l1:Nat×Bool}{w0:World}{T:List Tm}(hN:cU) (hG:Gr w0) (hlo:lo<=w0.heap.size) (hT:jY T=true) (hk:Sk8 T):∀ l r ob,conRs l0 l1 T l=some (r,ob)->cX ob->jL (Cx false lo w0) (.call 29) l r:=by
 intro l r ob h ho;unfold conRs at h;split at h
 ·injection h with h;injection h with h1 h2;subst h1;subst h2
  obtain⟨rfl,h3,h4,_⟩:=ho;exact(rs_ok hN l0 l1 T _ _ _ _ hT hk h3 h4).val hG hlo (jB Tryz.func29 (by kernel_rfl) rfl)
 ·cases h
abbrev kD (l1:Nat×Nat) (l2:Nat×Bool) (T:List Tm):List (Nat×Con):=[(29,conRs l1 l2 T)]
theorem cfP {lo:Nat}{l1:Nat×Nat}{l2:Nat×Bool}{w0:World}{T:List Tm}(hN:cU) (hG:Gr w0) (hlo:lo<=w0.heap.size) (hT:jY T=true) (hk:Sk8 T):yf false lo w0 (kD l1 l2 T):=cV (ciF hN hG hlo hT hk) jF
abbrev rcO (l0 l1:Nat×Nat) (l2:Nat×Bool) (l3:Nat×Nat) (J:List Jb) (T:List Tm) (V:List Vs):Ws Dx:=[(0,.cls (.ls (lst l0.1 l0.2 2 J fJ))),(1,.cls (.ls (lst l1.1 l1.2 2 T (fTm l2)))),(2,.cls (.ls (lst l3.1 l3.2 2 V fVs)))]
abbrev rcI (l0 l1:Nat×Nat) (l2:Nat×Bool) (l3:Nat×Nat) (J:List Jb) (T:List Tm) (V:List Vs) (i:Nat):St Dx:=⟨3,[(0,.val (.one (.sym 0 0))),(1,.val (.one (.sym 1 0))),(2,.val (.one (.sym 2 0))),(7,.val (.one (.lit (ii (i:Int)))))],rcO l0 l1 l2 l3 J T V,[]⟩
abbrev rcN (l0 l1:Nat×Nat) (l2:Nat×Bool) (l3:Nat×Nat) (J:List Jb) (T:List Tm) (V:List Vs) (i:Nat) (n:Int) (k:Nat):St Dx:=⟨3,[(0,.val (.one (.sym 0 0))),(1,.val (.one (.sym 1 0))),(2,.val (.one (.sym 2 0))),(7,.val (.one (.lit (ii (i:Int))))),(8,.val (.one (.lit (ii n)))),(9,.val (.one (.lit (ii (k:Int)))))],rcO l0 l1 l2 l3 J T V,[]⟩
theorem rca {w:World}(l0 l1:Nat×Nat) (l2:Nat×Bool) (l3:Nat×Nat) (J:List Jb) (T:List Tm) (V:List Vs):run w ⟨[],[],kD l1 l2 T⟩ 10 76 kCheckPlan10_ (stA [pJs l0 J,pTs l1 l2 T,pPl l3 V]) (rcI l0 l1 l2 l3 J T V 0)=some (.normal,[sD w (.ls (lst l0.1 l0.2 2 J fJ)),sD w (.ls (lst l1.1 l1.2 2 T (fTm l2))),sD w (.ls (lst l3.1 l3.2 2 V fVs)),ii (↑0:Int)=Value.int IntKind.i64 0]):=by kernel_rfl
theorem rcb {w:World}(l0 l1:Nat×Nat) (l2:Nat×Bool) (l3:Nat×Nat) (J:List Jb) (T:List Tm) (V:List Vs) (i:Nat):run w ⟨[(10,13,true)],[],kD l1 l2 T⟩ 10 76 kCheckPlan10_nl (rcI l0 l1 l2 l3 J T V i) (rcI l0 l1 l2 l3 J T V i)=some (.normal,[decide ((i:Int)<(J.length:Int))=true,sD w (.ls (lst l0.1 l0.2 2 J fJ)),sD w (.ls (lst l1.1 l1.2 2 T (fTm l2))),sD w (.ls (lst l3.1 l3.2 2 V fVs)),eA (ii (i:Int))]):=by kernel_rfl
theorem rcx {w:World}(l0 l1:Nat×Nat) (l2:Nat×Bool) (l3:Nat×Nat) (J:List Jb) (T:List Tm) (V:List Vs) (i:Nat):run w ⟨[(10,13,false)],[],kD l1 l2 T⟩ 10 76 kCheckPlan10_nl (rcI l0 l1 l2 l3 J T V i) (rcI l0 l1 l2 l3 J T V i)=some (.exit 0,[decide ((i:Int)<(J.length:Int))=false,sD w (.ls (lst l0.1 l0.2 2 J fJ)),sD w (.ls (lst l1.1 l1.2 2 T (fTm l2))),sD w (.ls (lst l3.1 l3.2 2 V fVs)),eA (ii (i:Int))]):=by kernel_rfl
theorem rcp {w:World}(l0 l1:Nat×Nat) (l2:Nat×Bool) (l3:Nat×Nat) (J:List Jb) (T:List Tm) (V:List Vs) (i:Nat):runR w ⟨[(10,19,true)],[],kD l1 l2 T⟩ 10 76 Tryz.f10 kCheckPlan10_nln (rcI l0 l1 l2 l3 J T V i) (rI (i:Int))=some (.ret,[decide ((i:Int)>=(V.length:Int))=true,Value.int IntKind.i64 (i:Int)=ii (i:Int)]):=by kernel_rfl
theorem rcq {w:World}(l0 l1:Nat×Nat) (l2:Nat×Bool) (l3:Nat×Nat) (J:List Jb) (T:List Tm) (V:List Vs) (i:Nat):runR w ⟨[(10,19,false),(10,30,false)],[],kD l1 l2 T⟩ 10 76 Tryz.f10 kCheckPlan10_nln (rcI l0 l1 l2 l3 J T V i) (rI (i:Int))=some (.ret,[decide ((i:Int)>=(V.length:Int))=false,i<J.length,i<J.length,i<V.length,i<V.length,kN T (V.getD i default).1 (V.getD i default).2 (J.getD i default).1 (J.getD i default).2=false,Pat.one (Grp.cls (Dx.ls (lst l1.1 l1.2 2 T (fTm l2))))=pTs l1 l2 T,0<=(J.getD i default).1,(J.getD i default).1<=7,Value.int IntKind.i64 (i:Int)=ii (i:Int)]):=by kernel_rfl
theorem rcc {w:World}(l0 l1:Nat×Nat) (l2:Nat×Bool) (l3:Nat×Nat) (J:List Jb) (T:List Tm) (V:List Vs) (i:Nat):run w ⟨[(10,19,false),(10,30,true)],[],kD l1 l2 T⟩ 10 76 kCheckPlan10_nln (rcI l0 l1 l2 l3 J T V i) (rcN l0 l1 l2 l3 J T V i 0 0)=some (.normal,[decide ((i:Int)>=(V.length:Int))=false,i<J.length,i<J.length,i<V.length,i<V.length,kN T (V.getD i default).1 (V.getD i default).2 (J.getD i default).1 (J.getD i default).2=true,Pat.one (Grp.cls (Dx.ls (lst l1.1 l1.2 2 T (fTm l2))))=pTs l1 l2 T,0<=(J.getD i default).1,(J.getD i default).1<=7,sD w (.ls (lst l0.1 l0.2 2 J fJ)),sD w (.ls (lst l1.1 l1.2 2 T (fTm l2))),sD w (.ls (lst l3.1 l3.2 2 V fVs)),eA (ii (i:Int)),ii 0=Value.int IntKind.i64 0,ii (↑0:Int)=Value.int IntKind.i64 0]):=by kernel_rfl
theorem rcn1 {w:World}(l0 l1:Nat×Nat) (l2:Nat×Bool) (l3:Nat×Nat) (J:List Jb) (T:List Tm) (V:List Vs) (i:Nat) (n:Int) (k:Nat):run w ⟨[(10,36,true),(10,47,true)],[],kD l1 l2 T⟩ 10 76 kCheckPlan10_nlnnl (rcN l0 l1 l2 l3 J T V i n k) (rcN l0 l1 l2 l3 J T V i (n+1) (k+1))=some (.normal,[decide ((k:Int)<=(i:Int))=true,k<V.length,k<V.length,i<V.length,i<V.length,decide ((V.getD k default).1=(V.getD i default).1/\(V.getD k default).2=(V.getD i default).2)=true,ko (n+1),ko ((k:Int)+1),sD w (.ls (lst l0.1 l0.2 2 J fJ)),sD w (.ls (lst l1.1 l1.2 2 T (fTm l2))),sD w (.ls (lst l3.1 l3.2 2 V fVs)),eA (ii (i:Int)),ii (n+1)=Value.int IntKind.i64 (n+1),ii (↑(k+1):Int)=Value.int IntKind.i64 ((k:Int)+1)]):=by kernel_rfl
theorem rcn2 {w:World}(l0 l1:Nat×Nat) (l2:Nat×Bool) (l3:Nat×Nat) (J:List Jb) (T:List Tm) (V:List Vs) (i:Nat) (n:Int) (k:Nat):run w ⟨[(10,36,true),(10,47,false)],[],kD l1 l2 T⟩ 10 76 kCheckPlan10_nlnnl (rcN l0 l1 l2 l3 J T V i n k) (rcN l0 l1 l2 l3 J T V i n (k+1))=some (.normal,[decide ((k:Int)<=(i:Int))=true,k<V.length,k<V.length,i<V.length,i<V.length,decide ((V.getD k default).1=(V.getD i default).1/\(V.getD k default).2=(V.getD i default).2)=false,ko ((k:Int)+1),sD w (.ls (lst l0.1 l0.2 2 J fJ)),sD w (.ls (lst l1.1 l1.2 2 T (fTm l2))),sD w (.ls (lst l3.1 l3.2 2 V fVs)),eA (ii (i:Int)),ii n=ii n,ii (↑(k+1):Int)=Value.int IntKind.i64 ((k:Int)+1)]):=by kernel_rfl
theorem rcnx {w:World}(l0 l1:Nat×Nat) (l2:Nat×Bool) (l3:Nat×Nat) (J:List Jb) (T:List Tm) (V:List Vs) (i:Nat) (n:Int) (k:Nat):run w ⟨[(10,36,false)],[],kD l1 l2 T⟩ 10 76 kCheckPlan10_nlnnl (rcN l0 l1 l2 l3 J T V i n k) (rcN l0 l1 l2 l3 J T V i n k)=some (.exit 2,[decide ((k:Int)<=(i:Int))=false,sD w (.ls (lst l0.1 l0.2 2 J fJ)),sD w (.ls (lst l1.1 l1.2 2 T (fTm l2))),sD w (.ls (lst l3.1 l3.2 2 V fVs)),eA (ii (i:Int)),ii n=ii n,eA (ii (k:Int))]):=by kernel_rfl
theorem rcr {w:World}(l0 l1:Nat×Nat) (l2:Nat×Bool) (l3:Nat×Nat) (J:List Jb) (T:List Tm) (V:List Vs) (i:Nat) (n:Int) (k:Nat):runR w ⟨[(10,67,true)],[(10,57),(10,65)],kD l1 l2 T⟩ 10 76 Tryz.f10 kCheckPlan10_nlnnth (rcN l0 l1 l2 l3 J T V i n k) (rI (i:Int))=some (.ret,[i<V.length,i<V.length,0<=(V.getD i default).2,(V.getD i default).2.toNat<T.length,(V.getD i default).2.toNat<T.length,i<V.length,i<V.length,0<=(V.getD i default).1,(V.getD i default).1.toNat<(T.getD (V.getD i default).2.toNat default).2.length,(V.getD i default).1.toNat<(T.getD (V.getD i default).2.toNat default).2.length,decide (n>(T.getD (V.getD i default).2.toNat default).2.getD (V.getD i default).1.toNat default)=true,Value.int IntKind.i64 (i:Int)=ii (i:Int)]):=by kernel_rfl
theorem rcs {w:World}(l0 l1:Nat×Nat) (l2:Nat×Bool) (l3:Nat×Nat) (J:List Jb) (T:List Tm) (V:List Vs) (i:Nat) (n:Int) (k:Nat):run w ⟨[(10,67,false)],[(10,57),(10,65)],kD l1 l2 T⟩ 10 76 kCheckPlan10_nlnnth (rcN l0 l1 l2 l3 J T V i n k) (rcN l0 l1 l2 l3 J T V i n k)=some (.normal,[i<V.length,i<V.length,0<=(V.getD i default).2,(V.getD i default).2.toNat<T.length,(V.getD i default).2.toNat<T.length,i<V.length,i<V.length,0<=(V.getD i default).1,(V.getD i default).1.toNat<(T.getD (V.getD i default).2.toNat default).2.length,(V.getD i default).1.toNat<(T.getD (V.getD i default).2.toNat default).2.length,decide (n>(T.getD (V.getD i default).2.toNat default).2.getD (V.getD i default).1.toNat default)=false,sD w (.ls (lst l0.1 l0.2 2 J fJ)),sD w (.ls (lst l1.1 l1.2 2 T (fTm l2))),sD w (.ls (lst l3.1 l3.2 2 V fVs)),eA (ii (i:Int)),ii n=ii n,eA (ii (k:Int))]):=by kernel_rfl
theorem rci {w:World}(l0 l1:Nat×Nat) (l2:Nat×Bool) (l3:Nat×Nat) (J:List Jb) (T:List Tm) (V:List Vs) (i:Nat) (n:Int) (k:Nat):run w ⟨[],[],kD l1 l2 T⟩ 10 76 kCheckPlan10_nlnnthn (rcN l0 l1 l2 l3 J T V i n k) (rcI l0 l1 l2 l3 J T V (i+1))=some (.normal,[ko ((i:Int)+1),sD w (.ls (lst l0.1 l0.2 2 J fJ)),sD w (.ls (lst l1.1 l1.2 2 T (fTm l2))),sD w (.ls (lst l3.1 l3.2 2 V fVs)),ii (↑(i+1):Int)=Value.int IntKind.i64 ((i:Int)+1)]):=by kernel_rfl
theorem rct {w:World}(l0 l1:Nat×Nat) (l2:Nat×Bool) (l3:Nat×Nat) (J:List Jb) (T:List Tm) (V:List Vs) (i:Nat):runR w ⟨[(10,73,true)],[],kD l1 l2 T⟩ 10 76 Tryz.f10 kCheckPlan10_nt (rcI l0 l1 l2 l3 J T V i) (rI (J.length:Int))=some (.ret,[decide ((V.length:Int)>(J.length:Int))=true,Value.int IntKind.i64 (J.length:Int)=goInt (J.length:Int)]):=by kernel_rfl
theorem rcf {w:World}(l0 l1:Nat×Nat) (l2:Nat×Bool) (l3:Nat×Nat) (J:List Jb) (T:List Tm) (V:List Vs) (i:Nat):runR w ⟨[(10,73,false)],[],kD l1 l2 T⟩ 10 76 Tryz.f10 kCheckPlan10_nt (rcI l0 l1 l2 l3 J T V i) (rI (-1))=some (.ret,[decide ((V.length:Int)>(J.length:Int))=false,eA (Value.int IntKind.i64 (-1))]):=by kernel_rfl
theorem cfp {V:List Vs}{k:Nat}{q:List Int}:kO V (k+1) q=if q=[(V.getD k default).1,(V.getD k default).2] then kO V k q+1 else kO V k q:=by
 show EI _ _ _ q=_;unfold EI;split
 ·rename_i h;rw[h]
 ·rfl
theorem rc_ok (hN:cU) (l0 l1:Nat×Nat) (l2:Nat×Bool) (l3:Nat×Nat) (J:List Jb) (T:List Tm) (V:List Vs) (hl:J.length<=1000000) (hv:V.length<=1000000) (hJ:kq J=true) (hT:jY T=true) (hk:Sk8 T):uG 10 [pJs l0 J,pTs l1 l2 T,pPl l3 V] (fun _=>rI (ckZ J T V)):=by
 intro w vs hG hp;refine kM hG hN (ex:=(kD l1 l2 T)) (cfP hN hG (cb _) hT hk) (fn:=Tryz.f10) Tryz.func10 (c:=codeOf Tryz.f10) (by kernel_rfl) (args:=[pJs l0 J,pTs l1 l2 T,pPl l3 V]) (by kernel_rfl) hp (fun hR _ hA=>?_);refine cZ (rca l0 l1 l2 l3 J T V) (hR _ rfl) hA (fun a w1 hA=>jw ?_);refine kb (fun i=>rcI l0 l1 l2 l3 J T V i) (fun i=>i<=J.length/\∀ k,k<i->Jw J T V k=false) (fun i=>J.length-i) (L:=kCheckPlan10_n) (ks:=kCheckPlan10_nt) (id:=0) (c:=jq kCheckPlan10_n) (by kernel_rfl) 0 ⟨cQ _,by omega⟩ hA (fun i a2 w2 hi hA=>?_);rcases cu (decide ((i:Int)<(J.length:Int))) with q13|q13
 ·have p13:=cH q13;have hi1:i<J.length:=by omega
  have hj1:=(YI hJ).2 i hi1;refine cZ (rcb l0 l1 l2 l3 J T V i) (hR _ rfl) hA (fun a3 w3 hA=>jw ?_);rcases cu (decide ((i:Int)>=(V.length:Int))) with q19|q19
  ·rw[cat (J:=J) (T:=T) (V:=V) (i:=i) hi1 (by unfold Jw;rw[q19];rfl) hi.2];exact cS (rcp l0 l1 l2 l3 J T V i) (hR _ rfl) hA (by (repeat' (first|exact trivial|apply And.intro))<;>first|exact cE.refl _ _|exact fun _ _=>cL.refl _ _|exact ce rfl|exact cg _ _|exact ci _ _|(with_reducible assumption)|omega|with_reducible rfl|(simp only[cc];omega)|(intro j hj;exact absurd hj (cj _))|exact q19|rfl)
  have p19:=cO q19;have hv1:i<V.length:=by omega
  rcases cu (suitAt J T V i) with q30|q30
  rotate_left
  ·rw[cat (J:=J) (T:=T) (V:=V) (i:=i) hi1 (by unfold Jw;rw[q19,q30];rfl) hi.2];exact cS (rcq l0 l1 l2 l3 J T V i) (hR _ rfl) hA (by (repeat' (first|exact trivial|apply And.intro))<;>first|exact cE.refl _ _|exact fun _ _=>cL.refl _ _|exact ce rfl|exact cg _ _|exact ci _ _|(with_reducible assumption)|omega|with_reducible rfl|(simp only[cc];omega)|(intro j hj;exact absurd hj (cj _))|exact q19|exact q30|exact hj1.1|exact hj1.2.1|rfl)
  have hU:=cfm hT q30;refine cZ (rcc l0 l1 l2 l3 J T V i) (hR _ rfl) hA (fun a3 w3 hA=>jw ?_) (by (repeat' (first|exact trivial|apply And.intro))<;>first|exact cE.refl _ _|exact fun _ _=>cL.refl _ _|exact ce rfl|exact cg _ _|exact ci _ _|(with_reducible assumption)|omega|with_reducible rfl|(simp only[cc];omega)|(intro j hj;exact absurd hj (cj _))|exact q19|exact q30|exact hj1.1|exact hj1.2.1|rfl);refine kb (fun k=>rcN l0 l1 l2 l3 J T V i (kO V k [(V.getD i default).1,(V.getD i default).2]) k) (fun k=>k<=i+1) (fun k=>i+1-k) (L:=kCheckPlan10_nlnn) (ks:=kCheckPlan10_nlnnt) (id:=2) (c:=jq kCheckPlan10_nlnn) (by kernel_rfl) 0 (cQ _) hA (fun k a4 w4 hk1 hA=>?_);have hM:=Wt (V:=V) (k:=[(V.getD i default).1,(V.getD i default).2]) (i:=k);rcases cu (decide ((k:Int)<=(i:Int))) with q36|q36
  ·have p36:=cH q36;have hkv:k<V.length:=by omega
   have hki:k<i+1:=by omega
   rcases cu (decide ((V.getD k default).1=(V.getD i default).1/\(V.getD k default).2=(V.getD i default).2)) with q47|q47
   ·have p47:=cH q47;have g1:ko (kO V k [(V.getD i default).1,(V.getD i default).2]+1):=by constructor<;>omega
    refine cZ (rcn1 l0 l1 l2 l3 J T V i _ k) (hR _ rfl) hA (fun a5 w5 hA=>jc (by kernel_rfl) ⟨k+1,hki,?_,by omega⟩) (by (repeat' (first|exact trivial|apply And.intro))<;>first|exact cE.refl _ _|exact fun _ _=>cL.refl _ _|exact ce rfl|exact cg _ _|exact ci _ _|(with_reducible assumption)|omega|with_reducible rfl|(simp only[cc];omega)|(intro j hj;exact absurd hj (cj _))|exact q36|exact q47|exact g1|rfl);rw[cfp,cq (by rw[p47.1,p47.2])];exact hA
   ·have p47:=cO q47;refine cZ (rcn2 l0 l1 l2 l3 J T V i _ k) (hR _ rfl) hA (fun a5 w5 hA=>jc (by kernel_rfl) ⟨k+1,hki,?_,by omega⟩) (by (repeat' (first|exact trivial|apply And.intro))<;>first|exact cE.refl _ _|exact fun _ _=>cL.refl _ _|exact ce rfl|exact cg _ _|exact ci _ _|(with_reducible assumption)|omega|with_reducible rfl|(simp only[cc];omega)|(intro j hj;exact absurd hj (cj _))|exact q36|exact q47|rfl);rw[cfp,cf (fun h=>p47 (by injection h with h1 h2;injection h2 with h2 _;exact⟨h1.symm,h2.symm⟩))];exact hA
  ·have p36:=cO q36;obtain rfl:k=i+1:=by omega
   refine cZ (rcnx l0 l1 l2 l3 J T V i _ (i+1)) (hR _ rfl) hA (fun a5 w5 hA=>jp _ (by kernel_rfl) ?_) (by (repeat' (first|exact trivial|apply And.intro))<;>first|exact cE.refl _ _|exact fun _ _=>cL.refl _ _|exact ce rfl|exact cg _ _|exact ci _ _|(with_reducible assumption)|omega|with_reducible rfl|(simp only[cc];omega)|(intro j hj;exact absurd hj (cj _))|exact q36|rfl);refine zr 100 (kCheckPlan10_nlnnt) ?_;rcases cu (ceV T V i) with q67|q67
   ·rw[cat (J:=J) (T:=T) (V:=V) (i:=i) hi1 (by unfold Jw;rw[q19,q30,q67];rfl) hi.2];exact cS (rcr l0 l1 l2 l3 J T V i _ (i+1)) (hR _ rfl) hA (by (repeat' (first|exact trivial|apply And.intro))<;>first|exact cE.refl _ _|exact fun _ _=>cL.refl _ _|exact ce rfl|exact cg _ _|exact ci _ _|(with_reducible assumption)|omega|with_reducible rfl|(simp only[cc];omega)|(intro j hj;exact absurd hj (cj _))|exact q67|exact hU.1|exact hU.2.1|exact hU.2.2.1|exact hU.2.2.2|rfl)
   ·refine cZ (rcs l0 l1 l2 l3 J T V i _ (i+1)) (hR _ rfl) hA (fun a6 w6 hA=>jw ?_) (by (repeat' (first|exact trivial|apply And.intro))<;>first|exact cE.refl _ _|exact fun _ _=>cL.refl _ _|exact ce rfl|exact cg _ _|exact ci _ _|(with_reducible assumption)|omega|with_reducible rfl|(simp only[cc];omega)|(intro j hj;exact absurd hj (cj _))|exact q67|exact hU.1|exact hU.2.1|exact hU.2.2.1|exact hU.2.2.2|rfl);refine cZ (rci l0 l1 l2 l3 J T V i _ (i+1)) (hR _ rfl) hA (fun a6 w6 hA=>jc (by kernel_rfl) ⟨i+1,⟨hi1,fun j hj=>by rcases Nat.lt_succ_iff_lt_or_eq.1 hj with h|rfl;exact hi.2 j h;unfold Jw;rw[q19,q30,q67];rfl⟩,hA,by omega⟩)
 ·have p13:=cO q13;refine cZ (rcx l0 l1 l2 l3 J T V i) (hR _ rfl) hA (fun a3 w3 hA=>jp _ (by kernel_rfl) ?_);rw[ck_end (J:=J) (T:=T) (V:=V) (fun k hk=>hi.2 k (by omega))];rcases cu (decide ((V.length:Int)>(J.length:Int))) with q73|q73
  ·rw[cq (cH q73)];exact cS (rct l0 l1 l2 l3 J T V i) (hR _ rfl) hA (by (repeat' (first|exact trivial|apply And.intro))<;>first|exact cE.refl _ _|exact fun _ _=>cL.refl _ _|exact ce rfl|exact cg _ _|exact ci _ _|(with_reducible assumption)|omega|with_reducible rfl|(simp only[cc];omega)|(intro j hj;exact absurd hj (cj _))|exact q73|rfl)
  ·rw[cf (cO q73)];exact cS (rcf l0 l1 l2 l3 J T V i) (hR _ rfl) hA (by (repeat' (first|exact trivial|apply And.intro))<;>first|exact cE.refl _ _|exact fun _ _=>cL.refl _ _|exact ce rfl|exact cg _ _|exact ci _ _|(with_reducible assumption)|omega|with_reducible rfl|(simp only[cc];omega)|(intro j hj;exact absurd hj (cj _))|exact q73|rfl)
end Pe.F
end Go.Proofs.YtcgiaclelnmhbabGreatDoor
