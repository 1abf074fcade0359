/- Part 6. -/
import Derived.Test.YtolcmngcebnjdaaGreatDoorW5
set_option linter.all false
open List (length_take size_toArray take_of_length_le)
open Nat (eq_of_beq_eq_true le_of_ble_eq_true le_refl zero_add)
open Go.Result (andThen_ok)
open Go.Sem (run_bind)
noncomputable section

namespace Go.Proofs.YtolcmngcebnjdaaGreatDoor
open Go Go.RowKit Go.Proofs
namespace Pe
variable {D:Type}
def pairC:AC->AC->Rm
 |.sym s _,.sym s' _=>[(s,.old s')]
 |.sym s _,.fn b=>[(s,.frz b)]
 |.ptr b _,.ptr b' _=>[(b,.old b')]
 |.slc b _ _ _,.slc b' _ _ _=>[(b,.old b')]
 |.gsl b _,.gsl b' _=>[(b,.old b')]
 |.fn b,.fn b'=>[(b,.old b')]
 |.fn b,.lit _=>[(b,.nil)]
 |_,_=>[]
def ceM:List AC->List AC->Rm
 |c::cs,d::ds=>pairC c d++ceM cs ds
 |_,_=>[]
def pair1:A1->A1->Rm
 |.one c,.one d=>pairC c d
 |.agg cs,.agg ds=>ceM cs ds
 |_,_=>[]
def cct:List A1->List A1->Rm
 |c::cs,d::ds=>pair1 c d++cct cs ds
 |_,_=>[]
def pairV:AV->AV->Rm
 |.val x,.val y=>pair1 x y
 |.tup l,.tup m=>cct l m
 |_,_=>[]
def pairO:Option (Cw D)->Option (Cw D)->Rm
 |some (.blk _ cs _),some (.blk _ ds _)=>ceM cs ds
 |some (.clo _ p q),some (.clo _ p' q')=>cct p p'++cct q q'
 |some (.cp s _ _ _),some (.cp s' _ _ _)=>[(s,.old s')]
 |_,_=>[]
def discS (sl:List (Nat×AV)):List (Nat×AV)->Rm
 |[]=>[]
 |p::l=>match find p.1 sl with
  |some y=>pairV p.2 y++discS sl l
  |none=>discS sl l
def chf (m m':Ws D):Nat->Rm->Rm->Rm
 |0,_,r=>r
 |_+1,[],r=>r
 |n+1,p::q,r=>match memN p.1 r with
  |true=>chf m m' n q r
  |false=>match p.2 with
   |.old k=>chf m m' n (pairO (find p.1 m') (find k m)++q) (p::r)
   |_=>chf m m' n q (p::r)
def disc (st st':St D):Rm:=chf st.m st'.m 1000 (discS st.sl st'.sl) []
def fitTo (C:Ctx D) (st st':St D):Option (List Prop):=fit C (disc st st') st st'
def segTo (C:Ctx D) (TT:FuncId->Tab D) (CF YF:cw D) (nt:Nat) (fid:FuncId) (inR:Bool) (n:Nat) (c:Code) (st st':St D):Option (Xt×List Prop) :=
 match uc C.toStat TT CF YF nt (fun b=>find b st.m) fid inR n c ⟨st.nb,st.sl,[],st.ms⟩ with
 |some (x,s1,ob)=>match fitTo C (st.join s1) st' with
  |some ob2=>some (x,ob++ob2)
  |none=>none
 |none=>none
section
variable {F:Fence}{m:Nat}{C:Ctx D}{TT:FuncId->Tab D}{nt:Nat}{fid:FuncId}{inR:Bool}{Q:Exit->Act->World->Prop}{a:Act}{w:World}{st st':St D}
theorem cjL (hC:C.Ok) {ob:List Prop}(h:fitTo C st st'=some ob) (ho:jH ob) (hA:At C nt st a w):At C nt st' a w:=fit_is hC h ho hA
structure KF (C:Ctx D) (TT:FuncId->Tab D):Prop where
 ok:C.Ok
 name : ∀ (f : Nat) (fn : Func), C.P.funcs[f]? = some fn → (fn.name == "runtime.NumGoroutine") = false
 tab:∀ f,(TT f).Ok C
def Ret (C:Ctx D) (fn:Func) (R:Value->World->Prop):Exit->Act->World->Prop:=fun x a w=>(x=.ret\/x=.normal)/\a.defers=[]/\∃ v,(results fn a.tmps).run C.P w=.ok v w/\R v w
abbrev env0:Env:=⟨fun _=>none,fun _=>0,fun _=>none,fun _=>none,fun _=>false⟩
theorem CB (hR:KF C TT) {f:FuncId}{fn:Func}{c:Code}(hfn:C.P.funcs[f]?=some fn) (hbody:fn.body=some c) {ps:List (Pat D)}{xs:List A1}{ws:Ws D}{n0:Nat}(hm:Cd C.csz 0 ps=some (xs,ws,n0)) (hlen:Nat.ble (kF xs).length fn.ntmps=true) {vs:List Value}
 (hp:UL (fun d f=>∀ w',uJ env0 C.w0 w'->C.E d w' f) C.csz ps vs) {R:Value->World->Prop} (hwp:∀ a,At C fn.ntmps ⟨n0,Ev 0 (kF xs),ws,[]⟩ a C.w0->c.wpIn Fence.wide 0 C.P (Ret C fn R) a C.w0) :
 Enters C.P f/\Calls C.P f vs.toArray C.w0 (fun en w'=>∃ v,en=.returned v/\R v w'):=by
 refine⟨enters_of hfn (hR.name f fn hfn) hbody,?_⟩;obtain⟨e,gr,hx⟩:=EJ hm (le_refl _) (e:=env0) (fun _ _ _=>rfl) hp;have hρ:∀ b,e.ρ b=none:=fun b=>by rw[gr.ρ]
 have hφ:∀ b,e.φ b=none:=fun b=>by rw[gr.φ]
 have hg:jh C e C.w0:=⟨Below.refl _ _,fun b b' k _ _ h=>(by rw[hρ] at h;cases h),fun b k h=>(by rw[hρ] at h;cases h)⟩;have hM:jl C e C.w0 (fun b=>find b ws):=by
  intro b o ho;obtain⟨_,d,rfl,f,h1,h2⟩:=gr.live b o (kV ho);exact⟨f,h1,fun w' hk=>h2 w' ⟨hk.size,fun k h3 _=>hk.block k h3 (fun b=>by rw[hρ];simp)⟩⟩
 have hva:=yk hx;have hvl:=hva.length;have hlen:=le_of_ble_eq_true hlen;refine(callsIn_wide (n:=0)).1 (callsIn_of_wp_marks hfn hbody trivial (wpIn_mono (hwp _ ⟨⟨e,hg,hM,?_,?_,[],rfl,rfl⟩,?_⟩) ?_))
 ·intro tt x hx;obtain⟨i,h1,h2⟩:=JA hx;obtain⟨v,h3,h4⟩:=hva.get i x h1;refine⟨v,?_,h4⟩;have hil:i<vs.length:=(List.getElem?_eq_some_iff.1 h3).1;rw[h2,zero_add];show (vs.toArray++Array.replicate (fn.ntmps-vs.toArray.size) undef)[i]?=some v;rw[Array.getElem?_append_left (by simpa using hil)];simpa using h3
 ·intro b hb;refine⟨hρ b,?_,hφ b⟩;cases hc:e.ν b with
  |none=>rfl
  |some y =>
   rcases gr.ν b y hc with h|h
   ·cases h
   ·have hb:n0<=b:=hb;omega
 ·simp only[Array.size_append,size_toArray,Array.size_replicate];omega
 ·rintro ex a' w' ⟨hx,hdf,v,h1,h2⟩;have:LeavesInM Fence.wide 0 C.P fn a'.tmps (fun en w'=>∃ v,en=.returned v/\R v w') a'.defers .returning w':=by
   rw[hdf];exact⟨v,h1,v,rfl,h2⟩
  rcases hx with rfl|rfl
  ·exact this
  ·exact this
def zH:List (Grp D)->List D
 |[]=>[]
 |.lit _::l=>zH l
 |.cls d::l=>d::zH l
def patDs:Pat D->List D
 |.one g=>zH [g]
 |.agg gs=>zH gs
 |.slc _ _ gs=>zH gs
def Zq:List (Pat D)->List D
 |[]=>[]
 |p::l=>patDs p++Zq l
def ku (C:Ctx D) (d:D):Prop:=∀ w w' f,C.E d w f->w.heap.size<=w'.heap.size->(∀ k o,w.heap[k]?=some o->(C.w0.heap.size<=k\/¬ CP C o)->w'.heap[k]?=some o)->C.E d w' f
def noSlc:Pat D->Bool
 |.slc ..=>false
 |_=>true
def Jt:List (Pat D)->Bool
 |[]=>true
 |p::l=>match noSlc p with
  |true=>Jt l
  |false=>false
theorem JV {w w':World}(hs:w.heap.size<=w'.heap.size) (hk:∀ k o,w.heap[k]?=some o->(C.w0.heap.size<=k\/¬ CP C o)->w'.heap[k]?=some o):∀ {gs:List (Grp D)}{vs:List Value},(∀ d∈zH gs,ku C d)->cN C w gs vs->cN C w' gs vs
 |[],vs,_,h=>h
 |.lit v::gs,vs,hd,h=>⟨h.1,JV hs hk hd h.2⟩
 |.cls d::gs,vs,hd,h=>⟨hd d (by simp [zH]) w w' _ h.1 hs hk,JV hs hk (fun x hx=>hd x (by simp [zH,hx])) h.2⟩
theorem cks {w w':World}(hs:w.heap.size<=w'.heap.size) (hk:∀ k o,w.heap[k]?=some o->(C.w0.heap.size<=k\/¬ CP C o)->w'.heap[k]?=some o) {p:Pat D}{v:Value}(hn:noSlc p=true) (hd:∀ d∈patDs p,ku C d) (h:p.is C w v):p.is C w' v:=by
 cases p with
 |one g =>
  cases g with
  |lit x=>exact h
  |cls d=>exact hd d (by simp [patDs,zH]) w w' _ h hs hk
 |agg gs =>
  obtain⟨vs,h1,h2⟩:=h;exact⟨vs,JV hs hk hd h1,h2⟩
 |slc t n gs=>cases hn
theorem cao {w w':World}(hs:w.heap.size<=w'.heap.size) (hk:∀ k o,w.heap[k]?=some o->(C.w0.heap.size<=k\/¬ CP C o)->w'.heap[k]?=some o):∀ {ps:List (Pat D)}{vs:List Value},Jt ps=true->(∀ d∈Zq ps,ku C d)->cX C w ps vs->cX C w' ps vs
 |[],vs,_,_,h=>h
 |p::ps,vs,hn,hd,⟨v,ws,h1,h2,h3⟩=>by
  unfold Jt at hn;split at hn
  ·rename_i h0;exact⟨v,ws,h1,cks hs hk h0 (fun d hx=>hd d (by simp [Zq,hx])) h2,cao hs hk hn (fun d hx=>hd d (by simp [Zq,hx])) h3⟩
  ·cases hn
def readR (S:Stat D) (M:cG D) (l:List A1):Option (List (Pat D)):=KM S M (kF l)
def Ym:List (Pat D)->jc D
 |[p]=>.val p
 |l=>.tup l
def Gd (C:Ctx D):List (Grp D)->List (Grp D)->Option (List Prop)
 |[],[]=>some []
 |.lit v::l,.lit v'::l'=>Yy (some [v=v']) (Gd C l l')
 |.cls d::l,.cls d'::l'=>match Nat.beq (C.csz d) (C.csz d') with
  |true=>Yy (some [ct C d d']) (Gd C l l')
  |false=>none
 |_,_=>none
def cfT (C:Ctx D):Pat D->Pat D->Option (List Prop)
 |.one g,.one g'=>Gd C [g] [g']
 |.agg gs,.agg gs'=>match Gd C gs gs' with
  |some ob=>some ob
  |none=>some [cC C gs gs']
 |_,_=>none
def zy (C:Ctx D):List (Pat D)->List (Pat D)->Option (List Prop)
 |[],[]=>some []
 |p::l,p'::l'=>Yy (cfT C p p') (zy C l l')
 |_,_=>none
theorem Uj:∀ {gs gs':List (Grp D)}{ob:List Prop}{vs:List Value},Gd C gs gs'=some ob->jH ob->cN C w gs' vs->cN C w gs vs
 |[],[],ob,vs,h,ho,hv=>hv
 |.lit v::l,.lit v'::l',ob,vs,h,ho,hv=>by
  obtain⟨x,y,q1,q2,rfl⟩:=ug h;obtain⟨o1,o2⟩:=ho.append;injection q1 with q1;subst q1
  refine⟨?_,Uj q2 o2 hv.2⟩;rw[o1.1];exact hv.1
 |.cls d::l,.cls d'::l',ob,vs,h,ho,hv=>by
  unfold Gd at h;split at h
  ·rename_i hz;have hz:=eq_of_beq_eq_true hz;obtain⟨x,y,q1,q2,rfl⟩:=ug h;obtain⟨o1,o2⟩:=ho.append;injection q1 with q1;subst q1
   refine⟨?_,Uj q2 o2 ?_⟩
   ·show C.E d w (vs.take (C.csz d));rw[hz];exact o1.1 w _ hv.1
   ·show cN C w l' (vs.drop (C.csz d));rw[hz];exact hv.2
  ·cases h
 |[],_::_,ob,vs,h,_,_=>by simp [Gd] at h
 |.lit _::_,[],ob,vs,h,_,_=>by simp [Gd] at h
 |.cls _::_,[],ob,vs,h,_,_=>by simp [Gd] at h
 |.lit _::_,.cls _::_,ob,vs,h,_,_=>by simp [Gd] at h
 |.cls _::_,.lit _::_,ob,vs,h,_,_=>by simp [Gd] at h
theorem chu (hC:C.Ok) {p p':Pat D}{ob:List Prop}{v:Value}(h:cfT C p p'=some ob) (ho:jH ob) (hv:p'.is C w v):p.is C w v:=by
 unfold cfT at h;split at h
 ·rename_i g g';have:=Uj h ho (cdu hC hv);have h1:=cbB hC this.1;have:g.is C w ([v].take (g.n C.csz)):=this.1
  rwa [take_of_length_le] at this
  rw[length_take] at h1;cases g with
  |lit x=>simp [Grp.n]
  |cls d =>
   cases g' with
   |lit x=>simp [Gd] at h
   |cls d' =>
    unfold Gd at h;split at h
    ·rename_i hz;have hz:=eq_of_beq_eq_true hz;have hl:=hC.len _ _ _ (show C.E d' w [v] from hv);show 1<=C.csz d;rw[hz,← hl];simp
    ·cases h
 ·obtain⟨vs,h1,h2⟩:=hv;split at h
  ·rename_i h3;injection h with h;subst h
   exact⟨vs,Uj h3 ho h1,h2⟩
  ·injection h with h;subst h
   exact⟨vs,ho.1 _ _ h1,h2⟩
 ·cases h
theorem Ep (hC:C.Ok):∀ {ps ps':List (Pat D)}{ob:List Prop}{vs:List Value},zy C ps ps'=some ob->jH ob->cX C w ps' vs->cX C w ps vs
 |[],[],ob,vs,h,ho,hv=>hv
 |p::l,p'::l',ob,vs,h,ho,⟨v,ws,h1,h2,h3⟩=>by
  obtain⟨x,y,q1,q2,rfl⟩:=ug h;obtain⟨o1,o2⟩:=ho.append;exact⟨v,ws,h1,chu hC q1 o1 h2,Ep hC q2 o2 h3⟩
 |[],_::_,ob,vs,h,_,_=>by simp [zy] at h
 |_::_,[],ob,vs,h,_,_=>by simp [zy] at h
def Res (C:Ctx D) (ps:List (Pat D)):Value->World->Prop:=fun v w=>Below C.w0.heap.size C.w0 w/\Zo C C.w0 w (Ym ps) v
def retTo (C:Ctx D) (rs:List ResultVar) (st:St D) (ps:List (Pat D)):Option (List Prop) :=
 match st.ms,Yl C.P (fun t=>find t st.sl) (fun b=>find b st.m) rs with
 |[],some xs=>match readR C.toStat (fun b=>find b st.m) xs with
  |some ps'=>match Jt ps with
   |true=>Yy (zy C ps ps') (some ((Zq ps).map (ku C)))
   |false=>none
  |none=>none
 |_,_=>none
theorem ccW {p:D->Prop}:∀ {l:List D},jH (l.map p)->∀ d∈l,p d
 |[],_,d,hd=>by simp at hd
 |x::l,h,d,hd=>by
  rcases List.mem_cons.1 hd with rfl|hd
  ·exact h.1
  ·exact ccW h.2 d hd
theorem ret_at (hC:C.Ok) {fn:Func}{ps:List (Pat D)}{ob:List Prop}(h:retTo C fn.results.toList st ps=some ob) (ho:jH ob) (hA:At C nt st a w) {x:Exit}(hx:x=.ret\/x=.normal):Ret C fn (Res C ps) x a w:=by
 unfold retTo at h;split at h
 rotate_left
 ·cases h
 rename_i xs hms hres;split at h
 rotate_left
 ·cases h
 rename_i ps' hrd;split at h
 rotate_left
 ·cases h
 rename_i hn;obtain⟨x1,y1,q1,q2,rfl⟩:=ug h;obtain⟨o1,o2⟩:=ho.append;injection q2 with q2;subst q2
 obtain⟨⟨e,hg,hM,hV,_,rs,hdf,hmk⟩,hsz⟩:=hA;rw[hms] at hmk;obtain⟨us,h3,h4⟩:=JS hV hM hres;refine⟨hx,by rw[hdf,show rs=[] from hmk];rfl,?_⟩;have h5:(results fn a.tmps).run C.P w=.ok (if h:us.toArray.size=1 then us.toArray[0] else .tuple us.toArray) w:=by
  rw[yw,Array.mapM_eq_mapM_toList];simp only[run_bind,Sem.run_map,h3,andThen_ok];rfl
 refine⟨_,h5,hg.below,?_⟩;have hps:=Ep hC q1 o1 (Kj hC hg hM hrd (yk h4));intro S hS w'' hw hk;have hps:=cao hw (fun k o hko hor=>by
  rw[hk k (Array.getElem?_eq_some_iff.1 hko).1 (fun hs=>?_)]
  ·exact hko
  ·obtain⟨s1,o',s2,s3⟩:=hS k hs;rw[hko] at s2;injection s2 with s2;subst s2
   rcases hor with h|h
   ·omega
   ·exact h s3) hn (ccW o2) hps
 unfold Ym;split
 ·rename_i p;obtain⟨v,ws,rfl,r1,r2⟩:=hps;rw[show ws=[] from r2];exact r1
 ·rename_i hne;have hl:us.toArray.size≠1:=by
   intro h1;have h1:us.length=1:=by simpa using h1
   match us,h1,hps with
   |[u],_,hps =>
    match ps,hne,hps with
    |[],_,hps=>cases hps
    |[p],hne,_=>exact hne p rfl
    |p::q::l,_,⟨_,_,e1,_,_,_,e2,_⟩=>injection e1 with _ e1;rw[e2] at e1;cases e1
  rw[dif_neg hl];exact⟨us,hps,rfl⟩
end
end Pe
end Go.Proofs.YtolcmngcebnjdaaGreatDoor
