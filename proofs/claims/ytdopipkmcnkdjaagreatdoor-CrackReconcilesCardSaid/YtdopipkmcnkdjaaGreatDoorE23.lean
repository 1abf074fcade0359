/- Part 23. -/
import Derived.Test.YtdopipkmcnkdjaaGreatDoorE22
set_option linter.all false

namespace Go.Proofs.YtdopipkmcnkdjaaGreatDoor
open Go Go.RowKit Go.Proofs Lim
namespace Sym
noncomputable def CV (nt:Nat) (vl:List Value) (w:World):Ctx:=mkC (vl.map (fun _=>1)) (vl.map (fun _=>false)) [] nt (vl.map clW) w
def ones:List Value->Bool
 |[]=>true
 |v::l=>match v.oneCell' with
  |true=>ones l
  |false=>false
theorem L_nil (vl:List Value):(vl.map clW).flatMap (·.L)=[]:=by
 induction vl with
 |nil=>rfl
 |cons v l ih=>exact ih
theorem ceK {nt:Nat}{vl:List Value}{w:World}(h:∀ v∈vl,v.oneCell'=true):(CV nt vl w).Ok:=by
 refine uw (fun x hx=>?_) (by rw[List.map_map];rfl) (by rw[List.map_map];rfl) (.inl (L_nil vl));obtain⟨v,hv,rfl⟩:=List.mem_map.1 hx;exact Ga (h v hv)
theorem jI:∀ v∈([]:List Value),v.oneCell'=true:=fun t h=>by simp at h
theorem cf {a:Value}{l:List Value}(h:a.oneCell'=true) (k:∀ v∈l,v.oneCell'=true):∀ t∈a::l,t.oneCell'=true:=fun t ht=>by
 rcases List.mem_cons.1 ht with rfl|ht
 ·exact h
 ·exact k t ht
def Sl (a:Act) (vl:List Value):List (Nat×Nat)->Prop
 |[]=>True
 |p::l=>a.tmps[p.1]?=some (vl.getD p.2 undef)/\Sl a vl l
structure St' (nt:Nat) (vl:List Value) (is:List (Nat×Nat)) (a:Act):Prop where
 defers:a.defers=[]
 size:a.tmps.size=nt
 sl:Sl a vl is
def jN:List (Nat×Nat)->List Item
 |[]=>[]
 |p::l=>.val p.1 (op p.2)::jN l
def zw:List (Nat×Nat)->Nat->Bool
 |[],_=>true
 |p::l,n=>match Nat.blt p.2 n with
  |true=>zw l n
  |false=>false
theorem ckj {vl:List Value}{c:Nat}(h:c<vl.length):(vl.map clW)[c]?=some (clW (vl.getD c undef)):=by
 rw[JF,kb h];simp [List.getD,h]
theorem St'.at {nt:Nat}{vl:List Value}{is:List (Nat×Nat)}{a:Act}{w:World}(h:St' nt vl is a) (hi:zw is vl.length=true):At (CV nt vl w) (jN is) a w:=by
 refine⟨cw _ _,h.defers,h.size,?_,fun k hk=>noL (L_nil vl) hk⟩;have key:∀ (is:List (Nat×Nat)) bs,Sl a vl is->zw is vl.length=true->ku (CV nt vl w) a w (jN is) bs:=by
  intro is
  induction is with
  |nil=>intro _ _ _;trivial
  |cons p l ih =>
   intro bs h hi;unfold zw at hi;split at hi
   ·rename_i hp;exact⟨⟨_,h.1,(yX (ckj (by simpa using hp))).2 rfl⟩,ih bs h.2 hi⟩
   ·cases hi
 exact key is [] h.sl hi
theorem Ee {nt:Nat}{vl:List Value}{a:Act}{w0 w:World}{rest:List Item}:∀ {is:List (Nat×Nat)}{bs:List Nat},zw is vl.length=true->ku (CV nt vl w0) a w (jN is++rest) bs->Sl a vl is/\ku (CV nt vl w0) a w rest bs
 |[],bs,_,h=>⟨trivial,h⟩
 |p::l,bs,hi,h=>by
  unfold zw at hi;split at hi
  ·rename_i hp;obtain⟨⟨v,h1,h2⟩,h3⟩:=h;rw[(yX (ckj (by simpa using hp))).1 h2] at h1;obtain⟨q1,q2⟩:=Ee hi h3;exact⟨⟨h1,q1⟩,q2⟩
  ·cases hi
section
variable {nt:Nat}{vl:List Value}{w:World}{a:Act}{T:List Ent}{Q:Exit->Act->World->Prop}
theorem kd (pre post:List (Nat×Nat)) {n:Nat}{c:Code}{x:Xt}(h1:∀ v∈vl,v.oneCell'=true) (hT:∀ t∈T,t.Valid (CV nt vl w)) (hs:St' nt vl pre a)
 (h:cdG (CV nt vl w).toStat T n c (jN pre) x (jN post)=true) (hi:zw pre vl.length=true) (hi':zw post vl.length=true)
 (hQ:∀ a' w',St' nt vl post a'->Below w.heap.size w w'->Q x.to a' w'):c.wp Tryz.prog Q a w:=by
 refine kf (ceK h1) hT h (hs.at hi) (fun a' w' hA=>hQ a' w' ⟨hA.defers,hA.size,?_⟩ hA.below);have:=hA.items;rw[← ug (jN post)] at this;exact(Ee hi' this).1
theorem seg_vd (pre post:List (Nat×Nat)) {t:Nat}{n:Nat}{c:Code}{x:Xt}{ds:List Nat}{csz:List Nat}{numc:List Bool}{cl:List Cl}(hC:(mkC csz numc [] nt cl w).Ok) (hT:∀ t∈T,t.Valid (mkC csz numc [] nt cl w)) (hs:St' nt vl pre a) (d:Nat)
 (hcl:∀ i<vl.length,cl[i]?=some (clW (vl.getD i undef))) (hd:cl[d]?=some (clD ds))
 (h:cdG (mkC csz numc [] nt cl w).toStat T n c (jN pre) x (.val t (op d)::jN post)=true) (hi:zw pre vl.length=true) (hi':zw post vl.length=true)
 (hQ:∀ a' w' v,a'.tmps[t]?=some v->Dg w' v ds->St' nt vl post a'->Below w.heap.size w w'->Q x.to a' w') (hL:cl.flatMap (·.L)=[]:=by rfl):c.wp Tryz.prog Q a w:=by
 have hA:At (mkC csz numc [] nt cl w) (jN pre) a w:=by
  refine⟨cw _ _,hs.defers,hs.size,?_,fun k hk=>noL hL hk⟩;have key:∀ (is:List (Nat×Nat)) bs,Sl a vl is->zw is vl.length=true->ku (mkC csz numc [] nt cl w) a w (jN is) bs:=by
   intro is
   induction is with
   |nil=>intro _ _ _;trivial
   |cons p l ih =>
    intro bs h hi;unfold zw at hi;split at hi
    ·rename_i hp;exact⟨⟨_,h.1,(yX (hcl _ (by simpa using hp))).2 rfl⟩,ih bs h.2 hi⟩
    ·cases hi
  exact key pre [] hs.sl hi
 refine kf hC hT h hA (fun a' w' hA=>?_);obtain⟨⟨v,h1,h2⟩,h3⟩:=hA.items;refine hQ a' w' v h1 ((Gi hd).1 h2) ⟨hA.defers,hA.size,?_⟩ hA.below;have key:∀ (is:List (Nat×Nat)) bs,zw is vl.length=true->ku (mkC csz numc [] nt cl w) a' w' (jN is) bs->Sl a' vl is:=by
  intro is
  induction is with
  |nil=>intro _ _ _;trivial
  |cons p l ih =>
   intro bs hi h;unfold zw at hi;split at hi
   ·rename_i hp;obtain⟨⟨v,h1,h2⟩,h3⟩:=h;rw[(yX (hcl _ (by simpa using hp))).1 h2] at h1;exact⟨h1,ih bs hi h3⟩
   ·cases hi
 exact key post [] hi' h3
theorem seg_vf (pre post:List (Nat×Nat)) {t:Nat}{n:Nat}{c:Code}{x:Xt}{ds:List Nat}{B:Nat}{csz:List Nat}{numc:List Bool}{cl:List Cl}(hC:(mkC csz numc [] nt cl w).Ok) (hT:∀ t∈T,t.Valid (mkC csz numc [] nt cl w)) (hs:St' nt vl pre a) (d:Nat)
 (hcl:∀ i<vl.length,cl[i]?=some (clW (vl.getD i undef))) (hd:cl[d]?=some (clF B ds))
 (h:cdG (mkC csz numc [] nt cl w).toStat T n c (jN pre) x (.val t (op d)::jN post)=true) (hi:zw pre vl.length=true) (hi':zw post vl.length=true)
 (hQ:∀ a' w' v,a'.tmps[t]?=some v->Dg w' v ds->(∀ k,v.ownBlock=some k->B<=k)->St' nt vl post a'->Below w.heap.size w w'->Q x.to a' w') (hL:cl.flatMap (·.L)=[]:=by rfl):c.wp Tryz.prog Q a w:=by
 have hA:At (mkC csz numc [] nt cl w) (jN pre) a w:=by
  refine⟨cw _ _,hs.defers,hs.size,?_,fun k hk=>noL hL hk⟩;have key:∀ (is:List (Nat×Nat)) bs,Sl a vl is->zw is vl.length=true->ku (mkC csz numc [] nt cl w) a w (jN is) bs:=by
   intro is
   induction is with
   |nil=>intro _ _ _;trivial
   |cons p l ih =>
    intro bs h hi;unfold zw at hi;split at hi
    ·rename_i hp;exact⟨⟨_,h.1,(yX (hcl _ (by simpa using hp))).2 rfl⟩,ih bs h.2 hi⟩
    ·cases hi
  exact key pre [] hs.sl hi
 refine kf hC hT h hA (fun a' w' hA=>?_);obtain⟨⟨v,h1,h2⟩,h3⟩:=hA.items;refine hQ a' w' v h1 ((Ko hd).1 h2).1 ((Ko hd).1 h2).2 ⟨hA.defers,hA.size,?_⟩ hA.below;have key:∀ (is:List (Nat×Nat)) bs,zw is vl.length=true->ku (mkC csz numc [] nt cl w) a' w' (jN is) bs->Sl a' vl is:=by
  intro is
  induction is with
  |nil=>intro _ _ _;trivial
  |cons p l ih =>
   intro bs hi h;unfold zw at hi;split at hi
   ·rename_i hp;obtain⟨⟨v,h1,h2⟩,h3⟩:=h;rw[(yX (hcl _ (by simpa using hp))).1 h2] at h1;exact⟨h1,ih bs hi h3⟩
   ·cases hi
 exact key post [] hi' h3
theorem pfW {csz:List Nat}{numc:List Bool}{okT:List Nat}{cl:List Cl}{w0:World}{c B:Nat}{x:Value}{ds:List Nat}(h:cl[c]?=some (clW x)) (hx:Dg w0 x ds) (hB:∀ k,x.ownBlock=some k->B<=k):PF csz numc okT nt cl w0 (op c) B ds:=fun w v hb h1=>by
 rw[(yX h).1 h1];exact⟨hx.below hb (cb _),hB⟩
def zN:List (Nat×Nat)->Nat->Bool
 |[],_=>true
 |p::l,d=>match Nat.beq p.1 d with
  |true=>false
  |false=>zN l d
theorem Sl.put {is:List (Nat×Nat)}{d:Nat}{v:Value}:zN is d=true->Sl a vl is->Sl (a.put (some d) v) vl is:=by
 induction is with
 |nil=>intro _ _;trivial
 |cons p l ih =>
  intro h hs;unfold zN at h;split at h
  ·cases h
  ·rename_i hp;refine⟨(cjz (fun e=>?_)).trans hs.1,ih h hs.2⟩;rw[e] at hp;simp at hp
theorem ciU (pre post:List (Nat×Nat)) {id:Nat}{l:List Oper}(i:Nat) {oa os:Oper}{s x d t B cd:Nat}{z:Value}{ds:List Nat}{dg:Nat}(h1:∀ v∈vl,v.oneCell'=true) (hT:∀ t∈T,t.Valid (CV nt vl w)) (hs:St' nt vl pre a) (cz:Nat)
 (h:opsB (CV nt vl w).toStat T (l.take i) (jN pre) (jN ((s,cz)::post)++[.own x 3 1 [.cls cd 1]])=true) (hl:l.drop i=[oa,os]) (hg:oa.guard=none) (hg':os.guard=none)
 (ho:oa.op=.call { callee:=.builtin .append,args:=#[.tmp s,.tmp x],argTypes:=#[38,38] }) (hd:oa.dst=some d) (ho':os.op=.assign (.tmp d)) (hd':os.dst=some t)
 (hcz:vl[cz]?=some z) (hcd:vl[cd]?=some (ii (dg:Int))) (hlim:Nat.blt d nt=true) (hlim':Nat.blt t nt=true) (hap:zN post d=true) (hap':zN post t=true)
 (hi:zw pre vl.length=true) (hi':zw ((s,cz)::post) vl.length=true) (hown:Own B w z ds) (hB:B<=w.heap.size) (hlen:ds.length<1000000000)
 (hQ:∀ z' a' w',a'.tmps[t]?=some z'->Own B w' z' (ds++[dg])->St' nt vl post a'->Below B w w'->Q .normal a' w'):(Code.region id l.toArray false).wp Tryz.prog Q a w:=by
 refine YC ?_;rw[show wpList Tryz.prog l.toArray Q l a w=wpList Tryz.prog l.toArray Q (l.take i++l.drop i) a w by rw[kv],hl];refine caA (ceK h1) hT h (hs.at hi) (fun a2 w2 hA=>?_);obtain⟨⟨sz,hsl⟩,⟨k,vs,s11,hk,hkc,hvs⟩,_⟩:=Ee hi' hA.items;have hvs:vs=[ii (dg:Int)]:=by
  obtain⟨xs,ys,rfl,⟨f,hE,rfl⟩,hy⟩:=hvs;rw[show ys=[] from hy];have hc:=ckj (vl:=vl) (c:=cd) (List.getElem?_eq_some_iff.1 hcd).1;rw[show vl.getD cd undef=ii (dg:Int) by rw[List.getD,hcd];rfl] at hc;simp only[CV,mkC,hc] at hE;have hE:f 0=ii (dg:Int):=hE;simp [yW,hE]
 subst hvs;have sz:a2.tmps[s]?=some z:=by
  rw[sz,List.getD,hcz];rfl
 have hB2:B<=w2.heap.size:=cA hB hA.below.size;refine wp_add hg ho sz s11 hkc (hown.below hA.below) hB2 hlen (fun z' w3 hown' hgr=>?_);rw[hd];refine YE hg' (fun K hK=>?_);have hsz:d<a2.tmps.size:=by
  have:d<nt:=by simpa using hlim
  rw[hA.size];exact this
 have hst:t<(a2.put (some d) z').tmps.size:=by
  have:t<nt:=by simpa using hlim'
  rw[uI,hA.size];exact this
 have hev:(a2.put (some d) z').eval (.tmp d)=z':=by simp [Act.eval,uX,CW hsz]
 have hw:(execOp (a2.put (some d) z').eval os).run (CV nt vl w).P w3=.ok (.value z') w3:=by simp only[execOp,ho',hev];rfl
 refine cJ hw (hK _ _ ?_);rw[hd'];have hlt:=(hown.below hA.below).lt;refine hQ z' _ w3 (CW hst) hown' ⟨(ue _ _ _).trans ((ue _ _ _).trans hA.defers),(uI _ _ _).trans ((uI _ _ _).trans hA.size),Sl.put hap' (Sl.put hap hsl)⟩ ?_;exact(hA.below.mono hB).trans ⟨hgr.os,hgr.tape,hgr.output,hgr.size,fun i hi=>hgr.block i (by omega) (fun e=>by have:=hlt i e.symm;omega)⟩
end
def Ll (a:Act):List (Nat×Value)->Prop
 |[]=>True
 |p::l=>a.tmps[p.1]?=some p.2/\Ll a l
def cjf:List (Nat×Value)->List Item
 |[]=>[]
 |p::l=>.val p.1 (vp p.2)::cjf l
theorem ckg {C:Ctx}{a:Act}{w:World}:∀ {l:List (Nat×Value)}{bs:List Nat},ku C a w (cjf l) bs->Ll a l
 |[],_,_=>trivial
 |p::l,bs,⟨⟨v,h1,h2⟩,h3⟩=>by
  rw[Gk.1 h2] at h1;exact⟨h1,ckg h3⟩
theorem zy {nt:Nat}{vl:List Value}{w:World}{a:Act}{T:List Ent}{Q:Exit->Act->World->Prop}(pre post:List (Nat×Nat)) (lits:List (Nat×Value)) {n:Nat}{c:Code}{x:Xt}(h1:∀ v∈vl,v.oneCell'=true) (hT:∀ t∈T,t.Valid (CV nt vl w)) (hs:St' nt vl pre a)
 (h:cdG (CV nt vl w).toStat T n c (jN pre) x (jN post++cjf lits)=true) (hi:zw pre vl.length=true) (hi':zw post vl.length=true)
 (hQ:∀ a' w',St' nt vl post a'->Ll a' lits->Below w.heap.size w w'->Q x.to a' w'):c.wp Tryz.prog Q a w:=by
 refine kf (ceK h1) hT h (hs.at hi) (fun a' w' hA=>?_);obtain⟨q1,q2⟩:=Ee hi' hA.items;exact hQ a' w' ⟨hA.defers,hA.size,q1⟩ (ckg q2) hA.below
theorem UK {nt:Nat}{w:World}{f:FuncId}{fn:Func}{c:Code}(hf:Tryz.prog.funcs[f]?=some fn) (hb:fn.body=some c) (hnt:fn.ntmps=nt) (hlen:Nat.ble 2 nt=true) (x y:Value) {Q:Ending->World->Prop}
 (h:∀ a,St' nt [x,y] [(0,0),(1,1)] a->c.wp Tryz.prog (bodyPost Tryz.prog fn Q) a w):Calls Tryz.prog f #[x,y] w Q :=
 Cc (C:=CV nt [x,y] w) (args:=[op 0,op 1]) hf hb hnt (jo hlen) (vs:=[x,y]) ⟨_,_,rfl,(yX rfl).2 rfl,_,_,rfl,(yX rfl).2 rfl,rfl⟩ (fun a hA=>h a ⟨hA.defers,hA.size,(Ee (is:=[(0,0),(1,1)]) (rest:=[]) rfl hA.items).1⟩)
theorem ceL {fn:Func}{t:Nat}{a:Act}{w:World}{v:Value}(hr:fn.results=#[.tmp t]) (hd:a.defers=[]) (ht:a.tmps[t]?=some v) {Q:Ending->World->Prop}(h:Q (.returned v) w):bodyPost Tryz.prog fn Q .ret a w:=by
 refine⟨hd,v,?_,h⟩;rw[yP,hr];have:a.tmps.getD t undef=v:=by rw[uX,ht];rfl
 simp [ZO,this]
theorem cbv {nt:Nat}{vl:List Value}{w:World}{a:Act}{Q:Exit->Act->World->Prop}(is:List (Nat×Nat)) {id:Nat}{o1 o2:Oper}{d t:Nat}(hs:St' nt vl is a) (hg:o1.guard=none) (hg':o2.guard=none) (ho:o1.op=.buildSlice 38 0 #[]) (hd:o1.dst=some d) (ho':o2.op=.assign (.tmp d)) (hd':o2.dst=some t)
 (hlim:Nat.blt d nt=true) (hlim':Nat.blt t nt=true) (hap:zN is d=true) (hap':zN is t=true) {B:Nat} (hB:B<=w.heap.size)
 (hQ:∀ z a' w',a'.tmps[t]?=some z->Own B w' z []->St' nt vl is a'->Below w.heap.size w w'->Q .normal a' w'):(Code.region id [o1,o2].toArray false).wp Tryz.prog Q a w:=by
 refine YC (cgZ hg ho ?_);rw[hd];refine YE hg' (fun K hK=>?_);have hsz:d<a.tmps.size:=by
  have:d<nt:=by simpa using hlim
  rw[hs.size];exact this
 have hst:∀ v,t<(a.put (some d) v).tmps.size:=fun v=>by
  have:t<nt:=by simpa using hlim'
  rw[uI,hs.size];exact this
 have hev:∀ z',(a.put (some d) z').eval (.tmp d)=z':=fun z'=>by simp [Act.eval,uX,CW hsz]
 have hw:(execOp (a.put (some d) (.slice (some ⟨w.heap.size,0,none⟩) 0 0)).eval o2).run Tryz.prog (w.alloc (.cells #[] 3))=.ok (.value (.slice (some ⟨w.heap.size,0,none⟩) 0 0)) (w.alloc (.cells #[] 3)):=by simp only[execOp,ho',hev];rfl
 unfold Oper.wp;rw[hw];refine hK _ _ ?_;rw[hd'];refine hQ _ _ _ (CW (hst _)) (Own.fresh (Gh w _) hB) ⟨(ue _ _ _).trans ((ue _ _ _).trans hs.defers),(uI _ _ _).trans ((uI _ _ _).trans hs.size),Sl.put hap' (Sl.put hap hs.sl)⟩ ((cw _ _).alloc (cb _) _)
theorem cdy (d:Nat) (l:List Nat):uc (d::l)=if d=0/\uc l=[] then [] else d::uc l:=by
 have key:∀ (l:List Nat),(l++[d]).dropWhile (fun d=>d == 0)=if l.dropWhile (fun d=>d == 0)=[] then [d].dropWhile (fun d=>d == 0) else l.dropWhile (fun d=>d == 0)++[d]:=by
  intro l
  induction l with
  |nil=>simp
  |cons e l ih =>
   simp only[JB,List.dropWhile_cons];split
   ·rw[ih];simp [List.dropWhile_cons]
   ·simp
 unfold uc;rw[List.reverse_cons,key];by_cases h:l.reverse.dropWhile (fun d=>d == 0)=[]
 ·by_cases hd:d=0<;>simp [h,hd]
 ·simp [h]
theorem GP:∀ {l:List Nat},(∀ d∈l,d<10000)->digs (nat l)=uc l
 |[],_=>by rw[cmP];exact digs_zero
 |d::l,h=>by
  have ih:=GP (l:=l) (fun x hx=>h x (uL _ hx));have hd:=h d (by simp);rw[cdy,← ih];show digs (d+10000*nat l)=_;by_cases h0:d+10000*nat l=0
  ·rw[h0,digs_zero,co ⟨by omega,by rw[show nat l=0 by omega,digs_zero]⟩]
  ·rw[digs_pos h0,show (d+10000*nat l)%10000=d by omega,show (d+10000*nat l)/10000=nat l by omega,cg];rintro⟨h1,h2⟩;apply h0;have:nat l=0:=by
    cases hn:nat l with
    |zero=>rfl
    |succ m=>rw[digs_pos (by omega)] at h2;cases h2
   omega
theorem UP:∀ (l:List Nat) (d:Nat),nat (l++[d])=nat l+10000^l.length*d
 |[],d=>by simp [nat]
 |e::l,d=>by
  show e+10000*nat (l++[d])=e+10000*nat l+10000^(l.length+1)*d;rw[UP l d,ji,cP,zO,jf (10000^l.length) 10000,jy]
theorem JP:∀ {l:List Nat},(∀ d∈l,d<10000)->nat l<10000^l.length
 |[],_=>by simp [nat]
 |d::l,h=>by
  have:=JP (l:=l) (fun x hx=>h x (uL _ hx));have hd:=h d (by simp);show d+10000*nat l<10000^(l.length+1);rw[ji];omega
theorem GS (ds:List Nat) (i:Nat):nat (ds.drop i)=ds.getD i 0+10000*nat (ds.drop (i+1)):=by
 rw[JJ (ds.drop i)];congr 1
 ·simp [List.getD,zz]
 ·rw[List.tail_drop]
theorem uJ {ds:List Nat}{i:Nat}(h:ds.length<=i):nat (ds.drop i)=0:=by
 rw[cfY h];rfl
def Jj:Value->Nat->Value
 |.slice (some ⟨b,off,none⟩) _ _,n=>.pointer (some ⟨b,off+n,none⟩)
 |_,_=>.pointer none
theorem GJ (v:Value) (n:Nat):(Jj v n).oneCell'=true:=by unfold Jj;split<;>rfl
section
variable {csz:List Nat}{numc:List Bool}{okT:List Nat}{nt:Nat}{cl:List Cl}{w0:World}{p1 p2:Pat}{res:jH}{ds:List Nat}{n:Nat}{x:Value}
theorem cdZ {t:Nat}(ht:Tryz.prog.underlying t=some (.slice (Tryz.prog.elem t))) (he:Tryz.prog.elem t=3) (h1:PV csz numc okT nt cl w0 p1 x) (hx:Dg w0 x ds) (h2:PV csz numc okT nt cl w0 p2 (ii (n:Int))) (hn:n<ds.length) (h3:RV csz numc okT nt cl w0 res (Jj x n)):V csz numc okT nt cl w0 (.ix t) [p1,p2] res:=by
 intro w ρ oo xs ho hb hvs;obtain⟨a,b,hop,rfl⟩:=hd_ix ho;obtain⟨v1,_,e1,h4,v2,_,e2,h5,e3⟩:=hvs;obtain rfl:=h1 _ _ h4;obtain rfl:=h2 _ _ h5;subst e2;simp only[jR,kW,yG] at e1;obtain⟨ea,eb,_⟩:=e1;obtain⟨ao,cap,rfl,h6,h7,h8⟩:=hx;obtain⟨k,off,rfl,hcs,hr⟩:=h8 (by omega);refine⟨_,w,?_,h3 w,cw _ _⟩;show (execOp ρ oo).run Tryz.prog w=_;have hs:(sizeOf (Tryz.prog.elem t)).run Tryz.prog w=.ok 1 w:=by rw[he];exact Kc w
 simp only[execOp,hop,ea,eb,jc,run_indexAt_slice _ _ _ _ _ _ _ ht];rw[co (by omega)];simp [hs,Result.andThen,Addr.add,Jj]
theorem chA (h1:PV csz numc okT nt cl w0 p1 (Jj x n)) (hx:Dg w0 x ds) (hn:n<ds.length) (h3:RV csz numc okT nt cl w0 res (ii ((ds.getD n 0:Nat):Int))):V csz numc okT nt cl w0 (.ld 3) [p1] res:=by
 intro w ρ oo xs ho hb hvs;obtain⟨a,hop,rfl⟩:=hd_ld ho;obtain⟨v1,_,e1,h4,e2⟩:=hvs;obtain rfl:=h1 _ _ h4;subst e2;simp only[jR,kW,yG] at e1;obtain⟨ea,_⟩:=e1;obtain⟨ao,cap,rfl,h6,h7,h8⟩:=hx.below hb (cb _);obtain⟨k,off,rfl,hcs,hr⟩:=h8 (by omega);refine⟨_,w,?_,h3 w,cw _ _⟩;show (execOp ρ oo).run Tryz.prog w=_;simp only[execOp,hop,ea,Jj,Instr.loadAt,Instr.sureAddr,jc,zk,jC,loadVar,clq];simp [hr n hn]
end
end Sym
namespace Sym
abbrev ZM (x y z:Value) (ds es:List Nat) (i c:Nat):List Value:=[x,y,z,ii (c:Int),ii (i:Int),ii (ds.length:Int),ii (es.length:Int),ii ((ds.getD i 0:Nat):Int),ii ((es.getD i 0:Nat):Int),ii ((ds.getD i 0+es.getD i 0:Nat):Int),ii ((ds.getD i 0+es.getD i 0+c:Nat):Int),ii (((ds.getD i 0+es.getD i 0+c)%10000:Nat):Int),ii (((ds.getD i 0+es.getD i 0+c)/10000:Nat):Int),ii ((i+1:Nat):Int)]
def t_sum (b1 b2 b3:Bool):List Ent:=[⟨.blt .len [38] 3,[op 0],.val (op 5)⟩,⟨.blt .len [38] 3,[op 1],.val (op 6)⟩,⟨.bin .lss 3,[op 4,op 5],.val (vp (.bool b1))⟩,⟨.bin .lss 3,[op 4,op 6],.val (vp (.bool b2))⟩,⟨.bin .gtr 3,[op 3,vp (ii 0)],.val (vp (.bool b3))⟩,
 ⟨.call 150,[op 0,op 4],.val (op 7)⟩,⟨.call 150,[op 1,op 4],.val (op 8)⟩,⟨.bin .add 3,[op 7,op 8],.val (op 9)⟩,⟨.bin .add 3,[op 9,op 3],.val (op 10)⟩,⟨.bin .rem 3,[op 10,vp (ii 10000)],.val (op 11)⟩,⟨.bin .quo 3,[op 10,vp (ii 10000)],.val (op 12)⟩,⟨.bin .add 3,[op 4,vp (ii 1)],.val (op 13)⟩]
theorem ckc {x y z:Value}(hx:x.oneCell'=true) (hy:y.oneCell'=true) (hz:z.oneCell'=true) (ds es:List Nat) (i c:Nat):∀ v∈ZM x y z ds es i c,v.oneCell'=true :=
 cf hx (cf hy (cf hz (cf rfl (cf rfl (cf rfl (cf rfl (cf rfl (cf rfl (cf rfl (cf rfl (cf rfl (cf rfl (cf rfl jI)))))))))))))
theorem cel {x y z:Value}{ds es:List Nat}{w:World}(hx:Dg w x ds) (hy:Dg w y es) (hds:Dig ds) (hes:Dig es) {i c:Nat}(hc:c<=1) (hi:i<1000000000) {b1 b2 b3:Bool}(h1:decide (i<ds.length)=b1) (h2:decide (i<es.length)=b2) (h3:decide (0<c)=b3):∀ t∈t_sum b1 b2 b3,t.Valid (CV 44 (ZM x y z ds es i c) w) :=
 have hd:=hds i;have he:=hes i
 ce (yY jU (pdW rfl hx) (rvW rfl)) (ce (yY jU (pdW rfl hy) (rvW rfl)) (ce (CH (pvW rfl) (pvW rfl) (by rw[← h1];simp)) (ce (CH (pvW rfl) (pvW rfl) (by rw[← h2];simp)) (ce (Ef (pvW rfl) pvl (by rw[← h3];simp))
  (ce (WK (i:=i) (pdW rfl hx) (pvW rfl) (rvW rfl)) (ce (WK (i:=i) (pdW rfl hy) (pvW rfl) (rvW rfl)) (ce (zR (by omega) (pvW rfl) (pvW rfl) (rvW rfl) (by omega)) (ce (zR (by omega) (pvW rfl) (pvW rfl) (rvW rfl) (by omega))
   (ce (ckd (k:=.i64) (n:=10000) (pvW rfl) pvl (rvW rfl) (by decide)) (ce (cfa (k:=.i64) (n:=10000) (pvW rfl) pvl (rvW rfl) (by decide) (by rw[zH];omega)) (ce (zR (by omega) (pvW rfl) pvl (rvW rfl) (by omega)) cj)))))))))))
noncomputable def b_sum:Code:=EB Tryz.f135
noncomputable def l_sum:Code:=kq (kq (cE (jQ (cE (cE (cE b_sum))))))
theorem Dg.one {w:World}{v:Value}{ds:List Nat}(h:Dg w v ds):v.oneCell'=true:=by
 obtain⟨ao,cap,rfl,_⟩:=h;rfl
theorem sum_ok (x y:Value) (ds es:List Nat) (w:World) (hx:Dg w x ds) (hy:Dg w y es) (hds:Dig ds) (hes:Dig es) (hl1:ds.length<100000000) (hl2:es.length<100000000):Calls Tryz.prog 135 #[x,y] w (fun e w'=>∃ v,e=.returned v/\Dg w' v (digs (nat ds+nat es))/\Below w.heap.size w w'):=by
 refine UK (nt:=44) (f:=135) Tryz.func135 (c:=.seq (jQ b_sum) (.seq (jQ (cE b_sum)) (.seq (jQ (cE (cE b_sum))) (.seq (.seq (jQ (jQ (cE (cE (cE b_sum))))) (.block 0 (.loop l_sum))) (cE (cE (cE (cE b_sum)))))))) rfl rfl rfl x y (fun a hs=>?_);have one2:∀ v∈[x,y],v.oneCell'=true:=cf hx.one (cf hy.one jI);refine cB (kd (T:=[]) [(0,0),(1,1)] [(0,0),(1,1)] (n:=30) (x:=.normal) one2 cj hs (by kernel_rfl) rfl rfl (fun a1 w1 hs hb1=>?_));refine cB ?_;show (Code.region 1 [_,_].toArray false).wp Tryz.prog _ _ _;refine cbv [(0,0),(1,1)] (d:=9) (t:=5) hs rfl rfl rfl rfl rfl rfl rfl rfl rfl rfl (B:=w.heap.size) hb1.size (fun z a2 w2 hz hown hs hb2=>?_);have hb2:=hb1.trans (hb2.mono hb1.size);have hs:St' 44 [x,y,z] [(5,2),(0,0),(1,1)] a2:=⟨hs.defers,hs.size,hz,hs.sl⟩;have one3:∀ v∈[x,y,z],v.oneCell'=true:=cf hx.one (cf hy.one (cf hown.one jI));refine cB (zy (T:=[]) [(5,2),(0,0),(1,1)] [(5,2),(0,0),(1,1)] [(6,ii 0)] (n:=30) (x:=.normal) one3 cj hs (by kernel_rfl) rfl rfl (fun a3 w3 hs hl6 hb3=>?_));have hs:St' 44 [x,y,z,ii 0] [(5,2),(0,0),(1,1),(6,3)] a3:=⟨hs.defers,hs.size,hs.sl.1,hs.sl.2.1,hs.sl.2.2.1,hl6.1,trivial⟩;have one4:∀ v∈[x,y,z,ii 0],v.oneCell'=true:=cf hx.one (cf hy.one (cf hown.one (cf rfl jI)));refine cB (cB (zy (T:=[]) [(5,2),(0,0),(1,1),(6,3)] [(5,2),(0,0),(1,1),(6,3)] [(7,ii 0)] (n:=30) (x:=.normal) one4 cj hs (by kernel_rfl) rfl rfl (fun a4 w4 hs hl7 hb4=>?_)));have hown:=(hown.below hb3).below hb4;have hb4:=(hb2.trans (hb3.mono hb2.size)).trans (hb4.mono (cA hb2.size hb3.size));have hs:St' 44 (ZM x y z ds es 0 0) [(0,0),(1,1),(5,2),(6,3),(7,4)] a4:=⟨hs.defers,hs.size,hs.sl.2.1,hs.sl.2.2.1,hs.sl.1,hs.sl.2.2.2.1,hl7.1,trivial⟩
 refine uG (Θ:=Nat×Nat) (fun θ a w1=>∃ z l,θ.2<=1/\(θ.1<=max ds.length es.length\/θ.1=max ds.length es.length+1/\θ.2=0)/\l.length=θ.1/\(∀ d∈l,d<10000)/\nat ds+nat es=nat l+10000^θ.1*(nat (ds.drop θ.1)+nat (es.drop θ.1)+θ.2)/\St' 44 (ZM x y z ds es θ.1 θ.2) [(0,0),(1,1),(5,2),(6,3),(7,4)] a/\Own w.heap.size w1 z l/\Below w.heap.size w w1) (fun θ=>2*(max ds.length es.length - θ.1)+θ.2) ?_ (0,0) ⟨z,[],by simp,.inl (ju _),rfl,by simp,by simp [nat],hs,hown,hb4⟩;rintro⟨i,c⟩ a w1 ⟨z,l,hc,hi,hll,hdl,hnat,hs,hown,hb⟩;have hx1:=hx.below hb (cb _);have hy1:=hy.below hb (cb _);have one:=ckc hx.one hy.one hown.one ds es i c;have hi':i<1000000000:=by
  rcases hi with hi|⟨hi,_⟩
  ·have hi:i<=max ds.length es.length:=hi;omega
  ·have hi:i=max ds.length es.length+1:=hi;omega
 by_cases hend:¬ i<ds.length/\¬ i<es.length/\¬ 0<c
 ·obtain⟨e1,e2,e3⟩:=hend;refine cB (kd [(0,0),(1,1),(5,2),(6,3),(7,4)] [(5,2)] (n:=30) (x:=.exit 0) one (cel (z:=z) hx1 hy1 hds hes hc hi' (cK e1) (cK e2) (cK e3)) hs (by kernel_rfl) rfl rfl (fun a5 w5 hs hb5=>?_));have hown:=hown.below hb5;have hb:=hb.trans (hb5.mono hb.size);have hs:St' 44 [z] [(5,0)] a5:=⟨hs.defers,hs.size,hs.sl⟩;have hC:(mkC [1,1] [false,false] [] 44 [clW z,clD (uc l)] w5).Ok:=uw (cn (Ga hown.one) (cn (jK noT _) kr)) rfl rfl;have hT:∀ t∈[(⟨.call 122,[op 0],.val (op 1)⟩:Ent)],t.Valid (mkC [1,1] [false,false] [] 44 [clW z,clD (uc l)] w5):=ce (cji (pdW rfl hown.dg) (rd rfl)) cj;refine seg_vd (vl:=[z]) [(5,0)] [] (t:=4) (ds:=uc l) hC hT hs 1 (fun i hi=>?_) rfl (n:=30) (x:=.ret) (by kernel_rfl) rfl rfl (fun a6 w6 v h4 hv hs hb6=>ceL rfl hs.defers h4 ⟨v,rfl,?_,hb.trans (hb6.mono hb.size)⟩)
  ·have hi:i<1:=hi;obtain rfl:i=0:=by omega
   rfl
  ·rw[hnat,uJ (by omega),uJ (by omega),show c=0 by omega];simp only[kh,Ck];rw[GP hdl];exact hv
 ·have key:∀ (Q':Exit->Act->World->Prop),(∀ a' w',St' 44 (ZM x y z ds es i c) [(0,0),(1,1),(5,2),(6,3),(7,4)] a'->Below w1.heap.size w1 w'->Q' .normal a' w')->(jQ l_sum).wp Tryz.prog Q' a w1:=by
   intro Q' hQ;cases h1:decide (i<ds.length)<;>cases h2:decide (i<es.length)<;>cases h3:decide (0<c)
   ·exfalso;have h1:=jn h1;have h2:=jn h2;have h3:=jn h3;exact hend ⟨h1,h2,h3⟩
   all_goals exact kd [(0,0),(1,1),(5,2),(6,3),(7,4)] [(0,0),(1,1),(5,2),(6,3),(7,4)] (n:=30) (x:=.normal) one (cel (z:=z) hx1 hy1 hds hes hc hi' h1 h2 h3) hs (by kernel_rfl) rfl rfl hQ
  have hdi:=hds i;have hei:=hes i;refine cB (key _ (fun a5 w5 hs hb5=>?_));have hown:=hown.below hb5;have hb:=hb.trans (hb5.mono hb.size);refine cB (CU (cB (kd [(0,0),(1,1),(5,2),(6,3),(7,4)] [(0,0),(1,1),(5,2),(7,4),(8,10)] (n:=30) (x:=.normal) one (cel (z:=z) (hx.below hb (cb _)) (hy.below hb (cb _)) hds hes hc hi' rfl rfl rfl) hs (by kernel_rfl) rfl rfl (fun a6 w6 hs hb6=>?_))));have hown:=hown.below hb6;have hb:=hb.trans (hb6.mono hb.size);refine cB ?_;show (Code.region 7 (Jz (jQ (cE (kq (jQ (cE l_sum)))))).toArray false).wp Tryz.prog _ _ _;refine ciU [(0,0),(1,1),(5,2),(7,4),(8,10)] [(0,0),(1,1),(7,4),(8,10)] 4 (s:=35) (x:=38) (d:=39) (t:=5) (cd:=11) (z:=z) (ds:=l) (dg:=(ds.getD i 0+es.getD i 0+c)%10000) one (cel (z:=z) (hx.below hb (cb _)) (hy.below hb (cb _)) hds hes hc hi' rfl rfl rfl) hs 2 (by kernel_rfl) rfl rfl rfl rfl rfl rfl rfl rfl rfl rfl rfl rfl rfl rfl rfl hown hb.size (by omega) (fun z' a7 w7 h5 hown hs hb7=>?_);have hb:=hb.trans hb7;have one:=ckc hx.one hy.one hown.one ds es i c;have hs:St' 44 (ZM x y z' ds es i c) [(0,0),(1,1),(5,2),(7,4),(8,10)] a7:=⟨hs.defers,hs.size,hs.sl.1,hs.sl.2.1,h5,hs.sl.2.2⟩;refine kd [(0,0),(1,1),(5,2),(7,4),(8,10)] [(0,0),(1,1),(5,2),(6,12),(7,4)] (n:=30) (x:=.normal) one (cel (z:=z') (hx.below hb (cb _)) (hy.below hb (cb _)) hds hes hc hi' rfl rfl rfl) hs (by kernel_rfl) rfl rfl (fun a8 w8 hs hb8=>?_);have hown:=hown.below hb8;have hb:=hb.trans (hb8.mono hb.size);show (cE (cE l_sum)).wp Tryz.prog _ _ _;refine kd [(0,0),(1,1),(5,2),(6,12),(7,4)] [(0,0),(1,1),(5,2),(6,12),(7,13)] (n:=30) (x:=.normal) one (cel (z:=z') (hx.below hb (cb _)) (hy.below hb (cb _)) hds hes hc hi' rfl rfl rfl) hs (by kernel_rfl) rfl rfl (fun a9 w9 hs hb9=>?_)
  have hown:=hown.below hb9;have hb:=hb.trans (hb9.mono hb.size);refine⟨(i+1,(ds.getD i 0+es.getD i 0+c)/10000),⟨z',l++[(ds.getD i 0+es.getD i 0+c)%10000],?_,?_,?_,?_,?_,⟨hs.defers,hs.size,hs.sl⟩,hown,hb⟩,?_⟩
  ·show (ds.getD i 0+es.getD i 0+c)/10000<=1;omega
  ·by_cases h:i<ds.length\/i<es.length
   ·exact .inl (by show i+1<=_;omega)
   ·have e1:ds.getD i 0=0:=by rw[yR,yA (by omega)];rfl
    have e2:es.getD i 0=0:=by rw[yR,yA (by omega)];rfl
    refine .inr ⟨?_,?_⟩
    ·show i+1=_;omega
    ·show (ds.getD i 0+es.getD i 0+c)/10000=0;omega
  ·simp [hll]
  ·intro d hd;rcases List.mem_append.1 hd with h|h
   ·exact hdl d h
   ·have:d=(ds.getD i 0+es.getD i 0+c)%10000:=by simpa using h
    omega
  ·rw[hnat,UP,GS ds i,GS es i,hll];simp only;generalize nat (ds.drop (i+1))=da;generalize nat (es.drop (i+1))=ea;have hs:=Nat.mod_add_div (ds.getD i 0+es.getD i 0+c) 10000;generalize (ds.getD i 0+es.getD i 0+c)/10000=q at hs ⊢;generalize (ds.getD i 0+es.getD i 0+c)%10000=r at hs ⊢;rw[ji,jy (10000^i),zO (nat l),← cP];congr 2;omega
  ·show 2*(max ds.length es.length-(i+1))+(ds.getD i 0+es.getD i 0+c)/10000<2*(max ds.length es.length-i)+c;by_cases h:i<ds.length\/i<es.length
   ·omega
   ·have e1:ds.getD i 0=0:=by rw[yR,yA (by omega)];rfl
    have e2:es.getD i 0=0:=by rw[yR,yA (by omega)];rfl
    omega
end Sym
namespace Sym
abbrev GB (x y z:Value) (ds es:List Nat) (i b:Nat) (dd:Nat):List Value:=[x,y,z,ii (b:Int),ii (i:Int),ii (ds.length:Int),Jj x i,ii ((ds.getD i 0:Nat):Int),ii ((es.getD i 0:Nat):Int),ii (((ds.getD i 0:Nat):Int)-((es.getD i 0:Nat):Int)),ii (((ds.getD i 0:Nat):Int)-((es.getD i 0:Nat):Int)-(b:Int)),ii (dd:Int),ii ((i+1:Nat):Int),ii 0]
def t_rest0:List Ent:=[⟨.blt .len [38] 3,[op 0],.val (op 5)⟩,⟨.bin .lss 3,[op 4,op 5],.val (vp (.bool false))⟩]
def t_rest (b2:Bool):List Ent:=[⟨.blt .len [38] 3,[op 0],.val (op 5)⟩,⟨.bin .lss 3,[op 4,op 5],.val (vp (.bool true))⟩,⟨.ix 38,[op 0,op 4],.val (op 6)⟩,⟨.ld 3,[op 6],.val (op 7)⟩,⟨.call 150,[op 1,op 4],.val (op 8)⟩,⟨.bin .sub 3,[op 7,op 8],.val (op 9)⟩,⟨.bin .sub 3,[op 9,op 3],.val (op 10)⟩,
 ⟨.bin .lss 3,[op 10,vp (ii 0)],.val (vp (.bool b2))⟩,⟨.bin .add 3,[op 4,vp (ii 1)],.val (op 12)⟩]
def t_restB:List Ent:=[⟨.bin .add 3,[op 10,vp (ii 10000)],.val (op 11)⟩]
theorem JQ {x y z:Value}(hx:x.oneCell'=true) (hy:y.oneCell'=true) (hz:z.oneCell'=true) (ds es:List Nat) (i b dd:Nat):∀ v∈GB x y z ds es i b dd,v.oneCell'=true :=
 cf hx (cf hy (cf hz (cf rfl (cf rfl (cf rfl (cf (GJ _ _) (cf rfl (cf rfl (cf rfl (cf rfl (cf rfl (cf rfl (cf rfl jI)))))))))))))
theorem cgH {x y z:Value}{ds es:List Nat}{w:World}(hx:Dg w x ds) (hy:Dg w y es) (hds:Dig ds) (hes:Dig es) {i b dd:Nat}(hb:b<=1) (hi:i<ds.length) (hl:ds.length<1000000000) {b2:Bool}(h2:decide (ds.getD i 0<es.getD i 0+b)=b2):∀ t∈t_rest b2,t.Valid (CV 36 (GB x y z ds es i b dd) w) :=
 have hd:=hds i;have he:=hes i
 ce (yY jU (pdW rfl hx) (rvW rfl)) (ce (CH (pvW rfl) (pvW rfl) (cF (by omega))) (ce (cdZ jU Cb (pvW rfl) hx (pvW rfl) hi (rvW rfl)) (ce (chA (pvW rfl) hx hi (rvW rfl)) (ce (WK (i:=i) (pdW rfl hy) (pvW rfl) (rvW rfl))
  (ce (JO rfl (pvW rfl) (pvW rfl) (rvW rfl) (by omega)) (ce (JO rfl (pvW rfl) (pvW rfl) (rvW rfl) (by omega)) (ce (CH (pvW rfl) pvl (by rw[← h2];congr 1;apply propext;constructor<;>intro h<;>omega)) (ce (zR (by omega) (pvW rfl) pvl (rvW rfl) (by omega)) cj))))))))
noncomputable def b_rest:Code:=EB Tryz.f136
noncomputable def l_rest:Code:=kq (kq (cE (jQ (cE (cE (cE b_rest))))))
theorem rest_ok (x y:Value) (ds es:List Nat) (w:World) (hx:Dg w x ds) (hy:Dg w y es) (hds:Dig ds) (hes:Dig es) (hl1:ds.length<100000000) (hl2:es.length<=ds.length) (hle:nat es<=nat ds):Calls Tryz.prog 136 #[x,y] w (fun e w'=>∃ v,e=.returned v/\Dg w' v (digs (nat ds-nat es))/\(∀ k,v.ownBlock=some k->w.heap.size<=k)/\Below w.heap.size w w'):=by
 refine UK (nt:=36) (f:=136) Tryz.func136 (c:=.seq (jQ b_rest) (.seq (jQ (cE b_rest)) (.seq (jQ (cE (cE b_rest))) (.seq (.seq (jQ (jQ (cE (cE (cE b_rest))))) (.block 0 (.loop l_rest))) (cE (cE (cE (cE b_rest)))))))) rfl rfl rfl x y (fun a hs=>?_);have one2:∀ v∈[x,y],v.oneCell'=true:=cf hx.one (cf hy.one jI);refine cB (kd (T:=[]) [(0,0),(1,1)] [(0,0),(1,1)] (n:=30) (x:=.normal) one2 cj hs (by kernel_rfl) rfl rfl (fun a1 w1 hs hb1=>?_));refine cB ?_;show (Code.region 1 [_,_].toArray false).wp Tryz.prog _ _ _;refine cbv [(0,0),(1,1)] (d:=9) (t:=5) hs rfl rfl rfl rfl rfl rfl rfl rfl rfl rfl (B:=w.heap.size) hb1.size (fun z a2 w2 hz hown hs hb2=>?_);have hb2:=hb1.trans (hb2.mono hb1.size);have hs:St' 36 [x,y,z] [(5,2),(0,0),(1,1)] a2:=⟨hs.defers,hs.size,hz,hs.sl⟩;have one3:∀ v∈[x,y,z],v.oneCell'=true:=cf hx.one (cf hy.one (cf hown.one jI));refine cB (zy (T:=[]) [(5,2),(0,0),(1,1)] [(5,2),(0,0),(1,1)] [(6,ii 0)] (n:=30) (x:=.normal) one3 cj hs (by kernel_rfl) rfl rfl (fun a3 w3 hs hl6 hb3=>?_));have hs:St' 36 [x,y,z,ii 0] [(5,2),(0,0),(1,1),(6,3)] a3:=⟨hs.defers,hs.size,hs.sl.1,hs.sl.2.1,hs.sl.2.2.1,hl6.1,trivial⟩;have one4:∀ v∈[x,y,z,ii 0],v.oneCell'=true:=cf hx.one (cf hy.one (cf hown.one (cf rfl jI)));refine cB (cB (zy (T:=[]) [(5,2),(0,0),(1,1),(6,3)] [(5,2),(0,0),(1,1),(6,3)] [(7,ii 0)] (n:=30) (x:=.normal) one4 cj hs (by kernel_rfl) rfl rfl (fun a4 w4 hs hl7 hb4=>?_)));have hown:=(hown.below hb3).below hb4;have hb4:=(hb2.trans (hb3.mono hb2.size)).trans (hb4.mono (cA hb2.size hb3.size));have hs:St' 36 (GB x y z ds es 0 0 0) [(0,0),(1,1),(5,2),(6,3),(7,4)] a4:=⟨hs.defers,hs.size,hs.sl.2.1,hs.sl.2.2.1,hs.sl.1,hs.sl.2.2.2.1,hl7.1,trivial⟩
 refine uG (Θ:=Nat×Nat) (fun θ a w1=>∃ z l,θ.2<=1/\θ.1<=ds.length/\l.length=θ.1/\(∀ d∈l,d<10000)/\nat ds+10000^θ.1*(nat (es.drop θ.1)+θ.2)=nat es+nat l+10000^θ.1*nat (ds.drop θ.1)/\St' 36 (GB x y z ds es θ.1 θ.2 0) [(0,0),(1,1),(5,2),(6,3),(7,4)] a/\Own w.heap.size w1 z l/\Below w.heap.size w w1) (fun θ=>ds.length - θ.1) ?_ (0,0) ⟨z,[],by simp,ju _,rfl,by simp,by simp [nat];omega,hs,hown,hb4⟩;rintro⟨i,b⟩ a w1 ⟨z,l,hc,hi,hll,hdl,hnat,hs,hown,hb⟩;have hc:b<=1:=hc;have hll:l.length=i:=hll;have hx1:=hx.below hb (cb _);have hy1:=hy.below hb (cb _);by_cases hend:ds.length<=i
 ·have one:=JQ hx.one hy.one hown.one ds es i b 0;have hT:∀ t∈t_rest0,t.Valid (CV 36 (GB x y z ds es i b 0) w1):=ce (yY jU (pdW rfl hx1) (rvW rfl)) (ce (CH (pvW rfl) (pvW rfl) (cK (by omega))) cj);refine cB (kd [(0,0),(1,1),(5,2),(6,3),(7,4)] [(5,2)] (n:=30) (x:=.exit 0) one hT hs (by kernel_rfl) rfl rfl (fun a5 w5 hs hb5=>?_));have hown:=hown.below hb5;have hb:=hb.trans (hb5.mono hb.size);have hs:St' 36 [z] [(5,0)] a5:=⟨hs.defers,hs.size,hs.sl⟩;have hC:(mkC [1,1] [false,false] [] 36 [clW z,clF w.heap.size (uc l)] w5).Ok:=uw (cn (Ga hown.one) (cn (ccX noT _ _) kr)) rfl rfl;have hT:∀ t∈[(⟨.call 122,[op 0],.val (op 1)⟩:Ent)],t.Valid (mkC [1,1] [false,false] [] 36 [clW z,clF w.heap.size (uc l)] w5):=ce (cge (pfW rfl hown.dg (fun k hk=>(hown.lt k hk).1)) (rf rfl)) cj;refine seg_vf (vl:=[z]) [(5,0)] [] (t:=4) (ds:=uc l) hC hT hs 1 (fun i hi=>?_) rfl (n:=30) (x:=.ret) (by kernel_rfl) rfl rfl (fun a6 w6 v h4 hv hfr hs hb6=>ceL rfl hs.defers h4 ⟨v,rfl,?_,hfr,hb.trans (hb6.mono hb.size)⟩)
  ·have hi:i<1:=hi;obtain rfl:i=0:=by omega
   rfl
  ·have hnl:=JP hdl;rw[hll] at hnl;rw[uJ (by show es.length<=i;omega),uJ (by show ds.length<=i;omega)] at hnat;have hnat:nat ds+10000^i*(0+b)=nat es+nat l+10000^i*0:=hnat;have hb0:b=0:=by
    rcases jd b 1 with h|h
    ·omega
    ·have:b=1:=by omega
     subst this;omega
   subst hb0;rw[show nat ds-nat es=nat l by omega,GP hdl];exact hv
 ·have hi:i<ds.length:=by omega
  have hdi:=hds i;have hei:=hes i;have hl9:ds.length<1000000000:=by omega
  refine cB (kd [(0,0),(1,1),(5,2),(6,3),(7,4)] [(0,0),(1,1),(5,2),(6,3),(7,4)] (n:=30) (x:=.normal) (JQ hx.one hy.one hown.one ds es i b 0) (cgH (z:=z) hx1 hy1 hds hes hc hi hl9 rfl) hs (by kernel_rfl) rfl rfl (fun a5 w5 hs hb5=>?_));have hown:=hown.below hb5;have hb:=hb.trans (hb5.mono hb.size);refine cB (CU (cB (kd [(0,0),(1,1),(5,2),(6,3),(7,4)] [(0,0),(1,1),(5,2),(7,4),(8,10)] (n:=30) (x:=.normal) (JQ hx.one hy.one hown.one ds es i b 0) (cgH (z:=z) (hx.below hb (cb _)) (hy.below hb (cb _)) hds hes hc hi hl9 rfl) hs (by kernel_rfl) rfl rfl (fun a6 w6 hs hb6=>?_))));have hown:=hown.below hb6;have hb:=hb.trans (hb6.mono hb.size);refine cB (zy (T:=[]) [(0,0),(1,1),(5,2),(7,4),(8,10)] [(0,0),(1,1),(5,2),(7,4),(8,10)] [(6,ii 0)] (n:=30) (x:=.normal) (JQ hx.one hy.one hown.one ds es i b 0) cj hs (by kernel_rfl) rfl rfl (fun a7 w7 hs hl6 hb7=>?_));have hown:=hown.below hb7;have hb:=hb.trans (hb7.mono hb.size);have key:∀ (Q':Exit->Act->World->Prop),(∀ bn dd a' w',bn<=1->es.getD i 0+b+dd=ds.getD i 0+10000*bn->dd<10000->St' 36 [x,y,z,ii ((bn:Nat):Int),ii (i:Int),ii ((dd:Nat):Int),ii ((i+1:Nat):Int)] [(0,0),(1,1),(5,2),(6,3),(7,4),(8,5)] a'->Below w7.heap.size w7 w'->Q' .normal a' w')->(jQ (cE (cE (kq (jQ (cE l_rest)))))).wp Tryz.prog Q' a7 w7:=by
   intro Q' hQ;by_cases hneg:ds.getD i 0<es.getD i 0+b
   ·obtain⟨dd,hdd⟩:∃ dd,es.getD i 0+b+dd=ds.getD i 0+10000:=⟨ds.getD i 0+10000-(es.getD i 0+b),by omega⟩;have hs:St' 36 (GB x y z ds es i b dd) [(0,0),(1,1),(5,2),(7,4),(8,10)] a7:=⟨hs.defers,hs.size,hs.sl⟩;have hT:∀ t∈t_restB++t_rest true,t.Valid (CV 36 (GB x y z ds es i b dd) w7):=by
     intro t ht;rcases List.mem_append.1 ht with h|h
     ·exact(ce (P:=fun t=>Ent.Valid (CV 36 (GB x y z ds es i b dd) w7) t) (zR (u:=(dd:Int)) (by omega) (pvW rfl) pvl (rvW rfl) (by omega)) cj) t h
     ·exact cgH (z:=z) (hx.below hb (cb _)) (hy.below hb (cb _)) hds hes hc hi hl9 (cF hneg) t h
    refine zy [(0,0),(1,1),(5,2),(7,4),(8,10)] [(0,0),(1,1),(5,2),(7,4),(8,11)] [(6,ii 1)] (n:=30) (x:=.normal) (JQ hx.one hy.one hown.one ds es i b dd) hT hs (by kernel_rfl) rfl rfl (fun a8 w8 hs hl6 hb8=>?_);exact hQ 1 dd a8 w8 (by omega) (by omega) (by omega) ⟨hs.defers,hs.size,hs.sl.1,hs.sl.2.1,hs.sl.2.2.1,hl6.1,hs.sl.2.2.2.1,hs.sl.2.2.2.2.1,trivial⟩ hb8
   ·obtain⟨dd,hdd⟩:∃ dd,es.getD i 0+b+dd=ds.getD i 0:=⟨ds.getD i 0-(es.getD i 0+b),by omega⟩;have hs:St' 36 (GB x y z ds es i b dd) [(0,0),(1,1),(5,2),(7,4),(8,10),(6,13)] a7:=⟨hs.defers,hs.size,hs.sl.1,hs.sl.2.1,hs.sl.2.2.1,hs.sl.2.2.2.1,hs.sl.2.2.2.2.1,hl6.1,trivial⟩;refine kd [(0,0),(1,1),(5,2),(7,4),(8,10),(6,13)] [(0,0),(1,1),(5,2),(7,4),(8,10),(6,13)] (n:=30) (x:=.normal) (JQ hx.one hy.one hown.one ds es i b dd) (cgH (z:=z) (hx.below hb (cb _)) (hy.below hb (cb _)) hds hes hc hi hl9 (cK hneg)) hs (by kernel_rfl) rfl rfl (fun a8 w8 hs hb8=>?_);have h8:a8.tmps[8]?=some (ii (dd:Int)):=by
     have:a8.tmps[8]?=some (ii (((ds.getD i 0:Nat):Int)-((es.getD i 0:Nat):Int)-(b:Int))):=hs.sl.2.2.2.2.1;rw[this,show ((ds.getD i 0:Nat):Int)-((es.getD i 0:Nat):Int)-(b:Int)=(dd:Int) by omega]
    exact hQ 0 dd a8 w8 (by omega) (by omega) (by omega) ⟨hs.defers,hs.size,hs.sl.1,hs.sl.2.1,hs.sl.2.2.1,hs.sl.2.2.2.2.2.1,hs.sl.2.2.2.1,h8,trivial⟩ hb8
  refine cB (key _ (fun bn dd a8 w8 hbn hdd hdl9 hs hb8=>?_));have hown:=hown.below hb8;have hb:=hb.trans (hb8.mono hb.size);have one:∀ z:Value,z.oneCell'=true->∀ v∈[x,y,z,ii ((bn:Nat):Int),ii (i:Int),ii ((dd:Nat):Int),ii ((i+1:Nat):Int)],v.oneCell'=true:=fun z hz=>cf hx.one (cf hy.one (cf hz (cf rfl (cf rfl (cf rfl (cf rfl jI))))));show (Code.region 10 (Jz (cE (cE (cE (kq (jQ (cE l_rest))))))).toArray false).wp Tryz.prog _ _ _;refine ciU (T:=[]) [(0,0),(1,1),(5,2),(6,3),(7,4),(8,5)] [(0,0),(1,1),(6,3),(7,4)] 3 (s:=30) (x:=32) (d:=33) (t:=5) (cd:=5) (z:=z) (ds:=l) (dg:=dd) (one z hown.one) cj hs 2 (by kernel_rfl) rfl rfl rfl rfl rfl rfl rfl rfl rfl rfl rfl rfl rfl rfl rfl hown hb.size (by omega) (fun z' a9 w9 h5 hown hs hb9=>?_);have hb:=hb.trans hb9;have hs:St' 36 [x,y,z',ii ((bn:Nat):Int),ii (i:Int),ii ((dd:Nat):Int),ii ((i+1:Nat):Int)] [(0,0),(1,1),(5,2),(6,3),(7,4)] a9:=⟨hs.defers,hs.size,hs.sl.1,hs.sl.2.1,h5,hs.sl.2.2⟩;show (cE (cE l_rest)).wp Tryz.prog _ _ _;have hT:∀ t∈[(⟨.bin .add 3,[op 4,vp (ii 1)],.val (op 6)⟩:Ent)],t.Valid (CV 36 [x,y,z',ii ((bn:Nat):Int),ii (i:Int),ii ((dd:Nat):Int),ii ((i+1:Nat):Int)] w9):=ce (zR (by omega) (pvW rfl) pvl (rvW rfl) (by omega)) cj;refine kd [(0,0),(1,1),(5,2),(6,3),(7,4)] [(0,0),(1,1),(5,2),(6,3),(7,6)] (n:=30) (x:=.normal) (one z' hown.one) hT hs (by kernel_rfl) rfl rfl (fun a10 w10 hs hb10=>?_);have hown:=hown.below hb10;have hb:=hb.trans (hb10.mono hb.size);refine⟨(i+1,bn),⟨z',l++[dd],hbn,?_,?_,?_,?_,⟨hs.defers,hs.size,hs.sl⟩,hown,hb⟩,?_⟩
  ·show i+1<=ds.length;omega
  ·simp [hll]
  ·intro d hd;rcases List.mem_append.1 hd with h|h
   ·exact hdl d h
   ·have:d=dd:=by simpa using h
    omega
  ·have hnat:nat ds+10000^i*(nat (es.drop i)+b)=nat es+nat l+10000^i*nat (ds.drop i):=hnat;show nat ds+10000^(i+1)*(nat (es.drop (i+1))+bn)=nat es+nat (l++[dd])+10000^(i+1)*nat (ds.drop (i+1));rw[GS ds i,GS es i] at hnat;rw[UP,hll];generalize nat (ds.drop (i+1))=da at hnat ⊢;generalize nat (es.drop (i+1))=ea at hnat ⊢;have e1:10000^i*(es.getD i 0+10000*ea+b)+10000^i*dd=10000^i*ds.getD i 0+10000^(i+1)*(ea+bn):=by
    rw[ji,jy,← cP,← cP];congr 1;omega
   have e2:10000^i*(ds.getD i 0+10000*da)=10000^i*ds.getD i 0+10000^(i+1)*da:=by
    rw[ji,jy,← cP]
   omega
  ·show ds.length-(i+1)<ds.length-i;omega
end Sym
namespace Sym
section
variable {nt:Nat}{vl:List Value}{w:World}{a:Act}{T:List Ent}{Q:Exit->Act->World->Prop}
theorem ccb:∃ i,Tryz.prog.info? 3=some i/\i.zero=some (ii 0)/\i.size=1/\i.bytes=8:=by
 have h:(Tryz.prog.info? 3).map (fun i=>(i.zero,i.size,i.bytes))=some (some (ii 0),1,8):=by kernel_rfl
 obtain⟨i,h1,h2⟩:=Option.map_eq_some_iff.1 h;simp only[cr] at h2;exact⟨i,h1,h2.1,h2.2.1,h2.2.2⟩
theorem make_v (pre post:List (Nat×Nat)) {id:Nat}{l:List Oper}(i:Nat) {om os:Oper}{s d t B n:Nat}(h1:∀ v∈vl,v.oneCell'=true) (hT:∀ t∈T,t.Valid (CV nt vl w)) (hs:St' nt vl pre a) (cs:Nat)
 (h:opsB (CV nt vl w).toStat T (l.take i) (jN pre) (jN ((s,cs)::post))=true) (hl:l.drop i=[om,os]) (hg:om.guard=none) (hg':os.guard=none)
 (ho:om.op=.makeSlice 38 (.tmp s) (.tmp s)) (hd:om.dst=some d) (ho':os.op=.assign (.tmp d)) (hd':os.dst=some t)
 (hcs:vl[cs]?=some (ii (n:Int))) (hlim:Nat.blt d nt=true) (hlim':Nat.blt t nt=true) (hap:zN post d=true) (hap':zN post t=true)
 (hi:zw pre vl.length=true) (hi':zw ((s,cs)::post) vl.length=true) (hB:B<=w.heap.size) (hn:n<1000000000)
 (hQ:∀ z' a' w',a'.tmps[t]?=some z'->Own B w' z' (List.replicate n 0)->St' nt vl post a'->Below B w w'->Q .normal a' w'):(Code.region id l.toArray false).wp Tryz.prog Q a w:=by
 refine YC ?_;rw[show wpList Tryz.prog l.toArray Q l a w=wpList Tryz.prog l.toArray Q (l.take i++l.drop i) a w by rw[kv],hl];refine caA (ceK h1) hT h (hs.at hi) (fun a2 w2 hA=>?_);have hit:=hA.items;rw[← ug (jN ((s,cs)::post))] at hit;obtain⟨⟨sz,hsl⟩,_⟩:=Ee hi' hit;have sz:a2.tmps[s]?=some (ii (n:Int)):=by rw[sz,List.getD,hcs];rfl
 have hB2:B<=w2.heap.size:=cA hB hA.below.size;have hev:a2.eval (.tmp s)=ii (n:Int):=by simp [Act.eval,uX,sz]
 obtain⟨inf,q1,q2,q3,q4⟩:=ccb;refine Uq w2 hg (.tmp s) (.tmp s) 38 ho B 3 inf (ii 0) 1 (by kernel_rfl) q1 q2 q3 .i64 .i64 n n n hev hev rfl rfl (by rw[q4];omega) (by simp only[maxLen];omega) hB2 (fun w3 hown hgr=>?_);generalize Value.slice (some ⟨w2.heap.size,0,none⟩) n n=z' at hown ⊢;rw[hd];refine YE hg' (fun K hK=>?_);have hsz:d<a2.tmps.size:=by
  have:d<nt:=by simpa using hlim
  rw[hA.size];exact this
 have hst:t<(a2.put (some d) z').tmps.size:=by
  have:t<nt:=by simpa using hlim'
  rw[uI,hA.size];exact this
 have hev:(a2.put (some d) z').eval (.tmp d)=z':=by simp [Act.eval,uX,CW hsz]
 have hw:(execOp (a2.put (some d) z').eval os).run (CV nt vl w).P w3=.ok (.value z') w3:=by simp only[execOp,ho',hev];rfl
 refine cJ hw (hK _ _ ?_);rw[hd'];have hown':Own B w3 z' (List.replicate n 0):=by
  have e:(madeCells (ii 0).cells (n*1)).toList=(List.replicate n 0).map (fun d:Nat=>ii (d:Int)):=by
   rw[Cm,List.map_replicate];exact toList_madeCells_one _ n
  rw[e] at hown;show w3.ownsRow B _ 1 z' (List.replicate n 0).length _;rw[List.length_replicate];exact hown
 refine hQ z' _ w3 (CW hst) hown' ⟨(ue _ _ _).trans ((ue _ _ _).trans hA.defers),(uI _ _ _).trans ((uI _ _ _).trans hA.size),Sl.put hap' (Sl.put hap hsl)⟩ ?_;exact(hA.below.mono hB).trans ⟨hgr.os,hgr.tape,hgr.output,hgr.size,fun i hi=>hgr.block i (by omega) (by simp)⟩
theorem Dg.grown {w w':World}{row:Option Nat}{v:Value}{ds:List Nat}(h:Dg w v ds) (hg:w.grownBy w' row) (hne:∀ k,v.ownBlock=some k->some k≠row):Dg w' v ds:=by
 obtain⟨ao,cap,rfl,h1,h2,h3⟩:=h;refine⟨ao,cap,rfl,h1,h2,fun hn=>?_⟩;obtain⟨b,off,rfl,⟨cs,fr,hc⟩,hr⟩:=h3 hn;have hb:w'.heap[b]?=w.heap[b]?:=hg.block b (Array.getElem?_eq_some_iff.1 hc).1 (hne b rfl);exact⟨b,off,rfl,⟨cs,fr,hb.trans hc⟩,fun i hi=>(ZV (a:=⟨b,off+i,none⟩) hb).trans (hr i hi)⟩
theorem cks (pre post:List (Nat×Nat)) {id:Nat}{l:List Oper}(i:Nat) {os:Oper}{s t B cp cv:Nat}{z:Value}{ds:List Nat}{j d:Nat}(h1:∀ v∈vl,v.oneCell'=true) (hT:∀ t∈T,t.Valid (CV nt vl w)) (hs:St' nt vl pre a)
 (h:opsB (CV nt vl w).toStat T (l.take i) (jN pre) (jN ((s,cp)::(t,cv)::post))=true) (hl:l.drop i=[os]) (hg:os.guard=none)
 (ho:os.op=.store 3 (.tmp s) (.tmp t)) (hd:os.dst=none)
 (hcp:vl[cp]?=some (Jj z j)) (hcv:vl[cv]?=some (ii (d:Int)))
 (hi:zw pre vl.length=true) (hi':zw ((s,cp)::(t,cv)::post) vl.length=true) (hown:Own B w z ds) (hB:B<=w.heap.size) (hj:j<ds.length)
 (hQ:∀ a' w',Own B w' z (ds.set j d)->St' nt vl post a'->Below B w w'->(∀ v rs,Dg w v rs->(∀ k,v.ownBlock=some k->some k≠z.ownBlock)->Dg w' v rs)->Q .normal a' w'):(Code.region id l.toArray false).wp Tryz.prog Q a w:=by
 refine YC ?_;rw[show wpList Tryz.prog l.toArray Q l a w=wpList Tryz.prog l.toArray Q (l.take i++l.drop i) a w by rw[kv],hl];refine caA (ceK h1) hT h (hs.at hi) (fun a2 w2 hA=>?_);have hit:=hA.items;rw[← ug (jN ((s,cp)::(t,cv)::post))] at hit;obtain⟨⟨ss,st,hsl⟩,_⟩:=Ee hi' hit;have hown:=hown.below hA.below;have hown0:=hown;rcases hown.2 with⟨rfl,h3⟩|⟨g,cap,cur,rfl,hb,hgc,hn,hc,hsz,ht⟩
 ·omega
 have ss:a2.eval (.tmp s)=.pointer (some ⟨g,j,none⟩):=by
  have:a2.tmps[s]?=some (Jj (.slice (some ⟨g,0,none⟩) ds.length cap) j):=by rw[ss,List.getD,hcp];rfl
  rw[show Jj (.slice (some ⟨g,0,none⟩) ds.length cap) j=.pointer (some ⟨g,0+j,none⟩) from rfl,je] at this;simp [Act.eval,uX,this]
 have st:a2.eval (.tmp t)=ii (d:Int):=by
  have:a2.tmps[t]?=some (ii (d:Int)):=by rw[st,List.getD,hcv];rfl
  simp [Act.eval,uX,this]
 obtain⟨h5,hgr⟩:=hown0.stored j (ii (d:Int));refine YE hg (fun K hK=>?_);obtain⟨u,hu⟩:∃ u,w2.cell? ⟨g,j,none⟩=some u:=by
  have:j<cur.size:=by omega
  exact⟨cur[j],by simp [World.cell?,hgc,this]⟩
 have hz:=frozen_of_row w2 g j cur 3 hgc;have hst:(store (⟨g,j,none⟩:Addr) (ii (d:Int))).run Tryz.prog w2=.ok () (w2.setCell ⟨g,j,none⟩ (ii (d:Int))):=by
  rw[run_store_int];simp [stored,hu,hz]
 have hadd:(⟨g,j,none⟩:Addr).add 0=⟨g,j,none⟩:=by simp [Addr.add]
 have hsv:(storeVar 3 ⟨g,j,none⟩ (ii (d:Int))).run Tryz.prog w2=.ok () (w2.setCell ⟨g,j,none⟩ (ii (d:Int))):=by
  have hc1:(ii (d:Int)).cells=#[ii (d:Int)]:=rfl;simp only[storeVar,jc,Kc,jC,hc1];simp only[Ek,uP,Ys,ne_eq,not_true_eq_false,Gy,storeCells,hadd,jc,hst,jC];rfl
 have hw:(execOp a2.eval os).run Tryz.prog w2=.ok .skip (w2.setCell ⟨g,j,none⟩ (ii (d:Int))):=by simp [execOp,ho,ss,st,Instr.storeAt,Instr.sureAddr,hsv]
 unfold Oper.wp;have hw:(execOp a2.eval os).run (CV nt vl w).P w2=.ok .skip (w2.setCell ⟨g,j,none⟩ (ii (d:Int))):=hw;rw[hw];refine hK _ _ ?_;rw[hd];have hgB:B<=g:=hb;have hown':Own B (w2.setCell ⟨g,j,none⟩ (ii (d:Int))) (.slice (some ⟨g,0,none⟩) ds.length cap) (ds.set j d):=by
  show World.ownsRow _ B _ 1 _ (ds.set j d).length ((ds.set j d).map (fun d:Nat=>ii (d:Int)));rw[Ev,List.map_set];exact h5
 exact hQ _ _ hown' ⟨hA.defers,hA.size,hsl⟩ ((hA.below.mono hB).trans ⟨hgr.os,hgr.tape,hgr.output,hgr.size,fun i hi=>hgr.block i (cI hi (cA hB hA.below.size)) (fun e=>by injection e with e;omega)⟩) (fun v rs hv hne=>(hv.below hA.below (cb _)).grown hgr hne)
end
end Sym
namespace Sym
theorem clI:∀ {l:List Nat}{k v:Nat},k<l.length->nat (l.set k v)+10000^k*l.getD k 0=nat l+10000^k*v
 |[],k,v,h=>by simp at h
 |d::l,0,v,h=>by
  show v+10000*nat l+10000^0*d=d+10000*nat l+10000^0*v;simp;omega
 |d::l,k+1,v,h=>by
  have:=clI (l:=l) (k:=k) (v:=v) (by simpa using h);show d+10000*nat (l.set k v)+10000^(k+1)*l.getD k 0=d+10000*nat l+10000^(k+1)*v;rw[ji,jf (10000^k) 10000,jy,jy];omega
theorem cdq {ds:List Nat}{j:Nat}(h:ds.length<=j):ds.getD j 0=0:=by rw[yR,yA h];rfl
theorem cih (es:List Nat) (j:Nat):nat (es.take (j+1))=nat (es.take j)+10000^j*es.getD j 0:=by
 rcases jd j es.length with h|h
 ·rw[caB h,UP,jp,uq (by omega)]
 ·rw[cdq h,kA h,kA (by omega)];simp
theorem cdU {l:List Nat}{k v j:Nat}(h:j≠k):(l.set k v).getD j 0=l.getD j 0:=by
 simp [List.getD,List.getElem?_set,Ne.symm h]
theorem cbZ {l:List Nat}{k v:Nat}(h:∀ d∈l,d<10000) (hv:v<10000):∀ d∈l.set k v,d<10000:=by
 intro d hd;rcases List.mem_or_eq_of_mem_set hd with h1|h1
 ·exact h d h1
 ·omega
theorem dig_of {l:List Nat}(h:∀ d∈l,d<10000):Dig l:=fun i=>by
 rcases jd i l.length with hi|hi
 ·have:l.getD i 0=l[i]:=by simp [List.getD,hi]
  rw[this];exact h _ (Yv hi)
 ·rw[cdq hi];omega
abbrev Jl (x y z:Value) (ds es l:List Nat) (i c j:Nat):List Value:=[x,y,z,ii (i:Int),ii (c:Int),ii (j:Int),ii ((i+j:Nat):Int),Jj z (i+j),ii ((l.getD (i+j) 0:Nat):Int),Jj x i,ii ((ds.getD i 0:Nat):Int),ii ((es.getD j 0:Nat):Int),ii ((ds.getD i 0*es.getD j 0:Nat):Int),ii ((l.getD (i+j) 0+ds.getD i 0*es.getD j 0:Nat):Int),ii ((l.getD (i+j) 0+ds.getD i 0*es.getD j 0+c:Nat):Int),ii (((l.getD (i+j) 0+ds.getD i 0*es.getD j 0+c)%10000:Nat):Int),ii (((l.getD (i+j) 0+ds.getD i 0*es.getD j 0+c)/10000:Nat):Int),ii ((j+1:Nat):Int),ii (es.length:Int)]
theorem coE {x y z:Value}(hx:x.oneCell'=true) (hy:y.oneCell'=true) (hz:z.oneCell'=true) (ds es l:List Nat) (i c j:Nat):∀ v∈Jl x y z ds es l i c j,v.oneCell'=true :=
 cf hx (cf hy (cf hz (cf rfl (cf rfl (cf rfl (cf rfl (cf (GJ _ _) (cf rfl (cf (GJ _ _) (cf rfl (cf rfl (cf rfl (cf rfl (cf rfl (cf rfl (cf rfl (cf rfl (cf rfl jI))))))))))))))))))
def t_prodG (b1 b2:Bool):List Ent:=[⟨.blt .len [38] 3,[op 1],.val (op 18)⟩,⟨.bin .lss 3,[op 5,op 18],.val (vp (.bool b1))⟩,⟨.bin .gtr 3,[op 4,vp (ii 0)],.val (vp (.bool b2))⟩]
theorem prod_G {x y z:Value}{ds es l:List Nat}{w:World}(hy:Dg w y es) {i c j:Nat}{b1 b2:Bool}(h1:decide (j<es.length)=b1) (h2:decide (0<c)=b2):∀ t∈t_prodG b1 b2,t.Valid (CV 60 (Jl x y z ds es l i c j) w) :=
 ce (yY jU (pdW rfl hy) (rvW rfl)) (ce (CH (pvW rfl) (pvW rfl) (by rw[← h1];simp)) (ce (Ef (pvW rfl) pvl (by rw[← h2];simp)) cj))
def t_prod:List Ent:=[⟨.bin .add 3,[op 3,op 5],.val (op 6)⟩,⟨.ix 38,[op 2,op 6],.val (op 7)⟩,⟨.ld 3,[op 7],.val (op 8)⟩,⟨.ix 38,[op 0,op 3],.val (op 9)⟩,⟨.ld 3,[op 9],.val (op 10)⟩,⟨.call 150,[op 1,op 5],.val (op 11)⟩,⟨.bin .mul 3,[op 10,op 11],.val (op 12)⟩,⟨.bin .add 3,[op 8,op 12],.val (op 13)⟩,⟨.bin .add 3,[op 13,op 4],.val (op 14)⟩,
 ⟨.bin .rem 3,[op 14,vp (ii 10000)],.val (op 15)⟩,⟨.bin .quo 3,[op 14,vp (ii 10000)],.val (op 16)⟩,⟨.bin .add 3,[op 5,vp (ii 1)],.val (op 17)⟩]
theorem ZK {a b c d:Nat}(ha:a<10000) (hb:b<10000) (hc:c<10000) (hd:d<10000):a+b*c+d<100000000:=by
 have:b*c<=9999*9999:=Cw (by omega) (by omega);omega
theorem prod_T {x y z:Value}{ds es l:List Nat}{w:World}(hx:Dg w x ds) (hy:Dg w y es) (hz:Dg w z l) (hds:Dig ds) (hes:Dig es) (hl:Dig l) {i c j:Nat}(hc:c<10000) (hi:i<ds.length) (hij:i+j<l.length) (hll:l.length<1000000000):∀ t∈t_prod,t.Valid (CV 60 (Jl x y z ds es l i c j) w) :=
 have hs:=ZK (hl (i+j)) (hds i) (hes j) hc;have h0:ds.getD i 0*es.getD j 0<100000000:=by omega
 ce (zR (by omega) (pvW rfl) (pvW rfl) (rvW rfl) (by omega)) (ce (cdZ jU Cb (pvW rfl) hz (pvW rfl) hij (rvW rfl)) (ce (chA (pvW rfl) hz hij (rvW rfl)) (ce (cdZ jU Cb (pvW rfl) hx (pvW rfl) hi (rvW rfl)) (ce (chA (pvW rfl) hx hi (rvW rfl)) (ce (WK (i:=j) (pdW rfl hy) (pvW rfl) (rvW rfl))
  (ce (e_mul (by rw[uv]) (pvW rfl) (pvW rfl) (rvW rfl) (by omega)) (ce (zR (by omega) (pvW rfl) (pvW rfl) (rvW rfl) (by omega)) (ce (zR (by omega) (pvW rfl) (pvW rfl) (rvW rfl) (by omega))
   (ce (ckd (k:=.i64) (n:=10000) (pvW rfl) pvl (rvW rfl) (by decide)) (ce (cfa (k:=.i64) (n:=10000) (pvW rfl) pvl (rvW rfl) (by decide) (by rw[zH];omega)) (ce (zR (by omega) (pvW rfl) pvl (rvW rfl) (by omega)) cj)))))))))))
def t_prodE:List Ent:=[⟨.bin .quo 3,[op 14,vp (ii 10000)],.val (op 16)⟩,⟨.bin .add 3,[op 5,vp (ii 1)],.val (op 17)⟩]
theorem prod_E {x y z:Value}{ds es l:List Nat}{w:World}(hds:Dig ds) (hes:Dig es) (hl:Dig l) {i c j:Nat}(hc:c<10000) (hj:j<1000000000):∀ t∈t_prodE,t.Valid (CV 60 (Jl x y z ds es l i c j) w) :=
 have hs:=ZK (hl (i+j)) (hds i) (hes j) hc
 ce (cfa (k:=.i64) (n:=10000) (pvW rfl) pvl (rvW rfl) (by decide) (by rw[zH];omega)) (ce (zR (by omega) (pvW rfl) pvl (rvW rfl) (by omega)) cj)
noncomputable def b_prod:Code:=EB Tryz.f134
noncomputable def lo_prod:Code:=kq (kq (cE (jQ (cE (cE b_prod)))))
noncomputable def li_prod:Code:=kq (kq (cE (cE (kq (jQ (cE lo_prod))))))
abbrev UU (x y z:Value) (ds:List Nat) (i:Nat):List Value:=[x,y,z,ii (i:Int),ii (ds.length:Int),ii ((i+1:Nat):Int)]
theorem cjD (x y z:Value) (ds es l0:List Nat) (i B:Nat) (hi:i<ds.length) (hds:Dig ds) (hes:Dig es) (hl1:ds.length<100000000) (hl2:es.length<100000000) (hl0:l0.length=ds.length+es.length) (hd0:∀ d∈l0,d<10000) (hz0:∀ k,i+es.length<=k->l0.getD k 0=0)
 (a:Act) (w1:World) (hx:Dg w1 x ds) (hy:Dg w1 y es) (hx0:∀ w',Below B w1 w'->Dg w' x ds) (hy0:∀ w',Below B w1 w'->Dg w' y es) (hs:St' 60 (Jl x y z ds es l0 i 0 0) [(0,0),(1,1),(5,2),(6,3),(7,4),(8,5)] a) (hown:Own B w1 z l0) (hB:B<=w1.heap.size) {Q:Exit->Act->World->Prop}
 (hQ:∀ a' w' l,l.length=ds.length+es.length->(∀ d∈l,d<10000)->(∀ k,i+1+es.length<=k->l.getD k 0=0)->nat l0+ds.getD i 0*(10000^i*nat es)=nat l->St' 60 [x,y,z,ii (i:Int)] [(0,0),(1,1),(5,2),(6,3)] a'->Own B w' z l->Below B w1 w'->Q .normal a' w') :
 (Code.block 2 (.loop li_prod)).wp Tryz.prog Q a w1:=by
 have hx9:=hx.one;have hy9:=hy.one;refine uG (Θ:=Nat×Nat) (fun θ a w'=>∃ l,θ.2<10000/\(θ.1<=es.length\/θ.1=es.length+1/\θ.2=0)/\l.length=ds.length+es.length/\(∀ d∈l,d<10000)/\(∀ k,i+θ.1<=k->i+es.length<=k->l.getD k 0=0)/\(∀ k,i+es.length+1<=k->l.getD k 0=0)/\
  nat l0+ds.getD i 0*(10000^i*nat (es.take θ.1))=nat l+θ.2*10000^(i+θ.1)/\St' 60 (Jl x y z ds es l i θ.2 θ.1) [(0,0),(1,1),(5,2),(6,3),(7,4),(8,5)] a/\Own B w' z l/\Below B w1 w') (fun θ=>2*(es.length - θ.1)+min θ.2 1) ?_ (0,0) ⟨l0,by simp,.inl (ju _),hl0,hd0,fun k _ h=>hz0 k h,fun k h=>hz0 k (by omega),by simp [nat],hs,hown,cw _ _⟩
 rintro⟨j,c⟩ a w2 ⟨l,hc,hj,hll,hdl,hz1,hz2,hnat,hs,hown,hb⟩;have hc:c<10000:=hc;have hj:j<=es.length\/j=es.length+1/\c=0:=hj;have hnat:nat l0+ds.getD i 0*(10000^i*nat (es.take j))=nat l+c*10000^(i+j):=hnat;have hz1:∀ k,i+j<=k->i+es.length<=k->l.getD k 0=0:=hz1;have hB2:B<=w2.heap.size:=cA hB hb.size;have one:=coE hx9 hy9 hown.one ds es l i c j;by_cases hend:¬ j<es.length/\¬ 0<c
 ·obtain⟨e1,e2⟩:=hend;refine cB (kd [(0,0),(1,1),(5,2),(6,3),(7,4),(8,5)] [(0,0),(1,1),(5,2),(6,3)] (n:=30) (x:=.exit 2) one (prod_G (hy0 _ hb) (cK e1) (cK e2)) hs (by kernel_rfl) rfl rfl (fun a5 w5 hs hb5=>?_));refine hQ a5 w5 l hll hdl (fun k h=>hz2 k (by omega)) ?_ ⟨hs.defers,hs.size,hs.sl⟩ (hown.below hb5) (hb.trans (hb5.mono hB2));rw[kA (by omega),show c=0 by omega] at hnat;omega
 ·have key:∀ (Q':Exit->Act->World->Prop),(∀ a' w',St' 60 (Jl x y z ds es l i c j) [(0,0),(1,1),(5,2),(6,3),(7,4),(8,5)] a'->Below w2.heap.size w2 w'->Q' .normal a' w')->(jQ li_prod).wp Tryz.prog Q' a w2:=by
   intro Q' hQ;cases h1:decide (j<es.length)<;>cases h2:decide (0<c)
   ·exfalso;exact hend ⟨jn h1,jn h2⟩
   all_goals exact kd [(0,0),(1,1),(5,2),(6,3),(7,4),(8,5)] [(0,0),(1,1),(5,2),(6,3),(7,4),(8,5)] (n:=30) (x:=.normal) one (prod_G (hy0 _ hb) h1 h2) hs (by kernel_rfl) rfl rfl hQ
  have hjl:j<=es.length:=by omega
  have hij:i+j<l.length:=by omega
  have hll9:l.length<1000000000:=by omega
  have hdig:=dig_of hdl;refine cB (key _ (fun a5 w5 hs hb5=>?_));have hown:=hown.below hb5;have hb:=hb.trans (hb5.mono hB2);have hB5:B<=w5.heap.size:=cA hB2 hb5.size;refine cB (CU (cB (kd [(0,0),(1,1),(5,2),(6,3),(7,4),(8,5)] [(0,0),(1,1),(5,2),(6,3),(8,5),(9,14)] (n:=30) (x:=.normal) one (prod_T (hx0 _ hb) (hy0 _ hb) hown.dg hds hes hdig hc hi hij hll9) hs (by kernel_rfl) rfl rfl (fun a6 w6 hs hb6=>?_))));have hown:=hown.below hb6;have hb:=hb.trans (hb6.mono hB5);have hB6:B<=w6.heap.size:=cA hB5 hb6.size;refine cB ?_;show (Code.region 10 (Jz (jQ (cE (kq (jQ (cE li_prod)))))).toArray false).wp Tryz.prog _ _ _;refine cks [(0,0),(1,1),(5,2),(6,3),(8,5),(9,14)] [(0,0),(1,1),(5,2),(6,3),(8,5),(9,14)] 7 (s:=55) (t:=54) (cp:=7) (cv:=15) (z:=z) (ds:=l) (j:=i+j) (d:=(l.getD (i+j) 0+ds.getD i 0*es.getD j 0+c)%10000) one (prod_T (hx0 _ hb) (hy0 _ hb) hown.dg hds hes hdig hc hi hij hll9) hs (by kernel_rfl) rfl rfl rfl rfl rfl rfl rfl rfl hown hB6 hij (fun a7 w7 hown hs hb7 _=>?_);have hb:=hb.trans hb7;have hB7:B<=w7.heap.size:=cA hB6 hb7.size;have hsb:=ZK (hdig (i+j)) (hds i) (hes j) hc;refine kd [(0,0),(1,1),(5,2),(6,3),(8,5),(9,14)] [(0,0),(1,1),(5,2),(6,3),(7,16),(8,5)] (n:=30) (x:=.normal) one (prod_E hds hes hdig hc (by omega)) hs (by kernel_rfl) rfl rfl (fun a8 w8 hs hb8=>?_);have hown:=hown.below hb8;have hb:=hb.trans (hb8.mono hB7);have hB8:B<=w8.heap.size:=cA hB7 hb8.size;show (cE (cE li_prod)).wp Tryz.prog _ _ _;refine kd [(0,0),(1,1),(5,2),(6,3),(7,16),(8,5)] [(0,0),(1,1),(5,2),(6,3),(7,16),(8,17)] (n:=30) (x:=.normal) one (prod_E hds hes hdig hc (by omega)) hs (by kernel_rfl) rfl rfl (fun a9 w9 hs hb9=>?_);have hown:=hown.below hb9;have hb:=hb.trans (hb9.mono hB8);have hlast:j=es.length->(l.getD (i+j) 0+ds.getD i 0*es.getD j 0+c)/10000=0:=by
   rintro rfl;rw[hz1 _ (cb _) (cb _),cdq (cb _)];simp;omega
  refine⟨(j+1,(l.getD (i+j) 0+ds.getD i 0*es.getD j 0+c)/10000),⟨l.set (i+j) ((l.getD (i+j) 0+ds.getD i 0*es.getD j 0+c)%10000),?_,?_,?_,?_,?_,?_,?_,⟨hs.defers,hs.size,hs.sl⟩,hown,hb⟩,?_⟩
  ·show (l.getD (i+j) 0+ds.getD i 0*es.getD j 0+c)/10000<10000;omega
  ·rcases jd j es.length with h|h
   ·exact .inl (by show j+1<=_;omega)
   ·exact .inr ⟨by show j+1=_;omega,hlast (by omega)⟩
  ·rw[Ev];exact hll
  ·exact cbZ hdl (by omega)
  ·intro k h1 h2;have h1:i+(j+1)<=k:=h1;rw[cdU (by omega)];exact hz1 k (by omega) h2
  ·intro k h1;rw[cdU (by omega)];exact hz2 k h1
  ·show nat l0+ds.getD i 0*(10000^i*nat (es.take (j+1)))=nat (l.set (i+j) _)+(l.getD (i+j) 0+ds.getD i 0*es.getD j 0+c)/10000*10000^(i+(j+1));have h1:=clI (v:=(l.getD (i+j) 0+ds.getD i 0*es.getD j 0+c)%10000) hij;have h2:=Nat.mod_add_div (l.getD (i+j) 0+ds.getD i 0*es.getD j 0+c) 10000;rw[cih];generalize (l.getD (i+j) 0+ds.getD i 0*es.getD j 0+c)%10000=v at h1 h2 ⊢;generalize (l.getD (i+j) 0+ds.getD i 0*es.getD j 0+c)/10000=q at h2 ⊢;have e1:ds.getD i 0*(10000^i*(nat (es.take j)+10000^j*es.getD j 0))=ds.getD i 0*(10000^i*nat (es.take j))+10000^(i+j)*(ds.getD i 0*es.getD j 0):=by
    rw[kP];grind
   have e2:q*10000^(i+(j+1))=10000^(i+j)*(10000*q):=by
    rw[show i+(j+1)=i+j+1 by omega,ji];grind
   have e3:10000^(i+j)*v+10000^(i+j)*(10000*q)=10000^(i+j)*l.getD (i+j) 0+10000^(i+j)*(ds.getD i 0*es.getD j 0)+c*10000^(i+j):=by
    rw[← cP,h2,cP,cP,jf c]
   rw[e1,e2];omega
  ·show 2*(es.length-(j+1))+min ((l.getD (i+j) 0+ds.getD i 0*es.getD j 0+c)/10000) 1<2*(es.length-j)+min c 1;rcases jd j es.length with h|h
   ·omega
   ·have:=hlast (by omega);rw[this];omega
abbrev cbX (x y:Value) (ds es:List Nat):List Value:=[x,y,ii (ds.length:Int),ii (es.length:Int),ii ((ds.length+es.length:Nat):Int)]
theorem ceY:∀ n:Nat,nat (List.replicate n 0)=0
 |0=>rfl
 |n+1=>by
  show 0+10000*nat (List.replicate n 0)=0;rw[ceY n]
theorem cjX (x y:Value) (ds es:List Nat) (w:World) (hx:Dg w x ds) (hy:Dg w y es) (hds:Dig ds) (hes:Dig es) (hl1:ds.length<100000000) (hl2:es.length<100000000):Calls Tryz.prog 134 #[x,y] w (fun e w'=>∃ v,e=.returned v/\Dg w' v (digs (nat ds*nat es))/\Below w.heap.size w w'):=by
 refine UK (nt:=60) (f:=134) Tryz.func134 (c:=.seq (jQ b_prod) (.seq (jQ (cE b_prod)) (.seq (.seq (jQ (jQ (cE (cE b_prod)))) (.block 0 (.loop lo_prod))) (cE (cE (cE b_prod)))))) rfl rfl rfl x y (fun a hs=>?_);have one2:∀ v∈[x,y],v.oneCell'=true:=cf hx.one (cf hy.one jI);refine cB (kd (T:=[]) [(0,0),(1,1)] [(0,0),(1,1)] (n:=30) (x:=.normal) one2 cj hs (by kernel_rfl) rfl rfl (fun a1 w1 hs hb1=>?_));refine cB ?_;have one5:∀ v∈cbX x y ds es,v.oneCell'=true:=cf hx.one (cf hy.one (cf rfl (cf rfl (cf rfl jI))));have hT:∀ t∈[(⟨.blt .len [38] 3,[op 0],.val (op 2)⟩:Ent),⟨.blt .len [38] 3,[op 1],.val (op 3)⟩,⟨.bin .add 3,[op 2,op 3],.val (op 4)⟩],t.Valid (CV 60 (cbX x y ds es) w1) :=
  ce (yY jU (pdW rfl (hx.below hb1 (cb _))) (rvW rfl)) (ce (yY jU (pdW rfl (hy.below hb1 (cb _))) (rvW rfl)) (ce (zR (by omega) (pvW rfl) (pvW rfl) (rvW rfl) (by omega)) cj))
 have hs:St' 60 (cbX x y ds es) [(0,0),(1,1)] a1:=⟨hs.defers,hs.size,hs.sl⟩;show (Code.region 1 (Jz (jQ (cE b_prod))).toArray false).wp Tryz.prog _ _ _;refine make_v [(0,0),(1,1)] [(0,0),(1,1)] 5 (s:=14) (d:=15) (t:=5) (B:=w.heap.size) (n:=ds.length+es.length) one5 hT hs 4 (by kernel_rfl) rfl rfl rfl rfl rfl rfl rfl rfl rfl rfl rfl rfl rfl rfl hb1.size (by omega) (fun z a2 w2 hz hown hs hb2=>?_);have hb:=hb1.trans hb2;have hs:St' 60 [x,y,z] [(5,2),(0,0),(1,1)] a2:=⟨hs.defers,hs.size,hz,hs.sl⟩;have one3:∀ v∈[x,y,z],v.oneCell'=true:=cf hx.one (cf hy.one (cf hown.one jI));refine cB (cB (zy (T:=[]) [(5,2),(0,0),(1,1)] [(5,2),(0,0),(1,1)] [(6,ii 0)] (n:=30) (x:=.normal) one3 cj hs (by kernel_rfl) rfl rfl (fun a3 w3 hs hl6 hb3=>?_)));have hown:=hown.below hb3;have hb:=hb.trans (hb3.mono hb.size);have hs:St' 60 (UU x y z ds 0) [(0,0),(1,1),(5,2),(6,3)] a3:=⟨hs.defers,hs.size,hs.sl.2.1,hs.sl.2.2.1,hs.sl.1,hl6.1,trivial⟩;refine uG (Θ:=Nat) (fun i a w1=>∃ l,i<=ds.length/\l.length=ds.length+es.length/\(∀ d∈l,d<10000)/\(∀ k,i+es.length<=k->l.getD k 0=0)/\nat l=nat (ds.take i)*nat es/\St' 60 (UU x y z ds i) [(0,0),(1,1),(5,2),(6,3)] a/\Own w.heap.size w1 z l/\Below w.heap.size w w1) (fun i=>ds.length-i) ?_ 0 ⟨List.replicate (ds.length+es.length) 0,ju _,List.length_replicate,fun d hd=>by have:=cff hd;omega,fun k hk=>by rw[yR,civ];split<;>rfl,by rw[ceY];simp [nat],hs,hown,hb⟩;rintro i a w1 ⟨l,hi,hll,hdl,hz0,hnat,hs,hown,hb⟩;have one:∀ v∈UU x y z ds i,v.oneCell'=true:=cf hx.one (cf hy.one (cf hown.one (cf rfl (cf rfl (cf rfl jI)))));have hT:∀ (b:Bool) w1,Below w.heap.size w w1->decide (i<ds.length)=b->∀ t∈[(⟨.blt .len [38] 3,[op 0],.val (op 4)⟩:Ent),⟨.bin .lss 3,[op 3,op 4],.val (vp (.bool b))⟩,⟨.bin .add 3,[op 3,vp (ii 1)],.val (op 5)⟩],t.Valid (CV 60 (UU x y z ds i) w1):=fun b w1 hb h =>
  ce (yY jU (pdW rfl (hx.below hb (cb _))) (rvW rfl)) (ce (CH (pvW rfl) (pvW rfl) (by rw[← h];simp)) (ce (zR (by omega) (pvW rfl) pvl (rvW rfl) (by omega)) cj))
 by_cases hend:i<ds.length
 ·refine cB (kd [(0,0),(1,1),(5,2),(6,3)] [(0,0),(1,1),(5,2),(6,3)] (n:=30) (x:=.normal) one (hT true w1 hb (cF hend)) hs (by kernel_rfl) rfl rfl (fun a5 w5 hs hb5=>?_));have hown:=hown.below hb5;have hb:=hb.trans (hb5.mono hb.size);refine cB (CU (cB (zy (T:=[]) [(0,0),(1,1),(5,2),(6,3)] [(0,0),(1,1),(5,2),(6,3)] [(7,ii 0)] (n:=30) (x:=.normal) one cj hs (by kernel_rfl) rfl rfl (fun a6 w6 hs hl7 hb6=>?_))));have hown:=hown.below hb6;have hb:=hb.trans (hb6.mono hb.size);have hs:St' 60 [x,y,z,ii (i:Int),ii 0] [(0,0),(1,1),(5,2),(6,3),(7,4)] a6:=⟨hs.defers,hs.size,hs.sl.1,hs.sl.2.1,hs.sl.2.2.1,hs.sl.2.2.2.1,hl7.1,trivial⟩;have one5:∀ v∈[x,y,z,ii (i:Int),ii 0],v.oneCell'=true:=cf hx.one (cf hy.one (cf hown.one (cf rfl (cf rfl jI))));refine cB (zy (T:=[]) [(0,0),(1,1),(5,2),(6,3),(7,4)] [(0,0),(1,1),(5,2),(6,3),(7,4)] [(8,ii 0)] (n:=30) (x:=.normal) one5 cj hs (by kernel_rfl) rfl rfl (fun a7 w7 hs hl8 hb7=>?_));have hown:=hown.below hb7;have hb:=hb.trans (hb7.mono hb.size);have hs:St' 60 (Jl x y z ds es l i 0 0) [(0,0),(1,1),(5,2),(6,3),(7,4),(8,5)] a7:=⟨hs.defers,hs.size,hs.sl.1,hs.sl.2.1,hs.sl.2.2.1,hs.sl.2.2.2.1,hs.sl.2.2.2.2.1,hl8.1,trivial⟩;refine cjD x y z ds es l i w.heap.size hend hds hes hl1 hl2 hll hdl hz0 a7 w7 (hx.below hb (cb _)) (hy.below hb (cb _)) (fun w' h=>hx.below (hb.trans h) (cb _)) (fun w' h=>hy.below (hb.trans h) (cb _)) hs hown hb.size (fun a8 w8 l' hll' hdl' hz' hnat' hs hown hb8=>?_);have hb:=hb.trans hb8;have hs:St' 60 (UU x y z ds i) [(0,0),(1,1),(5,2),(6,3)] a8:=⟨hs.defers,hs.size,hs.sl⟩;show (cE (cE lo_prod)).wp Tryz.prog _ _ _;refine kd [(0,0),(1,1),(5,2),(6,3)] [(0,0),(1,1),(5,2),(6,5)] (n:=30) (x:=.normal) one (hT true w8 hb (cF hend)) hs (by kernel_rfl) rfl rfl (fun a9 w9 hs hb9=>?_)
  refine⟨i+1,⟨l',by omega,hll',hdl',hz',?_,⟨hs.defers,hs.size,hs.sl⟩,hown.below hb9,hb.trans (hb9.mono hb.size)⟩,by show ds.length-(i+1)<ds.length-i;omega⟩;rw[← hnat',hnat,cih];grind
 ·refine cB (kd [(0,0),(1,1),(5,2),(6,3)] [(5,2)] (n:=30) (x:=.exit 0) one (hT false w1 hb (cK hend)) hs (by kernel_rfl) rfl rfl (fun a5 w5 hs hb5=>?_));have hown:=hown.below hb5;have hb:=hb.trans (hb5.mono hb.size);have hs:St' 60 [z] [(5,0)] a5:=⟨hs.defers,hs.size,hs.sl⟩;have hC:(mkC [1,1] [false,false] [] 60 [clW z,clD (uc l)] w5).Ok:=uw (cn (Ga hown.one) (cn (jK noT _) kr)) rfl rfl;have hT:∀ t∈[(⟨.call 122,[op 0],.val (op 1)⟩:Ent)],t.Valid (mkC [1,1] [false,false] [] 60 [clW z,clD (uc l)] w5):=ce (cji (pdW rfl hown.dg) (rd rfl)) cj;refine seg_vd (vl:=[z]) [(5,0)] [] (t:=4) (ds:=uc l) hC hT hs 1 (fun i hi=>?_) rfl (n:=30) (x:=.ret) (by kernel_rfl) rfl rfl (fun a6 w6 v h4 hv hs hb6=>ceL rfl hs.defers h4 ⟨v,rfl,?_,hb.trans (hb6.mono hb.size)⟩)
  ·have hi:i<1:=hi;obtain rfl:i=0:=by omega
   rfl
  ·rw[kA (by omega)] at hnat;rw[← hnat,GP hdl];exact hv
end Sym
namespace Sym
section
variable {csz:List Nat}{numc:List Bool}{nt:Nat}{vl:List Value}{cl:List Cl}{w0 w:World}{a:Act}{T:List Ent}{Q:Exit->Act->World->Prop}
theorem WG (hcl:∀ i,i<vl.length->cl[i]?=some (clW (vl.getD i undef))) {rest:List Item}:∀ {is:List (Nat×Nat)}{bs:List Nat},Sl a vl is->zw is vl.length=true->(∀ bs,ku (mkC csz numc [] nt cl w0) a w rest bs)->ku (mkC csz numc [] nt cl w0) a w (jN is++rest) bs
 |[],bs,_,_,hr=>hr bs
 |p::l,bs,h,hi,hr=>by
  unfold zw at hi;split at hi
  ·rename_i hp;exact⟨⟨_,h.1,(yX (hcl _ (by simpa using hp))).2 rfl⟩,WG hcl h.2 hi hr⟩
  ·cases hi
theorem cfs (hcl:∀ i,i<vl.length->cl[i]?=some (clW (vl.getD i undef))) {rest:List Item}:∀ {is:List (Nat×Nat)}{bs:List Nat},zw is vl.length=true->ku (mkC csz numc [] nt cl w0) a w (jN is++rest) bs->Sl a vl is/\ku (mkC csz numc [] nt cl w0) a w rest bs
 |[],bs,_,h=>⟨trivial,h⟩
 |p::l,bs,hi,h=>by
  unfold zw at hi;split at hi
  ·rename_i hp;obtain⟨⟨v,h1,h2⟩,h3⟩:=h;rw[(yX (hcl _ (by simpa using hp))).1 h2] at h1;obtain⟨q1,q2⟩:=cfs hcl hi h3;exact⟨⟨h1,q1⟩,q2⟩
  ·cases hi
noncomputable def CX (nt:Nat) (vl:List Value) (ys:List Cl) (w:World):Ctx:=mkC (vl.map (fun _=>1)++ys.map (·.n)) (vl.map (fun _=>false)++ys.map (·.num)) [] nt (vl.map clW++ys) w
theorem CX_L {ys:List Cl}(hL:ys.flatMap (·.L)=[]):(vl.map clW++ys).flatMap (·.L)=[]:=by rw[List.flatMap_append,hL,L_nil];rfl
theorem CX_ok {ys:List Cl}(h:∀ v∈vl,v.oneCell'=true) (hy:∀ y∈ys,y.Ok [] w.heap.size) (hL:ys.flatMap (·.L)=[]:=by rfl):(CX nt vl ys w).Ok:=by
 refine uw (fun x hx=>?_) (by rw[List.map_append,List.map_map];rfl) (by rw[List.map_append,List.map_map];rfl) (.inl (CX_L hL));rcases List.mem_append.1 hx with hx|hx
 ·obtain⟨v,hv,rfl⟩:=List.mem_map.1 hx;exact Ga (h v hv)
 ·exact hy x hx
theorem ZI {ys:List Cl}:∀ i,i<vl.length->(vl.map clW++ys)[i]?=some (clW (vl.getD i undef)):=fun i hi=>by
 rw[KQ (by simpa using hi)];exact ckj hi
theorem seg_x (ys:List Cl) (pre post:List (Nat×Nat)) {n:Nat}{c:Code}{x:Xt}(h1:∀ v∈vl,v.oneCell'=true) (hy:∀ y∈ys,y.Ok [] w.heap.size) (hT:∀ t∈T,t.Valid (CX nt vl ys w)) (hs:St' nt vl pre a)
 (h:cdG (CX nt vl ys w).toStat T n c (jN pre++[]) x (jN post++[])=true) (hi:zw pre vl.length=true) (hi':zw post vl.length=true)
 (hQ:∀ a' w',St' nt vl post a'->Below w.heap.size w w'->Q x.to a' w') (hL:ys.flatMap (·.L)=[]:=by rfl):c.wp Tryz.prog Q a w:=by
 refine kf (CX_ok h1 hy hL) hT h ⟨cw _ _,hs.defers,hs.size,WG ZI hs.sl hi (fun _=>trivial),fun k hk=>noL (CX_L hL) hk⟩ (fun a' w' hA=>?_);exact hQ a' w' ⟨hA.defers,hA.size,(cfs ZI hi' hA.items).1⟩ hA.below
theorem cjE (ys:List Cl) (pre post:List (Nat×Nat)) (t d:Nat) {ds:List Nat}{n:Nat}{c:Code}{x:Xt}(h1:∀ v∈vl,v.oneCell'=true) (hy:∀ y∈ys,y.Ok [] w.heap.size) (hT:∀ t∈T,t.Valid (CX nt vl ys w)) (hs:St' nt vl pre a) (hd:(vl.map clW++ys)[d]?=some (clD ds))
 (h:cdG (CX nt vl ys w).toStat T n c (jN pre++[]) x (jN post++[.val t (op d)])=true) (hi:zw pre vl.length=true) (hi':zw post vl.length=true)
 (hQ:∀ a' w' v,a'.tmps[t]?=some v->Dg w' v ds->St' nt vl post a'->Below w.heap.size w w'->Q x.to a' w') (hL:ys.flatMap (·.L)=[]:=by rfl):c.wp Tryz.prog Q a w:=by
 refine kf (CX_ok h1 hy hL) hT h ⟨cw _ _,hs.defers,hs.size,WG ZI hs.sl hi (fun _=>trivial),fun k hk=>noL (CX_L hL) hk⟩ (fun a' w' hA=>?_);obtain⟨q1,⟨⟨v,q2,q3⟩,_⟩⟩:=cfs ZI hi' hA.items;exact hQ a' w' v q2 ((Gi hd).1 q3) ⟨hA.defers,hA.size,q1⟩ hA.below
theorem wp_cat {ops:Array Oper}{rest:List Oper}{o:Oper}{B s x:Nat}{z v:Value}{l rs:List Nat}(hgd:o.guard=none) (ho:o.op=.call { callee:=.builtin .append,args:=#[.tmp s,.tmp x],argTypes:=#[38,38] })
 (hs:a.tmps[s]?=some z) (hx:a.tmps[x]?=some v) (hv:Dg w v rs) (hown:Own B w z l) (hB:B<=w.heap.size) (hl:l.length+rs.length<1000000000)
 (h:∀ z' w',Own B w' z' (l++rs)->w.grownBy w' z.ownBlock->wpList Tryz.prog ops Q rest (a.put o.dst z') w'):wpList Tryz.prog ops Q (o::rest) a w:=by
 have hs':a.eval (.tmp s)=z:=by simp [Act.eval,uX,hs]
 obtain⟨i,hi,hz,q1,q2⟩:=ccb;obtain⟨ao,cap,rfl,h1,h2,h3⟩:=hv;have hx':a.eval (.tmp x)=.slice ao rs.length cap:=by simp [Act.eval,uX,hx]
 cases ao with
 |none =>
  have hr0:rs=[]:=by
   cases rs with
   |nil=>rfl
   |cons r rs =>
    obtain⟨b,off,h4,_⟩:=h3 (by simp);cases h4
  subst hr0;refine YE hgd fun K hK=>?_;have hr:(Builtin.append_ #[38,38] o.type #[z,.slice none 0 cap]).run Tryz.prog w=.ok z w:=by
   have hu:Tryz.prog.underlying 38=some (.slice 3):=by kernel_rfl
   rcases hown.2 with⟨rfl,_⟩|⟨g,cap',cur,rfl,_,_,hnc,_⟩
   ·simp [Builtin.append_,ud hu,sizeOf,typeInfo,hi,Builtin.lenOf,Builtin.firstCells]
   ·simp [Builtin.append_,ud hu,sizeOf,typeInfo,hi,Builtin.lenOf,Builtin.firstCells,hnc,storeCells]
  unfold Oper.wp execOp;simp only[ho,resolve,invoke,builtin,jc,zk,jC,List.map_toArray,jR,kW,hs',hx',Ys,hr];exact hK _ _ (h z w (by rw[ug];exact hown) ⟨rfl,rfl,rfl,cb _,fun _ _ _=>rfl⟩)
 |some ad =>
  refine cjc w hgd (.tmp s) (.tmp x) 38 ho B 3 i (ii 0) 1 8 (by kernel_rfl) hi hz q1 q2 rfl (by decide) z l.length _ hs' hown ad rs.length cap (rs.map (fun d:Nat=>ii (d:Int))) hx' (by simp) ?_ ?_ (by simp only[maxLen];omega) (by omega) hB ?_
  ·intro j u hj;have hjl:j<rs.length:=by
    rcases jd j rs.length with h|h
    ·exact h
    ·rw[yA (by simpa using h)] at hj;cases hj
   obtain⟨b,off,h4,_,h5⟩:=h3 (by omega);have h4:ad=⟨b,off,none⟩:=Gs h4;subst h4;have:=h5 j hjl;rw[JF,kb hjl] at hj;have hu:u=ii ((rs.getD j 0:Nat):Int):=by
    have:rs.getD j 0=rs[j]:=by simp [List.getD,hjl]
    rw[this];simpa using hj.symm
   rw[hu,jL];exact this
  ·intro u hu;obtain⟨d,_,rfl⟩:=List.mem_map.1 hu;rfl
  ·intro z' w' g1 g2 _;refine h z' w' ?_ g2;have:Own B w' z' (l++rs)=w'.ownsRow B 3 1 z' (l.length+rs.length) ((l.map (fun d:Nat=>ii (d:Int)))++rs.map (fun d:Nat=>ii (d:Int))):=by simp [Own]
   rw[this];exact g1
end
end Sym
namespace Sym
theorem cW (n:Nat):nat (digs n)=n:=by
 induction n using Nat.strongRecOn with
 |_ n ih =>
  by_cases h0:n=0
  ·subst h0;rw[digs_zero];rfl
  ·rw[digs_pos h0];show n%10000+10000*nat (digs (n/10000))=n;rw[ih _ (by omega)];omega
theorem Gv (n:Nat):∀ d∈digs n,d<10000:=by
 induction n using Nat.strongRecOn with
 |_ n ih =>
  by_cases h0:n=0
  ·subst h0;rw[digs_zero];simp
  ·rw[digs_pos h0];intro d hd;rcases List.mem_cons.1 hd with rfl|hd
   ·omega
   ·exact ih _ (by omega) d hd
theorem GI {a b:Nat}(h:a<=b):(digs a).length<=(digs b).length:=by
 induction b using Nat.strongRecOn generalizing a with
 |_ b ih =>
  by_cases h0:a=0
  ·subst h0;rw[digs_zero];simp
  ·rw[digs_pos h0,digs_pos (n:=b) (by omega)];have:=ih (b/10000) (by omega) (a:=a/10000) (Nat.div_le_div_right h);simp only[uP];omega
theorem jS (n:Nat):Dig (digs n):=dig_of (Gv n)
section
variable {csz:List Nat}{numc:List Bool}{okT:List Nat}{nt:Nat}{cl:List Cl}{w0:World}{p1 p2:Pat}{res:jH}{ds es:List Nat}{n:Nat}
theorem cbN (hn:n<18446744073709551616) (h1:PV csz numc okT nt cl w0 p1 (ui n)) (h3:RD csz numc okT nt cl w0 res (digs n)):V csz numc okT nt cl w0 (.call 99) [p1] res:=by
 refine⟨cY Tryz.func99 (by kernel_rfl) rfl,fun w vs hb hvs=>?_⟩;obtain⟨v1,_,rfl,h4,rfl⟩:=hvs;obtain rfl:=h1 _ _ h4;refine(cog n hn w).mono ?_;rintro e w' ⟨v,rfl,hv,hb'⟩;exact⟨_,rfl,h3 w' v hv,hb'⟩
theorem JY (h1:PD csz numc okT nt cl w0 p1 ds) (h2:PD csz numc okT nt cl w0 p2 es) (hds:Dig ds) (hes:Dig es) (hl1:ds.length<100000000) (hl2:es.length<100000000) (h3:RD csz numc okT nt cl w0 res (digs (nat ds*nat es))):V csz numc okT nt cl w0 (.call 134) [p1,p2] res:=by
 refine⟨cY Tryz.func134 (by kernel_rfl) rfl,fun w vs hb hvs=>?_⟩;obtain⟨v1,_,rfl,h4,v2,_,rfl,h5,rfl⟩:=hvs;refine(cjX v1 v2 ds es w (h1 _ _ hb h4) (h2 _ _ hb h5) hds hes hl1 hl2).mono ?_;rintro e w' ⟨v,rfl,hv,hb'⟩;exact⟨_,rfl,h3 w' v hv,hb'⟩
theorem cgd (h1:PD csz numc okT nt cl w0 p1 ds) (h2:PD csz numc okT nt cl w0 p2 es) (hds:Dig ds) (hes:Dig es) (h3:RV csz numc okT nt cl w0 res (ii (Wb (nat ds) (nat es)))):V csz numc okT nt cl w0 (.call 126) [p1,p2] res:=by
 refine⟨cY Tryz.func126 (by kernel_rfl) rfl,fun w vs hb hvs=>?_⟩;obtain⟨v1,_,rfl,h4,v2,_,rfl,h5,rfl⟩:=hvs;refine(cnJ v1 v2 ds es w (h1 _ _ hb h4) (h2 _ _ hb h5) hds hes).mono ?_;rintro e w' ⟨rfl,hb'⟩;exact⟨_,rfl,h3 w',hb'⟩
theorem ciK (h1:PD csz numc okT nt cl w0 p1 ds) (h2:PD csz numc okT nt cl w0 p2 es) (hds:Dig ds) (hes:Dig es) (hl1:ds.length<100000000) (hl2:es.length<=ds.length) (hle:nat es<=nat ds) (h3:RD csz numc okT nt cl w0 res (digs (nat ds-nat es))):V csz numc okT nt cl w0 (.call 136) [p1,p2] res:=by
 refine⟨cY Tryz.func136 (by kernel_rfl) rfl,fun w vs hb hvs=>?_⟩;obtain⟨v1,_,rfl,h4,v2,_,rfl,h5,rfl⟩:=hvs;refine(rest_ok v1 v2 ds es w (h1 _ _ hb h4) (h2 _ _ hb h5) hds hes hl1 hl2 hle).mono ?_;rintro e w' ⟨v,rfl,hv,_,hb'⟩;exact⟨_,rfl,h3 w' v hv,hb'⟩
end
noncomputable def b_div:Code:=EB Tryz.f124
noncomputable def lo_div:Code:=kq (kq (cE (jQ (cE (cE (cE b_div))))))
noncomputable def li_div:Code:=kq (kq (jQ (cE (cE (kq (jQ (cE lo_div)))))))
abbrev ceT (x y q r:Value) (i:Int) (Y R low high:Nat):List Value:=[x,y,q,r,ii i,ii (low:Int),ii (high:Int),ii ((high-low:Nat):Int),ii ((low+high:Nat):Int),ii (((low+high)/2:Nat):Int),ui ((low+high)/2),ii (Wb (Y*((low+high)/2)) R)]
def t_di (b2:Bool):List Ent:=[⟨.bin .sub 3,[op 6,op 5],.val (op 7)⟩,⟨.bin .gtr 3,[op 7,vp (ii 1)],.val (vp (.bool true))⟩,⟨.bin .add 3,[op 5,op 6],.val (op 8)⟩,⟨.bin .quo 3,[op 8,vp (ii 2)],.val (op 9)⟩,⟨.cv 3 31,[op 9],.val (op 10)⟩,⟨.call 99,[op 10],.val (op 12)⟩,⟨.call 134,[op 1,op 12],.val (op 13)⟩,⟨.call 126,[op 13,op 3],.val (op 11)⟩,⟨.bin .leq 3,[op 11,vp (ii 0)],.val (vp (.bool b2))⟩]
def t_di0:List Ent:=[⟨.bin .sub 3,[op 6,op 5],.val (op 7)⟩,⟨.bin .gtr 3,[op 7,vp (ii 1)],.val (vp (.bool false))⟩]
theorem cmpN_le {a b:Nat}:Wb a b<=0↔a<=b:=by unfold Wb;split<;>(try split)<;>omega
theorem cnz (x y q r:Value) (i:Int) (es rl:List Nat) (hes:Dig es) (hrl:Dig rl) (hl1:es.length<100000000) (hx1:x.oneCell'=true) (hq1:q.oneCell'=true) (a:Act) (w1:World) (hy:Dg w1 y es) (hr:Dg w1 r rl) (h10:nat rl<10000*nat es)
 (hs:St' 63 (ceT x y q r i (nat es) (nat rl) 0 10000) [(0,0),(1,1),(6,2),(7,3),(8,4),(9,5),(10,6)] a) {Q:Exit->Act->World->Prop}
 (hQ:∀ a' w',St' 63 [x,y,q,r,ii i,ii ((nat rl/nat es:Nat):Int)] [(0,0),(1,1),(6,2),(7,3),(8,4),(9,5)] a'->Below w1.heap.size w1 w'->Q .normal a' w'):(Code.block 2 (.loop li_div)).wp Tryz.prog Q a w1:=by
 refine uG (Θ:=Nat×Nat) (fun θ a w'=>θ.2<=10000/\θ.1<θ.2/\nat es*θ.1<=nat rl/\nat rl<nat es*θ.2/\St' 63 (ceT x y q r i (nat es) (nat rl) θ.1 θ.2) [(0,0),(1,1),(6,2),(7,3),(8,4),(9,5),(10,6)] a/\Below w1.heap.size w1 w') (fun θ=>θ.2 - θ.1) ?_ (0,10000) ⟨cb _,by decide,by simp,by show nat rl<nat es*10000;omega,hs,cw _ _⟩;rintro⟨low,high⟩ a w2 ⟨hh,hlh,h1,h2,hs,hb⟩;have hh:high<=10000:=hh;have hlh:low<high:=hlh;have h1:nat es*low<=nat rl:=h1;have h2:nat rl<nat es*high:=h2;have one:∀ v∈ceT x y q r i (nat es) (nat rl) low high,v.oneCell'=true:=cf hx1 (cf hy.one (cf hq1 (cf hr.one (cf rfl (cf rfl (cf rfl (cf rfl (cf rfl (cf rfl (cf rfl (cf rfl jI)))))))))));by_cases hgo:1<high-low
 ·have hm9:(low+high)/2<10000:=by omega
  have hT:∀ b2,decide (nat es*((low+high)/2)<=nat rl)=b2->∀ t∈t_di b2,t.Valid (CX 63 (ceT x y q r i (nat es) (nat rl) low high) [clD (digs ((low+high)/2)),clD (digs (nat es*((low+high)/2)))] w2):=fun b2 hb2 =>
   ce (JO (by omega) (pvW rfl) (pvW rfl) (rvW rfl) (by omega)) (ce (Ef (pvW rfl) pvl (cF (by omega))) (ce (zR (by omega) (pvW rfl) (pvW rfl) (rvW rfl) (by omega)) (ce (cfa (k:=.i64) (n:=2) (pvW rfl) pvl (rvW rfl) (by decide) (by rw[zH];omega))
    (ce (e_cv (by kernel_rfl) (by kernel_rfl) (by kernel_rfl) (pvW rfl) (rvW rfl) (by rw[zA];omega)) (ce (cbN (by omega) (pvW rfl) (rd rfl)) (ce (JY (es:=digs ((low+high)/2)) (pdW rfl (hy.below hb (cb _))) (pd rfl) hes (jS _) hl1 (by have:=digs_len 1 ((low+high)/2) (by omega);omega) (rd (by rw[cW];rfl)))
     (ce (cgd (ds:=digs (nat es*((low+high)/2))) (pd rfl) (pdW rfl (hr.below hb (cb _))) (jS _) hrl (by rw[cW];exact rvW rfl)) (ce (e_leq (pvW rfl) pvl (by rw[← hb2];congr 1;exact propext cmpN_le)) cj))))))))
  by_cases hc:nat es*((low+high)/2)<=nat rl
  ·refine seg_x [clD (digs ((low+high)/2)),clD (digs (nat es*((low+high)/2)))] [(0,0),(1,1),(6,2),(7,3),(8,4),(9,5),(10,6)] [(0,0),(1,1),(6,2),(7,3),(8,4),(9,9),(10,6)] (n:=30) (x:=.normal) one (cn (jK noT _) (cn (jK noT _) kr)) (hT true (cF hc)) hs (by kernel_rfl) rfl rfl (fun a5 w5 hs hb5=>?_);exact⟨((low+high)/2,high),⟨hh,by show (low+high)/2<high;omega,hc,h2,⟨hs.defers,hs.size,hs.sl⟩,hb.trans (hb5.mono hb.size)⟩,by show high-(low+high)/2<high-low;omega⟩
  ·refine seg_x [clD (digs ((low+high)/2)),clD (digs (nat es*((low+high)/2)))] [(0,0),(1,1),(6,2),(7,3),(8,4),(9,5),(10,6)] [(0,0),(1,1),(6,2),(7,3),(8,4),(9,5),(10,9)] (n:=30) (x:=.normal) one (cn (jK noT _) (cn (jK noT _) kr)) (hT false (cK hc)) hs (by kernel_rfl) rfl rfl (fun a5 w5 hs hb5=>?_);exact⟨(low,(low+high)/2),⟨by show (low+high)/2<=10000;omega,by show low<(low+high)/2;omega,h1,Nat.lt_of_not_le hc,⟨hs.defers,hs.size,hs.sl⟩,hb.trans (hb5.mono hb.size)⟩,by show (low+high)/2-low<high-low;omega⟩
 ·have hT:∀ t∈t_di0,t.Valid (CV 63 (ceT x y q r i (nat es) (nat rl) low high) w2):=ce (JO (by omega) (pvW rfl) (pvW rfl) (rvW rfl) (by omega)) (ce (Ef (pvW rfl) pvl (cK (by omega))) cj);refine kd [(0,0),(1,1),(6,2),(7,3),(8,4),(9,5),(10,6)] [(0,0),(1,1),(6,2),(7,3),(8,4),(9,5)] (n:=30) (x:=.exit 2) one hT hs (by kernel_rfl) rfl rfl (fun a5 w5 hs hb5=>?_);have hlow:nat rl/nat es=low:=by
   have:high=low+1:=by omega
   subst this;exact Nat.div_eq_of_lt_le (by rw[jf];exact h1) (by rw[jf];exact h2)
  refine hQ a5 w5 ⟨hs.defers,hs.size,?_⟩ (hb.trans (hb5.mono hb.size));rw[hlow];exact hs.sl
theorem ciX {fn:Func}{t s:Nat}{a:Act}{w:World}{v u:Value}(hr:fn.results=#[.tmp t,.tmp s]) (hd:a.defers=[]) (ht:a.tmps[t]?=some v) (hu:a.tmps[s]?=some u) {Q:Ending->World->Prop}(h:Q (.returned (.tuple #[v,u])) w):bodyPost Tryz.prog fn Q .ret a w:=by
 refine⟨hd,.tuple #[v,u],?_,h⟩;rw[yP,hr];have e1:a.tmps.getD t undef=v:=by rw[uX,ht];rfl
 have e2:a.tmps.getD s undef=u:=by rw[uX,hu];rfl
 simp [ZO,e1,e2]
abbrev clS (x y q r:Value) (ds:List Nat) (i:Nat):List Value:=[x,y,q,r,ii (i:Int),Jj x i,ii ((ds.getD i 0:Nat):Int)]
theorem cnO (x y q r:Value) (ds rl:List Nat) (i:Nat) (hi:i<ds.length) (hds:Dig ds) (a:Act) (w1:World) (hx:Dg w1 x ds) (hy1:y.oneCell'=true) (hq1:q.oneCell'=true) (hr:Dg w1 r rl) (hl:rl.length<100000000)
 (hs:St' 63 (clS x y q r ds i) [(0,0),(1,1),(6,2),(7,3),(8,4)] a) {Q:Exit->Act->World->Prop}
 (hQ:∀ a' w' r',Dg w' r' (uc (ds.getD i 0::rl))->(∀ k,r'.ownBlock=some k->w1.heap.size<=k)->St' 63 [x,y,q,r',ii (i:Int)] [(0,0),(1,1),(6,2),(7,3),(8,4)] a'->Below w1.heap.size w1 w'->Q .normal a' w'):(jQ (kq (jQ (cE lo_div)))).wp Tryz.prog Q a w1:=by
 have one:∀ v∈clS x y q r ds i,v.oneCell'=true:=cf hx.one (cf hy1 (cf hq1 (cf hr.one (cf rfl (cf (GJ _ _) (cf rfl jI))))));have hT:∀ t∈[(⟨.ix 38,[op 0,op 4],.val (op 5)⟩:Ent),⟨.ld 3,[op 5],.val (op 6)⟩],t.Valid (CV 63 (clS x y q r ds i) w1):=ce (cdZ jU Cb (pvW rfl) hx (pvW rfl) hi (rvW rfl)) (ce (chA (pvW rfl) hx hi (rvW rfl)) cj);show (Code.region 6 (Jz (jQ (kq (jQ (cE lo_div))))).toArray false).wp Tryz.prog _ _ _;refine YC ?_;show wpList _ _ _ ((Jz (jQ (kq (jQ (cE lo_div))))).take 6++(Jz (jQ (kq (jQ (cE lo_div))))).drop 6) _ _;refine caA (ceK one) hT (post:=jN [(28,3),(0,0),(1,1),(6,2),(8,4)]++[.own 27 3 1 [.cls 6 1]]) (by kernel_rfl) (hs.at rfl) (fun a2 w2 hA=>?_);obtain⟨⟨s28,hsl⟩,⟨k,vs,s27,hk,hkc,hvs⟩,_⟩:=Ee (is:=[(28,3),(0,0),(1,1),(6,2),(8,4)]) rfl hA.items;have hvs:vs=[ii ((ds.getD i 0:Nat):Int)]:=by
  obtain⟨xs,ys,rfl,⟨f,hE,rfl⟩,hy⟩:=hvs;rw[show ys=[] from hy];have hE:f 0=ii ((ds.getD i 0:Nat):Int):=hE;simp [yW,hE]
 subst hvs;have hown:Own w1.heap.size w2 (.slice (some ⟨k,0,none⟩) 1 1) [ds.getD i 0]:=⟨rfl,.inr ⟨k,1,#[ii ((ds.getD i 0:Nat):Int)],rfl,hk.1,hkc,cb _,by decide,rfl,rfl⟩⟩;refine wp_cat rfl rfl s27 s28 (hr.below hA.below (cb _)) hown hA.below.size (by simp;omega) (fun z' w3 hown' hgr=>?_);have hb3:Below w1.heap.size w1 w3:=hA.below.trans ⟨hgr.os,hgr.tape,hgr.output,hgr.size,fun j hj=>hgr.block j (cI hj hA.below.size) (fun e=>by have:=hown.lt j e.symm;have hj:j<w1.heap.size:=hj;omega)⟩;have hsz:29<a2.tmps.size:=by rw[hA.size];show 29<63;decide
 have hs:St' 63 [x,y,q,z',ii (i:Int)] [(29,3),(0,0),(1,1),(6,2),(8,4)] (a2.put (some 29) z'):=⟨(ue _ _ _).trans hA.defers,(uI _ _ _).trans hA.size,CW hsz,Sl.put (vl:=[x,y,q,z',ii (i:Int)]) (is:=[(0,0),(1,1),(6,2),(8,4)]) rfl hsl⟩;have one':∀ v∈[x,y,q,z',ii (i:Int)],v.oneCell'=true:=cf hx.one (cf hy1 (cf hq1 (cf hown'.one (cf rfl jI))));have hT:∀ t∈[(⟨.call 122,[op 3],.val (op 5)⟩:Ent)],t.Valid (CX 63 [x,y,q,z',ii (i:Int)] [clF w1.heap.size (uc (ds.getD i 0::rl))] w3):=ce (cge (pfW rfl hown'.dg (fun k hk=>(hown'.lt k hk).1)) (rf rfl)) cj;refine cgn (CX_ok one' (cn (ccX noT _ _) kr)) hT (pre:=jN [(29,3),(0,0),(1,1),(6,2),(8,4)]++[]) (post:=jN [(0,0),(1,1),(6,2),(8,4)]++[.val 7 (op 5)]) (by kernel_rfl) ⟨cw _ _,hs.defers,hs.size,WG ZI hs.sl rfl (fun _=>trivial),fun k hk=>noL (CX_L rfl) hk⟩ (fun a4 w4 hA=>?_);obtain⟨q1,⟨⟨v,q2,q3⟩,_⟩⟩:=cfs (vl:=[x,y,q,z',ii (i:Int)]) (is:=[(0,0),(1,1),(6,2),(8,4)]) ZI rfl hA.items;exact hQ a4 w4 v ((Ko rfl).1 q3).1 ((Ko rfl).1 q3).2 ⟨hA.defers,hA.size,q1.1,q1.2.1,q1.2.2.1,q2,q1.2.2.2.1,trivial⟩ (hb3.trans (hA.below.mono hb3.size))
theorem ceU (l:List Nat):nat (uc l)=nat l:=by
 induction l with
 |nil=>rfl
 |cons d l ih =>
  rw[cdy];split
  ·rename_i h;rw[h.2] at ih;show 0=d+10000*nat l;rw[← ih,h.1];rfl
  ·show d+10000*nat (uc l)=d+10000*nat l;rw[ih]
abbrev cbR (x y q r:Value) (k:Nat):List Value:=[x,y,q,r,ii (idx k),ii (idx (k-1))]
abbrev ckT (x y q r:Value) (i:Nat) (low:Nat):List Value:=[x,y,q,r,ii (i:Int),ii (low:Int),Jj q i,ui low]
theorem cnv (x y:Value) (ds es:List Nat) (w:World) (hx:Dg w x ds) (hy:Dg w y es) (hds:Dig ds) (hes:Dig es) (hem:∀ d∈es,d<10000) (hl1:ds.length<10000000) (hl2:es.length<10000000) (hpos:0<nat es) :
 Calls Tryz.prog 124 #[x,y] w (fun e w'=>∃ v u,e=.returned (.tuple #[v,u])/\Dg w' v (digs (nat ds/nat es))/\Dg w' u (digs (nat ds%nat es))/\Below w.heap.size w w'):=by
 refine UK (nt:=63) (f:=124) Tryz.func124 (c:=.seq (jQ b_div) (.seq (jQ (cE b_div)) (.seq (jQ (cE (cE b_div))) (.seq (.seq (jQ (jQ (cE (cE (cE b_div))))) (.block 0 (.loop lo_div))) (cE (cE (cE (cE b_div)))))))) rfl rfl rfl x y (fun a hs=>?_);have one2:∀ v∈[x,y],v.oneCell'=true:=cf hx.one (cf hy.one jI);refine cB (kd (T:=[]) [(0,0),(1,1)] [(0,0),(1,1)] (n:=30) (x:=.normal) one2 cj hs (by kernel_rfl) rfl rfl (fun a1 w1 hs hb1=>?_));refine cB ?_;have onel:∀ v∈[x,y,ii (ds.length:Int)],v.oneCell'=true:=cf hx.one (cf hy.one (cf rfl jI));have hT:∀ t∈[(⟨.blt .len [38] 3,[op 0],.val (op 2)⟩:Ent)],t.Valid (CV 63 [x,y,ii (ds.length:Int)] w1):=ce (yY jU (pdW rfl (hx.below hb1 (cb _))) (rvW rfl)) cj;have hs:St' 63 [x,y,ii (ds.length:Int)] [(0,0),(1,1)] a1:=⟨hs.defers,hs.size,hs.sl⟩;show (Code.region 1 (Jz (jQ (cE b_div))).toArray false).wp Tryz.prog _ _ _;refine make_v [(0,0),(1,1)] [(0,0),(1,1)] 2 (s:=13) (d:=14) (t:=6) (B:=w.heap.size) (n:=ds.length) onel hT hs 2 (by kernel_rfl) rfl rfl rfl rfl rfl rfl rfl rfl rfl rfl rfl rfl rfl rfl hb1.size (by omega) (fun q a2 w2 hq hown hs hb2=>?_);have hb:=hb1.trans hb2;have hs:St' 63 [x,y,q] [(6,2),(0,0),(1,1)] a2:=⟨hs.defers,hs.size,hq,hs.sl⟩;refine cB ?_;show (Code.region 2 [_,_].toArray false).wp Tryz.prog _ _ _;refine cbv [(6,2),(0,0),(1,1)] (d:=15) (t:=7) hs rfl rfl rfl rfl rfl rfl rfl rfl rfl rfl (B:=w.heap.size) hb.size (fun r a3 w3 hr hownr hs hb3=>?_);have hown:=hown.below hb3;have hb:=hb.trans (hb3.mono hb.size);have hrd:=hownr.dg;have onei:∀ v∈[x,y,q,r,ii (ds.length:Int),ii (idx ds.length)],v.oneCell'=true:=cf hx.one (cf hy.one (cf hown.one (cf hrd.one (cf rfl (cf rfl jI)))))
 have hs:St' 63 [x,y,q,r,ii (ds.length:Int),ii (idx ds.length)] [(0,0),(1,1),(6,2),(7,3)] a3:=⟨hs.defers,hs.size,hs.sl.2.1,hs.sl.2.2.1,hs.sl.1,hr,trivial⟩;have hT:∀ t∈[(⟨.blt .len [38] 3,[op 0],.val (op 4)⟩:Ent),⟨.bin .sub 3,[op 4,vp (ii 1)],.val (op 5)⟩],t.Valid (CV 63 [x,y,q,r,ii (ds.length:Int),ii (idx ds.length)] w3) :=
  ce (yY jU (pdW rfl (hx.below hb (cb _))) (rvW rfl)) (ce (JO (by cases hk:ds.length with|zero=>rfl|succ m=>show ((m+1:Nat):Int)-1=(m:Int);omega) (pvW rfl) pvl (rvW rfl) (by cases hk:ds.length with|zero=>decide|succ m=>show _<=(m:Int)/\(m:Int)<=_;omega)) cj)
 refine cB (cB (kd [(0,0),(1,1),(6,2),(7,3)] [(0,0),(1,1),(6,2),(7,3),(8,5)] (n:=30) (x:=.normal) onei hT hs (by kernel_rfl) rfl rfl (fun a4 w4 hs hb4=>?_)));have hown:=hown.below hb4;have hrd:=hrd.below hb4 (cb _);have hb:=hb.trans (hb4.mono hb.size);refine uG (Θ:=Nat) (fun k a w1=>∃ r ql,k<=ds.length/\ql.length=ds.length/\(∀ d∈ql,d<10000)/\nat (ql.drop k)=nat (ds.drop k)/nat es/\Dg w1 r (digs (nat (ds.drop k)%nat es))/\St' 63 (cbR x y q r k) [(0,0),(1,1),(6,2),(7,3),(8,4)] a/\Own w.heap.size w1 q ql/\Below w.heap.size w w1) id ?_ ds.length ⟨r,List.replicate ds.length 0,cb _,List.length_replicate,fun d hd=>by have:=cff hd;omega,by rw[uJ (by simp),uJ (cb _)];simp,by rw[uJ (cb _),Nat.zero_mod,digs_zero];exact hrd,⟨hs.defers,hs.size,hs.sl⟩,hown,hb⟩;rintro k a w1 ⟨r,ql,hk,hql,hqd,hnq,hr,hs,hown,hb⟩;have one:∀ v∈cbR x y q r k,v.oneCell'=true:=cf hx.one (cf hy.one (cf hown.one (cf hr.one (cf rfl (cf rfl jI)))));cases k with
 |zero =>
  have hT:∀ t∈[(⟨.bin .geq 3,[op 4,vp (ii 0)],.val (vp (.bool false))⟩:Ent)],t.Valid (CV 63 (cbR x y q r 0) w1):=ce (ceZ (pvW rfl) pvl (cK (by decide))) cj;refine cB (kd [(0,0),(1,1),(6,2),(7,3),(8,4)] [(6,2),(7,3)] (n:=30) (x:=.exit 0) one hT hs (by kernel_rfl) rfl rfl (fun a5 w5 hs hb5=>?_));have hown:=hown.below hb5;have hr:=hr.below hb5 (cb _);have hb:=hb.trans (hb5.mono hb.size);have hs:St' 63 [q,r] [(6,0),(7,1)] a5:=⟨hs.defers,hs.size,hs.sl⟩;have hT:∀ t∈[(⟨.call 122,[op 0],.val (op 2)⟩:Ent)],t.Valid (CX 63 [q,r] [clD (uc ql)] w5):=ce (cji (pdW rfl hown.dg) (rd rfl)) cj;refine cjE [clD (uc ql)] [(6,0),(7,1)] [(5,1)] 4 2 (cf hown.one (cf hr.one jI)) (cn (jK noT _) kr) hT hs rfl (n:=30) (x:=.ret) (by kernel_rfl) rfl rfl (fun a6 w6 v h4 hv hs hb6=>ciX rfl hs.defers h4 hs.sl.1 ⟨v,r,rfl,?_,?_,hb.trans (hb6.mono hb.size)⟩)
  ·have h0:nat ql=nat ds/nat es:=by simpa using hnq
   rw[← h0,GP hqd];exact hv
  ·have:=hr.below hb6 (cb _);simpa using this
 |succ i =>
  have hk:i<ds.length:=hk;have hT:∀ w1,∀ t∈[(⟨.bin .geq 3,[op 4,vp (ii 0)],.val (vp (.bool true))⟩:Ent)],t.Valid (CV 63 (cbR x y q r (i+1)) w1):=fun w1=>ce (ceZ (x:=(i:Int)) (pvW rfl) pvl (cF (by omega))) cj;refine cB (kd [(0,0),(1,1),(6,2),(7,3),(8,4)] [(0,0),(1,1),(6,2),(7,3),(8,4)] (n:=30) (x:=.normal) one (hT w1) hs (by kernel_rfl) rfl rfl (fun a5 w5 hs hb5=>?_));have hown:=hown.below hb5;have hr:=hr.below hb5 (cb _);have hb:=hb.trans (hb5.mono hb.size);have hrlen:(digs (nat (ds.drop (i+1))%nat es)).length<=es.length:=by
   refine digs_len _ _ (KD (ki _ hpos) (JP hem))
  have hs:St' 63 (clS x y q r ds i) [(0,0),(1,1),(6,2),(7,3),(8,4)] a5:=⟨hs.defers,hs.size,hs.sl⟩;refine cB (CU (cB (cnO x y q r ds _ i hk hds a5 w5 (hx.below hb (cb _)) hy.one hown.one hr (by omega) hs (fun a6 w6 r' hr' hfr hs hb6=>?_))));have hfr:∀ k,r'.ownBlock=some k->some k≠q.ownBlock:=fun k hk e=>by
   have h1:=hfr k hk;have h2:=(hown.lt k e.symm).2;omega
  have hown:=hown.below hb6;have hb:=hb.trans (hb6.mono hb.size);have hRl:∀ d∈(ds.getD i 0::digs (nat (ds.drop (i+1))%nat es)),d<10000:=by
   intro d hd;rcases List.mem_cons.1 hd with rfl|hd
   ·exact hds i
   ·exact Gv _ d hd
  have hR:nat (uc (ds.getD i 0::digs (nat (ds.drop (i+1))%nat es)))=ds.getD i 0+10000*(nat (ds.drop (i+1))%nat es):=by
   rw[ceU];show _+10000*nat (digs _)=_;rw[cW]
  rw[← GP hRl,show nat (ds.getD i 0::digs (nat (ds.drop (i+1))%nat es))=ds.getD i 0+10000*(nat (ds.drop (i+1))%nat es) by rw[← ceU];exact hR] at hr';have hmod:=ki (nat (ds.drop (i+1))) hpos;have hdi:=hds i;have hdr:=GS ds i;have hdm:=Nat.mod_add_div (nat (ds.drop (i+1))) (nat es);generalize hRR:ds.getD i 0+10000*(nat (ds.drop (i+1))%nat es)=R at hr';have hRlt:R<10000*nat es:=by omega
  have hq1:nat (ds.drop i)/nat es=R/nat es+10000*(nat (ds.drop (i+1))/nat es):=by
   rw[hdr,← hdm,show ds.getD i 0+10000*(nat (ds.drop (i+1))%nat es+nat es*(nat (ds.drop (i+1))/nat es))=R+nat es*(10000*(nat (ds.drop (i+1))/nat es)) by rw[← hRR];grind];rw[Nat.add_mul_div_left _ _ hpos,hdm]
  have hq2:nat (ds.drop i)%nat es=R%nat es:=by
   rw[hdr,← hdm,show ds.getD i 0+10000*(nat (ds.drop (i+1))%nat es+nat es*(nat (ds.drop (i+1))/nat es))=R+nat es*(10000*(nat (ds.drop (i+1))/nat es)) by rw[← hRR];grind];rw[YY]
  have hRlen:(digs R).length<=es.length+1:=by
   refine digs_len _ _ (cI hRlt ?_);rw[ji,jf];exact ja _ (Cs (JP hem))
  have hlow9:R/nat es<10000:=zM (by rw[jf];exact hRlt);have onec:∀ v∈[x,y,q,r',ii (i:Int)],v.oneCell'=true:=cf hx.one (cf hy.one (cf hown.one (cf hr'.one (cf rfl jI))));refine cB (zy (T:=[]) [(0,0),(1,1),(6,2),(7,3),(8,4)] [(0,0),(1,1),(6,2),(7,3),(8,4)] [(9,ii 0),(10,ii 10000)] (n:=30) (x:=.normal) onec cj hs (by kernel_rfl) rfl rfl (fun a7 w7 hs hll hb7=>?_));have hown:=hown.below hb7;have hr':=hr'.below hb7 (cb _);have hb:=hb.trans (hb7.mono hb.size);have hs:St' 63 (ceT x y q r' (i:Int) (nat es) (nat (digs R)) 0 10000) [(0,0),(1,1),(6,2),(7,3),(8,4),(9,5),(10,6)] a7:=⟨hs.defers,hs.size,hs.sl.1,hs.sl.2.1,hs.sl.2.2.1,hs.sl.2.2.2.1,hs.sl.2.2.2.2.1,hll.1,hll.2.1,trivial⟩;refine cB (cnz x y q r' (i:Int) es (digs R) hes (jS R) (by omega) hx.one hown.one a7 w7 (hy.below hb (cb _)) hr' (by rw[cW];exact hRlt) hs (fun a8 w8 hs hb8=>?_));rw[cW] at hs;have hown:=hown.below hb8;have hr':=hr'.below hb8 (cb _);have hb:=hb.trans (hb8.mono hb.size);generalize hLL:R/nat es=low at hs hlow9 hq1;have onee:∀ v∈ckT x y q r' i low,v.oneCell'=true:=cf hx.one (cf hy.one (cf hown.one (cf hr'.one (cf rfl (cf rfl (cf (GJ _ _) (cf rfl jI)))))));have hs:St' 63 (ckT x y q r' i low) [(0,0),(1,1),(6,2),(7,3),(8,4),(9,5)] a8:=⟨hs.defers,hs.size,hs.sl⟩;have hT:∀ t∈[(⟨.ix 38,[op 2,op 4],.val (op 6)⟩:Ent)],t.Valid (CV 63 (ckT x y q r' i low) w8):=ce (cdZ jU Cb (pvW rfl) hown.dg (pvW rfl) (by omega) (rvW rfl)) cj;refine cB ?_;show (Code.region 13 (Jz (jQ (cE (cE (cE (kq (jQ (cE lo_div)))))))).toArray false).wp Tryz.prog _ _ _;refine cks [(0,0),(1,1),(6,2),(7,3),(8,4),(9,5)] [(0,0),(1,1),(6,2),(7,3),(8,4),(9,5)] 4 (s:=52) (t:=51) (cp:=6) (cv:=5) (z:=q) (ds:=ql) (j:=i) (d:=low) onee hT hs (by kernel_rfl) rfl rfl rfl rfl rfl rfl rfl rfl hown hb.size (by omega) (fun a9 w9 hown hs hb9 hkeep=>?_)
  have hr':=hkeep r' _ hr' hfr;have hb:=hb.trans hb9;have hdm:=kY R (nat es);rw[hLL] at hdm;have hT:∀ t∈[(⟨.cv 3 31,[op 5],.val (op 7)⟩:Ent),⟨.call 99,[op 7],.val (op 8)⟩,⟨.call 134,[op 1,op 8],.val (op 9)⟩,⟨.call 136,[op 3,op 9],.val (op 10)⟩],t.Valid (CX 63 (ckT x y q r' i low) [clD (digs low),clD (digs (nat es*low)),clD (digs (R-nat es*low))] w9) :=
   ce (e_cv (by kernel_rfl) (by kernel_rfl) (by kernel_rfl) (pvW rfl) (rvW rfl) (by rw[zA];omega)) (ce (cbN (by omega) (pvW rfl) (rd rfl)) (ce (JY (es:=digs low) (pdW rfl (hy.below hb (cb _))) (pd rfl) hes (jS _) (by omega) (by have:=digs_len 1 low (by omega);omega) (rd (by rw[cW];rfl)))
    (ce (ciK (ds:=digs R) (es:=digs (nat es*low)) (pdW rfl hr') (pd rfl) (jS _) (jS _) (by omega) (GI (by omega)) (by rw[cW,cW];omega) (rd (by rw[cW,cW];rfl))) cj)))
  refine cjE [clD (digs low),clD (digs (nat es*low)),clD (digs (R-nat es*low))] [(0,0),(1,1),(6,2),(7,3),(8,4),(9,5)] [(0,0),(1,1),(6,2),(8,4)] 7 10 onee (cn (jK noT _) (cn (jK noT _) (cn (jK noT _) kr))) hT hs rfl (n:=30) (x:=.normal) (by kernel_rfl) rfl rfl (fun a10 w10 r2 h7 hr2 hs hb10=>?_);have hown:=hown.below hb10;have hb:=hb.trans (hb10.mono hb.size);show (cE (cE lo_div)).wp Tryz.prog _ _ _;have one2:∀ v∈cbR x y q r2 (i+1),v.oneCell'=true:=cf hx.one (cf hy.one (cf hown.one (cf hr2.one (cf rfl (cf rfl jI)))));have hs:St' 63 (cbR x y q r2 (i+1)) [(0,0),(1,1),(6,2),(7,3),(8,4)] a10:=⟨hs.defers,hs.size,hs.sl.1,hs.sl.2.1,hs.sl.2.2.1,h7,hs.sl.2.2.2.1,trivial⟩;have hT:∀ t∈[(⟨.bin .sub 3,[op 4,vp (ii 1)],.val (op 5)⟩:Ent)],t.Valid (CV 63 (cbR x y q r2 (i+1)) w10):=ce (JO (x:=(i:Int)) (u:=idx i) (by cases i with|zero=>rfl|succ j=>show ((j+1:Nat):Int)-1=(j:Int);omega) (pvW rfl) pvl (rvW rfl) (by cases i with|zero=>decide|succ j=>show _<=(j:Int)/\(j:Int)<=_;omega)) cj;refine kd [(0,0),(1,1),(6,2),(7,3),(8,4)] [(0,0),(1,1),(6,2),(7,3),(8,5)] (n:=30) (x:=.normal) one2 hT hs (by kernel_rfl) rfl rfl (fun a11 w11 hs hb11=>?_);refine⟨i,⟨r2,ql.set i low,by omega,by rw[Ev];exact hql,cbZ hqd hlow9,?_,?_,⟨hs.defers,hs.size,hs.sl⟩,hown.below hb11,hb.trans (hb11.mono hb.size)⟩,Cu i⟩
  ·rw[hq1,← hnq,GS (ql.set i low) i,List.drop_set_of_lt (by omega)];congr 1;simp [List.getD,hql,hk]
  ·rw[hq2,show R%nat es=R-nat es*low by omega];exact hr2.below hb11 (cb _)
end Sym
namespace Sym
section
variable {csz:List Nat}{numc:List Bool}{okT:List Nat}{nt:Nat}{cl:List Cl}{w0:World}{p1 p2:Pat}{c1 c2:Nat}{ds es:List Nat}
theorem cdx (h1:PD csz numc okT nt cl w0 p1 ds) (h2:PD csz numc okT nt cl w0 p2 es) (hds:Dig ds) (hes:Dig es) (hem:∀ d∈es,d<10000) (hl1:ds.length<10000000) (hl2:es.length<10000000) (hpos:0<nat es) (h3:cl[c1]?=some (clD (digs (nat ds/nat es)))) (h4:cl[c2]?=some (clD (digs (nat ds%nat es)))) :
 V csz numc okT nt cl w0 (.call 124) [p1,p2] (.tup [op c1,op c2]):=by
 refine⟨cY Tryz.func124 (by kernel_rfl) rfl,fun w vs hb hvs=>?_⟩;obtain⟨v1,_,rfl,h5,v2,_,rfl,h6,rfl⟩:=hvs;refine(cnv v1 v2 ds es w (h1 _ _ hb h5) (h2 _ _ hb h6) hds hes hem hl1 hl2 hpos).mono ?_;rintro e w' ⟨v,u,rfl,hv,hu,hb'⟩;exact⟨_,rfl,⟨[v,u],⟨_,_,rfl,(Gi h3).2 hv,_,_,rfl,(Gi h4).2 hu,rfl⟩,rfl⟩,hb'⟩
end
noncomputable def b_gcd:Code:=EB Tryz.f123
noncomputable def l_gcd:Code:=kq (kq (jQ (cE b_gcd)))
theorem yO {n:Nat}:0<(digs n).length↔n≠0:=by
 constructor
 ·rintro h rfl;rw[digs_zero] at h;simp at h
 ·intro h;rw[digs_pos h];simp
theorem cmN (x y:Value) (m n:Nat) (w:World) (hx:Dg w x (digs m)) (hy:Dg w y (digs n)) (hl1:(digs m).length<10000000) (hl2:(digs n).length<10000000):Calls Tryz.prog 123 #[x,y] w (fun e w'=>∃ v,e=.returned v/\Dg w' v (digs (Nat.gcd m n))/\Below w.heap.size w w'):=by
 refine UK (nt:=19) (f:=123) Tryz.func123 (c:=.seq (jQ b_gcd) (.seq (.block 0 (.loop l_gcd)) (cE (cE b_gcd)))) rfl rfl rfl x y (fun a hs=>?_);refine cB (kd (T:=[]) [(0,0),(1,1)] [(0,0),(1,1)] (n:=30) (x:=.normal) (cf hx.one (cf hy.one jI)) cj hs (by kernel_rfl) rfl rfl (fun a1 w1 hs hb1=>?_));refine cB (uG (Θ:=Nat×Nat) (fun θ a w1=>∃ x y,Dg w1 x (digs θ.1)/\Dg w1 y (digs θ.2)/\(digs θ.1).length<10000000/\(digs θ.2).length<10000000/\Nat.gcd θ.1 θ.2=Nat.gcd m n/\St' 19 [x,y] [(0,0),(1,1)] a/\Below w.heap.size w w1) (fun θ=>θ.2) ?_ (m,n) ⟨x,y,hx.below hb1 (cb _),hy.below hb1 (cb _),hl1,hl2,rfl,hs,hb1⟩);rintro⟨m',n'⟩ a w2 ⟨x,y,hx,hy,hl1,hl2,hg,hs,hb⟩;have hg:Nat.gcd m' n'=Nat.gcd m n:=hg;have hs:St' 19 [x,y,ii ((digs n').length:Int)] [(0,0),(1,1)] a:=⟨hs.defers,hs.size,hs.sl⟩;have one:∀ v∈[x,y,ii ((digs n').length:Int)],v.oneCell'=true:=cf hx.one (cf hy.one (cf rfl jI));by_cases h0:n'=0
 ·subst h0;have hT:∀ t∈[(⟨.blt .len [38] 3,[op 1],.val (op 2)⟩:Ent),⟨.bin .gtr 3,[op 2,vp (ii 0)],.val (vp (.bool false))⟩],t.Valid (CV 19 [x,y,ii ((digs 0).length:Int)] w2):=ce (yY jU (pdW rfl hy) (rvW rfl)) (ce (Ef (pvW rfl) pvl (cK (by rw[digs_zero];decide))) cj);refine cB (kd [(0,0),(1,1)] [(0,0)] (n:=30) (x:=.exit 0) one hT hs (by kernel_rfl) rfl rfl (fun a5 w5 hs hb5=>?_));refine kd (T:=[]) [(0,0)] [(4,0)] (n:=30) (x:=.ret) one cj hs (by kernel_rfl) rfl rfl (fun a6 w6 hs hb6=>ceL rfl hs.defers hs.sl.1 ⟨x,rfl,?_,(hb.trans (hb5.mono hb.size)).trans (hb6.mono (cA hb.size hb5.size))⟩);rw[← hg,Nat.gcd_zero_right];exact(hx.below hb5 (cb _)).below hb6 (cb _)
 ·have hpos:0<n':=cbI h0;have hlen:=yO.2 h0;have hT:∀ t∈[(⟨.blt .len [38] 3,[op 1],.val (op 2)⟩:Ent),⟨.bin .gtr 3,[op 2,vp (ii 0)],.val (vp (.bool true))⟩,⟨.call 124,[op 0,op 1],.tup [op 3,op 4]⟩],t.Valid (CX 19 [x,y,ii ((digs n').length:Int)] [clD (digs (m'/n')),clD (digs (m'%n'))] w2) :=
   ce (yY jU (pdW rfl hy) (rvW rfl)) (ce (Ef (pvW rfl) pvl (cF (by omega))) (ce (cdx (ds:=digs m') (es:=digs n') (pdW rfl hx) (pdW rfl hy) (jS _) (jS _) (Gv _) hl1 hl2 (by rw[cW];exact hpos) (by rw[cW,cW];rfl) (by rw[cW,cW];rfl)) cj))
  refine cjE [clD (digs (m'/n')),clD (digs (m'%n'))] [(0,0),(1,1)] [(0,1)] 1 4 one (cn (jK noT _) (cn (jK noT _) kr)) hT hs rfl (n:=30) (x:=.normal) (by kernel_rfl) rfl rfl (fun a5 w5 r h1 hr hs hb5=>?_);have hml:=ki m' hpos;refine⟨(n',m'%n'),⟨y,r,hy.below hb5 (cb _),hr,hl2,jP (GI (Cs hml)) hl2,?_,⟨hs.defers,hs.size,hs.sl.1,h1,trivial⟩,hb.trans (hb5.mono hb.size)⟩,hml⟩;rw[← hg];show Nat.gcd n' (m'%n')=Nat.gcd m' n';rw[Ec m' n',Nat.gcd_rec n' m',Ec]
section
variable {csz:List Nat}{numc:List Bool}{okT:List Nat}{nt:Nat}{cl:List Cl}{w0:World}{p1 p2:Pat}{res:jH}{m n:Nat}
theorem cox (h1:PD csz numc okT nt cl w0 p1 (digs m)) (h2:PD csz numc okT nt cl w0 p2 (digs n)) (hl1:(digs m).length<10000000) (hl2:(digs n).length<10000000) (h3:RD csz numc okT nt cl w0 res (digs (Nat.gcd m n))):V csz numc okT nt cl w0 (.call 123) [p1,p2] res:=by
 refine⟨cY Tryz.func123 (by kernel_rfl) rfl,fun w vs hb hvs=>?_⟩;obtain⟨v1,_,rfl,h4,v2,_,rfl,h5,rfl⟩:=hvs;refine(cmN v1 v2 m n w (h1 _ _ hb h4) (h2 _ _ hb h5) hl1 hl2).mono ?_;rintro e w' ⟨v,rfl,hv,hb'⟩;exact⟨_,rfl,h3 w' v hv,hb'⟩
end
end Sym
namespace Sym
def Cf (w:World) (v:Value) (neg:Bool) (m k:Nat):Prop:=∃ a b,v=.agg #[.bool neg,a,b]/\Dg w a (digs m)/\Dg w b (digs k)
theorem yk:∀ t∈[40],t≠3:=fun t h=>by
 have:t=40:=by simpa using h
 subst this;decide
abbrev cl_make (m k:Nat):List Cl:=[clD (digs m),clD (digs k),clD (digs (Nat.gcd m k)),clD (digs (m/Nat.gcd m k)),clD (digs (m%Nat.gcd m k)),clD (digs (k/Nat.gcd m k)),clD (digs (k%Nat.gcd m k)),clV (ii ((digs (m/Nat.gcd m k)).length:Int))]
noncomputable abbrev C_make (m k:Nat) (w:World):Ctx:=mkC [1,1,1,1,1,1,1,1] [false,false,false,false,false,false,false,true] [40] 36 (cl_make m k) w
def t_make (b:Bool):List Ent:=[⟨.call 123,[op 0,op 1],.val (op 2)⟩,⟨.call 124,[op 0,op 2],.tup [op 3,op 4]⟩,⟨.call 124,[op 1,op 2],.tup [op 5,op 6]⟩,⟨.blt .len [38] 3,[op 3],.val (op 7)⟩,⟨.bin .gtr 3,[op 7,vp (ii 0)],.val (vp (.bool b))⟩]
theorem cjZ (neg:Bool) (x y:Value) (m k:Nat) (w:World) (hx:Dg w x (digs m)) (hy:Dg w y (digs k)) (hk:0<k) (hl1:(digs m).length<10000000) (hl2:(digs k).length<10000000):Calls Tryz.prog 89 #[.bool neg,x,y] w (fun e w'=>∃ v,e=.returned v/\Cf w' v (neg&&decide (m≠0)) (m/Nat.gcd m k) (k/Nat.gcd m k)/\Below w.heap.size w w'):=by
 have hC:(C_make m k w).Ok:=uw (cn (jK yk _) (cn (jK yk _) (cn (jK yk _) (cn (jK yk _) (cn (jK yk _) (cn (jK yk _) (cn (jK yk _) (cn (kx _) kr)))))))) rfl rfl;have hg:0<Nat.gcd m k:=Cy m hk;have hgl:(digs (Nat.gcd m k)).length<10000000:=jP (GI (Nat.le_of_dvd hk (yT m k))) hl2;have hm0:(0<(digs (m/Nat.gcd m k)).length)↔m≠0:=by
  rw[yO];constructor
  ·rintro h rfl;rw[Nat.zero_div] at h;exact h rfl
  ·intro h h';have:=Nat.div_eq_zero_iff.1 h';have:=Nat.le_of_dvd (cbI h) (zp m k);omega
 have hT:∀ b,decide (m≠0)=b->∀ t∈t_make b,t.Valid (C_make m k w):=fun b hb =>
  ce (cox (pd rfl) (pd rfl) hl1 hl2 (rd rfl)) (ce (cdx (ds:=digs m) (es:=digs (Nat.gcd m k)) (pd rfl) (pd rfl) (jS _) (jS _) (Gv _) hl1 hgl (by rw[cW];exact hg) (by rw[cW,cW];rfl) (by rw[cW,cW];rfl))
   (ce (cdx (ds:=digs k) (es:=digs (Nat.gcd m k)) (pd rfl) (pd rfl) (jS _) (jS _) (Gv _) hl2 hgl (by rw[cW];exact hg) (by rw[cW,cW];rfl) (by rw[cW,cW];rfl))
    (ce (yY jU (pd rfl) (rv rfl)) (ce (Ef (pv rfl) pvl (by rw[← hb];congr 1;apply propext;rw[← hm0];constructor<;>intro h<;>omega)) cj))))
 have hv:∀ neg,jb (C_make m k w) w [vp (.bool neg),op 0,op 1] [.bool neg,x,y]:=fun neg=>⟨_,_,rfl,Gk.2 rfl,_,_,rfl,(Gi rfl).2 hx,_,_,rfl,(Gi rfl).2 hy,rfl⟩;have fin:∀ b w' v,(Pat.agg [.lit (.bool b),.cls 3 1,.cls 5 1]).is (C_make m k w) w' v->Cf w' v b (m/Nat.gcd m k) (k/Nat.gcd m k):=by
  rintro b w' v ⟨vs,⟨xs,ys,rfl,rfl,xs2,ys2,rfl,⟨f,hE,rfl⟩,xs3,ys3,rfl,⟨g,hE',rfl⟩,h5⟩,rfl⟩;rw[show ys3=[] from h5];exact⟨f 0,g 0,by simp [yW],hE,hE'⟩
 cases neg with
 |false =>
  refine(kM hC (hT _ rfl) 89 Tryz.f89 [vp (.bool false),op 0,op 1] (.val (.agg [.lit (.bool false),.cls 3 1,.cls 5 1])) 60 Tryz.func89 rfl rfl rfl (by kernel_rfl) _ (hv false)).mono ?_;rintro e w' ⟨v,rfl,hx,hb⟩;exact⟨v,rfl,fin _ _ _ hx,hb⟩
 |true =>
  by_cases h0:m=0
  ·refine(kM hC (hT false (cK (by simpa using h0))) 89 Tryz.f89 [vp (.bool true),op 0,op 1] (.val (.agg [.lit (.bool false),.cls 3 1,.cls 5 1])) 60 Tryz.func89 rfl rfl rfl (by kernel_rfl) _ (hv true)).mono ?_;rintro e w' ⟨v,rfl,hx,hb⟩;refine⟨v,rfl,?_,hb⟩;rw[show (true&&decide (m≠0))=false by simp [h0]];exact fin _ _ _ hx
  ·refine(kM hC (hT true (cF h0)) 89 Tryz.f89 [vp (.bool true),op 0,op 1] (.val (.agg [.lit (.bool true),.cls 3 1,.cls 5 1])) 60 Tryz.func89 rfl rfl rfl (by kernel_rfl) _ (hv true)).mono ?_;rintro e w' ⟨v,rfl,hx,hb⟩;refine⟨v,rfl,?_,hb⟩;rw[show (true&&decide (m≠0))=true by simp [h0]];exact fin _ _ _ hx
end Sym
namespace Sym
section
variable {csz:List Nat}{numc:List Bool}{okT:List Nat}{nt:Nat}{cl:List Cl}{w0:World}{p1 p2 p3:Pat}{res:jH}{c1 c2 c3 m k:Nat}{neg s t b:Bool}
abbrev rp (c1 c2 c3:Nat):Pat:=.agg [.cls c1 1,.cls c2 1,.cls c3 1]
theorem clx {w:World}{v:Value}(h1:cl[c1]?=some (clV (.bool neg))) (h2:cl[c2]?=some (clD (digs m))) (h3:cl[c3]?=some (clD (digs k))):(rp c1 c2 c3).is (mkC csz numc okT nt cl w0) w v↔Cf w v neg m k:=by
 constructor
 ·rintro⟨vs,⟨xs,ys,rfl,⟨e,hE0,rfl⟩,xs2,ys2,rfl,⟨f,hE,rfl⟩,xs3,ys3,rfl,⟨g,hE',rfl⟩,h5⟩,rfl⟩;rw[show ys3=[] from h5];simp only[mkC,h1] at hE0;simp only[mkC,h2] at hE;simp only[mkC,h3] at hE';have hE0:e 0=.bool neg:=hE0;exact⟨f 0,g 0,by simp [yW,hE0],hE,hE'⟩
 ·rintro⟨a,b,rfl,ha,hb⟩;refine⟨[.bool neg,a,b],⟨[.bool neg],[a,b],rfl,⟨fun _=>.bool neg,?_,rfl⟩,[a],[b],rfl,⟨fun _=>a,?_,rfl⟩,[b],[],rfl,⟨fun _=>b,?_,rfl⟩,rfl⟩,rfl⟩
  ·simp only[mkC,h1];rfl
  ·simp only[mkC,h2];exact ha
  ·simp only[mkC,h3];exact hb
theorem ciE (h1:PV csz numc okT nt cl w0 p1 (.bool neg)) (h2:PD csz numc okT nt cl w0 p2 (digs m)) (h3:PD csz numc okT nt cl w0 p3 (digs k)) (hk:0<k) (hl1:(digs m).length<10000000) (hl2:(digs k).length<10000000)
 (g1:cl[c1]?=some (clV (.bool (neg&&decide (m≠0))))) (g2:cl[c2]?=some (clD (digs (m/Nat.gcd m k)))) (g3:cl[c3]?=some (clD (digs (k/Nat.gcd m k)))):V csz numc okT nt cl w0 (.call 89) [p1,p2,p3] (.val (rp c1 c2 c3)):=by
 refine⟨cY Tryz.func89 (by kernel_rfl) rfl,fun w vs hb hvs=>?_⟩;obtain⟨v1,_,rfl,h4,v2,_,rfl,h5,v3,_,rfl,h6,rfl⟩:=hvs;obtain rfl:=h1 _ _ h4;refine(cjZ neg v2 v3 m k w (h2 _ _ hb h5) (h3 _ _ hb h6) hk hl1 hl2).mono ?_;rintro e w' ⟨v,rfl,hv,hb'⟩;exact⟨_,rfl,(clx g1 g2 g3).2 hv,hb'⟩
end
theorem cfV {okT:List Nat}{B:Nat}(b:Bool):(clV (.bool b)).Ok okT B:=cam rfl
end Sym
end Go.Proofs.YtdopipkmcnkdjaaGreatDoor
